import PyProof.Rows.All
import Wide.All
import OpenK.AllK
import Wide.FinOn
import HandS.ForMost
import HandS.More
import HandS.OwnEq
import HandS.TupLe
import HandS.Wide
import KE.KOwnIter
import KE.KDictIter
import HandS.IsInst
import HandS.Walk
import HandS.Codes
import PySem.Challenge.RW_viewloom_k09_scopes
set_option Elab.async false
set_option linter.all false
set_option maxRecDepth 100000
set_option maxHeartbeats 4000000
namespace VL
open PySem PySem.Spec PyProof.Rows L2

section
variable {X : Cx} {CX : CXT} {k : Nat} {f : Addr} {fd : FuncData} {ps : List Str} {sp : Sp} {E : XK} {A1 : Around}
/-- a callee runs somewhere below the body -/
theorem run_at {pins : List (Addr × Obj)} {σ : L2.St} {H : Hp} {s : Shared} {Q : VK} {us : List Value} {vs : List V} (F : FnOk X.prog X.w X.K X.mg X.base CX k f fd ps sp) (sb : Sub X k A1) (hb : Binds X.K fd ps []) (hx : Passes CX X E)
    (I : Inv X pins σ H s) (r : Vals vs us) (h : sp vs H Q E) : wpAny (model X.prog X.w) A1 (call (.ref f) us) (EP X pins σ Q) X.xe s := by
  have e0 : Env0 X.prog X.w X.K X.mg X.base A1 X.stack s H := by
    have e := I.env0
    exact ⟨by rw [sb.fr]; exact e.frames, e.mod, e.bs, e.bsz, e.funs, e.frf, e.hok, e.bare⟩
  have hl := F.len _ _ _ _ h
  have hl2 : (us ++ ([] : List Value)).length = ps.length := by rw [List.append_nil, ← r.length]; exact hl
  refine wpAny_call (codeAny_mono (F.run A1 X.stack s H ⟨us, []⟩ us vs Q E sb.room e0 (by
    have q := hb s us I.kIn hl2
    rw [List.append_nil] at q
    exact q) r h) fun r s' hq => ?_)
  cases r with
  | error e => exact hx pins σ H s e s' I hq
  | ok fl =>
    cases fl with
    | ret w => exact I.after hq
    | next => exact False.elim hq
    | brk => exact False.elim hq
    | cont => exact False.elim hq

/-- x in o, o an instance with a __contains__ of the text -/
def rInOwn (C : Addr) (sp : Sp) (E : XK) : R2 := fun x y H Q => ∃ a dx fs, y = .ref a ∧ H a = some (.ins C dx fs) ∧ sp [.ref a, x] H (fun v H' => ∃ c, v = .bl c ∧ Q (.bl c) H') E
theorem op_in_own {C : Addr} (hs : PySem.W.findIn X.K (.ref C) "__contains__" = some (some (.ref f))) (hf : PySem.W.isFn X.K (.ref f) = true) (F : FnOk X.prog X.w X.K X.mg X.base CX k f fd ps sp) (hr : Room k X.A) (hb : Binds X.K fd ps []) (hx : Passes CX X E) :
    OpR X (compareOp .In) (rInOwn C sp E) := by
  intro pins s σ H x y v u Q I rx ry h
  obtain ⟨a, dx, fs, rfl, ha, q⟩ := h
  cases ry
  obtain ⟨mA, J, _⟩ := ins_get I.hok ha
  obtain ⟨od, J, _⟩ := J.look
  obtain ⟨m, hF⟩ := I.fr
  refine PySem.W.in_K hF I.ok.mod.kin J hs hf ?_
  refine wpAny_mono (run_at F ⟨hr, rfl⟩ hb hx I (.cons (show RelV (.ref a) (.ref a) from rfl) (.cons rx .nil)) q) (fun r s' hq => ?_) fun _ _ z => z
  obtain ⟨w', H', I', rw', c, rfl, q'⟩ := hq
  cases rw'
  exact wpAny_truthy_bool ⟨.bl c, H', I', rfl, q'⟩

/-- len(o), o an instance with a __len__ of the text -/
def rLenOwn (C : Addr) (sp : Sp) (E : XK) : List V → Hp → VK → Prop := fun xs H Q => ∃ a dx fs, xs = [.ref a] ∧ H a = some (.ins C dx fs) ∧ sp [.ref a] H (fun v H' => ∃ n : Int, v = .int n ∧ 0 ≤ n ∧ n < 2 ^ 63 ∧ Q (.int n) H') E
theorem call_len_own {C : Addr} (hs : PySem.W.findIn X.K (.ref C) "__len__" = some (some (.ref f))) (hf : PySem.W.isFn X.K (.ref f) = true) (F : FnOk X.prog X.w X.K X.mg X.base CX k f fd ps sp) (hr : Room (k + 1) X.A) (hb : Binds X.K fd ps []) (hx : Passes CX X E) :
    CallR X (.builtin "len") (rLenOwn C sp E) := by
  intro pins s σ H xs us Q I rv h
  obtain ⟨a, dx, fs, rfl, ha, q⟩ := h
  obtain ⟨u, rfl, ru⟩ := rv.one
  cases ru
  obtain ⟨mA, J, _⟩ := ins_get I.hok ha
  obtain ⟨od, J, _⟩ := J.look
  have sb : Sub X k X.A.in1 := Sub.in1 (⟨hr, rfl⟩ : Sub X (k + 1) X.A)
  refine Calls.call_function_entry kind_len plain_len entry_len (args_len1 _) ?_
  unfold Builtin.«len»
  refine wpAny_bind (m := oneArg "len" _) (wpAny_pure ?_)
  refine wpAny_bind (m := callSpecial? (.ref a) (Str.ofString "__len__")) (PySem.W.special_fn I.kIn J hs (beq_iff_eq.mp hf) (wpAny_mono (run_at F sb hb hx I (.cons (show RelV (.ref a) (.ref a) from rfl) .nil) q) (fun r s' hr' => ?_) fun _ _ y => y))
  obtain ⟨v, H', I', r, n, rfl, h0, h1, hq⟩ := hr'
  obtain ⟨t, rfl⟩ := r
  refine wpAny_bind (wpAny_holding (wpAny_pure ?_))
  refine wpAny_bind (wpAny_letGo ?_)
  show wpAny _ _ (if n < 0 then _ else _) _ _ _
  rw [if_neg (by omega)]
  show wpAny _ _ (if n ≥ 2 ^ 63 then _ else _) _ _ _
  rw [if_neg (by omega)]
  exact wpAny_bind (wpAny_mkInt (wpAny_pure ⟨_, rfl, ⟨.int n, H', I'.tok _, ⟨_, rfl⟩, hq⟩⟩))
end
end VL

set_option Elab.async false
set_option linter.all false
set_option maxRecDepth 100000
set_option maxHeartbeats 4000000
namespace VL
open PySem PySem.Spec PyProof.Rows L2

/-- __iter__ gives an iterator over the keys of the locked dict in the field fld -/
structure IterOk (P : Program) (w : World) (K : PySem.W.Frag) (mg : Str → Option Value) (base : Heap) (k : Nat) (f : Addr) (fd : FuncData) (C : Addr) (fld : Str) : Prop where
  run : ∀ (A : Around) (outer : List Env) (s : Shared) (H : Hp) (p dx : Addr) (fs : List (Str × V)) (d : Addr) (od : Obj) (kvs : List (Key × V)), Room k A → Env0 P w K mg base A outer s H →
    H p = some (.ins C dx fs) → fs.lookup fld = some (.ref d) → H d = some (.frz od (.dK kvs)) →
    codeAny (model P w) A (.call (.ref f) ⟨[.ref p], []⟩) (fun r s' => ∃ it, r = .ok (.ret (.ref it)) ∧ s'.os = s.os ∧ AllBare s'.gens ∧ Un (frs outer) [] H H s.heap s'.heap ∧ HOk P w H s'.heap ∧ s.heap.objs.size ≤ it ∧
      ∀ es ep, od.data = .dict es ep → s'.heap.IsKeyIter it d 0 kvs.length ep) s

theorem iterOk {P : Program} {w : World} {K : PySem.W.Frag} {mg : Str → Option Value} {base : Heap} {x qual fld : Str} {st : Stmt} {f C : Addr} {fd : FuncData} {p1 p2 p3 p4 p5 : Pos} (F : Fun K x qual st f fd) (S : FnScope ["self"] ["self"] (defScope st))
    (hg : (defScope st).names.lookup ("iter" : Str) = some .globalImplicit) (hbd : defBody st = [.Return (some (.Call (.Name "iter" p1) [.Attribute (.Name "self" p2) fld p3] [] p4)) p5])
    (hb : Binds K fd ["self"] []) (cl : Cls K C) (nN : NoAttr K C fld) (mI : mg "iter" = none) : IterOk P w K mg base 1 f fd C fld := by
  obtain ⟨oc, od', kV, doc, pm, an, cdv, ct, osl, rfl, lk, hcd⟩ := F.ex
  refine ⟨fun A outer s H p dx fs d od kvs hr e0 hp hl hd => ?_⟩
  have KX : K.In s.heap := e0.mod.kin.keeps fun b o e => (e0.bs b o e).1
  have lim : s.heap.NoLimit := e0.mod.nolimit.keeps fun b o e => (e0.bs b o e).1
  have hbs := hb s [.ref p] KX rfl
  rw [List.append_nil] at hbs
  have hkind : ∀ y ∈ (["self"] : List Str).zip [Value.ref p], (defScope st).names.lookup y.1 = some .local ∨ ((defScope st).names.lookup y.1 = some .cell ∧ ((cellsFrom (s.heap.objs.size + 1) (defScope st).names []).lookup y.1).isSome = true) := fun ⟨n, v⟩ hy => by
    rcases S.par n (List.of_mem_zip hy).1 with q | q
    · exact .inl q
    · exact .inr ⟨q, PySem.W.cellsFrom_some _ _ _ (.inl q)⟩
  refine codeAny_call_function hr.depth (KX _ _ lk) rfl S.co S.gen rfl (PySem.W.codeRec_of KX hcd) (hbs _ _ _ _ ?_)
  refine wpAny_newFunctionEnv_cells S.kind hkind fun env he s1 xx => ?_
  subst he
  refine ⟨lim.keeps xx.toInCall.keep, codeAny_func ?_⟩
  have r : Vals [V.ref p] [Value.ref p] := .cons (show RelV (.ref p) (.ref p) from rfl) .nil
  have I : Inv (cxOf CX0 P w K mg base ["self"] qual (defScope st) f cdv A outer s H E0) [] (start ["self"] [.ref p]) H s1 := inv_start S hr.hd e0 rfl r xx
  rw [hbd]
  have I := I.wish (fun _ _ => False)
  have ha : PA ((cxOf CX0 P w K mg base ["self"] qual (defScope st) f cdv A outer s H E0).nox) [.Attribute (.Name "self" p2) fld p3] (tCons (tFld K (tVar 0) fld) tNil) :=
    pa_cons (pe_fld (pe_var (i := 0) rfl (S.par "self" List.mem_cons_self |>.elim Or.inl fun q => Or.inr (Or.inl q))) rfl) pa_nil
  refine wpAny_mono (Q := fun fl s' => ∃ it, fl = .ret (.ref it) ∧ Inv ((cxOf CX0 P w K mg base ["self"] qual (defScope st) f cdv A outer s H E0).nox) [] (start ["self"] [.ref p]) H s' ∧ s.heap.objs.size ≤ it ∧ ∀ es ep, od.data = .dict es ep → s'.heap.IsKeyIter it d 0 kvs.length ep) ?_ (fun fl s' hs => ?_) (fun e s' (hs : False) => hs.elim)
  · refine wpAny_execs_cons (wpAny_Return_some (wpAny_Call_Name_kw (ld_blt (u := .builtin "iter") I hg mI (by decide +kernel) ?_ (by decide) (by decide))))
    refine PyProof.Rows.callWith_builtin1 (thn (ha.run p4 [] s1 _ H (fun vs H1 => vs = [.ref d] ∧ H1 = H) I ?_) fun us s2 ⟨vs, H1, I1, r1, ev, eH⟩ => ?_) rfl rfl
    · exact ⟨_, rfl, p, C, dx, fs, _, rfl, hp, cl, nN, hl, rfl, rfl⟩
    · subst ev
      rw [eH] at I1
      obtain ⟨u, rfl, ru⟩ := r1.one
      cases ru
      obtain ⟨hs', hgd, hx, es, ep, vs', hdt, hsz, kv, hm⟩ := I1.frzK hd
      refine Calls.call_function_entry (by decide +kernel) (by decide +kernel) PySem.W.kdk_entry_iter (PySem.W.kdk_args_iter _) ?_
      unfold Builtin.«iter»
      refine wpAny_bind (m := someArgs "iter" 1 2 _) (wpAny_of_eq (a := [Value.ref d]) (by first | rfl | kernel_rfl!) ?_)
      show wpAny _ _ (pyIter (.ref d) >>= _) _ _ _
      refine wpAny_bind (iter_keys hs' hgd hx hdt ?_)
      refine wpAny_pure ⟨_, rfl, ?_⟩
      refine ⟨s2.heap.objs.size, rfl, I1.kept (t' := s2.toks) fun b o e => Heap.get?_push_of_some _ e, I1.sz, fun es' ep' he => ?_⟩
      obtain ⟨rfl, rfl⟩ := dict_ep hdt he
      refine ⟨_, Heap.get?_push_size _ rfl, rfl, ?_⟩
      rw [hsz] <;> rfl
  · obtain ⟨it, rfl, J, hge, hit⟩ := hs
    exact ⟨it, rfl, J.os, J.bare, J.base, J.hok, hge, hit⟩

def iOwn (C : Addr) (fld : Str) (te : TE) : TI := fun σ H R => te σ H fun x H1 => ∃ (a dx : Addr) (fs : List (Str × V)) (d : Addr) (od : Obj) (kvs : List (Key × V)), x = .ref a ∧ H1 a = some (.ins C dx fs) ∧ fs.lookup fld = some (.ref d) ∧ H1 d = some (.frz od (.dK kvs)) ∧ R (Itk d od kvs) H1
theorem pi_own {X : Cx} {tg e : Expr} {te : TE} {k : Nat} {f C : Addr} {fd : FuncData} {fld : Str} (hs : PySem.W.findIn X.K (.ref C) "__iter__" = some (some (.ref f))) (hf : PySem.W.isFn X.K (.ref f) = true)
    (F : IterOk X.prog X.w X.K X.mg X.base k f fd C fld) (hr : Room k X.A) (he : PE X e te) : PI X tg e (iOwn C fld te) := by
  refine ⟨fun pins s σ H R I h => ?_⟩
  refine thn (he.run pins s σ H _ I h) fun v s1 ⟨x, H1, I1, r1, a, dx, fs, d, od, kvs, ex, ha, hl, hd, q⟩ => ?_
  subst ex
  cases r1
  obtain ⟨mA, J, _⟩ := ins_get I1.hok ha
  obtain ⟨ox, J, _⟩ := J.look
  obtain ⟨m, hF⟩ := I1.fr
  refine PySem.W.owit_iter hF I1.ok.mod.kin J hs hf ?_
  refine wpAny_call (codeAny_mono (F.run X.A X.stack s1 H1 a dx fs d od kvs hr I1.env0 ha hl hd) fun r s' h => ?_)
  obtain ⟨it, rfl, os, bare, un, hok, hge, hit⟩ := h
  have I2 : Inv X pins σ H1 s' := I1.call' (ch := []) os un hok bare (fun b z => absurd z (by simp))
  obtain ⟨hs', hgd, hx, es, ep, vs, hdt, hsz, kv, hm⟩ := I2.frzK hd
  have st := hit es ep hdt
  show PySem.W.OwitIt _ _ _ _ _ _
  unfold PySem.W.OwitIt
  refine wpAny_specialOf (name := Str.ofString "__next__") st.typeIs PySem.F.slot_dict_keyiterator_next.lookup ?_
  refine ⟨it, [it], _, Itk d od kvs, H1, rfl, I2, turn_keys it hdt, st, fun b hb => ?_, q⟩
  have e' : b = it := by simpa using hb
  subst e'
  exact I1.fpOk hge (I1.hok.fresh hge)
end VL

set_option Elab.async false
set_option linter.all false
set_option maxRecDepth 100000
set_option maxHeartbeats 4000000
namespace VL
open PySem PySem.Spec PyProof.Rows L2

/-! ### the text -/
def top (i : Nat) : Stmt := PySem.Challenge.pw_viewloom_k09_scopes.main.body.getD i (.Pass ⟨0, 0, 0, 0⟩)
abbrev sInit : Stmt := inClass (top 1) 0
abbrev sContains : Stmt := inClass (top 1) 1
abbrev sIter : Stmt := inClass (top 1) 2
abbrev sLen : Stmt := inClass (top 1) 3
abbrev sDeclare : Stmt := inClass (top 1) 4
abbrev sAllow : Stmt := inClass (top 1) 5
abbrev sInner : Stmt := inClass (top 1) 6
abbrev sCell : Stmt := top 3
abbrev sIsInt : Stmt := top 4
abbrev sStart : Stmt := top 5
abbrev sDigit : Stmt := top 6
abbrev sStep : Stmt := top 7
abbrev sShows : Stmt := top 8
abbrev sLaw : Stmt := top 9

/-! ### defs, as callers see them -/
structure Cal (P : Program) (w : World) (K : PySem.W.Frag) (mg : Str → Option Value) (base : Heap) (k : Nat) (x : Str) (sp : Sp) : Prop where
  ex : ∃ (f : Addr) (fd : FuncData) (ps : List Str), FnOk P w K mg base CX0 k f fd ps sp ∧ mg x = some (.ref f) ∧ PySem.W.keepIn K (.ref f) = true ∧ Binds K fd ps []
structure Met (P : Program) (w : World) (K : PySem.W.Frag) (mg : Str → Option Value) (base : Heap) (k : Nat) (C : Addr) (m : Str) (sp : Sp) : Prop where
  ex : ∃ (f : Addr) (fd : FuncData) (ps : List Str), Cls K C ∧ Meth K C m f ∧ FnOk P w K mg base CX0 k f fd ps sp ∧ Binds K fd ps []
section
variable {X : Cx} {k j : Nat} {C : Addr} {x m : Str} {sp : Sp} {p pos apos : Pos} {e o : Expr} {es : List Expr} {ta : TE} {t : TA}
theorem pe_c (c : Cal X.prog X.w X.K X.mg X.base k x sp) (hr : Room j X.A) (hk : k ≤ j) (hg : Gl X x) (ha : PA X (e :: es) t)
    (hdb : (x == ("__debug__" : Str)) = false := by decide) (he : starEach (e :: es) X.env = (false, eval e X.env) :: starEach es X.env := by rfl) (hpl : (backTo pos (starEach es X.env)).any (·.1) = false := by rfl) :
    PE X (.Call (.Name x p) (e :: es) [] pos) (tCall sp [] E0 t) := by
  obtain ⟨f, fd, ps, F, hm, kp, b⟩ := c.ex
  exact pe_call F (hr.mono hk) hg hm kp b .nil pass0 ha hdb he hpl
theorem pe_mt {pl : Sem Bool} (c : Met X.prog X.w X.K X.mg X.base k C m sp) (hr : Room j X.A) (hk : k ≤ j) (he : PE X o ta) (ha : PA X (e :: es) t)
    (hst : starEach (e :: es) X.env = (false, eval e X.env) :: starEach es X.env := by rfl) (hpl : (backTo pos (starEach es X.env)).any (·.1) = false := by rfl)
    (ht : eval (.Call (.Attribute o m apos) (e :: es) [] pos) X.env = (do
      let ov ← eval o X.env
      standAt apos.atName
      let (f, first) ← holding [ov] (getMethod ov m pl)
      callWith pos f first (backTo pos (starEach (e :: es) X.env)) (backToKw pos (keywordEach [] X.env))) := by rfl) :
    PE X (.Call (.Attribute o m apos) (e :: es) [] pos) (tMeth C m sp [] E0 ta t) := by
  obtain ⟨f, fd, ps, hc, hm, F, b⟩ := c.ex
  exact pe_meth (pl := pl) he hc hm F (hr.mono hk) b .nil pass0 ha hst hpl ht
theorem pe_mt0 {pl : Sem Bool} (c : Met X.prog X.w X.K X.mg X.base k C m sp) (hr : Room j X.A) (hk : k ≤ j) (he : PE X o ta)
    (ht : eval (.Call (.Attribute o m apos) [] [] pos) X.env = (do
      let ov ← eval o X.env
      standAt apos.atName
      let (f, first) ← holding [ov] (getMethod ov m pl)
      callWith pos f first (backTo pos (starEach [] X.env)) (backToKw pos (keywordEach [] X.env))) := by rfl) :
    PE X (.Call (.Attribute o m apos) [] [] pos) (tMeth C m sp [] E0 ta tNil) := by
  obtain ⟨f, fd, ps, hc, hm, F, b⟩ := c.ex
  exact pe_meth0 (pl := pl) he hc hm F (hr.mono hk) b .nil pass0 ht
end

/-! ### what the text has -/
def DefE (K : PySem.W.Frag) (mg : Str → Option Value) (x : Str) (st : Stmt) (ps : List Str) : Prop := ∃ (f : Addr) (fd : FuncData), Fun K x x st f fd ∧ mg x = some (.ref f) ∧ Binds K fd ps []
def MethE (K : PySem.W.Frag) (C : Addr) (x qual : Str) (st : Stmt) (ps : List Str) : Prop := ∃ (f : Addr) (fd : FuncData), Fun K x qual st f fd ∧ Meth K C x f ∧ Binds K fd ps []
section
variable {P : Program} {w : World} {K : PySem.W.Frag} {mg : Str → Option Value} {base : Heap}
theorem cal_of {x : Str} {st : Stmt} {ps N : List Str} {k : Nat} {sp : Sp} (D : DefE K mg x st ps) (S : FnScope N ps (defScope st)) (len : ∀ vs H Q E, sp vs H Q E → vs.length = ps.length)
    (hbody : ∀ (f : Addr) (cdv : Value) (A : Around) (outer : List Env) (s : Shared) (H : Hp) (vs : List V) (Q : VK) (E : XK), Room k (A.deeper (envOfC x (defScope st) s.heap.objs.size f cdv)) → sp vs H Q E →
      ∃ t, PSs (cxOf CX0 P w K mg base N x (defScope st) f cdv A outer s H E).nox (defBody st) t ∧ t { nx := fun _ H' => Q .non H', rt := Q } (start N vs) H) : Cal P w K mg base (k + 1) x sp := by
  obtain ⟨f, fd, F, hm, b⟩ := D
  exact ⟨f, fd, ps, F.ok S len (hbody f), hm, F.kp, b⟩
theorem met_of {C : Addr} {x qual : Str} {st : Stmt} {ps N : List Str} {k : Nat} {sp : Sp} (D : MethE K C x qual st ps) (c : Cls K C) (S : FnScope N ps (defScope st)) (len : ∀ vs H Q E, sp vs H Q E → vs.length = ps.length)
    (hbody : ∀ (f : Addr) (cdv : Value) (A : Around) (outer : List Env) (s : Shared) (H : Hp) (vs : List V) (Q : VK) (E : XK), Room k (A.deeper (envOfC qual (defScope st) s.heap.objs.size f cdv)) → sp vs H Q E →
      ∃ t, PSs (cxOf CX0 P w K mg base N qual (defScope st) f cdv A outer s H E).nox (defBody st) t ∧ t { nx := fun _ H' => Q .non H', rt := Q } (start N vs) H) : Met P w K mg base (k + 1) C x sp := by
  obtain ⟨f, fd, F, hm, b⟩ := D
  exact ⟨f, fd, ps, c, hm, F.ok S len (hbody f), b⟩
end

structure Txt (K : PySem.W.Frag) (mg : Str → Option Value) (C : Addr) : Prop where
  cl : Cls K C
  nN : NoAttr K C "names"
  mgC : mg "Scope" = some (.ref C)
  len : mg "len" = none
  dict : mg "dict" = none
  isinstance : mg "isinstance" = none
  int : mg "int" = none
  bool : mg "bool" = none
  range : mg "range" = none
  min : mg "min" = none
  max : mg "max" = none
  list : mg "list" = none
  iter : mg "iter" = none
  cell : DefE K mg "_law_cell" sCell ["script", "k"]
  isInt : DefE K mg "_law_is_integer" sIsInt ["told"]
  startD : DefE K mg "_law_start" sStart ["cell", "k"]
  digit : DefE K mg "_law_digit" sDigit ["state", "many"]
  step : DefE K mg "_law_step" sStep ["scope", "names", "state"]
  shows : DefE K mg "_law_shows" sShows ["scope", "names"]
  mInit : ∃ f fd, Fun K "__init__" "Scope.__init__" sInit f fd ∧ Mk K C f ∧ Binds K fd ["self"] []
  mContains : MethE K C "__contains__" "Scope.__contains__" sContains ["self", "name"]
  mIter : MethE K C "__iter__" "Scope.__iter__" sIter ["self"]
  mLen : MethE K C "__len__" "Scope.__len__" sLen ["self"]
  mDeclare : MethE K C "declare" "Scope.declare" sDeclare ["self", "name"]
  mAllow : MethE K C "allow" "Scope.allow" sAllow ["self", "name"]
  mInner : MethE K C "inner" "Scope.inner" sInner ["self"]
  vContains : ∃ f fd, Fun K "__contains__" "Scope.__contains__" sContains f fd ∧ PySem.W.findIn K (.ref C) "__contains__" = some (some (.ref f)) ∧ PySem.W.isFn K (.ref f) = true ∧ Binds K fd ["self", "name"] []
  vIter : ∃ f fd, Fun K "__iter__" "Scope.__iter__" sIter f fd ∧ PySem.W.findIn K (.ref C) "__iter__" = some (some (.ref f)) ∧ PySem.W.isFn K (.ref f) = true ∧ Binds K fd ["self"] []
  vLen : ∃ f fd, Fun K "__len__" "Scope.__len__" sLen f fd ∧ PySem.W.findIn K (.ref C) "__len__" = some (some (.ref f)) ∧ PySem.W.isFn K (.ref f) = true ∧ Binds K fd ["self"] []

/-! ### the data -/
def kvsOf (ns : List Str) : List (Key × V) := ns.map fun n => ((Sum.inr n : Key), V.bl true)
theorem kvsOf_len (ns : List Str) : (kvsOf ns).length = ns.length := by unfold kvsOf; rw [List.length_map]
theorem kvsOf_app (ns : List Str) (n : Str) : kvsOf (ns ++ [n]) = kvsOf ns ++ [(Sum.inr n, V.bl true)] := by unfold kvsOf; rw [List.map_append]; rfl
theorem kvsOf_val (n : Str) : ∀ ns : List Str, (valV (kvsOf ns) (Sum.inr n : Key)).isSome = decide (n ∈ ns)
  | [] => rfl
  | a :: ns => by
    show (valV (((Sum.inr a : Key), V.bl true) :: kvsOf ns) (Sum.inr n : Key)).isSome = decide (n ∈ a :: ns)
    by_cases e : a = n
    · subst e
      rw [valV_pos rfl]
      simp
    · rw [valV_neg (fun q => e (Sum.inr.inj q)), kvsOf_val n ns]
      have : n ≠ a := fun q => e q.symm
      simp [this]
theorem kvsOf_new {n : Str} {ns : List Str} (h : n ∉ ns) : putK (kvsOf ns) (Sum.inr n : Key) (V.bl true) = kvsOf (ns ++ [n]) := by
  have e := kvsOf_val n ns
  rw [decide_eq_false h] at e
  have e2 : valV (kvsOf ns) (Sum.inr n : Key) = none := by
    cases q : valV (kvsOf ns) (Sum.inr n : Key) with
    | none => rfl
    | some v => rw [q] at e; cases e
  rw [putK_new _ e2, kvsOf_app]
theorem kvsOf_old {n : Str} {ns : List Str} (h : n ∈ ns) : putK (kvsOf ns) (Sum.inr n : Key) (V.bl true) = kvsOf ns := by
  unfold putK
  rw [if_pos (by rw [valV_any, kvsOf_val]; exact decide_eq_true h)]
  unfold kvsOf
  rw [List.map_map]
  refine List.map_congr_left fun a _ => ?_
  show (if (Sum.inr a : Key) = Sum.inr n then ((Sum.inr a : Key), V.bl true) else ((Sum.inr a : Key), V.bl true)) = _
  split <;> rfl
def grow (ns : List Str) (n : Str) : List Str := if n ∈ ns then ns else ns ++ [n]
theorem kvsOf_put (n : Str) (ns : List Str) : putK (kvsOf ns) (Sum.inr n : Key) (V.bl true) = kvsOf (grow ns n) := by
  unfold grow
  split
  · rename_i h; exact kvsOf_old h
  · rename_i h; exact kvsOf_new h
def fsOf (d : Addr) : List (Str × V) := [(("names" : Str), V.ref d)]
theorem fsOf_look (d : Addr) : (fsOf d).lookup ("names" : Str) = some (.ref d) := by
  unfold fsOf
  rw [List.lookup_cons, beq_self_eq_true]
theorem fsOf_no {m : Str} (d : Addr) (h : (m == ("names" : Str)) = false) : (fsOf d).lookup m = none := by
  unfold fsOf
  rw [List.lookup_cons, h]
  rfl
theorem putF_nil (d : Addr) : putF "names" (V.ref d) [] = fsOf d := rfl
theorem putF_one (d d' : Addr) : putF "names" (V.ref d') (fsOf d) = fsOf d' := by
  show (if ("names" : Str) = "names" then (("names" : Str), V.ref d') :: [] else _) = _
  rw [if_pos rfl]
  rfl
/-- a Scope stands at p; its dict at d has these names -/
structure ScopeAt (C : Addr) (H : Hp) (p d : Addr) (ns : List Str) : Prop where
  ob : ∃ dx, H p = some (.ins C dx (fsOf d))
  dc : H d = some (.dK (kvsOf ns))
theorem ScopeAt.same {C : Addr} {H H' : Hp} {p d : Addr} {ns : List Str} (S : ScopeAt C H p d ns) (e : Same H H') : ScopeAt C H' p d ns := by
  obtain ⟨⟨dx, h⟩, h2⟩ := S
  exact ⟨⟨dx, e _ _ h⟩, e _ _ h2⟩
end VL

set_option Elab.async false
set_option linter.all false
set_option maxRecDepth 100000
set_option maxHeartbeats 4000000
namespace VL
open PySem PySem.Spec PyProof.Rows L2

/-! ### promises -/
def spInit (C : Addr) : Sp := fun vs H Q _ => ∃ (p dx : Addr), vs = [.ref p] ∧ H p = some (.ins C dx []) ∧ ∀ d, H d = none → Q .non (upd (upd H d (.dK [])) p (.ins C dx (fsOf d)))
def spContains (C : Addr) : Sp := fun vs H Q _ => ∃ (p d : Addr) (ns : List Str) (n : Str), vs = [.ref p, .str n] ∧ ScopeAt C H p d ns ∧ Q (.bl (decide (n ∈ ns))) H
def spLen (C : Addr) : Sp := fun vs H Q _ => ∃ (p d : Addr) (ns : List Str), vs = [.ref p] ∧ ScopeAt C H p d ns ∧ Q (.int (ns.length : Int)) H
def spDeclare (C : Addr) : Sp := fun vs H Q _ => ∃ (p d : Addr) (ns : List Str) (n : Str), vs = [.ref p, .str n] ∧ ScopeAt C H p d ns ∧ ns.length ≤ 1000 ∧
  (n ∉ ns → n ≠ "event" → Q (.bl true) (upd H d (.dK (kvsOf (ns ++ [n]))))) ∧ (¬ (n ∉ ns ∧ n ≠ "event") → Q (.bl false) H)
def spAllow (C : Addr) : Sp := fun vs H Q _ => ∃ (p d : Addr) (ns : List Str) (n : Str), vs = [.ref p, .str n] ∧ ScopeAt C H p d ns ∧ ns.length ≤ 1000 ∧ Q .non (upd H d (.dK (kvsOf (grow ns n))))
def spInner (C : Addr) : Sp := fun vs H Q _ => ∃ (p d : Addr) (ns : List Str), vs = [.ref p] ∧ ScopeAt C H p d ns ∧
  ∀ x d' H', Same H H' → H x = none → H d' = none → ScopeAt C H' x d' ns → Q (.ref x) H'

section
variable {P : Program} {w : World} {K : PySem.W.Frag} {mg : Str → Option Value} {base : Heap} {C : Addr}
theorem scI : FnScope ["self"] ["self"] (defScope sInit) := ⟨rfl, rfl, rfl, by decide +kernel, rfl, by decide +kernel, by decide +kernel⟩
theorem ok_init {f : Addr} {fd : FuncData} (F : Fun K "__init__" "Scope.__init__" sInit f fd) (T : Txt K mg C) : FnOk P w K mg base CX0 1 f fd ["self"] (spInit C) := by
  refine F.ok scI (fun vs H Q E h => ?_) (fun cdv A outer s H vs Q E hr h => ?_)
  · obtain ⟨p, dx, rfl, _⟩ := h
    rfl
  · obtain ⟨p, dx, rfl, hp, k⟩ := h
    refine ⟨_, pss_one (ps_fld (pv 0) pe_dnewK rfl), ?_⟩
    intro d hd
    have npd : p ≠ d := ne_of_none hp hd
    exact ⟨_, rfl, p, C, dx, [], rfl, (by rw [upd_ne npd]; exact hp), T.cl, T.nN, (by show 0 < 1000; decide), k d hd⟩
theorem scC : FnScope ["self", "name"] ["self", "name"] (defScope sContains) := ⟨rfl, rfl, rfl, by decide +kernel, rfl, by decide +kernel, by decide +kernel⟩
theorem ok_contains {f : Addr} {fd : FuncData} (F : Fun K "__contains__" "Scope.__contains__" sContains f fd) (T : Txt K mg C) : FnOk P w K mg base CX0 1 f fd ["self", "name"] (spContains C) := by
  refine F.ok scC (fun vs H Q E h => ?_) (fun cdv A outer s H vs Q E hr h => ?_)
  · obtain ⟨p, d, ns, n, rfl, _⟩ := h
    rfl
  · obtain ⟨p, d, ns, n, rfl, S, k⟩ := h
    have hu := hu_of hr
    obtain ⟨⟨dx, h1⟩, hd⟩ := id S
    refine ⟨_, pss_one (ps_ret (pe_cmp (pc_din hu (pv 1) (pe_fld (pv 0) rfl)))), ?_⟩
    refine ⟨_, rfl, _, rfl, p, C, dx, _, _, rfl, h1, T.cl, T.nN, fsOf_look d, d, _, rfl, DGet.k (k := Sum.inr n) hd, ?_⟩
    rw [kvsOf_val]
    exact k
theorem scLn : FnScope ["self"] ["self"] (defScope sLen) := ⟨rfl, rfl, rfl, by decide +kernel, rfl, by decide +kernel, by decide +kernel⟩
theorem ok_len {f : Addr} {fd : FuncData} (F : Fun K "__len__" "Scope.__len__" sLen f fd) (T : Txt K mg C) : FnOk P w K mg base CX0 1 f fd ["self"] (spLen C) := by
  refine F.ok scLn (fun vs H Q E h => ?_) (fun cdv A outer s H vs Q E hr h => ?_)
  · obtain ⟨p, d, ns, rfl, _⟩ := h
    rfl
  · obtain ⟨p, d, ns, rfl, S, k⟩ := h
    obtain ⟨⟨dx, h1⟩, hd⟩ := id S
    refine ⟨_, pss_one (ps_ret (pe_callB call_lenD (by rfl) T.len PySem.boot_len (pa_cons (pe_fld (pv 0) rfl) pa_nil))), ?_⟩
    refine ⟨_, rfl, p, C, dx, _, _, rfl, h1, T.cl, T.nN, fsOf_look d, d, _, rfl, hd, ?_⟩
    rw [kvsOf_len]
    exact k
theorem scD : FnScope ["self", "name"] ["self", "name"] (defScope sDeclare) := ⟨rfl, rfl, rfl, by decide +kernel, rfl, by decide +kernel, by decide +kernel⟩
theorem ok_declare (T : Txt K mg C) : Met P w K mg base 1 C "declare" (spDeclare C) := by
  refine met_of T.mDeclare T.cl scD (fun vs H Q E h => ?_) (fun f cdv A outer s H vs Q E hr h => ?_)
  · obtain ⟨p, d, ns, n, rfl, _⟩ := h
    rfl
  · obtain ⟨p, d, ns, n, rfl, S, hl, k1, k2⟩ := h
    have hu := hu_of hr
    obtain ⟨⟨dx, h1⟩, hd⟩ := id S
    refine ⟨_, pss_cons (ps_if (pw_or (pt_cmp (pc_din hu (pv 1) (pe_fld (pv 0) rfl))) (pw_or1 (pt_cmpR op_eq (pv 1) pe_str (nomark _)))).pt (pss_one (ps_ret pe_bl)) pss_nil)
      (pss_cons (ps_dput hu (pe_fld (pv 0) rfl) (pv 1) pe_bl rfl) (pss_one (ps_ret pe_bl))), ?_⟩
    refine ⟨_, rfl, _, rfl, p, C, dx, _, _, rfl, h1, T.cl, T.nN, fsOf_look d, d, _, rfl, DGet.k (k := Sum.inr n) hd, _, rfl, ?_⟩
    rw [kvsOf_val]
    refine ite2 (fun q => ?_) (fun q => ?_)
    · refine iteT ?_
      exact k2 fun z => z.1 (of_decide_eq_true q)
    · have hn : n ∉ ns := fun z => q (decide_eq_true z)
      refine ⟨_, rfl, rfl, _, rfl, ?_⟩
      refine ite2 (fun q2 => ?_) (fun q2 => ?_)
      · have e := of_decide_eq_true q2
        injection e with e
        exact k2 fun z => z.2 e
      · have hne : n ≠ "event" := fun z => q2 (decide_eq_true (by rw [z]))
        refine ⟨_, rfl, p, C, dx, _, _, rfl, h1, T.cl, T.nN, fsOf_look d, _, rfl, d, _, rfl, DPut.k (k := Sum.inr n) hd (by rw [kvsOf_len]; exact small1000 hl), ?_⟩
        rw [kvsOf_new hn]
        exact k1 hn hne
theorem scA : FnScope ["self", "name"] ["self", "name"] (defScope sAllow) := ⟨rfl, rfl, rfl, by decide +kernel, rfl, by decide +kernel, by decide +kernel⟩
theorem ok_allow (T : Txt K mg C) : Met P w K mg base 1 C "allow" (spAllow C) := by
  refine met_of T.mAllow T.cl scA (fun vs H Q E h => ?_) (fun f cdv A outer s H vs Q E hr h => ?_)
  · obtain ⟨p, d, ns, n, rfl, _⟩ := h
    rfl
  · obtain ⟨p, d, ns, n, rfl, S, hl, k⟩ := h
    have hu := hu_of hr
    obtain ⟨⟨dx, h1⟩, hd⟩ := id S
    refine ⟨_, pss_one (ps_dput hu (pe_fld (pv 0) rfl) (pv 1) pe_bl rfl), ?_⟩
    refine ⟨_, rfl, p, C, dx, _, _, rfl, h1, T.cl, T.nN, fsOf_look d, _, rfl, d, _, rfl, DPut.k (k := Sum.inr n) hd (by rw [kvsOf_len]; exact small1000 hl), ?_⟩
    rw [kvsOf_put]
    exact k
theorem scIn : FnScope ["self", "scope"] ["self"] (defScope sInner) := ⟨rfl, rfl, rfl, by decide +kernel, rfl, by decide +kernel, by decide +kernel⟩
theorem ok_inner (T : Txt K mg C) : Met P w K mg base 3 C "inner" (spInner C) := by
  obtain ⟨fI, fdI, FI, M, bI⟩ := T.mInit
  have GI : FnOk P w K mg base CX0 1 fI fdI ["self"] (spInit C) := ok_init FI T
  refine met_of T.mInner T.cl scIn (fun vs H Q E h => ?_) (fun f cdv A outer s H vs Q E hr h => ?_)
  · obtain ⟨p, d, ns, rfl, _⟩ := h
    rfl
  · obtain ⟨p, d, ns, rfl, S, k⟩ := h
    obtain ⟨⟨dp, h1⟩, hd⟩ := id S
    refine ⟨_, pss_cons (ps_set (i := 1) scIn.nd rfl (Or.inl rfl) (pe_make0 M GI hr rfl T.mgC bI .nil pass0))
      (pss_cons (ps_fld (pv 1) (pe_callTy call_dictD (by rfl) T.dict (by decide +kernel) (pa_cons (pe_fld (pv 0) rfl) pa_nil)) rfl) (pss_one (ps_ret (pv 1)))), ?_⟩
    intro x dx nx ndx nex
    have s0 : Same H (upd (upd H dx (.own x)) x (.ins C dx [])) := fun b o e => by
      rw [upd_ne (ne_of_none e nx), upd_ne (ne_of_none e ndx)]
      exact e
    refine ⟨x, dx, rfl, upd_same, fun d0 hd0 => ⟨rfl, ?_⟩⟩
    have nd0 : H d0 = none := s0.free hd0
    have s1 : Same H (upd (upd (upd (upd H dx (.own x)) x (.ins C dx [])) d0 (.dK [])) x (.ins C dx (fsOf d0))) := fun b o e => by
      rw [upd_ne (ne_of_none e nx), upd_ne (ne_of_none e nd0)]
      exact s0 b o e
    refine ⟨_, rfl, p, C, dp, _, _, rfl, s1 _ _ h1, T.cl, T.nN, fsOf_look d, d, _, rfl, .inl (s1 _ _ hd), fun q hq => ?_⟩
    have nq : H q = none := s1.free hq
    have nxq : x ≠ q := fun z => by
      rw [← z, upd_same] at hq
      cases hq
    refine ⟨_, rfl, x, C, dx, _, rfl, (by rw [upd_ne nxq, upd_same]), T.cl, T.nN, (by show 1 < 1000; decide), ?_⟩
    rw [putF_one]
    refine ⟨_, rfl, k x q _ (fun b o e => ?_) nx nq ⟨⟨dx, upd_same⟩, ?_⟩⟩
    · rw [upd_ne (ne_of_none e nx), upd_ne (ne_of_none e nq)]
      exact s1 b o e
    · rw [upd_ne nxq.symm, upd_same]
end
end VL

set_option Elab.async false
set_option linter.all false
set_option maxRecDepth 100000
set_option maxHeartbeats 4000000
namespace VL
open PySem PySem.Spec PyProof.Rows L2

abbrev MM : Int := 18446744073709551557
def spCellA (K : PySem.W.Frag) : Sp := fun vs H Q _ => ∃ (a : Addr) (ns : List Int) (j : Int), vs = [.ref a, .int j] ∧ SqL K H a (ns.map V.int) ∧ 0 ≤ j ∧ ∀ z, Q (.int z) H
def spIsInt : Sp := fun vs H Q _ => ∃ i : Int, vs = [.int i] ∧ Q (.bl true) H
def spStart : Sp := fun vs H Q _ => ∃ c k : Int, vs = [.int c, .int k] ∧ ∀ p z, H p = none → 0 ≤ z → z < MM → Q (.ref p) (upd H p (.lst [.int z]))
def spDigit : Sp := fun vs H Q _ => ∃ (a : Addr) (z m : Int), vs = [.ref a, .int m] ∧ H a = some (.lst [.int z]) ∧ 0 ≤ z ∧ z < MM ∧ 0 < m ∧ ∀ z' r, 0 ≤ z' → z' < MM → 0 ≤ r → r < m → Q (.int r) (upd H a (.lst [.int z']))

section
variable {P : Program} {w : World} {K : PySem.W.Frag} {mg : Str → Option Value} {base : Heap} {C : Addr}
theorem map_int_at {ns : List Int} {j : Int} (h0 : 0 ≤ j) (h1 : j < (ns.length : Int)) : ∃ z, atI (ns.map V.int) j = some (.int z) := by
  have hj : j.toNat < ns.length := by omega
  refine ⟨ns[j.toNat], ?_⟩
  unfold atI ixN
  rw [if_pos h0, if_pos (by rw [List.length_map]; exact h1)]
  show (ns.map V.int)[j.toNat]? = _
  rw [List.getElem?_map, List.getElem?_eq_getElem hj]
  rfl
theorem scCe : FnScope ["script", "k"] ["script", "k"] (defScope sCell) := ⟨rfl, rfl, rfl, by decide +kernel, rfl, by decide +kernel, by decide +kernel⟩
theorem ok_cell (T : Txt K mg C) : Cal P w K mg base 1 "_law_cell" (spCellA K) := by
  refine cal_of T.cell scCe (fun vs H Q E h => ?_) (fun f cdv A outer s H vs Q E hr h => ?_)
  · obtain ⟨a, ns, j, rfl, _⟩ := h
    rfl
  · obtain ⟨a, ns, j, rfl, hS, h0, k⟩ := h
    refine ⟨_, pss_cons (ps_if (pt_cmpR op_lt (pv 1) (pe_callB call_len_seq (by rfl) T.len PySem.boot_len (pa_cons (pv 0) pa_nil)) (nomark _)) (pss_one (ps_ret (pe_ix ix_list (pv 0) (pv 1) (fun _ _ => rfl)))) pss_nil) (pss_one (ps_ret pe_int)), ?_⟩
    refine ⟨_, rfl, _, rfl, a, _, rfl, .inl hS, _, _, rfl, rfl, _, rfl, ?_⟩
    refine ite2 (fun q => ?_) (fun q => ?_)
    · have q' := of_decide_eq_true q
      rw [List.length_map] at q'
      obtain ⟨z, hz⟩ := map_int_at h0 q'
      exact ⟨_, rfl, _, rfl, a, _, j, _, rfl, rfl, hS, hz, k z⟩
    · exact k 0
theorem scIs : FnScope ["told"] ["told"] (defScope sIsInt) := ⟨rfl, rfl, rfl, by decide +kernel, rfl, by decide +kernel, by decide +kernel⟩
theorem ok_isInt (T : Txt K mg C) : Cal P w K mg base 1 "_law_is_integer" spIsInt := by
  refine cal_of T.isInt scIs (fun vs H Q E h => ?_) (fun f cdv A outer s H vs Q E hr h => ?_)
  · obtain ⟨i, rfl, _⟩ := h
    rfl
  · obtain ⟨i, rfl, k⟩ := h
    refine ⟨_, pss_one (ps_ret (pe_and (pe_callB call_isi (by rfl) T.isinstance (by decide +kernel) (pa_cons (pv 0) (pa_cons (pe_bltn (v := .ty "int") (by rfl) T.int (by decide +kernel) rfl) pa_nil)))
      (pe_one (pe_not (pe_callB call_isi (by rfl) T.isinstance (by decide +kernel) (pa_cons (pv 0) (pa_cons (pe_bltn (v := .ty "bool") (by rfl) T.bool (by decide +kernel) rfl) pa_nil))))))), ?_⟩
    refine ⟨_, rfl, .int i, .ty "int", _, _, true, rfl, .ty _, .base (.int i), kit_ty (by decide +kernel), true, rfl, ?_⟩
    refine iteT ?_
    exact ⟨_, rfl, .int i, .ty "bool", _, _, false, rfl, .ty _, .base (.int i), kit_ty (by decide +kernel), false, rfl, k⟩
theorem scSt : FnScope ["cell", "k"] ["cell", "k"] (defScope sStart) := ⟨rfl, rfl, rfl, by decide +kernel, rfl, by decide +kernel, by decide +kernel⟩
theorem ok_start (T : Txt K mg C) : Cal P w K mg base 1 "_law_start" spStart := by
  refine cal_of T.startD scSt (fun vs H Q E h => ?_) (fun f cdv A outer s H vs Q E hr h => ?_)
  · obtain ⟨c, k, rfl, _⟩ := h
    rfl
  · obtain ⟨c, j, rfl, k⟩ := h
    refine ⟨_, pss_one (ps_ret (pe_lst (pa_cons (pe_op op_mod (pe_callTy call_int1 (by rfl) T.int (by decide +kernel) (pa_cons (pe_op op_add (pe_op op_mul (pv 0) pe_int) (pe_op op_mul (pe_op op_add (pv 1) pe_int) pe_int)) pa_nil)) pe_int) pa_nil))), ?_⟩
    refine ⟨_, rfl, _, _, rfl, rfl, .inr ⟨by decide, by decide⟩, _, rfl, _, _, rfl, rfl, _, _, rfl, rfl, .inr ⟨by decide, by decide⟩, _, _, rfl, rfl, .inl ⟨_, rfl, _, _, rfl, rfl, (by show (0 : Int) < MM; decide), ?_⟩⟩
    refine ⟨by show 1 ≤ sizeLine; decide, fun p hp => ?_⟩
    exact k p _ hp (Int.emod_nonneg _ (by decide)) (Int.emod_lt_of_pos _ (by decide))
theorem scDi : FnScope ["state", "many"] ["state", "many"] (defScope sDigit) := ⟨rfl, rfl, rfl, by decide +kernel, rfl, by decide +kernel, by decide +kernel⟩
theorem ok_digit (T : Txt K mg C) : Cal P w K mg base 1 "_law_digit" spDigit := by
  refine cal_of T.digit scDi (fun vs H Q E h => ?_) (fun f cdv A outer s H vs Q E hr h => ?_)
  · obtain ⟨a, z, m, rfl, _⟩ := h
    rfl
  · obtain ⟨a, z, m, rfl, hS, h0, h1, hm, k⟩ := h
    refine ⟨_, pss_cons (ps_asg (pe_op op_mod (pe_callTy call_int1 (by rfl) T.int (by decide +kernel) (pa_cons (pe_op op_add (pe_op op_mul (pe_ix ix_list (pv 0) pe_int (fun _ _ => rfl)) pe_int) pe_int) pa_nil)) pe_int) (pg_sub (pv 0) pe_int set_list))
      (pss_one (ps_ret (pe_op op_mod (pe_callTy call_int1 (by rfl) T.int (by decide +kernel) (pa_cons (pe_op op_fdiv (pe_ix ix_list (pv 0) pe_int (fun _ _ => rfl)) pe_int) pa_nil)) (pv 1)))), ?_⟩
    refine ⟨_, rfl, a, _, 0, _, rfl, rfl, SqL.of hS, rfl, _, _, rfl, rfl, .inr ⟨by decide, by decide⟩, _, _, rfl, rfl, .inl ⟨_, rfl, _, _, rfl, rfl, (by show (0 : Int) < MM; decide), ?_⟩⟩
    refine ⟨_, rfl, a, _, 0, 0, rfl, rfl, hS, rfl, ?_⟩
    refine ⟨_, rfl, a, _, 0, _, rfl, rfl, SqL.of upd_same, rfl, _, _, rfl, rfl, ⟨by decide, by decide⟩, .inl ⟨_, rfl, _, rfl, _, _, rfl, rfl, hm, ?_⟩⟩
    exact k _ _ (Int.emod_nonneg _ (by decide)) (Int.emod_lt_of_pos _ (by decide)) (Int.emod_nonneg _ (by omega)) (Int.emod_lt_of_pos _ hm)
end
end VL

set_option Elab.async false
set_option linter.all false
set_option maxRecDepth 100000
set_option maxHeartbeats 4000000
namespace VL
open PySem PySem.Spec PyProof.Rows L2

def Oks (ns : List Str) : Prop := ∀ n ∈ ns, PyData.strOk n = true
def spShows (C : Addr) : Sp := fun vs H Q _ => ∃ (p d l : Addr) (ns : List Str), vs = [.ref p, .ref l] ∧ ScopeAt C H p d ns ∧ H l = some (.lst (ns.map V.str)) ∧ ns.length ≤ 1000 ∧ Oks ns ∧ ∀ H', Same H H' → Q (.bl true) H'

theorem inV_str (n : Str) : ∀ ns : List Str, inV (.str n) (ns.map V.str) = decide (n ∈ ns)
  | [] => rfl
  | a :: ns => by
    show (eqV (.str a) (.str n) || inV (.str n) (ns.map V.str)) = _
    rw [inV_str n ns]
    show ((a == n) || decide (n ∈ ns)) = decide (n ∈ a :: ns)
    by_cases e : a = n
    · subst e
      simp
    · have e2 : n ≠ a := fun q => e q.symm
      have e3 : (a == n) = false := beq_eq_false_iff_ne.mpr e
      simp [e2, e3]
theorem flat_str : ∀ ns : List Str, (ns.map V.str).all flatV = true
  | [] => rfl
  | a :: ns => by
    show (true && (ns.map V.str).all flatV) = true
    rw [flat_str ns]
    rfl
theorem dpAll_str {K : PySem.W.Frag} {H : Hp} : ∀ ns : List Str, DpAll K H (ns.map V.str) (ns.map PyData.str)
  | [] => .nil
  | a :: ns => .cons (.str a) (dpAll_str ns)
theorem lay_str : ∀ ns : List Str, Oks ns → PyData.canLayAll0 (ns.map PyData.str) = true
  | [], _ => rfl
  | a :: ns, h => by
    have h1 := lay_str ns fun n hn => h n (List.mem_cons_of_mem _ hn)
    have h2 := h a List.mem_cons_self
    simp [PyData.canLayAll0, PyData.canLay0, h1, h2]
theorem depth_str : ∀ ns : List Str, PyData.depthAll (ns.map PyData.str) = 0
  | [] => rfl
  | a :: ns => by
    have := depth_str ns
    simp [PyData.depthAll, PyData.depth, this]
theorem shaped_str (ns : List Str) (ho : Oks ns) : SeqAt.shaped (.list (ns.map PyData.str)) = true := by
  unfold SeqAt.shaped
  rw [Bool.and_eq_true]
  refine ⟨?_, ?_⟩
  · show PyData.canLay0 (.list (ns.map PyData.str)) = true
    have := lay_str ns ho
    simpa [PyData.canLay0] using this
  · refine decide_eq_true ?_
    show PyData.depth (.list (ns.map PyData.str)) ≤ 64
    have := depth_str ns
    simp [PyData.depth, this]
theorem eqv_str (ns : List Str) (ho : Oks ns) : PyData.eqv (.list (ns.map PyData.str)) (.list (ns.map PyData.str)) = true := by
  refine SeqAt.eqv_refl _ ?_
  have := lay_str ns ho
  simpa [PyData.canLay0] using this
abbrev menu10 : List Str := ["a", "b", "n1", "Total", "event", "x", "y2", "slots", "zz", ""]

section
variable {P : Program} {w : World} {K : PySem.W.Frag} {mg : Str → Option Value} {base : Heap} {C : Addr}
theorem scSh : FnScope ["scope", "names", "name"] ["scope", "names"] (defScope sShows) := ⟨rfl, rfl, rfl, by decide +kernel, rfl, by decide +kernel, by decide +kernel⟩
theorem ok_shows (T : Txt K mg C) : Cal P w K mg base 3 "_law_shows" (spShows C) := by
  obtain ⟨fc, fdc, Fc, vc, ic, bc⟩ := T.vContains
  obtain ⟨fi, fdi, Fi, vi, ii, bi⟩ := T.vIter
  obtain ⟨fl, fdl, Fl, vl, il, bl⟩ := T.vLen
  have GC : FnOk P w K mg base CX0 1 fc fdc ["self", "name"] (spContains C) := ok_contains Fc T
  have GL : FnOk P w K mg base CX0 1 fl fdl ["self"] (spLen C) := ok_len Fl T
  have scIt : FnScope ["self"] ["self"] (defScope sIter) := ⟨rfl, rfl, rfl, by decide +kernel, rfl, by decide +kernel, by decide +kernel⟩
  have GI : IterOk P w K mg base 1 fi fdi C "names" := iterOk Fi scIt rfl rfl bi T.cl T.nN T.iter
  have GN : Cal P w K mg base 1 "_law_is_integer" spIsInt := ok_isInt T
  refine cal_of T.shows scSh (fun vs H Q E h => ?_) (fun f cdv A outer s H vs Q E hr h => ?_)
  · obtain ⟨p, d, l, ns, rfl, _⟩ := h
    rfl
  · obtain ⟨p, d, l, ns, rfl, S, hL, hlen, ho, k⟩ := h
    have hr1 : Room 1 _ := hr.mono (by decide : 1 ≤ 2)
    obtain ⟨⟨dx, h1⟩, hd⟩ := id S
    refine ⟨_, pss_cons (ps_if (pw_or (pt_cmpR (op_neD hr.units) (pe_lock (pe_lc (own := [("name", 2)]) (g := gName 2) (tt := tYes) rfl scSh.nd (pi_own vi ii GI hr1 (pv 0)) (blkOk_by (N := ["scope", "names", "name"]) (sc := defScope sShows) (by decide +kernel)) (fun _ _ _ _ _ => pg_name (i := 2) scSh.nd rfl (Or.inl rfl)) (fun _ _ _ _ _ => pts_nil) (fun _ _ _ _ _ => pv 2))) (pv 1) (nomark _))
        (pw_or (pt_cmpR op_ne (pe_callB (call_len_own vl il GL hr bl pass0) (by rfl) T.len PySem.boot_len (pa_cons (pv 0) pa_nil)) (pe_callB call_len_seq (by rfl) T.len PySem.boot_len (pa_cons (pv 1) pa_nil)) (nomark _))
          (pw_or1 (pt_not (pt_val (pe_c GN hr1 (by decide) (by rfl) (pa_cons (pe_callB (call_len_own vl il GL hr bl pass0) (by rfl) T.len PySem.boot_len (pa_cons (pv 0) pa_nil)) pa_nil))))))).pt (pss_one (ps_ret pe_bl)) pss_nil)
      (pss_cons (ps_for PassesOwn.never rfl (pi_tup (pe_tup (pa_cons pe_str (pa_cons pe_str (pa_cons pe_str (pa_cons pe_str (pa_cons pe_str (pa_cons pe_str (pa_cons pe_str (pa_cons pe_str (pa_cons pe_str (pa_cons pe_str pa_nil)))))))))))) (pg_name (i := 2) scSh.nd rfl (Or.inl rfl))
        (pss_one (ps_if (pt_cmpR op_ne (pe_cmpR (op_in_own vc ic GC hr1 bc pass0) (pv 2) (pv 0) rfl) (pe_cmpR op_in_seq (pv 2) (pv 1) rfl) (nomark _)) (pss_one (ps_ret pe_bl)) pss_nil)))
      (pss_one (ps_ret pe_bl))), ?_⟩
    -- [name for name in scope] under the lock of its dict
    refine ⟨d, _, hd, trivial, fun od => ?_⟩
    have hlk : upd H d (.frz od (.dK (kvsOf ns))) d = some (.frz od (.dK (kvsOf ns))) := upd_same
    have hpd : p ≠ d := ne_of h1 hd (by intro z; cases z)
    have h1' : upd H d (.frz od (.dK (kvsOf ns))) p = some (.ins C dx (fsOf d)) := by rw [upd_ne hpd]; exact h1
    refine ⟨_, rfl, p, dx, _, d, od, kvsOf ns, rfl, h1', fsOf_look d, hlk, fun D hD => ?_⟩
    have hDd : D ≠ d := fun z => by rw [z, upd_same] at hD; cases hD
    have hDn : H D = none := by rw [upd_ne hDd] at hD; exact hD
    refine lc_it (walk_keys (d := d) (o := od) (kvs := kvsOf ns)) (fun i H' => H' = upd (upd H d (.frz od (.dK (kvsOf ns)))) D (.lst ((ns.take i).map V.str))) rfl (fun i H' _ e => by rw [e, upd_ne hDd.symm]; exact upd_same) ?_ ?_
    · rintro i x H1 H2 hi e ⟨e2, kk, vv, hk, ex⟩
      rw [e2, ex]
      have hi' : i < ns.length := by rw [kvsOf_len] at hi; exact hi
      have ek : kk = Sum.inr ns[i] := by
        unfold kvsOf at hk
        rw [List.getElem?_map, List.getElem?_eq_getElem hi'] at hk
        exact (congrArg Prod.fst (Option.some.inj hk)).symm
      rw [ek]
      refine ⟨rfl, ?_⟩
      dsimp only [tYes]
      rw [if_pos rfl]
      refine ⟨_, rfl, _, by rw [e]; exact upd_same, ?_, ?_⟩
      · rw [List.length_map, List.length_take]
        exact small1000 (by omega)
      · rw [e, upd_upd]
        refine congrArg (fun l => upd _ D (.lst l)) ?_
        rw [List.take_succ, List.map_append, List.getElem?_eq_getElem hi']
        rfl
    · intro H1 e
      rw [kvsOf_len, List.take_length] at e
      subst e
      refine ⟨by rw [upd_ne hDd.symm]; exact upd_same, ?_⟩
      -- != names
      have hDl : D ≠ l := fun z => by rw [z] at hDn; rw [hDn] at hL; cases hL
      have hdl : l ≠ d := ne_of hL hd (by intro z; cases z)
      have hH : upd (upd (upd H d (.frz od (.dK (kvsOf ns)))) D (.lst (ns.map V.str))) d (.dK (kvsOf ns)) = upd H D (.lst (ns.map V.str)) := by
        funext b
        by_cases hb : b = d
        · rw [hb, upd_same, upd_ne hDd.symm, hd]
        · rw [upd_ne hb]
          by_cases hb2 : b = D
          · rw [hb2, upd_same, upd_same]
          · rw [upd_ne hb2, upd_ne hb2, upd_ne hb]
      rw [hH]
      have s1 : Same H (upd H D (.lst (ns.map V.str))) := fun b o e => by rw [upd_ne (ne_of_none e hDn)]; exact e
      have S1 : ScopeAt C (upd H D (.lst (ns.map V.str))) p d ns := S.same s1
      obtain ⟨⟨dx1, g1⟩, gd⟩ := id S1
      refine ⟨_, rfl, _, _, .lst (SqL.of upd_same) (dpAll_str ns), .lst (SqL.of (s1 _ _ hL)) (dpAll_str ns), shaped_str ns ho, shaped_str ns ho, _, rfl, ?_⟩
      rw [eqv_str ns ho]
      show if (!true) = true then _ else _
      rw [if_neg (by decide)]
      -- len(scope) != len(names)
      refine ⟨_, rfl, p, dx1, _, rfl, g1, p, d, ns, rfl, S1, (ns.length : Int), rfl, by omega, by omega, ?_⟩
      refine ⟨_, rfl, l, _, rfl, .inl (SqL.of (s1 _ _ hL)), rfl, _, rfl, ?_⟩
      rw [List.length_map]
      show if (!decide (V.int (ns.length : Int) = V.int (ns.length : Int))) = true then _ else _
      rw [decide_eq_true rfl]
      rw [if_neg (by decide)]
      refine ⟨_, rfl, p, dx1, _, rfl, g1, p, d, ns, rfl, S1, (ns.length : Int), rfl, by omega, by omega, ?_⟩
      refine ⟨_, rfl, _, rfl, ?_⟩
      show if (!true) = true then _ else _
      rw [if_neg (by decide)]
      -- the loop
      refine ⟨by show 10 ≤ sizeLine; decide, fun t ht => ?_⟩
      have s2 : Same (upd H D (.lst (ns.map V.str))) (upd (upd H D (.lst (ns.map V.str))) t (.tup (menu10.map V.str))) := fun b o e => by rw [upd_ne (ne_of_none e ht)]; exact e
      refine ⟨t, rfl, ⟨menu10.map V.str, SqT.of upd_same⟩, for_tup (K := K) (a := t) (xs := menu10.map V.str) (fun i σ H' => ∃ v, σ = [some (.ref p), some (.ref l), v] ∧ Same (upd (upd H D (.lst (ns.map V.str))) t (.tup (menu10.map V.str))) H') ⟨_, rfl, Same.refl _⟩ (fun i σ H' _ ⟨v, _, sm⟩ => SqT.of (sm _ _ upd_same)) ?_ ?_⟩
      · rintro i y σ H' hi ⟨v, rfl, sm⟩
        obtain ⟨n, rfl⟩ : ∃ n, y = V.str n := by
          rw [List.getElem?_map] at hi
          cases e : menu10[i]? with
          | none => rw [e] at hi; cases hi
          | some n => rw [e] at hi; exact ⟨n, (Option.some.inj hi).symm⟩
        have S3 : ScopeAt C H' p d ns := (S1.same s2).same sm
        obtain ⟨⟨dx3, g3⟩, _⟩ := id S3
        refine ⟨_, rfl, _, rfl, p, dx3, _, rfl, g3, ⟨p, d, ns, n, rfl, S3, _, rfl, ?_⟩⟩
        refine ⟨_, rfl, _, rfl, l, _, rfl, .inl (SqL.of (sm _ _ (s2 _ _ (s1 _ _ hL)))), rfl, flat_str ns, ?_⟩
        refine ⟨rfl, _, rfl, ?_⟩
        refine iteNS (by rw [inV_str]; rfl) ?_
        exact ⟨_, rfl, sm⟩
      · rintro σ H' ⟨v, rfl, sm⟩
        exact k _ fun b o e => sm _ _ (s2 _ _ (s1 _ _ e))
end
end VL

set_option Elab.async false
set_option linter.all false
set_option maxRecDepth 100000
set_option maxHeartbeats 4000000
namespace VL
open PySem PySem.Spec PyProof.Rows L2

abbrev menu9 : List Str := ["a", "b", "n1", "Total", "event", "x", "y2", "slots", "zz"]
theorem str_at {ms : List Str} {r : Int} (h0 : 0 ≤ r) (h1 : r < (ms.length : Int)) : ∃ n, n ∈ ms ∧ atI (ms.map V.str) r = some (.str n) := by
  have hj : r.toNat < ms.length := by omega
  refine ⟨ms[r.toNat], List.getElem_mem hj, ?_⟩
  unfold atI ixN
  rw [if_pos h0, if_pos (by rw [List.length_map]; exact h1)]
  show (ms.map V.str)[r.toNat]? = _
  rw [List.getElem?_map, List.getElem?_eq_getElem hj]
  rfl
theorem menu9_ok : ∀ n ∈ menu9, PyData.strOk n = true := by decide +kernel
theorem lst_ne {ns : List Str} {z : Int} : HO.lst (ns.map V.str) ≠ HO.lst [V.int z] := by
  intro e
  injection e with e
  cases ns with
  | nil => cases e
  | cons a r =>
    rw [List.map_cons] at e
    injection e with e _
    cases e
/-- a scope at p with its dict at d, the list of names at l, the state at a; the rest is as in H0 -/
structure Wd (C : Addr) (H0 H : Hp) (p d l a : Addr) (ds ns : List Str) (z : Int) : Prop where
  S : ScopeAt C H p d ds
  hL : H l = some (.lst (ns.map V.str))
  hA : H a = some (.lst [.int z])
  z0 : 0 ≤ z
  z1 : z < MM
  keep : ∀ b o, H0 b = some o → b ≠ d → b ≠ l → b ≠ a → H b = some o
section
variable {C : Addr} {H0 H : Hp} {p d l a : Addr} {ds ns : List Str} {z : Int}
theorem Wd.dl (W : Wd C H0 H p d l a ds ns z) : d ≠ l := ne_of W.S.dc W.hL (by intro e; cases e)
theorem Wd.da (W : Wd C H0 H p d l a ds ns z) : d ≠ a := ne_of W.S.dc W.hA (by intro e; cases e)
theorem Wd.la (W : Wd C H0 H p d l a ds ns z) : l ≠ a := ne_of W.hL W.hA lst_ne
theorem Wd.pd (W : Wd C H0 H p d l a ds ns z) : p ≠ d := by obtain ⟨dx, h⟩ := W.S.ob; exact ne_of h W.S.dc (by intro e; cases e)
theorem Wd.pl (W : Wd C H0 H p d l a ds ns z) : p ≠ l := by obtain ⟨dx, h⟩ := W.S.ob; exact ne_of h W.hL (by intro e; cases e)
theorem Wd.pa (W : Wd C H0 H p d l a ds ns z) : p ≠ a := by obtain ⟨dx, h⟩ := W.S.ob; exact ne_of h W.hA (by intro e; cases e)
theorem Wd.new (W : Wd C H0 H p d l a ds ns z) {t : Addr} {o : HO} (h : H t = none) : Wd C H0 (upd H t o) p d l a ds ns z := by
  have sm : Same H (upd H t o) := fun b u e => by rw [upd_ne (ne_of_none e h)]; exact e
  exact ⟨W.S.same sm, sm _ _ W.hL, sm _ _ W.hA, W.z0, W.z1, fun b u e h1 h2 h3 => sm _ _ (W.keep b u e h1 h2 h3)⟩
theorem Wd.digit (W : Wd C H0 H p d l a ds ns z) {z' : Int} (h0 : 0 ≤ z') (h1 : z' < MM) : Wd C H0 (upd H a (.lst [.int z'])) p d l a ds ns z' := by
  obtain ⟨dx, h⟩ := W.S.ob
  refine ⟨⟨⟨dx, by rw [upd_ne W.pa]; exact h⟩, by rw [upd_ne W.da]; exact W.S.dc⟩, by rw [upd_ne W.la]; exact W.hL, upd_same, h0, h1, fun b u e h1 h2 h3 => ?_⟩
  rw [upd_ne h3]
  exact W.keep b u e h1 h2 h3
theorem Wd.dict (W : Wd C H0 H p d l a ds ns z) (ds' : List Str) : Wd C H0 (upd H d (.dK (kvsOf ds'))) p d l a ds' ns z := by
  obtain ⟨dx, h⟩ := W.S.ob
  refine ⟨⟨⟨dx, by rw [upd_ne W.pd]; exact h⟩, upd_same⟩, by rw [upd_ne W.dl.symm]; exact W.hL, by rw [upd_ne W.da.symm]; exact W.hA, W.z0, W.z1, fun b u e h1 h2 h3 => ?_⟩
  rw [upd_ne h1]
  exact W.keep b u e h1 h2 h3
theorem Wd.list (W : Wd C H0 H p d l a ds ns z) (ns' : List Str) : Wd C H0 (upd H l (.lst (ns'.map V.str))) p d l a ds ns' z := by
  obtain ⟨dx, h⟩ := W.S.ob
  refine ⟨⟨⟨dx, by rw [upd_ne W.pl]; exact h⟩, by rw [upd_ne W.dl]; exact W.S.dc⟩, upd_same, by rw [upd_ne W.la.symm]; exact W.hA, W.z0, W.z1, fun b u e h1 h2 h3 => ?_⟩
  rw [upd_ne h2]
  exact W.keep b u e h1 h2 h3
end
def spStep (C : Addr) : Sp := fun vs H Q _ => ∃ (H0 : Hp) (p d l a : Addr) (ns : List Str) (z : Int), vs = [.ref p, .ref l, .ref a] ∧ Wd C H0 H p d l a ns ns z ∧ ns.length ≤ 100 ∧ Oks ns ∧
  ∀ ns' z' H', Wd C H0 H' p d l a ns' ns' z' → ns'.length ≤ ns.length + 1 → Oks ns' → Q (.bl true) H'
theorem oks_app {ns : List Str} {n : Str} (h : Oks ns) (hn : n ∈ menu9) : Oks (ns ++ [n]) := fun m hm => by
  rcases List.mem_append.mp hm with q | q
  · exact h m q
  · rw [List.mem_singleton.mp q]
    exact menu9_ok n hn

section
variable {P : Program} {w : World} {K : PySem.W.Frag} {mg : Str → Option Value} {base : Heap} {C : Addr}
theorem scSp : FnScope ["scope", "names", "state", "name", "due", "told"] ["scope", "names", "state"] (defScope sStep) := ⟨rfl, rfl, rfl, by decide +kernel, rfl, by decide +kernel, by decide +kernel⟩
theorem ok_step (T : Txt K mg C) : Cal P w K mg base 2 "_law_step" (spStep C) := by
  have GD : Cal P w K mg base 1 "_law_digit" spDigit := ok_digit T
  have GA : Met P w K mg base 1 C "allow" (spAllow C) := ok_allow T
  have GE : Met P w K mg base 1 C "declare" (spDeclare C) := ok_declare T
  refine cal_of T.step scSp (fun vs H Q E h => ?_) (fun f cdv A outer s H vs Q E hr h => ?_)
  · obtain ⟨H0, p, d, l, a, ns, z, rfl, _⟩ := h
    rfl
  · obtain ⟨H0, p, d, l, a, ns, z, rfl, W, hlen, ho, k⟩ := h
    refine ⟨_, pss_cons (ps_set (i := 3) scSp.nd rfl (Or.inl rfl) (pe_ix ix_tup (pe_tup (pa_cons pe_str (pa_cons pe_str (pa_cons pe_str (pa_cons pe_str (pa_cons pe_str (pa_cons pe_str (pa_cons pe_str (pa_cons pe_str (pa_cons pe_str pa_nil))))))))))
        (pe_c GD hr (by decide) (by rfl) (pa_cons (pv 2) (pa_cons pe_int pa_nil))) (fun _ _ => rfl)))
      (pss_cons (ps_if (pt_cmpR op_eq (pe_c GD hr (by decide) (by rfl) (pa_cons (pv 2) (pa_cons pe_int pa_nil))) pe_int (nomark _))
        (pss_cons (ps_if (pt_cmpR op_notN (pe_mt GA hr (by decide) (pv 0) (pa_cons (pv 3) pa_nil)) pe_non (nomark _)) (pss_one (ps_ret pe_bl)) pss_nil)
        (pss_cons (ps_if (pt_cmpR op_notIn_seq (pv 3) (pv 1) rfl) (pss_one (ps_expr (pe_bm PySem.F.plainAttrs_list PySem.F.slot_list_append PySem.F.type_list_append mt_append (pv 1) (pa_cons (pv 3) pa_nil)))) pss_nil)
        (pss_one (ps_ret pe_bl)))) pss_nil)
      (pss_cons (ps_set (i := 4) scSp.nd rfl (Or.inl rfl) (pe_and (pe_cmpR op_notIn_seq (pv 3) (pv 1) rfl) (pe_one (pe_cmpR op_ne (pv 3) pe_str (nomark _)))))
      (pss_cons (ps_set (i := 5) scSp.nd rfl (Or.inl rfl) (pe_mt GE hr (by decide) (pv 0) (pa_cons (pv 3) pa_nil)))
      (pss_cons (ps_if (pt_val (pv 4)) (pss_cons (ps_expr (pe_bm PySem.F.plainAttrs_list PySem.F.slot_list_append PySem.F.type_list_append mt_append (pv 1) (pa_cons (pv 3) pa_nil))) (pss_one (ps_ret (pe_cmpR op_is_bl (pv 5) pe_bl (nomark _))))) pss_nil)
      (pss_one (ps_ret (pe_cmpR op_is_bl (pv 5) pe_bl (nomark _)))))))), ?_⟩
    -- name = (..)[_law_digit(state, 9)]
    refine ⟨by show 9 ≤ sizeLine; decide, fun t ht => ?_⟩
    have W1 := W.new (o := .tup (menu9.map V.str)) ht
    refine ⟨_, rfl, a, z, 9, rfl, W1.hA, W1.z0, W1.z1, by decide, fun z1 r1 hz0 hz1 hr0 hr1 => ?_⟩
    have W2 := W1.digit hz0 hz1
    obtain ⟨n, hn, hat⟩ := str_at (ms := menu9) hr0 hr1
    have hta : t ≠ a := fun e => by rw [e, W.hA] at ht; cases ht
    refine ⟨t, _, _, _, rfl, rfl, SqT.of (by rw [upd_ne hta]; exact upd_same), hat, ?_⟩
    -- if _law_digit(state, 3) == 0
    refine ⟨_, rfl, a, z1, 3, rfl, W2.hA, W2.z0, W2.z1, by decide, fun z2 r2 hz0' hz1' hr0' hr1' => ?_⟩
    have W3 := W2.digit hz0' hz1'
    refine ⟨rfl, _, rfl, ?_⟩
    obtain ⟨dx, hp⟩ := W3.S.ob
    refine ite2 (fun q => ?_) (fun q => ?_)
    · refine ⟨_, rfl, p, dx, _, rfl, hp, fsOf_no d (by decide +kernel), _, rfl, p, d, ns, n, rfl, W3.S, by omega, ?_⟩
      have W4 := W3.dict (grow ns n)
      refine ⟨rfl, _, rfl, ?_⟩
      refine iteNS rfl ?_
      refine ⟨_, rfl, _, rfl, l, _, rfl, .inl (SqL.of W4.hL), rfl, flat_str ns, _, rfl, ?_⟩
      show if (!inV (.str n) (ns.map V.str)) = true then _ else _
      rw [inV_str]
      refine ite2 (fun q2 => ?_) (fun q2 => ?_)
      · have hnn : n ∉ ns := by simpa using q2
        have eg : grow ns n = ns ++ [n] := by unfold grow; rw [if_neg hnn]
        have W5 := W4.list (ns ++ [n])
        rw [List.map_append] at W5
        refine ⟨_, rfl, .inl ⟨rfl, _, SqL.of W4.hL⟩, _, rfl, l, _, _, rfl, rfl, W4.hL, (by rw [List.length_map]; exact small1000 (by omega)), ?_⟩
        exact k (ns ++ [n]) z2 _ (by rw [eg] at W5 ⊢; exact W5) (by rw [List.length_append]; exact Nat.le_refl _) (oks_app ho hn)
      · have hnn : n ∈ ns := by simpa using q2
        have eg : grow ns n = ns := by unfold grow; rw [if_pos hnn]
        exact k ns z2 _ (by rw [eg] at W4 ⊢; exact W4) (Nat.le_succ _) ho
    · -- due = name not in names and name != 'event'
      refine ⟨_, rfl, _, rfl, l, _, rfl, .inl (SqL.of W3.hL), rfl, flat_str ns, _, rfl, ?_⟩
      show if (!inV (.str n) (ns.map V.str)) = true then _ else _
      rw [inV_str]
      have tail : ∀ due : Bool, (due = true → n ∉ ns ∧ n ≠ "event") → (due = false → ¬ (n ∉ ns ∧ n ≠ "event")) →
          tSeq (tAsg (tMeth C "declare" (spDeclare C) [] E0 (tVar 0) (tCons (tVar 3) tNil)) (gName 5))
            (tSeq (tIfS (tB (tVar 4)) (tSeq (tDrop (tBM K "list" rAppend (tVar 1) (tCons (tVar 3) tNil))) (tRet (tOp (fun x y H Q => ∃ a b, x = .bl a ∧ y = .bl b ∧ Q (.bl (decide (a = b))) H) (tVar 5) (tC (.bl true))))) tNext)
              (tRet (tOp (fun x y H Q => ∃ a b, x = .bl a ∧ y = .bl b ∧ Q (.bl (decide (a = b))) H) (tVar 5) (tC (.bl false)))))
            { nx := fun _ H' => Q .non H', rt := Q } [some (.ref p), some (.ref l), some (.ref a), some (.str n), some (.bl due), none] (upd (upd (upd H t (.tup (menu9.map V.str))) a (.lst [.int z1])) a (.lst [.int z2])) := by
        intro due h1 h2
        refine ⟨_, rfl, p, dx, _, rfl, hp, fsOf_no d (by decide +kernel), _, rfl, p, d, ns, n, rfl, W3.S, by omega, fun a1 a2 => ?_, fun a1 => ?_⟩
        · have hd : due = true := by
            cases due with
            | true => rfl
            | false => exact absurd ⟨a1, a2⟩ (h2 rfl)
          subst hd
          refine ⟨_, rfl, _, rfl, ?_⟩
          dsimp only
          rw [if_pos rfl]
          have W4 := W3.dict (ns ++ [n])
          have W5 := W4.list (ns ++ [n])
          rw [List.map_append] at W5
          refine ⟨_, rfl, .inl ⟨rfl, _, SqL.of W4.hL⟩, _, rfl, l, _, _, rfl, rfl, W4.hL, (by rw [List.length_map]; exact small1000 (by omega)), ?_⟩
          exact ⟨_, rfl, _, _, rfl, rfl, k (ns ++ [n]) z2 _ W5 (by rw [List.length_append]; exact Nat.le_refl _) (oks_app ho hn)⟩
        · have hd : due = false := by
            cases due with
            | false => rfl
            | true => exact absurd (h1 rfl) a1
          subst hd
          refine ⟨_, rfl, _, rfl, ?_⟩
          dsimp only
          rw [if_neg (by decide)]
          exact ⟨_, rfl, _, _, rfl, rfl, k ns z2 _ W3 (Nat.le_succ _) ho⟩
      refine ite2 (fun q2 => ?_) (fun q2 => ?_)
      · have hnn : n ∉ ns := by simpa using q2
        refine ⟨_, rfl, rfl, ?_⟩
        exact tail _ (fun e => ⟨hnn, fun e2 => by rw [e2] at e; simp at e⟩) (fun e ⟨_, e2⟩ => by
          rw [Bool.not_eq_false'] at e
          have e3 := of_decide_eq_true e
          injection e3 with e3
          exact e2 e3)
      · have hnn : n ∈ ns := by simpa using q2
        exact tail _ (fun e => by cases e) (fun _ e2 => e2.1 hnn)
end
end VL

set_option Elab.async false
set_option linter.all false
set_option maxRecDepth 100000
set_option maxHeartbeats 4000000
namespace VL
open PySem PySem.Spec PyProof.Rows L2

structure Rec where
  p : Addr
  d : Addr
  l : Addr
  ns : List Str
structure G9 (C : Addr) (H0 H : Hp) (S N : Addr) (rs : List Rec) (m : Nat) : Prop where
  same : Same H0 H
  s0 : H0 S = none
  n0 : H0 N = none
  hS : H S = some (.lst (rs.map fun r => V.ref r.p))
  hN : H N = some (.lst (rs.map fun r => V.ref r.l))
  SN : S ≠ N
  ne : rs ≠ []
  all : ∀ r ∈ rs, ScopeAt C H r.p r.d r.ns ∧ H r.l = some (.lst (r.ns.map V.str)) ∧ Oks r.ns ∧ r.ns.length ≤ m ∧ H0 r.d = none ∧ H0 r.l = none
  apart : rs.Pairwise fun r r' => r.d ≠ r'.d ∧ r.l ≠ r'.l
theorem refs_ne_int {α : Type} {rs : List α} {f : α → Addr} {z : Int} : HO.lst (rs.map fun r => V.ref (f r)) ≠ HO.lst [V.int z] := by
  intro e
  injection e with e
  cases rs with
  | nil => cases e
  | cons a r =>
    rw [List.map_cons] at e
    injection e with e _
    cases e
theorem refs_ne_str {α : Type} {rs : List α} {f : α → Addr} {ns : List Str} (h : rs ≠ []) : HO.lst (rs.map fun r => V.ref (f r)) ≠ HO.lst (ns.map V.str) := by
  intro e
  injection e with e
  cases rs with
  | nil => exact h rfl
  | cons a r =>
    cases ns with
    | nil => cases e
    | cons b q =>
      rw [List.map_cons, List.map_cons] at e
      injection e with e _
      cases e
section
variable {C : Addr} {H0 H : Hp} {S N : Addr} {rs : List Rec} {m : Nat}
theorem G9.sameH {H' : Hp} (g : G9 C H0 H S N rs m) (sm : Same H H') : G9 C H0 H' S N rs m :=
  ⟨g.same.trans sm, g.s0, g.n0, sm _ _ g.hS, sm _ _ g.hN, g.SN, g.ne, fun r hr => let ⟨h1, h2, h3⟩ := g.all r hr; ⟨h1.same sm, sm _ _ h2, h3⟩, g.apart⟩
theorem G9.new {t : Addr} {o : HO} (g : G9 C H0 H S N rs m) (h : H t = none) : G9 C H0 (upd H t o) S N rs m := g.sameH fun b u e => by rw [upd_ne (ne_of_none e h)]; exact e
theorem G9.mono {n : Nat} (g : G9 C H0 H S N rs m) (h : m ≤ n) : G9 C H0 H S N rs n :=
  ⟨g.same, g.s0, g.n0, g.hS, g.hN, g.SN, g.ne, fun r hr => let ⟨h1, h2, h3, h4, h5⟩ := g.all r hr; ⟨h1, h2, h3, Nat.le_trans h4 h, h5⟩, g.apart⟩
theorem G9.digit {a : Addr} {z z' : Int} (g : G9 C H0 H S N rs m) (ha : H a = some (.lst [.int z])) (h0 : H0 a = none) : G9 C H0 (upd H a (.lst [.int z'])) S N rs m := by
  have k : ∀ b o, H b = some o → o ≠ .lst [.int z] → upd H a (.lst [.int z']) b = some o := fun b o e ne => by
    rw [upd_ne (ne_of e ha ne)]
    exact e
  refine ⟨fun b o e => ?_, g.s0, g.n0, k _ _ g.hS refs_ne_int, k _ _ g.hN refs_ne_int, g.SN, g.ne, fun r hr => ?_, g.apart⟩
  · rw [upd_ne (ne_of_none e h0)]
    exact g.same _ _ e
  · obtain ⟨⟨⟨dx, h1⟩, h1'⟩, h2, h3⟩ := g.all r hr
    exact ⟨⟨⟨dx, k _ _ h1 (by intro e; cases e)⟩, k _ _ h1' (by intro e; cases e)⟩, k _ _ h2 lst_ne, h3⟩
theorem G9.step {H' : Hp} {i : Nat} {a : Addr} {z z' : Int} {ns' : List Str} (g : G9 C H0 H S N rs m) (hi : i < rs.length) (ha : H a = some (.lst [.int z])) (h0 : H0 a = none)
    (W : Wd C H H' rs[i].p rs[i].d rs[i].l a ns' ns' z') (hl : ns'.length ≤ rs[i].ns.length + 1) (ho : Oks ns') : G9 C H0 H' S N (rs.set i { rs[i] with ns := ns' }) (m + 1) := by
  have hm : rs[i] ∈ rs := List.getElem_mem hi
  obtain ⟨⟨⟨dxi, q1⟩, q1'⟩, q2, q3, q4, q5, q6⟩ := g.all _ hm
  have ep : (rs.set i { rs[i] with ns := ns' }).map (fun r => V.ref r.p) = rs.map fun r => V.ref r.p := by
    rw [List.map_set]
    refine List.ext_getElem? fun j => ?_
    by_cases e : i = j
    · subst e
      rw [List.getElem?_set_self (by rw [List.length_map]; exact hi), List.getElem?_map, List.getElem?_eq_getElem hi]
      rfl
    · rw [List.getElem?_set_ne e]
  have el : (rs.set i { rs[i] with ns := ns' }).map (fun r => V.ref r.l) = rs.map fun r => V.ref r.l := by
    rw [List.map_set]
    refine List.ext_getElem? fun j => ?_
    by_cases e : i = j
    · subst e
      rw [List.getElem?_set_self (by rw [List.length_map]; exact hi), List.getElem?_map, List.getElem?_eq_getElem hi]
      rfl
    · rw [List.getElem?_set_ne e]
  refine ⟨fun b o e => W.keep b o (g.same _ _ e) (ne_of_none e q5) (ne_of_none e q6) (ne_of_none e h0), g.s0, g.n0, ?_, ?_, g.SN, ?_, fun r hr => ?_, ?_⟩
  · rw [ep]
    exact W.keep _ _ g.hS (ne_of g.hS q1' (by intro e; cases e)) (ne_of g.hS q2 (refs_ne_str g.ne)) (ne_of g.hS ha refs_ne_int)
  · rw [el]
    exact W.keep _ _ g.hN (ne_of g.hN q1' (by intro e; cases e)) (ne_of g.hN q2 (refs_ne_str g.ne)) (ne_of g.hN ha refs_ne_int)
  · intro e
    have := congrArg List.length e
    rw [List.length_set] at this
    exact g.ne (List.eq_nil_of_length_eq_zero this)
  · obtain ⟨j, hj, er⟩ := List.getElem_of_mem hr
    rw [List.length_set] at hj
    by_cases e : i = j
    · subst e
      rw [List.getElem_set_self] at er
      subst er
      exact ⟨W.S, W.hL, ho, (by show ns'.length ≤ m + 1; omega), q5, q6⟩
    · rw [List.getElem_set_ne e] at er
      subst er
      obtain ⟨⟨⟨dx, r1⟩, r1'⟩, r2, r3, r4, r5, r6⟩ := g.all _ (List.getElem_mem hj)
      have ap : rs[j].d ≠ rs[i].d ∧ rs[j].l ≠ rs[i].l := by
        have pw := List.pairwise_iff_getElem.mp g.apart
        rcases Nat.lt_or_gt_of_ne e with h | h
        · exact ⟨(pw i j hi hj h).1.symm, (pw i j hi hj h).2.symm⟩
        · exact pw j i hj hi h
      refine ⟨⟨⟨dx, W.keep _ _ r1 (ne_of r1 q1' (by intro e; cases e)) (ne_of r1 q2 (by intro e; cases e)) (ne_of r1 ha (by intro e; cases e))⟩, W.keep _ _ r1' ap.1 (ne_of r1' q2 (by intro e; cases e)) (ne_of r1' ha (by intro e; cases e))⟩,
        W.keep _ _ r2 (ne_of r2 q1' (by intro e; cases e)) ap.2 (ne_of r2 ha lst_ne), r3, by omega, r5, r6⟩
  · refine List.pairwise_iff_getElem.mpr fun j k hj hk hjk => ?_
    rw [List.length_set] at hj hk
    have pw := List.pairwise_iff_getElem.mp g.apart j k hj hk hjk
    have ej : ∀ (j : Nat) (hj : j < rs.length) (hj' : j < (rs.set i { rs[i] with ns := ns' }).length), (rs.set i { rs[i] with ns := ns' })[j].d = rs[j].d ∧ (rs.set i { rs[i] with ns := ns' })[j].l = rs[j].l := fun j hj hj' => by
      by_cases e : i = j
      · subst e
        rw [List.getElem_set_self]
        exact ⟨rfl, rfl⟩
      · rw [List.getElem_set_ne e]
        exact ⟨rfl, rfl⟩
    rw [(ej j hj _).1, (ej j hj _).2, (ej k hk _).1, (ej k hk _).2]
    exact pw
/-- one more scope, with its own list of names -/
theorem G9.add {H1 : Hp} {x d' l' : Addr} {ns' : List Str} (g : G9 C H0 H S N rs m) (sm : Same H H1) (hx : H x = none) (hd : H d' = none) (A : ScopeAt C H1 x d' ns') (hl : upd H1 S (.lst ((rs.map fun r => V.ref r.p) ++ [.ref x])) l' = none)
    (ho : Oks ns') (hn : ns'.length ≤ m) :
    G9 C H0 (upd (upd (upd H1 S (.lst ((rs.map fun r => V.ref r.p) ++ [.ref x]))) l' (.lst (ns'.map V.str))) N (.lst ((rs.map fun r => V.ref r.l) ++ [.ref l']))) S N (rs ++ [⟨x, d', l', ns'⟩]) m := by
  have hS1 := sm _ _ g.hS
  have hN1 := sm _ _ g.hN
  obtain ⟨⟨dx, a1⟩, a2⟩ := id A
  have lS : l' ≠ S := fun e => by rw [e, upd_same] at hl; cases hl
  have hl1 : H1 l' = none := by rw [upd_ne lS] at hl; exact hl
  have lN : l' ≠ N := fun e => by rw [e, hN1] at hl1; cases hl1
  have h0l : H l' = none := sm.free hl1
  -- what is neither S nor N nor new stays
  have k : ∀ b o, H1 b = some o → b ≠ S → b ≠ N → upd (upd (upd H1 S (.lst ((rs.map fun r => V.ref r.p) ++ [.ref x]))) l' (.lst (ns'.map V.str))) N (.lst ((rs.map fun r => V.ref r.l) ++ [.ref l'])) b = some o := fun b o e e1 e2 => by
    rw [upd_ne e2, upd_ne (ne_of_none e hl1), upd_ne e1]
    exact e
  refine ⟨fun b o e => k b o (sm _ _ (g.same _ _ e)) (ne_of_none e g.s0) (ne_of_none e g.n0), g.s0, g.n0, ?_, ?_, g.SN, by simp, fun r hr => ?_, ?_⟩
  · rw [upd_ne g.SN, upd_ne lS.symm, upd_same, List.map_append]
    rfl
  · rw [upd_same, List.map_append]
    rfl
  · rcases List.mem_append.mp hr with hr | hr
    · obtain ⟨⟨⟨dy, r1⟩, r1'⟩, r2, r3⟩ := g.all r hr
      refine ⟨⟨⟨dy, k _ _ (sm _ _ r1) (ne_of r1 g.hS (by intro e; cases e)) (ne_of r1 g.hN (by intro e; cases e))⟩, k _ _ (sm _ _ r1') (ne_of r1' g.hS (by intro e; cases e)) (ne_of r1' g.hN (by intro e; cases e))⟩,
        k _ _ (sm _ _ r2) (ne_of r2 g.hS fun e => refs_ne_str g.ne e.symm) (ne_of r2 g.hN fun e => refs_ne_str g.ne e.symm), r3⟩
    · rw [List.mem_singleton.mp hr]
      refine ⟨⟨⟨dx, k _ _ a1 (ne_of a1 hS1 (by intro e; cases e)) (ne_of a1 hN1 (by intro e; cases e))⟩, k _ _ a2 (ne_of a2 hS1 (by intro e; cases e)) (ne_of a2 hN1 (by intro e; cases e))⟩, by rw [upd_ne lN, upd_same], ho, hn, g.same.free hd, g.same.free h0l⟩
  · refine List.pairwise_append.mpr ⟨g.apart, List.pairwise_singleton _ _, fun r hr r' hr' => ?_⟩
    rw [List.mem_singleton.mp hr']
    obtain ⟨⟨_, r1'⟩, r2, _⟩ := g.all r hr
    exact ⟨ne_of_none r1' hd, ne_of_none r2 h0l⟩
end
end VL

set_option Elab.async false
set_option linter.all false
set_option maxRecDepth 100000
set_option maxHeartbeats 4000000
namespace VL
open PySem PySem.Spec PyProof.Rows L2

def spLaw (K : PySem.W.Frag) : Sp := fun vs H Q _ => ∃ (a : Addr) (ns : List Int), vs = [.ref a] ∧ SqL K H a (ns.map V.int) ∧ ns.length ≤ 63 ∧ ∀ H', Q (.bl true) H'
theorem atI_map {α : Type} {rs : List α} {f : α → V} {r : Int} (h0 : 0 ≤ r) (h1 : r.toNat < rs.length) : atI (rs.map f) r = some (f rs[r.toNat]) := by
  unfold atI ixN
  rw [if_pos h0, if_pos (by rw [List.length_map]; omega)]
  show (rs.map f)[r.toNat]? = _
  rw [List.getElem?_map, List.getElem?_eq_getElem h1]
  rfl
section
variable {P : Program} {w : World} {K : PySem.W.Frag} {mg : Str → Option Value} {base : Heap} {C : Addr}
theorem scL : FnScope ["script", "scopes", "names", "split", "k", "state", "which", "j"] ["script"] (defScope sLaw) := ⟨rfl, rfl, rfl, by decide +kernel, rfl, by decide +kernel, by decide +kernel⟩
theorem ok_law {f : Addr} {fd : FuncData} (F : Fun K "law" "law" sLaw f fd) (T : Txt K mg C) : FnOk P w K mg base CX0 5 f fd ["script"] (spLaw K) := by
  obtain ⟨fI, fdI, FI, M, bI⟩ := T.mInit
  have GI : FnOk P w K mg base CX0 1 fI fdI ["self"] (spInit C) := ok_init FI T
  have GD : Cal P w K mg base 1 "_law_digit" spDigit := ok_digit T
  have GS : Cal P w K mg base 1 "_law_start" spStart := ok_start T
  have GC : Cal P w K mg base 1 "_law_cell" (spCellA K) := ok_cell T
  have GT : Cal P w K mg base 2 "_law_step" (spStep C) := ok_step T
  have GH : Cal P w K mg base 3 "_law_shows" (spShows C) := ok_shows T
  have GN : Met P w K mg base 3 C "inner" (spInner C) := ok_inner T
  refine F.ok scL (fun vs H Q E h => ?_) (fun cdv A outer s H vs Q E hr h => ?_)
  · obtain ⟨a, ns, rfl, _⟩ := h
    rfl
  · obtain ⟨a, ns, rfl, hS, hlen, k⟩ := h
    have hr2 : Room 2 _ := hr.mono (by decide)
    refine ⟨_, pss_cons (ps_set (i := 1) scL.nd rfl (Or.inl rfl) (pe_lst (pa_cons (pe_make0 M GI hr2 rfl T.mgC bI .nil pass0) pa_nil)))
      (pss_cons (ps_set (i := 2) scL.nd rfl (Or.inl rfl) (pe_lst (pa_cons (pe_lst pa_nil) pa_nil)))
      (pss_cons (ps_set (i := 3) scL.nd rfl (Or.inl rfl) (pe_c GD hr (by decide) (by rfl) (pa_cons (pe_c GS hr (by decide) (by rfl) (pa_cons (pe_c GC hr (by decide) (by rfl) (pa_cons (pv 0) (pa_cons pe_int pa_nil))) (pa_cons pe_int pa_nil))) (pa_cons pe_int pa_nil))))
      (pss_cons (ps_for PassesOwn.never rfl (pi_range1 rfl T.range (pa_cons (pe_callB (call_min2 rfl) (by rfl) T.min (by decide +kernel) (pa_cons pe_int (pa_cons (pe_callB (call_max2 rfl) (by rfl) T.max (by decide +kernel) (pa_cons pe_int (pa_cons (pe_callB call_len_seq (by rfl) T.len PySem.boot_len (pa_cons (pv 0) pa_nil)) pa_nil))) pa_nil))) pa_nil)) (pg_name (i := 4) scL.nd rfl (Or.inl rfl))
        (pss_cons (ps_set (i := 5) scL.nd rfl (Or.inl rfl) (pe_c GS hr (by decide) (by rfl) (pa_cons (pe_c GC hr (by decide) (by rfl) (pa_cons (pv 0) (pa_cons (pv 4) pa_nil))) (pa_cons (pv 4) pa_nil))))
        (C8.pss_cut (ps_if (pt_cmpR op_eq (pv 4) (pv 3) (nomark _))
          (pss_cons (ps_expr (pe_bm PySem.F.plainAttrs_list PySem.F.slot_list_append PySem.F.type_list_append mt_append (pv 1) (pa_cons (pe_mt0 GN hr (by decide) (pe_ix ix_list (pv 1) pe_int (fun _ _ => rfl))) pa_nil)))
          (pss_one (ps_expr (pe_bm PySem.F.plainAttrs_list PySem.F.slot_list_append PySem.F.type_list_append mt_append (pv 2) (pa_cons (pe_callTy call_list_of (by rfl) T.list (by decide +kernel) (pa_cons (pe_ix ix_list (pv 2) pe_int (fun _ _ => rfl)) pa_nil)) pa_nil))))) pss_nil)
        (pss_cons (ps_set (i := 6) scL.nd rfl (Or.inl rfl) (pe_c GD hr (by decide) (by rfl) (pa_cons (pv 5) (pa_cons (pe_callB call_len_seq (by rfl) T.len PySem.boot_len (pa_cons (pv 1) pa_nil)) pa_nil))))
        (pss_cons (ps_if (pt_not (pt_val (pe_c GT hr (by decide) (by rfl) (pa_cons (pe_ix ix_list (pv 1) (pv 6) (fun _ _ => rfl)) (pa_cons (pe_ix ix_list (pv 2) (pv 6) (fun _ _ => rfl)) (pa_cons (pv 5) pa_nil)))))) (pss_one (ps_ret pe_bl)) pss_nil)
        (pss_one (ps_for PassesOwn.never rfl (pi_range1 rfl T.range (pa_cons (pe_callB call_len_seq (by rfl) T.len PySem.boot_len (pa_cons (pv 1) pa_nil)) pa_nil)) (pg_name (i := 7) scL.nd rfl (Or.inl rfl))
          (pss_one (ps_if (pt_not (pt_val (pe_c GH hr (by decide) (by rfl) (pa_cons (pe_ix ix_list (pv 1) (pv 7) (fun _ _ => rfl)) (pa_cons (pe_ix ix_list (pv 2) (pv 7) (fun _ _ => rfl)) pa_nil))))) (pss_one (ps_ret pe_bl)) pss_nil)))))))))
      (pss_one (ps_ret pe_bl))))), ?_⟩
    -- scopes = [Scope()]
    intro x dx nx ndx nex
    have s0 : Same H (upd (upd H dx (.own x)) x (.ins C dx [])) := fun b o e => by
      rw [upd_ne (ne_of_none e nx), upd_ne (ne_of_none e ndx)]
      exact e
    refine ⟨x, dx, rfl, upd_same, fun d0 hd0 => ⟨rfl, by show 1 ≤ sizeLine; decide, fun S hSn => ?_⟩⟩
    have nd0 : H d0 = none := s0.free hd0
    have hxd : x ≠ d0 := fun e => by rw [← e, upd_same] at hd0; cases hd0
    have s1 : Same H (upd (upd (upd (upd H dx (.own x)) x (.ins C dx [])) d0 (.dK [])) x (.ins C dx (fsOf d0))) := fun b o e => by
      rw [upd_ne (ne_of_none e nx), upd_ne (ne_of_none e nd0)]
      exact s0 b o e
    have A0 : ScopeAt C (upd (upd (upd (upd H dx (.own x)) x (.ins C dx [])) d0 (.dK [])) x (.ins C dx (fsOf d0))) x d0 [] := ⟨⟨dx, upd_same⟩, by rw [upd_ne hxd.symm, upd_same]; rfl⟩
    generalize upd (upd (upd (upd H dx (.own x)) x (.ins C dx [])) d0 (.dK [])) x (.ins C dx (fsOf d0)) = H1 at s1 A0 hSn ⊢
    -- names = [[]]
    refine ⟨Nat.zero_le _, fun l0 hl0 => ⟨by show 1 ≤ sizeLine; decide, fun N hNn => ?_⟩⟩
    have nS : H S = none := s1.free hSn
    have hlS : l0 ≠ S := fun e => by rw [e, upd_same] at hl0; cases hl0
    have hl1 : H1 l0 = none := by rw [upd_ne hlS] at hl0; exact hl0
    have nl : H l0 = none := s1.free hl1
    have hNl : N ≠ l0 := fun e => by rw [e, upd_same] at hNn; cases hNn
    have hNS : N ≠ S := fun e => by rw [e, upd_ne hlS.symm, upd_same] at hNn; cases hNn
    have hN1 : H1 N = none := by rw [upd_ne hNl, upd_ne hNS] at hNn; exact hNn
    have nN : H N = none := s1.free hN1
    have s2 : Same H1 (upd (upd (upd H1 S (.lst [.ref x])) l0 (.lst [])) N (.lst [.ref l0])) := fun b o e => by
      rw [upd_ne (ne_of_none e hN1), upd_ne (ne_of_none e hl1), upd_ne (ne_of_none e hSn)]
      exact e
    have G0 : G9 C H (upd (upd (upd H1 S (.lst [.ref x])) l0 (.lst [])) N (.lst [.ref l0])) S N [⟨x, d0, l0, []⟩] 0 := by
      refine ⟨s1.trans s2, nS, nN, by rw [upd_ne hNS.symm, upd_ne hlS.symm, upd_same]; rfl, upd_same, hNS.symm, by simp, fun r hr => ?_, List.pairwise_singleton _ _⟩
      rw [List.mem_singleton.mp hr]
      exact ⟨A0.same s2, by rw [upd_ne hNl.symm, upd_same]; rfl, (fun n hn => by cases hn), Nat.le_refl _, nd0, nl⟩
    generalize upd (upd (upd H1 S (.lst [.ref x])) l0 (.lst [])) N (.lst [.ref l0]) = H2 at G0 ⊢
    -- split
    refine ⟨_, rfl, a, ns, 0, rfl, G0.same.seq hS, Int.le_refl _, fun zc => ?_⟩
    refine ⟨zc, 0, rfl, fun q0 z0 hq0 hz0 hz0' => ?_⟩
    have G1 := G0.new (o := .lst [.int z0]) hq0
    have nq0 : H q0 = none := G0.same.free hq0
    refine ⟨q0, z0, 30, rfl, upd_same, hz0, hz0', by decide, fun z1 spl h1 h2 h3 h4 => ?_⟩
    have G2 := G1.digit (z' := z1) upd_same nq0
    generalize upd (upd H2 q0 (.lst [.int z0])) q0 (.lst [.int z1]) = H3 at G2 ⊢
    -- the loop
    refine ⟨_, rfl, a, _, rfl, .inl (G2.same.seq hS), ?_⟩
    refine ⟨5, _, rfl, 45, _, rfl, ?_⟩
    generalize hT : (if (if ((ns.map V.int).length : Int) > 5 then ((ns.map V.int).length : Int) else 5) < 45 then (if ((ns.map V.int).length : Int) > 5 then ((ns.map V.int).length : Int) else 5) else 45) = tt
    have ht45 : tt ≤ 45 := by
      rw [← hT]
      split <;> omega
    have ht0 : 0 ≤ tt := by
      rw [← hT]
      split
      · split <;> omega
      · omega
    refine ⟨tt, rfl, by omega, by omega, ?_⟩
    refine for_range (lo := 0) (n := tt.toNat) (fun i σ H' => ∃ (rs : List Rec) (kk st wh jj : Option V), σ = [some (.ref a), some (.ref S), some (.ref N), some (.int spl), kk, st, wh, jj] ∧ G9 C H H' S N rs i ∧ rs.length ≤ i + 1)
      ⟨_, none, none, none, none, rfl, G2, Nat.le_refl _⟩ ?_ ?_
    · rintro i σ H4 hi ⟨rs, kk, st, wh, jj, rfl, G, hrs⟩
      have hi45 : i < 45 := by omega
      -- state = _law_start(_law_cell(script, k), k)
      refine ⟨_, rfl, _, rfl, a, ns, _, rfl, G.same.seq hS, by omega, fun zc => ?_⟩
      refine ⟨_, rfl, zc, _, rfl, fun q z hq hz hz' => ?_⟩
      have nq : H q = none := G.same.free hq
      have G5 := G.new (o := .lst [.int z]) hq
      have hqq : upd H4 q (.lst [.int z]) q = some (.lst [.int z]) := upd_same
      generalize upd H4 q (.lst [.int z]) = H5 at G5 hqq ⊢
      -- if k == split
      refine ⟨fun σ H' => ∃ rs' : List Rec, σ = [some (.ref a), some (.ref S), some (.ref N), some (.int spl), some (.int (0 + (i : Int))), some (.ref q), wh, jj] ∧ G9 C H H' S N rs' i ∧ rs'.length ≤ i + 2 ∧ H' q = some (.lst [.int z]), ?_, ?_⟩
      · refine ⟨_, rfl, _, rfl, rfl, _, rfl, ?_⟩
        refine ite2 (fun _ => ?_) (fun _ => ?_)
        · obtain ⟨r0, rr, hr0⟩ : ∃ r0 rr, rs = r0 :: rr := by
            cases rs with
            | nil => exact absurd rfl G5.ne
            | cons r0 rr => exact ⟨r0, rr, rfl⟩
          subst hr0
          obtain ⟨A1, hl1', ho1, hn1, _, _⟩ := G5.all r0 List.mem_cons_self
          obtain ⟨dx1, hp1⟩ := A1.ob
          refine ⟨_, rfl, .inl ⟨rfl, _, SqL.of G5.hS⟩, ?_⟩
          refine ⟨_, rfl, S, _, 0, V.ref r0.p, rfl, rfl, SqL.of G5.hS, atI_map (rs := r0 :: rr) (r := 0) (by decide) (by simp), ?_⟩
          refine ⟨r0.p, dx1, _, rfl, hp1, fsOf_no _ (by decide +kernel), r0.p, r0.d, r0.ns, rfl, A1, fun x' d' H6 sm hx' hd' A' => ?_⟩
          refine ⟨S, _, _, rfl, rfl, sm _ _ G5.hS, (by rw [List.length_map]; exact small1000 (by omega)), ?_⟩
          have gS6 : upd H6 S (.lst (((r0 :: rr).map fun r => V.ref r.p) ++ [.ref x'])) N = some (.lst ((r0 :: rr).map fun r => V.ref r.l)) := by
            rw [upd_ne G5.SN.symm]
            exact sm _ _ G5.hN
          have hl6 : H6 r0.l = some (.lst (r0.ns.map V.str)) := sm _ _ hl1'
          have hlS' : r0.l ≠ S := ne_of hl1' G5.hS fun e => refs_ne_str (List.cons_ne_nil _ _) e.symm
          refine ⟨_, rfl, .inl ⟨rfl, _, SqL.of gS6⟩, ?_⟩
          refine ⟨_, rfl, N, _, 0, V.ref r0.l, rfl, rfl, SqL.of gS6, atI_map (rs := r0 :: rr) (r := 0) (by decide) (by simp), ?_⟩
          refine ⟨r0.l, _, rfl, .inl (SqL.of (by rw [upd_ne hlS']; exact hl6)), fun l' hl' => ?_⟩
          have hNl' : N ≠ l' := ne_of_none gS6 hl'
          refine ⟨N, _, _, rfl, rfl, (by rw [upd_ne hNl']; exact gS6), (by rw [List.length_map]; exact small1000 (by omega)), ?_⟩
          have G6 := G5.add sm hx' hd' A' hl' ho1 hn1
          refine ⟨_, rfl, G6, by rw [List.length_append]; show (r0 :: rr).length + 1 ≤ i + 2; omega, ?_⟩
          have hqS : q ≠ S := ne_of hqq G5.hS fun e => refs_ne_int e.symm
          have hqN : q ≠ N := ne_of hqq G5.hN fun e => refs_ne_int e.symm
          have hq6 : H6 q = some (.lst [.int z]) := sm _ _ hqq
          rw [upd_ne hqN, upd_ne (ne_of_none (by rw [upd_ne hqS]; exact hq6) hl'), upd_ne hqS]
          exact hq6
        · exact ⟨rs, rfl, G5, by omega, hqq⟩
      · rintro σ H6 ⟨rs', rfl, G6, hrs', hq6⟩
        have hpos : 0 < rs'.length := List.length_pos_iff.mpr G6.ne
        -- which = _law_digit(state, len(scopes))
        refine ⟨_, rfl, _, rfl, S, _, rfl, .inl (SqL.of G6.hS), ?_⟩
        refine ⟨q, z, _, rfl, hq6, hz, hz', (by rw [List.length_map]; omega), fun z2 r hz2 hz2' hr0 hr1 => ?_⟩
        have G7 := G6.digit (z' := z2) hq6 nq
        have hq7 : upd H6 q (.lst [.int z2]) q = some (.lst [.int z2]) := upd_same
        generalize upd H6 q (.lst [.int z2]) = H7 at G7 hq7 ⊢
        rw [List.length_map] at hr1
        have hri : r.toNat < rs'.length := by omega
        -- _law_step(scopes[which], names[which], state)
        refine ⟨_, rfl, _, rfl, S, _, r, _, rfl, rfl, SqL.of G7.hS, atI_map hr0 hri, ?_⟩
        refine ⟨_, rfl, _, rfl, N, _, r, _, rfl, rfl, SqL.of G7.hN, atI_map hr0 hri, ?_⟩
        obtain ⟨B1, B2, B3, B4, B5, B6⟩ := G7.all _ (List.getElem_mem hri)
        refine ⟨_, rfl, H7, _, rs'[r.toNat].d, _, q, rs'[r.toNat].ns, z2, rfl, ⟨B1, B2, hq7, hz2, hz2', fun b o e _ _ _ => e⟩, by omega, B3, fun ns' z' H8 W hl' ho' => ?_⟩
        have G8 := G7.step hri hq7 nq W hl' ho'
        refine ⟨_, rfl, ?_⟩
        dsimp only
        rw [if_neg (by decide)]
        generalize hrs8 : rs'.set r.toNat { rs'[r.toNat] with ns := ns' } = rs8 at G8
        have hl8 : rs8.length ≤ i + 2 := by rw [← hrs8, List.length_set]; exact hrs'
        -- for j in range(len(scopes))
        refine ⟨_, rfl, S, _, rfl, .inl (SqL.of G8.hS), _, rfl, by omega, (by rw [List.length_map]; omega), ?_⟩
        refine for_range (lo := 0) (fun j σ H' => ∃ jj : Option V, σ = [some (.ref a), some (.ref S), some (.ref N), some (.int spl), some (.int (0 + (i : Int))), some (.ref q), some (.int r), jj] ∧ G9 C H H' S N rs8 (i + 1))
          ⟨jj, rfl, G8⟩ ?_ ?_
        · rintro j σ H9 hj ⟨jj', rfl, G9'⟩
          rw [List.length_map] at hj
          have hj' : (0 + (j : Int)).toNat < rs8.length := by omega
          refine ⟨_, rfl, _, rfl, S, _, _, _, rfl, rfl, SqL.of G9'.hS, atI_map (by omega) hj', ?_⟩
          refine ⟨_, rfl, _, rfl, N, _, _, _, rfl, rfl, SqL.of G9'.hN, atI_map (by omega) hj', ?_⟩
          obtain ⟨D1, D2, D3, D4, _, _⟩ := G9'.all _ (List.getElem_mem hj')
          refine ⟨_, _, _, _, rfl, D1, D2, by omega, D3, fun H10 sm => ?_⟩
          refine ⟨_, rfl, ?_⟩
          dsimp only
          rw [if_neg (by decide)]
          exact ⟨_, rfl, G9'.sameH sm⟩
        · rintro σ H9 ⟨jj', rfl, G9'⟩
          exact ⟨rs8, _, _, _, _, rfl, G9', hl8⟩
    · rintro σ H4 ⟨rs, kk, st, wh, jj, rfl, G, hrs⟩
      exact k H4
end
end VL

set_option Elab.async false
set_option linter.all false
set_option maxRecDepth 100000
set_option maxHeartbeats 4000000
namespace VL
open PySem PySem.Spec PyProof.Rows L2
theorem all_mk {l : PySem.W.OpenLaw} {w : World} {K : PySem.W.Frag} {h : Heap} {mg : Str → Option Value} {fa C f1 f2 f3 f4 f5 f6 f7 f8 f9 f10 f11 f12 f13 f14 : Addr} (X : K.In h) (G : h.Ns mainGlobals mg) (hfa : mg "law" = some (.ref fa))
    {od1 an1 od2 an2 od3 an3 od4 an4 od5 an5 od6 an6 od7 an7 od8 an8 od9 an9 od10 an10 od11 an11 od12 an12 od13 an13 od14 an14 : Option Addr} {sl1 sl2 sl3 sl4 sl5 sl6 sl7 sl8 sl9 sl10 sl11 sl12 sl13 sl14 : Array (Option Value)} {oc1 kV1 dc1 pm1 cd1 ct1 oc2 kV2 dc2 pm2 cd2 ct2 oc3 kV3 dc3 pm3 cd3 ct3 oc4 kV4 dc4 pm4 cd4 ct4 oc5 kV5 dc5 pm5 cd5 ct5 oc6 kV6 dc6 pm6 cd6 ct6 oc7 kV7 dc7 pm7 cd7 ct7 oc8 kV8 dc8 pm8 cd8 ct8 oc9 kV9 dc9 pm9 cd9 ct9 oc10 kV10 dc10 pm10 cd10 ct10 oc11 kV11 dc11 pm11 cd11 ct11 oc12 kV12 dc12 pm12 cd12 ct12 oc13 kV13 dc13 pm13 cd13 ct13 oc14 kV14 dc14 pm14 cd14 ct14 : Value}
    (aC : PySem.W.nsIn K mainGlobals "Scope" = some (some (.ref C)))
    (a1 : PySem.W.findIn K (.ref C) "__init__" = some (some (.ref f1)))
    (i1 : PySem.W.isFn K (.ref f1) = true)
    (l1 : K.lookup f1 = some ⟨oc1, od1, .func (PySem.W.fnOf "__init__" "Scope.__init__" (defArgs sInit) (defBody sInit) (defScope sInit) .none kV1 dc1 pm1 an1 cd1 ct1), sl1⟩)
    (c1 : PySem.W.codeIn K cd1 "Scope.__init__" = true)
    (k1 : PySem.W.keepIn K (.ref f1) = true)
    (a2 : PySem.W.findIn K (.ref C) "__contains__" = some (some (.ref f2)))
    (i2 : PySem.W.isFn K (.ref f2) = true)
    (l2 : K.lookup f2 = some ⟨oc2, od2, .func (PySem.W.fnOf "__contains__" "Scope.__contains__" (defArgs sContains) (defBody sContains) (defScope sContains) .none kV2 dc2 pm2 an2 cd2 ct2), sl2⟩)
    (c2 : PySem.W.codeIn K cd2 "Scope.__contains__" = true)
    (k2 : PySem.W.keepIn K (.ref f2) = true)
    (a3 : PySem.W.findIn K (.ref C) "__iter__" = some (some (.ref f3)))
    (i3 : PySem.W.isFn K (.ref f3) = true)
    (l3 : K.lookup f3 = some ⟨oc3, od3, .func (PySem.W.fnOf "__iter__" "Scope.__iter__" (defArgs sIter) (defBody sIter) (defScope sIter) .none kV3 dc3 pm3 an3 cd3 ct3), sl3⟩)
    (c3 : PySem.W.codeIn K cd3 "Scope.__iter__" = true)
    (k3 : PySem.W.keepIn K (.ref f3) = true)
    (a4 : PySem.W.findIn K (.ref C) "__len__" = some (some (.ref f4)))
    (i4 : PySem.W.isFn K (.ref f4) = true)
    (l4 : K.lookup f4 = some ⟨oc4, od4, .func (PySem.W.fnOf "__len__" "Scope.__len__" (defArgs sLen) (defBody sLen) (defScope sLen) .none kV4 dc4 pm4 an4 cd4 ct4), sl4⟩)
    (c4 : PySem.W.codeIn K cd4 "Scope.__len__" = true)
    (k4 : PySem.W.keepIn K (.ref f4) = true)
    (a5 : PySem.W.findIn K (.ref C) "declare" = some (some (.ref f5)))
    (i5 : PySem.W.isFn K (.ref f5) = true)
    (l5 : K.lookup f5 = some ⟨oc5, od5, .func (PySem.W.fnOf "declare" "Scope.declare" (defArgs sDeclare) (defBody sDeclare) (defScope sDeclare) .none kV5 dc5 pm5 an5 cd5 ct5), sl5⟩)
    (c5 : PySem.W.codeIn K cd5 "Scope.declare" = true)
    (k5 : PySem.W.keepIn K (.ref f5) = true)
    (a6 : PySem.W.findIn K (.ref C) "allow" = some (some (.ref f6)))
    (i6 : PySem.W.isFn K (.ref f6) = true)
    (l6 : K.lookup f6 = some ⟨oc6, od6, .func (PySem.W.fnOf "allow" "Scope.allow" (defArgs sAllow) (defBody sAllow) (defScope sAllow) .none kV6 dc6 pm6 an6 cd6 ct6), sl6⟩)
    (c6 : PySem.W.codeIn K cd6 "Scope.allow" = true)
    (k6 : PySem.W.keepIn K (.ref f6) = true)
    (a7 : PySem.W.findIn K (.ref C) "inner" = some (some (.ref f7)))
    (i7 : PySem.W.isFn K (.ref f7) = true)
    (l7 : K.lookup f7 = some ⟨oc7, od7, .func (PySem.W.fnOf "inner" "Scope.inner" (defArgs sInner) (defBody sInner) (defScope sInner) .none kV7 dc7 pm7 an7 cd7 ct7), sl7⟩)
    (c7 : PySem.W.codeIn K cd7 "Scope.inner" = true)
    (k7 : PySem.W.keepIn K (.ref f7) = true)
    (a8 : PySem.W.nsIn K mainGlobals "_law_cell" = some (some (.ref f8)))
    (l8 : K.lookup f8 = some ⟨oc8, od8, .func (PySem.W.fnOf "_law_cell" "_law_cell" (defArgs sCell) (defBody sCell) (defScope sCell) .none kV8 dc8 pm8 an8 cd8 ct8), sl8⟩)
    (c8 : PySem.W.codeIn K cd8 "_law_cell" = true)
    (k8 : PySem.W.keepIn K (.ref f8) = true)
    (a9 : PySem.W.nsIn K mainGlobals "_law_is_integer" = some (some (.ref f9)))
    (l9 : K.lookup f9 = some ⟨oc9, od9, .func (PySem.W.fnOf "_law_is_integer" "_law_is_integer" (defArgs sIsInt) (defBody sIsInt) (defScope sIsInt) .none kV9 dc9 pm9 an9 cd9 ct9), sl9⟩)
    (c9 : PySem.W.codeIn K cd9 "_law_is_integer" = true)
    (k9 : PySem.W.keepIn K (.ref f9) = true)
    (a10 : PySem.W.nsIn K mainGlobals "_law_start" = some (some (.ref f10)))
    (l10 : K.lookup f10 = some ⟨oc10, od10, .func (PySem.W.fnOf "_law_start" "_law_start" (defArgs sStart) (defBody sStart) (defScope sStart) .none kV10 dc10 pm10 an10 cd10 ct10), sl10⟩)
    (c10 : PySem.W.codeIn K cd10 "_law_start" = true)
    (k10 : PySem.W.keepIn K (.ref f10) = true)
    (a11 : PySem.W.nsIn K mainGlobals "_law_digit" = some (some (.ref f11)))
    (l11 : K.lookup f11 = some ⟨oc11, od11, .func (PySem.W.fnOf "_law_digit" "_law_digit" (defArgs sDigit) (defBody sDigit) (defScope sDigit) .none kV11 dc11 pm11 an11 cd11 ct11), sl11⟩)
    (c11 : PySem.W.codeIn K cd11 "_law_digit" = true)
    (k11 : PySem.W.keepIn K (.ref f11) = true)
    (a12 : PySem.W.nsIn K mainGlobals "_law_step" = some (some (.ref f12)))
    (l12 : K.lookup f12 = some ⟨oc12, od12, .func (PySem.W.fnOf "_law_step" "_law_step" (defArgs sStep) (defBody sStep) (defScope sStep) .none kV12 dc12 pm12 an12 cd12 ct12), sl12⟩)
    (c12 : PySem.W.codeIn K cd12 "_law_step" = true)
    (k12 : PySem.W.keepIn K (.ref f12) = true)
    (a13 : PySem.W.nsIn K mainGlobals "_law_shows" = some (some (.ref f13)))
    (l13 : K.lookup f13 = some ⟨oc13, od13, .func (PySem.W.fnOf "_law_shows" "_law_shows" (defArgs sShows) (defBody sShows) (defScope sShows) .none kV13 dc13 pm13 an13 cd13 ct13), sl13⟩)
    (c13 : PySem.W.codeIn K cd13 "_law_shows" = true)
    (k13 : PySem.W.keepIn K (.ref f13) = true)
    (a14 : PySem.W.nsIn K mainGlobals "law" = some (some (.ref f14)))
    (l14 : K.lookup f14 = some ⟨oc14, od14, .func (PySem.W.fnOf "law" "law" (defArgs sLaw) (defBody sLaw) (defScope sLaw) .none kV14 dc14 pm14 an14 cd14 ct14), sl14⟩)
    (c14 : PySem.W.codeIn K cd14 "law" = true)
    (k14 : PySem.W.keepIn K (.ref f14) = true)
    (pg : PySem.W.plainGet K C Str.empty = true)
    (hd : PySem.W.hasDictIn K C = true)
    (po : PySem.W.plainOver K C = true)
    (sa : PySem.W.findIn K (.ref C) "__setattr__" = some (some (.builtin "object.__setattr__")))
    (mk : PySem.W.makesIn K C = true)
    (kc : PySem.W.keepIn K (.ref C) = true)
    (nN : PySem.W.findIn K (.ref C) "names" = some none)
    (z_len : PySem.W.nsIn K mainGlobals "len" = some none)
    (z_dict : PySem.W.nsIn K mainGlobals "dict" = some none)
    (z_isinstance : PySem.W.nsIn K mainGlobals "isinstance" = some none)
    (z_int : PySem.W.nsIn K mainGlobals "int" = some none)
    (z_bool : PySem.W.nsIn K mainGlobals "bool" = some none)
    (z_range : PySem.W.nsIn K mainGlobals "range" = some none)
    (z_min : PySem.W.nsIn K mainGlobals "min" = some none)
    (z_max : PySem.W.nsIn K mainGlobals "max" = some none)
    (z_list : PySem.W.nsIn K mainGlobals "list" = some none)
    (z_iter : PySem.W.nsIn K mainGlobals "iter" = some none)
    : ∃ fd : FuncData, (∀ (s : Shared) (v : Value), BindsTo s fd ⟨[v], []⟩ [("script", v)]) ∧ ∀ base : Heap, K.In base → base.Ns mainGlobals mg → FnOk l.prog w K mg base CX0 5 fa fd ["script"] (spLaw K) := by
  have e := hfa.symm.trans (PySem.W.mg_of X G a14)
  cases e
  have F1 := fun_mk (st := sInit) l1 c1 k1
  have b1 := F1.binds (ps := ["self"]) fun _ _ _ _ _ _ us hl => match us, hl with | [_], _ => rfl
  have F2 := fun_mk (st := sContains) l2 c2 k2
  have b2 := F2.binds (ps := ["self", "name"]) fun _ _ _ _ _ _ us hl => match us, hl with | [_, _], _ => rfl
  have F3 := fun_mk (st := sIter) l3 c3 k3
  have b3 := F3.binds (ps := ["self"]) fun _ _ _ _ _ _ us hl => match us, hl with | [_], _ => rfl
  have F4 := fun_mk (st := sLen) l4 c4 k4
  have b4 := F4.binds (ps := ["self"]) fun _ _ _ _ _ _ us hl => match us, hl with | [_], _ => rfl
  have F5 := fun_mk (st := sDeclare) l5 c5 k5
  have b5 := F5.binds (ps := ["self", "name"]) fun _ _ _ _ _ _ us hl => match us, hl with | [_, _], _ => rfl
  have F6 := fun_mk (st := sAllow) l6 c6 k6
  have b6 := F6.binds (ps := ["self", "name"]) fun _ _ _ _ _ _ us hl => match us, hl with | [_, _], _ => rfl
  have F7 := fun_mk (st := sInner) l7 c7 k7
  have b7 := F7.binds (ps := ["self"]) fun _ _ _ _ _ _ us hl => match us, hl with | [_], _ => rfl
  have F8 := fun_mk (st := sCell) l8 c8 k8
  have b8 := F8.binds (ps := ["script", "k"]) fun _ _ _ _ _ _ us hl => match us, hl with | [_, _], _ => rfl
  have F9 := fun_mk (st := sIsInt) l9 c9 k9
  have b9 := F9.binds (ps := ["told"]) fun _ _ _ _ _ _ us hl => match us, hl with | [_], _ => rfl
  have F10 := fun_mk (st := sStart) l10 c10 k10
  have b10 := F10.binds (ps := ["cell", "k"]) fun _ _ _ _ _ _ us hl => match us, hl with | [_, _], _ => rfl
  have F11 := fun_mk (st := sDigit) l11 c11 k11
  have b11 := F11.binds (ps := ["state", "many"]) fun _ _ _ _ _ _ us hl => match us, hl with | [_, _], _ => rfl
  have F12 := fun_mk (st := sStep) l12 c12 k12
  have b12 := F12.binds (ps := ["scope", "names", "state"]) fun _ _ _ _ _ _ us hl => match us, hl with | [_, _, _], _ => rfl
  have F13 := fun_mk (st := sShows) l13 c13 k13
  have b13 := F13.binds (ps := ["scope", "names"]) fun _ _ _ _ _ _ us hl => match us, hl with | [_, _], _ => rfl
  have T : Txt K mg C := ⟨⟨pg, hd, po, sa⟩, nN, PySem.W.mg_of X G aC, PySem.W.mg_none_of X G z_len, PySem.W.mg_none_of X G z_dict, PySem.W.mg_none_of X G z_isinstance, PySem.W.mg_none_of X G z_int, PySem.W.mg_none_of X G z_bool, PySem.W.mg_none_of X G z_range, PySem.W.mg_none_of X G z_min, PySem.W.mg_none_of X G z_max, PySem.W.mg_none_of X G z_list, PySem.W.mg_none_of X G z_iter,
    ⟨_, _, F8, PySem.W.mg_of X G a8, b8⟩, ⟨_, _, F9, PySem.W.mg_of X G a9, b9⟩, ⟨_, _, F10, PySem.W.mg_of X G a10, b10⟩, ⟨_, _, F11, PySem.W.mg_of X G a11, b11⟩, ⟨_, _, F12, PySem.W.mg_of X G a12, b12⟩, ⟨_, _, F13, PySem.W.mg_of X G a13, b13⟩,
    ⟨_, _, F1, ⟨mk, a1, i1, kc⟩, b1⟩, ⟨_, _, F2, ⟨a2, i2, k2⟩, b2⟩, ⟨_, _, F3, ⟨a3, i3, k3⟩, b3⟩, ⟨_, _, F4, ⟨a4, i4, k4⟩, b4⟩, ⟨_, _, F5, ⟨a5, i5, k5⟩, b5⟩, ⟨_, _, F6, ⟨a6, i6, k6⟩, b6⟩, ⟨_, _, F7, ⟨a7, i7, k7⟩, b7⟩,
    ⟨_, _, F2, a2, i2, b2⟩, ⟨_, _, F3, a3, i3, b3⟩, ⟨_, _, F4, a4, i4, b4⟩⟩
  exact ⟨_, fun s v => .of_eq rfl, fun base _ _ => ok_law (fun_mk (st := sLaw) l14 c14 k14) T⟩
theorem walk {l : PySem.W.OpenLaw} {q : Program} {loose : List Str} {XP : (Str → Option Value) → Heap → Prop} {YP : World → Heap → Prop} {d : DefRec} {K : Params → PySem.W.Frag} (hn : l.most = some 63) (hdf : d.params.defaults = [])
    (hY : ∀ (w : World) (h : Heap), YP w h → (K w.params).In h)
    (F : ∀ (w : World) (mg : Str → Option Value) (fa : Addr) (h : Heap), (K w.params).In h → h.Ns mainGlobals mg → mg d.name = some (.ref fa) →
      ∃ fd : FuncData, (∀ (s : Shared) (u : Value), BindsTo s fd ⟨[u], []⟩ [("script", u)]) ∧ ∀ base : Heap, (K w.params).In base → base.Ns mainGlobals mg → FnOk l.prog w (K w.params) mg base CX0 5 fa fd ["script"] (spLaw (K w.params))) :
    PySem.W.WalkO q loose XP YP l.row.toRowW d [] (fun f vs => PySem.call f vs) :=
  L2.walk_of (n := 63) (k := 5) (x := "script") (CX := fun _ => CX0) (sp := fun w => spLaw (K w.params)) hn (by decide) hdf ⟨rfl, by decide, by decide⟩ hY F (fun _ _ a ns hl _ hS => ⟨a, ns, rfl, hS, hl, fun _ => rfl⟩) fun _ _ _ _ _ z => z
end VL

open PySem PySem.W PyProof.Rows in
set_option maxRecDepth 100000 in
set_option maxHeartbeats 0 in
theorem PySem.Challenge.cw_viewloom_k09_scopes_holds : PySem.Challenge.rw_viewloom_k09_scopes.Holds := by
  w_on; o_law; k_head; (case hw => w_witness2)
  k_fill
  refine VL.walk (l := PySem.Challenge.rw_viewloom_k09_scopes) rfl rfl (fun w h Y => PySem.W.kIn_of Y) ?F
  case F =>
    intro w mg fa h KX G hmg
    refine' VL.all_mk KX G hmg ?aC ?a1 ?i1 ?l1 ?c1 ?k1 ?a2 ?i2 ?l2 ?c2 ?k2 ?a3 ?i3 ?l3 ?c3 ?k3 ?a4 ?i4 ?l4 ?c4 ?k4 ?a5 ?i5 ?l5 ?c5 ?k5 ?a6 ?i6 ?l6 ?c6 ?k6 ?a7 ?i7 ?l7 ?c7 ?k7 ?a8 ?l8 ?c8 ?k8 ?a9 ?l9 ?c9 ?k9 ?a10 ?l10 ?c10 ?k10 ?a11 ?l11 ?c11 ?k11 ?a12 ?l12 ?c12 ?k12 ?a13 ?l13 ?c13 ?k13 ?a14 ?l14 ?c14 ?k14 ?pg ?hd ?po ?sa ?mk ?kc ?nN ?z_len ?z_dict ?z_isinstance ?z_int ?z_bool ?z_range ?z_min ?z_max ?z_list ?z_iter
    (case aC => k_is)
    (case a1 => k_is)
    (case i1 => k_is)
    (case l1 => k_is)
    (case c1 => k_is)
    (case k1 => k_is)
    (case a2 => k_is)
    (case i2 => k_is)
    (case l2 => k_is)
    (case c2 => k_is)
    (case k2 => k_is)
    (case a3 => k_is)
    (case i3 => k_is)
    (case l3 => k_is)
    (case c3 => k_is)
    (case k3 => k_is)
    (case a4 => k_is)
    (case i4 => k_is)
    (case l4 => k_is)
    (case c4 => k_is)
    (case k4 => k_is)
    (case a5 => k_is)
    (case i5 => k_is)
    (case l5 => k_is)
    (case c5 => k_is)
    (case k5 => k_is)
    (case a6 => k_is)
    (case i6 => k_is)
    (case l6 => k_is)
    (case c6 => k_is)
    (case k6 => k_is)
    (case a7 => k_is)
    (case i7 => k_is)
    (case l7 => k_is)
    (case c7 => k_is)
    (case k7 => k_is)
    (case a8 => k_is)
    (case l8 => k_is)
    (case c8 => k_is)
    (case k8 => k_is)
    (case a9 => k_is)
    (case l9 => k_is)
    (case c9 => k_is)
    (case k9 => k_is)
    (case a10 => k_is)
    (case l10 => k_is)
    (case c10 => k_is)
    (case k10 => k_is)
    (case a11 => k_is)
    (case l11 => k_is)
    (case c11 => k_is)
    (case k11 => k_is)
    (case a12 => k_is)
    (case l12 => k_is)
    (case c12 => k_is)
    (case k12 => k_is)
    (case a13 => k_is)
    (case l13 => k_is)
    (case c13 => k_is)
    (case k13 => k_is)
    (case a14 => k_is)
    (case l14 => k_is)
    (case c14 => k_is)
    (case k14 => k_is)
    (case pg => k_is)
    (case hd => k_is)
    (case po => k_is)
    (case sa => k_is)
    (case mk => k_is)
    (case kc => k_is)
    (case nN => k_is)
    (case z_len => k_is)
    (case z_dict => k_is)
    (case z_isinstance => k_is)
    (case z_int => k_is)
    (case z_bool => k_is)
    (case z_range => k_is)
    (case z_min => k_is)
    (case z_max => k_is)
    (case z_list => k_is)
    (case z_iter => k_is)
#print axioms PySem.Challenge.cw_viewloom_k09_scopes_holds
