import PyProof.Rows.All
import Wide.All
import OpenK.AllK
import Wide.FinOn
import HandS.ForMost
import HandS.WideBits
import HandS.WideMore
import HandS.Gcd
import HandS.IsInst
import HandS.EndBits
import HandS.WordsExc
import HandS.Style
import PyProof.ReprRoads
import HandS.Zip
import HandS.Zip0
import PyProof.EnumMake
import PyProof.Draws
import PyProof.AutoIntOps
import HandS.Conv
import KE.GoesZip
import KE.GoesMore
import HandS.Rev
import HandS.TupAny
import HandS.DictComp
import HandS.WordsDict
import HandS.ExcInit
import HandS.ExcField
import HandS.TryMany
import KE.KExcInit
import KE.KIntText
import HandS.Lambda
import HandS.EndTab
import KE.KNest
import HandS.ExcOwn
import PyProof.AttrMiss
import HandS.SortRule
import HandS.SortInts
import PyProof.P3Eq
import HandS.SortKw
import PyProof.WalkInts
import HandS.TupMul
import HandS.Strs
import HandS.Dict
import HandS.DictTup
import HandS.More
import KE.SortData
import HandS.Deep
import HandS.Sort
import KE.KStateDown
import HandS.Set
import HandS.SetFor
import PyProof.TupleOfGen
import KE.KMathGC
import KE.SortKeyHeap
import KE.DataMinMax
import HandS.ExcIs
import KE.KTryMore
import HandS.HotCalls
import PySem.Challenge.RW_restworld_k26_whole_exact_covers
set_option Elab.async false
set_option linter.all false
set_option maxRecDepth 100000
set_option maxHeartbeats 2000000
set_option exponentiation.threshold 256
namespace Vf
open PySem PySem.Spec PyProof.Rows L2

/-! ## a def of the text, known by its name, with its promise; entered only where no repr is under way -/
structure Ok (P : Program) (w : World) (K : PySem.W.Frag) (mg : Str → Option Value) (base : Heap) (k : Nat) (x : Str) (st : Stmt) (ps : List Str) (sp : Sp) : Prop where
  mk ::
  ex : ∃ f fd, L2.Fun K x x st f fd ∧ mg x = some (.ref f) ∧
    (∀ (A : Around) (outer : List Env) (s : Shared) (H : Hp) (args : Args) (us : List Value) (vs : List V) (Q : VK) (E : XK),
      A.guards = some [] → Room k A → Env0 P w K mg base A outer s H → BindsTo s fd args (ps.zip us) → Vals vs us → sp vs H Q E →
        codeAny (model P w) A (.call (.ref f) args) (CR (CX P w) outer P w H s Q E) s)
  len : ∀ vs H Q E, sp vs H Q E → vs.length = ps.length

/-- where a def of the text stands -/
def At (K : PySem.W.Frag) (mg : Str → Option Value) (x : Str) (st : Stmt) : Prop :=
  ∃ f fd, L2.Fun K x x st f fd ∧ mg x = some (.ref f)

section
variable {P : Program} {w : World} {K : PySem.W.Frag} {mg : Str → Option Value} {base : Heap} {k j : Nat} {x : Str} {st : Stmt} {ps N : List Str} {sp sp' : Sp}
theorem Ok.mono (G : Ok P w K mg base j x st ps sp) (h : j ≤ k) : Ok P w K mg base k x st ps sp := by
  obtain ⟨⟨f, fd, F, g, r⟩, l⟩ := G
  exact ⟨⟨f, fd, F, g, fun A outer s H args us vs Q E hg hr => r A outer s H args us vs Q E hg (hr.mono h)⟩, l⟩
theorem Ok.imp (G : Ok P w K mg base k x st ps sp) (h : ∀ vs H Q E, sp' vs H Q E → sp vs H Q E) : Ok P w K mg base k x st ps sp' := by
  obtain ⟨⟨f, fd, F, g, r⟩, l⟩ := G
  exact ⟨⟨f, fd, F, g, fun A outer s H args us vs Q E hg hr he hb hv hs => r A outer s H args us vs Q E hg hr he hb hv (h _ _ _ _ hs)⟩, fun vs H Q E q => l vs H Q E (h _ _ _ _ q)⟩

/-- the rule for a def: the term of its body, then its reading -/
theorem At.ok (a : At K mg x st) (S : FnScope N ps (defScope st)) (len : ∀ vs H Q E, sp vs H Q E → vs.length = ps.length)
    (hbody : ∀ (f : Addr) (cdv : Value) (A : Around) (outer : List Env) (s : Shared) (H : Hp) (vs : List V) (Q : VK) (E : XK),
      (A.deeper (envOfC x (defScope st) s.heap.objs.size f cdv)).guards = some [] →
      Room k (A.deeper (envOfC x (defScope st) s.heap.objs.size f cdv)) → sp vs H Q E →
      ∃ t, PSs (cxOf (CX P w) P w K mg base N x (defScope st) f cdv A outer s H E) (defBody st) t ∧
        t { nx := fun _ H' => Q .non H', rt := Q } (L2.start N vs) H) : Ok P w K mg base (k + 1) x st ps sp := by
  obtain ⟨f, fd, F, g⟩ := a
  have F2 := F
  obtain ⟨⟨oc, od, kV, doc, pm, an, cdv, ct, osl, rfl, lk, hcd⟩, kp⟩ := F
  refine ⟨⟨f, _, F2, g, fun A outer s H args us vs Q E hg hr e0 hb r hsp => ?_⟩, len⟩
  have hl := len _ _ _ _ hsp
  have stay : ∀ b o, base.get? b = some o → s.heap.get? b = some o := fun b o e => (e0.bs b o e).1
  have KX : K.In s.heap := e0.mod.kin.keeps stay
  have lim : s.heap.NoLimit := e0.mod.nolimit.keeps stay
  refine codeAny_call_function hr.depth (KX _ _ lk) rfl S.co S.gen rfl
    (PySem.W.codeRec_of KX hcd) (hb _ _ _ _ ?_)
  refine wpAny_newFunctionEnv_cells S.kind (fun ⟨n, v⟩ hy => ?_) fun env he s1 x1 => ?_
  · rcases S.par n (List.of_mem_zip hy).1 with q | q
    · exact Or.inl q
    · exact Or.inr ⟨q, PySem.W.cellsFrom_some _ _ _ (Or.inl q)⟩
  subst he
  refine ⟨lim.keeps x1.toInCall.keep, codeAny_func ?_⟩
  obtain ⟨t, ht, hq⟩ := hbody f cdv A outer s H vs Q E hg (hr.deeper _) hsp
  have I := inv_start (CX := CX P w) (E := E) S hr.hd e0 hl r x1
  refine wpAny_mono (ht.run [] s1 _ H _ I hq) (fun fl s' hs => ?_) fun e s' hs => hs
  cases fl with
  | ret u =>
    obtain ⟨v, σ', H', J, rv, q⟩ := hs
    exact ⟨v, H', J.os, J.bare, J.base, J.hok, rv, q⟩
  | next =>
    obtain ⟨σ', H', J, q⟩ := hs
    exact ⟨V.non, H', J.os, J.bare, J.base, J.hok, rfl, q⟩
  | brk =>
    obtain ⟨_, _, _, z⟩ := hs
    exact (show False from z).elim
  | cont =>
    obtain ⟨_, _, _, z⟩ := hs
    exact (show False from z).elim
end

section
variable {X : Cx} {k : Nat} {ps ks : List Str} {sp : Sp} {E : XK} {x : Str} {st : Stmt} {p pos : Pos} {e : Expr} {es : List Expr} {kws : List Keyword} {t tk : TA}
/-- the callee runs -/
theorem run_g {pins : List (Addr × Obj)} {σ : L2.St} {H : Hp} {s : Shared} {Q : VK} {us : List Value} {vs : List V} {f : Addr} {fd : FuncData} {args : Args}
    (r : ∀ (A : Around) (outer : List Env) (s : Shared) (H : Hp) (args : Args) (us : List Value) (vs : List V) (Q : VK) (E : XK),
      A.guards = some [] → Room k A → Env0 X.prog X.w X.K X.mg X.base A outer s H → BindsTo s fd args (ps.zip us) → Vals vs us → sp vs H Q E →
        codeAny (model X.prog X.w) A (.call (.ref f) args) (CR (CX X.prog X.w) outer X.prog X.w H s Q E) s)
    (hg : X.A.guards = some []) (hr : Room k X.A) (hx : Passes (CX X.prog X.w) X E)
    (I : Inv X pins σ H s) (hb : BindsTo s fd args (ps.zip us)) (hv : Vals vs us) (h : sp vs H Q E) :
    codeAny (model X.prog X.w) X.A (.call (.ref f) args)
      (fun r s' => match r with | .ok (.ret u) => EP X pins σ Q u s' | .ok _ => False | .error e => X.xe e s') s := by
  refine codeAny_mono (r X.A X.stack s H args us vs Q E hg hr I.env0 hb hv h) fun r s' hq => ?_
  cases r with
  | error e => exact hx pins σ H s e s' I hq
  | ok fl =>
    cases fl with
    | ret u => exact I.after hq
    | next => exact hq
    | brk => exact hq
    | cont => exact hq

/-- f(e, ..), every parameter given by its place -/
theorem pe_g (G : Ok X.prog X.w X.K X.mg X.base k x st ps sp) (b : ∀ f fd, L2.Fun X.K x x st f fd → L2.Binds X.K fd ps [])
    (hg : X.A.guards = some []) (hr : Room k X.A) (hx : Passes (CX X.prog X.w) X E) (gl : Gl X x) (ha : PA X (e :: es) t)
    (hdb : (x == ("__debug__" : Str)) = false := by decide)
    (he : starEach (e :: es) X.env = (false, eval e X.env) :: starEach es X.env := by rfl)
    (hpl : (backTo pos (starEach es X.env)).any (·.1) = false := by rfl) :
    PE X (.Call (.Name x p) (e :: es) [] pos) (tCall sp [] E t) := by
  obtain ⟨⟨f, fd, F, hm, r⟩, l⟩ := G
  refine ⟨fun pins s σ H Q I h => ?_⟩
  refine wpAny_Call_Name_kw (ld_glob I gl hm ?_ hdb)
  refine PySem.W.callWith_K (h₀ := X.base) I.ok.mod.kin F.kp
    (thn (ha.run pos pins s σ H _ I h) fun us s1 ⟨vs, H1, I1, r1, q⟩ => ⟨I1.kIn, ?_⟩) he hpl
  have q1 : sp (vs ++ []) H1 Q E := q
  rw [List.append_nil] at q1
  have hl : us.length = ps.length := by rw [← r1.length]; exact l _ _ _ _ q1
  have bb := b f fd F s1 us I1.kIn (by rw [List.append_nil]; exact hl)
  rw [List.append_nil] at bb
  refine wpAny_call (codeAny_mono (run_g r hg hr hx I1 bb r1 q1) fun z s' hz => ?_)
  cases z with
  | error e => exact hz
  | ok fl => cases fl <;> exact hz
/-- f(.., k = v) -/
theorem pe_gk {gf : List Value → List Value → List Value} {gV : List V → List V → List V} (G : Ok X.prog X.w X.K X.mg X.base k x st ps sp)
    (b : ∀ f fd, L2.Fun X.K x x st f fd → KBinds X.K fd ps ks gf gV)
    (hg : X.A.guards = some []) (hr : Room k X.A) (hx : Passes (CX X.prog X.w) X E) (gl : Gl X x) (ha : PA X (e :: es) t) (hkw : PK X kws tk)
    (hall : (backToKw pos (keywordEach kws X.env)).all (·.1.isSome) = true := by rfl)
    (hks : (backToKw pos (keywordEach kws X.env)).filterMap (·.1) = ks := by rfl) (hdb : (x == ("__debug__" : Str)) = false := by decide)
    (he : starEach (e :: es) X.env = (false, eval e X.env) :: starEach es X.env := by rfl)
    (hpl : ((backTo pos (starEach (e :: es) X.env)).any (·.1) || (backToKw pos (keywordEach kws X.env)).any (·.1.isNone)) = false := by rfl) :
    PE X (.Call (.Name x p) (e :: es) kws pos) (tCallK sp gV E t tk) := by
  obtain ⟨⟨f, fd, F, hm, r⟩, l⟩ := G
  refine ⟨fun pins s σ H Q I h => ?_⟩
  refine wpAny_Call_Name_kw (ld_glob I gl hm ?_ hdb)
  refine PySem.W.callWith_KW (h₀ := X.base) I.ok.mod.kin F.kp hall
    (thn (ha.run pos pins s σ H _ I h) fun us s1 ⟨vs, H1, I1, r1, q⟩ => ?_) hpl he
  refine thn (hkw.run pos pins s1 σ H1 _ I1 q) fun ws s2 ⟨zs, H2, I2, rz, q2⟩ => ⟨I2.kIn, ?_⟩
  rw [hks]
  have B := b f fd F
  have r2 := B.rel r1 rz
  have hl : (gf us ws).length = ps.length := by rw [← r2.length]; exact l _ _ _ _ q2
  refine wpAny_call (codeAny_mono (run_g r hg hr hx I2 (B.to s2 us ws I2.kIn hl) r2 q2) fun z s' hz => ?_)
  cases z with
  | error e => exact hz
  | ok fl => cases fl <;> exact hz
/-- f(k = v, ..): keywords alone -/
theorem pe_gk0 {gf : List Value → List Value → List Value} {gV : List V → List V → List V} (G : Ok X.prog X.w X.K X.mg X.base k x st ps sp)
    (b : ∀ f fd, L2.Fun X.K x x st f fd → KBinds X.K fd ps ks gf gV)
    (hg : X.A.guards = some []) (hr : Room k X.A) (hx : Passes (CX X.prog X.w) X E) (gl : Gl X x) (hkw : PK X kws tk)
    (hall : (backToKw pos (keywordEach kws X.env)).all (·.1.isSome) = true := by rfl)
    (hks : (backToKw pos (keywordEach kws X.env)).filterMap (·.1) = ks := by rfl) (hdb : (x == ("__debug__" : Str)) = false := by decide)
    (hpl : ((backTo pos (starEach [] X.env)).any (·.1) || (backToKw pos (keywordEach kws X.env)).any (·.1.isNone)) = false := by rfl) :
    PE X (.Call (.Name x p) [] kws pos) (tCallK sp gV E tNil tk) := by
  obtain ⟨⟨f, fd, F, hm, r⟩, l⟩ := G
  refine ⟨fun pins s σ H Q I h => ?_⟩
  refine wpAny_Call_Name_kw (ld_glob I gl hm ?_ hdb)
  refine PySem.W.callWith_KW0 (h₀ := X.base) I.ok.mod.kin F.kp hall
    (thn (hkw.run pos pins s σ H _ I h) fun ws s2 ⟨zs, H2, I2, rz, q2⟩ => ⟨I2.kIn, ?_⟩) hpl
  rw [hks]
  have B := b f fd F
  have r2 := B.rel .nil rz
  have hl : (gf [] ws).length = ps.length := by rw [← r2.length]; exact l _ _ _ _ q2
  refine wpAny_call (codeAny_mono (run_g r hg hr hx I2 (B.to s2 [] ws I2.kIn hl) r2 q2) fun z s' hz => ?_)
  cases z with
  | error e => exact hz
  | ok fl => cases fl <;> exact hz
/-- f() -/
theorem pe_g0 (G : Ok X.prog X.w X.K X.mg X.base k x st ps sp) (b : ∀ f fd, L2.Fun X.K x x st f fd → L2.Binds X.K fd ps [])
    (hg : X.A.guards = some []) (hr : Room k X.A) (hx : Passes (CX X.prog X.w) X E) (gl : Gl X x)
    (hdb : (x == ("__debug__" : Str)) = false := by decide) : PE X (.Call (.Name x p) [] [] pos) (tCall sp [] E tNil) := by
  obtain ⟨⟨f, fd, F, hm, r⟩, l⟩ := G
  refine ⟨fun pins s σ H Q I h => ?_⟩
  refine wpAny_Call_Name_kw (ld_glob I gl hm ?_ hdb)
  have q1 : sp [] H Q E := h
  have bb := b f fd F s [] I.kIn (by rw [List.append_nil]; have := l _ _ _ _ q1; exact this)
  rw [List.append_nil] at bb
  refine PySem.W.callWith_K0 I.kIn F.kp (wpAny_call (codeAny_mono (run_g r hg hr hx I bb .nil q1) fun z s' hz => ?_))
  cases z with
  | error e => exact hz
  | ok fl => cases fl <;> exact hz
end
end Vf

namespace Vf
open PySem PySem.Spec PyProof.Rows L2
/-! ## more rules -/
theorem Dp.noDict {K : PySem.W.Frag} {H : Hp} : ∀ (d : PyData) (v : V), Dp K H v d → d.hasDict = false
  | .none, _, _ => rfl
  | .bool _, _, _ => rfl
  | .int _, _, _ => rfl
  | .str _, _, _ => rfl
  | .list ds, _, h => by
    cases h with
    | lst _ ha => exact DpAllN ds _ ha
  | .tuple ds, _, h => by
    cases h with
    | tup _ ha => exact DpAllN ds _ ha
  | .dict _, _, h => by cases h
where
  DpAllN {K : PySem.W.Frag} {H : Hp} : ∀ (ds : List PyData) (vs : List V), DpAll K H vs ds → PyData.hasDictAll ds = false
  | [], _, _ => rfl
  | d :: ds, _, h => by
    cases h with
    | cons h1 h2 =>
      have e1 := Dp.noDict d _ h1
      have e2 := DpAllN ds _ h2
      simp only [PyData.hasDictAll, e1, e2, Bool.or_self]
section
variable {X : Cx}
/-- repr of a list or a tuple of data -/
def rRepr (K : PySem.W.Frag) : List V → Hp → VK → Prop := fun xs H Q => ∃ (a : Addr) (d : PyData), xs = [.ref a] ∧ Dp K H (.ref a) d ∧ d.showable = true ∧
  d.depth ≤ 40 ∧ d.shown.length ≤ sizeLine ∧ Q (.str d.shown) H
theorem cr_repr (hg : X.A.guards = some []) (hu : X.A.units + 64 < cLine) : CallR X (.builtin "repr") (rRepr X.K) := by
  intro pins s σ H xs us Q I r h
  obtain ⟨a, d, rfl, hd, hs, hdp, hz, q⟩ := h
  have e := Vals.ref1 r
  subst e
  obtain ⟨as, rd⟩ := Dp.reads I d _ (.ref a) hd rfl
  refine repr_of_reads' rd hs (fun z => ?_) hg (by omega) (fun _ _ z => z) (fun h' u tk k => ⟨.str d.shown, H, I.kept k, ⟨_, rfl⟩, q⟩) hz
  rw [Dp.noDict d _ hd] at z
  cases z
/-- math.lcm of two ints -/
def rLcm : List V → Hp → VK → Prop := fun vs H Q => ∃ a b : Int, vs = [.int a, .int b] ∧ a.natAbs < 2 ^ 9000 ∧ b.natAbs < 2 ^ 9000 ∧ Q (.int ((Nat.lcm a.natAbs b.natAbs : Nat) : Int)) H
theorem log_lim {n k : Nat} (h : n < 2 ^ k) (hk : 0 < k) : n.log2 < k := PySem.Flt.log2_lt_of hk h
theorem cr_lcm : CallR X (.builtin "math.lcm") rLcm := by
  intro pins s σ H vs us Q I r h
  obtain ⟨a, b, rfl, ha, hb, q⟩ := h
  obtain ⟨t, u, rfl⟩ := Vals.int2 r
  have h1 : (max 1 a.natAbs).log2 < 9000 := log_lim (Nat.max_lt.mpr ⟨Nat.one_lt_two_pow (by decide), ha⟩) (by decide)
  have h2 : (max a.natAbs b.natAbs).log2 < 9000 := log_lim (Nat.max_lt.mpr ⟨ha, hb⟩) (by decide)
  have e1 : Nat.lcm 1 a.natAbs = a.natAbs := Nat.lcm_one_left _
  have hz : (((Nat.lcm 1 a.natAbs).lcm b.natAbs : Nat) : Int).natAbs.log2 < bitsLine := by
    rw [e1, Int.natAbs_natCast]
    have hl : Nat.lcm a.natAbs b.natAbs ≤ a.natAbs * b.natAbs := by
      rcases Nat.eq_zero_or_pos (a.natAbs * b.natAbs) with z | z
      · have : Nat.lcm a.natAbs b.natAbs = 0 := by unfold Nat.lcm; rw [z]; exact Nat.zero_div _
        omega
      · exact Nat.le_of_dvd z (Nat.lcm_dvd (Nat.dvd_mul_right _ _) (Nat.dvd_mul_left _ _))
    have hm : a.natAbs * b.natAbs < 2 ^ 18000 := by
      have := Nat.mul_lt_mul'' ha hb
      rw [← Nat.pow_add] at this
      exact this
    have : Nat.log2 (Nat.lcm a.natAbs b.natAbs) < 18000 := log_lim (Nat.lt_of_le_of_lt hl hm) (by decide)
    have e : bitsLine = 134217728 := by decide
    omega
  have g := PySem.W.mg_run_lcm a t b u (by omega) (by omega) hz
  rw [e1] at g
  exact call_function_meets PySem.W.MGF.kind_lcm PySem.W.MGF.plain_lcm PySem.W.MGF.entry_lcm (PySem.W.MGF.args_lcm _ _) g.meets ⟨.int _, H, I.tok _, ⟨_, rfl⟩, q⟩

/-- // by any divisor of fewer than 9000 bits -/
def CDivG (_ j : Int) : Prop := j ≠ 0 ∧ j.natAbs < 2 ^ 9000
theorem op_fdivG : OpR X (binaryOp .FloorDiv) (rI CDivG fun i j => .int (i.fdiv j)) :=
  opI fun i j _ _ _ _ _ hc q => floordiv_int hc.1 q (.inl (PyProof.noPylong_of_log2 (log_lim hc.2 (by decide))))
/-- == and != of two ints -/
theorem op_eqZ : OpR X (compareOp .Eq) (rI0 fun i j => .bl (decide (i = j))) := by
  intro pins s σ H x y u v Q I rx ry h
  obtain ⟨i, j, rfl, rfl, q⟩ := h
  refine op_eq pins s σ H _ _ u v Q I rx ry ⟨rfl, ?_⟩
  have e : decide (V.int i = V.int j) = decide (i = j) := by
    by_cases z : i = j
    · subst z; simp
    · simp [z]
  rw [e]
  exact q
theorem op_neZ : OpR X (compareOp .NotEq) (rI0 fun i j => .bl (!decide (i = j))) := by
  intro pins s σ H x y u v Q I rx ry h
  obtain ⟨i, j, rfl, rfl, q⟩ := h
  refine op_ne pins s σ H _ _ u v Q I rx ry ⟨rfl, ?_⟩
  have e : decide (V.int i = V.int j) = decide (i = j) := by
    by_cases z : i = j
    · subst z; simp
    · simp [z]
  rw [e]
  exact q
/-- == and != of two texts -/
theorem op_eqS : OpR X (compareOp .Eq) (fun x y H Q => ∃ i j, x = .str i ∧ y = .str j ∧ Q (.bl (decide (i = j))) H) := by
  intro pins s σ H x y u v Q I rx ry h
  obtain ⟨i, j, rfl, rfl, q⟩ := h
  refine op_eq pins s σ H _ _ u v Q I rx ry ⟨rfl, ?_⟩
  have e : decide (V.str i = V.str j) = decide (i = j) := by
    by_cases z : i = j
    · subst z; simp
    · simp [z]
  rw [e]
  exact q
theorem op_neS : OpR X (compareOp .NotEq) (fun x y H Q => ∃ i j, x = .str i ∧ y = .str j ∧ Q (.bl (!decide (i = j))) H) := by
  intro pins s σ H x y u v Q I rx ry h
  obtain ⟨i, j, rfl, rfl, q⟩ := h
  refine op_ne pins s σ H _ _ u v Q I rx ry ⟨rfl, ?_⟩
  have e : decide (V.str i = V.str j) = decide (i = j) := by
    by_cases z : i = j
    · subst z; simp
    · simp [z]
  rw [e]
  exact q
/-- a module's int -/
theorem pe_gi {x : Str} {i : Int} {pos : Pos} (hm : ∃ t, X.mg x = some (.int i t)) (hg : Gl X x) (hd : (x == ("__debug__" : Str)) = false := by decide) : PE X (.Name x pos) (tC (.int i)) := by
  obtain ⟨t, hm⟩ := hm
  exact pe_glob hg hm ⟨t, rfl⟩ hd
end
/-! ## the rules by the written part K alone, each with a name for its reading -/
def rLenQ (K : PySem.W.Frag) : List V → Hp → VK → Prop := fun xs H Q => ∃ p ys, xs = [.ref p] ∧ (SqL K H p ys ∨ SqT K H p ys) ∧ Q (.int ys.length) H
def rLenStr : List V → Hp → VK → Prop := fun xs H Q => ∃ z, xs = [.str z] ∧ z.length ≤ sizeLine ∧ Q (.int z.length) H
def rListQ (K : PySem.W.Frag) : List V → Hp → VK → Prop := fun xs H Q => ∃ p ys, xs = [.ref p] ∧ (SqL K H p ys ∨ SqT K H p ys) ∧ ∀ l, H l = none → Q (.ref l) (upd H l (.lst ys))
def rTupQ (K : PySem.W.Frag) : List V → Hp → VK → Prop := fun xs H Q => ∃ p ys, xs = [.ref p] ∧ ((SqL K H p ys ∧ ∀ l, H l = none → Q (.ref l) (upd H l (.tup ys))) ∨ (SqT K H p ys ∧ Q (.ref p) H))
def rAbs : List V → Hp → VK → Prop := fun xs H Q => ∃ i, xs = [.int i] ∧ Q (.int (if i < 0 then -i else i)) H
def rMax2 : List V → Hp → VK → Prop := fun xs H Q => ∃ i j, xs = [.int i, .int j] ∧ Q (.int (if j > i then j else i)) H
def rMin2 : List V → Hp → VK → Prop := fun xs H Q => ∃ i j, xs = [.int i, .int j] ∧ Q (.int (if j < i then j else i)) H
def rInt1 : List V → Hp → VK → Prop := fun xs H Q => (∃ i, xs = [.int i] ∧ Q (.int i) H) ∨ ∃ k, xs = [.bl k] ∧ Q (.int (if k then 1 else 0)) H
def rDivmod : List V → Hp → VK → Prop := fun xs H Q => ∃ i j, xs = [.int i, .int j] ∧ CDivP i j ∧ ∀ p, H p = none → Q (.ref p) (upd H p (.tup [.int (i / j), .int (i % j)]))
section
variable {X : Cx} {K : PySem.W.Frag}
theorem c_len (e : X.K = K) : CallR X (.builtin "len") (rLenQ K) := by subst e; exact call_len_seq
theorem c_lenS : CallR X (.builtin "len") rLenStr := call_len_str
theorem c_list (e : X.K = K) : CallR X (.type "list") (rListQ K) := by subst e; exact call_list_of
theorem c_tuple (e : X.K = K) : CallR X (.type "tuple") (rTupQ K) := by subst e; exact call_tuple_of
theorem c_abs : CallR X (.builtin "abs") rAbs := call_abs
theorem c_max2 (h : X.calm = true) : CallR X (.builtin "max") rMax2 := call_max2 h
theorem c_min2 (h : X.calm = true) : CallR X (.builtin "min") rMin2 := call_min2 h
theorem c_int : CallR X (.type "int") rInt1 := call_int1
theorem c_divmod : CallR X (.builtin "divmod") rDivmod := call_divmodW
theorem c_isi (e : X.K = K) : CallR X (.builtin "isinstance") (rIsi K) := by subst e; exact call_isi
theorem c_repr (e : X.K = K) (hg : X.A.guards = some []) (hu : X.A.units + 64 < cLine) : CallR X (.builtin "repr") (rRepr K) := by subst e; exact cr_repr hg hu
theorem c_all (e : X.K = K) (h : X.calm = true) : CallR X (.builtin "all") (rAll K) := by subst e; exact cr_all h
theorem c_any (e : X.K = K) (h : X.calm = true) : CallR X (.builtin "any") (rAny K) := by subst e; exact cr_any h
theorem c_sum (e : X.K = K) (h : X.calm = true) : CallR X (.builtin "sum") (rSum K) := by subst e; exact cr_sum h
theorem c_maxL (e : X.K = K) (h : X.calm = true) : CallR X (.builtin "max") (rMax K) := by subst e; exact cr_max h
theorem c_minL (e : X.K = K) (h : X.calm = true) : CallR X (.builtin "min") (rMin K) := by subst e; exact cr_min h
theorem x_list (e : X.K = K) : IxR X (rIxL K) := by subst e; exact ix_list
theorem x_tup (e : X.K = K) : IxR X (rIxT K) := by subst e; exact ix_tup
theorem o_eqD (e : X.K = K) (hu : X.A.units + 64 < cLine) : OpR X (compareOp .Eq) (rEqD K) := by subst e; exact op_eqD hu
theorem o_neD (e : X.K = K) (hu : X.A.units + 64 < cLine) : OpR X (compareOp .NotEq) (rNeD K) := by subst e; exact op_neD hu
theorem o_in (e : X.K = K) : OpR X (compareOp .In) (rIn K false) := by subst e; exact op_in_seq
theorem o_notIn (e : X.K = K) : OpR X (compareOp .NotIn) (rIn K true) := by subst e; exact op_notIn_seq
theorem o_catT (e : X.K = K) : OpR X (binaryOp .Add) (rCatT K) := by subst e; exact op_catT
theorem s_list (e : X.K = K) : SlR X (rSlL K) := by subst e; exact sl_list
theorem s_tup (e : X.K = K) : SlR X (rSlT K) := by subst e; exact sl_tup
theorem i_list {tg l : Expr} {tl : TE} (e : X.K = K) (hl : PE X l tl) : PI X tg l (iList K tl) := by subst e; exact pi_list hl
theorem i_tup' {tg l : Expr} {tl : TE} (e : X.K = K) (hl : PE X l tl) : PI X tg l (iTup K tl) := by subst e; exact pi_tup hl
theorem g_tup {es : List Expr} {k : Nat} {t : TGs} {n : Nat} {pos : Pos} (e : X.K = K) (hc : X.calm = true) (h : PGs X es t) (hn : (assignEach es X.env).length = n)
    (hst : (assignEach es X.env).findIdx? (·.1) = none) : PG X (.Tuple es k pos) (gTup K n t) := by
  subst e
  exact pg_tup hc h hn hst
end
end Vf

namespace Vf
open PySem PySem.Spec PyProof.Rows L2
/-! ## heaps -/
/-- all but what stands at k is as it was -/
def Kx (k : Addr) (H H' : Hp) : Prop := ∀ b o, b ≠ k → H b = some o → H' b = some o
theorem Kx.refl {k : Addr} (H : Hp) : Kx k H H := fun _ _ _ h => h
theorem Kx.trans {k : Addr} {H H1 H2 : Hp} (a : Kx k H H1) (b : Kx k H1 H2) : Kx k H H2 := fun c o n h => b c o n (a c o n h)
theorem Kx.same {k : Addr} {H H1 H2 : Hp} (a : Kx k H H1) (b : Same H1 H2) : Kx k H H2 := fun c o n h => b c o (a c o n h)
theorem Same.kx {k : Addr} {H H1 H2 : Hp} (a : Same H H1) (b : Kx k H1 H2) : Kx k H H2 := fun c o n h => b c o n (a c o h)
theorem Same.toKx {k : Addr} {H H1 : Hp} (a : Same H H1) : Kx k H H1 := fun c o _ h => a c o h
theorem Same.new {H : Hp} {p : Addr} {o : HO} (h : H p = none) : Same H (upd H p o) := fun a u e => by
  rw [upd_ne (ne_of_none e h)]
  exact e
theorem Kx.upd {H : Hp} {k : Addr} {o : HO} : Kx k H (upd H k o) := fun a u n e => by
  rw [upd_ne n]
  exact e
theorem at_new {H : Hp} {a p : Addr} {o u : HO} (h : H p = none) (e : H a = some u) : upd H p o a = some u := Same.new h a u e
theorem at_ne {H : Hp} {a p : Addr} {o u : HO} (h : a ≠ p) (e : H a = some u) : upd H p o a = some u := by rw [upd_ne h]; exact e
theorem at_same {H H' : Hp} {a : Addr} {u : HO} (h : Same H H') (e : H a = some u) : H' a = some u := h a u e
theorem at_kx {k : Addr} {H H' : Hp} {a : Addr} {u : HO} (h : Kx k H H') (n : a ≠ k) (e : H a = some u) : H' a = some u := h a u n e
theorem Kx.list {K : PySem.W.Frag} {k : Addr} {H H' : Hp} {a : Addr} {xs : List V} (e : Kx k H H') (n : a ≠ k) (h : SqL K H a xs) : SqL K H' a xs := by
  rcases h with (h | ⟨o, h⟩) | h
  · exact Or.inl (Or.inl (e _ _ n h))
  · exact Or.inl (Or.inr ⟨o, e _ _ n h⟩)
  · exact Or.inr h
theorem Kx.tup {K : PySem.W.Frag} {k : Addr} {H H' : Hp} {a : Addr} {xs : List V} (e : Kx k H H') (n : a ≠ k) (h : SqT K H a xs) : SqT K H' a xs := by
  rcases h with (h | ⟨o, h⟩) | h
  · exact Or.inl (Or.inl (e _ _ n h))
  · exact Or.inl (Or.inr ⟨o, e _ _ n h⟩)
  · exact Or.inr h
theorem Same.list {K : PySem.W.Frag} {H H' : Hp} {a : Addr} {xs : List V} (e : Same H H') (h : SqL K H a xs) : SqL K H' a xs := e.seq h
theorem Same.tup {K : PySem.W.Frag} {H H' : Hp} {a : Addr} {xs : List V} (e : Same H H') (h : SqT K H a xs) : SqT K H' a xs := by
  rcases h with (h | ⟨o, h⟩) | h
  · exact Or.inl (Or.inl (e _ _ h))
  · exact Or.inl (Or.inr ⟨o, e _ _ h⟩)
  · exact Or.inr h
theorem new_list {K : PySem.W.Frag} {H : Hp} {a p : Addr} {o : HO} {xs : List V} (h : H p = none) (e : SqL K H a xs) : SqL K (upd H p o) a xs := (Same.new h).seq e
theorem new_tup {K : PySem.W.Frag} {H : Hp} {a p : Addr} {o : HO} {xs : List V} (h : H p = none) (e : SqT K H a xs) : SqT K (upd H p o) a xs := Same.tup (Same.new h) e
theorem ne_list {K : PySem.W.Frag} {H : Hp} {a p : Addr} {o : HO} {xs : List V} (h : a ≠ p) (e : SqL K H a xs) : SqL K (upd H p o) a xs := Kx.list Kx.upd h e
theorem ne_tup {K : PySem.W.Frag} {H : Hp} {a p : Addr} {o : HO} {xs : List V} (h : a ≠ p) (e : SqT K H a xs) : SqT K (upd H p o) a xs := Kx.tup Kx.upd h e

theorem none_up {H : Hp} {p q : Addr} {o : HO} (h : upd H p o q = none) : H q = none := by
  by_cases e : q = p
  · subst e
    rw [upd_same] at h
    cases h
  · rw [upd_ne e] at h
    exact h
theorem none_same {H H' : Hp} {q : Addr} (e : Same H H') (h : H' q = none) : H q = none := e.free h
theorem none_kx {H H' : Hp} {k q : Addr} {o : HO} (e : Kx k H H') (hk : H' k = some o) (h : H' q = none) : H q = none := by
  cases z : H q with
  | none => rfl
  | some u =>
    have n : q ≠ k := fun c => by rw [c, hk] at h; cases h
    rw [e q u n z] at h
    cases h
/-- a new tuple, a new list, handed back -/
def NewT (xs : List V) (H : Hp) (Q : VK) : Prop := ∀ p H', Same H H' → H p = none → H' p = some (.tup xs) → Q (.ref p) H'
def NewL (xs : List V) (H : Hp) (Q : VK) : Prop := ∀ p H', Same H H' → H p = none → H' p = some (.lst xs) → Q (.ref p) H'
/-! ## readings, one step each -/
section
variable {K : PySem.W.Frag} {D : Ends} {σ : L2.St} {H : Hp} {Q : VK} {t u : TS} {te ta tb tc : TE} {tt tt2 : TT} {v x y : V} {i j : Nat} {g : TG} {gs : TGs} {tas : TA}
theorem r_seq (h : t { D with nx := u D } σ H) : tSeq t u D σ H := h
theorem r_asg (h : te σ H fun v H1 => g v σ H1 D.nx) : tAsg te g D σ H := h
theorem r_name {R : L2.St → Hp → Prop} (h : R (σ.set i (some v)) H) : gName i v σ H R := h
theorem r_gtup {R : L2.St → Hp → Prop} {a : Addr} {xs : List V} {n : Nat} (hs : SqT K H a xs) (hn : xs.length = n) (h : gs xs σ H R) : gTup K n gs (.ref a) σ H R := ⟨a, xs, rfl, hs, hn, h⟩
theorem r_gcons {R : L2.St → Hp → Prop} {r : List V} (h : g v σ H fun σ' H' => gs r σ' H' R) : gCons g gs (v :: r) σ H R := ⟨v, r, rfl, h⟩
theorem r_gnil {R : L2.St → Hp → Prop} (h : R σ H) : gNil [] σ H R := ⟨rfl, h⟩
theorem r_gsub {R : L2.St → Hp → Prop} {ts : TSet} (h : ta σ H fun o H1 => tb σ H1 fun i H2 => ts o i v H2 fun H3 => R σ H3) : gSub ta tb ts v σ H R := h
theorem r_setL {R : Hp → Prop} {p : Addr} {k : Int} {xs : List V} (hp : H p = some (.lst xs)) (hj : ixN xs.length k = some j) (h : R (upd H p (.lst (xs.set j v)))) : rSetL (.ref p) (.int k) v H R := ⟨p, xs, k, j, rfl, rfl, hp, hj, h⟩
theorem r_par (h : tas σ H fun vs H1 => ∃ v w, vs = [v, w] ∧ D.nx ((σ.set i (some v)).set j (some w)) H1) : tPar i j tas D σ H := h
theorem r_par3 {l : Nat} (h : tas σ H fun vs H1 => ∃ u v w, vs = [u, v, w] ∧ D.nx (((σ.set i (some u)).set j (some v)).set l (some w)) H1) : tPar3 i j l tas D σ H := h
theorem r_aug {ti : TIp} (e : σ[i]? = some (some x)) (h : te σ H fun y H1 => ti x y H1 fun z H2 => D.nx (σ.set i (some z)) H2) : tAug i te ti D σ H := ⟨x, e, h⟩
theorem r_ip {f : Int → Int → Int} {a b : Int} (h : Q (.int (f a b)) H) : ipI f (.int a) (.int b) H Q := ⟨a, b, rfl, rfl, h⟩
theorem r_drop (h : te σ H fun _ H1 => D.nx σ H1) : tDrop te D σ H := h
theorem r_ret (h : te σ H D.rt) : tRet te D σ H := h
theorem r_retN (h : D.rt .non H) : tRetN D σ H := h
theorem r_if (h : tt σ H fun b H1 => if b = true then t D σ H1 else u D σ H1) : tIfS tt t u D σ H := h
theorem r_next (h : D.nx σ H) : tNext D σ H := h
theorem r_break (h : D.bk σ H) : tBreak D σ H := h
theorem r_cont (h : D.ct σ H) : tCont D σ H := h
theorem r_var (e : σ[i]? = some (some v)) (h : Q v H) : tVar i σ H Q := ⟨v, e, h⟩
theorem r_yes {R : Bool → Hp → Prop} (h : R true H) : tYes σ H R := h
theorem r_c (h : Q v H) : tC v σ H Q := h
theorem r_op {r : R2} (h : ta σ H fun x H1 => tb σ H1 fun y H2 => r x y H2 Q) : tOp r ta tb σ H Q := h
theorem r_un {r : V → Hp → VK → Prop} (h : ta σ H fun x H1 => r x H1 Q) : tUn r ta σ H Q := h
theorem r_rI0 {f : Int → Int → V} {a b : Int} (h : Q (f a b) H) : rI0 f (.int a) (.int b) H Q := ⟨a, b, rfl, rfl, h⟩
theorem r_rU {f : Int → V} {a : Int} (h : Q (f a) H) : rU f (.int a) H Q := ⟨a, rfl, h⟩
theorem r_rI {C : Int → Int → Prop} {f : Int → Int → V} {a b : Int} (c : C a b) (h : Q (f a b) H) : rI C f (.int a) (.int b) H Q := ⟨a, b, rfl, rfl, c, h⟩
theorem r_test {R : Bool → Hp → Prop} (h : te σ H fun x H1 => ∃ k, x = .bl k ∧ R k H1) : tTest te σ H R := h
theorem r_B {R : Bool → Hp → Prop} (h : te σ H fun x H1 => ∃ k, x = .bl k ∧ R k H1) : tB te σ H R := h
theorem r_and {R : Bool → Hp → Prop} (h : tt σ H fun c H1 => if c = true then tt2 σ H1 R else R false H1) : tAnd tt tt2 σ H R := h
theorem r_or {R : Bool → Hp → Prop} (h : tt σ H fun c H1 => if c = true then R true H1 else tt2 σ H1 R) : tOr tt tt2 σ H R := h
theorem r_not {R : Bool → Hp → Prop} (h : tt σ H fun c H1 => R (!c) H1) : tNot tt σ H R := h
theorem r_andV (h : ta σ H fun x H1 => ∃ c, x = .bl c ∧ if c = true then tb σ H1 Q else Q (.bl false) H1) : tAndV ta tb σ H Q := h
theorem r_orV (h : ta σ H fun x H1 => ∃ c, x = .bl c ∧ if c = true then Q (.bl true) H1 else tb σ H1 Q) : tOrV ta tb σ H Q := h
theorem r_notV (h : ta σ H fun x H1 => ∃ c, x = .bl c ∧ Q (.bl (!c)) H1) : tNotV ta σ H Q := h
theorem r_ifE (h : tt σ H fun c H1 => if c = true then ta σ H1 Q else tb σ H1 Q) : tIf tt ta tb σ H Q := h
theorem r_chain {r r' : R2} (h : ta σ H fun x H1 => tb σ H1 fun y H2 => r x y H2 fun z H3 => ∃ k, z = .bl k ∧
  (if k = true then tc σ H3 fun w' H4 => r' y w' H4 Q else Q (.bl false) H3)) : tChain r r' ta tb tc σ H Q := h
theorem r_cons {R : List V → Hp → Prop} (h : ta σ H fun x H1 => tas σ H1 fun xs H2 => R (x :: xs) H2) : tCons ta tas σ H R := h
theorem r_nil {R : List V → Hp → Prop} (h : R [] H) : tNil σ H R := h
theorem r_tup (h : tas σ H fun xs H1 => xs.length ≤ sizeLine ∧ ∀ p, H1 p = none → Q (.ref p) (upd H1 p (.tup xs))) : tTup tas σ H Q := h
theorem r_lst (h : tas σ H fun xs H1 => xs.length ≤ sizeLine ∧ ∀ p, H1 p = none → Q (.ref p) (upd H1 p (.lst xs))) : tLst tas σ H Q := h
theorem r_call {sp : Sp} {E : XK} (h : tas σ H fun vs H1 => sp vs H1 Q E) : tCall sp [] E tas σ H Q := by
  have e : tCall sp [] E tas σ H Q = tas σ H fun vs H1 => sp vs H1 Q E := by
    unfold tCall
    simp only [List.append_nil]
  rw [e]
  exact h
theorem r_callK {sp : Sp} {gV : List V → List V → List V} {E : XK} {tk : TA} (h : tas σ H fun vs H1 => tk σ H1 fun zs H2 => sp (gV vs zs) H2 Q E) : tCallK sp gV E tas tk σ H Q := h
theorem r_cb {r : List V → Hp → VK → Prop} (h : tas σ H fun vs H1 => r vs H1 Q) : tCB r tas σ H Q := h
theorem r_ixL {a : Addr} {xs : List V} {k : Int} (h1 : SqL K H a xs) (h2 : atI xs k = some v) (h : Q v H) : rIxL K (.ref a) (.int k) H Q := ⟨a, xs, k, v, rfl, rfl, h1, h2, h⟩
theorem r_ixT {a : Addr} {xs : List V} {k : Int} (h1 : SqT K H a xs) (h2 : atI xs k = some v) (h : Q v H) : rIxT K (.ref a) (.int k) H Q := ⟨a, xs, k, v, rfl, rfl, h1, h2, h⟩
theorem r_lenL {a : Addr} {xs : List V} (hs : SqL K H a xs) (h : Q (.int xs.length) H) : rLenQ K [.ref a] H Q := ⟨a, xs, rfl, .inl hs, h⟩
theorem r_lenT {a : Addr} {xs : List V} (hs : SqT K H a xs) (h : Q (.int xs.length) H) : rLenQ K [.ref a] H Q := ⟨a, xs, rfl, .inr hs, h⟩
theorem r_tupL {a : Addr} {xs : List V} (hs : SqL K H a xs) (h : ∀ l, H l = none → Q (.ref l) (upd H l (.tup xs))) : rTupQ K [.ref a] H Q := ⟨a, xs, rfl, .inl ⟨hs, h⟩⟩
theorem r_tupT {a : Addr} {xs : List V} (hs : SqT K H a xs) (h : Q (.ref a) H) : rTupQ K [.ref a] H Q := ⟨a, xs, rfl, .inr ⟨hs, h⟩⟩
theorem r_listL {a : Addr} {xs : List V} (hs : SqL K H a xs) (h : ∀ l, H l = none → Q (.ref l) (upd H l (.lst xs))) : rListQ K [.ref a] H Q := ⟨a, xs, rfl, .inl hs, h⟩
theorem r_listT {a : Addr} {xs : List V} (hs : SqT K H a xs) (h : ∀ l, H l = none → Q (.ref l) (upd H l (.lst xs))) : rListQ K [.ref a] H Q := ⟨a, xs, rfl, .inr hs, h⟩
theorem r_abs {i : Int} (h : Q (.int (i.natAbs : Int)) H) : rAbs [.int i] H Q := by
  have e : (if i < 0 then -i else i) = (i.natAbs : Int) := by split <;> omega
  exact ⟨i, rfl, by rw [e]; exact h⟩
theorem r_max2 {i j : Int} (h : Q (.int (max i j)) H) : rMax2 [.int i, .int j] H Q := by
  have e : (if j > i then j else i) = max i j := by split <;> omega
  exact ⟨i, j, rfl, by rw [e]; exact h⟩
theorem r_min2 {i j : Int} (h : Q (.int (min i j)) H) : rMin2 [.int i, .int j] H Q := by
  have e : (if j < i then j else i) = min i j := by split <;> omega
  exact ⟨i, j, rfl, by rw [e]; exact h⟩
theorem r_int1 {i : Int} (h : Q (.int i) H) : rInt1 [.int i] H Q := .inl ⟨i, rfl, h⟩
theorem r_divmod {i j : Int} (c : CDivP i j) (h : ∀ p, H p = none → Q (.ref p) (upd H p (.tup [.int (i / j), .int (i % j)]))) : rDivmod [.int i, .int j] H Q := ⟨i, j, rfl, c, h⟩
theorem r_gcd {a b : Int} (h : Q (.int ((Nat.gcd a.natAbs b.natAbs : Nat) : Int)) H) : rGcd [.int a, .int b] H Q := ⟨a, b, rfl, h⟩
theorem r_lcm {a b : Int} (ha : a.natAbs < 2 ^ 9000) (hb : b.natAbs < 2 ^ 9000) (h : Q (.int ((Nat.lcm a.natAbs b.natAbs : Nat) : Int)) H) : rLcm [.int a, .int b] H Q := ⟨a, b, rfl, ha, hb, h⟩
theorem r_repr {a : Addr} {d : PyData} (hd : Dp K H (.ref a) d) (hs : d.showable = true) (hp : d.depth ≤ 40) (hz : d.shown.length ≤ sizeLine) (h : Q (.str d.shown) H) : rRepr K [.ref a] H Q := ⟨a, d, rfl, hd, hs, hp, hz, h⟩
theorem r_isi {x c : V} {t u : Value} {b : Bool} (h1 : ClsV c u) (h2 : TyX K H x t) (h3 : PySem.W.kitOne K t u = some b) (h : Q (.bl b) H) : rIsi K [x, c] H Q := ⟨x, c, t, u, b, rfl, h1, h2, h3, h⟩
theorem r_all {a : Addr} {bs : List Bool} (hs : SqL K H a (bs.map V.bl)) (h : Q (.bl (bs.all id)) H) : rAll K [.ref a] H Q := ⟨a, bs, rfl, hs, h⟩
theorem r_any {a : Addr} {bs : List Bool} (hs : SqL K H a (bs.map V.bl)) (h : Q (.bl (bs.any id)) H) : rAny K [.ref a] H Q := ⟨a, bs, rfl, hs, h⟩
theorem r_neD {x y : V} {d e : PyData} (h1 : Dp K H x d) (h2 : Dp K H y e) (h3 : SeqAt.shaped d = true) (h4 : SeqAt.shaped e = true) (h : Q (.bl (!PyData.eqv d e)) H) : rNeD K x y H Q := ⟨d, e, h1, h2, h3, h4, h⟩
theorem r_eqD {x y : V} {d e : PyData} (h1 : Dp K H x d) (h2 : Dp K H y e) (h3 : SeqAt.shaped d = true) (h4 : SeqAt.shaped e = true) (h : Q (.bl (PyData.eqv d e)) H) : rEqD K x y H Q := ⟨d, e, h1, h2, h3, h4, h⟩
end
/-- tests that are known, and both ways of one that is not -/
theorem ifd {p A B : Prop} {_i : Decidable p} (h1 : p → A) (h2 : ¬ p → B) : if decide p = true then A else B := by
  by_cases h : p
  · rw [if_pos (decide_eq_true h)]; exact h1 h
  · rw [if_neg (by rw [decide_eq_false h]; exact Bool.false_ne_true)]; exact h2 h
theorem ifnd {p A B : Prop} {_i : Decidable p} (h1 : ¬ p → A) (h2 : p → B) : if (!decide p) = true then A else B := by
  by_cases h : p
  · rw [if_neg (by rw [decide_eq_true h]; decide)]; exact h2 h
  · rw [if_pos (by rw [decide_eq_false h]; decide)]; exact h1 h
theorem ifb {b : Bool} {A B : Prop} (h1 : b = true → A) (h2 : b = false → B) : if b = true then A else B := by
  cases b with
  | true => rw [if_pos rfl]; exact h1 rfl
  | false => rw [if_neg Bool.false_ne_true]; exact h2 rfl
theorem ifT {b : Bool} {A B : Prop} (hb : b = true) (h : A) : if b = true then A else B := by rw [if_pos hb]; exact h
theorem ifF {b : Bool} {A B : Prop} (hb : b = false) (h : B) : if b = true then A else B := by rw [if_neg (by rw [hb]; exact Bool.false_ne_true)]; exact h
theorem ifTT {A B : Prop} (h : A) : if true = true then A else B := by rw [if_pos rfl]; exact h
theorem ifFF {A B : Prop} (h : B) : if false = true then A else B := by rw [if_neg Bool.false_ne_true]; exact h
theorem ifNT {A B : Prop} (h : B) : if (!true) = true then A else B := by rw [if_neg (by decide)]; exact h
theorem ifNF {A B : Prop} (h : A) : if (!false) = true then A else B := by rw [if_pos (by decide)]; exact h
theorem small {n : Nat} (h : n ≤ 100000) : n ≤ sizeLine := Nat.le_trans h (by decide)
/-! ## data -/
theorem DpAll.ints {K : PySem.W.Frag} {H : Hp} : ∀ ns : List Int, DpAll K H (ns.map V.int) (ns.map PyData.int)
  | [] => .nil
  | n :: ns => .cons (.int n) (DpAll.ints ns)

/-! ## isinstance, type by type -/
section
variable {K : PySem.W.Frag} {H : Hp} {Q : VK} {a : Addr} {xs : List V} {i : Int} {b : Bool}
theorem is_int_int (h : Q (.bl true) H) : rIsi K [(.int i), .ty "int"] H Q := r_isi (.ty "int") (.base (.int i)) (kit_ty (by decide +kernel)) h
theorem is_int_bool (h : Q (.bl false) H) : rIsi K [(.int i), .ty "bool"] H Q := r_isi (.ty "bool") (.base (.int i)) (kit_ty (by decide +kernel)) h
theorem is_int_tuple (h : Q (.bl false) H) : rIsi K [(.int i), .ty "tuple"] H Q := r_isi (.ty "tuple") (.base (.int i)) (kit_ty (by decide +kernel)) h
theorem is_int_list (h : Q (.bl false) H) : rIsi K [(.int i), .ty "list"] H Q := r_isi (.ty "list") (.base (.int i)) (kit_ty (by decide +kernel)) h
theorem is_int_str (h : Q (.bl false) H) : rIsi K [(.int i), .ty "str"] H Q := r_isi (.ty "str") (.base (.int i)) (kit_ty (by decide +kernel)) h
theorem is_bool_int (h : Q (.bl true) H) : rIsi K [(.bl b), .ty "int"] H Q := r_isi (.ty "int") (.base (.bl b)) (kit_ty (by decide +kernel)) h
theorem is_bool_bool (h : Q (.bl true) H) : rIsi K [(.bl b), .ty "bool"] H Q := r_isi (.ty "bool") (.base (.bl b)) (kit_ty (by decide +kernel)) h
theorem is_bool_tuple (h : Q (.bl false) H) : rIsi K [(.bl b), .ty "tuple"] H Q := r_isi (.ty "tuple") (.base (.bl b)) (kit_ty (by decide +kernel)) h
theorem is_bool_list (h : Q (.bl false) H) : rIsi K [(.bl b), .ty "list"] H Q := r_isi (.ty "list") (.base (.bl b)) (kit_ty (by decide +kernel)) h
theorem is_bool_str (h : Q (.bl false) H) : rIsi K [(.bl b), .ty "str"] H Q := r_isi (.ty "str") (.base (.bl b)) (kit_ty (by decide +kernel)) h
theorem is_NoneType_int (h : Q (.bl false) H) : rIsi K [.non, .ty "int"] H Q := r_isi (.ty "int") (.base .non) (kit_ty (by decide +kernel)) h
theorem is_NoneType_bool (h : Q (.bl false) H) : rIsi K [.non, .ty "bool"] H Q := r_isi (.ty "bool") (.base .non) (kit_ty (by decide +kernel)) h
theorem is_NoneType_tuple (h : Q (.bl false) H) : rIsi K [.non, .ty "tuple"] H Q := r_isi (.ty "tuple") (.base .non) (kit_ty (by decide +kernel)) h
theorem is_NoneType_list (h : Q (.bl false) H) : rIsi K [.non, .ty "list"] H Q := r_isi (.ty "list") (.base .non) (kit_ty (by decide +kernel)) h
theorem is_NoneType_str (h : Q (.bl false) H) : rIsi K [.non, .ty "str"] H Q := r_isi (.ty "str") (.base .non) (kit_ty (by decide +kernel)) h
theorem is_str_int {z : Str} (h : Q (.bl false) H) : rIsi K [(.str z), .ty "int"] H Q := r_isi (.ty "int") (.base (.str z)) (kit_ty (by decide +kernel)) h
theorem is_str_bool {z : Str} (h : Q (.bl false) H) : rIsi K [(.str z), .ty "bool"] H Q := r_isi (.ty "bool") (.base (.str z)) (kit_ty (by decide +kernel)) h
theorem is_str_tuple {z : Str} (h : Q (.bl false) H) : rIsi K [(.str z), .ty "tuple"] H Q := r_isi (.ty "tuple") (.base (.str z)) (kit_ty (by decide +kernel)) h
theorem is_str_list {z : Str} (h : Q (.bl false) H) : rIsi K [(.str z), .ty "list"] H Q := r_isi (.ty "list") (.base (.str z)) (kit_ty (by decide +kernel)) h
theorem is_str_str {z : Str} (h : Q (.bl true) H) : rIsi K [(.str z), .ty "str"] H Q := r_isi (.ty "str") (.base (.str z)) (kit_ty (by decide +kernel)) h
theorem is_tuple_int (e : H a = some (.tup xs)) (h : Q (.bl false) H) : rIsi K [(.ref a), .ty "int"] H Q := r_isi (.ty "int") (.base (.tup e)) (kit_ty (by decide +kernel)) h
theorem is_tuple_bool (e : H a = some (.tup xs)) (h : Q (.bl false) H) : rIsi K [(.ref a), .ty "bool"] H Q := r_isi (.ty "bool") (.base (.tup e)) (kit_ty (by decide +kernel)) h
theorem is_tuple_tuple (e : H a = some (.tup xs)) (h : Q (.bl true) H) : rIsi K [(.ref a), .ty "tuple"] H Q := r_isi (.ty "tuple") (.base (.tup e)) (kit_ty (by decide +kernel)) h
theorem is_tuple_list (e : H a = some (.tup xs)) (h : Q (.bl false) H) : rIsi K [(.ref a), .ty "list"] H Q := r_isi (.ty "list") (.base (.tup e)) (kit_ty (by decide +kernel)) h
theorem is_tuple_str (e : H a = some (.tup xs)) (h : Q (.bl false) H) : rIsi K [(.ref a), .ty "str"] H Q := r_isi (.ty "str") (.base (.tup e)) (kit_ty (by decide +kernel)) h
theorem is_list_int (e : H a = some (.lst xs)) (h : Q (.bl false) H) : rIsi K [(.ref a), .ty "int"] H Q := r_isi (.ty "int") (.base (.lst e)) (kit_ty (by decide +kernel)) h
theorem is_list_bool (e : H a = some (.lst xs)) (h : Q (.bl false) H) : rIsi K [(.ref a), .ty "bool"] H Q := r_isi (.ty "bool") (.base (.lst e)) (kit_ty (by decide +kernel)) h
theorem is_list_tuple (e : H a = some (.lst xs)) (h : Q (.bl false) H) : rIsi K [(.ref a), .ty "tuple"] H Q := r_isi (.ty "tuple") (.base (.lst e)) (kit_ty (by decide +kernel)) h
theorem is_list_list (e : H a = some (.lst xs)) (h : Q (.bl true) H) : rIsi K [(.ref a), .ty "list"] H Q := r_isi (.ty "list") (.base (.lst e)) (kit_ty (by decide +kernel)) h
theorem is_list_str (e : H a = some (.lst xs)) (h : Q (.bl false) H) : rIsi K [(.ref a), .ty "str"] H Q := r_isi (.ty "str") (.base (.lst e)) (kit_ty (by decide +kernel)) h
end

/-! ## two ways that meet -/
section
variable {D : Ends} {σ : L2.St} {H : Hp} {Q : VK} {tt : TT} {ta tb : TE} {t u : TS}
theorem j_e {te : TE} (Pv : V → Hp → Prop) (hF : ∀ Q' : VK, (∀ v H', Pv v H' → Q' v H') → te σ H Q') (hQ : ∀ v H', Pv v H' → Q v H') : te σ H Q := hF Q hQ
theorem j_if (Pv : V → Hp → Prop) (hF : ∀ Q' : VK, (∀ v H', Pv v H' → Q' v H') → tIf tt ta tb σ H Q') (hQ : ∀ v H', Pv v H' → Q v H') : tIf tt ta tb σ H Q := hF Q hQ
theorem j_s {ts : TS} (M : L2.St → Hp → Prop) (hF : ∀ nx' : L2.St → Hp → Prop, (∀ σ' H', M σ' H' → nx' σ' H') → ts { D with nx := nx' } σ H) (hQ : ∀ σ' H', M σ' H' → D.nx σ' H') : ts D σ H := hF D.nx hQ
end
/-! ## loops -/
section
variable {K : PySem.W.Frag} {D : Ends} {σ : L2.St} {H : Hp} {tt : TT} {tb : TS} {g : TG} {x : V}
abbrev Wp (W : Nat → L2.St → Hp → Prop) (m : Nat) (σ : L2.St) (H : Hp) : Prop := W m σ H
theorem r_while (W : Nat → L2.St → Hp → Prop) (m : Nat) (w0 : W m σ H)
    (hs : ∀ m σ H, W m σ H → tt σ H fun b H1 => if b = true then ∃ N : L2.St → Hp → Prop, (∀ σ' H', N σ' H' → ∃ m', m' < m ∧ Wp W m' σ' H') ∧ tb { D with nx := N, ct := N, bk := D.nx } σ H1 else D.nx σ H1) :
    tWhile tt tb D σ H := ⟨W, ⟨m, w0⟩, hs⟩
theorem r_wb {D : (L2.St → Hp → Prop) → Ends} {W : Nat → L2.St → Hp → Prop} {m : Nat} (h : tb (D fun σ' H' => ∃ m', m' < m ∧ Wp W m' σ' H') σ H) :
    ∃ N : L2.St → Hp → Prop, (∀ σ' H', N σ' H' → ∃ m', m' < m ∧ Wp W m' σ' H') ∧ tb (D N) σ H := ⟨_, fun _ _ h => h, h⟩
theorem tru_int {i : Int} {R : Bool → Prop} (h : R (i != 0)) : ∃ k, TruV K (.int i) H k ∧ R k := ⟨_, rfl, h⟩
theorem tru_list {a : Addr} {xs : List V} {R : Bool → Prop} (hs : SqL K H a xs) (h : R (!xs.isEmpty)) : ∃ k, TruV K (.ref a) H k ∧ R k := ⟨_, .inl ⟨xs, hs, rfl⟩, h⟩
theorem tru_tup {a : Addr} {xs : List V} {R : Bool → Prop} (hs : SqT K H a xs) (h : R (!xs.isEmpty)) : ∃ k, TruV K (.ref a) H k ∧ R k := ⟨_, .inr (.inl ⟨xs, hs, rfl⟩), h⟩
theorem r_for1 {ta : TA} (h : ta σ H fun vs H1 => ∃ j : Int, vs = [.int j] ∧ -(2 ^ 62) ≤ j ∧ j < 2 ^ 62 ∧ tFor (fun _ H2 R => R (Itr 0 j.toNat) H2) g tb D σ H1) : tFor (iRng1 ta) g tb D σ H := h
theorem r_for2 {ta : TA} (h : ta σ H fun vs H1 => ∃ i j : Int, vs = [.int i, .int j] ∧ (-(2 ^ 62) ≤ i ∧ i < 2 ^ 62 ∧ -(2 ^ 62) ≤ j ∧ j < 2 ^ 62) ∧ tFor (fun _ H2 R => R (Itr i (j - i).toNat) H2) g tb D σ H1) : tFor (iRng2 ta) g tb D σ H := h
theorem r_forR {lo : Int} {n : Nat} (Pv : Nat → L2.St → Hp → Prop) (h0 : Pv 0 σ H)
    (hs : ∀ i σ H, i < n → Pv i σ H → g (.int (lo + i)) σ H fun σ2 H2 => tb { D with nx := Pv (i + 1), ct := Pv (i + 1), bk := D.nx } σ2 H2) (hd : ∀ σ H, Pv n σ H → D.nx σ H) :
    tFor (fun _ H2 R => R (Itr lo n) H2) g tb D σ H := for_range Pv h0 hs hd
theorem r_forL {te : TE} (h : te σ H fun x H1 => ∃ a, x = .ref a ∧ (∃ xs, SqL K H1 a xs) ∧ tFor (fun _ H2 R => R (Itl K a) H2) g tb D σ H1) : tFor (iList K te) g tb D σ H := h
theorem r_forT {te : TE} (h : te σ H fun x H1 => ∃ a, x = .ref a ∧ (∃ xs, SqT K H1 a xs) ∧ tFor (fun _ H2 R => R (Itt K a) H2) g tb D σ H1) : tFor (iTup K te) g tb D σ H := h
theorem r_forLs {a : Addr} (xs : List V) (Pv : Nat → L2.St → Hp → Prop) (h0 : Pv 0 σ H) (hl : ∀ i σ H, i ≤ xs.length → Pv i σ H → SqL K H a xs)
    (hs : ∀ i x σ H, xs[i]? = some x → Pv i σ H → g x σ H fun σ2 H2 => tb { D with nx := Pv (i + 1), ct := Pv (i + 1), bk := D.nx } σ2 H2) (hd : ∀ σ H, Pv xs.length σ H → D.nx σ H) :
    tFor (fun _ H2 R => R (Itl K a) H2) g tb D σ H := for_list Pv h0 hl hs hd
theorem r_forTs {a : Addr} (xs : List V) (Pv : Nat → L2.St → Hp → Prop) (h0 : Pv 0 σ H) (hl : ∀ i σ H, i ≤ xs.length → Pv i σ H → SqT K H a xs)
    (hs : ∀ i x σ H, xs[i]? = some x → Pv i σ H → g x σ H fun σ2 H2 => tb { D with nx := Pv (i + 1), ct := Pv (i + 1), bk := D.nx } σ2 H2) (hd : ∀ σ H, Pv xs.length σ H → D.nx σ H) :
    tFor (fun _ H2 R => R (Itt K a) H2) g tb D σ H := for_tup Pv h0 hl hs hd
/-! comprehensions -/
variable {te : TE} {vs : List Nat} {Q : VK}
theorem r_lcR1 {ta : TA} (h : ta σ H fun ws H1 => ∃ j : Int, ws = [.int j] ∧ -(2 ^ 62) ≤ j ∧ j < 2 ^ 62 ∧ tLc (fun _ H2 R => R (Itr 0 j.toNat) H2) g tt te vs σ H1 Q) : tLc (iRng1 ta) g tt te vs σ H Q := h
theorem r_lcR2 {ta : TA} (h : ta σ H fun ws H1 => ∃ i j : Int, ws = [.int i, .int j] ∧ (-(2 ^ 62) ≤ i ∧ i < 2 ^ 62 ∧ -(2 ^ 62) ≤ j ∧ j < 2 ^ 62) ∧ tLc (fun _ H2 R => R (Itr i (j - i).toNat) H2) g tt te vs σ H1 Q) : tLc (iRng2 ta) g tt te vs σ H Q := h
theorem r_lcL {tl : TE} (h : tl σ H fun x H1 => ∃ a, x = .ref a ∧ (∃ xs, SqL K H1 a xs) ∧ tLc (fun _ H2 R => R (Itl K a) H2) g tt te vs σ H1 Q) : tLc (iList K tl) g tt te vs σ H Q := h
theorem r_lcT {tl : TE} (h : tl σ H fun x H1 => ∃ a, x = .ref a ∧ (∃ xs, SqT K H1 a xs) ∧ tLc (fun _ H2 R => R (Itt K a) H2) g tt te vs σ H1 Q) : tLc (iTup K tl) g tt te vs σ H Q := h
theorem r_lcR {lo : Int} {n : Nat} (Pv : Addr → Nat → Hp → Prop) (h0 : ∀ D, H D = none → Pv D 0 (upd H D (.lst [])))
    (hs : ∀ D i H', H D = none → i < n → Pv D i H' → g (.int (lo + i)) (wipe σ vs) H' fun σ2 H2 => wipe σ2 vs = wipe σ vs ∧ tt σ2 H2 fun b H3 =>
      if b = true then te σ2 H3 fun y H4 => ∃ acc, H4 D = some (.lst acc) ∧ acc.length < sizeLine ∧ Pv D (i + 1) (upd H4 D (.lst (acc ++ [y]))) else Pv D (i + 1) H3)
    (hd : ∀ D H', H D = none → Pv D n H' → Q (.ref D) H') : tLc (fun _ H2 R => R (Itr lo n) H2) g tt te vs σ H Q :=
  fun D hD => lc_range (Pv D) (h0 D hD) (fun i H' hi p => hs D i H' hD hi p) (fun H' p => hd D H' hD p)
theorem r_lcLs {a : Addr} (xs : List V) (Pv : Addr → Nat → Hp → Prop) (h0 : ∀ D, H D = none → Pv D 0 (upd H D (.lst []))) (hl : ∀ D i H', H D = none → i ≤ xs.length → Pv D i H' → SqL K H' a xs)
    (hs : ∀ D i x H', H D = none → xs[i]? = some x → Pv D i H' → g x (wipe σ vs) H' fun σ2 H2 => wipe σ2 vs = wipe σ vs ∧ tt σ2 H2 fun b H3 =>
      if b = true then te σ2 H3 fun y H4 => ∃ acc, H4 D = some (.lst acc) ∧ acc.length < sizeLine ∧ Pv D (i + 1) (upd H4 D (.lst (acc ++ [y]))) else Pv D (i + 1) H3)
    (hd : ∀ D H', H D = none → Pv D xs.length H' → Q (.ref D) H') : tLc (fun _ H2 R => R (Itl K a) H2) g tt te vs σ H Q :=
  fun D hD => lc_list (Pv D) (h0 D hD) (fun i H' hi p => hl D i H' hD hi p) (fun i x H' hx p => hs D i x H' hD hx p) (fun H' p => hd D H' hD p)
theorem r_lcTs {a : Addr} (xs : List V) (Pv : Addr → Nat → Hp → Prop) (h0 : ∀ D, H D = none → Pv D 0 (upd H D (.lst []))) (hl : ∀ D i H', H D = none → i ≤ xs.length → Pv D i H' → SqT K H' a xs)
    (hs : ∀ D i x H', H D = none → xs[i]? = some x → Pv D i H' → g x (wipe σ vs) H' fun σ2 H2 => wipe σ2 vs = wipe σ vs ∧ tt σ2 H2 fun b H3 =>
      if b = true then te σ2 H3 fun y H4 => ∃ acc, H4 D = some (.lst acc) ∧ acc.length < sizeLine ∧ Pv D (i + 1) (upd H4 D (.lst (acc ++ [y]))) else Pv D (i + 1) H3)
    (hd : ∀ D H', H D = none → Pv D xs.length H' → Q (.ref D) H') : tLc (fun _ H2 R => R (Itt K a) H2) g tt te vs σ H Q :=
  fun D hD => lc_tup (Pv D) (h0 D hD) (fun i H' hi p => hl D i H' hD hi p) (fun i x H' hx p => hs D i x H' hD hx p) (fun H' p => hd D H' hD p)
end
end Vf

namespace Vf
open PySem PySem.Spec PyProof.Rows L2
/-! ## the law's source of numbers -/
theorem bits_mono {x y : Int} (h : x.natAbs ≤ y.natAbs) : Builtin.Int.intBits x ≤ Builtin.Int.intBits y := by
  by_cases z : y = 0
  · subst z
    have : x = 0 := by omega
    subst this
    exact Nat.le_refl _
  · have e : Builtin.Int.intBits y = y.natAbs.log2 + 1 := by
      unfold Builtin.Int.intBits
      rw [if_neg (by simpa using z)]
    rw [e]
    exact PyProof.Rows.intBits_le (Nat.lt_of_le_of_lt h Nat.lt_log2_self)
structure KegOk (a b c : Int) (n : Nat) : Prop where
  a0 : 0 ≤ a
  ab : Builtin.Int.intBits a ≤ 1048600
  b0 : 0 ≤ b
  bM : b < 2147482801
  c0 : 0 ≤ c
  cn : c ≤ n
def Keg (n : Nat) (k : Addr) (H : Hp) : Prop := ∃ a b c : Int, H k = some (.lst [.int a, .int b, .int c]) ∧ KegOk a b c n
theorem Keg.mono {n m : Nat} {k : Addr} {H : Hp} (h : Keg n k H) (l : n ≤ m) : Keg m k H := by
  obtain ⟨a, b, c, e, o⟩ := h
  exact ⟨a, b, c, e, o.a0, o.ab, o.b0, o.bM, o.c0, by have := o.cn; omega⟩
theorem Keg.same {n : Nat} {k : Addr} {H H' : Hp} (h : Keg n k H) (s : Same H H') : Keg n k H' := by
  obtain ⟨a, b, c, e, o⟩ := h
  exact ⟨a, b, c, s _ _ e, o⟩
theorem Keg.new {n : Nat} {k p : Addr} {H : Hp} {o : HO} (h : Keg n k H) (hp : H p = none) : Keg n k (upd H p o) := h.same (Same.new hp)
theorem Keg.ne {n : Nat} {k p : Addr} {H : Hp} (h : Keg n k H) (hp : H p = none) : p ≠ k := by
  obtain ⟨a, b, c, e, o⟩ := h
  exact (ne_of_none e hp).symm
theorem Keg.none {n : Nat} {k q : Addr} {H H' : Hp} (h : Keg n k H') (e : Kx k H H') (hq : H' q = Option.none) : H q = Option.none := by
  obtain ⟨a, b, c, z, o⟩ := h
  exact none_kx e z hq
def sp_tap : Sp := fun vs H Q _ => ∃ (k : Addr) (u : Int) (n : Nat), vs = [.ref k, .int u] ∧ Keg n k H ∧ n ≤ 2 ^ 60 ∧ 0 < u ∧ u < 2 ^ 62 ∧
  ∀ f H', 0 ≤ f → f < u → Kx k H H' → Keg (n + 1) k H' → Q (.int f) H'
theorem i_tap {k : Addr} {u : Int} {H : Hp} {Q : VK} {E : XK} (n : Nat) (hk : Keg n k H) (hn : n ≤ 2 ^ 60) (h0 : 0 < u) (h1 : u < 2 ^ 62)
    (q : ∀ f H', 0 ≤ f → f < u → Kx k H H' → Keg (n + 1) k H' → Q (.int f) H') : sp_tap [.ref k, .int u] H Q E := ⟨k, u, n, rfl, hk, hn, h0, h1, q⟩
def sp_any (K : PySem.W.Frag) : Sp := fun vs H Q _ => ∃ (k t : Addr) (xs : List V) (n : Nat), vs = [.ref k, .ref t] ∧ Keg n k H ∧ n ≤ 2 ^ 60 ∧ t ≠ k ∧ SqL K H t xs ∧ 0 < xs.length ∧ xs.length ≤ 100000 ∧
  ∀ (i : Nat) (x : V) H', xs[i]? = some x → Kx k H H' → Keg (n + 1) k H' → Q x H'
theorem i_any {K : PySem.W.Frag} {k t : Addr} {H : Hp} {Q : VK} {E : XK} (n : Nat) (xs : List V) (hk : Keg n k H) (hn : n ≤ 2 ^ 60) (ht : t ≠ k) (hs : SqL K H t xs) (h0 : 0 < xs.length) (h1 : xs.length ≤ 100000)
    (q : ∀ (i : Nat) x H', xs[i]? = some x → Kx k H H' → Keg (n + 1) k H' → Q x H') : sp_any K [.ref k, .ref t] H Q E := ⟨k, t, xs, n, rfl, hk, hn, ht, hs, h0, h1, q⟩
/-- the script's ints are of at most 2 ^ 20 bits -/
def Script (ns : List Int) : Prop := ns.length ≤ 63 ∧ ∀ z ∈ ns, Builtin.Int.intBits z ≤ 1048576
def sp_keg (K : PySem.W.Frag) : Sp := fun vs H Q _ => ∃ (c : Addr) (ns : List Int) (j : Nat), vs = [.ref c, .int (j : Int)] ∧ SqL K H c (ns.map V.int) ∧ Script ns ∧ j ≤ 1000 ∧
  ∀ p H', Same H H' → H p = none → Keg 1 p H' → Q (.ref p) H'
theorem i_keg {K : PySem.W.Frag} {c : Addr} {H : Hp} {Q : VK} {E : XK} (ns : List Int) (j : Nat) (hs : SqL K H c (ns.map V.int)) (hn : Script ns) (hj : j ≤ 1000)
    (q : ∀ p H', Same H H' → H p = none → Keg 1 p H' → Q (.ref p) H') : sp_keg K [.ref c, .int (j : Int)] H Q E := ⟨c, ns, j, rfl, hs, hn, hj, q⟩
/-- a product of two ints of so many bits at most -/
theorem bit_mul {i j : Int} {a b : Nat} (ha : Builtin.Int.intBits i ≤ a) (hb : Builtin.Int.intBits j ≤ b) (h : a + b ≤ 134217728) : CMulX i j := by
  unfold CMulX
  omega
theorem bit_of {i : Int} {a : Nat} (h : i.natAbs < 2 ^ a) : Builtin.Int.intBits i ≤ a := PyProof.Rows.intBits_le h
theorem divp_of {i j : Int} (h : 0 < j) (hj : j < 2 ^ 62) : CDivP i j :=
  ⟨h, PyProof.noPylong_of_log2 (Nat.lt_of_lt_of_le (log_lim (k := 62) (by omega) (by decide)) (by decide))⟩
theorem divw_of {i j : Int} (h : 0 < j) (hj : j < 2 ^ 62) : CDivW i j := wide_div (b := 62) h (by omega) (by decide) (by decide)
end Vf

namespace Vf
open PySem PySem.Spec PyProof.Rows L2
/-! ## data: what repr of it is like, and == -/
mutual
/-- no text, no dict; each number of fewer than 1920 bits -/
def tame : PyData → Bool
  | .none | .bool _ => true
  | .int i => decide (i.natAbs.log2 < 1920)
  | .list xs | .tuple xs => tameAll xs
  | _ => false
def tameAll : List PyData → Bool
  | [] => true
  | x :: xs => tame x && tameAll xs
end
mutual
def room : PyData → Nat
  | .list xs | .tuple xs => 4 + roomAll xs
  | _ => 2000
def roomAll : List PyData → Nat
  | [] => 0
  | x :: xs => room x + 2 + roomAll xs
end
theorem from_le : ∀ (ts : List Str) (k : Nat) (acc : Str), (textFrom k acc ts).length ≤ acc.length + piled ts
  | [], _, _ => Nat.le_add_right _ _
  | t :: r, k, acc => by
    refine Nat.le_trans (from_le r (k + 1) _) ?_
    rw [strLen_append, strLen_append, piled_cons]
    have e : (Str.ofString (if k > 0 then ", " else "" : String)).length ≤ 2 := by
      split
      · decide +kernel
      · decide +kernel
    omega
theorem listText_le (ts : List Str) : (listText ts).length ≤ 4 + piled ts := by
  show (textFrom 0 "[" ts ++ "]").length ≤ _
  rw [strLen_append]
  have h := from_le ts 0 "["
  have e1 : ("[" : Str).length = 1 := by decide +kernel
  have e2 : ("]" : Str).length = 1 := by decide +kernel
  omega
theorem tupleText_le (ts : List Str) : (tupleText ts).length ≤ 4 + piled ts := by
  unfold tupleText
  rw [strLen_append, strLen_append]
  have e1 : ("(" : Str).length = 1 := by decide +kernel
  have e2 : (if (ts.length == 1) = true then ",)" else ")" : String) = ",)" ∨ (if (ts.length == 1) = true then ",)" else ")" : String) = ")" := by split <;> simp
  have e3 : (Str.ofString (if (ts.length == 1) = true then ",)" else ")" : String)).length ≤ 2 := by
    rcases e2 with e | e <;> rw [e] <;> decide +kernel
  have e4 : (Str.join ", " ts).length ≤ piled ts := by
    by_cases z : ts = []
    · subst z; decide +kernel
    · have := join_length_add ts z; omega
  show ("(" : Str).length + _ + (Str.ofString _).length ≤ _
  omega
mutual
theorem shown_le : ∀ d : PyData, tame d = true → d.showable = true ∧ d.hasDict = false ∧ (d.shown).length ≤ room d
  | .none, _ => ⟨rfl, rfl, by show ("None" : Str).length ≤ 2000; decide +kernel⟩
  | .bool b, _ => ⟨rfl, rfl, by cases b <;> decide +kernel⟩
  | .int i, h => by
    have h1 : i.natAbs.log2 < 1920 := of_decide_eq_true h
    refine ⟨by simpa [PyData.showable] using h1, rfl, ?_⟩
    have e := int_text_length_le (k := 1920) (by decide) h1
    show (Str.ofString (toString i)).length ≤ 2000
    rw [PySem.ofString_length]
    omega
  | .str _, h => by cases h
  | .dict _, h => by cases h
  | .list xs, h => by
    obtain ⟨a, b, c⟩ := shown_leAll xs h
    refine ⟨a, b, ?_⟩
    have := listText_le (PyData.shownAll xs)
    show (listText (PyData.shownAll xs)).length ≤ 4 + roomAll xs
    omega
  | .tuple xs, h => by
    obtain ⟨a, b, c⟩ := shown_leAll xs h
    refine ⟨a, b, ?_⟩
    have := tupleText_le (PyData.shownAll xs)
    show (tupleText (PyData.shownAll xs)).length ≤ 4 + roomAll xs
    omega
theorem shown_leAll : ∀ ds : List PyData, tameAll ds = true → PyData.showableAll ds = true ∧ PyData.hasDictAll ds = false ∧ piled (PyData.shownAll ds) ≤ roomAll ds
  | [], _ => ⟨rfl, rfl, Nat.le_refl _⟩
  | d :: ds, h => by
    have h2 : (tame d && tameAll ds) = true := h
    rw [Bool.and_eq_true] at h2
    obtain ⟨a, b, c⟩ := shown_le d h2.1
    obtain ⟨a2, b2, c2⟩ := shown_leAll ds h2.2
    refine ⟨by simp [PyData.showableAll, a, a2], by simp [PyData.hasDictAll, b, b2], ?_⟩
    show piled (d.shown :: PyData.shownAll ds) ≤ room d + 2 + roomAll ds
    rw [piled_cons]
    omega
end
theorem tameInts : ∀ ns : List Int, (∀ n ∈ ns, n.natAbs < 2 ^ 1900) → tameAll (ns.map PyData.int) = true
  | [], _ => rfl
  | n :: ns, h => by
    show (tame (.int n) && tameAll (ns.map PyData.int)) = true
    rw [tameInts ns fun m hm => h m (List.mem_cons_of_mem _ hm), Bool.and_true]
    refine decide_eq_true (log_lim (Nat.lt_of_lt_of_le (h n List.mem_cons_self) (Nat.pow_le_pow_right (by decide) (by decide))) (by decide))
theorem roomInts : ∀ ns : List Int, roomAll (ns.map PyData.int) = 2002 * ns.length
  | [] => rfl
  | n :: ns => by
    show 2000 + 2 + roomAll (ns.map PyData.int) = 2002 * (ns.length + 1)
    rw [roomInts ns]; omega
theorem depthInts : ∀ ns : List Int, PyData.depthAll (ns.map PyData.int) = 0
  | [] => rfl
  | n :: ns => by
    show max (PyData.depth (.int n)) (PyData.depthAll (ns.map PyData.int)) = 0
    rw [depthInts ns]; rfl
/-- what repr gives of a list of ints -/
def intsD (ns : List Int) : PyData := .list (ns.map PyData.int)
section
variable {K : PySem.W.Frag} {H : Hp} {Q : VK}
theorem r_reprD {a : Addr} (d : PyData) (hd : Dp K H (.ref a) d) (ht : tame d = true) (hp : d.depth ≤ 40) (hz : room d ≤ 100000) (h : Q (.str d.shown) H) : rRepr K [.ref a] H Q := by
  obtain ⟨h1, _, h2⟩ := shown_le d ht
  exact r_repr hd h1 hp (small (Nat.le_trans h2 hz)) h
theorem Dp.intsD {a : Addr} {ns : List Int} (h : SqL K H a (ns.map V.int)) : Dp K H (.ref a) (intsD ns) := .lst h (DpAll.ints ns)
theorem r_reprI {a : Addr} (ns : List Int) (hs : SqL K H a (ns.map V.int)) (hb : ∀ n ∈ ns, n.natAbs < 2 ^ 1900) (hl : ns.length ≤ 40) (h : Q (.str (intsD ns).shown) H) : rRepr K [.ref a] H Q := by
  refine r_reprD (intsD ns) (Dp.intsD hs) (tameInts ns hb) ?_ ?_ h
  · show PyData.depthAll (ns.map PyData.int) + 1 ≤ 40
    rw [depthInts]; decide
  · show 4 + roomAll (ns.map PyData.int) ≤ 100000
    rw [roomInts]; omega
/-- a list times a number -/
theorem r_rep {a : Addr} {xs : List V} {k : Int} (hl : H a = some (.lst xs)) (h0 : 0 ≤ k) (h1 : k ≤ 1000) (hx : xs.length ≤ 1000) (h : ∀ p, H p = none → Q (.ref p) (upd H p (.lst (List.replicate k.toNat xs).flatten))) : rRep (.ref a) (.int k) H Q := by
  refine ⟨a, k, xs, rfl, rfl, hl, by omega, by omega, ?_, h⟩
  have : xs.length * k.toNat ≤ 1000 * 1000 := Nat.mul_le_mul hx (by omega)
  exact Nat.le_trans this (by decide)
theorem eqvInts : ∀ ns ms : List Int, PyData.eqvAll (ns.map PyData.int) (ms.map PyData.int) = decide (ns = ms)
  | [], [] => rfl
  | [], _ :: _ => rfl
  | _ :: _, [] => rfl
  | n :: ns, m :: ms => by
    show (n == m && PyData.eqvAll (ns.map PyData.int) (ms.map PyData.int)) = _
    rw [eqvInts ns ms]
    by_cases e : n = m
    · subst e
      by_cases e2 : ns = ms
      · subst e2; simp
      · simp [e2]
    · simp [e]
theorem canInts : ∀ ns : List Int, PyData.canLayAll0 (ns.map PyData.int) = true
  | [] => rfl
  | n :: ns => by
    show (PyData.canLay0 (.int n) && PyData.canLayAll0 (ns.map PyData.int)) = true
    rw [canInts ns]; rfl
theorem shapedInts (ns : List Int) : SeqAt.shaped (intsD ns) = true := by
  unfold SeqAt.shaped
  rw [Bool.and_eq_true]
  refine ⟨canInts ns, decide_eq_true ?_⟩
  show PyData.depthAll (ns.map PyData.int) + 1 ≤ 64
  rw [depthInts]; decide
/-- two lists of ints compared -/
theorem r_neI {a b : Addr} (ns ms : List Int) (h1 : SqL K H a (ns.map V.int)) (h2 : SqL K H b (ms.map V.int)) (h : Q (.bl (!decide (ns = ms))) H) : rNeD K (.ref a) (.ref b) H Q := by
  refine r_neD (Dp.intsD h1) (Dp.intsD h2) (shapedInts ns) (shapedInts ms) ?_
  rw [show PyData.eqv (intsD ns) (intsD ms) = decide (ns = ms) from eqvInts ns ms]
  exact h
theorem r_eqI {a b : Addr} (ns ms : List Int) (h1 : SqL K H a (ns.map V.int)) (h2 : SqL K H b (ms.map V.int)) (h : Q (.bl (decide (ns = ms))) H) : rEqD K (.ref a) (.ref b) H Q := by
  refine r_eqD (Dp.intsD h1) (Dp.intsD h2) (shapedInts ns) (shapedInts ms) ?_
  rw [show PyData.eqv (intsD ns) (intsD ms) = decide (ns = ms) from eqvInts ns ms]
  exact h
end
end Vf

namespace Vf
open PySem PySem.Spec PyProof.Rows L2
/-! ## the law's own call, from the promise of its def -/
section
variable {P : Program} {w : World} {K : PySem.W.Frag} {mg mb : Str → Option Value} {k : Nat} {fa a : Addr} {st : Stmt} {x y : Str} {sp : Sp} {s₁ : Shared} {vs : List Value} {ns : List Int}
/-- what the whole call is to come to -/
abbrev Told (s₁ : Shared) (r : Result) (s' : Shared) : Prop :=
  r = .ok (.ret (.bool true)) ∧ OldK s₁.heap s'.heap ∧ s'.os = s₁.os ∧ AllBare s'.gens
theorem law_g (KX : K.In s₁.heap) (hns : s₁.heap.Ns mainGlobals mg) (hb : s₁.heap.Ns builtinsNs mb) (hbb : ∀ z : Str, z ≠ "__name__" → mb z = bootBuiltins z)
    (hlim : s₁.heap.NoLimit) (hg : s₁.gens = #[]) (ha : s₁.heap.get? a = some { cls := .type "list", data := .seq vs.toArray }) (hi : IntsAre vs ns) (hl : ns.length ≤ sizeLine)
    (hr : Room k callerA) (hfa : mg x = some (.ref fa)) (F : ∀ base : Heap, K.In base → base.Ns mainGlobals mg → Ok P w K mg base k x st [y] sp)
    (B : ∀ f fd, L2.Fun K x x st f fd → L2.Binds K fd [y] [])
    (hsp : ∀ H : Hp, L2.Only H → SqL K H a (ns.map V.int) → sp [.ref a] H (fun v _ => v = .bl true) fun _ _ _ => False) :
    codeAny (model P w) callerA (.call (.ref fa) ⟨[.ref a], []⟩) (Told s₁) s₁ := by
  have rv := vals_ints hi
  -- over a heap that tracks the script alone, or nothing
  have run : ∀ H : Hp, L2.Only H → SqL K H a (ns.map V.int) → HOk P w H s₁.heap → (∀ b o, H b = some o → b = a ∧ K.lookup a = none) →
      codeAny (model P w) callerA (.call (.ref fa) ⟨[.ref a], []⟩) (Told s₁) s₁ := by
    intro H hO hS hok only
    -- the base: all that H does not track
    have dictNone : ∀ {b : Addr} {o : Obj} {es : Array DictEntry} {ep : Nat}, s₁.heap.get? b = some o → o.data = .dict es ep → H b = none := by
      intro b o es ep e d
      rcases hz : H b with _ | u
      · rfl
      · obtain ⟨rfl, _⟩ := only b u hz
        rw [ha] at e
        injection e with e
        rw [← e] at d
        exact absurd d (by intro z; injection z)
    have space : ∀ {b : Addr} {m : Str → Option Value}, s₁.heap.Ns b m → (hidT s₁.heap H).Ns b m := by
      rintro b m ⟨o, es, ep, e, d, rest⟩
      exact ⟨o, es, ep, hidT_get e (dictNone e d), d, rest⟩
    have kin : K.In (hidT s₁.heap H) := by
      intro b o e
      refine hidT_get (KX b o e) ?_
      rcases hz : H b with _ | u
      · rfl
      · obtain ⟨rfl, n⟩ := only b u hz
        rw [n] at e
        cases e
    obtain ⟨mc, hc1, hc2⟩ := hlim
    have env : Env0 P w K mg (hidT s₁.heap H) callerA [] s₁ H :=
      { frames := rfl, mod := ⟨kin, space hns, ⟨mb, space hb, hbb⟩, ⟨mc, space hc1, hc2⟩⟩, bs := fun b o e => of_hidT e, bsz := Nat.le_of_eq (hidT_size _ _)
        funs := trivial, frf := fun b z => absurd (show b ∈ ([] : List Addr) from z) List.not_mem_nil, hok := hok, bare := .of_eq hg }
    obtain ⟨⟨f, fd, G, hm, go⟩, _⟩ := F _ kin (space hns)
    have ef : f = fa := by
      rw [hfa] at hm
      injection hm with hm
      injection hm with hm
      exact hm.symm
    subst ef
    have bind := B f fd G s₁ [.ref a] KX rfl
    rw [List.append_nil] at bind
    refine codeAny_mono (go callerA [] s₁ H ⟨[.ref a], []⟩ [.ref a] [.ref a] (fun v _ => v = .bl true) (fun _ _ _ => False) rfl hr env bind (.cons rfl .nil) (hsp H hO hS)) ?_
    intro r s' h
    rcases r with e | fl
    · obtain ⟨_, _, _, _, _, _, _, _, _, _, _, _, z⟩ := h
      exact z.elim
    · rcases fl with _ | _ | _ | u
      · exact False.elim h
      · exact False.elim h
      · exact False.elim h
      · obtain ⟨v, H', os, bare, un, hok', rr, q⟩ := h
        have q2 : v = .bl true := q
        subst q2
        have eu : u = Value.bool true := rr
        subst eu
        refine ⟨rfl, OldK.of_keep (fun b o e => ?_), os, bare⟩
        rcases hz : H b with _ | u
        · exact un.keep b o e hz (fun z => absurd (show b ∈ ([] : List Addr) from z) List.not_mem_nil) List.not_mem_nil
        · rcases hO b with z | ⟨ob, xs, z⟩
          · rw [hz] at z; cases z
          · have e1 := (hok b _ z).1
            have e2 := (hok' b _ (un.frzs b ob _ z)).1
            rw [e] at e1
            rw [e2, e1]
  rcases hk : K.lookup a with _ | o
  · -- the script is no object of the module: it is tracked, as a locked list
    let sc : Obj := { cls := .type "list", data := .seq vs.toArray }
    let H : Hp := fun b => if b = a then some (.frz sc (.lst (ns.map V.int))) else none
    have at_ : H a = some (.frz sc (.lst (ns.map V.int))) := if_pos rfl
    have off : ∀ b, b ≠ a → H b = none := fun b n => if_neg n
    have here : ∀ b o, H b = some o → b = a := fun b o e => by
      by_cases n : b = a
      · exact n
      · rw [off b n] at e; cases e
    refine run H (fun b => ?_) (Or.inl (Or.inr ⟨sc, at_⟩)) (fun b o e => ?_) (fun b o e => ⟨here b o e, hk⟩)
    · by_cases n : b = a
      · subst n; exact Or.inr ⟨_, _, at_⟩
      · exact Or.inl (off b n)
    · have n := here b o e
      subst n
      rw [at_] at e
      injection e with e
      subst e
      exact ⟨ha, by rw [List.length_map]; exact hl, vs, _, rv, ha⟩
  · -- it is one
    have e := KX a o hk
    rw [ha] at e
    injection e with e
    subst e
    refine run (fun _ => none) (fun _ => Or.inl rfl) (Or.inr ⟨_, vs.toArray, _, hk, rfl, rfl, rfl, ?_, ?_⟩) (fun b u z => ?_) (fun b u z => ?_)
    · rw [List.size_toArray, hi.length]; exact hl
    · simpa using rv
    · cases (show (none : Option HO) = some u from z)
    · cases (show (none : Option HO) = some u from z)
end
/-- the end of a law: the promise of its def, with the script's bits told -/
theorem walk_g {l : PySem.W.OpenLaw} {n k : Nat} {q : Program} {loose : List Str} {XP : (Str → Option Value) → Heap → Prop} {YP : World → Heap → Prop} {d : DefRec} {K : Params → PySem.W.Frag} {sp : PySem.W.Frag → Sp} {y : Str} {st : Stmt}
    (hn : l.most = some n) (hn2 : n ≤ sizeLine) (hdf : d.params.defaults = []) (hr : Room k callerA) (hY : ∀ (w : World) (h : Heap), YP w h → (K w.params).In h)
    (F : ∀ (w : World) (mg : Str → Option Value) (h : Heap), (K w.params).In h → h.Ns mainGlobals mg → ∀ base : Heap, (K w.params).In base → base.Ns mainGlobals mg → Ok l.prog w (K w.params) mg base k d.name st [y] (sp (K w.params)))
    (B : ∀ (w : World) f fd, L2.Fun (K w.params) d.name d.name st f fd → L2.Binds (K w.params) fd [y] [])
    (hsp : ∀ (w : World) (H : Hp) (a : Addr) (ns : List Int), ns.length ≤ n → (∀ z ∈ ns, Builtin.Int.intBits z ≤ 1048576) → SqL (K w.params) H a (ns.map V.int) → sp (K w.params) [.ref a] H (fun v _ => v = .bl true) fun _ _ _ => False) :
    PySem.W.WalkO q loose XP YP l.row.toRowW d [] (fun f vs => PySem.call f vs) := by
  refine Att.attach_callB hn hdf fun w s₀ s₁ mg mb fa o pm cd doc a vs ns G Y ho hd hcd hmg hobj hints hlen hbits hg => ?_
  have KX := hY w _ Y
  exact law_g KX G.T.g G.T.b G.T.builtins G.T.nolimit hg hobj hints (Nat.le_trans hlen hn2) hr hmg (F w mg _ KX G.T.g) (B w) fun H hO hS => hsp w H a ns hlen hbits hS
end Vf

namespace Vf
open PySem PySem.Spec PyProof.Rows L2
/-! ## enumerate(t), t a tuple -/
section
open AutoSeq1 (wpAny_loadPart')
/-- what enumerate makes of a tuple: its iterator, then the object that counts -/
def enT (h : Heap) (a : Addr) : Heap := h.push { cls := .type "tuple_iterator", data := .fields #[.ref a, .int 0 0] }
def enE (h : Heap) : Obj := { cls := .type "enumerate", data := .fields #[.none, .bool false, .ref h.objs.size, rawInt 0, .none, .none] }
theorem meets_enT (a : Addr) (items : Array Value) (n : Nat) (dct : Option Addr) (sl : Array (Option Value)) :
    Meets (Builtin.«enumerate.__new__» ⟨[.type "enumerate", .ref a], []⟩)
      (fun _ R s => s.heap.get? a = some { cls := .type "tuple", dict := dct, data := .seq items n, slots := sl } ∧
        R (.ok (.ret (.ref (enT s.heap a).objs.size))) { s with heap := (enT s.heap a).push (enE s.heap) }) :=
  .of_wp fun prog w A R s h => by
    obtain ⟨hp, g, d, tk, os⟩ := s
    obtain ⟨ho, h⟩ := h
    have sub := sub_enumerate
    have tup : Heap.IsTuple (Shared.heap ⟨hp, g, d, tk, os⟩) a items := ⟨_, ho, rfl, n, rfl⟩
    wp_walk using wpAny_loadPart' ho
    refine wpAny_stack_any fun st => wpAny_pure ?_
    split
    · rename_i c _ _ _ _ _
      rcases (c == Value.type "enumerate") with _ | _
      · wp_walk using wpAny_loadPart' ho, wpAny_pyIter_tuple tup
        exact ⟨_, rfl, h⟩
      · wp_walk using wpAny_loadPart' ho, wpAny_pyIter_tuple tup
        exact ⟨_, rfl, h⟩
    · wp_walk using wpAny_loadPart' ho, wpAny_pyIter_tuple tup
      exact ⟨_, rfl, h⟩
end
section
variable {prog : Program} {w : World} {A : Around} {E : Value → Shared → Prop} {s : Shared}
theorem call_enT {a : Addr} {items : Array Value} {Q : Value → Shared → Prop} (tup : s.heap.IsTuple a items)
    (h : ∀ h', IsEnum h' (s.heap.objs.size + 1) s.heap.objs.size 0 .none → h'.IsTupleIter s.heap.objs.size a 0 →
      (∀ b o, s.heap.get? b = some o → h'.get? b = some o) → Q (.ref (s.heap.objs.size + 1)) { s with heap := h' }) :
    wpAny (model prog w) A (call (.type "enumerate") [.ref a]) Q E s := by
  obtain ⟨⟨c, dct, dt, sl⟩, ho, hc, n, hd⟩ := tup
  cases (show c = .type "tuple" from hc)
  cases (show dt = .seq items n from hd)
  have sz : (enT s.heap a).objs.size = s.heap.objs.size + 1 := Heap.size_push ..
  have it0 : (enT s.heap a).get? s.heap.objs.size = some { cls := .type "tuple_iterator", data := .fields #[.ref a, .int 0 0] } := Heap.get?_push_size _ rfl
  have en0 : ((enT s.heap a).push (enE s.heap)).get? (s.heap.objs.size + 1) = some (enE s.heap) := by
    rw [← sz]
    exact Heap.get?_push_size _ rfl
  refine callType_new F.called_enumerate (by decide) (F.typeCall_enumerate_1 _) (F.newCall_enumerate_1 _)
    (fun obj => F.args_object_init_2 obj _) F.entry_enumerate_new (meets_enT a items n dct sl) ⟨ho, ?_⟩
  show _ ∧ _
  rw [sz]
  exact ⟨⟨_, en0, rfl⟩, h _ en0 ⟨_, Heap.get?_push_of_some _ it0, rfl, rfl⟩ fun b o e => Heap.get?_push_of_some _ (Heap.get?_push_of_some _ e)⟩
end
theorem drawsT {prog : Program} {w : World} {A : Around} (hh : A.handled = none) (it a : Addr) (ne : a ≠ it) (items : Array Value) :
    Draws prog w A it [it, a] items.size (fun i v => items[i]? = some v) (fun i h => h.IsTupleIter it a i ∧ h.IsTuple a items) where
  live := fun i h st => by
    obtain ⟨⟨o, ho, _⟩, _⟩ := st
    exact ⟨o, ho⟩
  frame := fun i h h' st k => by
    obtain ⟨⟨o, ho, r⟩, ⟨o2, ho2, r2⟩⟩ := st
    exact ⟨⟨o, k it (by simp) o ho, r⟩, ⟨o2, k a (by simp) o2 ho2, r2⟩⟩
  item := fun i s Q E hi st q => RZ.nextOf_tuple_item st.1 st.2 (x := items[i]) (by simp [hi]) fun h' hit sb =>
    q _ h' s.toks (by simp [hi]) ⟨hit, by
      obtain ⟨o2, ho2, r2⟩ := st.2
      exact ⟨o2, (sb.2 a ne).trans ho2, r2⟩⟩ sb
  done := fun s Q E st q => RZ.nextOf_tuple_end hh st.1 st.2 (by simp) q
/-- the tuple at a, each item in a new pair with its place -/
def ItE (K : PySem.W.Frag) (a : Addr) : It :=
  ⟨fun i H => ∃ (xs : List V) (x : V), SqT K H a xs ∧ xs[i]? = some x,
   fun i H v H' => ∃ T x, v = .ref T ∧ H T = none ∧ H' = upd H T (.tup [.int (i : Nat), x]) ∧ ∀ xs, SqT K H a xs → xs[i]? = some x,
   fun i H => ∃ xs : List V, SqT K H a xs ∧ xs.length ≤ i⟩
def EnAt (a e it : Addr) (i : Nat) (h : Heap) : Prop := (∃ old, IsEnum h e it ((i : Nat) : Int) old) ∧ h.IsTupleIter it a i ∧ e ≠ it ∧ e ≠ a ∧ it ≠ a
theorem turn_enT {P : Program} {w : World} {K : PySem.W.Frag} {elts : List Expr} {kk : Nat} {tpos : Pos} (a e it : Addr) :
    Turn P w K (.Tuple elts kk tpos) (ItE K a) [e, it] e (EnAt a e it) where
  mem := List.mem_cons_self
  obj := fun i h st b hb => by
    obtain ⟨⟨old, he⟩, ⟨o, ho, hc, hd⟩, _⟩ := st
    rcases List.mem_cons.mp hb with rfl | hb
    · exact ⟨_, he, fun v q => nomatch q⟩
    · rw [List.mem_singleton.mp hb]
      exact ⟨o, ho, fun v q => by rw [hd] at q; cases q⟩
  keep := fun i h h' st k => by
    obtain ⟨⟨old, he⟩, ⟨o, ho, r⟩, n⟩ := st
    exact ⟨⟨old, k e (by simp) _ he⟩, ⟨o, k it (by simp) _ ho, r⟩, n⟩
  item := by
    intro X hP hw hK hc i pins s σ H E I hf st hg
    subst hP hw hK
    obtain ⟨⟨old, he⟩, hit, n1, n2, n3⟩ := st
    obtain ⟨xs, x, hq, hx⟩ := hg
    obtain ⟨its, rv, p, hz⟩ := I.tuple hq
    obtain ⟨u, hu, ru⟩ := rv.get hx
    have tup : s.heap.IsTuple a its.toArray := p
    have hel := Heap.lt_size he
    have hil : it < s.heap.objs.size := by
      obtain ⟨_, q, _⟩ := hit
      exact Heap.lt_size q
    have hi : i < its.toArray.size := by
      rw [List.size_toArray]
      exact (List.getElem?_eq_some_iff.mp hu).1
    refine wpAny_pyNext_enum_itemD (drawsT (A := X.A.in1) (I.ok.hd hc) it a n3.symm its.toArray) he ⟨hit, tup⟩ hi n1 (by simp [n1, n2]) fun y h' tk hy ho st' hT hsz hk => ?_
    have eyu : y = u := by
      have h1 : its[i]? = some y := by simpa using hy
      rw [hu] at h1
      exact (Option.some.inj h1).symm
    subst eyu
    refine ⟨_, rfl, wpAny_letOwnedTupleGo_enum (s := { s with heap := h', toks := tk + 1 }) ho fun h'' he' sb => ?_⟩
    have hT2 : h''.get? s.heap.objs.size = some { cls := .type "tuple", data := .seq #[.int i tk, y] } := (sb.2 _ (Nat.ne_of_gt hel)).trans hT
    have new : ObjOk X.prog X.w (upd H s.heap.objs.size (.tup [.int (i : Nat), x])) h'' s.heap.objs.size (.tup [.int (i : Nat), x]) :=
      ⟨by show 2 ≤ sizeLine; decide, [.int i tk, y], .cons ⟨_, rfl⟩ (.cons ru .nil), ⟨_, hT2, rfl, _, rfl⟩⟩
    have stay : ∀ b ob, b ∉ [e, it] → s.heap.get? b = some ob → h''.get? b = some ob := fun b ob hb q =>
      (sb.2 b (fun z => hb (by simp [z]))).trans (hk b ob (fun z => hb (by simp [z])) (fun z => hb (by simp [z])) q)
    have I1 := I.turnedNew (t' := tk + 1) (ch := [e, it]) stay hf (Nat.le_refl _) new
    refine ⟨.ref s.heap.objs.size, _, I1, rfl, ⟨_, x, rfl, I.hok.fresh (Nat.le_refl _), rfl, fun ys hy2 => by rw [I.tuple_inj hy2 hq]; exact hx⟩, ⟨⟨y, ?_⟩, ?_, n1, n2, n3⟩, fun b hb => ?_⟩
    · rw [show ((i + 1 : Nat) : Int) = (i : Int) + 1 by omega]
      exact he'
    · obtain ⟨o, ho2, r⟩ := st'.1
      exact ⟨o, (sb.2 it n1.symm).trans ho2, r⟩
    · have lt : b < s.heap.objs.size := by
        rcases List.mem_cons.mp hb with rfl | hb
        · exact hel
        · rw [List.mem_singleton.mp hb]; exact hil
      rw [upd_ne (Nat.ne_of_lt lt)]
      exact (hf b hb).1
  done := by
    intro X hP hw hK hc i pins s σ H E I hf st hg
    subst hP hw hK
    obtain ⟨⟨old, he⟩, hit, n1, n2, n3⟩ := st
    obtain ⟨xs, hq, hx⟩ := hg
    obtain ⟨its, rv, p, hz⟩ := I.tuple hq
    obtain ⟨f0, f1, f2, f3, f4, f5⟩ := hf it (by simp)
    have tup : s.heap.IsTuple a its.toArray := p
    have hT : s.TypeIs (.ref e) "enumerate" := ⟨_, he, rfl⟩
    have hl := rv.length
    unfold pyNext
    refine wpAny_bind (wpAny_attempt (wpAny_callSpecial?_slot (name := Str.ofString "__next__") hT F.slot_enumerate_next
      (wpAny_call_entry F.slot_enumerate_next hT F.entry_enumerate_next ?_ (F.args_enumerate_next_1 _))))
    show wpAny _ _ (field (.ref e) 2 >>= _) _ _ _
    refine wpAny_bind (wpAny_field he rfl (x := .ref it) rfl ?_)
    refine wpAny_bind (RZ.nextOf_tuple_end (A := X.A.in1) (I.ok.hd hc) hit tup (by simp; omega) fun h' z hb hz2 => ?_)
    obtain ⟨o, ho, hcl⟩ := hz2
    refine wpAny_bind (wpAny_isInstance (T := "StopIteration") (b := true) ⟨o, ho, hcl⟩ isSubtype_stop ?_)
    exact wpAny_pure ⟨rfl, I.turned (t' := s.toks) (fun b o hb2 q => hb b o hb2 q) f0 f1 f3 f4 f5⟩
  self := fun A i s Q E st h => by
    obtain ⟨⟨_, he⟩, _⟩ := st
    exact wpAny_pyIter_enum he h
def iEn (K : PySem.W.Frag) (ta : TA) : TI := fun σ H R => ta σ H fun vs H1 => ∃ a xs, vs = [.ref a] ∧ SqT K H1 a xs ∧ R (ItE K a) H1
theorem i_enT {X : Cx} {K : PySem.W.Frag} {e : Expr} {ta : TA} {p pos tpos : Pos} {elts : List Expr} {kk : Nat} (ek : X.K = K) (hg : Gl X "enumerate") (hm : X.mg "enumerate" = none) (ha : PA X [e] ta)
    (hs : starEach [e] X.env = [(false, eval e X.env)] := by rfl) : PI X (.Tuple elts kk tpos) (.Call (.Name "enumerate" p) [e] [] pos) (iEn K ta) := by
  subst ek
  refine ⟨fun pins s σ H R I h => ?_⟩
  refine Call_ (ld_blt I hg hm boot_enumerate (PyProof.Rows.callWith_type1 (thn (ha.run pos pins s σ H _ I h) fun us s1 ⟨vs, H1, I1, r1, q1⟩ => ?_) hs rfl))
  obtain ⟨a, xs, rfl, hq, q⟩ := q1
  have eu := Vals.ref1 r1
  subst eu
  obtain ⟨its, rv, tup, hz⟩ := I1.tuple hq
  have hal : a < s1.heap.objs.size := tup.lt
  refine call_enT tup fun h' he hit hk => wpAny_pyIter_enum he ?_
  refine ⟨s1.heap.objs.size + 1, [s1.heap.objs.size + 1, s1.heap.objs.size], EnAt a (s1.heap.objs.size + 1) s1.heap.objs.size, _, H1, rfl, I1.kept (t' := s1.toks) hk, turn_enT a _ _,
    ⟨⟨.none, he⟩, hit, Nat.succ_ne_self _, Nat.ne_of_gt (Nat.lt_succ_of_lt hal), Nat.ne_of_gt hal⟩, fun b hb => ?_, q⟩
  have le : s1.heap.objs.size ≤ b := by
    rcases List.mem_cons.mp hb with rfl | hb
    · exact Nat.le_succ _
    · rw [List.mem_singleton.mp hb]; exact Nat.le_refl _
  exact I1.fpOk le (I1.hok.fresh le)
/-- slices -/
theorem r_slL {K : PySem.W.Frag} {H : Hp} {Q : VK} {a : Addr} {xs : List V} {lo hi : Option Int} (hs : SqL K H a xs) (h : ∀ p, H p = none → Q (.ref p) (upd H p (.lst (cutV xs lo hi)))) : rSlL K (.ref a) lo hi H Q := ⟨a, xs, rfl, hs, h⟩
theorem r_sl {r : V → Option Int → Option Int → Hp → VK → Prop} {te : TE} {tl th : TO} {σ : L2.St} {H : Hp} {Q : VK} (h : te σ H fun x H1 => tl σ H1 fun l H2 => th σ H2 fun u H3 => r x l u H3 Q) : tSl r te tl th σ H Q := h
theorem r_noPart {σ : L2.St} {H : Hp} {R : Option Int → Hp → Prop} (h : R none H) : tNoPart σ H R := h
theorem r_part {t : TE} {σ : L2.St} {H : Hp} {R : Option Int → Hp → Prop} (h : t σ H fun x H1 => ∃ i, x = .int i ∧ R (some i) H1) : tPart t σ H R := h
theorem cut_to (xs : List V) (n : Nat) : cutV xs none (some (n : Int)) = xs.take n := by
  unfold cutV
  rw [HT.sIx_none, HT.sIx_nat, List.drop_zero, Nat.sub_zero]
  rcases Nat.le_total n xs.length with h | h
  · rw [Nat.min_eq_left h]
  · rw [Nat.min_eq_right h, List.take_length, List.take_of_length_le h]
/-- a walk of a tuple with its places -/
theorem r_forEn {K : PySem.W.Frag} {g : TG} {tb : TS} {D : Ends} {σ : L2.St} {H : Hp} {a : Addr} (xs : List V) (Pv : Nat → L2.St → Hp → Prop) (h0 : Pv 0 σ H) (hl : ∀ i σ H, i ≤ xs.length → Pv i σ H → SqT K H a xs)
    (hs : ∀ i x σ H T, xs[i]? = some x → Pv i σ H → H T = none → g (.ref T) σ (upd H T (.tup [.int (i : Nat), x])) fun σ2 H2 => tb { D with nx := Pv (i + 1), ct := Pv (i + 1), bk := D.nx } σ2 H2)
    (hd : ∀ σ H, Pv xs.length σ H → D.nx σ H) : tFor (fun _ H2 R => R (ItE K a) H2) g tb D σ H := by
  refine ⟨fun i m σ H => m = xs.length - i ∧ i ≤ xs.length ∧ Pv i σ H, ⟨xs.length, by omega, Nat.zero_le _, h0⟩, ?_⟩
  rintro i m σ H ⟨rfl, hi, p⟩
  have q := hl i σ H hi p
  by_cases lt : i < xs.length
  · refine Or.inr ⟨⟨xs, xs[i], q, by simp [lt]⟩, Pv (i + 1), fun σ' H' p' => ⟨xs.length - (i + 1), by omega, rfl, lt, p'⟩, fun x H' y => ?_⟩
    obtain ⟨T, z, rfl, nT, rfl, fz⟩ := y
    exact hs i z σ H T (fz xs q) p nT
  · have e : i = xs.length := by omega
    subst e
    exact Or.inl ⟨⟨xs, q, Nat.le_refl _⟩, hd σ H p⟩
theorem r_forE {K : PySem.W.Frag} {g : TG} {tb : TS} {D : Ends} {σ : L2.St} {H : Hp} {ta : TA} (h : ta σ H fun vs H1 => ∃ a xs, vs = [.ref a] ∧ SqT K H1 a xs ∧ tFor (fun _ H2 R => R (ItE K a) H2) g tb D σ H1) : tFor (iEn K ta) g tb D σ H := h
end Vf

namespace Vf
/-! ## the greatest common divisor as a sum of both -/
/-- behind the first turn: both rests have one sign s, the factors of the first number go up and down by turns -/
def Bl (y u nu l r : Int) : Prop := ∃ (s e : Int) (p q a b : Nat), (s = 1 ∨ s = -1) ∧ (e = 1 ∨ e = -1) ∧ l = s * a ∧ r = s * b ∧ u = e * p ∧ nu = -(e * q) ∧ p * b + q * a = y.natAbs ∧ b < a ∧ p ≤ y.natAbs ∧ a ≤ y.natAbs
structure Bz (x y u v nu nv l r : Int) : Prop where
  e1 : u * x + v * y = l
  e2 : nu * x + nv * y = r
  g : Nat.gcd l.natAbs r.natAbs = Nat.gcd x.natAbs y.natAbs
  st : (u = 1 ∧ v = 0 ∧ nu = 0 ∧ nv = 1 ∧ l = x ∧ r = y) ∨ (y ≠ 0 ∧ Bl y u nu l r)
theorem Bz.first (x y : Int) : Bz x y 1 0 0 1 x y := ⟨by omega, by omega, rfl, .inl ⟨rfl, rfl, rfl, rfl, rfl, rfl⟩⟩
theorem nat_gcd_sub (l r t : Int) : Nat.gcd r.natAbs (l - t * r).natAbs = Nat.gcd l.natAbs r.natAbs := by
  have h : Int.gcd r (l - t * r) = Int.gcd r l := Int.gcd_sub_mul_right_right r l t
  rw [show Nat.gcd r.natAbs (l - t * r).natAbs = Int.gcd r (l - t * r) from rfl, h, Int.gcd_comm]
  rfl
theorem sgn_abs {s : Int} (h : s = 1 ∨ s = -1) (n : Nat) : (s * n).natAbs = n := by
  rcases h with h | h <;> subst h <;> omega
theorem fmod_neg (l r : Int) (h : r < 0) : l.fmod r ≤ 0 ∧ r < l.fmod r := by
  have e := Int.neg_fmod_neg (-l) (-r)
  rw [Int.neg_neg, Int.neg_neg] at e
  have h1 := Int.fmod_nonneg_of_pos (-l) (show 0 < -r by omega)
  have h2 := Int.fmod_lt_of_pos (-l) (show 0 < -r by omega)
  omega
theorem Bl.step {y u nu l r : Int} (h : Bl y u nu l r) (hr : r ≠ 0) : Bl y nu (u - l.fdiv r * nu) r (l - l.fdiv r * r) := by
  obtain ⟨s, e, p, q, a, b, hs, he, hl, hrr, hu, hnu, hy, hab, hp, ha⟩ := h
  have hb : 0 < b := by
    rcases Nat.eq_zero_or_pos b with z | z
    · subst z
      exact absurd (by rw [hrr]; simp) hr
    · exact z
  have ht : l.fdiv r = ((a / b : Nat) : Int) := by
    rw [hl, hrr]
    rcases hs with z | z <;> subst z
    · rw [Int.one_mul, Int.one_mul, Int.fdiv_eq_ediv_of_nonneg _ (by omega)]
      rfl
    · rw [Int.neg_mul, Int.neg_mul, Int.one_mul, Int.one_mul, Int.neg_fdiv_neg, Int.fdiv_eq_ediv_of_nonneg _ (by omega)]
      rfl
  have hd := Nat.div_add_mod a b
  have hm := Nat.mod_lt a hb
  rw [ht]
  generalize a / b = d at *
  generalize a % b = m at *
  have hd' : (b : Int) * d + m = a := by rw [← hd, Int.natCast_add, Int.natCast_mul]
  refine ⟨s, -e, q, p + d * q, b, m, hs, by omega, hrr, ?_, ?_, ?_, ?_, hm, ?_, by omega⟩
  · rw [hl, hrr, ← hd']
    grind
  · rw [hnu]; grind
  · rw [hu, hnu, Int.natCast_add, Int.natCast_mul]; grind
  · rw [← hy, ← hd]; grind
  · rw [← hy]
    have : q * 1 ≤ q * a := Nat.mul_le_mul_left q (by omega)
    omega
theorem Bz.step {x y u v nu nv l r : Int} (h : Bz x y u v nu nv l r) (hr : r ≠ 0) :
    Bz x y nu nv (u - l.fdiv r * nu) (v - l.fdiv r * nv) r (l - l.fdiv r * r) ∧ (l - l.fdiv r * r).natAbs < r.natAbs := by
  have key : l - l.fdiv r * r = l.fmod r := by rw [Int.fmod_def, Int.mul_comm]
  have lt : (l - l.fdiv r * r).natAbs < r.natAbs := by
    rw [key]
    rcases Int.lt_or_gt_of_ne hr with z | z
    · have h1 := fmod_neg l r z
      omega
    · have h1 := Int.fmod_nonneg_of_pos l z
      have h2 := Int.fmod_lt_of_pos l z
      omega
  refine ⟨⟨h.e2, ?_, ?_, .inr ?_⟩, lt⟩
  · have h1 := h.e1
    have h2 := h.e2
    grind
  · rw [nat_gcd_sub]; exact h.g
  · rcases h.st with ⟨e1, e2, e3, e4, e5, e6⟩ | ⟨hy, b⟩
    · subst e1 e2 e3 e4 e5 e6
      refine ⟨hr, ?_⟩
      rcases Int.lt_or_gt_of_ne hr with z | z
      · have h1 := (fmod_neg l r z).1
        refine ⟨-1, -1, 0, 1, r.natAbs, (l - l.fdiv r * r).natAbs, .inr rfl, .inr rfl, by omega, by omega, by omega, by omega, by omega, lt, by omega, by omega⟩
      · have h1 := Int.fmod_nonneg_of_pos l z
        refine ⟨1, -1, 0, 1, r.natAbs, (l - l.fdiv r * r).natAbs, .inl rfl, .inr rfl, by omega, by omega, by omega, by omega, by omega, lt, by omega, by omega⟩
    · exact ⟨hy, b.step hr⟩
theorem abs_of_mul {v y : Int} {B : Nat} (hy : y ≠ 0) (h : (v * y).natAbs ≤ B) : v.natAbs ≤ B := by
  rw [Int.natAbs_mul] at h
  exact Nat.le_trans (Nat.le_mul_of_pos_right _ (by omega)) h
theorem Bz.bounds {x y u v nu nv l r : Int} {B : Nat} (h : Bz x y u v nu nv l r) (hx : x.natAbs ≤ B) (hy : y.natAbs ≤ B) (hB : 1 ≤ B) :
    u.natAbs ≤ B ∧ nu.natAbs ≤ B ∧ l.natAbs ≤ B ∧ r.natAbs ≤ B ∧ v.natAbs ≤ B + B * B ∧ nv.natAbs ≤ B + B * B := by
  rcases h.st with ⟨e1, e2, e3, e4, e5, e6⟩ | ⟨h0, s, e, p, q, a, b, hs, he, hl, hrr, hu, hnu, hyy, hab, hp, ha⟩
  · subst e1 e2 e3 e4 e5 e6
    refine ⟨by omega, by omega, hx, hy, by omega, by omega⟩
  · have q1 : q ≤ y.natAbs := by
      rw [← hyy]
      have : q * 1 ≤ q * a := Nat.mul_le_mul_left q (by omega)
      omega
    have hub : u.natAbs ≤ B := by rw [hu, sgn_abs he]; omega
    have hnub : nu.natAbs ≤ B := by rw [hnu, Int.natAbs_neg, sgn_abs he]; omega
    have ra : r.natAbs = b := by rw [hrr, sgn_abs hs]
    have la : l.natAbs = a := by rw [hl, sgn_abs hs]
    have mb : ∀ (f : Int), f.natAbs ≤ B → (f * x).natAbs ≤ B * B := fun f hf => by
      rw [Int.natAbs_mul]; exact Nat.mul_le_mul hf hx
    have m1 := mb u hub
    have m2 := mb nu hnub
    have e1 := h.e1
    have e2 := h.e2
    refine ⟨hub, hnub, by omega, by omega, abs_of_mul h0 (by omega), abs_of_mul h0 (by omega)⟩
end Vf

namespace Vf
/-! ## two rests made one -/
theorem emod_unique {x r n q : Int} (h : x = r + n * q) (h0 : 0 ≤ r) (h1 : r < n) : x % n = r := by
  rw [h, Int.add_mul_emod_self_left]
  exact Int.emod_eq_of_lt h0 h1
/-- u is, by the step, what turns b / g back -/
theorem merge_math {x b c g bt ct u w : Int} (hb : 0 < b) (hc : 0 < c) (hg : 0 < g) (eb : b = g * bt) (ec : c = g * ct) (hu : u * bt = 1 + ct * w) :
    (x % c - x % b) % g = 0 ∧ x % b + b * (((x % c - x % b) / g * (u % ct)) % ct) = x % (b * ct) := by
  have hct : 0 < ct := by
    rcases Int.lt_trichotomy ct 0 with z | z | z
    · have := Int.mul_neg_of_pos_of_neg hg z; omega
    · subst z; omega
    · exact z
  have d1 := Int.emod_add_mul_ediv x b
  have d2 := Int.emod_add_mul_ediv x c
  generalize hr : x % b = r at *
  generalize hs : x % c = s at *
  generalize x / b = q at *
  generalize x / c = v at *
  have hr0 : 0 ≤ r := by rw [← hr]; exact Int.emod_nonneg _ (by omega)
  have hrb : r < b := by rw [← hr]; exact Int.emod_lt_of_pos _ hb
  -- the difference of the rests is g times d
  have hd : s - r = g * (bt * q - ct * v) := by
    subst eb ec
    have h1 : g * (bt * q - ct * v) = g * bt * q - g * ct * v := by grind
    rw [h1]
    omega
  have e0 : (s - r) % g = 0 := by rw [hd]; exact Int.mul_emod_right g _
  refine ⟨e0, ?_⟩
  have e1 : (s - r) / g = bt * q - ct * v := by rw [hd]; exact Int.mul_ediv_cancel_left _ (by omega)
  rw [e1]
  -- times is q, by the step
  have e2 : ((bt * q - ct * v) * (u % ct)) % ct = q % ct := by
    rw [Int.mul_emod, Int.emod_emod_of_dvd _ (Int.dvd_refl ct), ← Int.mul_emod]
    have : (bt * q - ct * v) * u = q + ct * (w * q - v * u) := by grind
    rw [this, Int.add_mul_emod_self_left]
  rw [e2]
  have dq := Int.emod_add_mul_ediv q ct
  have t0 := Int.emod_nonneg q (show ct ≠ 0 by omega)
  have t1 := Int.emod_lt_of_pos q hct
  generalize q % ct = t at *
  generalize q / ct = k at *
  refine (emod_unique (q := k) ?_ ?_ ?_).symm
  · rw [← d1, ← dq]; grind
  · have := Int.mul_nonneg (show 0 ≤ b by omega) t0
    omega
  · have h2 : b * (t + 1) ≤ b * ct := Int.mul_le_mul_of_nonneg_left (by omega) (by omega)
    rw [Int.mul_add, Int.mul_one] at h2
    omega
/-- least common multiples of some bases -/
def lcmAll (fs : List (Int × Int)) : Nat := fs.foldl (fun m p => Nat.lcm m p.2.natAbs) 1
theorem lcmAll_append (fs gs : List (Int × Int)) : lcmAll (fs ++ gs) = gs.foldl (fun m p => Nat.lcm m p.2.natAbs) (lcmAll fs) := by
  unfold lcmAll
  rw [List.foldl_append]
theorem lcmAll_snoc (fs : List (Int × Int)) (p : Int × Int) : lcmAll (fs ++ [p]) = Nat.lcm (lcmAll fs) p.2.natAbs := lcmAll_append fs [p]
/-- facts that are right: a base from 1 on, a rest by it -/
def Fact (p : Int × Int) : Prop := 1 ≤ p.2 ∧ p.2 ≤ 10 ^ 30 ∧ 0 ≤ p.1 ∧ p.1 < p.2
theorem lcmAll_pos : ∀ (fs : List (Int × Int)) (m : Nat), (∀ p ∈ fs, Fact p) → 0 < m → 0 < fs.foldl (fun m p => Nat.lcm m p.2.natAbs) m
  | [], _, _, h => h
  | p :: fs, m, hf, h => by
    have hp := hf p List.mem_cons_self
    exact lcmAll_pos fs _ (fun q hq => hf q (List.mem_cons_of_mem _ hq)) (Nat.lcm_pos h (by have := hp.1; omega))
theorem lcm_le_mul (a b : Nat) : Nat.lcm a b ≤ a * b := Nat.div_le_self _ _
theorem lcmAll_le : ∀ (fs : List (Int × Int)) (m e : Nat), (∀ p ∈ fs, Fact p) → m ≤ 2 ^ e → fs.foldl (fun m p => Nat.lcm m p.2.natAbs) m ≤ 2 ^ (e + 100 * fs.length)
  | [], _, _, _, h => h
  | p :: fs, m, e, hf, h => by
    have hp := hf p List.mem_cons_self
    have h2 : p.2.natAbs ≤ 2 ^ 100 := by
      obtain ⟨h1, h2, _⟩ := hp
      omega
    have h3 : Nat.lcm m p.2.natAbs ≤ 2 ^ (e + 100) := by
      rw [Nat.pow_add]
      exact Nat.le_trans (lcm_le_mul _ _) (Nat.mul_le_mul h h2)
    have := lcmAll_le fs _ (e + 100) (fun q hq => hf q (List.mem_cons_of_mem _ hq)) h3
    have e1 : e + 100 + 100 * fs.length = e + 100 * (p :: fs).length := by rw [List.length_cons]; omega
    rw [e1] at this
    exact this
theorem dvd_lcmAll : ∀ (fs : List (Int × Int)) (m : Nat), m ∣ fs.foldl (fun m p => Nat.lcm m p.2.natAbs) m ∧ ∀ p ∈ fs, p.2.natAbs ∣ fs.foldl (fun m p => Nat.lcm m p.2.natAbs) m
  | [], m => ⟨Nat.dvd_refl m, fun _ h => nomatch h⟩
  | p :: fs, m => by
    obtain ⟨h1, h2⟩ := dvd_lcmAll fs (Nat.lcm m p.2.natAbs)
    refine ⟨Nat.dvd_trans (Nat.dvd_lcm_left _ _) h1, fun q hq => ?_⟩
    rcases List.mem_cons.mp hq with rfl | hq
    · exact Nat.dvd_trans (Nat.dvd_lcm_right _ _) h1
    · exact h2 q hq
theorem lcmAll_dvd : ∀ (fs : List (Int × Int)) (m d : Nat), m ∣ d → (∀ p ∈ fs, p.2.natAbs ∣ d) → fs.foldl (fun m p => Nat.lcm m p.2.natAbs) m ∣ d
  | [], _, _, h, _ => h
  | p :: fs, m, d, h, hf => lcmAll_dvd fs _ d (Nat.lcm_dvd h (hf p List.mem_cons_self)) fun q hq => hf q (List.mem_cons_of_mem _ hq)
/-- a number fits some facts -/
def Fits (x : Int) (fs : List (Int × Int)) : Prop := ∀ p ∈ fs, x % p.2 = p.1
/-- whoever fits the facts that x fits leaves the rest of x by their multiple -/
theorem fits_iff {x y : Int} {fs : List (Int × Int)} (hf : ∀ p ∈ fs, Fact p) (hx : Fits x fs) : Fits y fs ↔ (lcmAll fs : Int) ∣ y - x := by
  constructor
  · intro hy
    have : lcmAll fs ∣ (y - x).natAbs := by
      refine lcmAll_dvd fs 1 _ (Nat.one_dvd _) fun p hp => ?_
      have h := Int.emod_emod_of_dvd (y - x) (Int.dvd_refl p.2)
      have e : y % p.2 = x % p.2 := by rw [hx p hp, hy p hp]
      have d : p.2 ∣ y - x := Int.dvd_of_emod_eq_zero (Int.emod_eq_emod_iff_emod_sub_eq_zero.mp e)
      exact Int.natAbs_dvd_natAbs.mpr d
    exact Int.dvd_natAbs.mp (Int.natCast_dvd_natCast.mpr this)
  · intro h p hp
    rw [← hx p hp]
    refine Int.emod_eq_emod_iff_emod_sub_eq_zero.mpr (Int.emod_eq_zero_of_dvd ?_)
    have d := (dvd_lcmAll fs 1).2 p hp
    have d2 : (p.2.natAbs : Int) ∣ (lcmAll fs : Int) := Int.natCast_dvd_natCast.mpr d
    have e : (p.2.natAbs : Int) = p.2 := by have := (hf p hp).1; omega
    rw [e] at d2
    exact Int.dvd_trans d2 h
end Vf

namespace Vf
open PySem PySem.Spec PyProof.Rows L2
/-! ## tuples stay, whatever a list does -/
theorem Kx.tupI {K : PySem.W.Frag} {k : Addr} {H H' : Hp} {l : List V} {a : Addr} {xs : List V} (e : Kx k H H') (hk : H k = some (.lst l)) (h : SqT K H a xs) : SqT K H' a xs := by
  rcases h with (h | ⟨o, h⟩) | h
  · exact Or.inl (Or.inl (e _ _ (ne_of h hk (by intro z; cases z)) h))
  · exact Or.inl (Or.inr ⟨o, e _ _ (ne_of h hk (by intro z; cases z)) h⟩)
  · exact Or.inr h
/-- what keeps all tuples -/
def Tt (H H' : Hp) : Prop := ∀ (K : PySem.W.Frag) a xs, SqT K H a xs → SqT K H' a xs
theorem Tt.refl (H : Hp) : Tt H H := fun _ _ _ h => h
theorem Tt.trans {H H1 H2 : Hp} (a : Tt H H1) (b : Tt H1 H2) : Tt H H2 := fun K x xs h => b K x xs (a K x xs h)
theorem Same.tt {H H' : Hp} (s : Same H H') : Tt H H' := fun _ _ _ h => Same.tup s h
theorem Kx.tt {k : Addr} {H H' : Hp} {l : List V} (e : Kx k H H') (hk : H k = some (.lst l)) : Tt H H' := fun _ _ _ h => e.tupI hk h
theorem new_tt {H : Hp} {p : Addr} {o : HO} (h : H p = none) : Tt H (upd H p o) := Same.tt (Same.new h)
theorem upd_tt {H : Hp} {k : Addr} {l : List V} {o : HO} (hk : H k = some (.lst l)) : Tt H (upd H k o) := Kx.tt Kx.upd hk
/-! ## pairs of ints, tuples of them -/
def PairAt (K : PySem.W.Frag) (H : Hp) (v : V) (p : Int × Int) : Prop := ∃ t, v = .ref t ∧ SqT K H t [.int p.1, .int p.2]
def PairsAt (K : PySem.W.Frag) (H : Hp) (vs : List V) (fs : List (Int × Int)) : Prop := Paired (PairAt K H) vs fs
def FactsAt (K : PySem.W.Frag) (H : Hp) (a : Addr) (fs : List (Int × Int)) : Prop := ∃ vs, SqT K H a vs ∧ PairsAt K H vs fs
theorem PairAt.tt {K : PySem.W.Frag} {H H' : Hp} {v : V} {p : Int × Int} (h : PairAt K H v p) (e : Tt H H') : PairAt K H' v p := by
  obtain ⟨t, rfl, s⟩ := h
  exact ⟨t, rfl, e K t _ s⟩
theorem PairsAt.tt {K : PySem.W.Frag} {H H' : Hp} (e : Tt H H') : ∀ {vs : List V} {fs : List (Int × Int)}, PairsAt K H vs fs → PairsAt K H' vs fs
  | _, _, .nil => .nil
  | _, _, .cons r t => .cons (r.tt e) (PairsAt.tt e t)
theorem FactsAt.tt {K : PySem.W.Frag} {H H' : Hp} {a : Addr} {fs : List (Int × Int)} (h : FactsAt K H a fs) (e : Tt H H') : FactsAt K H' a fs := by
  obtain ⟨vs, s, p⟩ := h
  exact ⟨vs, e K a _ s, PairsAt.tt e p⟩
theorem PairsAt.length {K : PySem.W.Frag} {H : Hp} {vs : List V} {fs : List (Int × Int)} (h : PairsAt K H vs fs) : vs.length = fs.length := Paired.length h
theorem PairsAt.get {K : PySem.W.Frag} {H : Hp} : ∀ {vs : List V} {fs : List (Int × Int)} {i : Nat} {x : V}, PairsAt K H vs fs → vs[i]? = some x → ∃ p, fs[i]? = some p ∧ PairAt K H x p
  | _, _, _, _, .nil, e => by simp at e
  | _, _, 0, x, .cons (b := q) r _, e => by
    simp at e
    subst e
    exact ⟨q, rfl, r⟩
  | _, _, i + 1, x, .cons _ t, e => by
    obtain ⟨p, h1, h2⟩ := PairsAt.get (i := i) (x := x) t (by simpa using e)
    exact ⟨p, by simpa using h1, h2⟩
theorem PairsAt.at {K : PySem.W.Frag} {H : Hp} {vs : List V} {fs : List (Int × Int)} {i : Nat} {p : Int × Int} (h : PairsAt K H vs fs) (e : fs[i]? = some p) : ∃ x, vs[i]? = some x ∧ PairAt K H x p := by
  have hl := h.length
  have hi : i < vs.length := by
    rw [hl]
    exact (List.getElem?_eq_some_iff.mp e).1
  obtain ⟨q, h1, h2⟩ := h.get (List.getElem?_eq_getElem hi)
  rw [e] at h1
  cases h1
  exact ⟨_, List.getElem?_eq_getElem hi, h2⟩
theorem PairsAt.append {K : PySem.W.Frag} {H : Hp} : ∀ {vs ws : List V} {fs gs : List (Int × Int)}, PairsAt K H vs fs → PairsAt K H ws gs → PairsAt K H (vs ++ ws) (fs ++ gs)
  | _, _, _, _, .nil, s => s
  | _, _, _, _, .cons r t, s => .cons r (PairsAt.append t s)
/-- facts that are right, at most forty -/
def Facts (fs : List (Int × Int)) : Prop := fs.length ≤ 40 ∧ ∀ p ∈ fs, Fact p
theorem Facts.at {fs : List (Int × Int)} (h : Facts fs) {i : Nat} {p : Int × Int} (e : fs[i]? = some p) : Fact p := h.2 p (List.mem_of_getElem? e)
theorem Facts.lcm_pos {fs : List (Int × Int)} (h : Facts fs) : 0 < lcmAll fs := lcmAll_pos fs 1 h.2 (by decide)
theorem Facts.lcm_bits {fs : List (Int × Int)} (h : Facts fs) : lcmAll fs ≤ 2 ^ (100 * fs.length) := by
  have := lcmAll_le fs 1 0 h.2 (Nat.le_refl 1)
  rwa [Nat.zero_add] at this
/-- a number of so many bits that all can be reckoned with it -/
def Bt (n : Nat) (i : Int) : Prop := Builtin.Int.intBits i ≤ n
theorem Bt.mul {a b : Nat} {i j : Int} (h1 : Bt a i) (h2 : Bt b j) (h : a + b ≤ 100000000) : CMulX i j := by
  unfold Bt at h1 h2
  unfold CMulX
  omega
theorem Bt.of {a : Nat} {i : Int} (h : i.natAbs < 2 ^ a) : Bt a i := bit_of h
theorem Bt.mono {a b : Nat} {i : Int} (h : Bt a i) (l : a ≤ b) : Bt b i := Nat.le_trans h l
theorem pow_lt_of_le {a b n : Nat} (h : n ≤ 2 ^ a) (l : a < b) : n < 2 ^ b := Nat.lt_of_le_of_lt h (Nat.pow_lt_pow_right (by decide) l)
theorem Bt.le {a : Nat} {i : Int} (h : i.natAbs ≤ 2 ^ a) : Bt (a + 1) i := Bt.of (pow_lt_of_le h (Nat.lt_succ_self a))
/-! ## the law's jug -/
def Jug (n : Nat) (k : Addr) (H : Hp) : Prop := ∃ a b c : Int, H k = some (.lst [.int b, .int a, .int c]) ∧ KegOk a b c n
theorem Jug.mono {n m : Nat} {k : Addr} {H : Hp} (h : Jug n k H) (l : n ≤ m) : Jug m k H := by
  obtain ⟨a, b, c, e, o⟩ := h
  exact ⟨a, b, c, e, o.a0, o.ab, o.b0, o.bM, o.c0, by have := o.cn; omega⟩
theorem Jug.same {n : Nat} {k : Addr} {H H' : Hp} (h : Jug n k H) (s : Same H H') : Jug n k H' := by
  obtain ⟨a, b, c, e, o⟩ := h
  exact ⟨a, b, c, s _ _ e, o⟩
theorem Jug.new {n : Nat} {k p : Addr} {H : Hp} {o : HO} (h : Jug n k H) (hp : H p = none) : Jug n k (upd H p o) := h.same (Same.new hp)
theorem Jug.ne {n : Nat} {k p : Addr} {H : Hp} (h : Jug n k H) (hp : H p = none) : p ≠ k := by
  obtain ⟨a, b, c, e, o⟩ := h
  exact (ne_of_none e hp).symm
theorem Jug.tt {n : Nat} {k : Addr} {H H' : Hp} (h : Jug n k H) (e : Kx k H H') : Tt H H' := by
  obtain ⟨a, b, c, z, o⟩ := h
  exact e.tt z
theorem Jug.kx {n m : Nat} {k j : Addr} {H H' : Hp} (h : Jug n k H) (e : Kx j H H') (ne : k ≠ j) : Jug n k H' := by
  obtain ⟨a, b, c, z, o⟩ := h
  exact ⟨a, b, c, e _ _ ne z, o⟩
def sp_pour : Sp := fun vs H Q _ => ∃ (k : Addr) (u : Int) (n : Nat), vs = [.ref k, .int u] ∧ Jug n k H ∧ n ≤ 2 ^ 60 ∧ 0 < u ∧ u < 2 ^ 62 ∧
  ∀ f H', 0 ≤ f → f < u → Kx k H H' → Jug (n + 1) k H' → Q (.int f) H'
theorem i_pour {k : Addr} {u : Int} {H : Hp} {Q : VK} {E : XK} (n : Nat) (hk : Jug n k H) (hn : n ≤ 2 ^ 60) (h0 : 0 < u) (h1 : u < 2 ^ 62)
    (q : ∀ f H', 0 ≤ f → f < u → Kx k H H' → Jug (n + 1) k H' → Q (.int f) H') : sp_pour [.ref k, .int u] H Q E := ⟨k, u, n, rfl, hk, hn, h0, h1, q⟩
def sp_one_of (K : PySem.W.Frag) : Sp := fun vs H Q _ => ∃ (k t : Addr) (xs : List V) (n : Nat), vs = [.ref k, .ref t] ∧ Jug n k H ∧ n ≤ 2 ^ 60 ∧ t ≠ k ∧ SqL K H t xs ∧ 0 < xs.length ∧ xs.length ≤ 100000 ∧
  ∀ (i : Nat) (x : V) H', xs[i]? = some x → Kx k H H' → Jug (n + 1) k H' → Q x H'
theorem i_one_of {K : PySem.W.Frag} {k t : Addr} {H : Hp} {Q : VK} {E : XK} (n : Nat) (xs : List V) (hk : Jug n k H) (hn : n ≤ 2 ^ 60) (ht : t ≠ k) (hs : SqL K H t xs) (h0 : 0 < xs.length) (h1 : xs.length ≤ 100000)
    (q : ∀ (i : Nat) x H', xs[i]? = some x → Kx k H H' → Jug (n + 1) k H' → Q x H') : sp_one_of K [.ref k, .ref t] H Q E := ⟨k, t, xs, n, rfl, hk, hn, ht, hs, h0, h1, q⟩
def sp_jug (K : PySem.W.Frag) : Sp := fun vs H Q _ => ∃ (c : Addr) (ns : List Int) (j : Nat), vs = [.ref c, .int (j : Int)] ∧ SqL K H c (ns.map V.int) ∧ Script ns ∧ j ≤ 1000 ∧
  ∀ p H', Same H H' → H p = none → Jug 1 p H' → Q (.ref p) H'
theorem i_jug {K : PySem.W.Frag} {c : Addr} {H : Hp} {Q : VK} {E : XK} (ns : List Int) (j : Nat) (hs : SqL K H c (ns.map V.int)) (hn : Script ns) (hj : j ≤ 1000)
    (q : ∀ p H', Same H H' → H p = none → Jug 1 p H' → Q (.ref p) H') : sp_jug K [.ref c, .int (j : Int)] H Q E := ⟨c, ns, j, rfl, hs, hn, hj, q⟩
def sp_great : Sp := fun vs H Q _ => ∃ (k : Addr) (u : Int) (n : Nat), vs = [.ref k, .int u] ∧ Jug n k H ∧ n ≤ 2 ^ 59 ∧ 0 < u ∧
  ∀ f H', 0 ≤ f → f < u → f < 10 ^ 37 → Kx k H H' → Jug (n + 10) k H' → Q (.int f) H'
theorem i_great {k : Addr} {u : Int} {H : Hp} {Q : VK} {E : XK} (n : Nat) (hk : Jug n k H) (hn : n ≤ 2 ^ 59) (h0 : 0 < u)
    (q : ∀ f H', 0 ≤ f → f < u → f < 10 ^ 37 → Kx k H H' → Jug (n + 10) k H' → Q (.int f) H') : sp_great [.ref k, .int u] H Q E := ⟨k, u, n, rfl, hk, hn, h0, q⟩
end Vf

namespace Vf
open PySem PySem.Spec PyProof.Rows L2
/-! ## two walks in one comprehension -/
/-- the inner walk: item by item, then Nx -/
def Inn (D : Addr) (J1 : It) (g1 : TG) (tt1 : TT) (te : TE) (vs1 : List Nat) (σ2 : L2.St) (H4 : Hp) (Nx : Hp → Prop) : Prop :=
  ∃ W1 : Nat → Nat → Hp → Prop, (∃ m, W1 0 m H4) ∧ ∀ j k H, W1 j k H →
      (J1.stop j H ∧ Nx H) ∨ (J1.go j H ∧ ∃ Nx1 : Hp → Prop, (∀ H', Nx1 H' → ∃ k', k' < k ∧ W1 (j + 1) k' H') ∧ ∀ x H', J1.yld j H x H' → g1 x (wipe σ2 vs1) H' fun σ3 H5 => wipe σ3 vs1 = wipe σ2 vs1 ∧ tt1 σ3 H5 fun b H6 =>
        if b = true then te σ3 H6 fun y H7 => ∃ acc, H7 D = some (.lst acc) ∧ acc.length < sizeLine ∧ Nx1 (upd H7 D (.lst (acc ++ [y]))) else Nx1 H6)
theorem inn_range {D : Addr} {g1 : TG} {tt1 : TT} {te : TE} {vs1 : List Nat} {σ2 : L2.St} {H4 : Hp} {Nx : Hp → Prop} {lo : Int} {n : Nat} (Pv : Nat → Hp → Prop) (h0 : Pv 0 H4)
    (hs : ∀ j H, j < n → Pv j H → g1 (.int (lo + j)) (wipe σ2 vs1) H fun σ3 H5 => wipe σ3 vs1 = wipe σ2 vs1 ∧ tt1 σ3 H5 fun b H6 =>
        if b = true then te σ3 H6 fun y H7 => ∃ acc, H7 D = some (.lst acc) ∧ acc.length < sizeLine ∧ Pv (j + 1) (upd H7 D (.lst (acc ++ [y]))) else Pv (j + 1) H6)
    (hd : ∀ H, Pv n H → Nx H) : Inn D (Itr lo n) g1 tt1 te vs1 σ2 H4 Nx := by
  refine ⟨fun i m H => m = n - i ∧ i ≤ n ∧ Pv i H, ⟨n, by omega, Nat.zero_le _, h0⟩, ?_⟩
  rintro i m H ⟨rfl, hi, p⟩
  by_cases lt : i < n
  · refine Or.inr ⟨lt, Pv (i + 1), fun H' p' => ⟨n - (i + 1), by omega, rfl, lt, p'⟩, fun x H' y => ?_⟩
    obtain ⟨e, y⟩ := y
    subst e y
    exact hs i _ lt p
  · have e : i = n := by omega
    subst e
    exact Or.inl ⟨Nat.le_refl _, hd H p⟩
section
variable {σ : L2.St} {H : Hp} {Q : VK} {g g1 : TG} {tt tt1 : TT} {te : TE} {vs vs1 : List Nat} {wi1 : TI}
theorem r_lc2R {lo : Int} {n : Nat} (Pv : Addr → Nat → Hp → Prop) (h0 : ∀ D, H D = none → Pv D 0 (upd H D (.lst [])))
    (hs : ∀ D i H', H D = none → i < n → Pv D i H' → g (.int (lo + i)) (wipe σ vs) H' fun σ2 H2 => wipe σ2 vs = wipe σ vs ∧ tt σ2 H2 fun b H3 =>
      if b = true then wi1 σ2 H3 fun J1 H4 => Inn D J1 g1 tt1 te vs1 σ2 H4 (Pv D (i + 1)) else Pv D (i + 1) H3)
    (hd : ∀ D H', H D = none → Pv D n H' → Q (.ref D) H') : tLc2 (fun _ H2 R => R (Itr lo n) H2) g tt wi1 g1 tt1 te vs vs1 σ H Q := by
  refine fun D hD => ⟨fun i m H => m = n - i ∧ i ≤ n ∧ Pv D i H, ⟨n, by omega, Nat.zero_le _, h0 D hD⟩, ?_⟩
  rintro i m H' ⟨rfl, hi, p⟩
  by_cases lt : i < n
  · refine Or.inr ⟨lt, Pv D (i + 1), fun H' p' => ⟨n - (i + 1), by omega, rfl, lt, p'⟩, fun x H' y => ?_⟩
    obtain ⟨e, y⟩ := y
    subst e y
    exact hs D i _ hD lt p
  · have e : i = n := by omega
    subst e
    exact Or.inl ⟨Nat.le_refl _, hd D H' hD p⟩
theorem r_lc2R1 {ta : TA} (h : ta σ H fun ws H1 => ∃ j : Int, ws = [.int j] ∧ -(2 ^ 62) ≤ j ∧ j < 2 ^ 62 ∧ tLc2 (fun _ H2 R => R (Itr 0 j.toNat) H2) g tt wi1 g1 tt1 te vs vs1 σ H1 Q) : tLc2 (iRng1 ta) g tt wi1 g1 tt1 te vs vs1 σ H Q := h
theorem r_w2 {ta : TA} {R : It → Hp → Prop} (h : ta σ H fun ws H1 => ∃ i j : Int, ws = [.int i, .int j] ∧ (-(2 ^ 62) ≤ i ∧ i < 2 ^ 62 ∧ -(2 ^ 62) ≤ j ∧ j < 2 ^ 62) ∧ R (Itr i (j - i).toNat) H1) : iRng2 ta σ H R := h
end
theorem is_T_T {K : PySem.W.Frag} {H : Hp} {Q : VK} {a : Addr} {xs : List V} (hs : SqT K H a xs) (h : Q (.bl true) H) : rIsi K [.ref a, .ty "tuple"] H Q := by
  have t : TyX K H (.ref a) (.type "tuple") := by
    rcases hs with (e | ⟨o, e⟩) | ⟨o, _, _, e, c, _⟩
    · exact .base (.tup e)
    · exact .fTuple e
    · exact .kTuple e c
  exact r_isi (.ty "tuple") t (kit_ty (by decide +kernel)) h
theorem r_bm {K : PySem.W.Frag} {T : String} {r : V → List V → Hp → VK → Prop} {to : TE} {t : TA} {σ : L2.St} {H : Hp} {Q : VK} (h : to σ H fun x H1 => tyV K T x H1 ∧ t σ H1 fun xs H2 => r x xs H2 Q) : tBM K T r to t σ H Q := h
theorem r_app {H : Hp} {Q : VK} {l : Addr} {xs : List V} {y : V} (e : H l = some (.lst xs)) (hz : xs.length ≤ 100000) (h : Q .non (upd H l (.lst (xs ++ [y])))) : rAppend (.ref l) [y] H Q :=
  ⟨l, xs, y, rfl, rfl, e, Nat.lt_of_le_of_lt hz (by decide), h⟩
/-! ## how great all that is reckoned can get -/
def Bq : Nat := 2 ^ 4001
theorem Bq_one : 1 ≤ Bq := by decide +kernel
theorem Bq_two : 2 * Bq < 2 ^ 4003 := by decide +kernel
theorem Bq_sq : Bq + Bq * Bq < 2 ^ 8010 := by decide +kernel
theorem Bq_lt : Bq < 2 ^ 4003 := by decide +kernel
theorem Bq_90 : Bq < 2 ^ 9000 := by decide +kernel
theorem Facts.lcm_Bq {fs : List (Int × Int)} (h : ∀ p ∈ fs, Fact p) (hl : fs.length ≤ 40) : lcmAll fs ≤ Bq := by
  refine Nat.le_trans (Facts.lcm_bits ⟨hl, h⟩) (Nat.pow_le_pow_right (by decide) ?_)
  omega
theorem Bq_div {i j : Int} (h0 : 0 < j) (h : j.natAbs ≤ Bq) : CDivW i j := wide_div (b := 4003) h0 (Nat.lt_of_le_of_lt h Bq_lt) (by decide) (by decide)
theorem Bq_bits {i : Int} (h : i.natAbs ≤ Bq) : Builtin.Int.intBits i ≤ 4003 := bit_of (Nat.lt_of_le_of_lt h Bq_lt)
theorem lcmAll_small : ∀ (fs : List (Int × Int)) (m e : Nat), (∀ p ∈ fs, p.2.natAbs ≤ 2 ^ 6) → m ≤ 2 ^ e → fs.foldl (fun m p => Nat.lcm m p.2.natAbs) m ≤ 2 ^ (e + 6 * fs.length)
  | [], _, _, _, h => h
  | p :: fs, m, e, hf, h => by
    have h3 : Nat.lcm m p.2.natAbs ≤ 2 ^ (e + 6) := by
      rw [Nat.pow_add]
      exact Nat.le_trans (lcm_le_mul _ _) (Nat.mul_le_mul h (hf p List.mem_cons_self))
    have := lcmAll_small fs _ (e + 6) (fun q hq => hf q (List.mem_cons_of_mem _ hq)) h3
    have e1 : e + 6 + 6 * fs.length = e + 6 * (p :: fs).length := by rw [List.length_cons]; omega
    rw [e1] at this
    exact this
/-- drawn facts: at most four, of small bases -/
def Drawn (fs : List (Int × Int)) : Prop := fs.length ≤ 4 ∧ ∀ p ∈ fs, 1 ≤ p.2 ∧ p.2 ≤ 36 ∧ 0 ≤ p.1 ∧ p.1 < p.2
theorem Drawn.facts {fs : List (Int × Int)} (h : Drawn fs) : Facts fs := by
  refine ⟨by have := h.1; omega, fun p hp => ?_⟩
  obtain ⟨h1, h2, h3, h4⟩ := h.2 p hp
  exact ⟨h1, by omega, h3, h4⟩
theorem Drawn.lcm {fs : List (Int × Int)} (h : Drawn fs) : lcmAll fs ≤ 2 ^ 24 := by
  have := lcmAll_small fs 1 0 (fun p hp => by have := h.2 p hp; omega) (Nat.le_refl 1)
  refine Nat.le_trans this (Nat.pow_le_pow_right (by decide) ?_)
  have := h.1
  omega
end Vf

namespace Vf
open PySem PySem.Spec PyProof.Rows L2
/-! ## zip(t, u) of two tuples, each pair under one name -/
/-- a zip in any state: what it gave out last, whether it knows that this lives -/
def Zst (h : Heap) (u TI TO : Addr) (f0 f1 : Value) : Prop := h.get? u = some ⟨.type "zip", none, .fields #[f0, f1, .bool false, .ref TI, .ref TO], #[]⟩
def Out (f0 : Value) : Prop := f0 = .none ∨ ∃ T : Nat, f0 = rawInt (T : Int)
def Flag (f1 : Value) : Prop := ∃ b, f1 = .bool b
section
variable {prog : Program} {w : World} {A : Around} {E : Value → Shared → Prop} {s : Shared}
theorem alive_any {a : Addr} {Q : Option Obj → Shared → Prop} (h : Q (s.heap.get? a) s) : wpAny (model prog w) A (loadIfAlive a) Q E s := fun _ _ _ => h
theorem z_free {u TI TO : Addr} {f0 f1 : Value} {Q : Bool → Shared → Prop} (o0 : Out f0) (o1 : Flag f1) (zz : Zst s.heap u TI TO f0 f1) (h1 : Q true s)
    (h2 : ∀ h' g1, Flag g1 → Zst h' u TI TO f0 g1 → Heap.SameBut u s.heap h' → Q false { s with heap := h' }) : wpAny (model prog w) A (Builtin.SmallTypes.ownedTupleIsFree (.ref u)) Q E s := by
  unfold Builtin.SmallTypes.ownedTupleIsFree
  refine wpAny_bind (wpAny_field (x := f0) zz rfl rfl ?_)
  rcases o0 with e | ⟨T, e⟩
  · subst e
    exact wpAny_pure h1
  · subst e
    show wpAny _ _ (loadIfAlive _ >>= _) _ _ _
    refine wpAny_bind (alive_any ?_)
    cases s.heap.get? (T : Int).toNat with
    | none => exact wpAny_pure h1
    | some o =>
      obtain ⟨b, e⟩ := o1
      subst e
      show wpAny _ _ (field (.ref u) 1 >>= _) _ _ _
      refine wpAny_bind (wpAny_field (x := .bool b) zz rfl rfl ?_)
      cases b with
      | true => exact wpAny_pure (h2 s.heap _ ⟨true, rfl⟩ zz (Heap.SameBut.refl _ _))
      | false =>
        exact wpAny_bind (wpAny_setField_rec zz (by simp) fun h' z' sb => wpAny_pure (h2 h' _ ⟨true, rfl⟩ z' sb))
/-- what a turn leaves -/
def ZNext (s : Shared) (u TI TO i1 i2 l1 l2 : Addr) (k1 k2 : Nat) (x y : Value) (h' : Heap) : Prop :=
  (∃ g0 g1, Out g0 ∧ Flag g1 ∧ Zst h' u TI TO g0 g1) ∧ (∃ a b, IsPair h' TO a b) ∧ h'.IsTupleIter i1 l1 (k1 + 1) ∧ h'.IsTupleIter i2 l2 (k2 + 1) ∧ IsPair h' s.heap.objs.size x y ∧ h'.objs.size = s.heap.objs.size + 1 ∧
    ∀ c o, c ≠ u → c ≠ TO → c ≠ i1 → c ≠ i2 → s.heap.get? c = some o → h'.get? c = some o
theorem zn_item {u TI TO i1 i2 l1 l2 : Addr} {f0 f1 : Value} {k1 k2 : Nat} {xs ys : Array Value} {x y a b : Value} {Q : Value → Shared → Prop} (D : ZipApart u TI TO i1 i2 l1 l2) (o0 : Out f0) (o1 : Flag f1)
    (zz : Zst s.heap u TI TO f0 f1) (ti : IsPair s.heap TI (.ref i1) (.ref i2)) (to : IsPair s.heap TO a b) (h1 : s.heap.IsTupleIter i1 l1 k1) (h2 : s.heap.IsTupleIter i2 l2 k2)
    (t1 : s.heap.IsTuple l1 xs) (t2 : s.heap.IsTuple l2 ys) (ex : xs[k1]? = some x) (ey : ys[k2]? = some y) (q : ∀ h', ZNext s u TI TO i1 i2 l1 l2 k1 k2 x y h' → Q (.ref s.heap.objs.size) { s with heap := h' }) :
    wpAny (model prog w) A (Builtin.«zip.__next__» ⟨[.ref u], []⟩) (fun r s' => ∃ v, r = .done (.ret v) ∧ Q v s') E s := by
  show wpAny _ _ (field (.ref u) 2 >>= _) _ _ _
  refine wpAny_bind (wpAny_field (x := .bool false) zz rfl rfl ?_)
  show wpAny _ _ (field (.ref u) 3 >>= _) _ _ _
  refine wpAny_bind (wpAny_field (x := .ref TI) zz rfl rfl ?_)
  refine wpAny_bind (wpAny_seqItems ti rfl ?_)
  show wpAny _ _ (Builtin.SmallTypes.ownedTupleIsFree (.ref u) >>= _) _ _ _
  refine wpAny_bind (z_free o0 o1 zz ?_ fun m1 g1 og zm sb1 => ?_)
  · simp only [if_true]
    refine wpAny_bind <| wpAny_rule ?_
    refine wpAny_bind (wpAny_field (x := .ref TO) zz rfl rfl ?_)
    refine wpAny_bind (wpAny_setField_rec zz (by simp) fun m1 zm sb1 => ?_)
    replace zm : Zst m1 u TI TO .ellipsis f1 := zm
    refine wpAny_bind ?_
    rw [List.zipIdx_cons, List.zipIdx_cons, List.zipIdx_nil]
    simp only [List.forIn_cons, List.forIn_nil]
    refine wpAny_bind <| wpAny_bind <| wpAny_onRaise ?_
    show wpAny _ _ (Builtin.SmallTypes.nextOf (Value.ref i1) >>= _) _ _ _
    refine wpAny_bind (RZ.nextOf_tuple_item (h1.extBut sb1.extBut D.i1z) (t1.extBut sb1.extBut D.l1z) ex fun m2 n1 sb2 => wpAny_pure ?_)
    have to2 : IsPair m2 TO a b := sb2.extBut _ _ D.TOi1 (sb1.extBut _ _ D.TOz to)
    refine wpAny_bind (wpAny_seqItems to2 rfl ?_)
    refine wpAny_bind (wpAny_updateSeq_pair to2 fun m3 to3 sb3 => ?_)
    replace to3 : IsPair m3 TO x b := to3
    refine wpAny_bind <| wpAny_letGo <| wpAny_pure ?_
    refine wpAny_bind <| wpAny_bind <| wpAny_onRaise ?_
    show wpAny _ _ (Builtin.SmallTypes.nextOf (Value.ref i2) >>= _) _ _ _
    have p2 : m3.IsTupleIter i2 l2 k2 := ((h2.extBut sb1.extBut D.i2z).extBut sb2.extBut D.i12.symm).extBut sb3.extBut D.TOi2.symm
    have q2 : m3.IsTuple l2 ys := ((t2.extBut sb1.extBut D.l2z).extBut sb2.extBut D.l2i1).extBut sb3.extBut D.l2TO
    refine wpAny_bind (RZ.nextOf_tuple_item p2 q2 ey fun m4 n2 sb4 => wpAny_pure ?_)
    have to4 : IsPair m4 TO x b := sb4.extBut _ _ D.TOi2 to3
    refine wpAny_bind (wpAny_seqItems to4 rfl ?_)
    refine wpAny_bind (wpAny_updateSeq_pair to4 fun m5 to5 sb5 => ?_)
    replace to5 : IsPair m5 TO x y := to5
    refine wpAny_bind <| wpAny_letGo <| wpAny_pure <| wpAny_pure ?_
    refine wpAny_bind (wpAny_seqItems to5 rfl ?_)
    refine wpAny_bind <| wpAny_newTuple ?_
    have sz : m5.objs.size = s.heap.objs.size := by rw [sb5.1, sb4.1, sb3.1, sb2.1, sb1.1]
    have z5 : Zst m5 u TI TO .ellipsis f1 := sb5.extBut _ _ D.TOz.symm (sb4.extBut _ _ D.i2z.symm (sb3.extBut _ _ D.TOz.symm (sb2.extBut _ _ D.i1z.symm zm)))
    have k5 : ∀ c o, c ≠ u → c ≠ TO → c ≠ i1 → c ≠ i2 → s.heap.get? c = some o → m5.get? c = some o := fun c o c1 c2 c3 c4 e => sb5.extBut _ _ c2 (sb4.extBut _ _ c4 (sb3.extBut _ _ c2 (sb2.extBut _ _ c3 (sb1.extBut _ _ c1 e))))
    have r1 : m5.IsTupleIter i1 l1 (k1 + 1) := ((n1.extBut sb3.extBut D.TOi1.symm).extBut sb4.extBut D.i12).extBut sb5.extBut D.TOi1.symm
    have r2 : m5.IsTupleIter i2 l2 (k2 + 1) := n2.extBut sb5.extBut D.TOi2.symm
    have ul : u < m5.objs.size := Heap.lt_size z5
    show wpAny _ _ (Builtin.SmallTypes.ownedTupleHandOut (.ref u) (.ref m5.objs.size) >>= _) _ _ _
    refine wpAny_bind ?_
    unfold Builtin.SmallTypes.ownedTupleHandOut
    have z6 : Zst (m5.push { cls := .type "tuple", data := .seq #[x, y] }) u TI TO .ellipsis f1 := Heap.get?_push_of_some _ z5
    refine wpAny_bind (wpAny_setField_rec z6 (by simp) fun m7 z7 sb7 => ?_)
    replace z7 : Zst m7 u TI TO (rawInt m5.objs.size) f1 := z7
    refine wpAny_setField_rec z7 (by simp) fun m8 z8 sb8 => ?_
    replace z8 : Zst m8 u TI TO (rawInt m5.objs.size) (.bool false) := z8
    have up : ∀ c o, c ≠ u → m5.get? c = some o → m8.get? c = some o := fun c o c1 e => sb8.extBut _ _ c1 (sb7.extBut _ _ c1 (Heap.get?_push_of_some _ e))
    have np : IsPair m8 m5.objs.size x y := sb8.extBut _ _ (Nat.ne_of_gt ul) (sb7.extBut _ _ (Nat.ne_of_gt ul) (Heap.get?_push_size _ rfl))
    have sz8 : m8.objs.size = m5.objs.size + 1 := by rw [sb8.1, sb7.1, Heap.size_push]
    refine wpAny_pure ⟨_, rfl, ?_⟩
    show Q (.ref m5.objs.size) _
    rw [sz] at z8 np sz8 ⊢
    exact q m8 ⟨⟨_, _, .inr ⟨_, rfl⟩, ⟨_, rfl⟩, z8⟩, ⟨x, y, up _ _ D.TOz to5⟩, r1.at fun o e => up _ o D.i1z e, r2.at fun o e => up _ o D.i2z e, np, sz8, fun c o c1 c2 c3 c4 e => up c o c1 (k5 c o c1 c2 c3 c4 e)⟩
  · simp only [Bool.false_eq_true, if_false]
    refine wpAny_bind ?_
    rw [← Array.forIn_toList]
    simp only [List.forIn_cons, List.forIn_nil]
    refine wpAny_bind <| wpAny_bind <| wpAny_holding ?_
    show wpAny _ _ (Builtin.SmallTypes.nextOf (Value.ref i1) >>= _) _ _ _
    refine wpAny_bind (RZ.nextOf_tuple_item (s := { s with heap := m1 }) (h1.extBut sb1.extBut D.i1z) (t1.extBut sb1.extBut D.l1z) ex fun m2 n1 sb2 => wpAny_pure ?_)
    refine wpAny_pure ?_
    refine wpAny_bind <| wpAny_bind <| wpAny_holding ?_
    show wpAny _ _ (Builtin.SmallTypes.nextOf (Value.ref i2) >>= _) _ _ _
    refine wpAny_bind (RZ.nextOf_tuple_item (s := { s with heap := m2 }) ((h2.extBut sb1.extBut D.i2z).extBut sb2.extBut D.i12.symm) ((t2.extBut sb1.extBut D.l2z).extBut sb2.extBut D.l2i1) ey fun m3 n2 sb3 => wpAny_pure ?_)
    refine wpAny_pure <| wpAny_pure ?_
    show wpAny _ _ (newTuple [x, y] >>= _) _ _ _
    refine wpAny_bind <| wpAny_newTuple ?_
    have sz : m3.objs.size = s.heap.objs.size := by rw [sb3.1, sb2.1, sb1.1]
    have z3 : Zst m3 u TI TO f0 g1 := sb3.extBut _ _ D.i2z.symm (sb2.extBut _ _ D.i1z.symm zm)
    have k3 : ∀ c o, c ≠ u → c ≠ i1 → c ≠ i2 → s.heap.get? c = some o → m3.get? c = some o := fun c o c1 c2 c3 e => sb3.extBut _ _ c3 (sb2.extBut _ _ c2 (sb1.extBut _ _ c1 e))
    have r1 : m3.IsTupleIter i1 l1 (k1 + 1) := n1.extBut sb3.extBut D.i12
    refine wpAny_pure ⟨_, rfl, ?_⟩
    show Q (.ref m3.objs.size) _
    have np : IsPair (m3.push { cls := .type "tuple", data := .seq #[x, y] }) m3.objs.size x y := Heap.get?_push_size _ rfl
    have sz4 : (m3.push { cls := .type "tuple", data := .seq #[x, y] }).objs.size = m3.objs.size + 1 := Heap.size_push ..
    rw [sz] at np sz4 ⊢
    exact q _ ⟨⟨_, _, o0, og, Heap.get?_push_of_some _ z3⟩, ⟨a, b, Heap.get?_push_of_some _ (k3 _ _ D.TOz D.TOi1 D.TOi2 to)⟩, r1.at fun o e => Heap.get?_push_of_some _ e, n2.at fun o e => Heap.get?_push_of_some _ e, np, sz4,
      fun c o c1 _ c3 c4 e => Heap.get?_push_of_some _ (k3 c o c1 c3 c4 e)⟩
/-- what the end leaves -/
def ZEnd (s : Shared) (u TO i1 i2 : Addr) (h' : Heap) : Prop := ∀ c o, c ≠ u → c ≠ TO → c ≠ i1 → c ≠ i2 → s.heap.get? c = some o → h'.get? c = some o
theorem zn_end {u TI TO i1 i2 l1 l2 : Addr} {f0 f1 : Value} {k1 k2 : Nat} {xs ys : Array Value} {a b : Value} {Q : Fin → Shared → Prop} (hh : A.handled = none) (D : ZipApart u TI TO i1 i2 l1 l2) (o0 : Out f0) (o1 : Flag f1)
    (zz : Zst s.heap u TI TO f0 f1) (ti : IsPair s.heap TI (.ref i1) (.ref i2)) (to : IsPair s.heap TO a b) (h1 : s.heap.IsTupleIter i1 l1 k1) (h2 : s.heap.IsTupleIter i2 l2 k2)
    (t1 : s.heap.IsTuple l1 xs) (t2 : s.heap.IsTuple l2 ys) (no : xs[k1]? = none ∨ ys[k2]? = none) (q : ∀ h' e, ZEnd s u TO i1 i2 h' → (∃ o, h'.get? e = some o ∧ o.cls = .type "StopIteration") → E (.ref e) { s with heap := h' }) :
    wpAny (model prog w) A (Builtin.«zip.__next__» ⟨[.ref u], []⟩) Q E s := by
  show wpAny _ _ (field (.ref u) 2 >>= _) _ _ _
  refine wpAny_bind (wpAny_field (x := .bool false) zz rfl rfl ?_)
  show wpAny _ _ (field (.ref u) 3 >>= _) _ _ _
  refine wpAny_bind (wpAny_field (x := .ref TI) zz rfl rfl ?_)
  refine wpAny_bind (wpAny_seqItems ti rfl ?_)
  show wpAny _ _ (Builtin.SmallTypes.ownedTupleIsFree (.ref u) >>= _) _ _ _
  refine wpAny_bind (z_free o0 o1 zz ?_ fun m1 g1 og zm sb1 => ?_)
  · simp only [if_true]
    refine wpAny_bind <| wpAny_rule ?_
    refine wpAny_bind (wpAny_field (x := .ref TO) zz rfl rfl ?_)
    refine wpAny_bind (wpAny_setField_rec zz (by simp) fun m1 zm sb1 => ?_)
    replace zm : Zst m1 u TI TO .ellipsis f1 := zm
    refine wpAny_bind ?_
    rw [List.zipIdx_cons, List.zipIdx_cons, List.zipIdx_nil]
    simp only [List.forIn_cons, List.forIn_nil]
    refine wpAny_bind <| wpAny_bind <| wpAny_onRaise ?_
    show wpAny _ _ (Builtin.SmallTypes.nextOf (Value.ref i1) >>= _) _ _ _
    cases ex : xs[k1]? with
    | none =>
      refine wpAny_bind (RZ.nextOf_tuple_end hh (h1.extBut sb1.extBut D.i1z) (t1.extBut sb1.extBut D.l1z) ex fun m2 e sb2 se => ?_)
      obtain ⟨oe, e1, e2⟩ := se
      have z2 : Zst m2 u TI TO .ellipsis f1 := sb2 _ _ D.i1z.symm zm
      have ne : e ≠ u := fun eq => by
        subst eq
        rw [show m2.get? e = _ from z2] at e1
        cases e1
        simp at e2
      exact wpAny_setField_rec z2 (by simp) fun m3 _ sb3 => q m3 e (fun c o c1 _ c3 _ eq => sb3.extBut _ _ c1 (sb2 _ _ c3 (sb1.extBut _ _ c1 eq))) ⟨oe, sb3.extBut _ _ ne e1, e2⟩
    | some x =>
      have ey : ys[k2]? = none := by
        rcases no with n | n
        · rw [ex] at n; cases n
        · exact n
      refine wpAny_bind (RZ.nextOf_tuple_item (h1.extBut sb1.extBut D.i1z) (t1.extBut sb1.extBut D.l1z) ex fun m2 n1 sb2 => wpAny_pure ?_)
      have to2 : IsPair m2 TO a b := sb2.extBut _ _ D.TOi1 (sb1.extBut _ _ D.TOz to)
      refine wpAny_bind (wpAny_seqItems to2 rfl ?_)
      refine wpAny_bind (wpAny_updateSeq_pair to2 fun m3 to3 sb3 => ?_)
      refine wpAny_bind <| wpAny_letGo <| wpAny_pure ?_
      refine wpAny_bind <| wpAny_bind <| wpAny_onRaise ?_
      show wpAny _ _ (Builtin.SmallTypes.nextOf (Value.ref i2) >>= _) _ _ _
      have p2 : m3.IsTupleIter i2 l2 k2 := ((h2.extBut sb1.extBut D.i2z).extBut sb2.extBut D.i12.symm).extBut sb3.extBut D.TOi2.symm
      have q2 : m3.IsTuple l2 ys := ((t2.extBut sb1.extBut D.l2z).extBut sb2.extBut D.l2i1).extBut sb3.extBut D.l2TO
      refine wpAny_bind (RZ.nextOf_tuple_end hh p2 q2 ey fun m4 e sb4 se => ?_)
      obtain ⟨oe, e1, e2⟩ := se
      have z4 : Zst m4 u TI TO .ellipsis f1 := sb4 _ _ D.i2z.symm (sb3.extBut _ _ D.TOz.symm (sb2.extBut _ _ D.i1z.symm zm))
      have ne : e ≠ u := fun eq => by
        subst eq
        rw [show m4.get? e = _ from z4] at e1
        cases e1
        simp at e2
      exact wpAny_setField_rec z4 (by simp) fun m5 _ sb5 => q m5 e (fun c o c1 c2 c3 c4 eq => sb5.extBut _ _ c1 (sb4 _ _ c4 (sb3.extBut _ _ c2 (sb2.extBut _ _ c3 (sb1.extBut _ _ c1 eq))))) ⟨oe, sb5.extBut _ _ ne e1, e2⟩
  · simp only [Bool.false_eq_true, if_false]
    refine wpAny_bind ?_
    rw [← Array.forIn_toList]
    simp only [List.forIn_cons, List.forIn_nil]
    refine wpAny_bind <| wpAny_bind <| wpAny_holding ?_
    show wpAny _ _ (Builtin.SmallTypes.nextOf (Value.ref i1) >>= _) _ _ _
    cases ex : xs[k1]? with
    | none =>
      exact wpAny_bind (RZ.nextOf_tuple_end (s := { s with heap := m1 }) hh (h1.extBut sb1.extBut D.i1z) (t1.extBut sb1.extBut D.l1z) ex fun m2 e sb2 se => q m2 e (fun c o c1 _ c3 _ eq => sb2 _ _ c3 (sb1.extBut _ _ c1 eq)) se)
    | some x =>
      have ey : ys[k2]? = none := by
        rcases no with n | n
        · rw [ex] at n; cases n
        · exact n
      refine wpAny_bind (RZ.nextOf_tuple_item (s := { s with heap := m1 }) (h1.extBut sb1.extBut D.i1z) (t1.extBut sb1.extBut D.l1z) ex fun m2 n1 sb2 => wpAny_pure ?_)
      refine wpAny_pure ?_
      refine wpAny_bind <| wpAny_bind <| wpAny_holding ?_
      show wpAny _ _ (Builtin.SmallTypes.nextOf (Value.ref i2) >>= _) _ _ _
      exact wpAny_bind (RZ.nextOf_tuple_end (s := { s with heap := m2 }) hh ((h2.extBut sb1.extBut D.i2z).extBut sb2.extBut D.i12.symm) ((t2.extBut sb1.extBut D.l2z).extBut sb2.extBut D.l2i1) ey
        fun m3 e sb3 se => q m3 e (fun c o c1 _ c3 c4 eq => sb3 _ _ c4 (sb2.extBut _ _ c3 (sb1.extBut _ _ c1 eq))) se)
theorem zp_item {u TI TO i1 i2 l1 l2 : Addr} {f0 f1 : Value} {k1 k2 : Nat} {xs ys : Array Value} {x y a b : Value} {Q : Option Value → Shared → Prop} (D : ZipApart u TI TO i1 i2 l1 l2) (o0 : Out f0) (o1 : Flag f1)
    (zz : Zst s.heap u TI TO f0 f1) (ti : IsPair s.heap TI (.ref i1) (.ref i2)) (to : IsPair s.heap TO a b) (h1 : s.heap.IsTupleIter i1 l1 k1) (h2 : s.heap.IsTupleIter i2 l2 k2)
    (t1 : s.heap.IsTuple l1 xs) (t2 : s.heap.IsTuple l2 ys) (ex : xs[k1]? = some x) (ey : ys[k2]? = some y) (q : ∀ h', ZNext s u TI TO i1 i2 l1 l2 k1 k2 x y h' → Q (some (.ref s.heap.objs.size)) { s with heap := h' }) :
    wpAny (model prog w) A (pyNext (.ref u)) Q E s := by
  have ty : s.TypeIs (.ref u) "zip" := ⟨_, zz, rfl⟩
  unfold pyNext
  refine wpAny_bind <| wpAny_attempt <| wpAny_callSpecial?_slot (name := Str.ofString "__next__") ty F.slot_zip_next ?_
  exact wpAny_call_entry F.slot_zip_next ty F.entry_zip_next (zn_item D o0 o1 zz ti to h1 h2 t1 t2 ex ey fun h' z => wpAny_pure (q h' z)) (F.args_zip_next_1 _)
theorem zp_end {u TI TO i1 i2 l1 l2 : Addr} {f0 f1 : Value} {k1 k2 : Nat} {xs ys : Array Value} {a b : Value} {Q : Option Value → Shared → Prop} (hh : A.handled = none) (D : ZipApart u TI TO i1 i2 l1 l2) (o0 : Out f0) (o1 : Flag f1)
    (zz : Zst s.heap u TI TO f0 f1) (ti : IsPair s.heap TI (.ref i1) (.ref i2)) (to : IsPair s.heap TO a b) (h1 : s.heap.IsTupleIter i1 l1 k1) (h2 : s.heap.IsTupleIter i2 l2 k2)
    (t1 : s.heap.IsTuple l1 xs) (t2 : s.heap.IsTuple l2 ys) (no : xs[k1]? = none ∨ ys[k2]? = none) (q : ∀ h', ZEnd s u TO i1 i2 h' → Q none { s with heap := h' }) :
    wpAny (model prog w) A (pyNext (.ref u)) Q E s := by
  have ty : s.TypeIs (.ref u) "zip" := ⟨_, zz, rfl⟩
  unfold pyNext
  refine wpAny_bind <| wpAny_attempt <| wpAny_callSpecial?_slot (name := Str.ofString "__next__") ty F.slot_zip_next ?_
  refine wpAny_call_entry F.slot_zip_next ty F.entry_zip_next (zn_end hh D o0 o1 zz ti to h1 h2 t1 t2 no fun h' e z se => ?_) (F.args_zip_next_1 _)
  obtain ⟨oe, e1, e2⟩ := se
  refine wpAny_bind (wpAny_isInstance (b := true) (T := "StopIteration") ⟨oe, e1, e2⟩ isSubtype_stop ?_)
  exact wpAny_pure (q _ z)
end
end Vf

namespace Vf
open PySem PySem.Spec PyProof.Rows L2
theorem z_iter {prog : Program} {w : World} {A : Around} {E : Value → Shared → Prop} {s : Shared} {u TI TO : Addr} {f0 f1 : Value} {Q : Value → Shared → Prop} (zz : Zst s.heap u TI TO f0 f1) (q : Q (.ref u) s) : wpAny (model prog w) A (pyIter (.ref u)) Q E s := by
  have ty : s.TypeIs (.ref u) "zip" := ⟨_, zz, rfl⟩
  refine wpAny_pyIter_slot ty F.slot_zip_iter (wpAny_call_entry F.slot_zip_iter ty F.entry_zip_iter ?_ (F.args_zip_iter_1 _))
  show wpAny _ _ (ret (Value.ref u)) _ _ s
  exact wpAny_pure ⟨_, rfl, "zip", _, ty, F.slot_zip_next.lookup, q⟩
def ZTn (u TI TO i1 i2 a b : Addr) (i : Nat) (h : Heap) : Prop :=
  (∃ f0 f1, Out f0 ∧ Flag f1 ∧ Zst h u TI TO f0 f1) ∧ IsPair h TI (.ref i1) (.ref i2) ∧ (∃ x y, IsPair h TO x y) ∧ h.IsTupleIter i1 a i ∧ h.IsTupleIter i2 b i
theorem turn_zipN {P : Program} {w : World} {K : PySem.W.Frag} {nm : Str} {npos : Pos} {a b u TI TO i1 i2 : Addr} (D : ZipApart u TI TO i1 i2 a b) :
    Turn P w K (.Name nm npos) (RZ.ItzT K a b) [u, TI, TO, i1, i2] u (ZTn u TI TO i1 i2 a b) where
  mem := List.mem_cons_self
  obj := fun i h st c hc => by
    obtain ⟨⟨f0, f1, _, _, zz⟩, ti, ⟨x, y, to⟩, ⟨o1, e1, _, d1⟩, ⟨o2, e2, _, d2⟩⟩ := st
    simp only [List.mem_cons, List.not_mem_nil, or_false] at hc
    rcases hc with e | e | e | e | e
    · subst e; exact ⟨_, zz, fun v q => nomatch q⟩
    · subst e; exact ⟨_, ti, fun v q => nomatch q⟩
    · subst e; exact ⟨_, to, fun v q => nomatch q⟩
    · subst e; exact ⟨o1, e1, fun v q => by rw [d1] at q; cases q⟩
    · subst e; exact ⟨o2, e2, fun v q => by rw [d2] at q; cases q⟩
  keep := fun i h h' st k => by
    obtain ⟨⟨f0, f1, p0, p1, zz⟩, ti, ⟨x, y, to⟩, h1, h2⟩ := st
    exact ⟨⟨f0, f1, p0, p1, k u (by simp) _ zz⟩, k TI (by simp) _ ti, ⟨x, y, k TO (by simp) _ to⟩, h1.at fun o q => k i1 (by simp) o q, h2.at fun o q => k i2 (by simp) o q⟩
  item := by
    intro X hP hw hK hc i pins s σ H E I hf st hg
    subst hP hw hK
    obtain ⟨⟨f0, f1, p0, p1, zz⟩, ti, ⟨x0, y0, to⟩, h1, h2⟩ := st
    obtain ⟨xs, ys, x, y, qx, qy, ex, ey⟩ := hg
    obtain ⟨its, rv, tp, _⟩ := I.tuple qx
    obtain ⟨its2, rv2, tp2, _⟩ := I.tuple qy
    obtain ⟨v1, g1, w1⟩ := rv.get ex
    obtain ⟨v2, g2, w2⟩ := rv2.get ey
    have b0 : u < s.heap.objs.size := Heap.lt_size zz
    have bI : TI < s.heap.objs.size := Heap.lt_size ti
    have bO : TO < s.heap.objs.size := Heap.lt_size to
    have b1 : i1 < s.heap.objs.size := by
      obtain ⟨_, q, _⟩ := h1
      exact Heap.lt_size q
    have b2 : i2 < s.heap.objs.size := by
      obtain ⟨_, q, _⟩ := h2
      exact Heap.lt_size q
    refine zp_item D p0 p1 zz ti to h1 h2 tp tp2 (x := v1) (y := v2) (by simpa using g1) (by simpa using g2) fun m zn => ?_
    obtain ⟨z', ⟨ta, tb, to'⟩, n1, n2, np, sz, kp⟩ := zn
    refine ⟨_, rfl, ?_⟩
    unfold letOwnedTupleGo
    refine wpAny_pure ?_
    have fresh : ObjOk X.prog X.w (upd H s.heap.objs.size (.tup [x, y])) m s.heap.objs.size (.tup [x, y]) :=
      ⟨by show 2 ≤ sizeLine; decide, [v1, v2], .cons w1 (.cons w2 .nil), ⟨_, np, rfl, _, rfl⟩⟩
    have stay : ∀ c o, c ∉ [u, TI, TO, i1, i2] → s.heap.get? c = some o → m.get? c = some o := fun c o hb q => kp c o (fun e => hb (by simp [e])) (fun e => hb (by simp [e])) (fun e => hb (by simp [e])) (fun e => hb (by simp [e])) q
    have I1 := I.turnedNew (t' := s.toks) (ch := [u, TI, TO, i1, i2]) stay hf (Nat.le_refl _) fresh
    refine ⟨.ref s.heap.objs.size, _, I1, rfl, ⟨_, x, y, rfl, I.hok.fresh (Nat.le_refl _), rfl, fun l hl => by rw [I.tuple_inj hl qx]; exact ex, fun l hl => by rw [I.tuple_inj hl qy]; exact ey⟩,
      ⟨z', kp _ _ D.TIz D.TITO D.TIi1 D.TIi2 ti, ⟨ta, tb, to'⟩, n1, n2⟩, fun c hcm => ?_⟩
    have lt : c < s.heap.objs.size := by
      have hcm2 := hcm
      simp only [List.mem_cons, List.not_mem_nil, or_false] at hcm2
      rcases hcm2 with e | e | e | e | e <;> (subst e; assumption)
    rw [upd_ne (Nat.ne_of_lt lt)]
    exact (hf c hcm).1
  done := by
    intro X hP hw hK hc i pins s σ H E I hf st hg
    subst hP hw hK
    obtain ⟨⟨f0, f1, p0, p1, zz⟩, ti, ⟨x0, y0, to⟩, h1, h2⟩ := st
    obtain ⟨xs, ys, qx, qy, en⟩ := hg
    obtain ⟨its, rv, tp, _⟩ := I.tuple qx
    obtain ⟨its2, rv2, tp2, _⟩ := I.tuple qy
    have l1 := rv.length
    have l2 := rv2.length
    have no : its.toArray[i]? = none ∨ its2.toArray[i]? = none := by
      rcases en with q | q
      · exact .inl (by simp; omega)
      · exact .inr (by simp; omega)
    refine zp_end (I.ok.hd hc) D p0 p1 zz ti to h1 h2 tp tp2 no fun m ze => ⟨rfl, ?_⟩
    exact I.turnedL (t' := s.toks) (ch := [u, TI, TO, i1, i2]) (fun c o hb q => ze c o (fun e => hb (by simp [e])) (fun e => hb (by simp [e])) (fun e => hb (by simp [e])) (fun e => hb (by simp [e])) q) hf
  self := fun A i s Q E st h => by
    obtain ⟨⟨f0, f1, _, _, zz⟩, _⟩ := st
    exact z_iter zz h
/-- zip(t, u) of tuples -/
def iZn (K : PySem.W.Frag) (ta : TA) : TI := fun σ H R => ta σ H fun vs H1 => ∃ a b xs ys, vs = [.ref a, .ref b] ∧ SqT K H1 a xs ∧ SqT K H1 b ys ∧ R (RZ.ItzT K a b) H1
theorem i_zipN {X : Cx} {K : PySem.W.Frag} {e e2 : Expr} {ta : TA} {p pos npos : Pos} {nm : Str} (ek : X.K = K) (hg : Gl X "zip") (hm : X.mg "zip" = none) (ha : PA X [e, e2] ta)
    (hs : starEach [e, e2] X.env = (false, eval e X.env) :: starEach [e2] X.env := by rfl) (hp : (backTo pos (starEach [e2] X.env)).any (·.1) = false := by rfl) :
    PI X (.Name nm npos) (.Call (.Name "zip" p) [e, e2] [] pos) (iZn K ta) := by
  subst ek
  refine ⟨fun pins s σ H R I h => ?_⟩
  refine Call_ (ld_blt I hg hm PyProof.Rows.boot_zip (PyProof.Rows.callWith_type1 (thn (ha.run pos pins s σ H _ I h) fun us s1 ⟨vs, H1, I1, r1, q1⟩ => ?_) hs hp))
  obtain ⟨a, b, xs, ys, rfl, qx, qy, q⟩ := q1
  obtain ⟨ua, ub, rfl, ra, rb⟩ : ∃ ua ub, us = [ua, ub] ∧ RelV (.ref a) ua ∧ RelV (.ref b) ub := by
    cases r1 with
    | cons r rr =>
      cases rr with
      | cons r' rr =>
        cases rr
        exact ⟨_, _, rfl, r, r'⟩
  cases ra
  cases rb
  obtain ⟨its, rv, tp, _⟩ := I1.tuple qx
  obtain ⟨its2, rv2, tp2, _⟩ := I1.tuple qy
  have la : a < s1.heap.objs.size := tp.lt
  have lb : b < s1.heap.objs.size := tp2.lt
  refine RZ.call_zipT tp tp2 fun m hz hTI hTO n1 n2 hsz hk => z_iter (f0 := .none) (f1 := .bool false) hz ?_
  refine ⟨s1.heap.objs.size + 4, [s1.heap.objs.size + 4, s1.heap.objs.size + 2, s1.heap.objs.size + 3, s1.heap.objs.size, s1.heap.objs.size + 1], _, _, H1, rfl, I1.kept (t' := s1.toks) hk,
    turn_zipN (PySem.W.ktu_apart s1.heap.objs.size a b la lb), ⟨⟨.none, .bool false, .inl rfl, ⟨false, rfl⟩, hz⟩, hTI, ⟨_, _, hTO⟩, n1, n2⟩, fun c hcm => ?_, q⟩
  have le : s1.heap.objs.size ≤ c := by
    simp only [List.mem_cons, List.not_mem_nil, or_false] at hcm
    rcases hcm with e | e | e | e | e <;> subst e
    · exact Nat.le_add_right _ _
    · exact Nat.le_add_right _ _
    · exact Nat.le_add_right _ _
    · exact Nat.le_refl _
    · exact Nat.le_add_right _ _
  exact I1.fpOk le (I1.hok.fresh le)
/-- a walk of two tuples, pair by pair -/
theorem r_forZ {K : PySem.W.Frag} {g : TG} {tb : TS} {D : Ends} {σ : L2.St} {H : Hp} {a b : Addr} (xs ys : List V) (n : Nat) (hx : xs.length = n) (hy : ys.length = n) (Pv : Nat → L2.St → Hp → Prop) (h0 : Pv 0 σ H)
    (hl : ∀ i σ H, i ≤ n → Pv i σ H → SqT K H a xs ∧ SqT K H b ys)
    (hs : ∀ i x y σ H T, xs[i]? = some x → ys[i]? = some y → Pv i σ H → H T = none → g (.ref T) σ (upd H T (.tup [x, y])) fun σ2 H2 => tb { D with nx := Pv (i + 1), ct := Pv (i + 1), bk := D.nx } σ2 H2)
    (hd : ∀ σ H, Pv n σ H → D.nx σ H) : tFor (fun _ H2 R => R (RZ.ItzT K a b) H2) g tb D σ H := by
  refine ⟨fun i m σ H => m = n - i ∧ i ≤ n ∧ Pv i σ H, ⟨n, by omega, Nat.zero_le _, h0⟩, ?_⟩
  rintro i m σ H ⟨rfl, hi, p⟩
  obtain ⟨qx, qy⟩ := hl i σ H hi p
  by_cases lt : i < n
  · have ix : i < xs.length := by omega
    have iy : i < ys.length := by omega
    refine Or.inr ⟨⟨xs, ys, xs[i], ys[i], qx, qy, by simp [ix], by simp [iy]⟩, Pv (i + 1), fun σ' H' p' => ⟨n - (i + 1), by omega, rfl, lt, p'⟩, fun v H' yy => ?_⟩
    obtain ⟨T, x, y, rfl, nT, rfl, f1, f2⟩ := yy
    exact hs i x y σ H T (f1 xs qx) (f2 ys qy) p nT
  · have e : i = n := by omega
    subst e
    exact Or.inl ⟨⟨xs, ys, qx, qy, .inl (by omega)⟩, hd σ H p⟩
theorem r_forZn {K : PySem.W.Frag} {g : TG} {tb : TS} {D : Ends} {σ : L2.St} {H : Hp} {ta : TA} (h : ta σ H fun vs H1 => ∃ a b xs ys, vs = [.ref a, .ref b] ∧ SqT K H1 a xs ∧ SqT K H1 b ys ∧ tFor (fun _ H2 R => R (RZ.ItzT K a b) H2) g tb D σ H1) :
    tFor (iZn K ta) g tb D σ H := h
end Vf

namespace Vf
open PySem PySem.Spec PyProof.Rows L2
/-! ## *= and //= of ints -/
def ipC (C : Int → Int → Prop) (f : Int → Int → Int) : TIp := fun x y H Q => ∃ i j, x = .int i ∧ y = .int j ∧ C i j ∧ Q (.int (f i j)) H
theorem r_ipC {C : Int → Int → Prop} {f : Int → Int → Int} {i j : Int} {H : Hp} {Q : VK} (c : C i j) (q : Q (.int (f i j)) H) : ipC C f (.int i) (.int j) H Q := ⟨i, j, rfl, rfl, c, q⟩
section
variable {X : Cx}
theorem ip_mulX : PIp X .Mult (ipC CMulX fun i j => i * j) := by
  intro pins s σ H x y v u Q I rx ry h
  obtain ⟨i, j, rfl, rfl, c, q⟩ := h
  obtain ⟨t1, rfl⟩ := rx
  obtain ⟨t2, rfl⟩ := ry
  exact PySem.AutoIntOps.imul_0 ⟨.int _, H, I.tok _, ⟨_, rfl⟩, q⟩ c.ok
theorem ip_fdivW : PIp X .FloorDiv (ipC CDivW fun i j => i / j) := by
  intro pins s σ H x y v u Q I rx ry h
  obtain ⟨i, j, rfl, rfl, c, q⟩ := h
  obtain ⟨t1, rfl⟩ := rx
  obtain ⟨t2, rfl⟩ := ry
  have j0 : (0 : Int) < j := c.1
  refine PySem.AutoIntOps.ifloordiv_1 (by simp; omega) (by rw [PyProof.noPylong_of_log2 c.2]; decide) ?_
  rw [Int.fdiv_eq_ediv_of_nonneg i (by omega)]
  exact ⟨.int _, H, I.tok _, ⟨_, rfl⟩, q⟩
end
/-! ## zip under two names -/
theorem r_forZa {K : PySem.W.Frag} {g : TG} {tb : TS} {D : Ends} {σ : L2.St} {H : Hp} {ta : TA} (h : ta σ H fun vs H1 => ∃ a b xs ys, vs = [.ref a, .ref b] ∧ ((SqL K H1 a xs ∧ SqL K H1 b ys ∧ tFor (fun _ H2 R => R (Itz K a b) H2) g tb D σ H1) ∨
    (SqT K H1 a xs ∧ SqT K H1 b ys ∧ tFor (fun _ H2 R => R (RZ.ItzT K a b) H2) g tb D σ H1))) : tFor (RZ.iZipA K ta) g tb D σ H := h
end Vf

namespace Vf
open PySem PySem.Spec PyProof.Rows L2
/-! ## tuples of ints, compared and shown -/
section
variable {K : PySem.W.Frag} {H : Hp} {Q : VK}
def tupD (ns : List Int) : PyData := .tuple (ns.map PyData.int)
theorem Dp.tupD {a : Addr} {ns : List Int} (h : SqT K H a (ns.map V.int)) : Dp K H (.ref a) (tupD ns) := .tup h (DpAll.ints ns)
theorem shapedTup (ns : List Int) : SeqAt.shaped (tupD ns) = true := by
  unfold SeqAt.shaped
  rw [Bool.and_eq_true]
  refine ⟨canInts ns, decide_eq_true ?_⟩
  show PyData.depthAll (ns.map PyData.int) + 1 ≤ 64
  rw [depthInts]; decide
theorem r_neT {a b : Addr} (ns ms : List Int) (h1 : SqT K H a (ns.map V.int)) (h2 : SqT K H b (ms.map V.int)) (h : Q (.bl (!decide (ns = ms))) H) : rNeD K (.ref a) (.ref b) H Q := by
  refine r_neD (Dp.tupD h1) (Dp.tupD h2) (shapedTup ns) (shapedTup ms) ?_
  rw [show PyData.eqv (tupD ns) (tupD ms) = decide (ns = ms) from eqvInts ns ms]
  exact h
def twoD (ns ms : List Int) : PyData := .list [tupD ns, tupD ms]
theorem r_reprTT {a t1 t2 : Addr} (ns ms : List Int) (hs : SqL K H a [.ref t1, .ref t2]) (h1 : SqT K H t1 (ns.map V.int)) (h2 : SqT K H t2 (ms.map V.int)) (b1 : ∀ n ∈ ns, n.natAbs < 2 ^ 1900) (b2 : ∀ n ∈ ms, n.natAbs < 2 ^ 1900)
    (l1 : ns.length ≤ 20) (l2 : ms.length ≤ 20) (h : Q (.str (twoD ns ms).shown) H) : rRepr K [.ref a] H Q := by
  refine r_reprD (twoD ns ms) (Dp.lst hs (.cons (Dp.tupD h1) (.cons (Dp.tupD h2) .nil))) ?_ ?_ ?_ h
  · show (tameAll (ns.map PyData.int) && (tameAll (ms.map PyData.int) && true)) = true
    rw [tameInts ns b1, tameInts ms b2]
    rfl
  · show max (PyData.depthAll (ns.map PyData.int) + 1) (max (PyData.depthAll (ms.map PyData.int) + 1) 0) + 1 ≤ 40
    rw [depthInts, depthInts]
    decide
  · show 4 + ((4 + roomAll (ns.map PyData.int)) + 2 + ((4 + roomAll (ms.map PyData.int)) + 2 + 0)) ≤ 100000
    rw [roomInts, roomInts]
    omega
end
end Vf

namespace Vf
open PySem PySem.Spec PyProof.Rows L2
/-! ## zip of three tuples -/
/-- the tuples at a, b, c, item by item in new triples -/
def ItT3 (K : PySem.W.Frag) (a b c : Addr) : It :=
  ⟨fun i H => ∃ (xs ys zs : List V), (SqT K H a xs ∧ SqT K H b ys ∧ SqT K H c zs) ∧ i < xs.length ∧ i < ys.length ∧ i < zs.length,
   fun i H v H' => ∃ T x y z, v = .ref T ∧ H T = none ∧ H' = upd H T (.tup [x, y, z]) ∧ (∀ xs, SqT K H a xs → xs[i]? = some x) ∧ (∀ ys, SqT K H b ys → ys[i]? = some y) ∧ ∀ zs, SqT K H c zs → zs[i]? = some z,
   fun i H => ∃ (xs ys zs : List V), (SqT K H a xs ∧ SqT K H b ys ∧ SqT K H c zs) ∧ (i ≤ xs.length ∧ i ≤ ys.length ∧ i ≤ zs.length) ∧ (i = xs.length ∨ i = ys.length ∨ i = zs.length)⟩
/-- the cells of it -/
structure Six (u TI TO i1 i2 i3 a b c : Addr) : Prop where
  ap : u ≠ TI ∧ u ≠ TO ∧ u ≠ i1 ∧ u ≠ i2 ∧ u ≠ i3 ∧ TI ≠ TO ∧ TI ≠ i1 ∧ TI ≠ i2 ∧ TI ≠ i3 ∧ TO ≠ i1 ∧ TO ≠ i2 ∧ TO ≠ i3 ∧ i1 ≠ i2 ∧ i1 ≠ i3 ∧ i2 ≠ i3
  a0 : a ≠ u ∧ a ≠ TI ∧ a ≠ TO ∧ a ≠ i1 ∧ a ≠ i2 ∧ a ≠ i3
  b0 : b ≠ u ∧ b ≠ TI ∧ b ≠ TO ∧ b ≠ i1 ∧ b ≠ i2 ∧ b ≠ i3
  c0 : c ≠ u ∧ c ≠ TI ∧ c ≠ TO ∧ c ≠ i1 ∧ c ≠ i2 ∧ c ≠ i3
theorem Six.sep {u TI TO i1 i2 i3 a b c : Addr} (S : Six u TI TO i1 i2 i3 a b c) : ZipSep3 u TI TO i1 i2 i3 [i1, a] [i2, b] [i3, c] := by
  obtain ⟨⟨s1, s2, s3, s4, s5, s6, s7, s8, s9, s10, s11, s12, s13, s14, s15⟩, ⟨a1, a2, a3, a4, a5, a6⟩, ⟨b1, b2, b3, b4, b5, b6⟩, ⟨c1, c2, c3, c4, c5, c6⟩⟩ := S
  constructor <;> simp [*, Ne.symm s1, Ne.symm s2, Ne.symm s3, Ne.symm s6, Ne.symm a1, Ne.symm a3, Ne.symm a4, Ne.symm a5, Ne.symm a6, Ne.symm b1, Ne.symm b3, Ne.symm b4, Ne.symm b5, Ne.symm b6, Ne.symm c1, Ne.symm c3, Ne.symm c4, Ne.symm c5, Ne.symm c6, Ne.symm s13, Ne.symm s14, Ne.symm s15]
def Z3At (u TI TO i1 i2 i3 a b c : Addr) (i : Nat) (h : Heap) : Prop :=
  IsZip h u TI TO .none ∧ IsTupOf3 h TI (.ref i1) (.ref i2) (.ref i3) ∧ (∃ x y z, IsTupOf3 h TO x y z) ∧ h.IsTupleIter i1 a i ∧ h.IsTupleIter i2 b i ∧ h.IsTupleIter i3 c i
theorem turn_zip3 {P : Program} {w : World} {K : PySem.W.Frag} {elts : List Expr} {kk : Nat} {tpos : Pos} {u TI TO i1 i2 i3 a b c : Addr} (S : Six u TI TO i1 i2 i3 a b c) :
    Turn P w K (.Tuple elts kk tpos) (ItT3 K a b c) [u, TI, TO, i1, i2, i3] u (Z3At u TI TO i1 i2 i3 a b c) where
  mem := List.mem_cons_self
  obj := fun i h st d hd => by
    obtain ⟨zz, ti, ⟨x, y, z, to⟩, ⟨o1, e1, _, d1⟩, ⟨o2, e2, _, d2⟩, ⟨o3, e3, _, d3⟩⟩ := st
    simp only [List.mem_cons, List.not_mem_nil, or_false] at hd
    rcases hd with e | e | e | e | e | e
    · subst e; exact ⟨_, zz, fun v q => nomatch q⟩
    · subst e; exact ⟨_, ti, fun v q => nomatch q⟩
    · subst e; exact ⟨_, to, fun v q => nomatch q⟩
    · subst e; exact ⟨o1, e1, fun v q => by rw [d1] at q; cases q⟩
    · subst e; exact ⟨o2, e2, fun v q => by rw [d2] at q; cases q⟩
    · subst e; exact ⟨o3, e3, fun v q => by rw [d3] at q; cases q⟩
  keep := fun i h h' st k => by
    obtain ⟨zz, ti, ⟨x, y, z, to⟩, h1, h2, h3⟩ := st
    exact ⟨k u (by simp) _ zz, k TI (by simp) _ ti, ⟨x, y, z, k TO (by simp) _ to⟩, h1.at fun o q => k i1 (by simp) o q, h2.at fun o q => k i2 (by simp) o q, h3.at fun o q => k i3 (by simp) o q⟩
  item := by
    intro X hP hw hK hc i pins s σ H E I hf st hg
    subst hP hw hK
    obtain ⟨zz, ti, ⟨x0, y0, z0, to⟩, h1, h2, h3⟩ := st
    obtain ⟨xs, ys, zs, ⟨qx, qy, qz⟩, lx, ly, lz⟩ := hg
    obtain ⟨v1, r1, t1, _⟩ := I.tuple qx
    obtain ⟨v2, r2, t2, _⟩ := I.tuple qy
    obtain ⟨v3, r3, t3, _⟩ := I.tuple qz
    obtain ⟨y1, g1, w1⟩ := r1.get (List.getElem?_eq_getElem lx)
    obtain ⟨y2, g2, w2⟩ := r2.get (List.getElem?_eq_getElem ly)
    obtain ⟨y3, g3, w3⟩ := r3.get (List.getElem?_eq_getElem lz)
    have n1 := r1.length
    have n2 := r2.length
    have n3 := r3.length
    have hd := I.ok.hd hc
    have b0 : u < s.heap.objs.size := Heap.lt_size zz
    have bI : TI < s.heap.objs.size := Heap.lt_size ti
    have bO : TO < s.heap.objs.size := Heap.lt_size to
    have b1 : i1 < s.heap.objs.size := by
      obtain ⟨_, q, _⟩ := h1
      exact Heap.lt_size q
    have b2 : i2 < s.heap.objs.size := by
      obtain ⟨_, q, _⟩ := h2
      exact Heap.lt_size q
    have b3 : i3 < s.heap.objs.size := by
      obtain ⟨_, q, _⟩ := h3
      exact Heap.lt_size q
    refine wpAny_pyNext_zipD3_item S.sep (drawsT (A := X.A.in1) hd i1 a S.a0.2.2.2.1 v1.toArray) (drawsT (A := X.A.in1) hd i2 b S.b0.2.2.2.2.1 v2.toArray) (drawsT (A := X.A.in1) hd i3 c S.c0.2.2.2.2.2 v3.toArray)
      zz ti to ⟨h1, t1⟩ ⟨h2, t2⟩ ⟨h3, t3⟩ (by simp; omega) (by simp; omega) (by simp; omega) fun x1 x2 x3 m tk p1 p2 p3 zz' to' st1 st2 st3 np sz kp => ?_
    obtain rfl : y1 = x1 := by
      have : v1[i]? = some x1 := by simpa using p1
      rw [g1] at this
      exact Option.some.inj this
    obtain rfl : y2 = x2 := by
      have : v2[i]? = some x2 := by simpa using p2
      rw [g2] at this
      exact Option.some.inj this
    obtain rfl : y3 = x3 := by
      have : v3[i]? = some x3 := by simpa using p3
      rw [g3] at this
      exact Option.some.inj this
    refine ⟨_, rfl, wpAny_letOwnedTupleGo_zip (s := { s with heap := m, toks := tk }) zz' fun m2 zz2 sb => ?_⟩
    have np2 : IsTupOf3 m2 s.heap.objs.size y1 y2 y3 := (sb.2 _ (Nat.ne_of_gt b0)).trans np
    have fresh : ObjOk X.prog X.w (upd H s.heap.objs.size (.tup [xs[i], ys[i], zs[i]])) m2 s.heap.objs.size (.tup [xs[i], ys[i], zs[i]]) :=
      ⟨by show 3 ≤ sizeLine; decide, [y1, y2, y3], .cons w1 (.cons w2 (.cons w3 .nil)), ⟨_, np2, rfl, _, rfl⟩⟩
    have stay : ∀ d o, d ∉ [u, TI, TO, i1, i2, i3] → s.heap.get? d = some o → m2.get? d = some o := fun d o hb q =>
      (sb.2 d (fun e => hb (by simp [e]))).trans (kp d o (fun e => hb (by simp [e])) (fun e => hb (by simp [e])) (fun e => hb (by simp [e])) (fun e => hb (by simp [e])) (fun e => hb (by simp [e])) q)
    have I1 := I.turnedNew (t' := tk) (ch := [u, TI, TO, i1, i2, i3]) stay hf (Nat.le_refl _) fresh
    obtain ⟨⟨s1, s2, s3, s4, s5, s6, s7, s8, s9, s10, s11, s12, s13, s14, s15⟩, _, _, _⟩ := S
    refine ⟨.ref s.heap.objs.size, _, I1, rfl, ⟨_, xs[i], ys[i], zs[i], rfl, I.hok.fresh (Nat.le_refl _), rfl, fun l hl => by rw [I.tuple_inj hl qx]; exact List.getElem?_eq_getElem lx, fun l hl => by rw [I.tuple_inj hl qy]; exact List.getElem?_eq_getElem ly,
      fun l hl => by rw [I.tuple_inj hl qz]; exact List.getElem?_eq_getElem lz⟩, ⟨zz2, (sb.2 _ (Ne.symm s1)).trans (kp _ _ (Ne.symm s1) s6 s7 s8 s9 ti), ⟨_, _, _, (sb.2 _ (Ne.symm s2)).trans to'⟩, st1.1.at fun o q => (sb.2 _ (Ne.symm s3)).trans q, st2.1.at fun o q => (sb.2 _ (Ne.symm s4)).trans q,
      st3.1.at fun o q => (sb.2 _ (Ne.symm s5)).trans q⟩, fun d hdm => ?_⟩
    have lt : d < s.heap.objs.size := by
      have h2 := hdm
      simp only [List.mem_cons, List.not_mem_nil, or_false] at h2
      rcases h2 with e | e | e | e | e | e <;> (subst e; assumption)
    rw [upd_ne (Nat.ne_of_lt lt)]
    exact (hf d hdm).1
  done := by
    intro X hP hw hK hc i pins s σ H E I hf st hg
    subst hP hw hK
    obtain ⟨zz, ti, ⟨x0, y0, z0, to⟩, h1, h2, h3⟩ := st
    obtain ⟨xs, ys, zs, ⟨qx, qy, qz⟩, ⟨lx, ly, lz⟩, en⟩ := hg
    obtain ⟨v1, r1, t1, _⟩ := I.tuple qx
    obtain ⟨v2, r2, t2, _⟩ := I.tuple qy
    obtain ⟨v3, r3, t3, _⟩ := I.tuple qz
    have n1 := r1.length
    have n2 := r2.length
    have n3 := r3.length
    have hd := I.ok.hd hc
    refine wpAny_pyNext_zipD3_end S.sep (drawsT (A := X.A.in1) hd i1 a S.a0.2.2.2.1 v1.toArray) (drawsT (A := X.A.in1) hd i2 b S.b0.2.2.2.2.1 v2.toArray) (drawsT (A := X.A.in1) hd i3 c S.c0.2.2.2.2.2 v3.toArray)
      zz ti to ⟨h1, t1⟩ ⟨h2, t2⟩ ⟨h3, t3⟩ (by simp; omega) (by simp; omega) (by simp; omega) (by simp; omega) fun m tk kp => ⟨rfl, ?_⟩
    exact I.turnedL (t' := tk) (ch := [u, TI, TO, i1, i2, i3]) (fun d o hb q => kp d o (fun e => hb (by simp [e])) (fun e => hb (by simp [e])) (fun e => hb (by simp [e])) (fun e => hb (by simp [e])) (fun e => hb (by simp [e])) q) hf
  self := fun A i s Q E st h => wpAny_pyIter_zip st.1 h
end Vf

namespace Vf
open PySem PySem.Spec PyProof.Rows L2
/-! ## zip of three tuples: the rule, and a comprehension over it -/
def iZ3 (K : PySem.W.Frag) (ta : TA) : TI := fun σ H R => ta σ H fun vs H1 => ∃ a b c xs ys zs, vs = [.ref a, .ref b, .ref c] ∧ (SqT K H1 a xs ∧ SqT K H1 b ys ∧ SqT K H1 c zs) ∧ R (ItT3 K a b c) H1
theorem six_new (n a b c : Nat) (ha : a < n) (hb : b < n) (hc : c < n) : Six (n + 5) (n + 3) (n + 4) n (n + 1) (n + 2) a b c := by
  refine ⟨⟨?_, ?_, ?_, ?_, ?_, ?_, ?_, ?_, ?_, ?_, ?_, ?_, ?_, ?_, ?_⟩, ⟨?_, ?_, ?_, ?_, ?_, ?_⟩, ⟨?_, ?_, ?_, ?_, ?_, ?_⟩, ⟨?_, ?_, ?_, ?_, ?_, ?_⟩⟩ <;> (show _ ≠ _; intro e; have e2 : (_ : Nat) = _ := e; omega)
theorem i_zip3 {X : Cx} {K : PySem.W.Frag} {e1 e2 e3 : Expr} {ta : TA} {p pos tpos : Pos} {elts : List Expr} {kk : Nat} (ek : X.K = K) (hg : Gl X "zip") (hm : X.mg "zip" = none) (ha : PA X [e1, e2, e3] ta)
    (hs : starEach [e1, e2, e3] X.env = (false, eval e1 X.env) :: starEach [e2, e3] X.env := by rfl) (hp : (backTo pos (starEach [e2, e3] X.env)).any (·.1) = false := by rfl) :
    PI X (.Tuple elts kk tpos) (.Call (.Name "zip" p) [e1, e2, e3] [] pos) (iZ3 K ta) := by
  subst ek
  refine ⟨fun pins s σ H R I h => ?_⟩
  refine Call_ (ld_blt I hg hm PyProof.Rows.boot_zip (PyProof.Rows.callWith_type1 (thn (ha.run pos pins s σ H _ I h) fun us s1 ⟨vs, H1, I1, r1, q1⟩ => ?_) hs hp))
  obtain ⟨a, b, c, xs, ys, zs, rfl, ⟨qx, qy, qz⟩, q⟩ := q1
  obtain ⟨ua, ub, uc, rfl, ra, rb, rc⟩ : ∃ ua ub uc, us = [ua, ub, uc] ∧ RelV (.ref a) ua ∧ RelV (.ref b) ub ∧ RelV (.ref c) uc := by
    cases r1 with
    | cons r rr =>
      cases rr with
      | cons r' rr =>
        cases rr with
        | cons r'' rr =>
          cases rr
          exact ⟨_, _, _, rfl, r, r', r''⟩
  cases ra
  cases rb
  cases rc
  obtain ⟨v1, _, t1, _⟩ := I1.tuple qx
  obtain ⟨v2, _, t2, _⟩ := I1.tuple qy
  obtain ⟨v3, _, t3, _⟩ := I1.tuple qz
  have la : a < s1.heap.objs.size := t1.lt
  have lb : b < s1.heap.objs.size := t2.lt
  have lc : c < s1.heap.objs.size := t3.lt
  refine zip_begins3 (begins_tuple a v1.toArray) (begins_tuple b v2.toArray) (begins_tuple c v3.toArray) t1 t2 t3 fun m hz hTI hTO g1 g2 g3 hsz hk => wpAny_pyIter_zip hz ?_
  refine ⟨s1.heap.objs.size + 5, [s1.heap.objs.size + 5, s1.heap.objs.size + 3, s1.heap.objs.size + 4, s1.heap.objs.size, s1.heap.objs.size + 1, s1.heap.objs.size + 2], _, _, H1, rfl, I1.kept (t' := s1.toks) hk,
    turn_zip3 (six_new s1.heap.objs.size a b c la lb lc), ⟨hz, hTI, ⟨_, _, _, hTO⟩, ⟨_, g1, rfl, rfl⟩, ⟨_, g2, rfl, rfl⟩, ⟨_, g3, rfl, rfl⟩⟩, fun d hd => ?_, q⟩
  have le : s1.heap.objs.size ≤ d := by
    simp only [List.mem_cons, List.not_mem_nil, or_false] at hd
    rcases hd with e | e | e | e | e | e <;> subst e
    · exact Nat.le_add_right _ _
    · exact Nat.le_add_right _ _
    · exact Nat.le_add_right _ _
    · exact Nat.le_refl _
    · exact Nat.le_add_right _ _
    · exact Nat.le_add_right _ _
  exact I1.fpOk le (I1.hok.fresh le)
section
variable {K : PySem.W.Frag} {σ : L2.St} {H : Hp} {Q : VK} {g : TG} {tt : TT} {te : TE} {vs : List Nat}
theorem r_lcZ3i {ta : TA} (h : ta σ H fun ws H1 => ∃ a b c xs ys zs, ws = [.ref a, .ref b, .ref c] ∧ (SqT K H1 a xs ∧ SqT K H1 b ys ∧ SqT K H1 c zs) ∧ tLc (fun _ H2 R => R (ItT3 K a b c) H2) g tt te vs σ H1 Q) : tLc (iZ3 K ta) g tt te vs σ H Q := h
theorem r_lcZ3 {a b c : Addr} (xs ys zs : List V) (n : Nat) (nx : xs.length = n) (ny : ys.length = n) (nz : zs.length = n) (Pv : Addr → Nat → Hp → Prop) (h0 : ∀ D, H D = none → Pv D 0 (upd H D (.lst [])))
    (hl : ∀ D i H', H D = none → i ≤ n → Pv D i H' → SqT K H' a xs ∧ SqT K H' b ys ∧ SqT K H' c zs)
    (hs : ∀ D i x y z H' T, H D = none → xs[i]? = some x → ys[i]? = some y → zs[i]? = some z → Pv D i H' → H' T = none → g (.ref T) (wipe σ vs) (upd H' T (.tup [x, y, z])) fun σ2 H2 => wipe σ2 vs = wipe σ vs ∧ tt σ2 H2 fun b H3 =>
      if b = true then te σ2 H3 fun y H4 => ∃ acc, H4 D = some (.lst acc) ∧ acc.length < sizeLine ∧ Pv D (i + 1) (upd H4 D (.lst (acc ++ [y]))) else Pv D (i + 1) H3)
    (hd : ∀ D H', H D = none → Pv D n H' → Q (.ref D) H') : tLc (fun _ H2 R => R (ItT3 K a b c) H2) g tt te vs σ H Q := by
  refine fun D hD => ⟨fun i m H => m = n - i ∧ i ≤ n ∧ Pv D i H, ⟨n, by omega, Nat.zero_le _, h0 D hD⟩, ?_⟩
  rintro i m H' ⟨rfl, hi, p⟩
  obtain ⟨qx, qy, qz⟩ := hl D i H' hD hi p
  by_cases lt : i < n
  · refine Or.inr ⟨⟨xs, ys, zs, ⟨qx, qy, qz⟩, by omega, by omega, by omega⟩, Pv D (i + 1), fun H' p' => ⟨n - (i + 1), by omega, rfl, lt, p'⟩, fun v H'' yy => ?_⟩
    obtain ⟨T, x, y, z, rfl, nT, rfl, f1, f2, f3⟩ := yy
    exact hs D i x y z H' T hD (f1 xs qx) (f2 ys qy) (f3 zs qz) p nT
  · have e : i = n := by omega
    subst e
    exact Or.inl ⟨⟨xs, ys, zs, ⟨qx, qy, qz⟩, ⟨by omega, by omega, by omega⟩, .inl (by omega)⟩, hd D H' hD p⟩
end
end Vf

namespace Vf
open PySem PySem.Spec PyProof.Rows L2
/-! ## defs as values: named in a list, called by a name of the caller's -/
/-- a def at an address, with its promise -/
def OkL (P : Program) (w : World) (K : PySem.W.Frag) (mg : Str → Option Value) (base : Heap) (k : Nat) (f : Addr) (sp : Sp) : Prop :=
  ∃ (x : Str) (st : Stmt) (ps : List Str) (fd : FuncData), L2.Fun K x x st f fd ∧ L2.Binds K fd ps [] ∧
    (∀ (A : Around) (outer : List Env) (s : Shared) (H : Hp) (args : Args) (us : List Value) (vs : List V) (Q : VK) (E : XK),
      A.guards = some [] → Room k A → Env0 P w K mg base A outer s H → BindsTo s fd args (ps.zip us) → Vals vs us → sp vs H Q E →
        codeAny (model P w) A (.call (.ref f) args) (CR (CX P w) outer P w H s Q E) s) ∧
    ∀ vs H Q E, sp vs H Q E → vs.length = ps.length
section
variable {P : Program} {w : World} {K : PySem.W.Frag} {mg : Str → Option Value} {base : Heap} {k j : Nat} {x : Str} {st : Stmt} {ps : List Str} {sp : Sp}
theorem Ok.val (G : Ok P w K mg base k x st ps sp) (b : ∀ f fd, L2.Fun K x x st f fd → L2.Binds K fd ps []) : ∃ f, mg x = some (.ref f) ∧ OkL P w K mg base k f sp := by
  obtain ⟨⟨f, fd, F, hm, r⟩, l⟩ := G
  exact ⟨f, hm, x, st, ps, fd, F, b f fd F, r, l⟩
end
section
variable {X : Cx} {k i : Nat} {E : XK} {x : Str} {p pos : Pos} {e : Expr} {es : List Expr} {t : TA}
/-- the slot holds one of some defs -/
def tCallH (i : Nat) (S : Addr → Sp → Prop) (E : XK) (t : TA) : TE := fun σ H Q => ∃ f sp, σ[i]? = some (some (.ref f)) ∧ S f sp ∧ t σ H fun vs H1 => sp vs H1 Q E
theorem pe_gl {S : Addr → Sp → Prop} (A : ∀ f sp, S f sp → OkL X.prog X.w X.K X.mg X.base k f sp) (hg : X.A.guards = some []) (hr : Room k X.A) (hx : Passes (CX X.prog X.w) X E)
    (hN : X.N[i]? = some x) (hv : Vis X.env.scope x) (ha : PA X (e :: es) t)
    (hdb : (x == ("__debug__" : Str)) = false := by decide) (hcd : (x == ("__classdict__" : Str)) = false := by decide)
    (he : starEach (e :: es) X.env = (false, eval e X.env) :: starEach es X.env := by rfl)
    (hpl : (backTo pos (starEach es X.env)).any (·.1) = false := by rfl) :
    PE X (.Call (.Name x p) (e :: es) [] pos) (tCallH i S E t) := by
  refine ⟨fun pins s σ H Q I h => ?_⟩
  obtain ⟨f, sp, hs, hS, ht⟩ := h
  obtain ⟨_, _, ps, fd, F, hb, r, l⟩ := A f sp hS
  refine wpAny_Call_Name_kw (thn ((pe_var (pos := p) hN hv hdb hcd).run pins s σ H (fun v H1 => v = .ref f ∧ H1 = H) I ⟨.ref f, hs, rfl, rfl⟩) fun u s1 ⟨v, H1, I1, r1, q1⟩ => ?_)
  obtain ⟨rfl, rfl⟩ := q1
  cases r1
  refine PySem.W.callWith_K (h₀ := X.base) I.ok.mod.kin F.kp
    (thn (ha.run pos pins s1 σ _ _ I1 ht) fun us s2 ⟨vs, H2, I2, r2, q⟩ => ⟨I2.kIn, ?_⟩) he hpl
  have hl : us.length = ps.length := by rw [← r2.length]; exact l _ _ _ _ q
  have bb := hb s2 us I2.kIn (by rw [List.append_nil]; exact hl)
  rw [List.append_nil] at bb
  refine wpAny_call (codeAny_mono (run_g r hg hr hx I2 bb r2 q) fun z s' hz => ?_)
  cases z with
  | error e => exact hz
  | ok fl => cases fl <;> exact hz
/-- the name of a def, as a value -/
theorem pe_gd {f : Addr} {pos : Pos} (gl : Gl X x) (hm : X.mg x = some (.ref f)) (hd : (x == ("__debug__" : Str)) = false := by decide) : PE X (.Name x pos) (tC (.ref f)) :=
  pe_glob gl hm rfl hd
end
theorem r_callH {i : Nat} {S : Addr → Sp → Prop} {E : XK} {t : TA} {σ : L2.St} {H : Hp} {Q : VK} (f : Addr) (sp : Sp) (h1 : σ[i]? = some (some (.ref f))) (h2 : S f sp) (h : t σ H fun vs H1 => sp vs H1 Q E) : tCallH i S E t σ H Q := ⟨f, sp, h1, h2, h⟩
end Vf

namespace Vf
open PySem PySem.Spec PyProof.Rows L2
/-! ## lists of rows -/
section
variable {K : PySem.W.Frag} {H H' : Hp} {Q : VK}
/-- a list of refs to tuples of ints -/
def RowsAt (K : PySem.W.Frag) (H : Hp) (vs : List V) (nss : List (List Int)) : Prop := Paired (fun v ns => ∃ p, v = V.ref p ∧ SqT K H p (ns.map V.int)) vs nss
theorem RowsAt.mono {vs : List V} {nss : List (List Int)} (h : RowsAt K H vs nss) (s : ∀ p xs, SqT K H p xs → SqT K H' p xs) : RowsAt K H' vs nss := by
  induction h with
  | nil => exact .nil
  | cons h1 h2 ih =>
    obtain ⟨p, e, t⟩ := h1
    exact .cons ⟨p, e, s p _ t⟩ ih
theorem RowsAt.same {vs : List V} {nss : List (List Int)} (h : RowsAt K H vs nss) (s : Same H H') : RowsAt K H' vs nss := h.mono fun _ _ t => Same.tup s t
theorem RowsAt.snoc {vs : List V} {nss : List (List Int)} {p : Addr} {ns : List Int} (h : RowsAt K H vs nss) (t : SqT K H p (ns.map V.int)) : RowsAt K H (vs ++ [.ref p]) (nss ++ [ns]) := by
  induction h with
  | nil => exact .cons ⟨p, rfl, t⟩ .nil
  | cons h1 h2 ih => exact .cons h1 ih
theorem RowsAt.len {vs : List V} {nss : List (List Int)} (h : RowsAt K H vs nss) : vs.length = nss.length := Paired.length h
theorem RowsAt.dp {vs : List V} {nss : List (List Int)} (h : RowsAt K H vs nss) : DpAll K H vs (nss.map tupD) := by
  induction h with
  | nil => exact .nil
  | cons h1 h2 ih =>
    obtain ⟨p, e, t⟩ := h1
    rw [e]
    exact .cons (Dp.tupD t) ih
def linesD (nss : List (List Int)) : PyData := .list (nss.map tupD)
theorem tameLines : ∀ nss : List (List Int), (∀ ns ∈ nss, ∀ n ∈ ns, n.natAbs < 2 ^ 1900) → tameAll (nss.map tupD) = true
  | [], _ => rfl
  | ns :: nss, h => by
    show (tameAll (ns.map PyData.int) && tameAll (nss.map tupD)) = true
    rw [tameInts ns (h ns List.mem_cons_self), tameLines nss (fun m hm => h m (List.mem_cons_of_mem _ hm))]
    rfl
theorem roomLines : ∀ nss : List (List Int), (∀ ns ∈ nss, ns.length ≤ 12) → roomAll (nss.map tupD) ≤ 24030 * nss.length
  | [], _ => Nat.le_refl _
  | ns :: nss, h => by
    have h1 := h ns List.mem_cons_self
    have h2 := roomLines nss (fun m hm => h m (List.mem_cons_of_mem _ hm))
    show (4 + roomAll (ns.map PyData.int)) + 2 + roomAll (nss.map tupD) ≤ 24030 * (nss.length + 1)
    rw [roomInts]
    omega
theorem depthLines : ∀ nss : List (List Int), PyData.depthAll (nss.map tupD) ≤ 1
  | [] => Nat.zero_le _
  | ns :: nss => by
    have h2 := depthLines nss
    show max (PyData.depthAll (ns.map PyData.int) + 1) (PyData.depthAll (nss.map tupD)) ≤ 1
    rw [depthInts]
    omega
theorem r_reprTs {a : Addr} {vs : List V} (nss : List (List Int)) (hs : SqL K H a vs) (R : RowsAt K H vs nss) (b : ∀ ns ∈ nss, ∀ n ∈ ns, n.natAbs < 2 ^ 1900) (l1 : nss.length ≤ 4) (l2 : ∀ ns ∈ nss, ns.length ≤ 12)
    (h : Q (.str (linesD nss).shown) H) : rRepr K [.ref a] H Q := by
  refine r_reprD (linesD nss) (Dp.lst hs R.dp) ?_ ?_ ?_ h
  · exact tameLines nss b
  · have := depthLines nss
    show PyData.depthAll (nss.map tupD) + 1 ≤ 40
    omega
  · have := roomLines nss l2
    show 4 + roomAll (nss.map tupD) ≤ 100000
    omega
end
end Vf

namespace Vf
/-! ## sums of powers: lists of ints, lowest first -/
def pval : List Int → Int → Int
  | [], _ => 0
  | c :: t, x => c + x * pval t x
def l1 : List Int → Nat
  | [] => 0
  | c :: t => c.natAbs + l1 t
theorem pval_append : ∀ (p q : List Int) (x : Int), pval (p ++ q) x = pval p x + x ^ p.length * pval q x
  | [], q, x => by simp [pval]
  | c :: p, q, x => by
    have h := pval_append p q x
    simp only [List.cons_append, pval, List.length_cons, h, Int.pow_succ]
    grind
theorem l1_append : ∀ (p q : List Int), l1 (p ++ q) = l1 p + l1 q
  | [], q => by simp [l1]
  | c :: p, q => by
    have h := l1_append p q
    simp only [List.cons_append, l1, h]
    omega
theorem pval_zeros : ∀ (n : Nat) (x : Int), pval (List.replicate n 0) x = 0
  | 0, _ => rfl
  | n + 1, x => by
    rw [List.replicate_succ, pval, pval_zeros n x]
    simp
theorem l1_zeros : ∀ (n : Nat), l1 (List.replicate n 0) = 0
  | 0 => rfl
  | n + 1 => by
    rw [List.replicate_succ, l1, l1_zeros n]
    rfl
theorem pval_set : ∀ {p : List Int} {i : Nat} {c v x : Int}, p[i]? = some c → pval (p.set i (c + v)) x = pval p x + v * x ^ i
  | [], i, c, v, x, h => by simp at h
  | a :: p, 0, c, v, x, h => by
    have e : a = c := by simpa using h
    subst e
    simp only [List.set_cons_zero, pval, Int.pow_zero]
    grind
  | a :: p, i + 1, c, v, x, h => by
    have h2 : p[i]? = some c := by simpa using h
    have ih := pval_set (v := v) (x := x) h2
    simp only [List.set_cons_succ, pval, ih, Int.pow_succ]
    grind
theorem l1_set : ∀ {p : List Int} {i : Nat} {c v : Int}, p[i]? = some c → l1 (p.set i (c + v)) ≤ l1 p + v.natAbs
  | [], i, c, v, h => by simp at h
  | a :: p, 0, c, v, h => by
    have e : a = c := by simpa using h
    subst e
    simp only [List.set_cons_zero, l1]
    omega
  | a :: p, i + 1, c, v, h => by
    have h2 : p[i]? = some c := by simpa using h
    have ih := l1_set (v := v) h2
    simp only [List.set_cons_succ, l1]
    omega
theorem take_nx {α : Type} {p : List α} {i : Nat} {c : α} (h : p[i]? = some c) : p.take (i + 1) = p.take i ++ [c] := by
  rw [List.take_add_one, h]
  rfl
theorem len_tk {p : List Int} {i : Nat} {c : Int} (h : p[i]? = some c) : (p.take i).length = i := by
  have := (List.getElem?_eq_some_iff.mp h).1
  rw [List.length_take]
  omega
theorem pval_take {p : List Int} {i : Nat} {c x : Int} (h : p[i]? = some c) : pval (p.take (i + 1)) x = pval (p.take i) x + c * x ^ i := by
  rw [take_nx h, pval_append, len_tk h]
  simp only [pval]
  grind
theorem l1_take {p : List Int} {i : Nat} {c : Int} (h : p[i]? = some c) : l1 (p.take (i + 1)) = l1 (p.take i) + c.natAbs := by
  rw [take_nx h, l1_append]
  simp only [l1]
  omega
theorem l1_take_le : ∀ (p : List Int) (i : Nat), l1 (p.take i) ≤ l1 p
  | [], i => by simp [l1]
  | a :: p, 0 => by simp [l1]
  | a :: p, i + 1 => by
    have := l1_take_le p i
    simp only [List.take_succ_cons, l1]
    omega
theorem drop_at {α : Type} {p : List α} {i : Nat} {c : α} (h : p[i]? = some c) : p.drop i = c :: p.drop (i + 1) := by
  have hl := (List.getElem?_eq_some_iff.mp h)
  obtain ⟨h1, h2⟩ := hl
  rw [List.drop_eq_getElem_cons h1, h2]
theorem pval_drop {p : List Int} {i : Nat} {c x : Int} (h : p[i]? = some c) : pval (p.drop i) x = c + x * pval (p.drop (i + 1)) x := by
  rw [drop_at h]
  rfl
theorem l1_drop {p : List Int} {i : Nat} {c : Int} (h : p[i]? = some c) : l1 (p.drop i) = c.natAbs + l1 (p.drop (i + 1)) := by
  rw [drop_at h]
  rfl
theorem l1_drop_le : ∀ (p : List Int) (i : Nat), l1 (p.drop i) ≤ l1 p
  | [], i => by simp [l1]
  | a :: p, 0 => Nat.le_refl _
  | a :: p, i + 1 => by
    have := l1_drop_le p i
    simp only [List.drop_succ_cons, l1]
    omega
theorem l1_mem : ∀ {p : List Int} {c : Int}, c ∈ p → c.natAbs ≤ l1 p
  | a :: p, c, h => by
    simp only [l1]
    rcases List.mem_cons.mp h with e | e
    · subst e; omega
    · have := l1_mem e; omega
theorem pval_le : ∀ (p : List Int) (x : Int) (X : Nat), 1 ≤ X → x.natAbs ≤ X → (pval p x).natAbs ≤ l1 p * X ^ p.length
  | [], x, X, _, _ => by simp [pval, l1]
  | c :: p, x, X, h1, hx => by
    have ih := pval_le p x X h1 hx
    simp only [pval, l1, List.length_cons]
    have e1 : (c + x * pval p x).natAbs ≤ c.natAbs + x.natAbs * (pval p x).natAbs := by
      have := Int.natAbs_add_le c (x * pval p x)
      rw [Int.natAbs_mul] at this
      exact this
    have e2 : x.natAbs * (pval p x).natAbs ≤ X * (l1 p * X ^ p.length) := Nat.mul_le_mul hx ih
    have e3 : X * (l1 p * X ^ p.length) = l1 p * X ^ (p.length + 1) := by rw [Nat.pow_succ]; grind
    have e4 : c.natAbs ≤ c.natAbs * X ^ (p.length + 1) := Nat.le_mul_of_pos_right _ (Nat.pow_pos h1)
    rw [Nat.add_mul]
    omega
/-- no number but 0 is divided by all -/
theorem no_div {d : Int} (h : ∀ x : Int, x ≠ 0 → x ∣ d) : d = 0 := by
  rcases Int.lt_trichotomy d 0 with c | c | c
  · have h1 := h (d - 1) (by omega)
    have := Int.le_of_dvd (show 0 < -d by omega) (Int.dvd_neg.mpr ((Int.neg_dvd).mpr h1))
    omega
  · exact c
  · have := Int.le_of_dvd c (h (d + 1) (by omega))
    omega
theorem pval_none : ∀ {p : List Int}, (∀ x : Int, x ≠ 0 → pval p x = 0) → ∀ c ∈ p, c = 0
  | [], _, _, h => by simp at h
  | a :: p, h, c, hc => by
    have ha : a = 0 := no_div fun x hx => by
      have := h x hx
      rw [pval] at this
      exact ⟨-pval p x, by grind⟩
    subst ha
    rcases List.mem_cons.mp hc with e | e
    · exact e
    · refine pval_none (p := p) (fun x hx => ?_) c e
      have := h x hx
      rw [pval, Int.zero_add] at this
      rcases Int.mul_eq_zero.mp this with z | z
      · exact absurd z hx
      · exact z
def psub : List Int → List Int → List Int
  | [], q => q.map fun c => -c
  | p, [] => p
  | a :: p, b :: q => (a - b) :: psub p q
theorem pval_neg : ∀ (q : List Int) (x : Int), pval (q.map fun c => -c) x = -pval q x
  | [], _ => rfl
  | c :: q, x => by
    simp only [List.map_cons, pval, pval_neg q x]
    grind
theorem pval_sub : ∀ (p q : List Int) (x : Int), pval (psub p q) x = pval p x - pval q x
  | [], q, x => by
    have e : psub [] q = q.map fun c => -c := by cases q <;> rfl
    rw [e, pval_neg]
    simp [pval]
  | a :: p, [], x => by simp [psub, pval]
  | a :: p, b :: q, x => by
    simp only [psub, pval, pval_sub p q x]
    grind
theorem psub_all : ∀ (p q : List Int), (∀ c ∈ psub p q, c = 0) → ∀ i, p.getD i 0 = q.getD i 0
  | [], q, h, i => by
    have e : psub [] q = q.map fun c => -c := by cases q <;> rfl
    rw [e] at h
    rw [List.getD_eq_getElem?_getD, List.getD_eq_getElem?_getD]
    cases hq : q[i]? with
    | none => rfl
    | some c =>
      have := h (-c) (List.mem_map.mpr ⟨c, List.mem_of_getElem? hq, rfl⟩)
      have : c = 0 := by omega
      subst this
      rfl
  | a :: p, [], h, i => by
    have h : ∀ c ∈ a :: p, c = 0 := h
    rw [List.getD_eq_getElem?_getD, List.getD_eq_getElem?_getD]
    cases hq : (a :: p)[i]? with
    | none => rfl
    | some c =>
      have := h c (List.mem_of_getElem? hq)
      subst this
      rfl
  | a :: p, b :: q, h, i => by
    have h0 : a - b = 0 := h (a - b) List.mem_cons_self
    have h1 := psub_all p q (fun c hc => h c (List.mem_cons_of_mem _ hc))
    cases i with
    | zero =>
      show a = b
      omega
    | succ i => exact h1 i
/-- without needless 0s at its end -/
def Canon (p : List Int) : Prop := p ≠ [] ∧ (p.length = 1 ∨ p.getD (p.length - 1) 0 ≠ 0)
theorem Canon.len {p : List Int} (h : Canon p) : 1 ≤ p.length := by
  cases p with
  | nil => exact absurd rfl h.1
  | cons a p => simp
theorem getD_out {p : List Int} {i : Nat} (h : p.length ≤ i) : p.getD i 0 = 0 := by
  rw [List.getD_eq_getElem?_getD, List.getElem?_eq_none h]
  rfl
theorem Canon.eq {p q : List Int} (hp : Canon p) (hq : Canon q) (h : ∀ x, pval p x = pval q x) : p = q := by
  have e := psub_all p q (pval_none fun x _ => by rw [pval_sub, h x]; omega)
  have lp := hp.len
  have lq := hq.len
  have el : p.length = q.length := by
    rcases Nat.lt_trichotomy p.length q.length with c | c | c
    · rcases hq.2 with z | z
      · omega
      · exact absurd ((e (q.length - 1)).symm.trans (getD_out (by omega))) z
    · exact c
    · rcases hp.2 with z | z
      · omega
      · exact absurd ((e (p.length - 1)).trans (getD_out (by omega))) z
  refine List.ext_getElem el fun i h1 h2 => ?_
  have := e i
  rw [List.getD_eq_getElem?_getD, List.getD_eq_getElem?_getD, List.getElem?_eq_getElem h1, List.getElem?_eq_getElem h2] at this
  exact this
theorem Canon.one (c : Int) : Canon [c] := ⟨by simp, .inl rfl⟩
theorem Canon.zero {p : List Int} (hp : Canon p) (h : ∀ x, pval p x = 0) : p = [0] := hp.eq (Canon.one 0) fun x => by rw [h x]; simp [pval]
/-- a sum, as a function, with bounds of its size and its degree -/
structure IsP (p : List Int) (f : Int → Int) (B d : Nat) : Prop where
  cn : Canon p
  v : ∀ x, pval p x = f x
  b : l1 p ≤ B
  l : p.length ≤ d + 1
theorem IsP.mono {p : List Int} {f : Int → Int} {B B' d d' : Nat} (h : IsP p f B d) (hb : B ≤ B') (hd : d ≤ d') : IsP p f B' d' := ⟨h.cn, h.v, Nat.le_trans h.b hb, by have := h.l; omega⟩
theorem IsP.eq {p q : List Int} {f g : Int → Int} {B B' d d' : Nat} (h : IsP p f B d) (h' : IsP q g B' d') (e : ∀ x, f x = g x) : p = q := h.cn.eq h'.cn fun x => by rw [h.v, h'.v, e]
theorem IsP.as {p : List Int} {f g : Int → Int} {B d : Nat} (h : IsP p f B d) (e : ∀ x, f x = g x) : IsP p g B d := ⟨h.cn, fun x => by rw [h.v, e], h.b, h.l⟩
/-- how a sum leans -/
def Dv (f g : Int → Int) : Prop := ∀ x h : Int, ∃ k : Int, f (x + h) = f x + h * g x + h * h * k
theorem Dv.uniq {f g g' : Int → Int} (a : Dv f g) (b : Dv f g') (x : Int) : g x = g' x := by
  have : g x - g' x = 0 := no_div fun h hh => by
    obtain ⟨k, e⟩ := a x h
    obtain ⟨k', e'⟩ := b x h
    refine ⟨k' - k, ?_⟩
    have : h * (g x - g' x - h * (k' - k)) = 0 := by grind
    rcases Int.mul_eq_zero.mp this with z | z
    · exact absurd z hh
    · omega
  omega
theorem Dv.add {f g f' g' : Int → Int} (a : Dv f f') (b : Dv g g') : Dv (fun x => f x + g x) (fun x => f' x + g' x) := fun x h => by
  obtain ⟨k, e⟩ := a x h
  obtain ⟨k', e'⟩ := b x h
  exact ⟨k + k', by simp only [e, e']; grind⟩
theorem Dv.mul {f g f' g' : Int → Int} (a : Dv f f') (b : Dv g g') : Dv (fun x => f x * g x) (fun x => f' x * g x + f x * g' x) := fun x h => by
  obtain ⟨k, e⟩ := a x h
  obtain ⟨k', e'⟩ := b x h
  exact ⟨f' x * g' x + f x * k' + k * g x + h * (f' x * k' + k * g' x) + h * h * k * k', by simp only [e, e']; grind⟩
theorem Dv.comp {f g f' g' : Int → Int} (a : Dv f f') (b : Dv g g') : Dv (fun x => f (g x)) (fun x => f' (g x) * g' x) := fun x h => by
  obtain ⟨k', e'⟩ := b x h
  obtain ⟨k, e⟩ := a (g x) (h * g' x + h * h * k')
  refine ⟨k' * f' (g x) + (g' x + h * k') * (g' x + h * k') * k, ?_⟩
  show f (g (x + h)) = _
  rw [e', show g x + h * g' x + h * h * k' = g x + (h * g' x + h * h * k') by omega, e]
  grind
theorem Dv.const (c : Int) : Dv (fun _ => c) (fun _ => 0) := fun x h => ⟨0, by grind⟩
theorem Dv.pow : ∀ (c : Int) (n : Nat), Dv (fun x => c * x ^ (n + 1)) (fun x => ((n + 1 : Nat) : Int) * c * x ^ n)
  | c, 0 => fun x h => ⟨0, by grind⟩
  | c, n + 1 => fun x h => by
    obtain ⟨k, e⟩ := Dv.pow c n x h
    have e : c * (x + h) ^ (n + 1) = c * x ^ (n + 1) + h * (((n + 1 : Nat) : Int) * c * x ^ n) + h * h * k := e
    refine ⟨((n + 1 : Nat) : Int) * c * x ^ n + (x + h) * k, ?_⟩
    show c * (x + h) ^ (n + 1 + 1) = c * x ^ (n + 1 + 1) + h * (((n + 1 + 1 : Nat) : Int) * c * x ^ (n + 1)) + h * h * (((n + 1 : Nat) : Int) * c * x ^ n + (x + h) * k)
    rw [Int.pow_succ (x + h), ← Int.mul_assoc, e, Int.pow_succ x (n + 1)]
    have e2 : x ^ (n + 1) = x ^ n * x := Int.pow_succ ..
    rw [e2]
    have e3 : ((n + 1 + 1 : Nat) : Int) = ((n + 1 : Nat) : Int) + 1 := rfl
    rw [e3]
    grind
theorem Dv.as {f f' g g' : Int → Int} (a : Dv f g) (e : ∀ x, f x = f' x) (e' : ∀ x, g x = g' x) : Dv f' g' := fun x h => by
  obtain ⟨k, z⟩ := a x h
  exact ⟨k, by rw [← e, ← e, ← e', z]⟩
/-- the slope's coefficients -/
def psl (p : List Int) (n : Nat) : List Int := (List.range n).map fun i : Nat => ((i + 1 : Nat) : Int) * p.getD (i + 1) 0
theorem psl_len (p : List Int) (n : Nat) : (psl p n).length = n := by simp [psl]
theorem psl_succ (p : List Int) (n : Nat) : psl p (n + 1) = psl p n ++ [((n + 1 : Nat) : Int) * p.getD (n + 1) 0] := by
  unfold psl
  rw [List.range_succ, List.map_append]
  rfl
theorem psl_dv (p : List Int) : ∀ n, n + 1 ≤ p.length → Dv (pval (p.take (n + 1))) (pval (psl p n))
  | 0, h => by
    obtain ⟨c, hc⟩ : ∃ c, p[0]? = some c := ⟨_, List.getElem?_eq_getElem (by omega)⟩
    refine (Dv.const c).as (fun x => ?_) (fun x => rfl)
    rw [take_nx hc]
    simp [pval]
  | n + 1, h => by
    obtain ⟨c, hc⟩ : ∃ c, p[n + 1]? = some c := ⟨_, List.getElem?_eq_getElem (by omega)⟩
    have ih := psl_dv p n (by omega)
    refine (ih.add (Dv.pow c n)).as (fun x => (pval_take hc).symm) (fun x => ?_)
    rw [psl_succ, pval_append, psl_len, List.getD_eq_getElem?_getD, hc]
    simp only [pval, Option.getD_some]
    grind
theorem psl_l1 (p : List Int) : ∀ n, n + 1 ≤ p.length → l1 (psl p n) ≤ n * l1 (p.take (n + 1))
  | 0, h => by simp [psl, l1]
  | n + 1, h => by
    obtain ⟨c, hc⟩ : ∃ c, p[n + 1]? = some c := ⟨_, List.getElem?_eq_getElem (by omega)⟩
    have ih := psl_l1 p n (by omega)
    rw [psl_succ, l1_append, l1_take hc, List.getD_eq_getElem?_getD, hc]
    simp only [l1, Option.getD_some]
    rw [Int.natAbs_mul, Int.natAbs_natCast, Nat.mul_add]
    have : n * l1 (p.take (n + 1)) ≤ (n + 1) * l1 (p.take (n + 1)) := Nat.mul_le_mul_right _ (by omega)
    omega
theorem IsP.slope {p : List Int} {f : Int → Int} {B d : Nat} (h : IsP p f B d) (hl : 2 ≤ p.length) : ∃ f', Dv f f' ∧ IsP (psl p (p.length - 1)) f' (d * B) (d - 1) := by
  have hd := h.l
  have hv := psl_dv p (p.length - 1) (by omega)
  have hb := psl_l1 p (p.length - 1) (by omega)
  rw [show p.length - 1 + 1 = p.length by omega, List.take_length] at hv hb
  refine ⟨_, hv.as h.v (fun _ => rfl), ⟨⟨fun e => ?_, .inr ?_⟩, fun _ => rfl, ?_, ?_⟩⟩
  · have := psl_len p (p.length - 1)
    rw [e] at this
    simp at this
    omega
  · rw [psl_len]
    have e : p.length - 1 = (p.length - 1 - 1) + 1 := by omega
    rw [List.getD_eq_getElem?_getD]
    unfold psl
    rw [List.getElem?_map, List.getElem?_range (by omega)]
    show ((p.length - 1 - 1 + 1 : Nat) : Int) * p.getD (p.length - 1 - 1 + 1) 0 ≠ 0
    rw [← e]
    rcases h.cn.2 with z | z
    · omega
    · exact Int.mul_ne_zero (by omega) z
  · refine Nat.le_trans hb (Nat.mul_le_mul (by omega) h.b)
  · rw [psl_len]; omega
end Vf

namespace Vf
open PySem PySem.Spec PyProof.Rows L2
/-! ## t[::-1], t a tuple -/
section
variable {prog : Program} {w : World} {A : Around} {E : Value → Shared → Prop} {s : Shared}
theorem adj_rev (n : Nat) : Builtin.Slice.sliceAdjust none none (-1) (n : Int) = ((n : Int) - 1, -1) := rfl
theorem plc_rev (n : Nat) : Builtin.Slice.slicePlaces ((n : Int) - 1) (-1) (-1) = n := by
  show (if (-1 : Int) > 0 then _ else (if (n : Int) - 1 > -1 then ((n : Int) - 1 - (-1) - 1) / (-(-1)) + 1 else 0)).toNat = n
  rw [if_neg (by decide)]
  split
  · rw [show (-(-1) : Int) = 1 from rfl, Int.ediv_one]
    omega
  · show (0 : Int).toNat = n
    have : n = 0 := by omega
    rw [this]
    rfl
theorem fm_some {α β : Type} {f : α → Option β} {g : α → β} : ∀ (l : List α), (∀ a ∈ l, f a = some (g a)) → l.filterMap f = l.map g
  | [], _ => rfl
  | a :: l, h => by
    rw [List.filterMap_cons, h a List.mem_cons_self, List.map_cons, fm_some l fun b hb => h b (List.mem_cons_of_mem _ hb)]
theorem pick_rev (xs : List Value) : ((List.range xs.length).filterMap fun m : Nat => xs.toArray[(((xs.length : Nat) : Int) - 1 + (m : Int) * -1).toNat]?) = xs.reverse := by
  have e1 : ∀ m ∈ List.range xs.length, xs.toArray[(((xs.length : Nat) : Int) - 1 + (m : Int) * -1).toNat]? = some (xs.reverse.getD m .none) := fun m hm => by
    have lt := List.mem_range.mp hm
    rw [show (((xs.length : Nat) : Int) - 1 + (m : Int) * -1).toNat = xs.length - 1 - m by omega, List.getElem?_toArray, List.getD_eq_getElem?_getD, List.getElem?_reverse lt, List.getElem?_eq_getElem (by omega)]
    rfl
  have e2 : ((List.range xs.length).filterMap fun m : Nat => xs.toArray[(((xs.length : Nat) : Int) - 1 + (m : Int) * -1).toNat]?) = (List.range xs.length).map fun m => xs.reverse.getD m .none := by
    exact fm_some _ e1
  rw [e2]
  refine List.ext_getElem (by simp) fun i h1 h2 => ?_
  rw [List.getElem_map, List.getElem_range, List.getD_eq_getElem?_getD, List.getElem?_eq_getElem h2]
  rfl
theorem applied_rev {sl : Addr} {t : Tok} {n : Nat} {Q : Int × Int × Nat → Shared → Prop} (hs : s.heap.IsSliceOf sl .none .none (.int (-1) t))
    (h : Q ((n : Int) - 1, -1, n) s) : wpAny (model prog w) A (Builtin.Slice.sliceApplied (.ref sl) (pure (n : Int))) Q E s := by
  obtain ⟨o, ho, hc, hd⟩ := id hs
  unfold Builtin.Slice.sliceApplied Builtin.Slice.sliceFields
  refine wpAny_bind (wpAny_bind (wpAny_field ho hd (x := .none) rfl
    (wpAny_bind (wpAny_field ho hd (x := .none) rfl (wpAny_bind (wpAny_field ho hd (x := .int (-1) t) rfl (wpAny_pure ?_)))))))
  refine wpAny_bind (slicePart_int ?_)
  show wpAny _ _ (if ((-1 : Int) == 0) = true then _ else _) _ _ s
  rw [if_neg (by decide)]
  refine wpAny_bind (slicePart_none (wpAny_bind (slicePart_none (wpAny_bind (wpAny_pure ?_)))))
  show wpAny _ _ (match Builtin.Slice.sliceAdjust none none (-1) (n : Int) with | (lo, hi) => pure (lo, (-1 : Int), Builtin.Slice.slicePlaces lo hi (-1))) _ _ s
  rw [adj_rev]
  show wpAny _ _ (pure ((n : Int) - 1, (-1 : Int), Builtin.Slice.slicePlaces ((n : Int) - 1) (-1) (-1))) _ _ s
  rw [plc_rev]
  exact wpAny_pure h
theorem item_rev {t sl : Addr} {its : List Value} {tk : Tok} {Q : Value → Shared → Prop} (ht : IsTup s.heap t its.toArray) (hs : s.heap.IsSliceOf sl .none .none (.int (-1) tk))
    (h : Q (.ref s.heap.objs.size) { s with heap := s.heap.push { cls := .type "tuple", data := .seq its.reverse.toArray } })
    (hz : its.length ≤ sizeLine) : wpAny (model prog w) A (getItem (.ref t) (.ref sl)) Q E s := by
  have ok : sizeOk (.seq its.reverse.toArray) := by
    show its.reverse.toArray.size ≤ sizeLine
    rw [List.size_toArray, List.length_reverse]
    exact hz
  obtain ⟨os, hos, hcs, hds⟩ := id hs
  have ty : s.TypeIs (.ref sl) "slice" := ⟨os, hos, hcs⟩
  unfold getItem
  try with_reducible refine wpAny_holding ?_
  first | refine wpAny_bind (wpAny_pure ?_) | skip
  refine wpAny_bind (wpAny_sequenceKey ht.typeIs (by decide) ?_)
  refine wpAny_bind (wpAny_callSpecial?_slot (name := Str.ofString "__getitem__") ht.typeIs
    PyProof.Rows.slot_tuple_getitem (wpAny_call_entry PyProof.Rows.slot_tuple_getitem
      ht.typeIs entry_tuple_getitem ?_ (args_tuple_getitem _ _)))
  show wpAny _ _ (Builtin.Tuple.tupleItemsOf (.ref t) >>= _) _ _ s
  refine wpAny_bind (tupleItemsOf_ ht ?_)
  refine wpAny_bind (wpAny_typeOf ty ?_)
  rw [if_pos (by decide)]
  rw [List.size_toArray]
  refine wpAny_bind (applied_rev hs ?_)
  have no : ¬ (((((its.length : Nat) : Int) - 1 == 0) && ((-1 : Int) == 1) && (its.length == its.length)) = true) := by
    rw [Bool.and_eq_true, Bool.and_eq_true]
    exact fun q => absurd q.1.2 (by decide)
  show wpAny _ _ (if ((((its.length : Nat) : Int) - 1 == 0) && ((-1 : Int) == 1) && (its.length == its.length)) = true then _ else _) _ _ s
  rw [if_neg no, pick_rev]
  first
    | exact wpAny_bind (m := Builtin.Tuple.tupleExact _) (wpAny_newObj_type (wpAny_pure ⟨_, rfl, wpAny_pure h⟩) ok)
    | exact wpAny_bind (m := Builtin.Tuple.tupleExact _) (wpAny_newObj_type (wpAny_bind (wpAny_pure (wpAny_pure ⟨_, rfl, wpAny_pure h⟩))) ok)
    | exact wpAny_bind (wpAny_bind (m := Builtin.Tuple.tupleExact _) (wpAny_newObj_type (wpAny_pure (wpAny_pure ⟨_, rfl, wpAny_pure h⟩)) ok))
    | exact wpAny_bind (wpAny_bind (m := Builtin.Tuple.tupleExact _) (wpAny_newObj_type (wpAny_pure ⟨_, rfl, wpAny_pure h⟩) ok))
end
def tRevT (K : PySem.W.Frag) (te : TE) : TE := fun σ H Q => te σ H fun x H1 => ∃ a xs, x = .ref a ∧ SqT K H1 a xs ∧ ∀ p, H1 p = none → Q (.ref p) (upd H1 p (.tup xs.reverse))
theorem pe_revT {X : Cx} {K : PySem.W.Frag} {e : Expr} {te : TE} {k : Nat} {p1 p2 p3 pos : Pos} (ek : X.K = K) (he : PE X e te) :
    PE X (.Subscript e (.Slice none none (some (.UnaryOp .USub (.Constant (.int 1) k p1) p2)) p3) pos) (tRevT K te) := by
  subst ek
  refine ⟨fun pins s σ H Q I h => ?_⟩
  refine Subscript_ (thn (he.run pins s σ H _ I h) fun v s1 ⟨x, H1, I1, r1, q1⟩ => ?_)
  obtain ⟨a, xs, rfl, hx, q⟩ := q1
  cases r1
  have st : PO X (some (.UnaryOp .USub (.Constant (.int 1) k p1) p2))
      (tPart (tUn (rU fun i => .int (-i)) (tC (.int 1)))) := po_some (pe_un un_neg pe_int)
  refine wpAny_Slice (thn (po_none.run pins s1 σ H1
    (fun o H2 => o = none ∧ H2 = H1) I1 ⟨rfl, rfl⟩) fun vl s2 ⟨l, H2, I2, pl, el, e2⟩ => ?_)
  subst el e2
  refine thn (po_none.run pins s2 σ H2
    (fun o H3 => o = none ∧ H3 = H2) I2 ⟨rfl, rfl⟩) fun vu s3 ⟨u, H3, I3, pu, eu, e3⟩ => ?_
  subst eu e3
  refine thn (st.run pins s3 σ H3
    (fun o H4 => o = some (-1) ∧ H4 = H3) I3 ⟨1, rfl, -1, rfl, rfl, rfl⟩) fun vs s4 ⟨o, H4, I4, ps, eo, e4⟩ => ?_
  subst eo e4
  cases pl
  cases pu
  cases ps with
  | int _ tk =>
  have I5 : Inv X pins σ H4 { s4 with heap := s4.heap.push { cls := .type "slice", data := .fields #[.none, .none, .int (-1) tk] } } :=
    I4.kept (t' := s4.toks) fun b ob q => Heap.get?_push_of_some _ q
  obtain ⟨its, r, ht, hz⟩ := I5.tuple hx
  have hl := r.length
  show wpAny (model X.prog X.w) X.A (subscriptTail e _ (.ref a) (.ref s4.heap.objs.size)) (EP X pins σ Q) X.xe _
  refine tail_any (ops := [.ref a, .ref s4.heap.objs.size]) ht.typeIs PyProof.Rows.slot_tuple_getitem.lookup ?_ (by with_unfolding_all rfl)
  refine item_rev ht (Heap.IsSliceOf.new _ _ _ _) ?_ (by rw [← hl]; exact hz)
  refine ⟨.ref _, _, I5.laid (t' := s4.toks) (o := .tup xs.reverse)
    (fun b ob q => Heap.get?_push_of_some _ q) (Nat.le_refl _) ?_, rfl, q _ (I5.hok.fresh (Nat.le_refl _))⟩
  exact ⟨by rw [List.length_reverse]; exact hz, its.reverse, r.reverse, IsTup.new _ _⟩
theorem r_revT {K : PySem.W.Frag} {te : TE} {σ : L2.St} {H : Hp} {Q : VK} (h : te σ H fun x H1 => ∃ a xs, x = .ref a ∧ SqT K H1 a xs ∧ ∀ p, H1 p = none → Q (.ref p) (upd H1 p (.tup xs.reverse))) : tRevT K te σ H Q := h
/-! ## reversed(t) -/
theorem i_rev {X : Cx} {K : PySem.W.Frag} {tg e : Expr} {te : TE} {p pos : Pos} (ek : X.K = K) (hg : Gl X "reversed") (hm : X.mg "reversed" = none) (he : PE X e te)
    (hs : starEach [e] X.env = (false, eval e X.env) :: starEach [] X.env := by rfl) : PI X tg (.Call (.Name "reversed" p) [e] [] pos) (RT.iRevA K te) := by
  subst ek
  exact RT.pi_revA hg hm he hs
theorem r_forRv {K : PySem.W.Frag} {g : TG} {tb : TS} {D : Ends} {σ : L2.St} {H : Hp} {te : TE} (h : te σ H fun v H1 => ∃ (a : Addr) (xs : List V), v = .ref a ∧ SqT K H1 a xs ∧ tFor (fun _ H2 R => R (RT.ItvT K a xs.length) H2) g tb D σ H1)
    (mono : ∀ (R R' : VK), (∀ v H1, R v H1 → R' v H1) → te σ H R → te σ H R') : tFor (RT.iRevA K te) g tb D σ H :=
  mono _ _ (fun v H1 ⟨a, xs, e, sv, r⟩ => ⟨a, xs, e, .inr ⟨sv, r⟩⟩) h
theorem mono_var {i : Nat} {σ : L2.St} {H : Hp} (R R' : VK) (h : ∀ v H1, R v H1 → R' v H1) (q : tVar i σ H R) : tVar i σ H R' := by
  obtain ⟨v, e, r⟩ := q
  exact ⟨v, e, h _ _ r⟩
theorem r_forRvV {K : PySem.W.Frag} {g : TG} {tb : TS} {D : Ends} {σ : L2.St} {H : Hp} {i : Nat} {a : Addr} (xs : List V) (e : σ[i]? = some (some (.ref a))) (sv : SqT K H a xs) (Pv : Nat → L2.St → Hp → Prop) (h0 : Pv 0 σ H)
    (hl : ∀ i σ H, Pv i σ H → SqT K H a xs)
    (hs : ∀ (i : Nat) (x : V) (σ : L2.St) (H : Hp), i < xs.length → xs[xs.length - 1 - i]? = some x → Pv i σ H → g x σ H fun σ2 H2 => tb { D with nx := Pv (i + 1), ct := Pv (i + 1), bk := D.nx } σ2 H2)
    (hd : ∀ σ H, Pv xs.length σ H → D.nx σ H) : tFor (RT.iRevA K (tVar i)) g tb D σ H :=
  r_forRv ⟨.ref a, e, a, xs, rfl, sv, RT.for_ItvT Pv h0 hl hs hd⟩ mono_var
/-! ## xs[i] += e -/
def rGetL (K : PySem.W.Frag) : V → V → Hp → VK → Prop := fun o i H Q => ∃ (p : Addr) (xs : List V) (k : Nat) (z : V), o = .ref p ∧ i = .int (k : Int) ∧ SqL K H p xs ∧ xs[k]? = some z ∧ Q z H
theorem get_list {X : Cx} {K : PySem.W.Frag} (ek : X.K = K) : PGet X (rGetL K) := by
  subst ek
  intro pins s σ H o i ov iv Q I ro ri h
  obtain ⟨p, xs, k, z, rfl, rfl, hq, he, q⟩ := h
  cases ro
  obtain ⟨t, rfl⟩ := ri
  obtain ⟨its, r, pl, hz⟩ := I.list hq
  obtain ⟨w, ew, rw'⟩ := r.get he
  have hn := line63
  have hk := (List.getElem?_eq_some_iff.mp he).1
  have hl := r.length
  refine PySem.wpAny_getItem_list pl.isList (by omega) (by omega) ?_ ⟨z, H, I, rw', q⟩
  rw [Int.toNat_natCast]
  simpa using ew
theorem r_getL {K : PySem.W.Frag} {H : Hp} {Q : VK} {p : Addr} {k : Nat} {z : V} (xs : List V) (h1 : SqL K H p xs) (h2 : xs[k]? = some z) (h : Q z H) : rGetL K (.ref p) (.int (k : Int)) H Q := ⟨p, xs, k, z, rfl, rfl, h1, h2, h⟩
theorem r_augS {to ti te : TE} {tget : V → V → Hp → VK → Prop} {tip : TIp} {tset : TSet} {D : Ends} {σ : L2.St} {H : Hp}
    (h : to σ H fun o H1 => ti σ H1 fun i H2 => tget o i H2 fun x H3 => te σ H3 fun y H4 => tip x y H4 fun z H5 => tset o i z H5 fun H6 => D.nx σ H6) : tAugS to ti te tget tip tset D σ H := h
/-! ## xs.pop() -/
theorem r_popL {H : Hp} {Q : VK} {l : Addr} (xs : List V) (y : V) (h1 : H l = some (.lst (xs ++ [y]))) (h : Q y (upd H l (.lst xs))) : rPop (.ref l) [] H Q :=
  ⟨l, _, y, rfl, rfl, h1, by simp, by rw [List.dropLast_concat]; exact h⟩
end Vf

namespace Vf
open PySem PySem.Spec PyProof.Rows L2
/-! ## the law's cask -/
def Cask (n : Nat) (k : Addr) (H : Hp) : Prop := ∃ a b c : Int, H k = some (.lst [.int b, .int c, .int a]) ∧ KegOk a b c (17 + 11 * n)
theorem Cask.mono {n m : Nat} {k : Addr} {H : Hp} (h : Cask n k H) (l : n ≤ m) : Cask m k H := by
  obtain ⟨a, b, c, e, o⟩ := h
  exact ⟨a, b, c, e, o.a0, o.ab, o.b0, o.bM, o.c0, by have := o.cn; omega⟩
theorem Cask.same {n : Nat} {k : Addr} {H H' : Hp} (h : Cask n k H) (s : Same H H') : Cask n k H' := by
  obtain ⟨a, b, c, e, o⟩ := h
  exact ⟨a, b, c, s _ _ e, o⟩
theorem Cask.new {n : Nat} {k p : Addr} {H : Hp} {o : HO} (h : Cask n k H) (hp : H p = none) : Cask n k (upd H p o) := h.same (Same.new hp)
theorem Cask.ne {n : Nat} {k p : Addr} {H : Hp} (h : Cask n k H) (hp : H p = none) : p ≠ k := by
  obtain ⟨a, b, c, e, o⟩ := h
  exact (ne_of_none e hp).symm
theorem Cask.tt {n : Nat} {k : Addr} {H H' : Hp} (h : Cask n k H) (e : Kx k H H') : Tt H H' := by
  obtain ⟨a, b, c, z, o⟩ := h
  exact e.tt z
theorem Cask.kx {n m : Nat} {k j : Addr} {H H' : Hp} (h : Cask n k H) (e : Kx j H H') (ne : k ≠ j) : Cask n k H' := by
  obtain ⟨a, b, c, z, o⟩ := h
  exact ⟨a, b, c, e _ _ ne z, o⟩
def sp_ctap : Sp := fun vs H Q _ => ∃ (k : Addr) (u : Int) (n : Nat), vs = [.ref k, .int u] ∧ Cask n k H ∧ n ≤ 2 ^ 60 ∧ 0 < u ∧ u < 2 ^ 62 ∧
  ∀ f H', 0 ≤ f → f < u → Kx k H H' → Cask (n + 1) k H' → Q (.int f) H'
theorem i_ctap {k : Addr} {u : Int} {H : Hp} {Q : VK} {E : XK} (n : Nat) (hk : Cask n k H) (hn : n ≤ 2 ^ 60) (h0 : 0 < u) (h1 : u < 2 ^ 62)
    (q : ∀ f H', 0 ≤ f → f < u → Kx k H H' → Cask (n + 1) k H' → Q (.int f) H') : sp_ctap [.ref k, .int u] H Q E := ⟨k, u, n, rfl, hk, hn, h0, h1, q⟩
def sp_cof (K : PySem.W.Frag) : Sp := fun vs H Q _ => ∃ (k t : Addr) (xs : List V) (n : Nat), vs = [.ref k, .ref t] ∧ Cask n k H ∧ n ≤ 2 ^ 60 ∧ t ≠ k ∧ SqL K H t xs ∧ 0 < xs.length ∧ xs.length ≤ 100000 ∧
  ∀ (i : Nat) (x : V) H', xs[i]? = some x → Kx k H H' → Cask (n + 1) k H' → Q x H'
theorem i_cof {K : PySem.W.Frag} {k t : Addr} {H : Hp} {Q : VK} {E : XK} (n : Nat) (xs : List V) (hk : Cask n k H) (hn : n ≤ 2 ^ 60) (ht : t ≠ k) (hs : SqL K H t xs) (h0 : 0 < xs.length) (h1 : xs.length ≤ 100000)
    (q : ∀ (i : Nat) x H', xs[i]? = some x → Kx k H H' → Cask (n + 1) k H' → Q x H') : sp_cof K [.ref k, .ref t] H Q E := ⟨k, t, xs, n, rfl, hk, hn, ht, hs, h0, h1, q⟩
def sp_cask (K : PySem.W.Frag) : Sp := fun vs H Q _ => ∃ (c : Addr) (ns : List Int) (j : Nat), vs = [.ref c, .int (j : Int)] ∧ SqL K H c (ns.map V.int) ∧ Script ns ∧ j ≤ 1000 ∧
  ∀ p H', Same H H' → H p = none → Cask 0 p H' → Q (.ref p) H'
theorem i_cask {K : PySem.W.Frag} {c : Addr} {H : Hp} {Q : VK} {E : XK} (ns : List Int) (j : Nat) (hs : SqL K H c (ns.map V.int)) (hn : Script ns) (hj : j ≤ 1000)
    (q : ∀ p H', Same H H' → H p = none → Cask 0 p H' → Q (.ref p) H') : sp_cask K [.ref c, .int (j : Int)] H Q E := ⟨c, ns, j, rfl, hs, hn, hj, q⟩
theorem Cask.none {n : Nat} {k q : Addr} {H H' : Hp} (h : Cask n k H') (e : Kx k H H') (hq : H' q = Option.none) : H q = Option.none := by
  obtain ⟨a, b, c, z, o⟩ := h
  exact none_kx e z hq
theorem r_bm0 {K : PySem.W.Frag} {T : String} {r : V → List V → Hp → VK → Prop} {to : TE} {σ : L2.St} {H : Hp} {Q : VK} (h : to σ H fun x H1 => tyV K T x H1 ∧ r x [] H1 Q) : tBM0 K T r to σ H Q := h
end Vf

namespace Vf
/-! ## sums by their steps -/
def nval : List Int → Int → Int → Int
  | [], _, _ => 0
  | s :: t, j, x => s + (x - j) * nval t (j + 1) x
def lb : List Int → Nat → Nat
  | [], _ => 0
  | s :: t, j => s.natAbs + (1 + j) * lb t (j + 1)
theorem lb_le (S : Nat) : ∀ (s : List Int) (j : Nat), (∀ c ∈ s, c.natAbs ≤ S) → j + s.length ≤ 19 → lb s j ≤ S * 20 ^ s.length
  | [], _, _, _ => Nat.zero_le _
  | c :: t, j, h, hl => by
    rw [List.length_cons] at hl
    have h1 := h c List.mem_cons_self
    have h2 := lb_le S t (j + 1) (fun d hd => h d (List.mem_cons_of_mem _ hd)) (by omega)
    have h3 : (1 + j) * lb t (j + 1) ≤ 19 * (S * 20 ^ t.length) := Nat.mul_le_mul (by omega) h2
    have h4 : S ≤ S * 20 ^ t.length := Nat.le_mul_of_pos_right _ (Nat.pow_pos (by decide))
    rw [lb, List.length_cons, Nat.pow_succ, ← Nat.mul_assoc]
    omega
theorem nval_zeros (n : Nat) : ∀ (s : List Int) (j x : Int), nval (s ++ List.replicate n 0) j x = nval s j x
  | [], j, x => by
    rw [List.nil_append]
    induction n generalizing j with
    | zero => rfl
    | succ n ih =>
      show 0 + (x - j) * nval (List.replicate n 0) (j + 1) x = 0
      rw [ih]
      simp [nval]
  | c :: s, j, x => by
    rw [List.cons_append, nval, nval, nval_zeros n s (j + 1) x]
theorem far_div {d : Int} (N : Int) (h : ∀ y : Int, N < y → 0 < y → y ∣ d) : d = 0 := by
  have h1 := h (max N 0 + d.natAbs + 1) (by omega) (by omega)
  rcases Int.lt_trichotomy d 0 with c | c | c
  · have := Int.le_of_dvd (show 0 < -d by omega) (Int.dvd_neg.mpr h1)
    omega
  · exact c
  · have := Int.le_of_dvd c h1
    omega
theorem nval_none : ∀ {s : List Int} {j : Int} (N : Int), (∀ x : Int, N < x → nval s j x = 0) → ∀ c ∈ s, c = 0
  | [], _, _, _, _, h => by simp at h
  | a :: s, j, N, h, c, hc => by
    have ha : a = 0 := far_div (N - j) fun y h1 h2 => by
      have := h (y + j) (by omega)
      rw [nval, show y + j - j = y by omega] at this
      exact ⟨-nval s (j + 1) (y + j), by rw [Int.mul_neg]; omega⟩
    subst ha
    rcases List.mem_cons.mp hc with e | e
    · exact e
    · refine nval_none (s := s) (j := j + 1) (max N j) (fun x hx => ?_) c e
      have := h x (by omega)
      rw [nval, Int.zero_add] at this
      rcases Int.mul_eq_zero.mp this with z | z
      · omega
      · exact z
def nsub : List Int → List Int → List Int
  | a :: p, b :: q => (a - b) :: nsub p q
  | _, _ => []
theorem nval_sub : ∀ (p q : List Int) (j x : Int), p.length = q.length → nval (nsub p q) j x = nval p j x - nval q j x
  | [], [], j, x, _ => by simp [nsub, nval]
  | [], b :: q, j, x, h => by simp at h
  | a :: p, [], j, x, h => by simp at h
  | a :: p, b :: q, j, x, h => by
    have h1 := nval_sub p q (j + 1) x (by simpa using h)
    simp only [nsub, nval, h1]
    grind
theorem nsub_all : ∀ (p q : List Int), p.length = q.length → (∀ c ∈ nsub p q, c = 0) → p = q
  | [], [], _, _ => rfl
  | [], b :: q, h, _ => by simp at h
  | a :: p, [], h, _ => by simp at h
  | a :: p, b :: q, h, hz => by
    have h1 := nsub_all p q (by simpa using h) (fun c hc => hz c (List.mem_cons_of_mem _ hc))
    have h2 := hz (a - b) List.mem_cons_self
    rw [h1, show a = b by omega]
theorem nval_inj {p q : List Int} (hl : p.length = q.length) (h : ∀ x, nval p 0 x = nval q 0 x) : p = q :=
  nsub_all p q hl (nval_none (j := 0) 0 fun x _ => by rw [nval_sub p q 0 x hl, h x]; omega)
/-- the first r of a list as steps, the rest as coefficients -/
def mval : Nat → List Int → Int → Int → Int
  | 0, l, _, x => pval l x
  | _ + 1, [], _, _ => 0
  | r + 1, s :: t, j, x => s + (x - j) * mval r t (j + 1) x
theorem mval_all : ∀ (r : Nat) (l : List Int) (j x : Int), l.length ≤ r → mval r l j x = nval l j x
  | 0, l, j, x, h => by
    have : l = [] := List.eq_nil_of_length_eq_zero (by omega)
    subst this
    rfl
  | r + 1, [], j, x, h => rfl
  | r + 1, s :: t, j, x, h => by
    rw [mval, nval, mval_all r t (j + 1) x (by simpa using h)]
/-- one stage: the rest divided by x less the next number -/
theorem mval_stage : ∀ (r : Nat) (l l' : List Int) (j : Int) (x : Int), l'.length = l.length → r < l.length → l'.take r = l.take r →
    pval (l.drop r) x = l'.getD r 0 + (x - (j + r)) * pval (l'.drop (r + 1)) x → mval r l j x = mval (r + 1) l' j x
  | 0, l, l', j, x, hl, hr, ht, h => by
    match l', hl, h with
    | [], hl, _ => simp at hl; omega
    | s :: t, _, h =>
      rw [mval, mval, mval]
      rw [List.drop_zero] at h
      rw [h]
      simp
  | r + 1, l, l', j, x, hl, hr, ht, h => by
    match l, l', hl, hr, ht, h with
    | [], _, _, hr, _, _ => simp at hr
    | a :: l, [], hl, _, _, _ => simp at hl
    | a :: l, b :: l', hl, hr, ht, h =>
      rw [List.take_succ_cons, List.take_succ_cons] at ht
      obtain ⟨e1, e2⟩ := List.cons.inj ht
      have ih := mval_stage r l l' (j + 1) x (by simpa using hl) (by simpa using hr) e2 (by
        have h2 : pval (l.drop r) x = l'.getD r 0 + (x - (j + ((r + 1 : Nat) : Int))) * pval (l'.drop (r + 1)) x := h
        rw [show (j + 1 + (r : Int)) = j + ((r + 1 : Nat) : Int) by omega]
        exact h2)
      rw [mval, ih, ← e1]
      rfl
theorem mval_one (l : List Int) (x : Int) (h : l ≠ []) : mval 1 l 0 x = pval l x := by
  match l, h with
  | s :: t, _ => rw [mval, mval, pval, Int.sub_zero]
/-- how great steps of seven coefficients can be -/
def row : Nat → List Nat
  | 0 => [1, 1, 1, 1, 1, 1, 1]
  | 1 => [1, 6, 5, 4, 3, 2, 1]
  | 2 => [1, 6, 57, 26, 11, 4, 1]
  | 3 => [1, 6, 57, 122, 32, 7, 1]
  | 4 => [1, 6, 57, 122, 76, 11, 1]
  | 5 => [1, 6, 57, 122, 76, 16, 1]
  | _ => [1, 6, 57, 122, 76, 16, 1]
theorem row_ok : ∀ n < 6, ∀ i < 7, (row (n + 1)).getD i 0 = if i < n + 1 then (row n).getD i 0 else (row n).getD i 0 + (n + 1) * (row (n + 1)).getD (i + 1) 0 := by decide
theorem row_top : ∀ n < 7, ∀ i < 7, (row n).getD i 0 ≤ 122 := by decide
theorem row_up : ∀ n < 6, ∀ i < 7, (row n).getD i 0 ≤ (row (n + 1)).getD i 0 := by decide
end Vf

namespace Vf
open PySem PySem.Spec PyProof.Rows L2
/-! ## ranges downwards -/
section
variable {K : PySem.W.Frag} {g : TG} {tb : TS} {D : Ends} {σ : L2.St} {H : Hp}
theorem r_for3 {ta : TA} (h : ta σ H fun vs H1 => ∃ (i j c : Int) (n : Nat), vs = [.int i, .int j, .int c] ∧ RgC i j c n ∧ tFor (fun _ H2 R => R (Itc i c n) H2) g tb D σ H1) : tFor (iRng3 ta) g tb D σ H := h
theorem r_forC {lo c : Int} {n : Nat} (Pv : Nat → L2.St → Hp → Prop) (h0 : Pv 0 σ H)
    (hs : ∀ i σ H, i < n → Pv i σ H → g (.int (lo + (i : Nat) * c)) σ H fun σ2 H2 => tb { D with nx := Pv (i + 1), ct := Pv (i + 1), bk := D.nx } σ2 H2)
    (hd : ∀ σ H, Pv n σ H → D.nx σ H) : tFor (fun _ H2 R => R (Itc lo c n) H2) g tb D σ H := for_rangeC Pv h0 hs hd
end
end Vf

namespace Vf
open PySem PySem.Spec PyProof.Rows L2
/-! ## zip of a tuple and a list -/
def ItTL (K : PySem.W.Frag) (a b : Addr) : It :=
  ⟨fun i H => ∃ (xs ys : List V), (SqT K H a xs ∧ SqL K H b ys) ∧ i < xs.length ∧ i < ys.length,
   fun i H v H' => ∃ T x y, v = .ref T ∧ H T = none ∧ H' = upd H T (.tup [x, y]) ∧ (∀ xs, SqT K H a xs → xs[i]? = some x) ∧ ∀ ys, SqL K H b ys → ys[i]? = some y,
   fun i H => ∃ (xs ys : List V), (SqT K H a xs ∧ SqL K H b ys) ∧ (i ≤ xs.length ∧ i ≤ ys.length) ∧ (i = xs.length ∨ i = ys.length)⟩
structure Five (u TI TO i1 i2 a b : Addr) : Prop where
  ap : u ≠ TI ∧ u ≠ TO ∧ u ≠ i1 ∧ u ≠ i2 ∧ TI ≠ TO ∧ TI ≠ i1 ∧ TI ≠ i2 ∧ TO ≠ i1 ∧ TO ≠ i2 ∧ i1 ≠ i2
  a0 : a ≠ u ∧ a ≠ TI ∧ a ≠ TO ∧ a ≠ i1 ∧ a ≠ i2
  b0 : b ≠ u ∧ b ≠ TI ∧ b ≠ TO ∧ b ≠ i1 ∧ b ≠ i2
theorem Five.sep {u TI TO i1 i2 a b : Addr} (S : Five u TI TO i1 i2 a b) : ZipSep2 u TI TO i1 i2 [i1, a] [i2, b] := by
  obtain ⟨⟨s1, s2, s3, s4, s5, s6, s7, s8, s9, s10⟩, ⟨a1, a2, a3, a4, a5⟩, ⟨b1, b2, b3, b4, b5⟩⟩ := S
  constructor <;> simp [*, Ne.symm s1, Ne.symm s2, Ne.symm s3, Ne.symm s4, Ne.symm s5, Ne.symm s8, Ne.symm s9, Ne.symm s10, Ne.symm a1, Ne.symm a3, Ne.symm a4, Ne.symm a5, Ne.symm b1, Ne.symm b3, Ne.symm b4, Ne.symm b5]
def ZTL (u TI TO i1 i2 a b : Addr) (i : Nat) (h : Heap) : Prop :=
  IsZip h u TI TO .none ∧ IsTupOf2 h TI (.ref i1) (.ref i2) ∧ (∃ x y, IsTupOf2 h TO x y) ∧ h.IsTupleIter i1 a i ∧ h.IsListIter i2 b i
theorem turn_zipTL {P : Program} {w : World} {K : PySem.W.Frag} {elts : List Expr} {kk : Nat} {tpos : Pos} {u TI TO i1 i2 a b : Addr} (S : Five u TI TO i1 i2 a b) :
    Turn P w K (.Tuple elts kk tpos) (ItTL K a b) [u, TI, TO, i1, i2] u (ZTL u TI TO i1 i2 a b) where
  mem := List.mem_cons_self
  obj := fun i h st d hd => by
    obtain ⟨zz, ti, ⟨x, y, to⟩, ⟨o1, e1, _, d1⟩, ⟨o2, e2, _, d2⟩⟩ := st
    simp only [List.mem_cons, List.not_mem_nil, or_false] at hd
    rcases hd with e | e | e | e | e
    · subst e; exact ⟨_, zz, fun v q => nomatch q⟩
    · subst e; exact ⟨_, ti, fun v q => nomatch q⟩
    · subst e; exact ⟨_, to, fun v q => nomatch q⟩
    · subst e; exact ⟨o1, e1, fun v q => by rw [d1] at q; cases q⟩
    · subst e; exact ⟨o2, e2, fun v q => by rw [d2] at q; cases q⟩
  keep := fun i h h' st k => by
    obtain ⟨zz, ti, ⟨x, y, to⟩, h1, h2⟩ := st
    exact ⟨k u (by simp) _ zz, k TI (by simp) _ ti, ⟨x, y, k TO (by simp) _ to⟩, h1.at fun o q => k i1 (by simp) o q, h2.at fun o q => k i2 (by simp) o q⟩
  item := by
    intro X hP hw hK hc i pins s σ H E I hf st hg
    subst hP hw hK
    obtain ⟨zz, ti, ⟨x0, y0, to⟩, h1, h2⟩ := st
    obtain ⟨xs, ys, ⟨qx, qy⟩, lx, ly⟩ := hg
    obtain ⟨v1, r1, t1, _⟩ := I.tuple qx
    obtain ⟨v2, r2, t2, _⟩ := I.list qy
    obtain ⟨y1, g1, w1⟩ := r1.get (List.getElem?_eq_getElem lx)
    obtain ⟨y2, g2, w2⟩ := r2.get (List.getElem?_eq_getElem ly)
    have n1 := r1.length
    have n2 := r2.length
    have hd := I.ok.hd hc
    have b0 : u < s.heap.objs.size := Heap.lt_size zz
    have bI : TI < s.heap.objs.size := Heap.lt_size ti
    have bO : TO < s.heap.objs.size := Heap.lt_size to
    have b1 : i1 < s.heap.objs.size := by
      obtain ⟨_, q, _⟩ := h1
      exact Heap.lt_size q
    have b2 : i2 < s.heap.objs.size := by
      obtain ⟨_, q, _⟩ := h2
      exact Heap.lt_size q
    refine wpAny_pyNext_zipD2_item S.sep (drawsT (A := X.A.in1) hd i1 a S.a0.2.2.2.1 v1.toArray) (Draws.list (A := X.A.in1) hd i2 b S.b0.2.2.2.2 v2.toArray)
      zz ti to ⟨h1, t1⟩ ⟨h2, t2.isList⟩ (by simp; omega) (by simp; omega) fun x1 x2 m tk p1 p2 zz' to' st1 st2 np sz kp => ?_
    obtain rfl : y1 = x1 := by
      have : v1[i]? = some x1 := by simpa using p1
      rw [g1] at this
      exact Option.some.inj this
    obtain rfl : y2 = x2 := by
      have : v2[i]? = some x2 := by simpa using p2
      rw [g2] at this
      exact Option.some.inj this
    refine ⟨_, rfl, wpAny_letOwnedTupleGo_zip (s := { s with heap := m, toks := tk }) zz' fun m2 zz2 sb => ?_⟩
    have np2 : IsTupOf2 m2 s.heap.objs.size y1 y2 := (sb.2 _ (Nat.ne_of_gt b0)).trans np
    have fresh : ObjOk X.prog X.w (upd H s.heap.objs.size (.tup [xs[i], ys[i]])) m2 s.heap.objs.size (.tup [xs[i], ys[i]]) :=
      ⟨by show 2 ≤ sizeLine; decide, [y1, y2], .cons w1 (.cons w2 .nil), ⟨_, np2, rfl, _, rfl⟩⟩
    have stay : ∀ d o, d ∉ [u, TI, TO, i1, i2] → s.heap.get? d = some o → m2.get? d = some o := fun d o hb q =>
      (sb.2 d (fun e => hb (by simp [e]))).trans (kp d o (fun e => hb (by simp [e])) (fun e => hb (by simp [e])) (fun e => hb (by simp [e])) (fun e => hb (by simp [e])) q)
    have I1 := I.turnedNew (t' := tk) (ch := [u, TI, TO, i1, i2]) stay hf (Nat.le_refl _) fresh
    obtain ⟨⟨s1, s2, s3, s4, s5, s6, s7, s8, s9, s10⟩, _, _⟩ := S
    refine ⟨.ref s.heap.objs.size, _, I1, rfl, ⟨_, xs[i], ys[i], rfl, I.hok.fresh (Nat.le_refl _), rfl, fun l hl => by rw [I.tuple_inj hl qx]; exact List.getElem?_eq_getElem lx, fun l hl => by rw [I.list_inj hl qy]; exact List.getElem?_eq_getElem ly⟩,
      ⟨zz2, (sb.2 _ (Ne.symm s1)).trans (kp _ _ (Ne.symm s1) s5 s6 s7 ti), ⟨_, _, (sb.2 _ (Ne.symm s2)).trans to'⟩, st1.1.at fun o q => (sb.2 _ (Ne.symm s3)).trans q, st2.1.at fun o q => (sb.2 _ (Ne.symm s4)).trans q⟩, fun d hdm => ?_⟩
    have lt : d < s.heap.objs.size := by
      have h2 := hdm
      simp only [List.mem_cons, List.not_mem_nil, or_false] at h2
      rcases h2 with e | e | e | e | e <;> (subst e; assumption)
    rw [upd_ne (Nat.ne_of_lt lt)]
    exact (hf d hdm).1
  done := by
    intro X hP hw hK hc i pins s σ H E I hf st hg
    subst hP hw hK
    obtain ⟨zz, ti, ⟨x0, y0, to⟩, h1, h2⟩ := st
    obtain ⟨xs, ys, ⟨qx, qy⟩, ⟨lx, ly⟩, en⟩ := hg
    obtain ⟨v1, r1, t1, _⟩ := I.tuple qx
    obtain ⟨v2, r2, t2, _⟩ := I.list qy
    have n1 := r1.length
    have n2 := r2.length
    have hd := I.ok.hd hc
    refine wpAny_pyNext_zipD2_end S.sep (drawsT (A := X.A.in1) hd i1 a S.a0.2.2.2.1 v1.toArray) (Draws.list (A := X.A.in1) hd i2 b S.b0.2.2.2.2 v2.toArray)
      zz ti to ⟨h1, t1⟩ ⟨h2, t2.isList⟩ (by simp; omega) (by simp; omega) (by simp; omega) fun m tk kp => ⟨rfl, ?_⟩
    exact I.turnedL (t' := tk) (ch := [u, TI, TO, i1, i2]) (fun d o hb q => kp d o (fun e => hb (by simp [e])) (fun e => hb (by simp [e])) (fun e => hb (by simp [e])) (fun e => hb (by simp [e])) q) hf
  self := fun A i s Q E st h => wpAny_pyIter_zip st.1 h
def iZTL (K : PySem.W.Frag) (ta : TA) : TI := fun σ H R => ta σ H fun vs H1 => ∃ a b xs ys, vs = [.ref a, .ref b] ∧ (SqT K H1 a xs ∧ SqL K H1 b ys) ∧ R (ItTL K a b) H1
theorem five_new (n a b : Nat) (ha : a < n) (hb : b < n) : Five (n + 4) (n + 2) (n + 3) n (n + 1) a b := by
  refine ⟨⟨?_, ?_, ?_, ?_, ?_, ?_, ?_, ?_, ?_, ?_⟩, ⟨?_, ?_, ?_, ?_, ?_⟩, ⟨?_, ?_, ?_, ?_, ?_⟩⟩ <;> (show _ ≠ _; intro e; have e2 : (_ : Nat) = _ := e; omega)
theorem i_zipTL {X : Cx} {K : PySem.W.Frag} {e1 e2 : Expr} {ta : TA} {p pos tpos : Pos} {elts : List Expr} {kk : Nat} (ek : X.K = K) (hg : Gl X "zip") (hm : X.mg "zip" = none) (ha : PA X [e1, e2] ta)
    (hs : starEach [e1, e2] X.env = (false, eval e1 X.env) :: starEach [e2] X.env := by rfl) (hp : (backTo pos (starEach [e2] X.env)).any (·.1) = false := by rfl) :
    PI X (.Tuple elts kk tpos) (.Call (.Name "zip" p) [e1, e2] [] pos) (iZTL K ta) := by
  subst ek
  refine ⟨fun pins s σ H R I h => ?_⟩
  refine Call_ (ld_blt I hg hm PyProof.Rows.boot_zip (PyProof.Rows.callWith_type1 (thn (ha.run pos pins s σ H _ I h) fun us s1 ⟨vs, H1, I1, r1, q1⟩ => ?_) hs hp))
  obtain ⟨a, b, xs, ys, rfl, ⟨qx, qy⟩, q⟩ := q1
  obtain ⟨ua, ub, rfl, ra, rb⟩ : ∃ ua ub, us = [ua, ub] ∧ RelV (.ref a) ua ∧ RelV (.ref b) ub := by
    cases r1 with
    | cons r rr =>
      cases rr with
      | cons r' rr =>
        cases rr
        exact ⟨_, _, rfl, r, r'⟩
  cases ra
  cases rb
  obtain ⟨v1, _, t1, _⟩ := I1.tuple qx
  obtain ⟨v2, _, t2, _⟩ := I1.list qy
  have la : a < s1.heap.objs.size := t1.lt
  have lb : b < s1.heap.objs.size := by
    obtain ⟨o, ho, _⟩ := t2.isList
    exact Heap.lt_size ho
  refine zip_begins2 (begins_tuple a v1.toArray) (begins_list b v2.toArray) t1 t2.isList fun m hz hTI hTO g1 g2 hsz hk => wpAny_pyIter_zip hz ?_
  refine ⟨s1.heap.objs.size + 4, [s1.heap.objs.size + 4, s1.heap.objs.size + 2, s1.heap.objs.size + 3, s1.heap.objs.size, s1.heap.objs.size + 1], _, _, H1, rfl, I1.kept (t' := s1.toks) hk,
    turn_zipTL (five_new s1.heap.objs.size a b la lb), ⟨hz, hTI, ⟨_, _, hTO⟩, ⟨_, g1, rfl, rfl⟩, ⟨_, g2, rfl, rfl⟩⟩, fun d hd => ?_, q⟩
  have le : s1.heap.objs.size ≤ d := by
    simp only [List.mem_cons, List.not_mem_nil, or_false] at hd
    rcases hd with e | e | e | e | e <;> subst e
    · exact Nat.le_add_right _ _
    · exact Nat.le_add_right _ _
    · exact Nat.le_add_right _ _
    · exact Nat.le_refl _
    · exact Nat.le_add_right _ _
  exact I1.fpOk le (I1.hok.fresh le)
section
variable {K : PySem.W.Frag} {σ : L2.St} {H : Hp} {Q : VK} {g : TG} {tt : TT} {te : TE} {vs : List Nat}
theorem r_lcTLi {ta : TA} (h : ta σ H fun ws H1 => ∃ a b xs ys, ws = [.ref a, .ref b] ∧ (SqT K H1 a xs ∧ SqL K H1 b ys) ∧ tLc (fun _ H2 R => R (ItTL K a b) H2) g tt te vs σ H1 Q) : tLc (iZTL K ta) g tt te vs σ H Q := h
theorem r_lcTL {a b : Addr} (xs ys : List V) (n : Nat) (nx : xs.length = n) (ny : ys.length = n) (Pv : Addr → Nat → Hp → Prop) (h0 : ∀ D, H D = none → Pv D 0 (upd H D (.lst [])))
    (hl : ∀ D i H', H D = none → i ≤ n → Pv D i H' → SqT K H' a xs ∧ SqL K H' b ys)
    (hs : ∀ D i x y H' T, H D = none → xs[i]? = some x → ys[i]? = some y → Pv D i H' → H' T = none → g (.ref T) (wipe σ vs) (upd H' T (.tup [x, y])) fun σ2 H2 => wipe σ2 vs = wipe σ vs ∧ tt σ2 H2 fun b H3 =>
      if b = true then te σ2 H3 fun y H4 => ∃ acc, H4 D = some (.lst acc) ∧ acc.length < sizeLine ∧ Pv D (i + 1) (upd H4 D (.lst (acc ++ [y]))) else Pv D (i + 1) H3)
    (hd : ∀ D H', H D = none → Pv D n H' → Q (.ref D) H') : tLc (fun _ H2 R => R (ItTL K a b) H2) g tt te vs σ H Q := by
  refine fun D hD => ⟨fun i m H => m = n - i ∧ i ≤ n ∧ Pv D i H, ⟨n, by omega, Nat.zero_le _, h0 D hD⟩, ?_⟩
  rintro i m H' ⟨rfl, hi, p⟩
  obtain ⟨qx, qy⟩ := hl D i H' hD hi p
  by_cases lt : i < n
  · refine Or.inr ⟨⟨xs, ys, ⟨qx, qy⟩, by omega, by omega⟩, Pv D (i + 1), fun H' p' => ⟨n - (i + 1), by omega, rfl, lt, p'⟩, fun v H'' yy => ?_⟩
    obtain ⟨T, x, y, rfl, nT, rfl, f1, f2⟩ := yy
    exact hs D i x y H' T hD (f1 xs qx) (f2 ys qy) p nT
  · have e : i = n := by omega
    subst e
    exact Or.inl ⟨⟨xs, ys, ⟨qx, qy⟩, ⟨by omega, by omega⟩, .inl (by omega)⟩, hd D H' hD p⟩
end
/-- an item of a list or a tuple -/
theorem x_seq {X : Cx} {K : PySem.W.Frag} (e : X.K = K) : IxR X (rIx K) := by subst e; exact ix_seq
/-- a walk of a list with its places -/
theorem r_forEnL {K : PySem.W.Frag} {g : TG} {tb : TS} {D : Ends} {σ : L2.St} {H : Hp} {a : Addr} (xs : List V) (Pv : Nat → L2.St → Hp → Prop) (h0 : Pv 0 σ H) (hl : ∀ i σ H, i ≤ xs.length → Pv i σ H → SqL K H a xs)
    (hs : ∀ i x σ H T, xs[i]? = some x → Pv i σ H → H T = none → g (.ref T) σ (upd H T (.tup [.int (i : Nat), x])) fun σ2 H2 => tb { D with nx := Pv (i + 1), ct := Pv (i + 1), bk := D.nx } σ2 H2)
    (hd : ∀ σ H, Pv xs.length σ H → D.nx σ H) : tFor (fun _ H2 R => R (Ite K a) H2) g tb D σ H := by
  refine ⟨fun i m σ H => m = xs.length - i ∧ i ≤ xs.length ∧ Pv i σ H, ⟨xs.length, by omega, Nat.zero_le _, h0⟩, ?_⟩
  rintro i m σ H ⟨rfl, hi, p⟩
  have q := hl i σ H hi p
  by_cases lt : i < xs.length
  · refine Or.inr ⟨⟨xs, xs[i], q, by simp [lt]⟩, Pv (i + 1), fun σ' H' p' => ⟨xs.length - (i + 1), by omega, rfl, lt, p'⟩, fun x H' y => ?_⟩
    obtain ⟨T, z, rfl, nT, rfl, fz⟩ := y
    exact hs i z σ H T (fz xs q) p nT
  · have e : i = xs.length := by omega
    subst e
    exact Or.inl ⟨⟨xs, q, Nat.le_refl _⟩, hd σ H p⟩
theorem r_forEi {K : PySem.W.Frag} {g : TG} {tb : TS} {D : Ends} {σ : L2.St} {H : Hp} {ta : TA} (h : ta σ H fun vs H1 => ∃ a xs, vs = [.ref a] ∧ SqL K H1 a xs ∧ tFor (fun _ H2 R => R (Ite K a) H2) g tb D σ H1) : tFor (iEnum K ta) g tb D σ H := h
/-- a list or a tuple -/
def SqS (K : PySem.W.Frag) (H : Hp) (a : Addr) (xs : List V) : Prop := SqT K H a xs ∨ SqL K H a xs
theorem r_ixS {K : PySem.W.Frag} {H : Hp} {Q : VK} {a : Addr} {xs : List V} {k : Int} {v : V} (h1 : SqS K H a xs) (h2 : atI xs k = some v) (h : Q v H) : rIx K (.ref a) (.int k) H Q := by
  rcases h1 with h1 | h1
  · exact .inr (.inl (r_ixT h1 h2 h))
  · exact .inl (r_ixL h1 h2 h)
theorem tru_seq {K : PySem.W.Frag} {H : Hp} {a : Addr} {xs : List V} {R : Bool → Prop} (hs : SqS K H a xs) (h : R (!xs.isEmpty)) : ∃ k, TruV K (.ref a) H k ∧ R k := by
  rcases hs with h1 | h1
  · exact tru_tup h1 h
  · exact tru_list h1 h
theorem r_lenS {K : PySem.W.Frag} {H : Hp} {Q : VK} {a : Addr} {xs : List V} (hs : SqS K H a xs) (h : Q (.int xs.length) H) : rLenQ K [.ref a] H Q := by
  rcases hs with h1 | h1
  · exact r_lenT h1 h
  · exact r_lenL h1 h
end Vf

namespace Vf
open PySem PySem.Spec PyProof.Rows L2
/-! ## t + u and slices of tuples, of any length -/
section
variable {X : Cx} {K : PySem.W.Frag}
theorem o_catA (e : X.K = K) : OpR X (binaryOp .Add) (rCatA K) := by subst e; exact op_catA
theorem s_tupA (e : X.K = K) : SlR X (rSlA K) := by subst e; exact sl_tupA
end
section
variable {K : PySem.W.Frag} {H : Hp} {Q : VK}
theorem r_catA {a b : Addr} {xs ys : List V} (h1 : SqT K H a xs) (h2 : SqT K H b ys) (hl : xs.length + ys.length ≤ 1000) (h : ∀ p H', Same H H' → SqT K H' p (xs ++ ys) → Q (.ref p) H') : rCatA K (.ref a) (.ref b) H Q := by
  refine ⟨a, b, xs, ys, rfl, rfl, h1, h2, small (Nat.le_trans hl (by decide)), fun e => ?_, fun _ e => ?_, fun _ _ p hp => ?_⟩
  · subst e
    exact h b H (Same.refl _) h2
  · subst e
    exact h a H (Same.refl _) (by rw [List.append_nil]; exact h1)
  · exact h p _ (Same.new hp) (SqT.of upd_same)
theorem r_slA {a : Addr} {xs : List V} {lo hi : Option Int} (h1 : SqT K H a xs) (h : ∀ p H', Same H H' → SqT K H' p (cutV xs lo hi) → Q (.ref p) H') : rSlA K (.ref a) lo hi H Q := by
  refine ⟨a, xs, rfl, h1, fun e => ?_, fun _ p hp => ?_⟩
  · have : cutV xs lo hi = xs := by
      unfold cutV
      rw [e.1, e.2, Nat.sub_zero, List.drop_zero, List.take_length]
    exact h a H (Same.refl _) (by rw [this]; exact h1)
  · exact h p _ (Same.new hp) (SqT.of upd_same)
theorem r_eqT {a b : Addr} (ns ms : List Int) (h1 : SqT K H a (ns.map V.int)) (h2 : SqT K H b (ms.map V.int)) (h : Q (.bl (decide (ns = ms))) H) : rEqD K (.ref a) (.ref b) H Q := by
  refine r_eqD (Dp.tupD h1) (Dp.tupD h2) (shapedTup ns) (shapedTup ms) ?_
  rw [show PyData.eqv (tupD ns) (tupD ms) = decide (ns = ms) from eqvInts ns ms]
  exact h
end
end Vf

namespace Vf
open PySem PySem.Spec PyProof.Rows L2
/-! ## how many unlike integers a list holds: by a set, by a dict's keys -/
theorem met_len (f : Nat → Int) : ∀ i, (firstMet f i).length ≤ i ∧ ((firstMet f i).length = i ↔ ∀ a < i, ∀ b < i, f a = f b → a = b)
  | 0 => ⟨Nat.le_refl _, ⟨fun _ a ha => absurd ha (by omega), fun _ => rfl⟩⟩
  | i + 1 => by
    obtain ⟨h1, h2⟩ := met_len f i
    rw [firstMet_succ, step_length]
    have hm : (firstMet f i).any (· == f i) = true ↔ ∃ a < i, f a = f i := by
      rw [firstMet_any]
      simp
    by_cases c : (firstMet f i).any (· == f i) = true
    · rw [if_pos c]
      refine ⟨by omega, fun e => absurd e (by omega), fun e => ?_⟩
      obtain ⟨a, ha, ea⟩ := hm.mp c
      have := e a (by omega) i (by omega) ea
      omega
    · rw [if_neg c]
      refine ⟨by omega, fun e a ha b hb eab => ?_, fun e => ?_⟩
      · have e1 := h2.mp (by omega)
        by_cases ca : a = i
        · by_cases cb : b = i
          · omega
          · rw [ca] at eab
            exact absurd (hm.mpr ⟨b, by omega, eab.symm⟩) c
        · by_cases cb : b = i
          · rw [cb] at eab
            exact absurd (hm.mpr ⟨a, by omega, eab⟩) c
          · exact e1 a (by omega) b (by omega) eab
      · have := h2.mpr fun a ha b hb => e a (by omega) b (by omega)
        omega
def rSetLi (K : PySem.W.Frag) : List V → Hp → VK → Prop := fun xs H Q => ∃ (l : Addr) (ns : List Int), xs = [.ref l] ∧ SqL K H l (ns.map V.int) ∧ ns.length ≤ 4000 ∧
  ∀ p S c, H p = none → c ≤ ns.length → (c = ns.length ↔ ∀ a < ns.length, ∀ b < ns.length, ns.getD a 0 = ns.getD b 0 → a = b) → Q (.ref p) (upd H p (.set S c))
def rLenSe : List V → Hp → VK → Prop := fun xs H Q => ∃ (a : Addr) (S : Int → Bool) (c : Nat), xs = [.ref a] ∧ H a = some (.set S c) ∧ c ≤ 5000 ∧ Q (.int (c : Int)) H
def rLenDk : List V → Hp → VK → Prop := fun xs H Q => ∃ a kvs, xs = [V.ref a] ∧ H a = some (.dK kvs) ∧ Q (.int kvs.length) H
section
variable {X : Cx} {K : PySem.W.Frag}
theorem cr_setLi (hc : X.calm = true) : CallR X (.type "set") (rSetLi X.K) := by
  intro pins s σ H xs us Q I r h
  obtain ⟨l, ns, rfl, hs, hl, q⟩ := h
  obtain ⟨u, rfl, ru⟩ := vals1 r
  cases ru
  obtain ⟨its, rv, pl, hz⟩ := I.list hs
  have hlen : its.toArray.size = ns.length := by rw [List.size_toArray, ← rv.length, List.length_map]
  refine call_set_list (I.ok.hd hc) pl.isList (ns := ns) (by simpa using RZ.intsAre_vals rv) (by rw [hlen]; unfold scanBound; omega) fun h' tk hS hk => ?_
  obtain ⟨m1, m2⟩ := met_len (fun i => ns.getD i 0) its.toArray.size
  refine ⟨.ref s.heap.objs.size, _, I.laid (t' := tk) (o := .set _ _) (fun b u e => hk b u (Heap.lt_size e) e) (Nat.le_refl _) hS, rfl, q _ _ _ (I.hok.fresh (Nat.le_refl _)) (by rw [← hlen]; exact m1) ?_⟩
  rw [← hlen]
  exact m2
theorem cr_lenSe : CallR X (.builtin "len") rLenSe := by
  intro pins s σ H xs us Q I r h
  obtain ⟨a, S, c, rfl, ha, hc, q⟩ := h
  obtain ⟨u, rfl, ru⟩ := vals1 r
  cases ru
  obtain ⟨o, es, ep, t, ho, hex, hd, _, _, _, hf, hn⟩ := I.hok a _ ha
  exact call_len_set ho hex hd hf (by rw [hn]; omega) ⟨.int c, H, I.tok _, ⟨_, by rw [hn]⟩, q⟩
theorem cr_lenDk : CallR X (.builtin "len") rLenDk := call_lenD
theorem c_setLi (e : X.K = K) (hc : X.calm = true) : CallR X (.type "set") (rSetLi K) := by subst e; exact cr_setLi hc
end
section
variable {K : PySem.W.Frag} {H : Hp} {Q : VK}
theorem r_setLi {l : Addr} (ns : List Int) (h1 : SqL K H l (ns.map V.int)) (h2 : ns.length ≤ 4000) (h : ∀ p S c, H p = none → c ≤ ns.length → (c = ns.length ↔ ∀ a < ns.length, ∀ b < ns.length, ns.getD a 0 = ns.getD b 0 → a = b) → Q (.ref p) (upd H p (.set S c))) : rSetLi K [.ref l] H Q := ⟨l, ns, rfl, h1, h2, h⟩
theorem r_lenSe {a : Addr} {S : Int → Bool} {c : Nat} (h : H a = some (.set S c)) (hc : c ≤ 5000) (q : Q (.int (c : Int)) H) : rLenSe [.ref a] H Q := ⟨a, S, c, rfl, h, hc, q⟩
theorem r_lenDk {a : Addr} {kvs : List (Key × V)} (h : H a = some (.dK kvs)) (q : Q (.int kvs.length) H) : rLenDk [.ref a] H Q := ⟨a, kvs, rfl, h, q⟩
end
/-! ## x = {k: v for ..} -/
section
variable {X : Cx}
theorem sw_dict {kx vx : Expr} {gs : List Comprehension} {scope : Scope} {pos py : Pos} {y : Str} {l : Nat} {env : Env} (h1 : env.scope.kind = .function) (h2 : env.scope.names.lookup y = some .local) (h3 : (py.line == pos.line) = true)
    (h4 : (scope.names.any fun (n, k) => n == y && (k == .local || k == .cell)) = false) : swapsWith (.DictComp kx vx gs scope pos) (some (.Name y py)) l env = pure true := by
  have a : env.kindOf y = some .local := h2
  have b : env.blockKind = .function := by
    unfold Env.blockKind
    rw [h1]
    rfl
  unfold swapsWith
  simp only [a, b, h4, Expr.pos, h3]
  rfl
theorem ps_setDc {i : Nat} {y : Str} {py : Pos} {kx vx tg iter : Expr} {ifs : List Expr} {scope : Scope} {own : List (Str × Nat)} {pos spos : Pos} {wi : TI} {g : TG} {tt : TT} {tk tv : TE} (calm : X.calm = true) (nd : X.N.Nodup) (at_i : X.N[i]? = some y) (loc : X.env.scope.names.lookup y = some .local)
    (sw : swapsWith (.DictComp kx vx [⟨tg, iter, ifs, 0⟩] scope pos) (some (.Name y py)) spos.line X.env = pure true) (it : PI X tg iter wi) (blk : BlkOk X.N X.env.scope scope own)
    (pg : ∀ (s : Shared) (H : Hp) (C : Addr) (cl : List (Str × Addr)) (fp : List Addr), PG (X.blk s H scope (compEnvC scope cl C X.env) fp) tg g) (pt : ∀ (s : Shared) (H : Hp) (C : Addr) (cl : List (Str × Addr)) (fp : List Addr), PTs (X.blk s H scope (compEnvC scope cl C X.env) fp) ifs tt)
    (pk : ∀ (s : Shared) (H : Hp) (C : Addr) (cl : List (Str × Addr)) (fp : List Addr), PE (X.blk s H scope (compEnvC scope cl C X.env) fp) kx tk) (pv' : ∀ (s : Shared) (H : Hp) (C : Addr) (cl : List (Str × Addr)) (fp : List Addr), PE (X.blk s H scope (compEnvC scope cl C X.env) fp) vx tv)
    (fold : ∀ x, foldedSetIterable iter X.env x = pure x := by intro _; rfl) :
    PS X (.Assign [.Name y py] (.DictComp kx vx [⟨tg, iter, ifs, 0⟩] scope pos) spos) (tAsg (tDc wi g tt tk tv (own.map (·.2))) (gName i)) := by
  refine ⟨fun pins s σ H D I h => ?_⟩
  rw [exec_Assign_Name_used _ _ _ _ sw]
  refine wpAny_bind (wpAny_standAt (wpAny_bind ?_))
  show wpAny _ X.A (do let _ ← comprehension (.DictComp kx vx [⟨tg, iter, ifs, 0⟩] scope pos) scope X.env (firstIterPos [⟨tg, iter, ifs, 0⟩] pos) newDict false (eval iter X.env) (some (assign (.Name y py) X.env))) _ _ s
  have dc := dc_core (pos := pos) (Qf := fun _ s' => SP X pins D .next s') (Q := fun x H1 => gName i x σ H1 D.nx) (use := some (assign (.Name y py) X.env)) (pos' := firstIterPos [⟨tg, iter, ifs, 0⟩] pos) calm nd I it blk pg pt pk pv' fold h
  refine wpAny_bind (thn (dc fun L C s' m H' J q hn fp => ?_) fun _ s' hq => wpAny_pure (wpAny_pure hq))
  show wpAny _ _ (assign (.Name y py) X.env (.ref L)) _ _ _
  refine wpAny_assign_Name (store_ok2 (v := V.ref L) J nd at_i (.inl loc) rfl (fun s2 J2 hst => ?_) (.inr loc))
  obtain ⟨a, sb, ha⟩ := hst
  obtain ⟨g0, g1, g2, g3, g4, g5⟩ := fp
  have ne : C ≠ a := ha.elim (fun z => z ▸ g1) (fun z e => g4 y a z e.symm)
  exact ⟨m, hn.sameBut sb ne, fun h3 sb3 => ⟨_, H', J2.turned (t' := s2.toks) (fun b o hb e => (sb3.2 b hb).trans e) g0 g1 g3 g4 g5, q⟩⟩
end
end Vf

namespace Vf
open PySem PySem.Spec PyProof.Rows L2
/-! ## an own exception class over any built-in one, its fields stored by its __init__ -/
structure EC (K : PySem.W.Frag) (C : Addr) (tail : List Value) (nid : String) : Prop where
  cl : ∃ nm q N bs bm sn sub ab col dd k0 k1 k2 k3 k5,
    K.lookup C = some (excClassObj nm q C N bs bm true sn sub ab col dd k0 k1 k2 k3 k5 nid) ∧ PySem.W.excTail tail bm = true
  st : PySem.W.findIn K (.ref C) "__setattr__" = some (some (.builtin "object.__setattr__"))
  xf : XfC K C
  tt : PySem.W.typeIn K (.ref C) = some (.type "type")
  kk : PySem.W.keepIn K (.ref C) = true
theorem EC.over {K : PySem.W.Frag} {C : Addr} {tail : List Value} {nid : String} (T : EC K C tail nid) : PySem.W.excOver K C tail = true := by
  obtain ⟨nm, q, N, bs, bm, sn, sub, ab, col, dd, k0, k1, k2, k3, k5, hC, hb⟩ := T.cl
  unfold PySem.W.excOver PySem.W.clsIn
  rw [hC]
  show ((C == C) && PySem.W.excTail tail bm) = true
  rw [hb, beq_self_eq_true, Bool.and_self]
theorem taker_none {K : PySem.W.Frag} {C : Addr} {f : Str} (h : PySem.W.findIn K (.ref C) f = some none) : PySem.W.takerIn K C f = some none := by
  unfold PySem.W.takerIn
  rw [h] <;> rfl
/-- what of the built-in base the stores want -/
abbrev SFa (B : String) (tail : List Value) := StoreFacts B tail "object.__setattr__" "object"
section
variable {X : Cx} {pins : List (Addr × Obj)} {σ : L2.St} {H : Hp} {s : Shared} {a C dx : Addr} {f : Str} {y : V} {u : Value} {fs : List (Str × V)}
variable {Q : Unit → Shared → Prop} {E : Value → Shared → Prop} {A : Around} {B nid iid : String} {tail : List Value}
/-- self.f = y on an exception without a dict -/
theorem est_new (T : EC X.K C tail nid) (SF : SFa B tail) (I : Inv X pins σ H s) (e : H a = some (exo a C none)) (hno : PySem.W.findIn X.K (.ref C) f = some none) (ry : RelV y u)
    (h : ∀ dx s', H dx = none → dx ≠ a → Inv X pins σ (upd (upd H dx (exd dx [(f, y)])) a (exo a C (some dx))) s' → Q () s') :
    wpAny (model X.prog X.w) A (setAttr (.ref a) f u) Q E s := by
  obtain ⟨t1, ho⟩ := exo_at I.hok e
  obtain ⟨hp, g, d, t, os⟩ := s
  have hx : hp.get? a = some (PySem.W.excObj C t1 none .none) := ho
  refine PySem.W.set_plain (od := none) I.kIn ⟨hx, rfl, rfl, trivial⟩ T.st ?_
  refine PySem.W.osa_openX (od := none) (r := none) SF I.kIn ⟨hx, rfl, rfl, trivial⟩ T.over (taker_none hno) fun b => ?_
  obtain ⟨cd, hc, hd'⟩ := PySem.W.any_some T.xf.hdC
  have ltA : a < hp.objs.size := Heap.lt_size hx
  refine wpAny_bind (wpAny_pure (wpAny_bind (PySem.W.instanceDict_exc hx (PySem.W.looks_clsIn I.kIn hc) hd' ?_)))
  show wpAny _ _ (Builtin.ObjectAttr.storeInDict hp.objs.size (.str f _) f u) _ _ _
  have nax : a ≠ hp.objs.size := Nat.ne_of_lt ltA
  have xN : ((hp.push (PySem.W.dictOf [] 0)).update a fun o => { o with dict := some hp.objs.size }).get? a = some (PySem.W.excObj C t1 (some hp.objs.size) .none) :=
    Heap.get?_update_self _ (Heap.get?_push_of_some _ hx) rfl
  refine PySem.HandSPX.store_in_new ⟨PySem.W.dictOf [] 0, #[], _, (Heap.get?_update_ne _ _ _ _ nax.symm).trans (Heap.get?_push_at rfl rfl), rfl, fun e he => absurd he (by simp), fun _ => rfl⟩ fun h' tk' hn sb => ?_
  have k : ∀ b o, b ≠ a → hp.get? b = some o → h'.get? b = some o := fun b o hb ob =>
    (sb.2 b (Nat.ne_of_lt (Heap.lt_size ob))).trans ((Heap.get?_update_ne _ _ _ _ hb).trans (Heap.get?_push_of_some _ ob))
  have xE : h'.get? a = some (PySem.W.excObj C t1 (some hp.objs.size) .none) := (sb.2 a nax).trans xN
  have hnd : H hp.objs.size = none := I.hok.fresh (Nat.le_refl _)
  have nD : ∀ {b : Addr} {o : Obj}, hp.get? b = some o → b ≠ hp.objs.size := fun {b o} q => Nat.ne_of_lt (Heap.lt_size q)
  have nA : ∀ {b : Addr}, H b = none → b ≠ a := fun {b} n z => by
    rw [z, e] at n
    cases n
  have oT : ∀ {b : Addr} {o : HO}, H b = some o → exo a C none ≠ o → upd (upd H hp.objs.size (exd hp.objs.size [(f, y)])) a (exo a C (some hp.objs.size)) b = some o := fun {b o} q ne => by
    rw [upd_ne (L2.at_ne e q ne), upd_ne (ne_of_none q hnd)]
    exact q
  have U : Un X.fs [] H (upd (upd H hp.objs.size (exd hp.objs.size [(f, y)])) a (exo a C (some hp.objs.size))) hp h' := by
    refine ⟨fun b o q n _ _ => k b o (nA n) q, fun b o q n _ _ => ⟨o.slots, k b o (nA n) q⟩, fun b o q n _ => ?_, fun b o q _ => ?_, fun b xs q => oT q exo_tup, fun b o v q => oT q exo_frz, fun b ps q => ⟨#[], ?_⟩⟩
    · rw [upd_ne (nA n), upd_ne (nD q)]
      exact n
    · by_cases hb : b = a
      · rw [hb]
        exact ⟨_, xE⟩
      · exact ⟨o, k b o hb q⟩
    · rw [oT q exo_tbl, Array.append_empty]
  refine h hp.objs.size _ hnd nax.symm (I.un (t' := tk') U fun b o q => ?_)
  by_cases hb : b = a
  · rw [hb, upd_same] at q
    cases q
    rw [hb]
    exact exo_ok xE
  · rw [upd_ne hb] at q
    by_cases hd : b = hp.objs.size
    · rw [hd, upd_same] at q
      cases q
      rw [hd]
      exact exd_ok hn (relO_put (fs := []) ry fun g => True.intro)
    · rw [upd_ne hd] at q
      refine (I.hok b o q).stay (fun c v hc z => k c v ?_ z) (fun c hc => oT hc exo_own) fun c xs hc => oT hc exo_tup
      rcases hc with hc | hc
      · rw [hc]
        exact hb
      · exact L2.at_ne e hc exo_own
/-- a further one -/
theorem est_old (T : EC X.K C tail nid) (SF : SFa B tail) (I : Inv X pins σ H s) (e : H a = some (exo a C (some dx))) (ed : H dx = some (exd dx fs)) (hl : fs.length ≤ 900)
    (hno : PySem.W.findIn X.K (.ref C) f = some none) (ry : RelV y u) (h : ∀ s', Inv X pins σ (upd H dx (exd dx ((f, y) :: fs))) s' → Q () s') :
    wpAny (model X.prog X.w) A (setAttr (.ref a) f u) Q E s := by
  obtain ⟨t1, ho⟩ := exo_at I.hok e
  obtain ⟨mA, hns, rel⟩ := exd_at I.hok ed
  have hw := within_of rel
  obtain ⟨hp, g, d, t, os⟩ := s
  obtain ⟨oD, _, _, hoD, _, _⟩ := hns.count hw
  have hx : hp.get? a = some (PySem.W.excObj C t1 (some dx) .none) := ho
  refine PySem.W.set_plain (od := some oD) I.kIn ⟨hx, rfl, rfl, hoD⟩ T.st ?_
  refine PySem.W.osa_openX (od := some oD) (r := none) SF I.kIn ⟨hx, rfl, rfl, hoD⟩ T.over (taker_none hno) fun b => ?_
  obtain ⟨cd, hc, hd'⟩ := PySem.W.any_some T.xf.hdC
  refine wpAny_bind (wpAny_pure (wpAny_bind (wpAny_bind (wpAny_loadPart hx (wpAny_bind ((PySem.W.looks_clsIn I.kIn hc).at ?_))))))
  rw [hd']
  refine wpAny_pure (a := some dx) ?_
  refine PySem.OEX.store_in_old hns hw (by rw [List.length_map]; omega) fun h' tk' hn sb => ?_
  have there : ∃ o, h'.get? dx = some o := by
    obtain ⟨o, _, _, e', _⟩ := hn
    exact ⟨o, e'⟩
  exact h _ (I.write (t' := tk') (x := dx) (e := dx) (o := exd dx ((f, y) :: fs)) (by rw [ed]; exact True.intro) (.inl rfl) (fun b o hb ob => (sb.2 b hb).trans ob) there (exd_ok hn (relO_put ry rel)))
end
/-- what the making of an exception at C asks of its arguments -/
def MkB (C : Addr) (sp : Sp) (vs : List V) (H1 : Hp) (Q : XK) : Prop := vs.length ≤ 1000 ∧ ∀ a, H1 a = none → sp (.ref a :: vs) (upd H1 a (exo a C none))
  (fun v H2 => v = .non ∧ ∃ (d : Addr) (fs : List (Str × V)), H2 a = some (exo a C (some d)) ∧ H2 d = some (exd d fs) ∧ H1 d = none ∧ Q (.ref C) (some d) (upd (del H2 a) d (.xd fs)))
  (fun _ _ _ => False)
/-- self.f = e, in the __init__ of the class at C -/
def tEst (C : Addr) (f : Str) (to te : TE) : TS := fun D σ H => te σ H fun y H1 => to σ H1 fun x H2 => ∃ a : Addr, x = .ref a ∧
  ((H2 a = some (exo a C none) ∧ ∀ dx, H2 dx = none → dx ≠ a → D.nx σ (upd (upd H2 dx (exd dx [(f, y)])) a (exo a C (some dx)))) ∨
    ∃ (dx : Addr) (fs : List (Str × V)), H2 a = some (exo a C (some dx)) ∧ H2 dx = some (exd dx fs) ∧ fs.length ≤ 900 ∧ D.nx σ (upd H2 dx (exd dx ((f, y) :: fs))))
section
variable {X : Cx} {o e : Expr} {es : List Expr} {to te : TE} {ta : TA} {f : Str} {p p' p1 p2 pos : Pos} {C : Addr} {B nid iid : String} {tail : List Value}
theorem ps_est (T : EC X.K C tail nid) (SF : SFa B tail) (hno : PySem.W.findIn X.K (.ref C) f = some none) (ho : PE X o to) (he : PE X e te)
    (hs : swapsWith e (some (.Attribute o f p')) pos.line X.env = pure false := by rfl) : PS X (.Assign [.Attribute o f p'] e pos) (tEst C f to te) := by
  refine ⟨fun pins s σ H D I h => ?_⟩
  refine plainObj_wpAny_Assign_Attribute (thn (he.run pins s σ H _ I h) fun v s1 ⟨y, H1, I1, r1, q1⟩ => ?_) hs
  refine thn (ho.run pins s1 σ H1 _ I1 q1) fun u s2 ⟨x, H2, I2, r2, a, ex, q⟩ => ?_
  subst ex
  obtain rfl : u = Value.ref a := r2
  rcases q with ⟨ea, q⟩ | ⟨dx, fs, ea, ed, hl, q⟩
  · exact est_new T SF I2 ea hno r1 fun dx s' n ne J => ⟨σ, _, J, q dx n ne⟩
  · exact est_old T SF I2 ea ed hl hno r1 fun s' J => ⟨σ, _, J, q⟩
/-- C(e, ..): an exception is made, its __init__ being known -/
theorem pmk_ec {CX : CXT} {x : Str} {fI : Addr} {k : Nat} {fd : FuncData} {ps : List Str} {sp : Sp} (T : EC X.K C tail nid) (EB : ExcBaseFacts B nid iid tail)
    (iC : PySem.W.findIn X.K (.ref C) "__init__" = some (some (.ref fI))) (tI : PySem.W.typeIn X.K (.ref fI) = some (.type "function"))
    (F1 : FnOk X.prog X.w X.K X.mg X.base CX k fI fd ps sp) (hr : Room (k + 1) X.A) (hb : Binds X.K fd ps []) (hx : Passes CX X (fun _ _ _ => False)) (hg : Gl X x) (hm : X.mg x = some (.ref C)) (ha : PA X (e :: es) ta)
    (hdb : (x == ("__debug__" : Str)) = false := by decide) (he : starEach (e :: es) X.env = (false, eval e X.env) :: starEach es X.env := by rfl)
    (hpl : (backTo pos (starEach es X.env)).any (·.1) = false := by rfl) {R : List V → Hp → XK → Prop} (hR : ∀ vs H1 Q, R vs H1 Q → MkB C sp vs H1 Q) :
    PMk X (.Call (.Name x p) (e :: es) [] pos) (fun σ H Q => ta σ H fun vs H1 => R vs H1 Q) := by
  intro pins s σ H Q I h
  obtain ⟨nm, q, N, bs, bm, sn, sub, ab, col, dd, k0, k1, k2, k3, k5, hC, hbm⟩ := T.cl
  refine wpAny_Call_Name_kw (ld_glob I hg hm ?_ hdb)
  refine PySem.W.callWith_K (h₀ := X.base) I.ok.mod.kin T.kk (thn (ha.run pos pins s σ H _ I h) fun us s1 ⟨vs, H1, I1, r1, qR⟩ => ⟨I1.kIn, ?_⟩) he hpl
  obtain ⟨hz, q1⟩ := hR _ _ _ qR
  show wpAny _ _ (call (.ref C) us) _ _ _
  obtain ⟨hp, g, dr, tk, os⟩ := s1
  have hsz : hp.objs.size ≤ hp.objs.size + 1 := Nat.le_succ _
  have hq := q1 _ (I1.hok.fresh hsz)
  have up : ∀ b o, hp.get? b = some o → ((hp.push (PySem.W.kdv_tup us)).push (PySem.HandSPX.excO C hp.objs.size)).get? b = some o :=
    fun b o e => Heap.get?_push_of_some _ (Heap.get?_push_of_some _ e)
  have hget : ((hp.push (PySem.W.kdv_tup us)).push (PySem.HandSPX.excO C hp.objs.size)).get? (hp.objs.size + 1) = some (PySem.HandSPX.excO C hp.objs.size) := by heap_get
  have I2 := I1.laid (t' := tk) (a := hp.objs.size + 1) (o := exo (hp.objs.size + 1) C none) (h' := (hp.push (PySem.W.kdv_tup us)).push (PySem.HandSPX.excO C hp.objs.size)) up hsz (exo_ok hget)
  have r2 : Vals (V.ref (hp.objs.size + 1) :: vs) (Value.ref (hp.objs.size + 1) :: us) := .cons rfl r1
  have hl : (Value.ref (hp.objs.size + 1) :: us).length = ps.length := r2.length.symm.trans (F1.len _ _ _ _ hq)
  have hb' := hb _ (Value.ref (hp.objs.size + 1) :: us) I2.kIn (by rw [List.append_nil]; exact hl)
  rw [List.append_nil] at hb'
  have hus : us.length ≤ sizeLine := by
    rw [← Paired.length r1, sizeLine_eq]
    omega
  refine wpAny_call (PySem.HandSPX.call_own EB (fun Y => PySem.W.excTail_contains Y bm hbm) (I1.kIn _ _ hC) (PySem.W.looks_findIn I1.kIn iC) (fun self => PySem.W.bind_fn I1.kIn self tI) hus ?_)
  refine codeAny_mono (F1.run _ X.stack _ _ _ _ _ _ (fun _ _ _ => False) (hr.make C us []) (I2.env0.make C us []) hb' r2 hq) fun r s' z => ?_
  cases r with
  | error er => exact hx pins σ _ _ er s' I2 z
  | ok fl =>
    cases fl with
    | next => exact False.elim z
    | brk => exact False.elim z
    | cont => exact False.elim z
    | ret u =>
      obtain ⟨v, H2, os2, bare2, un2, hok2, rv, ev, d, fs, ea, ed, hd1, q2⟩ := z
      subst ev
      obtain ⟨h2, g2, d2, t2, os'⟩ := s'
      exact ⟨rv, mk_end (raises_own T.xf.exC T.tt) I1 hsz up un2 hok2 os2 bare2 ea ed hd1 q2⟩
end
/-- where the class stands that the module calls so -/
def cA (mg : Str → Option Value) (x : Str) : Addr := match mg x with
  | some (.ref a) => a
  | _ => 0
theorem cA_eq {mg : Str → Option Value} {x : Str} {a : Addr} (h : mg x = some (.ref a)) : cA mg x = a := by
  unfold cA
  rw [h]
/-! ## __init__ with one field, with two -/
def spI1 (C : Addr) (f : Str) : Sp := fun vs H Q _ => ∃ (a : Addr) (v : V), vs = [.ref a, v] ∧ H a = some (exo a C none) ∧
  ∀ dx, H dx = none → dx ≠ a → Q .non (upd (upd H dx (exd dx [(f, v)])) a (exo a C (some dx)))
def spI2 (C : Addr) (f g : Str) : Sp := fun vs H Q _ => ∃ (a : Addr) (v w : V), vs = [.ref a, v, w] ∧ H a = some (exo a C none) ∧
  ∀ dx, H dx = none → dx ≠ a → Q .non (upd (upd (upd H dx (exd dx [(f, v)])) a (exo a C (some dx))) dx (exd dx [(g, w), (f, v)]))
/-- C(e) of one field; C(e, e') of two: the exception's dict stands at a new place -/
def tMk1 (C : Addr) (f : Str) (ta : TA) : L2.St → Hp → XK → Prop := fun σ H Q => ta σ H fun vs H1 => ∃ v, vs = [v] ∧ ∀ d, H1 d = none → Q (.ref C) (some d) (upd H1 d (.xd [(f, v)]))
def tMk2 (C : Addr) (f g : Str) (ta : TA) : L2.St → Hp → XK → Prop := fun σ H Q => ta σ H fun vs H1 => ∃ v w, vs = [v, w] ∧ ∀ d, H1 d = none → Q (.ref C) (some d) (upd H1 d (.xd [(g, w), (f, v)]))
theorem mk1_of {C : Addr} {f : Str} (vs : List V) (H1 : Hp) (Q : XK) : (∃ v, vs = [v] ∧ ∀ d, H1 d = none → Q (.ref C) (some d) (upd H1 d (.xd [(f, v)]))) → MkB C (spI1 C f) vs H1 Q := by
  rintro ⟨v, rfl, q⟩
  refine ⟨Nat.le_of_ble_eq_true rfl, fun a ha => ⟨a, v, rfl, upd_same, fun dx hd ne => ⟨rfl, dx, [(f, v)], upd_same, ?_, ?_, ?_⟩⟩⟩
  · rw [upd_ne ne, upd_same]
  · rw [upd_ne ne] at hd
    exact hd
  · have z := q dx (by rw [upd_ne ne] at hd; exact hd)
    have e : upd (del (upd (upd (upd H1 a (exo a C none)) dx (exd dx [(f, v)])) a (exo a C (some dx))) a) dx (.xd [(f, v)]) = upd H1 dx (.xd [(f, v)]) := by
      funext b
      by_cases h1 : b = dx
      · rw [h1, upd_same, upd_same]
      · rw [upd_ne h1, upd_ne h1]
        by_cases h2 : b = a
        · rw [h2, del_same, ha]
        · rw [del_ne h2, upd_ne h2, upd_ne h1, upd_ne h2]
    rw [e]
    exact z
theorem mk2_of {C : Addr} {f g : Str} (vs : List V) (H1 : Hp) (Q : XK) : (∃ v w, vs = [v, w] ∧ ∀ d, H1 d = none → Q (.ref C) (some d) (upd H1 d (.xd [(g, w), (f, v)]))) → MkB C (spI2 C f g) vs H1 Q := by
  rintro ⟨v, w, rfl, q⟩
  refine ⟨Nat.le_of_ble_eq_true rfl, fun a ha => ⟨a, v, w, rfl, upd_same, fun dx hd ne => ⟨rfl, dx, [(g, w), (f, v)], ?_, upd_same, ?_, ?_⟩⟩⟩
  · rw [upd_ne ne.symm, upd_same]
  · rw [upd_ne ne] at hd
    exact hd
  · have z := q dx (by rw [upd_ne ne] at hd; exact hd)
    have e : upd (del (upd (upd (upd (upd H1 a (exo a C none)) dx (exd dx [(f, v)])) a (exo a C (some dx))) dx (exd dx [(g, w), (f, v)])) a) dx (.xd [(g, w), (f, v)]) = upd H1 dx (.xd [(g, w), (f, v)]) := by
      funext b
      by_cases h1 : b = dx
      · rw [h1, upd_same, upd_same]
      · rw [upd_ne h1, upd_ne h1]
        by_cases h2 : b = a
        · rw [h2, del_same, ha]
        · rw [del_ne h2, upd_ne h1, upd_ne h2, upd_ne h1, upd_ne h2]
    rw [e]
    exact z
/-! ## calls of defs that may raise, by the caller's slots -/
def tCallW (sp : Sp) (W : WX) (t : TA) : TE := fun σ H Q => t σ H fun vs H1 => sp vs H1 Q fun cls d H' => W cls d σ H'
def tCallKW (sp : Sp) (gV : List V → List V → List V) (W : WX) (t tk : TA) : TE := fun σ H Q => t σ H fun vs H1 => tk σ H1 fun zs H2 => sp (gV vs zs) H2 Q fun cls d H' => W cls d σ H'
section
variable {X : Cx} {k : Nat} {ps ks : List Str} {sp : Sp} {W : WX} {x : Str} {st : Stmt} {p pos : Pos} {e : Expr} {es : List Expr} {kws : List Keyword} {t tq : TA}
theorem run_gS {pins : List (Addr × Obj)} {σ : L2.St} {H : Hp} {s : Shared} {Q : VK} {us : List Value} {vs : List V} {f : Addr} {fd : FuncData} {args : Args}
    (r : ∀ (A : Around) (outer : List Env) (s : Shared) (H : Hp) (args : Args) (us : List Value) (vs : List V) (Q : VK) (E : XK),
      A.guards = some [] → Room k A → Env0 X.prog X.w X.K X.mg X.base A outer s H → BindsTo s fd args (ps.zip us) → Vals vs us → sp vs H Q E →
        codeAny (model X.prog X.w) A (.call (.ref f) args) (CR (CX X.prog X.w) outer X.prog X.w H s Q E) s)
    (hg : X.A.guards = some []) (hr : Room k X.A) (tk : Takes X W) (I : Inv X pins σ H s) (hb : BindsTo s fd args (ps.zip us)) (hv : Vals vs us)
    (h : sp vs H Q fun cls d H' => W cls d σ H') :
    codeAny (model X.prog X.w) X.A (.call (.ref f) args)
      (fun r s' => match r with | .error e => X.xe e s' | .ok (.ret u) => EP X pins σ Q u s' | .ok _ => False) s := by
  refine codeAny_mono (r X.A X.stack s H args us vs Q _ hg hr I.env0 hb hv h) fun r s' hq => ?_
  cases r with
  | error e => exact tk _ _ (XE.of_call I (fun _ _ _ z => z) hq)
  | ok fl =>
    cases fl with
    | ret u => exact I.after hq
    | next => exact hq
    | brk => exact hq
    | cont => exact hq
theorem pe_gS (G : Ok X.prog X.w X.K X.mg X.base k x st ps sp) (b : ∀ f fd, L2.Fun X.K x x st f fd → L2.Binds X.K fd ps [])
    (hg : X.A.guards = some []) (hr : Room k X.A) (tk : Takes X W) (gl : Gl X x) (ha : PA X (e :: es) t)
    (hdb : (x == ("__debug__" : Str)) = false := by decide)
    (he : starEach (e :: es) X.env = (false, eval e X.env) :: starEach es X.env := by rfl)
    (hpl : (backTo pos (starEach es X.env)).any (·.1) = false := by rfl) :
    PE X (.Call (.Name x p) (e :: es) [] pos) (tCallW sp W t) := by
  obtain ⟨⟨f, fd, F, hm, r⟩, l⟩ := G
  refine ⟨fun pins s σ H Q I h => wpAny_Call_Name_kw (ld_glob I gl hm ?_ hdb)⟩
  refine PySem.W.callWith_K (h₀ := X.base) I.ok.mod.kin F.kp (thn (ha.run pos pins s σ H _ I h) fun us s1 ⟨vs, H1, I1, r1, q1⟩ => ⟨I1.kIn, ?_⟩) he hpl
  have hl : us.length = ps.length := r1.length.symm.trans (l _ _ _ _ q1)
  have bb := b f fd F s1 us I1.kIn (by rw [List.append_nil]; exact hl)
  rw [List.append_nil] at bb
  refine wpAny_call (codeAny_mono (run_gS r hg hr tk I1 bb r1 q1) fun z s' hz => ?_)
  rcases z with e | fl
  · exact hz
  · cases fl <;> exact hz
theorem pe_gkS0 {gf : List Value → List Value → List Value} {gV : List V → List V → List V} (G : Ok X.prog X.w X.K X.mg X.base k x st ps sp)
    (b : ∀ f fd, L2.Fun X.K x x st f fd → KBinds X.K fd ps ks gf gV)
    (hg : X.A.guards = some []) (hr : Room k X.A) (tk : Takes X W) (gl : Gl X x) (hkw : PK X kws tq)
    (hall : (backToKw pos (keywordEach kws X.env)).all (·.1.isSome) = true := by rfl)
    (hks : (backToKw pos (keywordEach kws X.env)).filterMap (·.1) = ks := by rfl) (hdb : (x == ("__debug__" : Str)) = false := by decide)
    (hpl : ((backTo pos (starEach [] X.env)).any (·.1) || (backToKw pos (keywordEach kws X.env)).any (·.1.isNone)) = false := by rfl) :
    PE X (.Call (.Name x p) [] kws pos) (tCallKW sp gV W tNil tq) := by
  obtain ⟨⟨f, fd, F, hm, r⟩, l⟩ := G
  refine ⟨fun pins s σ H Q I h => wpAny_Call_Name_kw (ld_glob I gl hm ?_ hdb)⟩
  refine PySem.W.callWith_KW0 (h₀ := X.base) I.ok.mod.kin F.kp hall (thn (hkw.run pos pins s σ H _ I h) fun ws s2 ⟨zs, H2, I2, rz, q2⟩ => ⟨I2.kIn, ?_⟩) hpl
  rw [hks]
  have B := b f fd F
  have r2 := B.rel .nil rz
  refine wpAny_call (codeAny_mono (run_gS r hg hr tk I2 (B.to s2 [] ws I2.kIn (r2.length.symm.trans (l _ _ _ _ q2))) r2 q2) fun z s' hz => ?_)
  rcases z with e | fl
  · exact hz
  · cases fl <;> exact hz
theorem pe_gkS {gf : List Value → List Value → List Value} {gV : List V → List V → List V} (G : Ok X.prog X.w X.K X.mg X.base k x st ps sp)
    (b : ∀ f fd, L2.Fun X.K x x st f fd → KBinds X.K fd ps ks gf gV)
    (hg : X.A.guards = some []) (hr : Room k X.A) (tk : Takes X W) (gl : Gl X x) (ha : PA X (e :: es) t) (hkw : PK X kws tq)
    (hall : (backToKw pos (keywordEach kws X.env)).all (·.1.isSome) = true := by rfl)
    (hks : (backToKw pos (keywordEach kws X.env)).filterMap (·.1) = ks := by rfl) (hdb : (x == ("__debug__" : Str)) = false := by decide)
    (he : starEach (e :: es) X.env = (false, eval e X.env) :: starEach es X.env := by rfl)
    (hpl : ((backTo pos (starEach (e :: es) X.env)).any (·.1) || (backToKw pos (keywordEach kws X.env)).any (·.1.isNone)) = false := by rfl) :
    PE X (.Call (.Name x p) (e :: es) kws pos) (tCallKW sp gV W t tq) := by
  obtain ⟨⟨f, fd, F, hm, r⟩, l⟩ := G
  refine ⟨fun pins s σ H Q I h => wpAny_Call_Name_kw (ld_glob I gl hm ?_ hdb)⟩
  refine PySem.W.callWith_KW (h₀ := X.base) I.ok.mod.kin F.kp hall (thn (ha.run pos pins s σ H _ I h) fun us s1 ⟨vs, H1, I1, r1, q⟩ => ?_) hpl he
  refine thn (hkw.run pos pins s1 σ H1 _ I1 q) fun ws s2 ⟨zs, H2, I2, rz, q2⟩ => ⟨I2.kIn, ?_⟩
  rw [hks]
  have B := b f fd F
  have r2 := B.rel r1 rz
  refine wpAny_call (codeAny_mono (run_gS r hg hr tk I2 (B.to s2 us ws I2.kIn (r2.length.symm.trans (l _ _ _ _ q2))) r2 q2) fun z s' hz => ?_)
  rcases z with e | fl
  · exact hz
  · cases fl <;> exact hz
end
section
variable {sp : Sp} {W : WX} {t tq : TA} {gV : List V → List V → List V} {σ : L2.St} {H : Hp} {Q : VK} {a C : Addr} {cls : Value} {d : Option Addr} {f : Str} {te : TE}
theorem r_callW (h : t σ H fun vs H1 => sp vs H1 Q fun cls d H' => W cls d σ H') : tCallW sp W t σ H Q := h
theorem r_callKW (h : t σ H fun vs H1 => tq σ H1 fun zs H2 => sp (gV vs zs) H2 Q fun cls d H' => W cls d σ H') : tCallKW sp gV W t tq σ H Q := h
theorem r_xf (h : te σ H fun x H1 => x = .ref a ∧ cls = .ref C ∧ ∃ (dd : Addr) (fs : List (Str × V)) (v : V), d = some dd ∧ H1 dd = some (.xd fs) ∧ fs.lookup f = some v ∧ Q v H1) :
    tXf a cls d C f te σ H Q := h
/-- the clause 'except x as n' takes it; it goes by -/
theorem w_as {K : PySem.W.Frag} {c : Value} {i : Nat} {ts : Addr → Value → Option Addr → TS} {Wout : WX} {D : Ends} (h1 : PySem.W.exmOne K cls c = some true)
    (h : ∀ a, H a = none → ts a cls d { nx := fun σ' H' => D.nx (σ'.set i none) H', rt := D.rt, bk := fun σ' H' => D.bk (σ'.set i none) H', ct := fun σ' H' => D.ct (σ'.set i none) H' } (σ.set i (some (.ref a))) H) :
    wAs K c i ts Wout D cls d σ H := ⟨true, h1, fun _ a ha => h a ha, fun z => Bool.noConfusion z⟩
theorem w_by {K : PySem.W.Frag} {c : Value} {i : Nat} {ts : Addr → Value → Option Addr → TS} {Wout : WX} {D : Ends} (h1 : PySem.W.exmOne K cls c = some false) (h : Wout cls d σ H) :
    wAs K c i ts Wout D cls d σ H := ⟨false, h1, fun z => Bool.noConfusion z, fun _ => h⟩
end
/-- whether an except clause takes an exception of an own class -/
theorem exm_cls {K : PySem.W.Frag} {C D : Addr} {b : Bool} (h1 : PySem.W.subIn K (.ref D) (.type "BaseException") = some true) (h2 : PySem.W.hasDictIn K D = true)
    (h3 : PySem.W.typeIn K (.ref D) = some (.type "type")) (h4 : PySem.W.subIn K (.ref C) (.ref D) = some b) : PySem.W.exmOne K (.ref C) (.ref D) = some b := by
  obtain ⟨cd, hc, _⟩ := PySem.W.any_some h2
  unfold PySem.W.exmOne
  rw [if_pos (by rw [h1]; decide)]
  unfold PySem.W.kitCls
  dsimp only
  rw [if_pos (by rw [h3, hc] <;> rfl)]
  exact h4
/-! ## is None, is not None -/
theorem r_isn_ref {p : Addr} {R : Bool → Prop} (h : R false) : V.non = V.non ∧ ∃ k, V.bl (decide (V.ref p = V.non)) = V.bl k ∧ R k := ⟨rfl, _, rfl, by rw [show decide (V.ref p = V.non) = false by simp]; exact h⟩
theorem r_nn_ref {p : Addr} {R : Bool → Prop} (h : R true) : V.non = V.non ∧ ∃ k, V.bl (!decide (V.ref p = V.non)) = V.bl k ∧ R k := ⟨rfl, _, rfl, by rw [show (!decide (V.ref p = V.non)) = true by simp]; exact h⟩
theorem r_isn_int {i : Int} {R : Bool → Prop} (h : R false) : V.non = V.non ∧ ∃ k, V.bl (decide (V.int i = V.non)) = V.bl k ∧ R k := ⟨rfl, _, rfl, by rw [show decide (V.int i = V.non) = false by simp]; exact h⟩
theorem r_nn_int {i : Int} {R : Bool → Prop} (h : R true) : V.non = V.non ∧ ∃ k, V.bl (!decide (V.int i = V.non)) = V.bl k ∧ R k := ⟨rfl, _, rfl, by rw [show (!decide (V.int i = V.non)) = true by simp]; exact h⟩
theorem r_isn_non {R : Bool → Prop} (h : R true) : V.non = V.non ∧ ∃ k, V.bl (decide (V.non = V.non)) = V.bl k ∧ R k := ⟨rfl, _, rfl, by rw [show decide (V.non = V.non) = true by simp]; exact h⟩
theorem r_nn_non {R : Bool → Prop} (h : R false) : V.non = V.non ∧ ∃ k, V.bl (!decide (V.non = V.non)) = V.bl k ∧ R k := ⟨rfl, _, rfl, by rw [show (!decide (V.non = V.non)) = false by simp]; exact h⟩
/-! ## lists put together -/
theorem r_cat {l b : Addr} {xs zs : List V} {H : Hp} {Q : VK} (h1 : H l = some (.lst xs)) (h2 : H b = some (.lst zs)) (hz : xs.length + zs.length ≤ 100000) (h : ∀ p, H p = none → Q (.ref p) (upd H p (.lst (xs ++ zs)))) :
    rCat (.ref l) (.ref b) H Q := ⟨l, b, xs, zs, rfl, rfl, h1, h2, small hz, h⟩
/-! ## >>= 1, signs of a text -/
def ipH : TIp := fun x y H Q => ∃ i : Int, x = .int i ∧ y = .int 1 ∧ Q (.int (i / 2)) H
theorem ip_half {X : Cx} : PIp X .RShift ipH := fun pins s σ H x y v u Q I rx ry h => iop_halfI pins s σ H x y v u Q I rx ry h
theorem r_half {i : Int} {H : Hp} {Q : VK} (h : Q (.int (i / 2)) H) : ipH (.int i) (.int 1) H Q := ⟨i, rfl, rfl, h⟩
def rOdd : V → V → Hp → VK → Prop := fun x y H Q => ∃ n : Nat, x = .int (n : Int) ∧ y = .int 1 ∧ Q (.int ((n % 2 : Nat) : Int)) H
theorem r_odd {n : Nat} {H : Hp} {Q : VK} (h : Q (.int ((n % 2 : Nat) : Int)) H) : ∃ m : Nat, (V.int (n : Int)) = .int (m : Int) ∧ V.int 1 = .int 1 ∧ Q (.int ((m % 2 : Nat) : Int)) H := ⟨n, rfl, rfl, h⟩
theorem r_forStr {g : TG} {tb : TS} {D : Ends} {σ : L2.St} {H : Hp} {te : TE} (h : te σ H fun v H1 => ∃ x, v = .str x ∧ tFor (fun _ H2 R => R (Its x) H2) g tb D σ H1) : tFor (iStr te) g tb D σ H := h
theorem r_forSs {x : Str} {g : TG} {tb : TS} {D : Ends} {σ : L2.St} {H : Hp} (Pv : Nat → L2.St → Hp → Prop) (h0 : Pv 0 σ H)
    (hs : ∀ i c σ H, x.cps[i]? = some c → Pv i σ H → g (.str ⟨#[c]⟩) σ H fun σ2 H2 => tb { D with nx := Pv (i + 1), ct := Pv (i + 1), bk := D.nx } σ2 H2) (hd : ∀ σ H, Pv x.cps.size σ H → D.nx σ H) :
    tFor (fun _ H2 R => R (Its x) H2) g tb D σ H := by
  refine ⟨fun i l σ H => i + l = x.cps.size ∧ Pv i σ H, ⟨x.cps.size, Nat.zero_add _, h0⟩, ?_⟩
  rintro i l σ H ⟨e, p⟩
  by_cases c : i < x.cps.size
  · refine .inr ⟨c, Pv (i + 1), fun σ' H' p' => ⟨l - 1, by omega, by omega, p'⟩, ?_⟩
    rintro y H' ⟨eH, c0, hc, ey⟩
    subst eH
    subst ey
    exact hs i c0 σ _ hc p
  · have z : i = x.cps.size := by omega
    subst z
    exact .inl ⟨Nat.le_refl _, hd σ H p⟩
end Vf

namespace Vf
open PySem PySem.Spec PyProof.Rows L2
/-! ## the decimal signs of a number, read one by one -/
def sgn (k : Nat) : Str := PySem.Str.ofString (toString ((k : Nat) : Int))
/-- what the first signs tell -/
def dv (k i : Nat) : Nat := NumText.digitsVal ((sgn k).cps.toList.take i)
theorem sgn_list (k : Nat) : (sgn k).cps.toList = (Nat.toDigits 10 k).map Char.toNat := PySem.W.KIN.signs_num k
theorem dv_zero (k : Nat) : dv k 0 = 0 := rfl
theorem dv_all (k : Nat) : dv k (sgn k).cps.size = k := by
  unfold dv
  rw [List.take_of_length_le (by rw [Array.length_toList]; exact Nat.le_refl _), sgn_list]
  exact PySem.W.KIN.val_back k
theorem sgn_digit {k i c : Nat} (h : (sgn k).cps[i]? = some c) : 48 ≤ c ∧ c ≤ 57 := by
  have m : c ∈ (sgn k).cps.toList := Array.mem_toList_iff.mpr (Array.mem_of_getElem? h)
  rw [sgn_list] at m
  obtain ⟨ch, hch, e⟩ := List.mem_map.mp m
  have r := PyProof.Rows.digit_range (Nat.isDigit_of_mem_toDigits (by decide) (by decide) hch)
  rw [← e]
  exact r
theorem dv_next {k i c : Nat} (h : (sgn k).cps[i]? = some c) : dv k (i + 1) = dv k i * 10 + (c - 48) := by
  have h' : (sgn k).cps.toList[i]? = some c := by rw [Array.getElem?_toList]; exact h
  unfold dv
  rw [List.take_add_one, h']
  exact PySem.NumText.digitsVal_snoc _ _
theorem one_sign {c : Nat} (h1 : 48 ≤ c) (h2 : c ≤ 57) : PySem.intText? (⟨#[c]⟩ : Str) = some (((c - 48 : Nat) : Nat) : Int) := by
  have e := PySem.intText_digits (x := (⟨#[c]⟩ : Str)) (fun d hd => by
    have : d = c := by simpa using hd
    subst this
    exact ⟨h1, h2⟩) (by simp) (show 1 ≤ 4300 by decide)
  rw [e]
  congr 2
  show 0 * 10 + (c - 48) = c - 48
  omega
theorem r_intS {c : Nat} {H : Hp} {Q : VK} (h1 : 48 ≤ c) (h2 : c ≤ 57) (h : Q (.int ((c - 48 : Nat) : Int)) H) :
    ∃ a n, [V.str ⟨#[c]⟩] = [V.str a] ∧ PySem.intText? a = some n ∧ a.length ≤ 640 ∧ Q (.int n) H := ⟨_, _, rfl, one_sign h1 h2, (by decide : 1 ≤ 640), h⟩
theorem r_strI {k : Nat} {H : Hp} {Q : VK} (hk : k.log2 < 1920) (h : Q (.str (sgn k)) H) : ∃ i : Int, [V.int (k : Int)] = [V.int i] ∧ i.natAbs.log2 < 1920 ∧ Q (.str (toString i)) H := ⟨_, rfl, hk, h⟩
end Vf

namespace Vf
open PySem PySem.Spec PyProof.Rows L2 LamX
/-! ## a lambda without parameters handed to a def of the text, where repr may be used -/
section
variable {X : Cx} {pins : List (Addr × Obj)} {σ : L2.St} {H : Hp} {s s1 : Shared}
/-- the context of the def at g, entered from X at s -/
abbrev gcx (X : Cx) (Ng : List Str) (x : Str) (st : Stmt) (g : Addr) (cdg : Value) (s : Shared) (H : Hp) (E : XK) : Cx :=
  cxOf (CX X.prog X.w) X.prog X.w X.K X.mg X.base Ng x (defScope st) g cdg X.A X.stack s H E
/-- x(), in the def that got the lambda -/
theorem pe_actG {Eg : XK} {Ng : List Str} {x : Str} {st : Stmt} {g f c' : Addr} {cdg pm ctv : Value} {params : Arguments} {body : Expr} {scope : Scope} {k i : Nat} {a : Str} {pn : List (Addr × Obj)} {xe : Value → Shared → Prop} {W : WX} {tb : XK → TE} {p1 p2 : Pos}
    (I : Inv X pins σ H s) (L : LamS X.env.scope scope) (hf : s.heap.get? f = some (PySem.W.kla_obj "<lambda>" (X.env.qual ++ "<lambda>") params body scope (cloFrom X.env.cells scope.names []) pm c' ctv)) (hfn : H f = none) (hfr : f ∉ frs X.stack)
    (hbind : bindArgs (PySem.W.kla_fn "<lambda>" (X.env.qual ++ "<lambda>") params body scope (cloFrom X.env.cells scope.names []) pm (.ref c') ctv) ⟨[], []⟩ = pure [])
    (tk : Takes ((gcx X Ng x st g cdg s H Eg).tr pn xe) W) (hgA : X.A.guards = some []) (hr : Room (k + 1) (X.A.deeper (envOfC x (defScope st) s.heap.objs.size g cdg)))
    (hbody : ∀ (A : Around) (outer : List Env) (s : Shared) (H : Hp) (E : XK), (A.deeper (lamEnv X scope s.heap.objs.size f c')).guards = some [] → Room k (A.deeper (lamEnv X scope s.heap.objs.size f c')) → PE (lamCx X A outer s H E scope f c') body (tb E))
    (hN : Ng[i]? = some a) (hv : Vis (defScope st) a) (hd : (a == ("__debug__" : Str)) = false := by decide) (hcd : (a == ("__classdict__" : Str)) = false := by decide) :
    PE ((gcx X Ng x st g cdg s H Eg).tr pn xe) (.Call (.Name a p1) [] [] p2) (fun σZ HZ Q => σZ[i]? = some (some (.ref f)) ∧ HZ c' = some (CodeO c' (X.env.qual ++ "<lambda>")) ∧ tb (fun cls d H' => W cls d σZ H') σ HZ Q) := by
  refine ⟨fun pinsZ sZ σZ HZ Q IZ h => ?_⟩
  obtain ⟨hs, hc, ht⟩ := h
  have named := (pe_var (X := (gcx X Ng x st g cdg s H Eg).tr pn xe) (pos := p1) (i := i) hN hv hd hcd).run pinsZ sZ σZ HZ (fun v H1 => v = .ref f ∧ H1 = HZ) IZ ⟨.ref f, hs, rfl, rfl⟩
  refine wpAny_Call_Name_kw (thn named fun u s1 ⟨v, H1, I1, r1, ev, eH⟩ => ?_)
  subst ev
  subst eH
  obtain rfl : u = Value.ref f := r1
  have of1 := I1.base.keep f _ hf hfn hfr (fun z => nomatch (show f ∈ ([] : List Addr) from z))
  refine PySem.W.callWith_F0 ⟨_, _, _, _, of1⟩ ?_
  have un : Un (frs X.stack) [] H H1 s.heap s1.heap := I1.base
  obtain ⟨⟨oc, vs, t, hoc, hdc, hvc⟩, _, _⟩ := I1.hok c' _ hc
  have rc : codeAny (model X.prog X.w) (X.A.deeper (envOfC x (defScope st) s.heap.objs.size g cdg)) (.call (.ref f) ⟨[], []⟩)
      (CR (CX X.prog X.w) (envOfC x (defScope st) s.heap.objs.size g cdg :: X.stack) X.prog X.w H1 s1 Q fun cls d H' => W cls d σZ H') s1 := by
    refine PySem.W.kla_callFunE hr.depth of1 rfl L.co L.gen rfl ⟨c', oc, vs, t, rfl, hoc, hdc, hvc⟩ ?_
    rw [hbind]
    refine wpAny_pure (wpAny_newFunctionEnv (fun y hy => (L.own y hy).2) (fun y hy => absurd hy (by simp)) (fun h₁ hns hsb => ⟨I1.nolimit.fresh _ hsb, ?_⟩) L.kind)
    show codeAny _ _ (.expr body (lamEnv X scope s1.heap.objs.size f c')) _ _
    have kp : ∀ b o, s1.heap.get? b = some o → h₁.get? b = some o := fun b o e => hsb.extBut b o (Nat.ne_of_lt (Heap.lt_size e)) (Heap.get?_push_of_some _ e)
    have J := lam_start2 (E := fun cls d H' => W cls d σZ H') (f := f) (c' := c') (tk := s1.toks + ([] : List (Str × Value)).length) I L I1.env0 hr.hd un hns kp
    refine PySem.W.kla_codeExpr (wpAny_mono ((hbody (X.A.deeper (envOfC x (defScope st) s.heap.objs.size g cdg)) _ s1 H1 _ hgA (hr.deeper _)).run [] _ _ H1 Q J ht) (fun v s' hq => ?_) fun e s' hq => hq)
    obtain ⟨w', H', J', rv, q⟩ := hq
    exact ⟨w', H', J'.os, J'.bare, J'.base, J'.hok, rv, q⟩
  refine wpAny_call (codeAny_mono rc fun r s' hq => ?_)
  rcases r with e | fl
  · exact tk _ _ (XE.of_call I1 (fun _ _ _ z => z) hq)
  · rcases fl with _ | _ | _ | u
    · exact False.elim hq
    · exact False.elim hq
    · exact False.elim hq
    · exact I1.after hq
end
/-- the def x that calls what it got (by the name a): TT is what it makes of the lambda's reading -/
def Gives (X : Cx) (k : Nat) (Ng : List Str) (x : Str) (st : Stmt) (a : Str) (q : Str) (TT : (XK → Hp → VK → Prop) → Hp → VK → Prop) : Prop :=
  ∀ (g : Addr) (cdg : Value) (f c' : Addr) (s : Shared) (H : Hp) (Q : VK) (tl : XK → Hp → VK → Prop), (X.A.deeper (envOfC x (defScope st) s.heap.objs.size g cdg)).guards = some [] → Room (k + 1) (X.A.deeper (envOfC x (defScope st) s.heap.objs.size g cdg)) →
    (∀ (W : WX) (pn : List (Addr × Obj)) (xe : Value → Shared → Prop) (p1 p2 : Pos), Takes ((gcx X Ng x st g cdg s H E0).tr pn xe) W →
      PE ((gcx X Ng x st g cdg s H E0).tr pn xe) (.Call (.Name a p1) [] [] p2) (fun σZ HZ Q => σZ[0]? = some (some (.ref f)) ∧ HZ c' = some (CodeO c' q) ∧ tl (fun cls d H' => W cls d σZ H') HZ Q)) →
    H c' = some (CodeO c' q) → TT tl H Q → ∃ t, PSs (gcx X Ng x st g cdg s H E0) (defBody st) t ∧ t { nx := fun _ H' => Q .non H', rt := Q } (L2.start Ng [.ref f]) H
section
variable {X : Cx}
/-- x(lambda: body) -/
theorem pe_lamG {T : List (Addr × Str)} {TT : (XK → Hp → VK → Prop) → Hp → VK → Prop} {x a : Str} {st : Stmt} {c P : Addr} {k : Nat} {Ng : List Str} {params : Arguments} {body : Expr} {scope : Scope} {t : XK → TE} {p lpos pos : Pos}
    (hA : At X.K X.mg x st) (hb : ∀ f fd, L2.Fun X.K x x st f fd → L2.Binds X.K fd [a] []) (Sg : FnScope Ng [a] (defScope st)) (hNg : Ng[0]? = some a) (hva : Vis (defScope st) a)
    (hgA : X.A.guards = some []) (hr : Room (k + 2) X.A) (hg : Gl X x) (hG : Gives X k Ng x st a (X.env.qual ++ "<lambda>") TT)
    (TB : TabB X.base X.mg c P) (hcode : X.env.code = .ref c) (hmT : (P, X.env.qual ++ "<lambda>") ∈ T) (hu : ∀ p ∈ T, p.1 = P → p.2 = X.env.qual ++ "<lambda>") (L : LamS X.env.scope scope) (hdef : defaultsOf params X.env = ([], []))
    (hbind : ∀ (q : Str) (cl : List (Str × Addr)) (pm cv ctv : Value), bindArgs (PySem.W.kla_fn "<lambda>" q params body scope cl pm cv ctv) ⟨[], []⟩ = pure [])
    (hbody : ∀ (A : Around) (outer : List Env) (s : Shared) (H : Hp) (E : XK) (f c' : Addr), (A.deeper (lamEnv X scope s.heap.objs.size f c')).guards = some [] → Room k (A.deeper (lamEnv X scope s.heap.objs.size f c')) → PE (lamCx X A outer s H E scope f c') body (t E))
    (hdb : (x == ("__debug__" : Str)) = false := by decide) (hd : (a == ("__debug__" : Str)) = false := by decide) (hcd : (a == ("__classdict__" : Str)) = false := by decide) :
    PE X (.Call (.Name x p) [.Lambda params body scope lpos] [] pos) (tLam T TT t) := by
  obtain ⟨g, fd, F, hm⟩ := hA
  refine ⟨fun pins s σ H Q I ⟨hT, h⟩ => ?_⟩
  refine wpAny_Call_Name_kw (ld_glob I hg hm ?_ hdb)
  refine PySem.W.callWith_K (h₀ := X.base) I.ok.mod.kin F.kp ?_ (by rfl) (by rfl)
  show wpAny _ _ (spliced ((false, eval (.Lambda params body scope lpos) X.env) :: backTo pos (starEach [] X.env))) _ _ s
  refine Calls.spliced_cons (lam_make2 I TB hcode hmT hu hT hdef (L.has I.ok) fun f c' pm' ctv H1 s' I1 eN T1 hf hfn hfr hco => ?_)
  refine Calls.spliced_nil ⟨I1.kIn, ?_⟩
  have bd := hb g fd F s' [.ref f] I1.kIn rfl
  obtain ⟨oc, od, kV, doc, pm, an, cdv, ct, osl, efd, lk, hcg⟩ := F.ex
  subst efd
  have rc : codeAny (model X.prog X.w) X.A (.call (.ref g) ⟨[.ref f], []⟩) (CR (CX X.prog X.w) X.stack X.prog X.w H1 s' Q E0) s' := by
    refine run_ofS (N := Ng) (ps := [a]) (us := [.ref f]) (vs := [.ref f]) (k := k + 1) lk hcg Sg hr I1.env0 bd (.cons rfl .nil) rfl fun hr' => ?_
    exact hG g cdv f c' s' H1 Q (fun E H' Q' => t E σ H' Q') hgA hr' (fun W pn xe p1 p2 tk => pe_actG (i := 0) I1 L hf hfn hfr (hbind _ _ _ _ _) tk hgA hr' (fun A outer s H E hga hr2 => hbody A outer s H E f c' hga hr2) hNg hva hd hcd) hco (h H1 eN T1)
  refine wpAny_call (codeAny_mono rc fun r s2 hq => ?_)
  rcases r with e | fl
  · obtain ⟨_, _, _, _, _, _, _, _, _, _, _, _, z⟩ := hq
    exact z.elim
  · rcases fl with _ | _ | _ | u
    · exact False.elim hq
    · exact False.elim hq
    · exact False.elim hq
    · exact I1.after hq
end
/-- a def whose code object is known -/
def AtC (K : PySem.W.Frag) (mg : Str → Option Value) (x : Str) (st : Stmt) (c : Addr) : Prop :=
  ∃ (f : Addr) (oc : Value) (od : Option Addr) (kV doc pm : Value) (an : Option Addr) (ct : Value) (osl : Array (Option Value)),
    K.lookup f = some ⟨oc, od, .func (PySem.W.fnOf x x (defArgs st) (defBody st) (defScope st) .none kV doc pm an (.ref c) ct), osl⟩ ∧ PySem.W.codeIn K (.ref c) x = true ∧ PySem.W.keepIn K (.ref f) = true ∧ mg x = some (.ref f)
/-- where the code object and its table stand -/
def tabP (K : PySem.W.Frag) (x : Str) : Addr × Addr := (PySem.W.tabIn K x).getD (0, 0)
theorem tabP_eq {K : PySem.W.Frag} {x : Str} {p : Addr × Addr} (h : PySem.W.tabIn K x = some p) : tabP K x = p := by
  unfold tabP
  rw [h]
  rfl
section
variable {P : Program} {w : World} {K : PySem.W.Frag} {mg : Str → Option Value} {base : Heap} {k : Nat} {x : Str} {st : Stmt} {ps N : List Str} {sp : Sp} {c : Addr}
theorem AtC.ok (a : AtC K mg x st c) (S : FnScope N ps (defScope st)) (len : ∀ vs H Q E, sp vs H Q E → vs.length = ps.length)
    (hbody : ∀ (f : Addr) (A : Around) (outer : List Env) (s : Shared) (H : Hp) (vs : List V) (Q : VK) (E : XK),
      (A.deeper (envOfC x (defScope st) s.heap.objs.size f (.ref c))).guards = some [] → Room k (A.deeper (envOfC x (defScope st) s.heap.objs.size f (.ref c))) → sp vs H Q E →
      ∃ t, PSs (cxOf (CX P w) P w K mg base N x (defScope st) f (.ref c) A outer s H E) (defBody st) t ∧ t { nx := fun _ H' => Q .non H', rt := Q } (L2.start N vs) H) : Ok P w K mg base (k + 1) x st ps sp := by
  obtain ⟨f, oc, od, kV, doc, pm, an, ct, osl, lk, hcd, kp, hm⟩ := a
  refine ⟨⟨f, _, fun_mk lk hcd kp, hm, fun A outer s H args us vs Q E hg hr e0 hb r hsp => ?_⟩, len⟩
  exact run_ofS lk hcd S hr e0 hb r (len _ _ _ _ hsp) fun hr' => hbody f A outer s H vs Q E hg hr' hsp
end
end Vf
namespace Vf
open PySem PySem.Spec PyProof.Rows L2 LamX
/-! ## the law's own call where its defs make lambdas: cs are their code objects with the tables -/
section
variable {P : Program} {w : World} {K : PySem.W.Frag} {mg mb : Str → Option Value} {k : Nat} {fa a : Addr} {st : Stmt} {x y : Str} {sp : Sp} {s₁ : Shared} {vs : List Value} {ns : List Int} {cs : List (Addr × Addr)}
structure TabIn (cs : List (Addr × Addr)) (K : PySem.W.Frag) (mg : Str → Option Value) (h : Heap) : Prop where
  tab : ∀ p ∈ cs, h.get? p.2 = some { cls := .none, data := .fields #[] }
  non : ∀ p ∈ cs, K.lookup p.2 = none
  code : ∀ p ∈ cs, PySem.W.CodeHd h p.1 p.2
  bm : ∃ (bm : Addr) (ob : Obj), mg "__builtins__" = some (.ref bm) ∧ bm ≠ builtinsNs ∧ h.get? bm = some ob ∧ ob.cls = .type "module" ∧ ob.dict = some builtinsNs ∧ ob.data = .plain
theorem TabIn.at {h : Heap} (C : TabIn cs K mg h) {b : Addr} (hb : b ∈ cs.map (·.2)) : h.get? b = some { cls := .none, data := .fields #[] } := by
  obtain ⟨p, hp, rfl⟩ := List.mem_map.mp hb
  exact C.tab p hp
/-- what a heap that hides the tables and the script keeps of the tables -/
theorem TabIn.base {h : Heap} {H : Hp} (C : TabIn cs K mg h) (hns : h.Ns mainGlobals mg) (off : ∀ {b : Addr} {o : Obj}, h.get? b = some o → (∀ us n, o.data ≠ .seq us n) → o.data ≠ .fields #[] → H b = none) :
    ∀ p ∈ cs, TabB (hidT h H) mg p.1 p.2 := fun p hp => by
  have hT := C.tab p hp
  obtain ⟨oG, es, ep, eG, dG, rG⟩ := hns
  have nG : mainGlobals ≠ p.2 := fun z => by
    rw [z, hT] at eG
    cases eG
    cases dG
  refine ⟨?_, ?_, nG⟩
  · obtain ⟨o, us, file, tf, flags, tg, inF, text, tt, e1, r1, r2, r3, rest⟩ := C.code p hp
    refine ⟨o, us, file, tf, flags, tg, inF, text, tt, hidT_get e1 (off e1 (fun vs n z => ?_) fun z => ?_), r1, r2, r3, rest⟩
    · rw [r2] at z; cases z
    · rw [r2] at z; cases z; simp at r3
  · obtain ⟨bm, ob, b1, b2, b3, b4, b5, b6⟩ := C.bm
    have n1 : bm ≠ mainGlobals := fun z => by
      rw [z, eG] at b3
      cases b3
      rw [dG] at b6
      cases b6
    have n2 : bm ≠ p.2 := fun z => by
      rw [z, hT] at b3
      cases b3
      cases b6
    refine ⟨bm, ob, b1, b2, n1, n2, hidT_get b3 (off b3 (fun vs n z => ?_) fun z => ?_), b4, b5, b6⟩
    · rw [b6] at z; cases z
    · rw [b6] at z; cases z
theorem law_gT (KX : K.In s₁.heap) (hns : s₁.heap.Ns mainGlobals mg) (hb : s₁.heap.Ns builtinsNs mb) (hbb : ∀ z : Str, z ≠ "__name__" → mb z = bootBuiltins z)
    (hlim : s₁.heap.NoLimit) (hg : s₁.gens = #[]) (C : TabIn cs K mg s₁.heap) (ha : s₁.heap.get? a = some { cls := .type "list", data := .seq vs.toArray }) (hi : IntsAre vs ns) (hl : ns.length ≤ sizeLine)
    (hr : Room k callerA) (hfa : mg x = some (.ref fa)) (F : ∀ base : Heap, K.In base → base.Ns mainGlobals mg → (∀ p ∈ cs, TabB base mg p.1 p.2) → Ok P w K mg base k x st [y] sp)
    (B : ∀ f fd, L2.Fun K x x st f fd → L2.Binds K fd [y] [])
    (hsp : ∀ H : Hp, (∀ p ∈ cs, H p.2 = some (.tbl #[])) → SqL K H a (ns.map V.int) → sp [.ref a] H (fun v _ => v = .bl true) fun _ _ _ => False) :
    codeAny (model P w) callerA (.call (.ref fa) ⟨[.ref a], []⟩) (Told s₁) s₁ := by
  have rv := vals_ints hi
  have aT : a ∉ cs.map (·.2) := fun z => by
    have q := C.at z
    rw [ha] at q
    cases q
  -- over a heap that tracks the tables, and the script perhaps
  have run : ∀ H : Hp, (∀ p ∈ cs, H p.2 = some (.tbl #[])) → (∀ b, b ∉ cs.map (·.2) → b ≠ a → H b = none) → (H a = none ∨ (K.lookup a = none ∧ ∃ o xs, H a = some (.frz o (.lst xs)))) → SqL K H a (ns.map V.int) → HOk P w H s₁.heap →
      codeAny (model P w) callerA (.call (.ref fa) ⟨[.ref a], []⟩) (Told s₁) s₁ := by
    intro H hT hO hA hS hok
    have off : ∀ {b : Addr} {o : Obj}, s₁.heap.get? b = some o → (∀ us n, o.data ≠ .seq us n) → o.data ≠ .fields #[] → H b = none := by
      intro b o e h1 h2
      refine hO b (fun z => ?_) fun z => ?_
      · rw [C.at z] at e
        cases e
        exact h2 rfl
      · rw [z, ha] at e
        cases e
        exact h1 _ _ rfl
    have space : ∀ {b : Addr} {m : Str → Option Value}, s₁.heap.Ns b m → (hidT s₁.heap H).Ns b m := by
      rintro b m ⟨o, es, ep, e, d, rest⟩
      refine ⟨o, es, ep, hidT_get e (off e (fun us n z => ?_) fun z => ?_), d, rest⟩
      · rw [d] at z; cases z
      · rw [d] at z; cases z
    have kin : K.In (hidT s₁.heap H) := by
      intro b o e
      refine hidT_get (KX b o e) ?_
      by_cases z : b ∈ cs.map (·.2)
      · obtain ⟨p, hp, rfl⟩ := List.mem_map.mp z
        rw [C.non p hp] at e
        cases e
      · by_cases z2 : b = a
        · rcases hA with n | ⟨n, _⟩
          · rw [z2]; exact n
          · rw [z2, n] at e
            cases e
        · exact hO b z z2
    obtain ⟨mc, hc1, hc2⟩ := hlim
    have env : Env0 P w K mg (hidT s₁.heap H) callerA [] s₁ H :=
      { frames := rfl, mod := ⟨kin, space hns, ⟨mb, space hb, hbb⟩, ⟨mc, space hc1, hc2⟩⟩, bs := fun b o e => of_hidT e, bsz := Nat.le_of_eq (hidT_size _ _)
        funs := trivial, frf := fun b z => absurd (show b ∈ ([] : List Addr) from z) List.not_mem_nil, hok := hok, bare := .of_eq hg }
    obtain ⟨⟨f, fd, G, hm, go⟩, _⟩ := F _ kin (space hns) (C.base hns off)
    have ef : f = fa := by
      rw [hfa] at hm
      injection hm with hm
      injection hm with hm
      exact hm.symm
    subst ef
    have bind := B f fd G s₁ [.ref a] KX rfl
    rw [List.append_nil] at bind
    refine codeAny_mono (go callerA [] s₁ H ⟨[.ref a], []⟩ [.ref a] [.ref a] (fun v _ => v = .bl true) (fun _ _ _ => False) rfl hr env bind (.cons rfl .nil) (hsp H hT hS)) ?_
    intro r s' h
    rcases r with e | fl
    · obtain ⟨_, _, _, _, _, _, _, _, _, _, _, _, z⟩ := h
      exact z.elim
    · rcases fl with _ | _ | _ | u
      · exact False.elim h
      · exact False.elim h
      · exact False.elim h
      · obtain ⟨v, H', os, bare, un, hok', rr, q⟩ := h
        have q2 : v = .bl true := q
        subst q2
        have eu : u = Value.bool true := rr
        subst eu
        have same_ : ∀ b o, b ∉ cs.map (·.2) → s₁.heap.get? b = some o → s'.heap.get? b = some o := by
          intro b o nb e
          rcases hz : H b with _ | u
          · exact un.keep b o e hz (fun z => absurd (show b ∈ ([] : List Addr) from z) List.not_mem_nil) List.not_mem_nil
          · by_cases z : b = a
            · subst z
              rcases hA with n | ⟨_, ob, xs, n⟩
              · rw [hz] at n; cases n
              · have e1 := (hok b _ n).1
                have e2 := (hok' b _ (un.frzs b ob _ n)).1
                rw [e] at e1
                rw [e2, e1]
            · rw [hO b nb z] at hz
              cases hz
        have grown : ∀ b, b ∈ cs.map (·.2) → ∃ more : Array Value, s'.heap.get? b = some { cls := .none, data := .fields more } := by
          intro b hb
          obtain ⟨p, hp, rfl⟩ := List.mem_map.mp hb
          obtain ⟨more, z⟩ := un.tbls p.2 #[] (hT p hp)
          exact ⟨_, hok' p.2 _ z⟩
        refine ⟨rfl, ⟨fun b o e => ?_, fun b o e => ?_⟩, os, bare⟩
        · by_cases hb : b ∈ cs.map (·.2)
          · obtain ⟨more, hm⟩ := grown b hb
            rw [C.at hb] at e
            cases e
            obtain ⟨p, hp, rfl⟩ := List.mem_map.mp hb
            exact .inr (.inl ⟨((C.code p hp).tab (C.tab p hp)).isCodeTable, rfl, #[], more, rfl, by rw [Array.empty_append]; exact hm⟩)
          · exact .inl (same_ b o hb e)
        · by_cases hb : b ∈ cs.map (·.2)
          · obtain ⟨more, hm⟩ := grown b hb
            exact ⟨_, hm⟩
          · exact ⟨o, same_ b o hb e⟩
  let H0 : Hp := fun b => if b ∈ cs.map (·.2) then some (.tbl #[]) else none
  have at0 : ∀ b, b ∈ cs.map (·.2) → H0 b = some (.tbl #[]) := fun b h => if_pos h
  have no0 : ∀ b, b ∉ cs.map (·.2) → H0 b = none := fun b h => if_neg h
  have mem : ∀ p ∈ cs, p.2 ∈ cs.map (·.2) := fun p hp => List.mem_map.mpr ⟨p, hp, rfl⟩
  rcases hk : K.lookup a with _ | o
  · -- the script is tracked, locked
    let sc : Obj := { cls := .type "list", data := .seq vs.toArray }
    have atA : upd H0 a (.frz sc (.lst (ns.map V.int))) a = some (.frz sc (.lst (ns.map V.int))) := upd_same
    refine run (upd H0 a (.frz sc (.lst (ns.map V.int)))) (fun p hp => ?_) (fun b h1 h2 => by rw [upd_ne h2]; exact no0 b h1) (.inr ⟨hk, _, _, atA⟩) (Or.inl (Or.inr ⟨sc, atA⟩)) (fun b o e => ?_)
    · rw [upd_ne (fun z => aT (by rw [← z]; exact mem p hp))]
      exact at0 _ (mem p hp)
    · by_cases n : b = a
      · subst n
        rw [atA] at e
        injection e with e
        subst e
        exact ⟨ha, by rw [List.length_map]; exact hl, vs, _, rv, ha⟩
      · rw [upd_ne n] at e
        by_cases z : b ∈ cs.map (·.2)
        · rw [at0 b z] at e
          injection e with e
          subst e
          exact C.at z
        · rw [no0 b z] at e
          cases e
  · -- it is an object of the module
    have e := KX a o hk
    rw [ha] at e
    injection e with e
    subst e
    refine run H0 (fun p hp => at0 _ (mem p hp)) (fun b h1 _ => no0 b h1) (.inl (no0 a aT)) (Or.inr ⟨_, vs.toArray, _, hk, rfl, rfl, rfl, ?_, ?_⟩) (fun b u z => ?_)
    · rw [List.size_toArray, hi.length]; exact hl
    · simpa using rv
    · by_cases h : b ∈ cs.map (·.2)
      · rw [at0 b h] at z
        injection z with z
        subst z
        exact C.at h
      · rw [no0 b h] at z
        cases z
end
/-- the end of such a law: for each def that makes lambdas its code object and its table, read off the written part -/
theorem walk_gT {l : PySem.W.OpenLaw} {n k : Nat} {q : Program} {loose : List Str} {XP : (Str → Option Value) → Heap → Prop} {YP : World → Heap → Prop} {d : DefRec} {K : Params → PySem.W.Frag} {sp : PySem.W.Frag → List (Addr × Addr) → Sp} {y : Str} {st : Stmt}
    (cs : List (Str × DefRec × Addr × Addr))
    (hn : l.most = some n) (hn2 : n ≤ sizeLine) (hdf : d.params.defaults = []) (hr : Room k callerA) (hY : ∀ (w : World) (h : Heap), YP w h → (K w.params).In h)
    (hrec : ∀ c ∈ cs, (recsOf q).find? (fun e => e.name == c.1) = some c.2.1) (htab : ∀ w : World, ∀ c ∈ cs, PySem.W.tabIn (K w.params) c.1 = some c.2.2) (hnon : ∀ w : World, ∀ c ∈ cs, (K w.params).lookup c.2.2.2 = none)
    (F : ∀ (w : World) (mg : Str → Option Value) (h : Heap), (K w.params).In h → h.Ns mainGlobals mg → ∀ base : Heap, (K w.params).In base → base.Ns mainGlobals mg → (∀ c ∈ cs, TabB base mg c.2.2.1 c.2.2.2) →
      Ok l.prog w (K w.params) mg base k d.name st [y] (sp (K w.params) (cs.map (·.2.2))))
    (B : ∀ (w : World) f fd, L2.Fun (K w.params) d.name d.name st f fd → L2.Binds (K w.params) fd [y] [])
    (hsp : ∀ (w : World) (H : Hp) (a : Addr) (ns : List Int), ns.length ≤ n → (∀ z ∈ ns, Builtin.Int.intBits z ≤ 1048576) → (∀ c ∈ cs, H c.2.2.2 = some (.tbl #[])) → SqL (K w.params) H a (ns.map V.int) →
      sp (K w.params) (cs.map (·.2.2)) [.ref a] H (fun v _ => v = .bl true) fun _ _ _ => False) :
    PySem.W.WalkO q loose XP YP l.row.toRowW d [] (fun f vs => PySem.call f vs) := by
  refine Att.attach_callB hn hdf fun w s₀ s₁ mg mb fa o pm cd doc a vs ns G Y ho hd hcd hmg hobj hints hlen hbits hg => ?_
  have KX := hY w _ Y
  have C : TabIn (cs.map (·.2.2)) (K w.params) mg s₁.heap := by
    refine ⟨fun p hp => ?_, fun p hp => ?_, fun p hp => ?_, G.T.bmain⟩
    · obtain ⟨c, hc, rfl⟩ := List.mem_map.mp hp
      exact (PySem.W.tab_of G.T KX (hrec c hc) (htab w c hc)).2
    · obtain ⟨c, hc, rfl⟩ := List.mem_map.mp hp
      exact hnon w c hc
    · obtain ⟨c, hc, rfl⟩ := List.mem_map.mp hp
      exact (PySem.W.tab_of G.T KX (hrec c hc) (htab w c hc)).1
  refine law_gT KX G.T.g G.T.b G.T.builtins G.T.nolimit hg C hobj hints (Nat.le_trans hlen hn2) hr hmg (fun base kb gb tb => F w mg _ KX G.T.g base kb gb fun c hc => tb _ (List.mem_map.mpr ⟨c, hc, rfl⟩)) (B w) fun H hH hS => ?_
  exact hsp w H a ns hlen hbits (fun c hc => hH _ (List.mem_map.mpr ⟨c, hc, rfl⟩)) hS
end Vf
namespace Vf
open PySem PySem.Spec PyProof.Rows L2 LamX
theorem tabIn_of {K : PySem.W.Frag} {x qn : Str} {f c P : Addr} {oc oc2 dV kV doc pm ct : Value} {od od2 an : Option Addr} {sl sl2 : Array (Option Value)} {vs : Array Value} {ar : Arguments} {bd : List Stmt} {sc : Scope}
    (a : PySem.W.nsIn K mainGlobals x = some (some (.ref f))) (l : K.lookup f = some ⟨oc, od, .func (PySem.W.fnOf x qn ar bd sc dV kV doc pm an (.ref c) ct), sl⟩)
    (y : K.lookup c = some ⟨oc2, od2, .fields vs, sl2⟩) (z : (vs[11]? : Option Value) = some (.ref P)) : PySem.W.tabIn K x = some (c, P) := by
  unfold PySem.W.tabIn
  rw [a]
  dsimp only
  rw [l]
  dsimp only [PySem.W.fnOf]
  rw [y]
  dsimp only
  rw [z]
/-! ## a list or a tuple walked -/
def iSeq (K : PySem.W.Frag) (te : TE) : TI := fun σ H R => te σ H fun x H1 => ∃ a, x = .ref a ∧ (((∃ xs, SqL K H1 a xs) ∧ R (Itl K a) H1) ∨ ((∃ xs, SqT K H1 a xs) ∧ R (Itt K a) H1))
section
variable {X : Cx} {K : PySem.W.Frag} {tg l : Expr} {tl : TE}
theorem pi_seq (hl : PE X l tl) : PI X tg l (iSeq X.K tl) := by
  refine ⟨fun pins s σ H R I h => thn (hl.run pins s σ H _ I h) fun v s1 ⟨x, H1, I1, r1, a, e, q⟩ => ?_⟩
  subst e
  cases r1
  have fp : ∀ b ∈ [s1.heap.objs.size], FpOk X pins H1 b := fun b hb => by
    rw [List.mem_singleton.mp hb]
    exact I1.fpOk (Nat.le_refl _) (I1.hok.fresh (Nat.le_refl _))
  rcases q with ⟨⟨xs, hq⟩, q⟩ | ⟨⟨xs, hq⟩, q⟩
  · obtain ⟨its, rv, pl, _⟩ := I1.list hq
    exact wpAny_pyIter_list pl.isList ⟨_, [s1.heap.objs.size], _, _, H1, rfl, I1.kept (t' := s1.toks) fun b o e => Heap.get?_push_of_some _ e, turn_list a _, ⟨_, Heap.get?_push_size _ rfl, rfl, rfl⟩, fp, q⟩
  · obtain ⟨its, rv, pt, _⟩ := I1.tuple hq
    exact wpAny_pyIter_tuple (show s1.heap.IsTuple a its.toArray from pt) ⟨_, [s1.heap.objs.size], _, _, H1, rfl, I1.kept (t' := s1.toks) fun b o e => Heap.get?_push_of_some _ e, turn_tuple a _, ⟨_, Heap.get?_push_size _ rfl, rfl, rfl⟩, fp, q⟩
theorem i_seq (e : X.K = K) (hl : PE X l tl) : PI X tg l (iSeq K tl) := by subst e; exact pi_seq hl
end
section
variable {K : PySem.W.Frag} {σ : L2.St} {H : Hp} {D : Ends} {g : TG} {tb : TS} {te tl : TE} {tt : TT} {vs : List Nat} {Q : VK}
theorem r_forQ (h : tl σ H fun x H1 => ∃ a, x = .ref a ∧ (((∃ xs, SqL K H1 a xs) ∧ tFor (fun _ H2 R => R (Itl K a) H2) g tb D σ H1) ∨ ((∃ xs, SqT K H1 a xs) ∧ tFor (fun _ H2 R => R (Itt K a) H2) g tb D σ H1))) : tFor (iSeq K tl) g tb D σ H := h
theorem r_lcQ (h : tl σ H fun x H1 => ∃ a, x = .ref a ∧ (((∃ xs, SqL K H1 a xs) ∧ tLc (fun _ H2 R => R (Itl K a) H2) g tt te vs σ H1 Q) ∨ ((∃ xs, SqT K H1 a xs) ∧ tLc (fun _ H2 R => R (Itt K a) H2) g tt te vs σ H1 Q))) : tLc (iSeq K tl) g tt te vs σ H Q := h
end
/-- a list or a tuple stands at a -/
def Sq (K : PySem.W.Frag) (H : Hp) (a : Addr) (xs : List V) : Prop := SqL K H a xs ∨ SqT K H a xs
theorem Sq.same {K : PySem.W.Frag} {H H' : Hp} {a : Addr} {xs : List V} (h : Sq K H a xs) (s : Same H H') : Sq K H' a xs := by
  rcases h with h | h
  · exact .inl (Same.list s h)
  · exact .inr (Same.tup s h)
section
variable {K : PySem.W.Frag} {σ : L2.St} {H : Hp} {D : Ends} {g : TG} {tb : TS} {te tl : TE} {tt : TT} {vs : List Nat} {Q : VK} {a : Addr}
theorem r_forQs (xs : List V) (hq : Sq K H a xs) (Pv : Nat → L2.St → Hp → Prop) (h0 : Pv 0 σ H) (hl : ∀ i σ H', i ≤ xs.length → Pv i σ H' → Same H H')
    (hs : ∀ i x σ H', xs[i]? = some x → Pv i σ H' → g x σ H' fun σ2 H2 => tb { D with nx := Pv (i + 1), ct := Pv (i + 1), bk := D.nx } σ2 H2) (hd : ∀ σ H', Pv xs.length σ H' → D.nx σ H') :
    ((∃ xs, SqL K H a xs) ∧ tFor (fun _ H2 R => R (Itl K a) H2) g tb D σ H) ∨ ((∃ xs, SqT K H a xs) ∧ tFor (fun _ H2 R => R (Itt K a) H2) g tb D σ H) := by
  rcases hq with hq | hq
  · exact .inl ⟨⟨_, hq⟩, r_forLs xs Pv h0 (fun i σ H' hi p => Same.list (hl i σ H' hi p) hq) hs hd⟩
  · exact .inr ⟨⟨_, hq⟩, r_forTs xs Pv h0 (fun i σ H' hi p => Same.tup (hl i σ H' hi p) hq) hs hd⟩
theorem r_lcQs (xs : List V) (hq : Sq K H a xs) (Pv : Addr → Nat → Hp → Prop) (h0 : ∀ D, H D = none → Pv D 0 (upd H D (.lst []))) (hl : ∀ D i H', H D = none → i ≤ xs.length → Pv D i H' → Same H H')
    (hs : ∀ D i x H', H D = none → xs[i]? = some x → Pv D i H' → g x (wipe σ vs) H' fun σ2 H2 => wipe σ2 vs = wipe σ vs ∧ tt σ2 H2 fun b H3 =>
      if b = true then te σ2 H3 fun y H4 => ∃ acc, H4 D = some (.lst acc) ∧ acc.length < sizeLine ∧ Pv D (i + 1) (upd H4 D (.lst (acc ++ [y]))) else Pv D (i + 1) H3)
    (hd : ∀ D H', H D = none → Pv D xs.length H' → Q (.ref D) H') :
    ((∃ xs, SqL K H a xs) ∧ tLc (fun _ H2 R => R (Itl K a) H2) g tt te vs σ H Q) ∨ ((∃ xs, SqT K H a xs) ∧ tLc (fun _ H2 R => R (Itt K a) H2) g tt te vs σ H Q) := by
  rcases hq with hq | hq
  · exact .inl ⟨⟨_, hq⟩, r_lcLs xs Pv h0 (fun D i H' hD hi p => Same.list (hl D i H' hD hi p) hq) hs hd⟩
  · exact .inr ⟨⟨_, hq⟩, r_lcTs xs Pv h0 (fun D i H' hD hi p => Same.tup (hl D i H' hD hi p) hq) hs hd⟩
end
/-- where the lambdas of a def bear their name -/
def lamQ (x : Str) : Str := x ++ ".<locals>." ++ "<lambda>"
end Vf

namespace Vf
open PySem PySem.Spec PyProof.Rows L2
/-! ## several except clauses, some of them with a name -/
abbrev Cls := Value × Option Nat × (Addr → Value → Option Addr → TS)
def offD (i : Nat) (D : Ends) : Ends := { nx := fun u G => D.nx (u.set i none) G, rt := D.rt, bk := fun u G => D.bk (u.set i none) G, ct := fun u G => D.ct (u.set i none) G }
def clsT (c : Cls) (a : Addr) (k : Value) (d : Option Addr) (D : Ends) (σ : L2.St) (H : Hp) : Prop := match c with
  | (_, none, ts) => ts a k d D σ H
  | (_, some i, ts) => ts a k d (offD i D) (σ.set i (some (.ref a))) H
def wMix (K : PySem.W.Frag) (Wout : WX) (D : Ends) : List Cls → WX
  | [] => Wout
  | c :: r => fun k d σ H => ∃ b, PySem.W.exmOne K k c.1 = some b ∧ (b = true → ∀ a, H a = none → clsT c a k d D σ H) ∧ (b = false → wMix K Wout D r k d σ H)
inductive Mix (X : Cx) : List ExceptHandler → List Cls → Prop
  | nil : Mix X [] []
  | plain {x : Str} {c : Value} {ts : Addr → Value → Option Addr → TS} {b0 : Stmt} {suite : List Stmt} {p1 p2 : Pos} {hds : List ExceptHandler} {l : List Cls} (hc : Names X x c)
      (su : ∀ (a : Addr) (oe : Obj) (k : Value) (d : Option Addr) (pn : List (Addr × Obj)), Zc k d oe → (∃ vs, oe.data = .fields vs) → PSs (X.suite a ((a, oe) :: pn)) (b0 :: suite) (ts a k d)) (r : Mix X hds l) :
      Mix X (.ExceptHandler (some (.Name x p1)) none (b0 :: suite) p2 :: hds) ((c, none, ts) :: l)
  | named {x n : Str} {i : Nat} {c : Value} {ts : Addr → Value → Option Addr → TS} {b0 : Stmt} {suite : List Stmt} {p1 p2 : Pos} {hds : List ExceptHandler} {l : List Cls} (hc : Names X x c) (hN : X.N.Nodup) (hi : X.N[i]? = some n) (hl : X.env.kindOf n = some .local)
      (su : ∀ (a : Addr) (oe : Obj) (k : Value) (d : Option Addr) (pn : List (Addr × Obj)), Zc k d oe → (∃ vs, oe.data = .fields vs) → PSs (X.suite a ((a, oe) :: pn)) (b0 :: suite) (ts a k d)) (r : Mix X hds l) :
      Mix X (.ExceptHandler (some (.Name x p1)) (some n) (b0 :: suite) p2 :: hds) ((c, some i, ts) :: l)
section
variable {X : Cx} {body : List Stmt} {h0 : ExceptHandler} {hds : List ExceptHandler} {l : List Cls} {pos : Pos} {tb : WX → TS} {Wout : WX}
theorem ps_try_mix (st : X.stack = X.env :: X.outer) (fm : X.env.frame = some X.env.locals) (tk : Takes X Wout)
    (hb : ∀ (W : WX) (pn : List (Addr × Obj)) (xe : Value → Shared → Prop), Takes (X.tr pn xe) W → PassesOwn (model X.prog X.w) X.A X.env xe → PSs (X.tr pn xe) body (tb W)) (hm : Mix X (h0 :: hds) l) :
    PS X (.Try body (h0 :: hds) [] [] pos) (fun D σ H => tb (wMix X.K Wout D l) D σ H) := by
  refine ⟨fun pins s σ H D I h => ?_⟩
  have ok := I.ok
  have fr : X.A.frames = some (X.env :: X.outer) := by rw [ok.frames, st]
  refine wpAny_Try_except ?_
  refine wpAny_mono ((hb (wMix X.K Wout D l) (X.pn ++ pins) (fun ev t1 => wpAny (model X.prog X.w) X.A (noteFrame ev X.env) (fun _ t2 => wpAny (model X.prog X.w) X.A (setFlight ev none) (fun _ t3 => wpAny (model X.prog X.w) X.A (handleBy ev X.env (h0 :: hds)) (SP X pins D) X.xe t3) X.xe t2) X.xe t1)
    (fun u t' xx => ?_) PassesOwn.looking).run [] s σ H D (I.toTry _) h) (fun f s1 hsp => ?_) (fun e s1 he => he)
  · obtain ⟨a, B, sI, pq, σ1, G, k, d, rfl, J0, nb, up, sky, na, os, ag, wi⟩ := xx
    have J : Inv X pins σ1 G sI := J0.ofTry ok
    have sky1 : Sky B (X.env :: X.outer) a (Zc k d) X.env.locals t'.heap := by rw [← st]; exact sky
    show wpAny (model X.prog X.w) X.A (noteFrame (.ref a) X.env) _ _ _
    refine Sky.land Zc.steady fr fm sky1 fun m3 fl3 up3 => ?_
    have J3 : Inv X pins σ1 G { t' with heap := m3 } := J.landed nb fl3.1 (up.trans up3) os ag
    obtain ⟨o3, v3, e3, z3, d3⟩ := fl3.there
    have nfs : ∀ {m : Heap} {o : Obj} {vs : Array Value}, m.FunFrames B (X.env :: X.outer) → m.get? a = some o → o.data = .fields vs → a ∉ frs (X.env :: X.outer) := fun {m o vs} ff e dd hm => by
      obtain ⟨_, o', e', hnf⟩ := ff.mem hm
      rw [e] at e'
      cases e'
      exact hnf _ dd
    have nfr := nfs fl3.2.2.1 e3 d3
    have nL : a ≠ X.env.locals := fun z => nfr (List.mem_filterMap.mpr ⟨X.env, List.mem_cons_self, by rw [fm, z]⟩)
    have nF : a ∉ X.fs := fun hm => by
      obtain ⟨e, he, q⟩ := List.mem_filterMap.mp hm
      exact nfr (List.mem_filterMap.mpr ⟨e, List.mem_cons_of_mem _ he, q⟩)
    have S3 := J3.suite e3 d3 na nL nF
    have LT : PySem.W.Looks (model X.prog X.w) m3 (typeOf (.ref a)) k := fun A Q E s kk q => wpAny_typeOf_ref (kk _ _ e3) (by rw [z3.1]; exact q)
    have tst : ∀ {x : Str} {c : Value} {np : Pos} {Q : Value → Shared → Prop} {E : Value → Shared → Prop}, Names X x c → Q c { t' with heap := m3 } → wpAny (model X.prog X.w) (X.A.mark (some (.ref a))) (eval (.Name x np) X.env) Q E { t' with heap := m3 } := fun {x c np Q E} hc q => by
      obtain ⟨hg, hdb, hm | ⟨hm, hv, hnn⟩⟩ := hc
      · exact ld_glob (X := X.suite a ((a, o3) :: (X.pn ++ pins))) S3 hg hm q hdb
      · exact ld_blt (X := X.suite a ((a, o3) :: (X.pn ++ pins))) S3 hg hm hv q hnn hdb
    have go : ∀ {hd' : List ExceptHandler} {l' : List Cls}, Mix X hd' l' → wMix X.K Wout D l' k d σ1 G → wpAny (model X.prog X.w) X.A (handleBy (.ref a) X.env hd') (SP X pins D) X.xe { t' with heap := m3 } := by
      intro hd' l' hk
      induction hk with
      | nil =>
        intro wi
        refine wpAny_handleBy_nil ?_
        obtain ⟨q1, q2, q3, oe, vs, T, oT, ts', he, hz, hd, g1, gr⟩ := id fl3
        unfold PySem.passOn
        refine wpAny_bind (wpAny_field he hd g1 ?_)
        rw [if_neg (show ¬ ((Value.ref T == Value.none) = true) by simp)]
        have fin : wpAny (model X.prog X.w) X.A (setFlight (.ref a) X.env.frame) (fun _ t4 => wpAny (model X.prog X.w) X.A (throw (.ref a) : Sem Flow) (SP X pins D) X.xe t4) X.xe { t' with heap := m3 } := by
          rw [fm]
          refine HandSPX.setFlight_upZ fl3 fun m4 hh4 up4 => wpAny_throw (tk _ _ ?_)
          exact ⟨a, B, sI, pins, σ1, G, k, d, rfl, J, nb, (up.trans up3).trans up4, .inr (.inr (by rw [st]; exact hh4)), na, os, ag, wi⟩
        first | exact wpAny_bind (wpAny_pure (wpAny_bind fin)) | exact wpAny_bind fin
      | @plain x c ts b0 suite p1 p2 hd2 l2 hc su r ih =>
        intro wi
        obtain ⟨b, b1, yes, no⟩ := wi
        refine wpAny_handleBy_cons (codeAny_handlers_test ?_) (fun q => nomatch q)
        have LM := PySem.W.exm_one (M := model X.prog X.w) (J3.kIn) LT b1
        refine tst hc (LM.here ?_)
        cases b with
        | true =>
          refine codeAny_handlers_suite <| HandSPX.lands_againZ fl3 fun m4 fl4 up4 => ?_
          have J4 : Inv X pins σ1 G { t' with heap := m4 } := J.landed nb fl4.1 ((up.trans up3).trans up4) os ag
          obtain ⟨o4, v4, e4, z4, d4⟩ := fl4.there
          have S4 := J4.suite e4 d4 na nL nF
          refine wpAny_mono ((su a o4 k d (X.pn ++ pins) z4 ⟨_, d4⟩).run [] _ _ G _ S4 (yes rfl a na)) (fun f s6 hsp => ?_) (fun _ _ z => False.elim z)
          cases f with
          | next => obtain ⟨u6, G6, S6, q6⟩ := hsp; exact ⟨_, _, S6.unsuite ok, q6⟩
          | brk => obtain ⟨u6, G6, S6, q6⟩ := hsp; exact ⟨_, _, S6.unsuite ok, q6⟩
          | cont => obtain ⟨u6, G6, S6, q6⟩ := hsp; exact ⟨_, _, S6.unsuite ok, q6⟩
          | ret u => obtain ⟨v6, u6, G6, S6, r6, q6⟩ := hsp; exact ⟨_, _, _, S6.unsuite ok, r6, q6⟩
        | false =>
          show wpAny _ X.A (handleBy (.ref a) X.env hd2) _ _ _
          exact ih (no rfl)
      | @named x n i c ts b0 suite p1 p2 hd2 l2 hc hN hi hl su r ih =>
        intro wi
        obtain ⟨b, b1, yes, no⟩ := wi
        refine wpAny_handleBy_cons (codeAny_handlers_test ?_) (fun q => nomatch q)
        have LM := PySem.W.exm_one (M := model X.prog X.w) (J3.kIn) LT b1
        refine tst hc (LM.here ?_)
        cases b with
        | true =>
          refine codeAny_handlers_suite_as <| HandSPX.lands_againZ fl3 fun m4 fl4 up4 => ?_
          have J4 : Inv X pins σ1 G { t' with heap := m4 } := J.landed nb fl4.1 ((up.trans up3).trans up4) os ag
          obtain ⟨o4, v4, e4, z4, d4⟩ := fl4.there
          have S4 := J4.suite e4 d4 na nL nF
          refine store_ok (X := X.suite a ((a, o4) :: (X.pn ++ pins))) (v := .ref a) S4 hN hi (.inl hl) rfl (fun s5 S5 => ?_) (.inr hl)
          refine wpAny_mono ((su a o4 k d (X.pn ++ pins) z4 ⟨_, d4⟩).run [] s5 _ G _ S5 (yes rfl a na)) (fun f s6 hsp => ?_) (fun _ _ z => False.elim z)
          have fin : ∀ {u6 : L2.St} {G6 : Hp} {Q : Shared → Prop}, Inv (X.suite a ((a, o4) :: (X.pn ++ pins))) [] u6 G6 s6 → (∀ s7, Inv X pins (u6.set i none) G6 s7 → Q s7) →
              wpAny (model X.prog X.w) X.A (do bindName X.env n .none; unbindBehindTheSuite X.env n p2) (fun _ s7 => Q s7) X.xe s6 := fun {u6 G6 Q} S6 hq => gone_ok (S6.unsuite ok) hN hi hl hq
          cases f with
          | next => obtain ⟨u6, G6, S6, q6⟩ := hsp; exact fin S6 fun s7 J7 => ⟨_, _, J7, q6⟩
          | brk => obtain ⟨u6, G6, S6, q6⟩ := hsp; exact fin S6 fun s7 J7 => ⟨_, _, J7, q6⟩
          | cont => obtain ⟨u6, G6, S6, q6⟩ := hsp; exact fin S6 fun s7 J7 => ⟨_, _, J7, q6⟩
          | ret u => obtain ⟨v6, u6, G6, S6, r6, q6⟩ := hsp; exact fin S6 fun s7 J7 => ⟨_, _, _, J7, r6, q6⟩
        | false =>
          show wpAny _ X.A (handleBy (.ref a) X.env hd2) _ _ _
          exact ih (no rfl)
    exact go hm wi
  · cases f with
    | next => obtain ⟨u1, G1, J1, q⟩ := hsp; exact wpAny_execs_nil ⟨u1, G1, J1.ofTry ok, q⟩
    | brk => obtain ⟨u1, G1, J1, q⟩ := hsp; exact ⟨u1, G1, J1.ofTry ok, q⟩
    | cont => obtain ⟨u1, G1, J1, q⟩ := hsp; exact ⟨u1, G1, J1.ofTry ok, q⟩
    | ret u => obtain ⟨v, u1, G1, J1, r, q⟩ := hsp; exact ⟨v, u1, G1, J1.ofTry ok, r, q⟩
end
section
variable {K : PySem.W.Frag} {c : Value} {Wout : WX} {D : Ends} {k : Value} {d : Option Addr} {σ : L2.St} {H : Hp} {ts : Addr → Value → Option Addr → TS} {l : List Cls}
theorem w_mixN (h1 : PySem.W.exmOne K k c = some true) (h : ∀ a, H a = none → ts a k d D σ H) : wMix K Wout D ((c, none, ts) :: l) k d σ H := ⟨true, h1, fun _ a ha => h a ha, fun z => Bool.noConfusion z⟩
theorem w_mixA {i : Nat} (h1 : PySem.W.exmOne K k c = some true) (h : ∀ a, H a = none → ts a k d (offD i D) (σ.set i (some (.ref a))) H) : wMix K Wout D ((c, some i, ts) :: l) k d σ H := ⟨true, h1, fun _ a ha => h a ha, fun z => Bool.noConfusion z⟩
theorem w_mixO {o : Option Nat} (h1 : PySem.W.exmOne K k c = some false) (h : wMix K Wout D l k d σ H) : wMix K Wout D ((c, o, ts) :: l) k d σ H := ⟨false, h1, fun z => Bool.noConfusion z, fun _ => h⟩
end
/-! ## an own exception class without own __init__, made with nothing -/
structure EC0 (K : PySem.W.Frag) (C : Addr) (tail : List Value) (nid : String) : Prop where
  q : PySem.W.excIn K C tail nid = true
  kk : PySem.W.keepIn K (.ref C) = true
  ba : PySem.W.subIn K (.ref C) (.type "BaseException") = some true
  tt : PySem.W.typeIn K (.ref C) = some (.type "type")
theorem pmk_ec0 {X : Cx} {C : Addr} {tail : List Value} {B nid iid : String} {x : Str} {p pos : Pos} (T : EC0 X.K C tail nid) (F : ExcBaseFacts B nid iid tail) (hg : Gl X x) (hm : X.mg x = some (.ref C)) (hdb : (x == ("__debug__" : Str)) = false := by decide) :
    PMk X (.Call (.Name x p) [] [] pos) (fun _ H Q => Q (.ref C) none H) := by
  intro pins s σ H Q I h
  refine wpAny_Call_Name_kw (ld_glob I hg hm ?_ hdb)
  refine PySem.W.callWith_K0 I.kIn T.kk ?_
  show wpAny _ _ (call (.ref C) []) _ _ _
  obtain ⟨bm, N, nm, qn, bs, hdct, sn, sub, ab, col, dd, k0, k1, k2, k3, k5, mN, hC, hN, hni, ot⟩ := exc_obj I.kIn T.q
  exact wpAny_call_exc_subT F ot hC hN hni (fun h' e hm' => mk_of I hm' (raises_own T.ba T.tt) h (I.hok.gone hm'.new)) (Nat.zero_le _)
end Vf

namespace Vf
open PySem PySem.Spec PyProof.Rows L2
/-! ## list(zip(t, u)) of two tuples -/
theorem zip_len0 : typeLookup (.type "zip") "__len__" = pure none := am_miss_of_fast (by decide +kernel)
theorem zip_hint0 : typeLookup (.type "zip") "__length_hint__" = pure none := am_miss_of_fast (by decide +kernel)
/-- the pairs laid so far, all above S -/
structure PrsL (S : Nat) (xs ys : List Value) (h : Heap) (ad : List Nat) : Prop where
  inc : ad.Pairwise (· < ·)
  big : ∀ p : Nat, p ∈ ad → S < p
  prs : ∀ (j : Nat) (p : Nat), ad[j]? = some p → ∃ x y, xs[j]? = some x ∧ ys[j]? = some y ∧ IsPair h p x y
theorem PrsL.lt {S : Nat} {xs ys : List Value} {h : Heap} {ad : List Nat} (g : PrsL S xs ys h ad) {p : Nat} (hp : p ∈ ad) : p < h.objs.size := by
  obtain ⟨j, hj⟩ := List.mem_iff_getElem?.mp hp
  obtain ⟨x, y, _, _, e⟩ := g.prs j p hj
  exact Heap.lt_size e
theorem PrsL.stay {S : Nat} {xs ys : List Value} {h h' : Heap} {ad : List Nat} (g : PrsL S xs ys h ad) (k : ∀ (c : Nat) o, S < c → h.get? c = some o → h'.get? c = some o) : PrsL S xs ys h' ad :=
  ⟨g.inc, g.big, fun j p hj => by
    obtain ⟨x, y, e1, e2, e3⟩ := g.prs j p hj
    exact ⟨x, y, e1, e2, k _ _ (g.big p (List.mem_of_getElem? hj)) e3⟩⟩
theorem PrsL.snoc {S : Nat} {xs ys : List Value} {h : Heap} {ad : List Nat} {x y : Value} {q : Nat} (g : PrsL S xs ys h ad) (ex : xs[ad.length]? = some x) (ey : ys[ad.length]? = some y) (e : IsPair h q x y) (l1 : S < q) (l2 : ∀ p : Nat, p ∈ ad → p < q) : PrsL S xs ys h (ad ++ [q]) := by
  refine ⟨List.pairwise_append.mpr ⟨g.inc, List.pairwise_singleton _ _, fun a ha b hb => ?_⟩, fun p hp => ?_, fun j p hj => ?_⟩
  · rw [List.mem_singleton.mp hb]
    exact l2 a ha
  · rcases List.mem_append.mp hp with hp | hp
    · exact g.big p hp
    · rw [List.mem_singleton.mp hp]
      exact l1
  · by_cases c : j < ad.length
    · rw [List.getElem?_append_left c] at hj
      exact g.prs j p hj
    · by_cases c2 : j = ad.length
      · subst c2
        have z : q = p := by simpa using hj
        subst z
        exact ⟨x, y, ex, ey, e⟩
      · have z : (ad ++ [q])[j]? = none := List.getElem?_eq_none (by rw [List.length_append, List.length_singleton]; omega)
        rw [z] at hj
        cases hj
abbrev lsO (acc : Array Value) (c : Nat) : Obj := { cls := .type "list", dict := none, data := .seq acc c, slots := #[] }
section
variable {prog : Program} {w : World} {A : Around} {s : Shared} {R : Result → Shared → Prop} {u TI TO i1 i2 a b S : Nat} {xs ys : List Value}
theorem ZTn.stay {i : Nat} {h h' : Heap} (st : ZTn u TI TO i1 i2 a b i h) (k : ∀ (c : Nat) o, (c = u ∨ c = TI ∨ c = TO ∨ c = i1 ∨ c = i2) → h.get? c = some o → h'.get? c = some o) : ZTn u TI TO i1 i2 a b i h' := by
  obtain ⟨⟨f0, f1, p0, p1, zz⟩, ti, ⟨x, y, to⟩, h1, h2⟩ := st
  exact ⟨⟨f0, f1, p0, p1, k u _ (by simp) zz⟩, k TI _ (by simp) ti, ⟨x, y, k TO _ (by simp) to⟩, h1.at fun o q => k i1 o (by simp) q, h2.at fun o q => k i2 o (by simp) q⟩
theorem zl_loop (hh : A.handled = none) (D : ZipApart u TI TO i1 i2 a b) (lu : u < S) (lI : TI < S) (lO : TO < S) (l1 : i1 < S) (l2 : i2 < S) (la : a < S) (lb : b < S) (res : Value) {h₁ : Heap} {n : Nat} (en : n = min xs.length ys.length) (hn : n ≤ sizeLine)
    (hR : ∀ h' tk acc c ad, (∀ (d : Nat) o, d < S → d ≠ u → d ≠ TO → d ≠ i1 → d ≠ i2 → h₁.get? d = some o → h'.get? d = some o) → h'.get? S = some (lsO acc c) → ad.length = n → PrsL S xs ys h' ad → acc.toList = ad.map Value.ref → R (.ok (.ret res)) { s with heap := h', toks := tk }) :
    ∀ (k i : Nat) (h : Heap) (tk c : Nat) (acc : Array Value) (ad : List Nat), n - i = k → i ≤ n → ZTn u TI TO i1 i2 a b i h → h.IsTuple a xs.toArray → h.IsTuple b ys.toArray → (∀ (d : Nat) o, d < S → d ≠ u → d ≠ TO → d ≠ i1 → d ≠ i2 → h₁.get? d = some o → h.get? d = some o) →
      h.get? S = some (lsO acc c) → acc.toList = ad.map Value.ref → ad.length = i → PrsL S xs ys h ad → codeAny (model prog w) A (.builtin "list.extend.loop" ⟨[.ref S, .ref u, res], []⟩) R { s with heap := h, toks := tk } := by
  have hne : ∀ d : Nat, S ≤ d → d ≠ u ∧ d ≠ TO ∧ d ≠ i1 ∧ d ≠ i2 := fun d h => ⟨Nat.ne_of_gt (Nat.lt_of_lt_of_le lu h), Nat.ne_of_gt (Nat.lt_of_lt_of_le lO h), Nat.ne_of_gt (Nat.lt_of_lt_of_le l1 h), Nat.ne_of_gt (Nat.lt_of_lt_of_le l2 h)⟩
  have aS := hne S (Nat.le_refl _)
  intro k
  induction k with
  | zero =>
    intro i h tk c acc ad hk hi st ta tb kp hS ha hl G
    have hin : i = n := by omega
    obtain ⟨⟨f0, f1, p0, p1, zz⟩, ti, ⟨x0, y0, to⟩, t1, t2⟩ := st
    have no : xs.toArray[i]? = none ∨ ys.toArray[i]? = none := by
      by_cases c : xs.length ≤ ys.length
      · exact .inl (by simp; omega)
      · exact .inr (by simp; omega)
    refine codeAny_builtin PySem.F.entry_extend_loop ?_
    rw [Around.under_plainId PySem.F.plain_extend_loop _]
    show wpAny _ _ (pyNext (.ref u) >>= _) _ _ _
    refine wpAny_bind (zp_end (s := { s with heap := h, toks := tk }) (A := A.in1) hh D p0 p1 zz ti to t1 t2 ta tb no fun h' ze => wpAny_pure ?_)
    exact hR h' tk acc c ad (fun d o c0 c1 c2 c3 c4 e => ze d o c1 c2 c3 c4 (kp d o c0 c1 c2 c3 c4 e)) (ze S _ aS.1 aS.2.1 aS.2.2.1 aS.2.2.2 hS) (by omega) (G.stay fun d o ld e => let z := hne d (Nat.le_of_lt ld); ze d o z.1 z.2.1 z.2.2.1 z.2.2.2 e) ha
  | succ k ih =>
    intro i h tk c acc ad hk hi st ta tb kp hS ha hl G
    obtain ⟨⟨f0, f1, p0, p1, zz⟩, ti, ⟨x0, y0, to⟩, t1, t2⟩ := st
    have ix : i < xs.length := by omega
    have iy : i < ys.length := by omega
    have sz : acc.size = i := by rw [← Array.length_toList, ha, List.length_map, hl]
    refine codeAny_builtin PySem.F.entry_extend_loop ?_
    rw [Around.under_plainId PySem.F.plain_extend_loop _]
    show wpAny _ _ (pyNext (.ref u) >>= _) _ _ _
    refine wpAny_bind (zp_item (s := { s with heap := h, toks := tk }) (x := xs[i]) (y := ys[i]) D p0 p1 zz ti to t1 t2 ta tb (by simp [ix]) (by simp [iy]) fun h' zn => ?_)
    obtain ⟨z', ⟨tx, ty, to'⟩, n1, n2, np, sz', kp'⟩ := zn
    dsimp only at np sz' kp' ⊢
    have lS : S < h.objs.size := Heap.lt_size hS
    have hS' := kp' S _ aS.1 aS.2.1 aS.2.2.1 aS.2.2.2 hS
    have up : ∀ (d : Nat) o, d ≠ S → h'.get? d = some o → (h'.update S (Obj.mapSeq (·.push (Value.ref h.objs.size)))).get? d = some o := fun d o ne e => (Heap.get?_update_other _ _ (Ne.symm ne)).trans e
    show wpAny _ _ (updateSeq S (·.push (Value.ref h.objs.size)) >>= _) _ _ _
    refine wpAny_bind (wpAny_updateSeq hS' rfl (wpAny_pure ⟨plainId_quiet PySem.F.plain_extend_loop _, ?_⟩) (by rw [sz]; omega) (by show (acc.push (Value.ref h.objs.size)).size ≤ sizeLine + 1; rw [Array.size_push, sz]; omega))
    refine ih (i + 1) _ tk _ (acc.push (Value.ref h.objs.size)) (ad ++ [h.objs.size]) (by omega) (by omega) ?_ ?_ ?_ (fun d o c0 c1 c2 c3 c4 e => up d o (Nat.ne_of_lt c0) (kp' d o c1 c2 c3 c4 (kp d o c0 c1 c2 c3 c4 e))) (Heap.get?_update_self _ hS' rfl) (by rw [Array.toList_push, ha, List.map_append]; rfl) (by rw [List.length_append, hl]; rfl) ?_
    · exact ZTn.stay ⟨z', kp' TI _ D.TIz D.TITO D.TIi1 D.TIi2 ti, ⟨tx, ty, to'⟩, n1, n2⟩ fun d o c e => up d o (by rcases c with c | c | c | c | c <;> (subst c; exact Nat.ne_of_lt (by assumption))) e
    · exact (ta.at fun o e => up a o (Nat.ne_of_lt la) (kp' a o D.l1z D.l1TO D.l1i1 D.l1i2 e))
    · exact (tb.at fun o e => up b o (Nat.ne_of_lt lb) (kp' b o D.l2z D.l2TO D.l2i1 D.l2i2 e))
    · exact ((G.stay fun d o ld e => let z := hne d (Nat.le_of_lt ld); kp' d o z.1 z.2.1 z.2.2.1 z.2.2.2 e).stay fun d o ld e => up d o (Nat.ne_of_gt ld) e).snoc (by rw [hl]; simp [ix]) (by rw [hl]; simp [iy]) (up _ _ (Nat.ne_of_gt lS) np) lS fun p hp => G.lt hp
theorem zl_call {E : Value → Shared → Prop} {Q : Value → Shared → Prop} (hh : A.handled = none) (D : ZipApart u TI TO i1 i2 a b) {i : Nat} (e0 : i = 0) (st : ZTn u TI TO i1 i2 a b i s.heap) (ta : s.heap.IsTuple a xs.toArray) (tb : s.heap.IsTuple b ys.toArray) (hn : min xs.length ys.length ≤ sizeLine)
    (hQ : ∀ h' tk acc c ad, (∀ (d : Nat) o, d ≠ u → d ≠ TO → d ≠ i1 → d ≠ i2 → s.heap.get? d = some o → h'.get? d = some o) → h'.get? s.heap.objs.size = some (lsO acc c) → ad.length = min xs.length ys.length → PrsL s.heap.objs.size xs ys h' ad → acc.toList = ad.map Value.ref → Q (.ref s.heap.objs.size) { s with heap := h', toks := tk }) :
    wpAny (model prog w) A (call (.type "list") [.ref u]) Q E s := by
  subst e0
  obtain ⟨⟨f0, f1, p0, p1, zz⟩, ti, ⟨x0, y0, to⟩, t1, t2⟩ := id st
  generalize eS : s.heap.objs.size = S at *
  have lu : u < S := eS ▸ Heap.lt_size zz
  have lI : TI < S := eS ▸ Heap.lt_size ti
  have lO : TO < S := eS ▸ Heap.lt_size to
  have k1 : i1 < S := by
    obtain ⟨_, q, _⟩ := t1
    exact eS ▸ Heap.lt_size q
  have k2 : i2 < S := by
    obtain ⟨_, q, _⟩ := t2
    exact eS ▸ Heap.lt_size q
  have la : a < S := by
    obtain ⟨_, q, _⟩ := ta
    exact eS ▸ Heap.lt_size q
  have lb : b < S := by
    obtain ⟨_, q, _⟩ := tb
    exact eS ▸ Heap.lt_size q
  refine callType_codes (Q₁ := fun obj s1 => obj = .ref S ∧ s1 = { s with heap := s.heap.push (lsO #[] 0) }) PySem.F.called_list (PySem.F.typeCall_list_1 _) PySem.F.entry_list_init (by rw [← eS]; exact code_list_new _ ⟨rfl, rfl⟩) fun obj s1 g1 => ?_
  obtain ⟨rfl, rfl⟩ := g1
  have hS : (s.heap.push (lsO #[] 0)).get? S = some (lsO #[] 0) := eS ▸ Heap.get?_push_size _ rfl
  refine ⟨⟨_, hS, rfl⟩, PySem.F.args_list_init_2 _ _, ?_⟩
  show wpAny _ _ (do let old ← Builtin.List.listItems (.ref S); Builtin.List.listUpdate (.ref S) (fun _ => #[]); letGo old.toList.reverse; Builtin.List.listExtendWith (.ref S) (.ref u) .none) _ _ _
  refine wpAny_bind ?_
  unfold Builtin.List.listItems
  refine wpAny_bind (wpAny_seqItems hS rfl (wpAny_pure ?_))
  show wpAny _ _ (updateSeq S (fun _ => #[]) >>= fun _ => letGo (#[] : Array Value).toList.reverse >>= fun _ => Builtin.List.listExtendWith (.ref S) (.ref u) .none) _ _ _
  refine wpAny_bind (wpAny_updateSeq hS rfl ?_)
  have hS2 := Heap.get?_update_self (Obj.mapSeq (fun _ => (#[] : Array Value))) hS rfl
  refine wpAny_bind (wpAny_letGo ?_)
  unfold Builtin.List.listExtendWith
  have up : ∀ (h : Heap) (f : Obj → Obj), (∀ (d : Nat) o, s.heap.get? d = some o → h.get? d = some o) → ∀ (d : Nat) o, s.heap.get? d = some o → (h.update S f).get? d = some o := fun h f q d o e =>
    (Heap.get?_update_other _ _ (Ne.symm (Nat.ne_of_lt (eS ▸ Heap.lt_size e)))).trans (q d o e)
  have g1 : ∀ (d : Nat) o, s.heap.get? d = some o → (s.heap.push (lsO #[] 0)).get? d = some o := fun d o e => Heap.get?_push_of_some _ e
  have g2 := up _ (Obj.mapSeq (fun _ => (#[] : Array Value))) g1
  have ty : ∀ {s' : Shared}, (∀ (d : Nat) o, s.heap.get? d = some o → s'.heap.get? d = some o) → s'.TypeIs (.ref u) "zip" := fun q => ⟨_, q _ _ zz, rfl⟩
  refine wpAny_bind (wpAny_typeOf (ty g2) ?_)
  have n1 : Builtin.List.listSameRef (.ref S) (.ref u) = false := by simp only [Builtin.List.listSameRef]; exact beq_false_of_ne (Nat.ne_of_gt lu)
  have n2 : (Value.type "zip" == Value.type "list") = false := by decide
  have n3 : (Value.type "zip" == Value.type "tuple") = false := by decide
  simp only [n1, n2, n3, Bool.or_false, Bool.false_eq_true, if_false]
  refine wpAny_bind (z_iter (f0 := f0) (f1 := f1) (TI := TI) (TO := TO) (g2 _ _ zz) ?_)
  refine wpAny_bind (wpAny_holding ?_)
  unfold Builtin.List.listLengthHint
  refine wpAny_bind (wpAny_specialOf (ty g2) zip_len0 ?_)
  show wpAny _ _ (specialOf (Value.ref u) (Str.ofString "__length_hint__") >>= _) _ _ _
  refine wpAny_bind (wpAny_specialOf (ty g2) zip_hint0 ?_)
  refine wpAny_pure ?_
  show wpAny _ _ (rule "list.extend.makes-room" >>= fun _ => Builtin.List.listTouch (.ref S) >>= fun _ => again (.builtin "list.extend.loop" ⟨[.ref S, .ref u, .none], []⟩)) _ _ _
  refine wpAny_bind (wpAny_rule ?_)
  refine wpAny_bind ?_
  show wpAny _ _ (updateSeq S (·.push .none) >>= fun _ => updateSeq S (·.pop)) _ _ _
  refine wpAny_bind (wpAny_updateSeq hS2 rfl ?_)
  have hS3 := Heap.get?_update_self (Obj.mapSeq (·.push Value.none)) hS2 rfl
  refine wpAny_updateSeq (hz := by seq_fits) hS3 rfl ?_
  have hS4 := Heap.get?_update_self (Obj.mapSeq (·.pop)) hS3 rfl
  have g4 := up _ (Obj.mapSeq (·.pop)) (up _ (Obj.mapSeq (·.push Value.none)) g2)
  refine wpAny_pure ⟨plainId_quiet PySem.F.plain_extend_loop _, ?_⟩
  refine zl_loop (s := s) (h₁ := s.heap) (A := A.in1) hh D lu lI lO k1 k2 la lb .none rfl hn (fun h' tk acc c ad kp e1 e2 e3 e4 => ⟨rfl, hQ h' tk acc c ad (fun d o c1 c2 c3 c4 e => kp d o (eS ▸ Heap.lt_size e) c1 c2 c3 c4 e) e1 e2 e3 e4⟩)
    _ 0 _ _ _ #[] [] rfl (Nat.zero_le _) (ZTn.stay st fun d o _ e => g4 d o e) (ta.at fun o e => g4 a o e) (tb.at fun o e => g4 b o e) (fun d o _ _ _ _ _ e => g4 d o e) hS4 rfl rfl ⟨List.Pairwise.nil, (fun _ z => nomatch z), (fun j p z => by simp at z)⟩
end
section
variable {X : Cx} {pins : List (Addr × Obj)} {σ : L2.St} {H H' : Hp} {s : Shared} {h' : Heap}
/-- several new objects are laid at once -/
theorem laidN {t' : Nat} (I : Inv X pins σ H s) (k : ∀ b o, s.heap.get? b = some o → h'.get? b = some o) (old : ∀ b, b < s.heap.objs.size → H' b = H b)
    (new : ∀ b u, s.heap.objs.size ≤ b → H' b = some u → ObjOk X.prog X.w H' h' b u) : Inv X pins σ H' { s with heap := h', toks := t' } := by
  have same : ∀ b u, H b = some u → H' b = some u := fun b u e => (old b (I.hok.lt e)).trans e
  refine I.step (g' := s.gens) (d' := s.drawn) (ch := []) (fun b hb => nomatch hb) (fun b o _ _ _ e _ => k b o e) (fun b o _ _ _ e _ => ⟨o.slots, k b o e⟩)
    (fun b o _ e n => (old b (Heap.lt_size e)).trans n) (fun b o _ e => ⟨o, k b o e⟩) (fun b _ e => same b _ e) (fun b _ _ e => same b _ e) (fun b ps e => ⟨#[], by rw [same b _ e]; simp⟩) (fun m hm => ?_) (fun b u e => ?_) I.bare
  · obtain ⟨o, es, ep, ho, r⟩ := hm
    exact ⟨o, es, ep, k _ o ho, r⟩
  · by_cases c : b < s.heap.objs.size
    · rw [old b c] at e
      exact (I.hok b u e).stay (fun d v _ q => k d v q) (fun d q => same d _ q) fun d _ q => same d _ q
    · exact new b u (Nat.le_of_not_lt c) e
end
end Vf
namespace Vf
open PySem PySem.Spec PyProof.Rows L2
/-- what lies at the pairs' places -/
def tblP (ad : List Nat) (xs ys : List V) (q : Nat) : Option HO := ((ad.zip (xs.zip ys)).find? fun e => e.1 == q).map fun e => HO.tup [e.2.1, e.2.2]
theorem tblP_some {ad : List Nat} {xs ys : List V} {q : Nat} {o : HO} (h : tblP ad xs ys q = some o) : ∃ (j : Nat) (x y : V), ad[j]? = some q ∧ xs[j]? = some x ∧ ys[j]? = some y ∧ o = .tup [x, y] := by
  unfold tblP at h
  obtain ⟨e, he, rfl⟩ := Option.map_eq_some_iff.mp h
  have h1 := List.find?_some he
  have h2 := List.mem_of_find?_eq_some he
  obtain ⟨j, hj⟩ := List.mem_iff_getElem?.mp h2
  obtain ⟨p, x, y⟩ := e
  obtain ⟨e1, e2⟩ := List.getElem?_zip_eq_some.mp hj
  obtain ⟨e3, e4⟩ := List.getElem?_zip_eq_some.mp e2
  have z : p = q := by simpa using h1
  subst z
  exact ⟨j, x, y, e1, e3, e4, rfl⟩
theorem tblP_at {ad : List Nat} {xs ys : List V} (inc : ad.Pairwise (· < ·)) {j : Nat} {p : Nat} {x y : V} (e1 : ad[j]? = some p) (e2 : xs[j]? = some x) (e3 : ys[j]? = some y) : tblP ad xs ys p = some (.tup [x, y]) := by
  cases h : tblP ad xs ys p with
  | none =>
    exfalso
    unfold tblP at h
    have h1 := Option.map_eq_none_iff.mp h
    have h2 := List.find?_eq_none.mp h1 (p, x, y) (List.mem_of_getElem? (i := j) (List.getElem?_zip_eq_some.mpr ⟨e1, List.getElem?_zip_eq_some.mpr ⟨e2, e3⟩⟩))
    simp at h2
  | some o =>
    obtain ⟨i, x', y', a1, a2, a3, rfl⟩ := tblP_some h
    have ij : i = j := by
      rw [List.pairwise_iff_getElem] at inc
      obtain ⟨li, gi⟩ := List.getElem?_eq_some_iff.mp a1
      obtain ⟨lj, gj⟩ := List.getElem?_eq_some_iff.mp e1
      rcases Nat.lt_trichotomy i j with c | c | c
      · have := inc i j li lj c
        rw [gi, gj] at this
        exact absurd this (Nat.lt_irrefl _)
      · exact c
      · have := inc j i lj li c
        rw [gi, gj] at this
        exact absurd this (Nat.lt_irrefl _)
    subst ij
    rw [a2] at e2
    rw [a3] at e3
    cases e2
    cases e3
    rfl
def lzH (H : Hp) (sz l : Nat) (ad : List Nat) (xs ys : List V) : Hp := fun q => if q < sz then H q else if q = l then some (.lst (ad.map V.ref)) else tblP ad xs ys q
/-- list(zip(t, u)) -/
def tListZip (K : PySem.W.Frag) (ta : TA) : TE := fun σ H Q => ta σ H fun vs H1 => ∃ a b xs ys, vs = [.ref a, .ref b] ∧ SqT K H1 a xs ∧ SqT K H1 b ys ∧
  ∀ (l : Nat) (ad : List Nat) H2, Same H1 H2 → H1 l = none → H2 l = some (.lst (ad.map V.ref)) → ad.length = min xs.length ys.length → (∀ (j : Nat) (p : Nat) (x y : V), ad[j]? = some p → xs[j]? = some x → ys[j]? = some y → H1 p = none ∧ H2 p = some (.tup [x, y])) → Q (.ref l) H2
theorem Vals_refs : ∀ ad : List Nat, Vals (ad.map V.ref) (ad.map Value.ref)
  | [] => .nil
  | a :: ad => .cons rfl (Vals_refs ad)
theorem pe_listZip {X : Cx} {K : PySem.W.Frag} {e e2 : Expr} {ta : TA} {p p2 pos2 pos : Pos} (ek : X.K = K) (hc : X.calm = true) (hg : Gl X "zip") (hm : X.mg "zip" = none) (hg2 : Gl X "list") (hm2 : X.mg "list" = none) (ha : PA X [e, e2] ta)
    (hs : starEach [e, e2] X.env = (false, eval e X.env) :: starEach [e2] X.env := by rfl) (hp : (backTo pos2 (starEach [e2] X.env)).any (·.1) = false := by rfl)
    (na : starEach [.Call (.Name "zip" p2) [e, e2] [] pos2] X.env = (false, eval (.Call (.Name "zip" p2) [e, e2] [] pos2) X.env) :: starEach [] X.env := by rfl) :
    PE X (.Call (.Name "list" p) [.Call (.Name "zip" p2) [e, e2] [] pos2] [] pos) (tListZip K ta) := by
  subst ek
  refine ⟨fun pins s σ H Q I h => ?_⟩
  refine Call_ (ld_blt I hg2 hm2 PyProof.Rows.boot_list ?_)
  refine PyProof.Rows.callWith_type1 (PyProof.Rows.args_cons ?_ na) na rfl
  refine Call_ (ld_blt I hg hm PyProof.Rows.boot_zip (PyProof.Rows.callWith_type1 (thn (ha.run pos2 pins s σ H _ I h) fun us s1 ⟨vs, H1, I1, r1, q1⟩ => ?_) hs hp))
  obtain ⟨a, b, xs, ys, rfl, qx, qy, q⟩ := q1
  obtain ⟨ua, ub, rfl, ra, rb⟩ : ∃ ua ub, us = [ua, ub] ∧ RelV (.ref a) ua ∧ RelV (.ref b) ub := by
    cases r1 with
    | cons r rr =>
      cases rr with
      | cons r' rr =>
        cases rr
        exact ⟨_, _, rfl, r, r'⟩
  cases ra
  cases rb
  obtain ⟨its, rv, tp, hz1⟩ := I1.tuple qx
  obtain ⟨its2, rv2, tp2, hz2⟩ := I1.tuple qy
  have hB : ∀ B d : Nat, d < B → d ≠ B + 4 ∧ d ≠ B + 3 ∧ d ≠ B ∧ d ≠ B + 1 := fun B d h => by omega
  have le1 := rv.length
  have le2 := rv2.length
  have la : a < s1.heap.objs.size := tp.lt
  have lb : b < s1.heap.objs.size := tp2.lt
  refine RZ.call_zipT tp tp2 fun m hz hTI hTO n1 n2 hsz hk => ?_
  refine PyProof.Rows.args_nil ?_
  have D := PySem.W.ktu_apart s1.heap.objs.size a b la lb
  have st : ZTn (s1.heap.objs.size + 4) (s1.heap.objs.size + 2) (s1.heap.objs.size + 3) s1.heap.objs.size (s1.heap.objs.size + 1) a b 0 m := ⟨⟨.none, .bool false, .inl rfl, ⟨false, rfl⟩, hz⟩, hTI, ⟨_, _, hTO⟩, n1, n2⟩
  refine zl_call (s := { s1 with heap := m }) (xs := its) (ys := its2) (I1.ok.hd hc) D rfl st (let ⟨o, z, r⟩ := tp; ⟨o, hk _ _ z, r⟩) (let ⟨o, z, r⟩ := tp2; ⟨o, hk _ _ z, r⟩) (Nat.le_trans (Nat.min_le_left _ _) (le1 ▸ hz1)) fun h' tk acc c ad kp hl el G ea => ?_
  dsimp only at kp hl G ⊢
  rw [← le1, ← le2] at el
  have sS : m.objs.size = s1.heap.objs.size + 5 := hsz
  have G2 := G.prs
  have big := G.big
  have ltS : ∀ {p : Nat}, p ∈ ad → s1.heap.objs.size ≤ p ∧ m.objs.size ≠ p := fun hp => by
    have := big _ hp
    exact ⟨by omega, by omega⟩
  have I2 : Inv X pins σ (lzH H1 s1.heap.objs.size m.objs.size ad xs ys) { s1 with heap := h', toks := tk } := by
    refine laidN I1 (fun d o w => let z := hB _ d (Heap.lt_size w); kp d o z.1 z.2.1 z.2.2.1 z.2.2.2 (hk d o w)) (fun d hd => if_pos hd) fun d o hd ho => ?_
    unfold lzH at ho
    rw [if_neg (Nat.not_lt.mpr hd)] at ho
    by_cases c2 : d = m.objs.size
    · subst c2
      rw [if_pos rfl] at ho
      cases ho
      have hlen : acc.size = ad.length := by rw [← Array.length_toList, ea, List.length_map]
      refine ⟨?_, ad.map Value.ref, c, Vals_refs ad, ?_⟩
      · rw [List.length_map, el]
        omega
      · rw [← ea]
        exact hl
    · rw [if_neg c2] at ho
      obtain ⟨j, x, y, e1, e3, e4, rfl⟩ := tblP_some ho
      obtain ⟨x', y', f1, f2, f3⟩ := G2 j d e1
      obtain ⟨v1, g1, w1⟩ := rv.get e3
      obtain ⟨v2, g2, w2⟩ := rv2.get e4
      rw [f1] at g1
      rw [f2] at g2
      cases g1
      cases g2
      exact ⟨by show 2 ≤ sizeLine; decide, [x', y'], .cons w1 (.cons w2 .nil), ⟨_, f3, rfl, _, rfl⟩⟩
  have fr : ∀ {d : Nat}, s1.heap.objs.size ≤ d → H1 d = none := fun hd => I1.hok.fresh hd
  refine ⟨.ref m.objs.size, _, I2, rfl, q m.objs.size ad _ (fun d o w => ?_) (fr (sS ▸ Nat.le_add_right _ _)) ?_ el fun j p x y e1 e3 e4 => ?_⟩
  · unfold lzH
    rw [if_pos (I1.hok.lt w)]
    exact w
  · unfold lzH
    rw [if_neg (Nat.not_lt.mpr (sS ▸ Nat.le_add_right _ _)), if_pos rfl]
  · have hp := ltS (List.mem_of_getElem? e1)
    refine ⟨fr hp.1, ?_⟩
    unfold lzH
    rw [if_neg (Nat.not_lt.mpr hp.1), if_neg (fun z => hp.2 z.symm)]
    exact tblP_at G.inc e1 e3 e4
theorem r_listZip {K : PySem.W.Frag} {ta : TA} {σ : L2.St} {H : Hp} {Q : VK} (h : ta σ H fun vs H1 => ∃ a b xs ys, vs = [.ref a, .ref b] ∧ SqT K H1 a xs ∧ SqT K H1 b ys ∧
  ∀ (l : Nat) (ad : List Nat) H2, Same H1 H2 → H1 l = none → H2 l = some (.lst (ad.map V.ref)) → ad.length = min xs.length ys.length → (∀ (j : Nat) (p : Nat) (x y : V), ad[j]? = some p → xs[j]? = some x → ys[j]? = some y → H1 p = none ∧ H2 p = some (.tup [x, y])) → Q (.ref l) H2) : tListZip K ta σ H Q := h
theorem paired_of {α β : Type} {F : α → β → Prop} : ∀ {xs : List α} {ys : List β}, xs.length = ys.length → (∀ (j : Nat) (x : α) (y : β), xs[j]? = some x → ys[j]? = some y → F x y) → Paired F xs ys
  | [], [], _, _ => .nil
  | [], _ :: _, h, _ => by simp at h
  | _ :: _, [], h, _ => by simp at h
  | x :: xs, y :: ys, h, f => .cons (f 0 x y rfl rfl) (paired_of (by simpa using h) fun j a b e1 e2 => f (j + 1) a b (by simpa using e1) (by simpa using e2))
end Vf

namespace Vf
open PySem PySem.Spec PyProof.Rows L2
/-! ## sorted; the same data twice -/
section
variable {X : Cx} {K : PySem.W.Frag}
theorem c_sortedPO (e : X.K = K) : CallR X (.builtin "sorted") (rSortedPO K) := by subst e; exact cr_sortedPO
theorem c_sortedI (e : X.K = K) : CallR X (.builtin "sorted") (rSortedI K) := by subst e; exact cr_sortedI
end
section
variable {K : PySem.W.Frag} {H H' : Hp} {Q : VK}
/-- pairs of ints that lie in the heap itself -/
def PrsH (H : Hp) (vs : List V) (ps : List (Int × Int)) : Prop := Paired (fun v p => ∃ t, v = V.ref t ∧ H t = some (.tup [.int p.1, .int p.2])) vs ps
theorem PrsH.at_ {vs : List V} {ps : List (Int × Int)} (h : PrsH H vs ps) : PairsAt K H vs ps := by
  induction h with
  | nil => exact .nil
  | cons h1 h2 ih =>
    obtain ⟨t, e, z⟩ := h1
    exact .cons ⟨t, e, SqT.of z⟩ ih
theorem PrsH.mono {vs : List V} {ps : List (Int × Int)} (h : PrsH H vs ps) (k : ∀ t xs, H t = some (.tup xs) → H' t = some (.tup xs)) : PrsH H' vs ps := by
  induction h with
  | nil => exact .nil
  | cons h1 h2 ih =>
    obtain ⟨t, e, z⟩ := h1
    exact .cons ⟨t, e, k _ _ z⟩ ih
theorem PrsH.snoc {vs : List V} {ps : List (Int × Int)} {t : Addr} {p : Int × Int} (h : PrsH H vs ps) (e : H t = some (.tup [.int p.1, .int p.2])) : PrsH H (vs ++ [.ref t]) (ps ++ [p]) := by
  induction h with
  | nil => exact .cons ⟨t, rfl, e⟩ .nil
  | cons h1 h2 ih => exact .cons h1 ih
theorem PrsH.len {vs : List V} {ps : List (Int × Int)} (h : PrsH H vs ps) : vs.length = ps.length := Paired.length h
theorem paired_get {α β : Type} {F : α → β → Prop} : ∀ {xs : List α} {ys : List β} {j : Nat} {x : α}, Paired F xs ys → xs[j]? = some x → ∃ y, ys[j]? = some y ∧ F x y
  | _, _, 0, _, .cons h _, e => ⟨_, rfl, by cases e; exact h⟩
  | _, _, j + 1, _, .cons _ t, e => paired_get (j := j) t e
  | _, _, _, _, .nil, e => by simp at e
/-- what pair stands at a value -/
def kyP (H : Hp) : V → Int × Int
  | .ref t => match H t with
    | some (.tup [.int i, .int j]) => (i, j)
    | _ => (0, 0)
  | _ => (0, 0)
theorem kyP_of {t : Addr} {i j : Int} (h : H t = some (.tup [.int i, .int j])) : kyP H (.ref t) = (i, j) := by
  simp only [kyP, h]
theorem PrsH.srtd {vs : List V} {ps : List (Int × Int)} (h : PrsH H vs ps) (asc : ps.Pairwise fun p q => SrtO.lexB q p = false) : SrtO.Srtd (ltP (kyP H)) vs := by
  induction h with
  | nil => exact .nil
  | @cons v p vs ps h1 h2 ih =>
    obtain ⟨a1, a2⟩ := List.pairwise_cons.mp asc
    refine List.pairwise_cons.mpr ⟨fun u hu => ?_, ih a2⟩
    obtain ⟨t, rfl, e⟩ := h1
    have key : ∀ {vs : List V} {ps : List (Int × Int)}, PrsH H vs ps → u ∈ vs → ∃ q, q ∈ ps ∧ kyP H u = q := by
      intro vs ps hp
      induction hp with
      | nil => exact fun z => nomatch z
      | cons g1 g2 ih2 =>
        intro z
        rcases List.mem_cons.mp z with z | z
        · obtain ⟨t', rfl, e'⟩ := g1
          subst z
          exact ⟨_, List.mem_cons_self, kyP_of e'⟩
        · obtain ⟨q, hq, r⟩ := ih2 z
          exact ⟨q, List.mem_cons_of_mem _ hq, r⟩
    obtain ⟨q, hq, r⟩ := key h2 hu
    show SrtO.lexB (kyP H u) (kyP H (.ref t)) = false
    rw [r, kyP_of e]
    exact a1 q hq
/-- sorted of pairs that ascend already -/
theorem r_sortedP {a : Addr} {vs : List V} {ps : List (Int × Int)} (h1 : SqL K H a vs) (h2 : PrsH H vs ps) (asc : ps.Pairwise fun p q => SrtO.lexB q p = false) (h : ∀ p, H p = none → Q (.ref p) (upd H p (.lst vs))) : rSortedPO K [.ref a] H Q := by
  refine ⟨a, vs, kyP H, rfl, h1, fun x hx => ?_, fun ys p g1 g2 hp => ?_⟩
  · obtain ⟨j, hj⟩ := List.mem_iff_getElem?.mp hx
    obtain ⟨q, _, t, rfl, e⟩ := paired_get h2 hj
    rw [kyP_of e]
    exact ⟨t, rfl, e⟩
  · rw [SrtO.stb_uniq (ltP_swo _) g1 (h2.srtd asc) g2]
    exact h p hp
theorem shaped_of {d : PyData} (h1 : d.canLay0 = true) (h2 : d.depth ≤ 64) : SeqAt.shaped d = true := by
  unfold SeqAt.shaped
  rw [Bool.and_eq_true]
  exact ⟨h1, decide_eq_true h2⟩
theorem r_eqSame {x y : V} (d : PyData) (h1 : Dp K H x d) (h2 : Dp K H y d) (h3 : d.canLay0 = true) (h4 : d.depth ≤ 64) (h : Q (.bl true) H) : rEqD K x y H Q := by
  refine r_eqD h1 h2 (shaped_of h3 h4) (shaped_of h3 h4) ?_
  rw [SeqAt.eqv_refl d h3]
  exact h
theorem r_neSame {x y : V} (d : PyData) (h1 : Dp K H x d) (h2 : Dp K H y d) (h3 : d.canLay0 = true) (h4 : d.depth ≤ 64) (h : Q (.bl false) H) : rNeD K x y H Q := by
  refine r_neD h1 h2 (shaped_of h3 h4) (shaped_of h3 h4) ?_
  rw [SeqAt.eqv_refl d h3]
  exact h
end
end Vf

namespace Vf
open PySem PySem.Spec PyProof.Rows L2
/-! ## max(xs, default = d) -/
section
variable {prog : Program} {w : World} {A : Around} {J : Addr} {far put : List Addr} {N : Nat} {Pn : Nat → Value → Prop} {Sn : Nat → Heap → Prop}
theorem mx_name : (toString "max" ++ toString ".loop" : String) = "max.loop" := by decide
theorem mx_args (x d : Value) : argsOk "max" ⟨[x], [(Str.ofString "default", d)]⟩ := by
  unfold argsOk
  kernel_rfl
/-- the loop behind its first item, whatever keywords go with it -/
theorem mx_on (kw : List (Str × Value)) (Y : Walks prog w A.in1 J far put N Pn Sn) (gt : Nat → Nat → Bool) (hgt : CmpOf prog w A.in1 .Gt Pn gt) (B : Addr) (nB : B ∉ far) {Z : Result → Shared → Prop} :
    ∀ (left i : Nat) (s : Shared) (best : Value) (ep : Nat), N - (i + 1) = left → i + 1 ≤ N → Sn (i + 1) s.heap → Pn (argBest gt i) best →
    s.heap.get? B = some { cls := .type "list", dict := none, data := .seq #[best, best] ep, slots := #[] } →
    (∀ v h2 t2, Pn (argBest gt (N - 1)) v → (∀ b o, b ∉ put → b ≠ B → s.heap.get? b = some o → h2.get? b = some o) → Z (.ok (.ret v)) { s with heap := h2, toks := t2 }) →
    codeAny (model prog w) A (.builtin "max.loop" ⟨[.ref J, .none, .ref B], kw⟩) Z s
  | 0, i, s, best, ep, e, li, hS, hP, hB, q => by
    have eN : i + 1 = N := by omega
    have nP : B ∉ put := fun h => nB (Y.sub _ h)
    refine codeAny_builtin F.entry_max_loop ?_
    rw [Around.under_plainId F.plain_max_loop _]
    show wpAny _ A.in1 (seqItems? (.ref B) >>= _) _ _ s
    refine wpAny_bind (wpAny_seqItems hB rfl ?_)
    show wpAny _ A.in1 (tryCatch (pyNext (.ref J)) _ >>= _) _ _ s
    refine wpAny_bind (wpAny_tryCatch (Y.done s _ _ (eN ▸ hS) fun h1 t1 k1 => ?_))
    show wpAny _ A.in1 (updateSeq B (fun _ => #[]) >>= _) _ _ _
    refine wpAny_bind (wpAny_updateSeq (k1 B _ nP hB) rfl (wpAny_bind (wpAny_letGo (wpAny_pure ?_))))
    exact q best _ t1 (by rw [← eN]; exact hP) fun b o c1 c2 g => (Heap.get?_update_other _ _ (Ne.symm c2)).trans (k1 b o c1 g)
  | left + 1, i, s, best, ep, e, li, hS, hP, hB, q => by
    have lt : i + 1 < N := by omega
    have nP : B ∉ put := fun h => nB (Y.sub _ h)
    refine codeAny_builtin F.entry_max_loop ?_
    rw [Around.under_plainId F.plain_max_loop _]
    show wpAny _ A.in1 (seqItems? (.ref B) >>= _) _ _ s
    refine wpAny_bind (wpAny_seqItems hB rfl ?_)
    show wpAny _ A.in1 (tryCatch (pyNext (.ref J)) _ >>= _) _ _ s
    refine wpAny_bind (wpAny_tryCatch (Y.item (i + 1) s _ _ lt hS fun u h1 t1 pu su k1 => ?_))
    have hB1 := k1 B _ nP hB
    show wpAny _ A.in1 (tryCatch (holding [u, u] (richCompare .Gt u best >>= _)) _ >>= _) _ _ _
    refine wpAny_bind (wpAny_tryCatch (wpAny_holding (wpAny_bind (hgt (i + 1) (argBest gt i) u best _ _ _ pu hP ?_))))
    refine wpAny_bind (wpAny_holding (wpAny_truthy_bool (wpAny_bind (wpAny_letGo (wpAny_pure ?_)))))
    by_cases c : gt (i + 1) (argBest gt i) = true
    · rw [if_pos c]
      refine wpAny_bind (wpAny_updateSeq hB1 rfl (wpAny_bind (wpAny_letGo ?_)))
      rw [mx_name]
      refine wpAny_pure ⟨plainId_quiet F.plain_max_loop _, mx_on kw Y gt hgt B nB left (i + 1) _ u _ (by omega) lt (Y.frame _ _ _ su fun b hb o g => ?_) (by rw [argBest, if_pos c]; exact pu) (Heap.get?_update_self _ hB1 rfl) fun v h2 t2 pv k2 => ?_⟩
      · exact (Heap.get?_update_other _ _ (fun z : B = b => nB (by rw [z]; exact hb))).trans g
      · exact q v h2 t2 pv fun b o c1 c2 g => k2 b o c1 c2 ((Heap.get?_update_other _ _ (Ne.symm c2)).trans (k1 b o c1 g))
    · rw [if_neg c]
      refine wpAny_bind (wpAny_letGo ?_)
      rw [mx_name]
      refine wpAny_pure ⟨plainId_quiet F.plain_max_loop _, mx_on kw Y gt hgt B nB left (i + 1) _ best ep (by omega) lt su (by rw [argBest, if_neg c]; exact hP) hB1 fun v h2 t2 pv k2 => ?_⟩
      exact q v h2 t2 pv fun b o c1 c2 g => k2 b o c1 c2 (k1 b o c1 g)
/-- the loop from its start: an item, or none and the default -/
theorem mx_start (d : Value) (Y : Walks prog w A.in1 J far put N Pn Sn) (gt : Nat → Nat → Bool) (hgt : CmpOf prog w A.in1 .Gt Pn gt) (B : Addr) (nB : B ∉ far) {Z : Result → Shared → Prop} {s : Shared} {ep : Nat} (hS : Sn 0 s.heap)
    (hB : s.heap.get? B = some { cls := .type "list", dict := none, data := .seq #[] ep, slots := #[] })
    (q : ∀ v h2 t2, ((N = 0 ∧ v = d) ∨ (0 < N ∧ Pn (argBest gt (N - 1)) v)) → (∀ b o, b ∉ put → b ≠ B → s.heap.get? b = some o → h2.get? b = some o) → Z (.ok (.ret v)) { s with heap := h2, toks := t2 }) :
    codeAny (model prog w) A (.builtin "max.loop" ⟨[.ref J, .none, .ref B], [(Str.ofString "default", d)]⟩) Z s := by
  have nP : B ∉ put := fun h => nB (Y.sub _ h)
  refine codeAny_builtin F.entry_max_loop ?_
  rw [Around.under_plainId F.plain_max_loop _]
  show wpAny _ A.in1 (seqItems? (.ref B) >>= _) _ _ s
  refine wpAny_bind (wpAny_seqItems hB rfl ?_)
  show wpAny _ A.in1 (tryCatch (pyNext (.ref J)) _ >>= _) _ _ s
  rcases Nat.eq_zero_or_pos N with z | z
  · subst z
    refine wpAny_bind (wpAny_tryCatch (Y.done s _ _ hS fun h1 t1 k1 => ?_))
    refine wpAny_bind (wpAny_rule (wpAny_pure ?_))
    exact q d h1 t1 (.inl ⟨rfl, rfl⟩) fun b o c1 _ g => k1 b o c1 g
  · refine wpAny_bind (wpAny_tryCatch (Y.item 0 s _ _ z hS fun u h1 t1 pu su k1 => ?_))
    have hB1 := k1 B _ nP hB
    show wpAny _ A.in1 (updateSeq B (fun _ => #[u, u]) >>= _) _ _ _
    refine wpAny_bind (wpAny_updateSeq hB1 rfl ?_)
    rw [mx_name]
    refine wpAny_pure ⟨plainId_quiet F.plain_max_loop _, mx_on _ Y gt hgt B nB _ 0 _ u _ rfl z (Y.frame _ _ _ su fun b hb o g => ?_) pu (Heap.get?_update_self _ hB1 rfl) fun v h2 t2 pv k2 => ?_⟩
    · exact (Heap.get?_update_other _ _ (fun y : B = b => nB (by rw [y]; exact hb))).trans g
    · exact q v h2 t2 (.inr ⟨z, pv⟩) fun b o c1 c2 g => k2 b o c1 c2 ((Heap.get?_update_other _ _ (Ne.symm c2)).trans (k1 b o c1 g))
end
section
variable {prog : Program} {w : World} {A : Around} {E : Value → Shared → Prop} {s : Shared}
theorem mx_call {l : Addr} {xs : Array (Int × Tok)} {d : Value} {Q : Value → Shared → Prop} (hh : A.handled = none) (hl : s.heap.IsList l (intItems xs))
    (h : ∀ v h2 t2, ((xs.size = 0 ∧ v = d) ∨ (0 < xs.size ∧ (intItems xs)[argBest (fun i j => decide (numAt xs i > numAt xs j)) (xs.size - 1)]? = some v)) → (∀ b o, s.heap.get? b = some o → h2.get? b = some o) → Q v { s with heap := h2, toks := t2 }) :
    wpAny (model prog w) A (call (.builtin "max") [.ref l] [(Str.ofString "default", d)]) Q E s := by
  refine wpAny_call (codeAny_call_builtin F.plain_max F.entry_max ?_)
  have body : wpAny (model prog w) A.in1 (Builtin.«max» ⟨[.ref l], [(Str.ofString "default", d)]⟩) (fun fin s' => match fin with
      | .done f => (match (Except.ok f : Result) with | .ok (.ret v) => Q v s' | .ok _ => False | .error e => E e s')
      | .again c' => c'.quiet = true ∧ codeAny (model prog w) A c' (fun r s' => match r with | .ok (.ret v) => Q v s' | .ok _ => False | .error e => E e s') s') E s := by
    show wpAny _ A.in1 (Builtin.Builtins.bindParams "max" ["key", "default"] 0 ⟨[], [(Str.ofString "default", d)]⟩ >>= _) _ _ s
    refine wpAny_bind (wpAny_of_eq (show Builtin.Builtins.bindParams "max" ["key", "default"] 0 ⟨[], [(Str.ofString "default", d)]⟩ = pure [none, some d] from rfl) (wpAny_bind (wpAny_pure ?_)))
    refine wpAny_bind (iter_intList hl fun s2 e st hf nl => ?_)
    subst e
    refine wpAny_bind (wpAny_newObj_type ?_)
    rw [mx_name]
    refine wpAny_pure ⟨plainId_quiet F.plain_max_loop _, mx_start d (Walks.list (prog := prog) (w := w) (A := A.in1) hh _ l nl (intItems xs)) _ (CmpOf.ints_gt (numAt xs) fun _ _ => intItems_at) _ (fun hm => Nat.lt_irrefl _ (hf _ hm)) ((Walks.list (prog := prog) (w := w) (A := A.in1) hh _ l nl (intItems xs)).frame _ _ _ st fun b _ o g => Heap.get?_push_of_some _ g) (Heap.get?_push_size _ rfl) fun v h2 t2 hv k => ?_⟩
    refine h v h2 t2 (by simpa [intItems] using hv) (old_kept (l := l) fun b o hb g => ?_)
    exact k b o hb (Nat.ne_of_lt (Heap.lt_size g)) (Heap.get?_push_of_some _ g)
  simp only [checkBuiltinCall, F.kind_max]
  have ha := mx_args (.ref l) d
  cases hsig : Manifest.signature? "max" with
  | none => exact wpAny_pure body
  | some sig =>
    have ha' : Bind.checkArgs "max" sig ⟨[.ref l], [(Str.ofString "default", d)]⟩ = pure () := by simpa only [argsOk, hsig] using ha
    simp only [ha']
    exact wpAny_pure body
end
section
variable {X : Cx}
def rMaxD (K : PySem.W.Frag) : List V → List V → Hp → VK → Prop := fun vs zs H Q => ∃ (a : Addr) (ns : List Int) (d : Int), vs = [V.ref a] ∧ zs = [.int d] ∧ SqL K H a (ns.map V.int) ∧ ∀ m, (ns = [] → m = d) → (ns ≠ [] → m ∈ ns ∧ ∀ y ∈ ns, y ≤ m) → Q (.int m) H
theorem cr_maxDf {K : PySem.W.Frag} (eK : X.K = K) (hc : X.calm = true) : CallRK X (.builtin "max") [Str.ofString "default"] (rMaxD K) := by
  subst eK
  intro pins s σ H vs zs us ws Q I r rz h
  obtain ⟨a, ns, d, rfl, rfl, hs, q⟩ := h
  obtain ⟨its, rv, hl, _⟩ := I.list hs
  obtain rfl := Vals.ref1 r
  obtain ⟨w1, rfl, t, rfl⟩ := vals1 rz
  have hi := rv.ints
  obtain ⟨xs, e⟩ := hi.allInts.items
  have hn : numsOf (intItems xs).toList = ns := by rw [← e]; exact hi.numsOf
  rw [nums_intItems] at hn
  have hl' := hl.isList
  rw [e] at hl'
  have ln : ns.length = xs.size := by rw [← hn, List.length_map, Array.length_toList]
  refine mx_call (I.ok.hd hc) hl' fun v h2 t2 hv k => ?_
  rcases hv with ⟨z, rfl⟩ | ⟨z, hv⟩
  · exact ⟨.int d, H, I.kept k, ⟨_, rfl⟩, q d (fun _ => rfl) fun c => absurd (List.eq_nil_of_length_eq_zero (by omega)) c⟩
  · obtain ⟨t', rfl⟩ := intItems_at hv
    obtain ⟨g1, g2⟩ := argBest_gt (numAt xs) (xs.size - 1)
    refine ⟨.int _, H, I.kept k, ⟨_, rfl⟩, q _ (fun c => by rw [c] at ln; simp at ln; omega) fun _ => ⟨?_, fun y hy => ?_⟩⟩
    · rw [numAt_eq, ← hn]
      exact PySem.getD_mem (by rw [List.length_map, Array.length_toList]; omega)
    · rw [← hn] at hy
      obtain ⟨j, hj, rfl⟩ := mem_getD hy
      rw [List.length_map, Array.length_toList] at hj
      rw [← numAt_eq]
      exact g2 j (by omega)
theorem r_maxD {K : PySem.W.Frag} {H : Hp} {Q : VK} {a : Addr} {d : Int} (ns : List Int) (hs : SqL K H a (ns.map V.int)) (h : ∀ m, (ns = [] → m = d) → (ns ≠ [] → m ∈ ns ∧ ∀ y ∈ ns, y ≤ m) → Q (.int m) H) : rMaxD K [.ref a] [.int d] H Q := ⟨a, ns, d, rfl, rfl, hs, h⟩
theorem r_ckw {r : List V → List V → Hp → VK → Prop} {t tk : TA} {σ : L2.St} {H : Hp} {Q : VK} (h : t σ H fun vs H1 => tk σ H1 fun zs H2 => r vs zs H2 Q) : tCKw r t tk σ H Q := h
end
end Vf

namespace Vf
open PySem PySem.Spec PyProof.Rows L2
/-! ## a tuple times a number, 0 too -/
theorem tup_none (l : Addr) (items : Array Value) (n : Nat) (dd : Option Addr) (sl : Array (Option Value)) (u : Tok) (ne : items.isEmpty = false) :
    Meets (Builtin.«tuple.__mul__» ⟨[.ref l, .int 0 u], []⟩) (fun _ R s => s.heap.get? l = some { cls := .type "tuple", dict := dd, data := .seq items n, slots := sl } ∧
      R (.ok (.ret (Value.ref s.heap.objs.size))) { s with heap := s.heap.push { cls := Value.type "tuple", data := Data.seq #[] }, toks := s.toks }) :=
  .of_wp fun prog w A R s h => by
    obtain ⟨hp, g, d, tk, os⟩ := s
    obtain ⟨hl, h⟩ := h
    have f1 := AutoSeq1.idx_int
    have c1 : ¬ (items.isEmpty || (0 : Int) == 1) = true := by rw [ne]; decide
    have c2 : (decide ((0 : Int) ≤ 0) || items.isEmpty) = true := by rw [decide_eq_true (by decide)]; rfl
    wp_walk using wpAny_loadPart' hl
    repeat (first
      | (refine wpAny_ite_false (decide_eq_false (by decide)) ?_; wp_walk using wpAny_loadPart' hl)
      | (refine wpAny_ite_false (decide_eq_false c1) ?_; wp_walk using wpAny_loadPart' hl)
      | (refine wpAny_ite_true (decide_eq_true c2) ?_; wp_walk using wpAny_loadPart' hl))
    exact ⟨_, rfl, h⟩
def rRepA (K : PySem.W.Frag) : R2 := fun x y H Q => ∃ l k xs, x = .ref l ∧ y = .int k ∧ SqT K H l xs ∧ xs ≠ [] ∧ ((k = 0 ∧ ∀ p, H p = none → Q (.ref p) (upd H p (.tup []))) ∨
  (2 ≤ k ∧ k ≤ 1000 ∧ xs.length ≤ 1000 ∧ ∀ p, H p = none → Q (.ref p) (upd H p (.tup (List.replicate k.toNat xs).flatten))))
theorem op_repA {X : Cx} {K : PySem.W.Frag} (eK : X.K = K) : OpR X (binaryOp .Mult) (rRepA K) := by
  subst eK
  intro pins s σ H x y v u Q I rx ry h
  obtain ⟨l, k, xs, rfl, rfl, hT, hne, h⟩ := h
  rcases h with ⟨rfl, q⟩ | ⟨h1, h2, h3, q⟩
  · cases rx
    obtain ⟨t, rfl⟩ := ry
    obtain ⟨its, r, ⟨⟨cls, dd, data, sl⟩, ho, hc, n, hd⟩, hs⟩ := I.tuple hT
    simp only at hc hd
    subst hc hd
    have hi : its.toArray.isEmpty = false := by
      cases its with
      | nil => exact absurd (List.eq_nil_of_length_eq_zero r.length) hne
      | cons a b => rfl
    refine wpAny_binaryOp_repeat_ref (T := "tuple") (U := "int") (by decide) ⟨_, ho, rfl⟩ (fun s' => typeIs_int s' 0 t) noFill_tuple_mul F.fills_int_mul F.slot_int_rmul repeat_tuple F.slot_int_index.lookup
      (call_meets F.slot_int_rmul (typeIs_int s 0 t) F.entry_int_rmul (F.args_int_rmul_2 _ _) (int_rmul_tuple 0 t l its.toArray n dd sl)
        ⟨ho, rfl, ⟨_, ho, rfl⟩, call_meets F.slot_tuple_mul ⟨_, ho, rfl⟩ F.entry_tuple_mul (F.args_tuple_mul_2 _ _) (tup_none l its.toArray n dd sl t hi) ⟨ho, ?_⟩⟩)
    refine ⟨.ref s.heap.objs.size, _, I.laid (t' := s.toks) (o := .tup []) (fun b ob g => Heap.get?_push_of_some _ g) (Nat.le_refl _) ⟨Nat.zero_le _, [], .nil, IsTup.new _ _⟩, rfl, q _ (I.hok.fresh (Nat.le_refl _))⟩
  · exact op_repT pins s σ H _ _ v u Q I rx ry ⟨l, k, xs, rfl, rfl, hT, hne, h1, h2, h3, q⟩
/-- (0,) * k -/
theorem r_zerosT {K : PySem.W.Frag} {H : Hp} {Q : VK} {a : Addr} {k : Nat} (h : SqT K H a [.int 0]) (hk : k = 0 ∨ 2 ≤ k) (k1 : k ≤ 1000) (q : ∀ p, H p = none → Q (.ref p) (upd H p (.tup ((List.replicate k (0 : Int)).map V.int)))) : rRepA K (.ref a) (.int (k : Int)) H Q := by
  refine ⟨a, _, _, rfl, rfl, h, (fun e => by simp at e), ?_⟩
  rcases hk with z | z
  · subst z
    exact .inl ⟨rfl, q⟩
  · refine .inr ⟨by omega, by omega, by simp, fun p hp => ?_⟩
    have e : (List.replicate (k : Int).toNat [V.int 0]).flatten = (List.replicate k (0 : Int)).map V.int := by
      rw [Int.toNat_natCast, List.map_replicate]
      clear z k1 q
      induction k with
      | zero => rfl
      | succ n ih => rw [List.replicate_succ, List.flatten_cons, ih, List.replicate_succ]; rfl
    rw [e]
    exact q p hp
end Vf

namespace Vf
open PySem PySem.Spec PyProof.Rows L2
/-! ## t.index(n), xs.index(n) of ints -/
def rTix (K : PySem.W.Frag) : V → List V → Hp → VK → Prop := fun x xs H Q => ∃ (p : Addr) (ys : List Int) (z : Int) (j : Nat), x = .ref p ∧ xs = [.int z] ∧ SqT K H p (ys.map V.int) ∧ ys[j]? = some z ∧ (∀ m, m < j → ys[m]? ≠ some z) ∧ Q (.int (j : Nat)) H
theorem flat_intsV : ∀ ns : List Int, (ns.map V.int).all flatV = true
  | [] => rfl
  | n :: ns => by
    rw [List.map_cons, List.all_cons, flat_intsV ns]
    rfl
theorem mt_tix {X : Cx} {K : PySem.W.Frag} (eK : X.K = K) : MtR X "tuple.index" (rTix K) := by
  subst eK
  intro pins s σ H x xs v us Q I rx rs h
  obtain ⟨p, ys, z, j, rfl, rfl, hq, hy, hno, q⟩ := h
  cases rx
  obtain ⟨u, rfl, t, rfl⟩ := vals1 rs
  obtain ⟨its, r, pl, hz⟩ := I.tuple hq
  obtain ⟨⟨cls, dd, dt, sl⟩, ho, hc, n, hd⟩ := pl
  simp only at hc hd
  subst hc hd
  have ln : its.toArray.size = ys.length := by rw [List.size_toArray, ← r.length, List.length_map]
  have lj : j < its.toArray.size := by rw [ln]; exact (List.getElem?_eq_some_iff.mp hy).1
  have look : ∀ (m : Nat) (hm : m < its.toArray.size), ∃ y t', ys[m]? = some y ∧ its.toArray[m] = Value.int y t' := fun m hm => by
    have ml : m < ys.length := by omega
    obtain ⟨w, hw, t', rfl⟩ := r.get (i := m) (x := .int ys[m]) (by simp [ml])
    refine ⟨ys[m], t', List.getElem?_eq_getElem ml, ?_⟩
    rw [← (List.getElem?_eq_some_iff.mp hw).2]
    simp
  refine call_meets PySem.F.slot_tuple_index ⟨_, ho, rfl⟩ PySem.F.entry_tuple_index (PySem.F.args_tuple_index_2 _ _) (TI.tuple_indexAt p its.toArray n dd sl (.int z t) (eqU (.int z)) j lj ?_ ?_)
    ⟨ho, fun w hw => mem_eqAt (x := .int z) ⟨t, rfl⟩ rfl r (flat_intsV ys) w (by simpa using hw), ⟨.int (j : Nat), H, I.tok _, ⟨_, rfl⟩, q⟩⟩
  · obtain ⟨y, t', g1, g2⟩ := look j lj
    rw [hy] at g1
    cases g1
    rw [g2]
    exact beq_self_eq_true z
  · intro m hm mj
    obtain ⟨y, t', g1, g2⟩ := look m hm
    rw [g2]
    show (y == z) = false
    rw [beq_eq_false_iff_ne]
    exact fun c => hno m mj (by rw [g1, c])
theorem r_tix {K : PySem.W.Frag} {H : Hp} {Q : VK} {p : Addr} {z : Int} {j : Nat} (ys : List Int) (hs : SqT K H p (ys.map V.int)) (hj : ys[j]? = some z) (hno : ∀ m, m < j → ys[m]? ≠ some z) (q : Q (.int (j : Nat)) H) : rTix K (.ref p) [.int z] H Q := ⟨p, ys, z, j, rfl, rfl, hs, hj, hno, q⟩
/-! ## a tuple whose object is known; a method of it -/
def rTupF (K : PySem.W.Frag) : List V → Hp → VK → Prop := fun xs H Q => ∃ (p : Addr) (ys : List V), xs = [.ref p] ∧ SqL K H p ys ∧ ∀ (l : Addr) (o : Obj), H l = none → o.cls = .type "tuple" → o.dict = none → Q (.ref l) (upd H l (.frz o (.tup ys)))
theorem c_tupF {X : Cx} {K : PySem.W.Frag} (eK : X.K = K) : CallR X (.type "tuple") (rTupF K) := by
  subst eK
  intro pins s σ H xs us Q I r h
  obtain ⟨p, ys, rfl, hq, q⟩ := h
  obtain rfl := Vals.ref1 r
  obtain ⟨its, r', pl, hz⟩ := I.list hq
  have ln := r'.length
  refine call_tuple_list pl.isList (fun h2 kp => ?_) (by simp only [List.size_toArray] <;> omega)
  have I1 : Inv X pins σ H { s with heap := h2 } := I.kept (t' := s.toks) kp
  have I2 : Inv X pins σ (upd H h2.objs.size (.frz { cls := .type "tuple", data := .seq its.toArray } (.tup ys))) { s with heap := h2.push { cls := .type "tuple", data := .seq its.toArray } } :=
    I1.laid (t' := s.toks) (fun b o g => Heap.get?_push_of_some _ g) (Nat.le_refl _) ⟨Heap.get?_push_size _ rfl, hz, its, r', IsTup.new _ _⟩
  exact ⟨.ref h2.objs.size, _, I2, rfl, q _ _ (I1.hok.fresh (Nat.le_refl _)) rfl rfl⟩
def tBF (T : String) (r : V → List V → Hp → VK → Prop) (to : TE) (t : TA) : TE := fun σ H Q => to σ H fun x H1 => (∃ (p : Addr) (o : Obj) (u : HO), x = .ref p ∧ H1 p = some (.frz o u) ∧ o.cls = .type T ∧ o.dict = none) ∧ t σ H1 fun xs H2 => r x xs H2 Q
theorem pe_bmF {X : Cx} {o e : Expr} {es : List Expr} {to : TE} {t : TA} {name : Str} {at_ ps : Pos} {T id : String} {r : V → List V → Hp → VK → Prop}
    (pa : PlainAttrs T) (slot : Slot T name id) (md : typeOf (.builtin id) = pure (.type "method_descriptor")) (hm : MtR X id r) (ho : PE X o to) (ha : PA X (e :: es) t)
    (h1 : attributeBase o name X.env (eval o X.env) = eval o X.env := by rfl) (h2 : ((backTo ps (starEach (e :: es) X.env)).all (fun x => !x.1) && (backToKw ps (keywordEach [] X.env)).all (fun x => x.1.isSome) && decide ((e :: es).length + ([] : List Keyword).length + (if ([] : List Keyword).isEmpty then 0 else 1) < 30)) = true := by rfl)
    (h3 : (at_.endLine == ps.line) = true := by rfl) (h4 : starEach (e :: es) X.env = (false, eval e X.env) :: starEach es X.env := by rfl) (h5 : (backTo ps (starEach es X.env)).any (·.1) = false := by rfl) :
    PE X (.Call (.Attribute o name at_) (e :: es) [] ps) (tBF T r to t) := by
  refine ⟨fun pins s σ H Q I h => wpAny_Call_method_late h1 h2 h3 rfl (thn (ho.run pins s σ H _ I h) fun v s1 ⟨x, H1, I1, r1, ty, q1⟩ => ?_)⟩
  obtain ⟨p, ob, u, rfl, hp, hc, hd⟩ := ty
  cases r1
  have look : s1.heap.get? p = some ob := (I1.hok p _ hp).1
  refine ⟨T, id, pa, slot, md, ⟨ob, look, hc⟩, fun a e => by cases e; exact ⟨ob, look, hd⟩, ?_⟩
  have go := ha.run ps pins s1 σ H1 _ I1 q1
  rw [h4] at go ⊢
  refine Calls.callWith_builtin (by show (false || (backTo ps (starEach es X.env)).any (·.1)) = false; rw [h5] <;> rfl) (Calls.evalArgs_plain (thn go fun us s2 ⟨vs, H2, I2, r2, q2⟩ => ?_))
  exact hm pins s2 σ H2 (.ref p) vs (.ref p) us Q I2 rfl r2 q2
theorem r_bmF {T : String} {r : V → List V → Hp → VK → Prop} {to : TE} {t : TA} {σ : L2.St} {H : Hp} {Q : VK} (h : to σ H fun x H1 => (∃ (p : Addr) (o : Obj) (u : HO), x = .ref p ∧ H1 p = some (.frz o u) ∧ o.cls = .type T ∧ o.dict = none) ∧ t σ H1 fun xs H2 => r x xs H2 Q) : tBF T r to t σ H Q := h
theorem r_tupF {K : PySem.W.Frag} {H : Hp} {Q : VK} {a : Addr} {ys : List V} (hs : SqL K H a ys) (h : ∀ (l : Addr) (o : Obj), H l = none → o.cls = .type "tuple" → o.dict = none → Q (.ref l) (upd H l (.frz o (.tup ys)))) : rTupF K [.ref a] H Q := ⟨a, ys, rfl, hs, h⟩
theorem SqT.frz {K : PySem.W.Frag} {H : Hp} {a : Addr} {o : Obj} {ys : List V} (h : H a = some (.frz o (.tup ys))) : SqT K H a ys := Or.inl (Or.inr ⟨o, h⟩)
theorem mt_lix {X : Cx} {K : PySem.W.Frag} (eK : X.K = K) : MtR X "list.index" (rIndex K) := by subst eK; exact mt_index
theorem r_lix {K : PySem.W.Frag} {H : Hp} {Q : VK} {p : Addr} {z : Int} {j : Nat} (ys : List Int) (hs : SqL K H p (ys.map V.int)) (hj : ys[j]? = some z) (hno : ∀ m, m < j → ys[m]? ≠ some z) (q : Q (.int (j : Nat)) H) : rIndex K (.ref p) [.int z] H Q := by
  refine ⟨p, _, .int z, j, .int z, rfl, rfl, hs, rfl, flat_intsV ys, by rw [List.getElem?_map, hj]; rfl, beq_self_eq_true z, fun m z' mj hz => ?_, q⟩
  rw [List.getElem?_map, Option.map_eq_some_iff] at hz
  obtain ⟨y, hy, rfl⟩ := hz
  show (y == z) = false
  rw [beq_eq_false_iff_ne]
  exact fun c => hno m mj (by rw [hy, c])
end Vf

namespace Vf
open PySem PySem.Spec PyProof.Rows L2
/-! ## a module's tuple; zip of two tuples in a comprehension; dicts with pairs as keys -/
theorem pe_gr {X : Cx} {x : Str} {a : Addr} {pos : Pos} (hm : X.mg x = some (.ref a)) (hg : Gl X x) (hd : (x == ("__debug__" : Str)) = false := by decide) : PE X (.Name x pos) (tC (.ref a)) := pe_glob hg hm rfl hd
section
variable {K : PySem.W.Frag} {σ : L2.St} {H : Hp} {Q : VK} {g : TG} {tt : TT} {te : TE} {vs : List Nat}
theorem r_lcZti {ta : TA} (h : ta σ H fun ws H1 => ∃ a b xs ys, ws = [.ref a, .ref b] ∧ ((SqL K H1 a xs ∧ SqL K H1 b ys ∧ tLc (fun _ H2 R => R (Itz K a b) H2) g tt te vs σ H1 Q) ∨
    (SqT K H1 a xs ∧ SqT K H1 b ys ∧ tLc (fun _ H2 R => R (RZ.ItzT K a b) H2) g tt te vs σ H1 Q))) : tLc (RZ.iZipA K ta) g tt te vs σ H Q := h
theorem r_lcZt {a b : Addr} (xs ys : List V) (n : Nat) (nx : xs.length = n) (ny : ys.length = n) (Pv : Addr → Nat → Hp → Prop) (h0 : ∀ D, H D = none → Pv D 0 (upd H D (.lst [])))
    (hl : ∀ D i H', H D = none → i ≤ n → Pv D i H' → SqT K H' a xs ∧ SqT K H' b ys)
    (hs : ∀ D i x y H' T, H D = none → xs[i]? = some x → ys[i]? = some y → Pv D i H' → H' T = none → g (.ref T) (wipe σ vs) (upd H' T (.tup [x, y])) fun σ2 H2 => wipe σ2 vs = wipe σ vs ∧ tt σ2 H2 fun b H3 =>
      if b = true then te σ2 H3 fun y H4 => ∃ acc, H4 D = some (.lst acc) ∧ acc.length < sizeLine ∧ Pv D (i + 1) (upd H4 D (.lst (acc ++ [y]))) else Pv D (i + 1) H3)
    (hd : ∀ D H', H D = none → Pv D n H' → Q (.ref D) H') : tLc (fun _ H2 R => R (RZ.ItzT K a b) H2) g tt te vs σ H Q := by
  refine fun D hD => ⟨fun i m H => m = n - i ∧ i ≤ n ∧ Pv D i H, ⟨n, by omega, Nat.zero_le _, h0 D hD⟩, ?_⟩
  rintro i m H' ⟨rfl, hi, p⟩
  obtain ⟨qx, qy⟩ := hl D i H' hD hi p
  by_cases lt : i < n
  · have ix : i < xs.length := by omega
    have iy : i < ys.length := by omega
    refine Or.inr ⟨⟨xs, ys, xs[i], ys[i], qx, qy, by simp [ix], by simp [iy]⟩, Pv D (i + 1), fun H' p' => ⟨n - (i + 1), by omega, rfl, lt, p'⟩, fun v H'' yy => ?_⟩
    obtain ⟨T, x, y, rfl, nT, rfl, f1, f2⟩ := yy
    exact hs D i x y H' T hD (f1 xs qx) (f2 ys qy) p nT
  · have e : i = n := by omega
    subst e
    exact Or.inl ⟨⟨xs, ys, qx, qy, .inl (by omega)⟩, hd D H' hD p⟩
theorem r_bits {to : TE} {σ : L2.St} {H : Hp} {Q : VK} (h : to σ H fun x H1 => ∃ i, x = .int i ∧ Q (.int (Builtin.Int.intBits i : Nat)) H1) : tBits to σ H Q := h
theorem r_dget {td ty : TE} {σ : L2.St} {H : Hp} {Q : VK} (h : td σ H fun x H1 => ty σ H1 fun y H2 => ∃ a v, x = .ref a ∧ DGet H2 a y (some v) ∧ Q v H2) : tDGet td ty σ H Q := h
theorem r_din {td ty : TE} {σ : L2.St} {H : Hp} {Q : VK} (h : ty σ H fun y H1 => td σ H1 fun x H2 => ∃ a o, x = .ref a ∧ DGet H2 a y o ∧ Q (.bl o.isSome) H2) : tDIn ty td σ H Q := h
theorem r_dput {td ty tv : TE} {D : Ends} {σ : L2.St} {H : Hp} (h : tv σ H fun v H1 => td σ H1 fun x H2 => ty σ H2 fun y H3 => ∃ a H4, x = .ref a ∧ DPut H3 a y v H4 ∧ D.nx σ H4) : sDPut td ty tv D σ H := h
theorem r_dnew {σ : L2.St} {H : Hp} {Q : VK} (h : ∀ p, H p = none → Q (.ref p) (upd H p (.dT []))) : tDNewT σ H Q := h
end
end Vf

namespace Vf
open PySem PySem.Spec PyProof.Rows L2
section
variable {D : Ends} {σ : L2.St} {H : Hp} {ts : TS}
/-- a statement that leaves the names as they are, and what stood: both ways go on together -/
theorem j_sm (hF : ∀ nx' : L2.St → Hp → Prop, (∀ H', Same H H' → nx' σ H') → ts { D with nx := nx' } σ H) (hQ : ∀ H', Same H H' → D.nx σ H') : ts D σ H :=
  j_s (fun σ' H' => σ' = σ ∧ Same H H') (fun nx' q => hF nx' fun H' s => q σ H' ⟨rfl, s⟩) (fun σ' H' h => by
    obtain ⟨rfl, s⟩ := h
    exact hQ H' s)
theorem j_kx {k : Addr} (hF : ∀ nx' : L2.St → Hp → Prop, (∀ H', Kx k H H' → nx' σ H') → ts { D with nx := nx' } σ H) (hQ : ∀ H', Kx k H H' → D.nx σ H') : ts D σ H :=
  j_s (fun σ' H' => σ' = σ ∧ Kx k H H') (fun nx' q => hF nx' fun H' s => q σ H' ⟨rfl, s⟩) (fun σ' H' h => by
    obtain ⟨rfl, s⟩ := h
    exact hQ H' s)
end
/-- a test that a proof decides both ways with one rest -/
theorem thru {c : Prop} [Decidable c] {A B : Prop} (hB : B) (hA : c → B → A) : if decide c = true then A else B := by
  by_cases h : c
  · rw [if_pos (decide_eq_true h)]
    exact hA h hB
  · rw [if_neg (by simp [h])]
    exact hB
theorem neq_same {s : Str} : (!decide (s = s)) = false := by rw [decide_eq_true rfl]; rfl
section
variable {X : Cx} {K : PySem.W.Frag}
/-- repr of None, a list or a tuple of data -/
def rReprO (K : PySem.W.Frag) : List V → Hp → VK → Prop := fun vs H Q => (vs = [.non] ∧ Q (.str "None") H) ∨ rRepr K vs H Q
theorem cr_reprO (hg : X.A.guards = some []) (hu : X.A.units + 64 < cLine) : CallR X (.builtin "repr") (rReprO X.K) := by
  intro pins s σ H xs us Q I r h
  rcases h with ⟨rfl, q⟩ | h
  · obtain ⟨u, rfl, r1⟩ := Vals.one r
    cases r1
    exact PySem.P.repr_of_none ⟨.str "None", H, I.kept fun _ _ z => z, ⟨_, rfl⟩, q⟩
  · exact cr_repr hg hu pins s σ H xs us Q I r h
theorem c_reprO (e : X.K = K) (hg : X.A.guards = some []) (hu : X.A.units + 64 < cLine) : CallR X (.builtin "repr") (rReprO K) := by subst e; exact cr_reprO hg hu
end
end Vf

namespace Vf
open PySem PySem.Spec PyProof.Rows L2
/-- xs.insert(0, y) -/
def rInsert : V → List V → Hp → VK → Prop := fun x vs H Q => ∃ (l : Addr) (xs : List V) (y : V), x = .ref l ∧ vs = [.int 0, y] ∧ H l = some (.lst xs) ∧ xs.length ≤ 100000 ∧ Q .non (upd H l (.lst (y :: xs)))
theorem mt_ins {X : Cx} : MtR X "list.insert" rInsert := by
  intro pins s σ H x vs v us Q I rx rv h
  obtain ⟨l, xs, y, rfl, rfl, hH, hz, q⟩ := h
  exact mt_insert pins s σ H _ _ v us Q I rx rv ⟨l, xs, 0, y, rfl, rfl, hH, Nat.lt_of_le_of_lt hz (by decide), by decide, by decide, q⟩
theorem r_ins {l : Addr} {xs : List V} {y : V} {H : Hp} {Q : VK} (e : H l = some (.lst xs)) (hz : xs.length ≤ 100000) (h : Q .non (upd H l (.lst (y :: xs)))) : rInsert (.ref l) [.int 0, y] H Q := ⟨l, xs, y, rfl, rfl, e, hz, h⟩
end Vf

namespace Vf
open PySem PySem.Spec PyProof.Rows L2
/-! ## sorted of tuples of ints of any length; membership among data -/
section
variable {X : Cx} {K : PySem.W.Frag}
abbrev leR : List Int → List Int → Bool := PySem.W.dataLe false tupD
def rSortedTs (K : PySem.W.Frag) : List V → Hp → VK → Prop := fun vs H Q => ∃ (a : Addr) (xs : List V) (nss : List (List Int)), vs = [.ref a] ∧ SqL K H a xs ∧ RowsAt K H xs nss ∧ (nss.length ≤ 1 ∨ ∀ ns ∈ nss, ns ≠ []) ∧ nss.length ≤ 100000 ∧
  ∀ ys p, RowsAt K H ys (nss.mergeSort leR) → H p = none → Q (.ref p) (upd H p (.lst ys))
theorem rows_refs {H : Hp} : ∀ {xs : List V} {nss : List (List Int)}, RowsAt K H xs nss → ∀ x ∈ xs, ∃ t, x = V.ref t
  | _, _, .nil, x, h => by cases h
  | _, _, .cons h t, x, hx => by
    rcases List.mem_cons.mp hx with z | z
    · obtain ⟨p, e, _⟩ := h
      exact ⟨p, z.trans e⟩
    · exact rows_refs t x z
theorem rows_zip {H : Hp} : ∀ {xs : List V} {nss : List (List Int)} {its : List Value}, RowsAt K H xs nss → Vals xs its → PySem.W.EachIs (fun v b => v = b.1) its (its.zip nss) ∧ (∀ b ∈ its.zip nss, ∃ p, b.1 = Value.ref p ∧ SqT K H p (b.2.map V.int)) ∧ (its.zip nss).map Prod.snd = nss
  | _, _, _, .nil, .nil => ⟨.nil, (fun b h => nomatch h), rfl⟩
  | _, _, _, .cons h t, .cons r1 r2 => by
    obtain ⟨i1, i2, i3⟩ := rows_zip t r2
    obtain ⟨p, rfl, e⟩ := h
    cases r1
    refine ⟨.cons rfl i1, fun b hb => ?_, by rw [List.zip_cons_cons, List.map_cons, i3]⟩
    rcases List.mem_cons.mp hb with z | z
    · rw [z]
      exact ⟨p, rfl, e⟩
    · exact i2 b z
theorem rows_reads {pins : List (Addr × Obj)} {σ : L2.St} {H : Hp} {s : Shared} (I : Inv X pins σ H s) : ∀ {xs : List V} {nss : List (List Int)} {its : List Value}, RowsAt X.K H xs nss → Vals xs its → PySem.W.EachIs (fun v b => ∃ as, Reads s.heap v (tupD b.2) as) its (its.zip nss)
  | _, _, _, .nil, .nil => .nil
  | _, _, _, .cons h t, .cons r1 r2 => by
    obtain ⟨p, rfl, e⟩ := h
    exact .cons (Dp.reads I _ _ _ (Dp.tupD e) r1) (rows_reads I t r2)
theorem each_fst {bs : List (Value × List Int)} : ∀ {out : List Value}, PySem.W.EachIs (fun v b => v = b.1) out bs → out = bs.map Prod.fst := fun {out} h => by
  induction h with
  | nil => rfl
  | cons h _ ih => rw [h, ih]; rfl
theorem rows_of {H : Hp} : ∀ bs : List (Value × List Int), (∀ b ∈ bs, ∃ p, b.1 = Value.ref p ∧ SqT K H p (b.2.map V.int)) → RowsAt K H ((bs.map Prod.fst).map backV) (bs.map Prod.snd)
  | [], _ => .nil
  | b :: bs, h => by
    obtain ⟨p, e, s⟩ := h b List.mem_cons_self
    exact .cons ⟨p, by rw [e]; rfl, s⟩ (rows_of bs fun c hc => h c (List.mem_cons_of_mem _ hc))
theorem cr_sortedTs (hu : X.A.units + 64 < cLine) : CallR X (.builtin "sorted") (rSortedTs X.K) := by
  intro pins s σ H vs us Q I r h
  obtain ⟨a, xs, nss, rfl, hs, R, hne, hb, q⟩ := h
  obtain ⟨its, rv, hl, hz⟩ := I.list hs
  obtain ⟨u, rfl, ru⟩ := vals1 r
  obtain rfl : u = Value.ref a := ru
  obtain ⟨e1, e2⟩ := refs_back rv (rows_refs R)
  obtain ⟨z1, z2, z3⟩ := rows_zip R rv
  have lz : (its.zip nss).length = nss.length := by rw [← List.length_map (f := Prod.snd), z3]
  have li : its.length = nss.length := by rw [← rv.length]; exact Paired.length R
  have fin : ∀ out : List Value, (∀ u ∈ out, u ∈ its) → out.length = its.length → RowsAt X.K H (out.map backV) (nss.mergeSort leR) → ∀ (h' : Heap) (d : Addr), (∀ b o, s.heap.get? b = some o → h'.get? b = some o) → s.heap.objs.size ≤ d → (∃ n, h'.get? d = some (seqObj "list" out.toArray n)) → EP X pins σ Q (.ref d) { s with heap := h' } := fun out hm hl2 hR h' d kp hd hn => by
    have h3 : ∀ u ∈ out, ∃ a, u = Value.ref a := fun u hu => e2 u (hm u hu)
    obtain ⟨n, hn⟩ := hn
    refine ⟨.ref d, upd H d (.lst (out.map backV)), I.laid (t' := s.toks) kp hd ⟨?_, out, n, vals_back h3, hn⟩, rfl, q _ d hR (I.hok.fresh hd)⟩
    rw [List.length_map, hl2, ← rv.length]
    exact hz
  rcases hne with h1 | hne
  · have O : SrtO.Swo (fun _ _ : Value => false) := ⟨fun _ _ h => (nomatch h), fun _ _ _ _ _ => rfl⟩
    refine SrtO.sorted_ord O hl.isList (by rw [← rv.length]; exact hz) (fun h2 => absurd h2 (by omega)) fun out hs hb => ?_
    have eo : out = its := by
      have hp := hb.perm
      match its, li ▸ h1, hp with
      | [], _, hp => exact List.perm_nil.mp hp
      | [x], _, hp => exact List.perm_singleton.mp hp
      | _ :: _ :: _, h, _ => exact absurd h (by simp)
    subst eo
    refine fin out (fun u h => h) rfl ?_ _ _ (fun b o e => sortedAll_old e) (Nat.le_succ _) (sortedAll_at s.heap out out.toArray)
    rw [← e1, show nss.mergeSort leR = nss by
      match nss, h1 with
      | [], _ => simp
      | [x], _ => simp
      | _ :: _ :: _, h => exact absurd h (by simp)]
    exact R
  · refine PySem.W.sorted_data (bs := its.zip nss) (enc := fun b => tupD b.2) (R := fun v b => v = b.1) hl.isList z1 ?_ ?_ ?_ ?_ ?_ fun out hlen ho => ?_
    · exact rows_reads I R rv
    · exact PySem.W.AllAlike.of fun b b' => by
        show PySem.W.alike (.tuple (b.2.map PyData.int)) (.tuple (b'.2.map PyData.int)) = true
        rw [PySem.W.alike]
        exact PySem.W.alike_ints b.2 b'.2
    · refine .inl fun d hd => ?_
      obtain ⟨b, hb2, rfl⟩ := List.mem_map.mp hd
      have hm : b.2 ∈ nss := by
        rw [← z3]
        exact List.mem_map.mpr ⟨b, hb2, rfl⟩
      have := hne b.2 hm
      cases hh : b.2 with
      | nil => exact absurd hh this
      | cons x r => exact ⟨_, _, rfl⟩
    · rw [lz, ← li, ← rv.length]
      exact hz
    · intro b _
      show X.A.units + 2 + (PyData.depthAll (b.2.map PyData.int) + 1) < cLine
      rw [depthInts]
      omega
    · have eo := each_fst ho
      have pm : ((its.zip nss).mergeSort (PySem.W.dataLe false fun b => tupD b.2)).Perm (its.zip nss) := List.mergeSort_perm ..
      have em : ((its.zip nss).mergeSort (PySem.W.dataLe false fun b => tupD b.2)).map Prod.snd = nss.mergeSort leR := by
        have hh := List.map_mergeSort (f := Prod.snd) (r := PySem.W.dataLe false fun b : Value × List Int => tupD b.2) (s := leR) (l := its.zip nss) fun a _ b _ => rfl
        rw [z3] at hh
        exact hh
      have hR := rows_of (K := X.K) (H := H) _ fun b hb2 => z2 b (pm.mem_iff.mp hb2)
      rw [em, ← eo] at hR
      refine fin out (fun u hu2 => ?_) (by rw [hlen, lz, li]) hR _ _ (fun b o e => sortedAll_old e) (Nat.le_succ _) (sortedAll_at s.heap its out.toArray)
      rw [eo] at hu2
      obtain ⟨b, hb2, rfl⟩ := List.mem_map.mp hu2
      exact (List.of_mem_zip (pm.mem_iff.mp hb2)).1
theorem c_sortedTs (e : X.K = K) (hu : X.A.units + 64 < cLine) : CallR X (.builtin "sorted") (rSortedTs K) := by subst e; exact cr_sortedTs hu
/-! the order of rows -/
theorem leR_le (a b : List Int) : leR a b = decide (a ≤ b) := by
  show (!PySem.W.dataLt (.tuple (b.map PyData.int)) (.tuple (a.map PyData.int))) = _
  rw [PySem.W.dataLt_tuple]
  show (!PySem.W.rowLt (b.map PyData.int) (a.map PyData.int)) = _
  rw [PySem.W.dataLt_ints]
  by_cases h : b < a
  · rw [decide_eq_true h, decide_eq_false (List.not_le.mpr h)]
    rfl
  · rw [decide_eq_false h, decide_eq_true (List.not_lt.mp h)]
    rfl
/-- sorting knows only what there is -/
theorem sort_perm {l m : List (List Int)} (h : l.Perm m) : l.mergeSort leR = m.mergeSort leR := by
  have tr : ∀ a b c : List Int, leR a b = true → leR b c = true → leR a c = true := fun a b c h1 h2 => by
    rw [leR_le] at *
    exact decide_eq_true (List.le_trans (of_decide_eq_true h1) (of_decide_eq_true h2))
  have tot : ∀ a b : List Int, (leR a b || leR b a) = true := fun a b => by
    rw [leR_le, leR_le]
    rcases List.le_total a b with h | h <;> simp [h]
  have p1 := List.pairwise_mergeSort (le := leR) tr tot l
  have p2 := List.pairwise_mergeSort (le := leR) tr tot m
  refine List.Perm.eq_of_pairwise (le := fun a b => leR a b = true) (fun a b _ _ h1 h2 => ?_) p1 p2 (((List.mergeSort_perm l leR).trans h).trans (List.mergeSort_perm m leR).symm)
  rw [leR_le] at h1 h2
  exact List.le_antisymm (of_decide_eq_true h1) (of_decide_eq_true h2)
end
section
variable {X : Cx} {K : PySem.W.Frag}
theorem o_inD (e : X.K = K) (hu : X.A.units + 65 < cLine) : OpR X (compareOp .In) (rInD K) := by subst e; exact op_inD hu
theorem o_notInD (e : X.K = K) (hu : X.A.units + 65 < cLine) : OpR X (compareOp .NotIn) (rNotInD K) := by subst e; exact op_notInD hu
/-- a tuple of ints among tuples of ints -/
theorem any_rows (nss : List (List Int)) (ns : List Int) : ((nss.map tupD).any fun z => PyData.eqv z (tupD ns)) = decide (ns ∈ nss) := by
  induction nss with
  | nil => rfl
  | cons a l ih =>
    rw [List.map_cons, List.any_cons, ih, show PyData.eqv (tupD a) (tupD ns) = decide (a = ns) from eqvInts a ns]
    by_cases h : a = ns
    · simp [h]
    · simp [h, Ne.symm h]
theorem shapedRows (nss : List (List Int)) : SeqAt.shaped (.list (nss.map tupD)) = true := by
  have c : ∀ l : List (List Int), PyData.canLayAll0 (l.map tupD) = true := fun l => by
    induction l with
    | nil => rfl
    | cons a l ih =>
      show ((tupD a).canLay0 && PyData.canLayAll0 (l.map tupD)) = true
      rw [ih, show (tupD a).canLay0 = true from canInts a]
      rfl
  have d : ∀ l : List (List Int), PyData.depthAll (l.map tupD) ≤ 1 := fun l => by
    induction l with
    | nil => exact Nat.zero_le _
    | cons a l ih =>
      show max (PyData.depthAll (a.map PyData.int) + 1) (PyData.depthAll (l.map tupD)) ≤ 1
      rw [depthInts]
      omega
  unfold SeqAt.shaped
  rw [Bool.and_eq_true]
  refine ⟨c nss, decide_eq_true ?_⟩
  show PyData.depthAll (nss.map tupD) + 1 ≤ 64
  have := d nss
  omega
theorem r_notInT {H : Hp} {Q : VK} {x y : Addr} {vs : List V} (ns : List Int) (nss : List (List Int)) (h1 : SqT K H x (ns.map V.int)) (h2 : SqL K H y vs) (R : RowsAt K H vs nss) (h : Q (.bl (!decide (ns ∈ nss))) H) : rNotInD K (.ref x) (.ref y) H Q := by
  refine ⟨tupD ns, nss.map tupD, Dp.tupD h1, .lst h2 R.dp, shapedTup ns, shapedRows nss, ?_⟩
  rw [any_rows]
  exact h
end
end Vf

namespace Vf
open PySem PySem.Spec PyProof.Rows L2
/-! ## zip of two lists in a comprehension -/
section
variable {K : PySem.W.Frag} {σ : L2.St} {H : Hp} {Q : VK} {g : TG} {tt : TT} {te : TE} {vs : List Nat}
theorem r_lcZli {ta : TA} (h : ta σ H fun ws H1 => ∃ a b xs ys, ws = [.ref a, .ref b] ∧ SqL K H1 a xs ∧ SqL K H1 b ys ∧ tLc (fun _ H2 R => R (Itz K a b) H2) g tt te vs σ H1 Q) : tLc (iZip K ta) g tt te vs σ H Q := h
theorem r_lcZl {a b : Addr} (xs ys : List V) (n : Nat) (nx : xs.length = n) (ny : ys.length = n) (Pv : Addr → Nat → Hp → Prop) (h0 : ∀ D, H D = none → Pv D 0 (upd H D (.lst [])))
    (hl : ∀ D i H', H D = none → i ≤ n → Pv D i H' → SqL K H' a xs ∧ SqL K H' b ys)
    (hs : ∀ D i x y H' T, H D = none → xs[i]? = some x → ys[i]? = some y → Pv D i H' → H' T = none → g (.ref T) (wipe σ vs) (upd H' T (.tup [x, y])) fun σ2 H2 => wipe σ2 vs = wipe σ vs ∧ tt σ2 H2 fun b H3 =>
      if b = true then te σ2 H3 fun y H4 => ∃ acc, H4 D = some (.lst acc) ∧ acc.length < sizeLine ∧ Pv D (i + 1) (upd H4 D (.lst (acc ++ [y]))) else Pv D (i + 1) H3)
    (hd : ∀ D H', H D = none → Pv D n H' → Q (.ref D) H') : tLc (fun _ H2 R => R (Itz K a b) H2) g tt te vs σ H Q := by
  refine fun D hD => ⟨fun i m H => m = n - i ∧ i ≤ n ∧ Pv D i H, ⟨n, by omega, Nat.zero_le _, h0 D hD⟩, ?_⟩
  rintro i m H' ⟨rfl, hi, p⟩
  obtain ⟨qx, qy⟩ := hl D i H' hD hi p
  by_cases lt : i < n
  · have ix : i < xs.length := by omega
    have iy : i < ys.length := by omega
    refine Or.inr ⟨⟨xs, ys, xs[i], ys[i], qx, qy, by simp [ix], by simp [iy]⟩, Pv D (i + 1), fun H' p' => ⟨n - (i + 1), by omega, rfl, lt, p'⟩, fun v H'' yy => ?_⟩
    obtain ⟨T, x, y, rfl, nT, rfl, f1, f2⟩ := yy
    exact hs D i x y H' T hD (f1 xs qx) (f2 ys qy) p nT
  · have e : i = n := by omega
    subst e
    exact Or.inl ⟨⟨xs, ys, qx, qy, .inl (by omega)⟩, hd D H' hD p⟩
end
/-- the truth of a value, told by K alone: for the tests of comprehensions -/
theorem pt_truK {X : Cx} {K : PySem.W.Frag} {a : Expr} {ta : TE} (e : X.K = K) (ha : PE X a ta) (he : ∀ whole, isTrue a X.env whole = (do let v ← whole; standAt a.pos; holding [v] (truthy v))) :
    PT X a (fun σ H Q => ta σ H fun x H' => ∃ k, TruV K x H' k ∧ Q k H') := by
  subst e
  exact pt_truth ha he
end Vf

namespace Vf
open PySem PySem.Spec PyProof.Rows L2
/-! ## sorted of a dict's keys: ints, pairs of ints -/
section
variable {X : Cx} {K : PySem.W.Frag}
/-- sorted(d), keys ints, any number of them -/
def rSortedDK : List V → Hp → VK → Prop := fun xs H Q => ∃ (a : Addr) (kvs : List (Key × V)) (ks : List Int), xs = [.ref a] ∧ Rd H a (.dK kvs) ∧ kvs.map (·.1) = ks.map Sum.inl ∧
  ∀ (ys : List Int) (p : Addr), ys.Perm ks → ys.Pairwise (· ≤ ·) → H p = none → Q (.ref p) (upd H p (.lst (ys.map V.int)))
theorem cr_sortedDK (hcalm : X.calm = true) : CallR X (.builtin "sorted") rSortedDK := by
  intro pins s σ H xs us Q I r q
  obtain ⟨a, kvs, ks, ex, hd, hks, q⟩ := q
  subst ex
  obtain ⟨u, eu, rx⟩ := vals1 r
  subst eu
  cases rx
  obtain ⟨z, lo, vs, rel, dd⟩ := dk_rd I.hok hd
  obtain ⟨ep, hat⟩ := dd.dictAt
  have hkeys : vs.map (·.1) = ks.map Sum.inl := rel.keys.symm.trans hks
  have hl : vs.length = ks.length := by
    have e := congrArg List.length hkeys
    rw [List.length_map, List.length_map] at e
    exact e
  have h16 : vs.length ≤ sizeLine := by rw [← rel.length]; exact z
  refine Calls.call_function_entry PyProof.Rows.kind_sorted PyProof.Rows.plain_sorted PyProof.Rows.entry_sorted (PyProof.Rows.args_sorted1 _) ?_
  unfold Builtin.«sorted»
  refine wpAny_bind (m := checkCount "sorted" 1 1 _) (wpAny_pure ?_)
  refine wpAny_bind (PySem.W.kdu_collect (A := X.A.in1) (PySem.W.kdl_dict (knd := mixKind X.prog X.w) (kvs := vs) (ep := ep) lo) (I.ok.hd hcalm) hat h16 fun h' tk acc hk hacc => ?_)
  have hal : acc.toList.length = ks.length := by rw [Array.length_toList, hacc.1, hl]
  have hS : IntsAre acc.toList ks := ints_each hal fun j v e => by
    obtain ⟨k, x, e1, e2⟩ := hacc.2 j v (by rw [← Array.getElem?_toList]; exact e)
    have e3 : (vs.map (·.1))[j]? = some k := by rw [List.getElem?_map, e1]; rfl
    rw [hkeys, List.getElem?_map] at e3
    cases e4 : ks[j]? with
    | none => rw [e4] at e3; cases e3
    | some y =>
      rw [e4] at e3
      have e5 : Sum.inl y = k := Option.some.inj e3
      subst e5
      rcases keyIs_shape (show keyIs (Sum.inl y) v = true from e2) with ⟨i, t, ek, ev⟩ | ⟨z, t, ek, ev⟩
      · cases ek
        exact ⟨y, t, rfl, ev⟩
      · cases ek
  have I1 : Inv X pins σ H { s with heap := h', toks := tk } := I.kept hk
  have hz : acc.toList.length ≤ sizeLine := by rw [hal, ← hl]; exact h16
  refine wpAny_bind (wpAny_newList ?_ hz)
  have hoL : (h'.push (seqObj "list" acc.toList.toArray 0)).get? h'.objs.size = some (seqObj "list" acc.toList.toArray 0) := Heap.get?_push_size _ rfl
  show wpAny _ _ _ _ _ { s with heap := h'.push (seqObj "list" acc.toList.toArray 0), toks := tk }
  refine wpAny_bind (wpAny_holding (wpAny_call_entry PyProof.Rows.slot_list_sort ⟨_, hoL, rfl⟩ PyProof.Rows.entry_list_sort
    (SrtO.list_sort_ord (s := { s with heap := h'.push (seqObj "list" acc.toList.toArray 0), toks := tk }) SrtO.swo_int hoL hz (fun h2 => SrtO.ints_sortable hS h2) fun out g1 g2 => ⟨_, rfl, ?_⟩) (PyProof.Rows.args_list_sort _)))
  obtain ⟨k1, k2, k3⟩ := SrtO.ints_out hS g1 g2
  obtain ⟨e', he'⟩ := PyProof.Rows.sortedHeap_at (vs := acc.toList) (out := out.toArray) hoL
  have hlen : ((out.map SrtO.iv).map V.int).length ≤ sizeLine := by
    rw [List.length_map, k2.length_eq, ← hl]
    exact h16
  refine wpAny_pure ⟨_, rfl, .ref h'.objs.size, upd H h'.objs.size (.lst ((out.map SrtO.iv).map V.int)), I1.laid (t' := tk) (fun b u e => ?_) (Nat.le_refl _)
    (show ObjOk X.prog X.w _ _ _ (.lst ((out.map SrtO.iv).map V.int)) from ⟨hlen, out, e', vals_of_ints k1, he'⟩), rfl, q _ _ k2 k3 (I1.hok.fresh (Nat.le_refl _))⟩
  have hb : b < h'.objs.size := Heap.lt_size e
  rw [PyProof.Rows.sortedHeap_old (Nat.ne_of_lt hb) (by rw [size_push']; exact Nat.lt_succ_of_lt hb)]
  exact Heap.get?_push_of_some _ e
theorem c_sortedDK (hcalm : X.calm = true) : CallR X (.builtin "sorted") rSortedDK := cr_sortedDK hcalm
/-- the pair that a tracked value is -/
def pairV (H : Hp) : V → Int × Int
  | .ref t => match H t with
    | some (.tup [.int i, .int j]) => (i, j)
    | _ => (0, 0)
  | _ => (0, 0)
theorem pairV_of {H : Hp} {t : Addr} {i j : Int} (h : H t = some (.tup [.int i, .int j])) : pairV H (.ref t) = (i, j) := by
  show (match H t with
    | some (.tup [.int i, .int j]) => (i, j)
    | _ => (0, 0)) = (i, j)
  rw [h]
def PairK (H : Hp) (v : V) (k : Int × Int) : Prop := ∃ t, v = .ref t ∧ H t = some (.tup [.int k.1, .int k.2])
def keyP (k : Int × Int) : List Key := [Sum.inl k.1, Sum.inl k.2]
/-- sorted(d), keys pairs of ints: they stand in some order -/
def rSortedDT : List V → Hp → VK → Prop := fun xs H Q => ∃ (a : Addr) (kvs : List (List Key × V)) (ks : List (Int × Int)), xs = [.ref a] ∧ Rd H a (.dT kvs) ∧ kvs.map (·.1) = ks.map keyP ∧
  ∀ (ys : List V) (ks' : List (Int × Int)) (p : Addr), ks'.Perm ks → Paired (PairK H) ys ks' → H p = none → Q (.ref p) (upd H p (.lst ys))
theorem pairs_made {H : Hp} : ∀ (bs : List Addr) (ks : List (Int × Int)), Paired (fun b k => H b = some (.tup [.int k.1, .int k.2])) bs ks → (∀ b ∈ bs, ∃ i j, H b = some (.tup [.int i, .int j])) ∧ (bs.map V.ref).map (pairV H) = ks
  | _, _, .nil => ⟨(fun b hb => nomatch hb), rfl⟩
  | _, _, .cons h t => by
    obtain ⟨h1, h2⟩ := pairs_made _ _ t
    refine ⟨fun b hb => ?_, ?_⟩
    · rcases List.mem_cons.mp hb with e | e
      · rw [e]
        exact ⟨_, _, h⟩
      · exact h1 b e
    · rw [List.map_cons, List.map_cons, h2, pairV_of h]
theorem paired_pairV {H : Hp} : ∀ ys : List V, (∀ y ∈ ys, ∃ t i j, y = .ref t ∧ H t = some (.tup [.int i, .int j])) → Paired (PairK H) ys (ys.map (pairV H))
  | [], _ => .nil
  | y :: ys, h => by
    obtain ⟨t, i, j, rfl, e⟩ := h _ List.mem_cons_self
    refine .cons ⟨t, rfl, by rw [pairV_of e]; exact e⟩ (paired_pairV ys fun z hz => h z (List.mem_cons_of_mem _ hz))
theorem kt_pairs {H : Hp} : ∀ {kvs : List (List Key × V)} {xs : List (List Key × Addr × Value)} (ks : List (Int × Int)), KT H kvs xs → kvs.map (·.1) = ks.map keyP → Paired (fun b k => H b = some (.tup [.int k.1, .int k.2])) (xs.map fun x => x.2.1) ks
  | _, _, [], .nil, _ => .nil
  | _, _, k :: ks, .cons h t, e => by
    obtain ⟨e1, e2⟩ := List.cons.inj e
    refine .cons ?_ (kt_pairs ks t e2)
    have h1 := h.2.1
    dsimp only at e1
    rw [e1] at h1
    exact h1
  | _, _, [], .cons h t, e => by cases e
  | _, _, k :: ks, .nil, e => by cases e
theorem cr_sortedDT (hcalm : X.calm = true) : CallR X (.builtin "sorted") rSortedDT := by
  intro pins s σ H xs us Q I r q
  obtain ⟨d, kvs, ks, rfl, hd, hks, q⟩ := q
  obtain ⟨u, rfl, rx⟩ := r.one
  cases rx
  obtain ⟨z, hs, kx, pr, o, es, ep, ho, hx, hdt, he, hn⟩ := (show ObjOk X.prog X.w H s.heap d (.dT kvs) from hd.ok I.hok)
  have l1 : es.size = kx.length := size_of_entries he
  have l2 : kvs.length = kx.length := Paired.length pr
  refine Calls.call_function_entry PyProof.Rows.kind_sorted PyProof.Rows.plain_sorted PyProof.Rows.entry_sorted (PyProof.Rows.args_sorted1 _) ?_
  unfold Builtin.«sorted»
  refine wpAny_bind (m := checkCount "sorted" 1 1 _) (wpAny_pure ?_)
  refine wpAny_bind (PySem.W.kdu_collect (A := X.A.in1) (kdl_raw hs hx hdt) (I.ok.hd hcalm) ho (by omega) fun h' tk acc hk it => ?_)
  have ea : acc.toList = kx.map fun x => Value.ref x.2.1 := by
    have hl : acc.toList.length = kx.length := by rw [Array.length_toList, it.1]; exact l1
    apply List.ext_getElem?
    intro j
    rw [List.getElem?_map]
    cases hj : acc.toList[j]? with
    | none =>
      have h1 := List.getElem?_eq_none_iff.mp hj
      rw [List.getElem?_eq_none (by omega)]
      all_goals rfl
    | some v =>
      obtain ⟨en, hen, hv⟩ := it.2 j v (by rw [← Array.getElem?_toList]; exact hj)
      have qe := entry_at he j
      rw [hen] at qe
      cases hb : kx[j]? with
      | none =>
        rw [hb] at qe
        exact nomatch (show some en = none from qe)
      | some b =>
        rw [hb] at qe
        have e2 : en = entryOfKey (tupleKind (mixKind X.prog X.w)) b := Option.some.inj qe
        rw [hv, e2]
        all_goals rfl
  have eb : acc.toList = (kx.map fun x => x.2.1).map Value.ref := by rw [ea, List.map_map]; all_goals rfl
  have P := kt_pairs ks pr hks
  generalize (kx.map fun x => x.2.1) = bs at eb P
  have lb : bs.length = kx.length := by
    have := congrArg List.length eb
    rw [List.length_map, Array.length_toList, it.1] at this
    omega
  obtain ⟨P1, P2⟩ := pairs_made _ _ P
  have I1 : Inv X pins σ H { s with heap := h', toks := tk } := I.kept hk
  have hz : acc.toList.length ≤ sizeLine := by rw [eb, List.length_map, lb, ← l2]; exact z
  have hp : ∀ v ∈ acc.toList, Srt.IsPair h' v (pairV H (backV v)).1 (pairV H (backV v)).2 := fun v hv => by
    rw [eb] at hv
    obtain ⟨t, ht, rfl⟩ := List.mem_map.mp hv
    obtain ⟨i, j, e⟩ := P1 t ht
    obtain ⟨_, its2, r2, o2, ho2, hc2, n, hd2⟩ := I1.hok _ _ e
    obtain ⟨u1, u2, rfl, ri, rj⟩ := vals2 r2
    obtain ⟨t1, rfl⟩ := ri
    obtain ⟨t2, rfl⟩ := rj
    rw [show backV (Value.ref t) = V.ref t from rfl, pairV_of e]
    exact ⟨t, o2, t1, t2, n, rfl, ho2, hc2, hd2⟩
  refine wpAny_bind (wpAny_newList ?_ hz)
  have hoL : (h'.push (seqObj "list" acc.toList.toArray 0)).get? h'.objs.size = some (seqObj "list" acc.toList.toArray 0) := Heap.get?_push_size _ rfl
  have keepP : ∀ b u, h'.get? b = some u → (h'.push (seqObj "list" acc.toList.toArray 0)).get? b = some u := fun b u e => Heap.get?_push_of_some _ e
  show wpAny _ _ _ _ _ { s with heap := h'.push (seqObj "list" acc.toList.toArray 0), toks := tk }
  refine wpAny_bind (wpAny_holding (wpAny_call_entry PyProof.Rows.slot_list_sort ⟨_, hoL, rfl⟩ PyProof.Rows.entry_list_sort
    (SrtO.list_sort_ord (s := { s with heap := h'.push (seqObj "list" acc.toList.toArray 0), toks := tk }) (SrtO.swo_lex fun u => pairV H (backV u)) hoL hz (fun h2 => SrtO.pairs_sortableO (by omega) (fun v hv => (hp v hv).keeps fun b o e _ => keepP b o e) fun o e => ?_) fun out g1 g2 => ⟨_, rfl, ?_⟩) (PyProof.Rows.args_list_sort _)))
  · have e' : some o = some (seqObj "list" acc.toList.toArray 0) := e.symm.trans hoL
    cases e'
    intro c
    exact absurd (Value.type.inj c) (by decide)
  · have h3 : ∀ u ∈ out, ∃ t, u = Value.ref t ∧ t ∈ bs := fun u hu => by
      have := g2.perm.mem_iff.mp hu
      rw [eb] at this
      obtain ⟨t, ht, rfl⟩ := List.mem_map.mp this
      exact ⟨t, rfl, ht⟩
    obtain ⟨e', he'⟩ := PyProof.Rows.sortedHeap_at (vs := acc.toList) (out := out.toArray) hoL
    have pm : (out.map backV).Perm (bs.map V.ref) := by
      have := g2.perm.map backV
      rw [eb, List.map_map] at this
      exact this
    have hlen : (out.map backV).length ≤ sizeLine := by
      rw [pm.length_eq, List.length_map, lb, ← l2]
      exact z
    refine wpAny_pure ⟨_, rfl, .ref h'.objs.size, upd H h'.objs.size (.lst (out.map backV)), I1.laid (t' := tk) (fun b u e => ?_) (Nat.le_refl _)
      (show ObjOk X.prog X.w _ _ _ (.lst (out.map backV)) from ⟨hlen, out, e', vals_back (fun u hu => by obtain ⟨t, e, _⟩ := h3 u hu; exact ⟨t, e⟩), he'⟩), rfl, q _ ((out.map backV).map (pairV H)) _ (by have := pm.map (pairV H); rw [P2] at this; exact this) (paired_pairV _ fun y hy => ?_) (I1.hok.fresh (Nat.le_refl _))⟩
    · have hb : b < h'.objs.size := Heap.lt_size e
      rw [PyProof.Rows.sortedHeap_old (Nat.ne_of_lt hb) (by rw [size_push']; exact Nat.lt_succ_of_lt hb)]
      exact Heap.get?_push_of_some _ e
    · obtain ⟨u, hu, rfl⟩ := List.mem_map.mp hy
      obtain ⟨t, rfl, ht⟩ := h3 u hu
      obtain ⟨i, j, e⟩ := P1 t ht
      exact ⟨t, i, j, rfl, e⟩
theorem c_sortedDT (hcalm : X.calm = true) : CallR X (.builtin "sorted") rSortedDT := cr_sortedDT hcalm
end
end Vf

namespace Vf
open PySem PySem.Spec PyProof.Rows L2
/-! ## ranges upwards by a step -/
theorem range_up {i j c : Int} (hc : 0 < c) (h : i < j) : Builtin.Range.rangeSize i j c = (((j - i - 1) / c + 1).toNat : Int) := by
  unfold Builtin.Range.rangeSize
  rw [if_pos (by omega), if_pos h]
  have := Int.ediv_nonneg (a := j - i - 1) (b := c) (by omega) (by omega)
  omega
theorem RgC.up {i j c : Int} (h0 : 0 ≤ i) (h : i < j) (hj : j < 2 ^ 29) (hc : 0 < c) (hc1 : c < 2 ^ 29) : RgC i j c ((j - i - 1) / c + 1).toNat := by
  refine ⟨by omega, by omega, ?_, range_up hc h⟩
  have h1 := Int.ediv_nonneg (a := j - i - 1) (b := c) (by omega) (by omega)
  have h2 := Int.ediv_le_self c (show (0 : Int) ≤ j - i - 1 by omega)
  unfold Builtin.Range.small
  rw [range_up hc h]
  have e : (((j - i - 1) / c + 1).toNat : Int) = (j - i - 1) / c + 1 := by omega
  rw [e]
  generalize (j - i - 1) / c = q at *
  simp only [Builtin.Range.rangeFitsLong, Bool.and_eq_true, Bool.or_eq_true, decide_eq_true_eq, beq_iff_eq]
  simp only [show c > 0 from hc, if_true]
  simp only [Bool.and_eq_true, decide_eq_true_eq]
  omega
/-- the turns are just the numbers of 0..b-1 that leave the rest -/
theorem up_mem {k g b : Int} (h0 : 0 ≤ k) (h1 : k < g) (hb : k < b) (r : Int) : (∃ i : Nat, i < ((b - k - 1) / g + 1).toNat ∧ r = k + (i : Int) * g) ↔ 0 ≤ r ∧ r < b ∧ r % g = k := by
  have q0 := Int.ediv_nonneg (a := b - k - 1) (b := g) (by omega) (by omega)
  have e := Int.mul_ediv_add_emod (b - k - 1) g
  have l := Int.emod_lt_of_pos (b - k - 1) (show 0 < g by omega)
  have l0 := Int.emod_nonneg (b - k - 1) (show g ≠ 0 by omega)
  constructor
  · rintro ⟨i, hi, rfl⟩
    have hi2 : (i : Int) ≤ (b - k - 1) / g := by omega
    have m := Int.mul_le_mul_of_nonneg_right hi2 (show 0 ≤ g by omega)
    have m0 := Int.mul_nonneg (show (0 : Int) ≤ i by omega) (show 0 ≤ g by omega)
    rw [Int.mul_comm g] at e
    refine ⟨by omega, by omega, ?_⟩
    rw [Int.add_mul_emod_self_right, Int.emod_eq_of_lt h0 h1]
  · rintro ⟨r0, r1, hr⟩
    have er := Int.mul_ediv_add_emod r g
    have d0 := Int.ediv_nonneg (a := r) (b := g) r0 (by omega)
    have er2 : r = k + r / g * g := by
      rw [hr] at er
      rw [Int.mul_comm g] at er
      omega
    refine ⟨(r / g).toNat, ?_, by rw [Int.toNat_of_nonneg d0]; exact er2⟩
    have : r / g ≤ (b - k - 1) / g := by
      rw [Int.le_ediv_iff_mul_le (by omega)]
      omega
    omega
/-! ## a walk of two lists, pair by pair -/
section
variable {K : PySem.W.Frag} {g : TG} {tb : TS} {D : Ends} {σ : L2.St} {H : Hp}
theorem r_forZli {ta : TA} (h : ta σ H fun vs H1 => ∃ a b xs ys, vs = [.ref a, .ref b] ∧ SqL K H1 a xs ∧ SqL K H1 b ys ∧ tFor (fun _ H2 R => R (Itz K a b) H2) g tb D σ H1) : tFor (iZip K ta) g tb D σ H := h
theorem r_forZl {a b : Addr} (xs ys : List V) (n : Nat) (hx : xs.length = n) (hy : ys.length = n) (Pv : Nat → L2.St → Hp → Prop) (h0 : Pv 0 σ H)
    (hl : ∀ i σ H, i ≤ n → Pv i σ H → SqL K H a xs ∧ SqL K H b ys)
    (hs : ∀ i x y σ H T, xs[i]? = some x → ys[i]? = some y → Pv i σ H → H T = none → g (.ref T) σ (upd H T (.tup [x, y])) fun σ2 H2 => tb { D with nx := Pv (i + 1), ct := Pv (i + 1), bk := D.nx } σ2 H2)
    (hd : ∀ σ H, Pv n σ H → D.nx σ H) : tFor (fun _ H2 R => R (Itz K a b) H2) g tb D σ H := by
  refine ⟨fun i m σ H => m = n - i ∧ i ≤ n ∧ Pv i σ H, ⟨n, by omega, Nat.zero_le _, h0⟩, ?_⟩
  rintro i m σ H ⟨rfl, hi, p⟩
  obtain ⟨qx, qy⟩ := hl i σ H hi p
  by_cases lt : i < n
  · have ix : i < xs.length := by omega
    have iy : i < ys.length := by omega
    refine Or.inr ⟨⟨xs, ys, xs[i], ys[i], qx, qy, by simp [ix], by simp [iy]⟩, Pv (i + 1), fun σ' H' p' => ⟨n - (i + 1), by omega, rfl, lt, p'⟩, fun v H' yy => ?_⟩
    obtain ⟨T, x, y, rfl, nT, rfl, f1, f2⟩ := yy
    exact hs i x y σ H T (f1 xs qx) (f2 ys qy) p nT
  · have e : i = n := by omega
    subst e
    exact Or.inl ⟨⟨xs, ys, qx, qy, .inl (by omega)⟩, hd σ H p⟩
theorem r_dnewK {Q : VK} (h : ∀ p, H p = none → Q (.ref p) (upd H p (.dK []))) : tDNewK σ H Q := h
end
/-! ## the keys of a dict -/
section
variable {κ : Type} [DecidableEq κ]
theorem putK_keys (kvs : List (κ × V)) (k : κ) (v : V) : (putK kvs k v).map (·.1) = if k ∈ kvs.map (·.1) then kvs.map (·.1) else kvs.map (·.1) ++ [k] := by
  unfold putK
  have any : (kvs.any fun kv => decide (kv.1 = k)) = true ↔ k ∈ kvs.map (·.1) := by
    rw [List.any_eq_true, List.mem_map]
    exact ⟨fun ⟨x, h1, h2⟩ => ⟨x, h1, of_decide_eq_true h2⟩, fun ⟨x, h1, h2⟩ => ⟨x, h1, decide_eq_true h2⟩⟩
  by_cases h : k ∈ kvs.map (·.1)
  · rw [if_pos h, if_pos (any.mpr h), List.map_map]
    refine List.map_congr_left fun x _ => ?_
    show (if x.1 = k then (x.1, v) else x).1 = x.1
    split <;> rfl
  · rw [if_neg h, if_neg (fun z => h (any.mp z)), List.map_append]
    rfl
end
/-- the keys that are ints -/
def IKeys (kvs : List (Key × V)) (ks : List Int) : Prop := kvs.map (·.1) = ks.map Sum.inl ∧ ks.Nodup
theorem IKeys.nil : IKeys [] [] := ⟨rfl, List.nodup_nil⟩
theorem IKeys.len {kvs : List (Key × V)} {ks : List Int} (h : IKeys kvs ks) : kvs.length = ks.length := by
  have := congrArg List.length h.1
  rw [List.length_map, List.length_map] at this
  exact this
theorem inl_mem {ks : List Int} {j : Int} : (Sum.inl j : Key) ∈ ks.map Sum.inl ↔ j ∈ ks := by
  rw [List.mem_map]
  exact ⟨fun ⟨x, h1, h2⟩ => by cases h2; exact h1, fun h => ⟨j, h, rfl⟩⟩
theorem IKeys.put {kvs : List (Key × V)} {ks : List Int} (h : IKeys kvs ks) (j : Int) (v : V) : ∃ ks', IKeys (putK kvs (Sum.inl j) v) ks' ∧ (∀ x, x ∈ ks' ↔ x ∈ ks ∨ x = j) ∧ ks'.length ≤ ks.length + 1 := by
  have e := putK_keys kvs (Sum.inl j : Key) v
  rw [h.1] at e
  by_cases m : j ∈ ks
  · rw [if_pos (inl_mem.mpr m)] at e
    refine ⟨ks, ⟨e, h.2⟩, fun x => ⟨.inl, fun z => z.elim id fun z => by rw [z]; exact m⟩, by omega⟩
  · rw [if_neg fun z => m (inl_mem.mp z)] at e
    refine ⟨ks ++ [j], ⟨by rw [e, List.map_append]; rfl, ?_⟩, fun x => by rw [List.mem_append, List.mem_singleton], by rw [List.length_append]; exact Nat.le_refl _⟩
    rw [List.nodup_append]
    exact ⟨h.2, List.pairwise_singleton _ j, fun a ha b hb => by rw [List.mem_singleton.mp hb]; rintro rfl; exact m ha⟩
/-- the keys that are pairs of ints -/
def PKeys (kvs : List (List Key × V)) (ks : List (Int × Int)) : Prop := kvs.map (·.1) = ks.map keyP
theorem PKeys.len {kvs : List (List Key × V)} {ks : List (Int × Int)} (h : PKeys kvs ks) : kvs.length = ks.length := by
  have := congrArg List.length h
  rw [List.length_map, List.length_map] at this
  exact this
theorem PKeys.put {kvs : List (List Key × V)} {ks : List (Int × Int)} (h : PKeys kvs ks) (j : Int × Int) (v : V) : ∃ ks', PKeys (putK kvs (keyP j) v) ks' ∧ (∀ x, x ∈ ks' ↔ x ∈ ks ∨ x = j) ∧ ks'.length ≤ ks.length + 1 := by
  have inj : ∀ a b : Int × Int, keyP a = keyP b → a = b := fun a b e => by
    unfold keyP at e
    injection e with e1 e2
    injection e2 with e2 _
    cases a; cases b
    cases e1; cases e2
    rfl
  have e := putK_keys kvs (keyP j) v
  rw [show kvs.map (·.1) = ks.map keyP from h] at e
  have mi : keyP j ∈ ks.map keyP ↔ j ∈ ks := by
    rw [List.mem_map]
    exact ⟨fun ⟨x, h1, h2⟩ => by rw [← inj _ _ h2]; exact h1, fun h => ⟨j, h, rfl⟩⟩
  by_cases m : j ∈ ks
  · rw [if_pos (mi.mpr m)] at e
    exact ⟨ks, e, fun x => ⟨.inl, fun z => z.elim id fun z => by rw [z]; exact m⟩, by omega⟩
  · rw [if_neg fun z => m (mi.mp z)] at e
    exact ⟨ks ++ [j], by rw [PKeys, e, List.map_append]; rfl, fun x => by rw [List.mem_append, List.mem_singleton], by rw [List.length_append]; exact Nat.le_refl _⟩
end Vf
namespace Vf
open PySem PySem.Spec PyProof.Rows L2
theorem Kx.tupT {K : PySem.W.Frag} {k : Addr} {H H' : Hp} {l : List (List Key × V)} {a : Addr} {xs : List V} (e : Kx k H H') (hk : H k = some (.dT l)) (h : SqT K H a xs) : SqT K H' a xs := by
  rcases h with (h | ⟨o, h⟩) | h
  · exact Or.inl (Or.inl (e _ _ (ne_of h hk (by intro z; cases z)) h))
  · exact Or.inl (Or.inr ⟨o, e _ _ (ne_of h hk (by intro z; cases z)) h⟩)
  · exact Or.inr h
theorem Kx.tupK {K : PySem.W.Frag} {k : Addr} {H H' : Hp} {l : List (Key × V)} {a : Addr} {xs : List V} (e : Kx k H H') (hk : H k = some (.dK l)) (h : SqT K H a xs) : SqT K H' a xs := by
  rcases h with (h | ⟨o, h⟩) | h
  · exact Or.inl (Or.inl (e _ _ (ne_of h hk (by intro z; cases z)) h))
  · exact Or.inl (Or.inr ⟨o, e _ _ (ne_of h hk (by intro z; cases z)) h⟩)
  · exact Or.inr h
end Vf

namespace Vf
open PySem PySem.Spec PyProof.Rows L2
/-! ## sorted(set(xs)) of a list of ints -/
abbrev nSt (w : World) : Obj := { cls := .type "set", dict := none, data := .set #[] 0 (.fresh 0 0 (!w.params.followText "set-order")) }
section
variable {P : Program} {w : World} {A : Around} {E : Value → Shared → Prop} {s : Shared}
theorem set_of_list {l : Addr} {xs : Array Value} (ns : List Int) {Q : Value → Shared → Prop} (hh : A.handled = none) (hl : s.heap.IsList l xs) (hx : IntsAre xs.toList ns) (hb : ns.length + 1 < scanBound)
    (q : ∀ (h' : Heap) (tk c : Nat), SetR w h' s.heap.objs.size (fun j => decide (j ∈ ns)) c → c ≤ ns.length → (∀ b o, s.heap.get? b = some o → h'.get? b = some o) → Q (.ref s.heap.objs.size) { s with heap := h', toks := tk }) :
    wpAny (model P w) A (call (.type "set") [.ref l]) Q E s := by
  have sz : xs.size = ns.length := by
    have z := IntsAre.length hx
    rwa [Array.length_toList] at z
  obtain ⟨cc, tl, z1⟩ := F.called_set.mro
  have z2 := F.called_set.made
  have z3 := F.called_set.sub
  have z4 := F.called_set.notType
  have z5 := F.called_set.canCreate
  have z6 := F.typeCall_set_1 (.ref l)
  refine wpAny_call <| codeAny_of_tree ?_
  show wpAny _ _ (callAny (.type "set") _) _ _ _
  refine wpAny_pure ⟨Code.quiet_builtin _ (by decide +kernel), codeAny_builtin F.entry_type_call ?_⟩
  rw [Around.under_plain (weight_type_call_type "set" [.ref l] []) rfl]
  repeat any_goals first | assumption | wp_step
  refine codeAny_mono (code_set_led1 (.ref l) (E := E) (Q₁ := fun obj s1 => obj = .ref s.heap.objs.size ∧ s1 = { s with heap := s.heap.push (nSt w) }) ⟨rfl, rfl⟩) fun r s1 g => ?_
  cases r with
  | error e => exact g
  | ok fl =>
    cases fl with
    | ret obj =>
      obtain ⟨rfl, rfl⟩ := g
      have e0 : (s.heap.push (nSt w)).get? s.heap.objs.size = some (nSt w) := Heap.get?_push_size _ rfl
      have ty : Shared.TypeIs { s with heap := s.heap.push (nSt w) } (.ref s.heap.objs.size) "set" := ⟨_, e0, rfl⟩
      have z7 := F.called_set.init.lookup
      have z8 := F.called_set.init.bind (.ref s.heap.objs.size)
      repeat any_goals first | assumption | wp_step
      refine codeAny_mono (codeAny_call_builtin (R := wants (fun r s2 => r = .none ∧ ∃ h' tk c, s2 = { s with heap := h', toks := tk } ∧ SetR w h' s.heap.objs.size (fun j => decide (j ∈ ns)) c ∧ c ≤ ns.length ∧ (∀ b o, s.heap.get? b = some o → h'.get? b = some o)) E) F.called_set.init.plain F.entry_set_init (check_set_init_1 ty ?_)) fun r2 s2 g2 => ?_
      · obtain ⟨⟨oc, od, odt, osl⟩, o1, o2, n, o3⟩ := hl
        simp only at o2 o3
        subst o2; subst o3
        have o4 : (s.heap.push (nSt w)).get? l = some { cls := .type "list", dict := od, data := .seq xs n, slots := osl } := Heap.get?_push_of_some _ o1
        have y1 := F.sub_list_set
        have y2 := F.sub_list_frozenset
        have y3 : (Value.type "list" == Value.type "dict") = false := by decide
        have li : (s.heap.push (nSt w)).IsList l xs := ⟨_, o4, rfl, n, rfl⟩
        unfold Builtin.«set.__init__» noKeywords Builtin.Frozenset.updateFrom
        generalize hI : pyIter = PI
        wp_walk
        subst hI
        refine wpAny_pyIter_list li <| wpAny_bind <| wpAny_runValue ?_
        have lS : l < s.heap.objs.size := Heap.lt_size o1
        have h3 : A.in1.in1.in1.handled = none := by simp [hh]
        have neI : l ≠ (s.heap.push (nSt w)).objs.size := by rw [Heap.size_push]; exact Nat.ne_of_lt (Nat.lt_succ_of_lt lS)
        have nin : s.heap.objs.size ∉ [(s.heap.push (nSt w)).objs.size, l] := by
          rw [Heap.size_push]; simp only [List.mem_cons, List.mem_singleton, List.not_mem_nil, or_false, not_or]; exact ⟨Nat.ne_of_lt (Nat.lt_succ_self _), Nat.ne_of_gt lS⟩
        have vl : ∀ (i : Nat) (v : Value), xs[i]? = some v → ∃ k t, ns[i]? = some k ∧ v = .int k t := fun i v hv => by
          have hi : i < ns.length := by rw [← sz]; exact (Array.getElem?_eq_some_iff.mp hv).1
          obtain ⟨t, e⟩ := IntsAre.int_at hx i v (by rw [Array.getElem?_toList]; exact hv)
          refine ⟨ns[i], t, List.getElem?_eq_getElem hi, ?_⟩
          rw [e, List.getD_eq_getElem?_getD, List.getElem?_eq_getElem hi] <;> rfl
        refine set_update_ints ((Walks.list h3 _ l neI xs).toS) s.heap.objs.size nin ns sz hb vl (xs.size - 0) 0 _ (by omega) (Nat.zero_le _) ⟨⟨_, Heap.get?_push_size _ rfl, rfl, rfl⟩, (li.push _)⟩ ⟨0, Nat.le_refl 0, setR_new_at (Heap.get?_push_of_some _ e0)⟩ fun s' c' hm hc' hS' => ?_
        obtain ⟨h', g3, d', tk', os'⟩ := s'
        have eg : g3 = s.gens := hm.gens
        have ed : d' = s.drawn := hm.drawn
        have eo : os' = s.os := hm.os
        subst eg; subst ed; subst eo
        show wpAny _ _ _ _ _ _
        refine wpAny_pure ?_
        show wpAny _ _ (ret Value.none) _ _ _
        rw [sz] at hc'
        refine wpAny_pure ⟨rfl, h', tk', c', rfl, hS', hc', fun b o e => hm.heap b o ?_ (Heap.get?_push_of_some _ (Heap.get?_push_of_some _ e))⟩
        have b0 : b < s.heap.objs.size := Heap.lt_size e
        simp only [List.mem_cons, List.mem_singleton, List.not_mem_nil, or_false, not_or]
        refine ⟨Nat.ne_of_lt b0, ?_⟩
        rw [Heap.size_push]; exact Nat.ne_of_lt (Nat.lt_succ_of_lt b0)
      · cases r2 with
        | error e => exact g2
        | ok fl2 =>
          cases fl2 with
          | ret r =>
            obtain ⟨rfl, h', tk, c', rfl, hS', hc', hk'⟩ := g2
            repeat any_goals first | assumption | wp_step
            exact q _ _ _ hS' hc' hk'
          | _ => exact g2.elim
    | _ => exact g.elim
end
section
variable {X : Cx} {K : PySem.W.Frag} {w : World}
/-- set(xs) of a list of ints, kept with what is in it -/
def rSetLo (K : PySem.W.Frag) (w : World) : List V → Hp → VK → Prop := fun xs H Q => ∃ (l : Addr) (ns : List Int), xs = [.ref l] ∧ SqL K H l (ns.map V.int) ∧ ns.length ≤ 4000 ∧
  ∀ p c, H p = none → c ≤ ns.length → Q (.ref p) (upd H p (SetO w p (fun j => decide (j ∈ ns)) c))
theorem cr_setLo (hc : X.calm = true) : CallR X (.type "set") (rSetLo X.K X.w) := by
  intro pins s σ H xs us Q I r h
  obtain ⟨l, ns, rfl, hs, hl, q⟩ := h
  obtain ⟨u, rfl, ru⟩ := vals1 r
  cases ru
  obtain ⟨its, rv, pl, hz⟩ := I.list hs
  refine set_of_list ns (I.ok.hd hc) pl.isList (by simpa using RZ.intsAre_vals rv) (by unfold scanBound; omega) fun h' tk c hS hc2 hk => ?_
  exact ⟨.ref s.heap.objs.size, _, I.laid (t' := tk) hk (Nat.le_refl _) (setO_new hS), rfl, q _ _ (I.hok.fresh (Nat.le_refl _)) hc2⟩
theorem c_setLo (e : X.K = K) (e2 : X.w = w) (hc : X.calm = true) : CallR X (.type "set") (rSetLo K w) := by subst e; subst e2; exact cr_setLo hc
theorem c_sortedSet (e2 : X.w = w) (hc : X.calm = true) : CallR X (.builtin "sorted") (rSortedSet w) := by subst e2; exact cr_sortedSet hc
end
section
variable {K : PySem.W.Frag} {H : Hp} {Q : VK} {w : World}
theorem r_setLo {l : Addr} (ns : List Int) (h1 : SqL K H l (ns.map V.int)) (h2 : ns.length ≤ 4000) (h : ∀ p c, H p = none → c ≤ ns.length → Q (.ref p) (upd H p (SetO w p (fun j => decide (j ∈ ns)) c))) : rSetLo K w [.ref l] H Q := ⟨l, ns, rfl, h1, h2, h⟩
theorem r_sortedSet {a : Addr} {S : Int → Bool} {n : Nat} (ha : H a = some (SetO w a S n)) (hn : n < 64) (h : ∀ (ns : List Int) (p : Addr), ns.Pairwise (· < ·) → (∀ k : Int, k ∈ ns ↔ S k = true) → ns.length = n → H p = none → Q (.ref p) (upd H p (.lst (ns.map V.int)))) : rSortedSet w [.ref a] H Q := ⟨a, S, n, rfl, ha, hn, h⟩
end
end Vf

namespace Vf
open PySem PySem.Spec PyProof.Rows L2
/-! ## sorted of a set of ints that lie in a small range -/
theorem nodup_le : ∀ (B : Nat) (l : List Int), l.Nodup → (∀ k ∈ l, 0 ≤ k ∧ k < (B : Int)) → l.length ≤ B
  | 0, l, _, h => by
    cases l with
    | nil => exact Nat.le_refl _
    | cons a l =>
      have := h a List.mem_cons_self
      omega
  | B + 1, l, nd, h => by
    by_cases m : (B : Int) ∈ l
    · have := nodup_le B (l.erase (B : Int)) (nd.erase _) fun k hk => by
        obtain ⟨h1, h2⟩ := (nd.mem_erase_iff).mp hk
        have := h k h2
        omega
      rw [List.length_erase_of_mem m] at this
      omega
    · have := nodup_le B l nd fun k hk => by
        have := h k hk
        have : k ≠ (B : Int) := fun e => m (e ▸ hk)
        omega
      omega
section
variable {X : Cx} {w : World}
def rSortedSetB (w : World) : List V → Hp → VK → Prop := fun vs H Q => ∃ (a : Addr) (S : Int → Bool) (n B : Nat), vs = [V.ref a] ∧ H a = some (SetO w a S n) ∧ B < 64 ∧ (∀ k, S k = true → 0 ≤ k ∧ k < (B : Int)) ∧
  ∀ (ns : List Int) (p : Addr), ns.Pairwise (· < ·) → (∀ k : Int, k ∈ ns ↔ S k = true) → H p = none → Q (.ref p) (upd H p (.lst (ns.map V.int)))
theorem cr_sortedSetB (hc : X.calm = true) : CallR X (.builtin "sorted") (rSortedSetB X.w) := by
  intro pins s σ H vs us Q I r h
  obtain ⟨a, S, n, B, rfl, ha, h64, hb, q⟩ := h
  have n64 : n < 64 := by
    have R := setO_get I ha
    obtain ⟨o, es, ep, t, ho, hex, hd, he, nd, hS, hsz, hf, hn, _⟩ := R
    have := nodup_le B _ nd fun k hk => hb k ((hS k).mpr hk)
    rw [List.length_map, Array.length_toList] at this
    omega
  exact cr_sortedSet hc pins s σ H _ us Q I r ⟨a, S, n, rfl, ha, n64, fun ns p h1 h2 _ h4 => q ns p h1 h2 h4⟩
theorem c_sortedSetB (e2 : X.w = w) (hc : X.calm = true) : CallR X (.builtin "sorted") (rSortedSetB w) := by subst e2; exact cr_sortedSetB hc
end
section
variable {σ : L2.St} {H : Hp} {Q : VK}
theorem r_lstRg {te : L2.St → Hp → (Int → Int → Hp → Prop) → Prop} (h : te σ H fun a b H1 => RgOk a b ∧ ∀ q, H1 q = none → Q (.ref q) (upd H1 q (.lst (rgV a b)))) : tLstRg te σ H Q := h
theorem r_rg1 {ta : TE} {R : Int → Int → Hp → Prop} (h : ta σ H fun x H1 => ∃ n, x = .int n ∧ R 0 n H1) : tRg1 ta σ H R := h
end
end Vf

namespace Vf
open PySem PySem.Spec PyProof.Rows L2
/-! ## tuple(zip(t, u)) of two tuples -/
section
variable {prog : Program} {w : World} {A : Around} {s : Shared} {u TI TO i1 i2 a b : Nat} {xs ys : List Value}
theorem zt_collect {R : List Value → Shared → Prop} {E : Value → Shared → Prop} (hh : A.handled = none) (D : ZipApart u TI TO i1 i2 a b) {i : Nat} (e0 : i = 0) (st : ZTn u TI TO i1 i2 a b i s.heap) (ta : s.heap.IsTuple a xs.toArray) (tb : s.heap.IsTuple b ys.toArray) (hn : min xs.length ys.length ≤ sizeLine)
    (hQ : ∀ h' tk acc c ad, (∀ (d : Nat) o, d ≠ u → d ≠ TO → d ≠ i1 → d ≠ i2 → s.heap.get? d = some o → h'.get? d = some o) → h'.get? s.heap.objs.size = some (lsO acc c) → ad.length = min xs.length ys.length → PrsL s.heap.objs.size xs ys h' ad → acc.toList = ad.map Value.ref → R acc.toList { s with heap := h', toks := tk }) :
    wpAny (model prog w) A (collect (.ref u)) R E s := by
  subst e0
  obtain ⟨⟨f0, f1, p0, p1, zz⟩, ti, ⟨x0, y0, to⟩, t1, t2⟩ := id st
  generalize eS : s.heap.objs.size = S at *
  have lu : u < S := eS ▸ Heap.lt_size zz
  have lI : TI < S := eS ▸ Heap.lt_size ti
  have lO : TO < S := eS ▸ Heap.lt_size to
  have k1 : i1 < S := by
    obtain ⟨_, q, _⟩ := t1
    exact eS ▸ Heap.lt_size q
  have k2 : i2 < S := by
    obtain ⟨_, q, _⟩ := t2
    exact eS ▸ Heap.lt_size q
  have la : a < S := by
    obtain ⟨_, q, _⟩ := ta
    exact eS ▸ Heap.lt_size q
  have lb : b < S := by
    obtain ⟨_, q, _⟩ := tb
    exact eS ▸ Heap.lt_size q
  unfold collect
  refine wpAny_bind (wpAny_runValue (codeAny_builtin entry_proto_collect' ?_))
  rw [Around.under_plainId PySem.F.plain_proto_collect _]
  show wpAny _ A.in1 (newList [] >>= fun l => again (.builtin "list.__iadd__" ⟨[l, .ref u], []⟩)) _ _ s
  refine wpAny_bind (wpAny_newObj_type ?_)
  refine wpAny_pure ⟨plainId_quiet PySem.F.plain_list_iadd _, codeAny_builtin entry_list_iadd' ?_⟩
  rw [Around.under_plainId PySem.F.plain_list_iadd _]
  rw [eS]
  have hS2 : (s.heap.push { cls := .type "list", data := .seq ([] : List Value).toArray }).get? S = some (lsO #[] 0) := eS ▸ Heap.get?_push_size _ rfl
  show wpAny _ _ (Builtin.List.listExtendWith (.ref S) (.ref u) (.ref S)) _ _ _
  have up : ∀ (h : Heap) (f : Obj → Obj), (∀ (d : Nat) o, s.heap.get? d = some o → h.get? d = some o) → ∀ (d : Nat) o, s.heap.get? d = some o → (h.update S f).get? d = some o := fun h f q d o e =>
    (Heap.get?_update_other _ _ (Ne.symm (Nat.ne_of_lt (eS ▸ Heap.lt_size e)))).trans (q d o e)
  have g2 : ∀ (d : Nat) o, s.heap.get? d = some o → (s.heap.push { cls := .type "list", data := .seq ([] : List Value).toArray }).get? d = some o := fun d o e => Heap.get?_push_of_some _ e
  have ty : ∀ {s' : Shared}, (∀ (d : Nat) o, s.heap.get? d = some o → s'.heap.get? d = some o) → s'.TypeIs (.ref u) "zip" := fun q => ⟨_, q _ _ zz, rfl⟩
  unfold Builtin.List.listExtendWith
  refine wpAny_bind (wpAny_typeOf (ty g2) ?_)
  have n1 : Builtin.List.listSameRef (.ref S) (.ref u) = false := by simp only [Builtin.List.listSameRef]; exact beq_false_of_ne (Nat.ne_of_gt lu)
  have n2 : (Value.type "zip" == Value.type "list") = false := by decide
  have n3 : (Value.type "zip" == Value.type "tuple") = false := by decide
  simp only [n1, n2, n3, Bool.or_false, Bool.false_eq_true, if_false]
  refine wpAny_bind (z_iter (f0 := f0) (f1 := f1) (TI := TI) (TO := TO) (g2 _ _ zz) ?_)
  refine wpAny_bind (wpAny_holding ?_)
  unfold Builtin.List.listLengthHint
  refine wpAny_bind (wpAny_specialOf (ty g2) zip_len0 ?_)
  show wpAny _ _ (specialOf (Value.ref u) (Str.ofString "__length_hint__") >>= _) _ _ _
  refine wpAny_bind (wpAny_specialOf (ty g2) zip_hint0 ?_)
  refine wpAny_pure ?_
  show wpAny _ _ (rule "list.extend.makes-room" >>= fun _ => Builtin.List.listTouch (.ref S) >>= fun _ => again (.builtin "list.extend.loop" ⟨[.ref S, .ref u, .ref S], []⟩)) _ _ _
  refine wpAny_bind (wpAny_rule ?_)
  refine wpAny_bind ?_
  show wpAny _ _ (updateSeq S (·.push .none) >>= fun _ => updateSeq S (·.pop)) _ _ _
  refine wpAny_bind (wpAny_updateSeq hS2 rfl ?_)
  have hS3 := Heap.get?_update_self (Obj.mapSeq (·.push Value.none)) hS2 rfl
  refine wpAny_updateSeq (hz := by seq_fits) hS3 rfl ?_
  have hS4 := Heap.get?_update_self (Obj.mapSeq (·.pop)) hS3 rfl
  have g4 := up _ (Obj.mapSeq (·.pop)) (up _ (Obj.mapSeq (·.push Value.none)) g2)
  refine wpAny_pure ⟨plainId_quiet PySem.F.plain_extend_loop _, ?_⟩
  refine zl_loop (s := s) (h₁ := s.heap) (A := A) hh D lu lI lO k1 k2 la lb (.ref S) rfl hn (fun h' tk acc c ad kp e1 e2 e3 e4 => ?_)
    _ 0 _ _ _ #[] [] rfl (Nat.zero_le _) (ZTn.stay st fun d o _ e => g4 d o e) (ta.at fun o e => g4 a o e) (tb.at fun o e => g4 b o e) (fun d o _ _ _ _ _ e => g4 d o e) hS4 rfl rfl ⟨List.Pairwise.nil, (fun _ z => nomatch z), (fun j p z => by simp at z)⟩
  show wpAny _ A (load S >>= _) _ _ _
  refine wpAny_bind (wpAny_load e1 ?_)
  exact wpAny_pure (hQ h' tk acc c ad (fun d o c1 c2 c3 c4 e => kp d o (eS ▸ Heap.lt_size e) c1 c2 c3 c4 e) e1 e2 e3 e4)
theorem zt_code {Q₁ : Value → Shared → Prop} {E : Value → Shared → Prop} (hh : A.handled = none) (D : ZipApart u TI TO i1 i2 a b) (st : ZTn u TI TO i1 i2 a b 0 s.heap) (ta : s.heap.IsTuple a xs.toArray) (tb : s.heap.IsTuple b ys.toArray) (hn : min xs.length ys.length ≤ sizeLine)
    (h : ∀ h' tk acc c ad, (∀ (d : Nat) o, d ≠ u → d ≠ TO → d ≠ i1 → d ≠ i2 → s.heap.get? d = some o → h'.get? d = some o) → h'.get? s.heap.objs.size = some (lsO acc c) → ad.length = min xs.length ys.length → PrsL s.heap.objs.size xs ys h' ad → acc.toList = ad.map Value.ref →
      Q₁ (.ref h'.objs.size) { s with heap := h'.push { cls := .type "tuple", data := .seq acc }, toks := tk }) :
    codeAny (model prog w) A (.call (.builtin "tuple.__new__") ⟨[.type "tuple", .ref u], []⟩) (wants Q₁ E) s := by
  refine codeAny_of_tree ?_
  show wpAny _ A.in1 (do checkBuiltinCall "tuple.__new__" ⟨[.type "tuple", .ref u], []⟩; again (.builtin "tuple.__new__" ⟨[.type "tuple", .ref u], []⟩)) _ _ s
  refine wpAny_bind (wpAny_of_eq (F.newCall_tuple_1 _) (wpAny_pure ⟨plainId_quiet F.plain_tuple_new _, codeAny_builtin F.entry_tuple_new ?_⟩))
  rw [Around.under_plainId F.plain_tuple_new _]
  have hsub := sub_tuple_self
  have hinit := init_tuple_lookup
  have hmh := madeHere_tuple
  obtain ⟨⟨f0, f1, p0, p1, zz⟩, _⟩ := id st
  have hTI : s.TypeIs (.ref u) "zip" := ⟨_, zz, rfl⟩
  wp_walk using wpAny_typeOf hTI, zt_collect (A := A.in1) (xs := xs) (ys := ys) hh D rfl st ta tb hn
  intro h' tk acc c ad kp e1 e2 e3 e4
  show wpAny _ _ (Builtin.Tuple.tupleExact acc.toList.toArray >>= fun v => ret v) _ _ _
  unfold Builtin.Tuple.tupleExact
  refine wpAny_bind (wpAny_newObj_type ?_ (by show acc.toList.toArray.size ≤ sizeLine; simp only [Array.toArray_toList]; rw [← Array.length_toList, e4, List.length_map, e2]; exact hn))
  refine wpAny_pure ?_
  have e : acc.toList.toArray = acc := by simp
  rw [e]
  exact h h' tk acc c ad kp e1 e2 e3 e4
theorem zt_call {E : Value → Shared → Prop} {Q : Value → Shared → Prop} (hh : A.handled = none) (D : ZipApart u TI TO i1 i2 a b) (st : ZTn u TI TO i1 i2 a b 0 s.heap) (ta : s.heap.IsTuple a xs.toArray) (tb : s.heap.IsTuple b ys.toArray) (hn : min xs.length ys.length ≤ sizeLine)
    (hQ : ∀ h' tk acc c ad, (∀ (d : Nat) o, d ≠ u → d ≠ TO → d ≠ i1 → d ≠ i2 → s.heap.get? d = some o → h'.get? d = some o) → h'.get? s.heap.objs.size = some (lsO acc c) → ad.length = min xs.length ys.length → PrsL s.heap.objs.size xs ys h' ad → acc.toList = ad.map Value.ref →
      Q (.ref h'.objs.size) { s with heap := h'.push { cls := .type "tuple", data := .seq acc }, toks := tk }) :
    wpAny (model prog w) A (call (.type "tuple") [.ref u]) Q E s := by
  refine callType_codes (Q₁ := fun obj s₁ => s₁.TypeIs obj "tuple" ∧ Q obj s₁) F.called_tuple (F.typeCall_tuple_1 _) F.entry_object_init
    (zt_code (A := A.in1) hh D st ta tb hn fun h' tk acc c ad kp e1 e2 e3 e4 => ⟨⟨_, Heap.get?_push_size _ rfl, rfl⟩, hQ h' tk acc c ad kp e1 e2 e3 e4⟩) fun obj s₁ h₁ => ?_
  exact ⟨h₁.1, F.args_object_init_2 obj _, object_init_meets F.called_tuple.init.lookup F.called_tuple.made (by decide) prog w A.in1 _ s₁ ⟨h₁.1, rfl, h₁.2⟩⟩
end
/-- what a walk laid, and the tuple of it -/
def tzH (H : Hp) (sz l : Nat) (ad : List Nat) (xs ys : List V) : Hp := fun q => if q < sz then H q else if q = l then some (.tup (ad.map V.ref)) else tblP ad xs ys q
/-- tuple(zip(t, u)) -/
def tTupZip (K : PySem.W.Frag) (ta : TA) : TE := fun σ H Q => ta σ H fun vs H1 => ∃ a b xs ys, vs = [.ref a, .ref b] ∧ SqT K H1 a xs ∧ SqT K H1 b ys ∧
  ∀ (l : Nat) (ad : List Nat) H2, Same H1 H2 → H1 l = none → H2 l = some (.tup (ad.map V.ref)) → ad.length = min xs.length ys.length → (∀ (j : Nat) (p : Nat) (x y : V), ad[j]? = some p → xs[j]? = some x → ys[j]? = some y → H1 p = none ∧ H2 p = some (.tup [x, y])) → Q (.ref l) H2
theorem pe_tupZip {X : Cx} {K : PySem.W.Frag} {e e2 : Expr} {ta : TA} {p p2 pos2 pos : Pos} (ek : X.K = K) (hc : X.calm = true) (hg : Gl X "zip") (hm : X.mg "zip" = none) (hg2 : Gl X "tuple") (hm2 : X.mg "tuple" = none) (ha : PA X [e, e2] ta)
    (hs : starEach [e, e2] X.env = (false, eval e X.env) :: starEach [e2] X.env := by rfl) (hp : (backTo pos2 (starEach [e2] X.env)).any (·.1) = false := by rfl)
    (na : starEach [.Call (.Name "zip" p2) [e, e2] [] pos2] X.env = (false, eval (.Call (.Name "zip" p2) [e, e2] [] pos2) X.env) :: starEach [] X.env := by rfl) :
    PE X (.Call (.Name "tuple" p) [.Call (.Name "zip" p2) [e, e2] [] pos2] [] pos) (tTupZip K ta) := by
  subst ek
  refine ⟨fun pins s σ H Q I h => ?_⟩
  refine Call_ (ld_blt I hg2 hm2 PyProof.Rows.boot_tuple ?_)
  refine PyProof.Rows.callWith_type1 (PyProof.Rows.args_cons ?_ na) na rfl
  refine Call_ (ld_blt I hg hm PyProof.Rows.boot_zip (PyProof.Rows.callWith_type1 (thn (ha.run pos2 pins s σ H _ I h) fun us s1 ⟨vs, H1, I1, r1, q1⟩ => ?_) hs hp))
  obtain ⟨a, b, xs, ys, rfl, qx, qy, q⟩ := q1
  obtain ⟨ua, ub, rfl, ra, rb⟩ : ∃ ua ub, us = [ua, ub] ∧ RelV (.ref a) ua ∧ RelV (.ref b) ub := by
    cases r1 with
    | cons r rr =>
      cases rr with
      | cons r' rr =>
        cases rr
        exact ⟨_, _, rfl, r, r'⟩
  cases ra
  cases rb
  obtain ⟨its, rv, tp, hz1⟩ := I1.tuple qx
  obtain ⟨its2, rv2, tp2, hz2⟩ := I1.tuple qy
  have hB : ∀ B d : Nat, d < B → d ≠ B + 4 ∧ d ≠ B + 3 ∧ d ≠ B ∧ d ≠ B + 1 := fun B d h => by omega
  have le1 := rv.length
  have le2 := rv2.length
  have la : a < s1.heap.objs.size := tp.lt
  have lb : b < s1.heap.objs.size := tp2.lt
  refine RZ.call_zipT tp tp2 fun m hz hTI hTO n1 n2 hsz hk => ?_
  refine PyProof.Rows.args_nil ?_
  have D := PySem.W.ktu_apart s1.heap.objs.size a b la lb
  have st : ZTn (s1.heap.objs.size + 4) (s1.heap.objs.size + 2) (s1.heap.objs.size + 3) s1.heap.objs.size (s1.heap.objs.size + 1) a b 0 m := ⟨⟨.none, .bool false, .inl rfl, ⟨false, rfl⟩, hz⟩, hTI, ⟨_, _, hTO⟩, n1, n2⟩
  refine zt_call (s := { s1 with heap := m }) (xs := its) (ys := its2) (I1.ok.hd hc) D st (let ⟨o, z, r⟩ := tp; ⟨o, hk _ _ z, r⟩) (let ⟨o, z, r⟩ := tp2; ⟨o, hk _ _ z, r⟩) (Nat.le_trans (Nat.min_le_left _ _) (le1 ▸ hz1)) fun h' tk acc c ad kp hl el G ea => ?_
  dsimp only at kp hl G ⊢
  rw [← le1, ← le2] at el
  have sS : m.objs.size = s1.heap.objs.size + 5 := hsz
  have G2 := G.prs
  have big := G.big
  have ltS : ∀ {p : Nat}, p ∈ ad → s1.heap.objs.size ≤ p ∧ p < h'.objs.size := fun hp => by
    have := big _ hp
    exact ⟨by omega, G.lt hp⟩
  have S0 : s1.heap.objs.size ≤ h'.objs.size := by
    have : m.objs.size < h'.objs.size := Heap.lt_size hl
    omega
  have I2 : Inv X pins σ (tzH H1 s1.heap.objs.size h'.objs.size ad xs ys) { s1 with heap := h'.push { cls := .type "tuple", data := .seq acc }, toks := tk } := by
    refine laidN I1 (fun d o w => let z := hB _ d (Heap.lt_size w); Heap.get?_push_of_some _ (kp d o z.1 z.2.1 z.2.2.1 z.2.2.2 (hk d o w))) (fun d hd => if_pos hd) fun d o hd ho => ?_
    unfold tzH at ho
    rw [if_neg (Nat.not_lt.mpr hd)] at ho
    by_cases c2 : d = h'.objs.size
    · subst c2
      rw [if_pos rfl] at ho
      cases ho
      refine ⟨?_, ad.map Value.ref, Vals_refs ad, ?_⟩
      · rw [List.length_map, el]
        omega
      · rw [← ea]
        have := IsTup.new h' acc.toList.toArray
        simp only [Array.toArray_toList] at this ⊢
        exact this
    · rw [if_neg c2] at ho
      obtain ⟨j, x, y, e1, e3, e4, rfl⟩ := tblP_some ho
      obtain ⟨x', y', f1, f2, f3⟩ := G2 j d e1
      obtain ⟨v1, g1, w1⟩ := rv.get e3
      obtain ⟨v2, g2, w2⟩ := rv2.get e4
      rw [f1] at g1
      rw [f2] at g2
      cases g1
      cases g2
      exact ⟨by show 2 ≤ sizeLine; decide, [x', y'], .cons w1 (.cons w2 .nil), ⟨_, Heap.get?_push_of_some _ f3, rfl, _, rfl⟩⟩
  have fr : ∀ {d : Nat}, s1.heap.objs.size ≤ d → H1 d = none := fun hd => I1.hok.fresh hd
  refine ⟨.ref h'.objs.size, _, I2, rfl, q h'.objs.size ad _ (fun d o w => ?_) (fr S0) ?_ el fun j p x y e1 e3 e4 => ?_⟩
  · unfold tzH
    rw [if_pos (I1.hok.lt w)]
    exact w
  · unfold tzH
    rw [if_neg (Nat.not_lt.mpr S0), if_pos rfl]
  · have hp := ltS (List.mem_of_getElem? e1)
    refine ⟨fr hp.1, ?_⟩
    unfold tzH
    rw [if_neg (Nat.not_lt.mpr hp.1), if_neg (fun z => Nat.ne_of_lt hp.2 z)]
    exact tblP_at G.inc e1 e3 e4
theorem r_tupZip {K : PySem.W.Frag} {ta : TA} {σ : L2.St} {H : Hp} {Q : VK} (h : ta σ H fun vs H1 => ∃ a b xs ys, vs = [.ref a, .ref b] ∧ SqT K H1 a xs ∧ SqT K H1 b ys ∧
  ∀ (l : Nat) (ad : List Nat) H2, Same H1 H2 → H1 l = none → H2 l = some (.tup (ad.map V.ref)) → ad.length = min xs.length ys.length → (∀ (j : Nat) (p : Nat) (x y : V), ad[j]? = some p → xs[j]? = some x → ys[j]? = some y → H1 p = none ∧ H2 p = some (.tup [x, y])) → Q (.ref l) H2) : tTupZip K ta σ H Q := h
/-! ## two walks in one comprehension: a list, and a range with a step -/
theorem inn_rangeC {D : Addr} {g1 : TG} {tt1 : TT} {te : TE} {vs1 : List Nat} {σ2 : L2.St} {H4 : Hp} {Nx : Hp → Prop} {lo c : Int} {n : Nat} (Pv : Nat → Hp → Prop) (h0 : Pv 0 H4)
    (hs : ∀ j H, j < n → Pv j H → g1 (.int (lo + (j : Nat) * c)) (wipe σ2 vs1) H fun σ3 H5 => wipe σ3 vs1 = wipe σ2 vs1 ∧ tt1 σ3 H5 fun b H6 =>
        if b = true then te σ3 H6 fun y H7 => ∃ acc, H7 D = some (.lst acc) ∧ acc.length < sizeLine ∧ Pv (j + 1) (upd H7 D (.lst (acc ++ [y]))) else Pv (j + 1) H6)
    (hd : ∀ H, Pv n H → Nx H) : Inn D (Itc lo c n) g1 tt1 te vs1 σ2 H4 Nx := by
  refine ⟨fun i m H => m = n - i ∧ i ≤ n ∧ Pv i H, ⟨n, by omega, Nat.zero_le _, h0⟩, ?_⟩
  rintro i m H ⟨rfl, hi, p⟩
  by_cases lt : i < n
  · refine Or.inr ⟨lt, Pv (i + 1), fun H' p' => ⟨n - (i + 1), by omega, rfl, lt, p'⟩, fun x H' y => ?_⟩
    obtain ⟨e, y⟩ := y
    subst e y
    exact hs i _ lt p
  · have e : i = n := by omega
    subst e
    exact Or.inl ⟨Nat.le_refl _, hd H p⟩
section
variable {K : PySem.W.Frag} {σ : L2.St} {H : Hp} {Q : VK} {g g1 : TG} {tt tt1 : TT} {te : TE} {vs vs1 : List Nat} {wi1 : TI}
theorem r_lc2Li {tl : TE} (h : tl σ H fun x H1 => ∃ a, x = .ref a ∧ (∃ xs, SqL K H1 a xs) ∧ tLc2 (fun _ H2 R => R (Itl K a) H2) g tt wi1 g1 tt1 te vs vs1 σ H1 Q) : tLc2 (iList K tl) g tt wi1 g1 tt1 te vs vs1 σ H Q := h
theorem r_lc2L {a : Addr} (xs : List V) (Pv : Addr → Nat → Hp → Prop) (h0 : ∀ D, H D = none → Pv D 0 (upd H D (.lst []))) (hl : ∀ D i H', H D = none → i ≤ xs.length → Pv D i H' → SqL K H' a xs)
    (hs : ∀ D i x H', H D = none → xs[i]? = some x → Pv D i H' → g x (wipe σ vs) H' fun σ2 H2 => wipe σ2 vs = wipe σ vs ∧ tt σ2 H2 fun b H3 =>
      if b = true then wi1 σ2 H3 fun J1 H4 => Inn D J1 g1 tt1 te vs1 σ2 H4 (Pv D (i + 1)) else Pv D (i + 1) H3)
    (hd : ∀ D H', H D = none → Pv D xs.length H' → Q (.ref D) H') : tLc2 (fun _ H2 R => R (Itl K a) H2) g tt wi1 g1 tt1 te vs vs1 σ H Q := by
  refine fun D hD => ⟨fun i m H => m = xs.length - i ∧ i ≤ xs.length ∧ Pv D i H, ⟨xs.length, by omega, Nat.zero_le _, h0 D hD⟩, ?_⟩
  rintro i m H' ⟨rfl, hi, p⟩
  have q := hl D i H' hD hi p
  by_cases lt : i < xs.length
  · refine Or.inr ⟨⟨xs, xs[i], q, by simp [lt]⟩, Pv D (i + 1), fun H' p' => ⟨xs.length - (i + 1), by omega, rfl, lt, p'⟩, fun x H'' y => ?_⟩
    obtain ⟨e, f⟩ := y
    subst e
    have := f xs q
    exact hs D i x H'' hD this p
  · have e : i = xs.length := by omega
    subst e
    exact Or.inl ⟨⟨xs, q, Nat.le_refl _⟩, hd D H' hD p⟩
theorem r_w3 {ta : TA} {R : It → Hp → Prop} (h : ta σ H fun vs H1 => ∃ (i j c : Int) (n : Nat), vs = [.int i, .int j, .int c] ∧ RgC i j c n ∧ R (Itc i c n) H1) : iRng3 ta σ H R := h
end
end Vf
namespace Vf
open PySem PySem.Spec PyProof.Rows L2
theorem r_sortedI {K : PySem.W.Frag} {H : Hp} {Q : VK} {a : Addr} (ns : List Int) (h1 : SqL K H a (ns.map V.int)) (h : ∀ (ns' : List Int) (p : Addr), ns'.Perm ns → ns'.Pairwise (· ≤ ·) → H p = none → Q (.ref p) (upd H p (.lst (ns'.map V.int)))) : rSortedI K [.ref a] H Q := ⟨a, ns, rfl, h1, h⟩
end Vf

namespace Vf
open PySem PySem.Spec PyProof.Rows L2
/-! ## any of a tuple of ints -/
theorem iter_anyT {prog : Program} {w : World} {A : Around} {E : Value → Shared → Prop} {s : Shared} {l : Addr} {items : Array Value} {Q : Value → Shared → Prop} (hl : s.heap.IsTuple l items)
    (h : ∀ s₂ : Shared, s₂ = { s with heap := s.heap.push { cls := .type "tuple_iterator", data := .fields #[.ref l, .int 0 0] } } →
      (s₂.heap.IsTupleIter s.heap.objs.size l 0 ∧ s₂.heap.IsTuple l items) → l ≠ s.heap.objs.size → Q (.ref s.heap.objs.size) s₂) : wpAny (model prog w) A (pyIter (.ref l)) Q E s := by
  have hlt : l < s.heap.objs.size := by obtain ⟨_, e, _⟩ := hl; exact Heap.lt_size e
  exact wpAny_pyIter_tuple hl (h _ rfl ⟨⟨_, Heap.get?_push_size _ rfl, rfl, rfl⟩, hl.push _⟩ (Nat.ne_of_lt hlt))
theorem truth_ints {prog : Program} {w : World} {A : Around} {ns : List Int} {its : List Value} (r : Vals (ns.map V.int) its) :
    TruthOf prog w A (fun i v => its.toArray[i]? = some v) (fun i => ns.getD i 0 != 0) := fun i v s Q E hv hq => by
  have hv' : its[i]? = some v := by simpa using hv
  have il := (List.getElem?_eq_some_iff.mp hv').1
  have le := r.length
  rw [List.length_map] at le
  have en : ns[i]? = some (ns[i]'(by omega)) := List.getElem?_eq_getElem (by omega)
  obtain ⟨v2, e2, rel⟩ := r.get (i := i) (x := .int (ns[i]'(by omega))) (by rw [List.getElem?_map, en]; rfl)
  rw [hv'] at e2
  cases e2
  obtain ⟨t, rfl⟩ := rel
  have hg : ns.getD i 0 = ns[i]'(by omega) := by rw [List.getD_eq_getElem?_getD, en] <;> rfl
  have hq' : Q (ns.getD i 0 != 0) s := hq
  rw [hg] at hq'
  exact PySem.P.truthy_int hq'
theorem any_rangeI : ∀ ns : List Int, (List.range ns.length).any (fun i => ns.getD i 0 != 0) = ns.any (· != 0)
  | [] => rfl
  | b :: bs => by
    rw [List.length_cons, List.range_succ_eq_map, List.any_cons, List.any_map, List.any_cons, ← any_rangeI bs]
    all_goals rfl
def rAnyT (K : PySem.W.Frag) : List V → Hp → VK → Prop := fun vs H Q => ∃ (a : Addr) (ns : List Int), vs = [V.ref a] ∧ SqT K H a (ns.map V.int) ∧ Q (.bl (ns.any (· != 0))) H
section
variable {X : Cx} {K : PySem.W.Frag}
theorem cr_anyT (hc : X.calm = true) : CallR X (.builtin "any") (rAnyT X.K) := by
  intro pins s σ H vs us Q I r h
  obtain ⟨a, ns, rfl, hs, q⟩ := h
  obtain ⟨its, rv, hl, _⟩ := I.tuple hs
  rw [Vals.ref1 r]
  refine call_any_walk (iter_anyT hl fun s₂ e2 st hne => ?_)
  subst e2
  refine ⟨_, _, _, _, _, _, _, rfl, Walks.tuple (A := X.A.in1) (I.ok.hd hc) _ a hne its.toArray, st, truth_ints rv, fun h' tk hk => ?_⟩
  refine ⟨.bl _, H, I.kept fun b o eo => hk b o (fun hmem => ?_) (Heap.get?_push_of_some _ eo), ?_, q⟩
  · rcases List.mem_cons.mp hmem with e1 | hmem
    · exact absurd (e1 ▸ Heap.lt_size eo) (Nat.lt_irrefl _)
    · cases hmem
  · show Value.bool _ = Value.bool _
    rw [← any_rangeI, List.size_toArray, ← rv.length, List.length_map]
theorem c_anyT (e : X.K = K) (hc : X.calm = true) : CallR X (.builtin "any") (rAnyT K) := by subst e; exact cr_anyT hc
end
theorem r_anyT {K : PySem.W.Frag} {H : Hp} {Q : VK} {a : Addr} (ns : List Int) (hs : SqT K H a (ns.map V.int)) (h : Q (.bl (ns.any (· != 0))) H) : rAnyT K [.ref a] H Q := ⟨a, ns, rfl, hs, h⟩
/-! ## two walks in one comprehension: two lists -/
theorem inn_list {K : PySem.W.Frag} {D : Addr} {g1 : TG} {tt1 : TT} {te : TE} {vs1 : List Nat} {σ2 : L2.St} {H4 : Hp} {Nx : Hp → Prop} {a : Addr} (xs : List V) (Pv : Nat → Hp → Prop) (h0 : Pv 0 H4)
    (hl : ∀ j H, j ≤ xs.length → Pv j H → SqL K H a xs)
    (hs : ∀ j x H, xs[j]? = some x → Pv j H → g1 x (wipe σ2 vs1) H fun σ3 H5 => wipe σ3 vs1 = wipe σ2 vs1 ∧ tt1 σ3 H5 fun b H6 =>
        if b = true then te σ3 H6 fun y H7 => ∃ acc, H7 D = some (.lst acc) ∧ acc.length < sizeLine ∧ Pv (j + 1) (upd H7 D (.lst (acc ++ [y]))) else Pv (j + 1) H6)
    (hd : ∀ H, Pv xs.length H → Nx H) : Inn D (Itl K a) g1 tt1 te vs1 σ2 H4 Nx := by
  refine ⟨fun i m H => m = xs.length - i ∧ i ≤ xs.length ∧ Pv i H, ⟨xs.length, by omega, Nat.zero_le _, h0⟩, ?_⟩
  rintro i m H ⟨rfl, hi, p⟩
  have q := hl i H hi p
  by_cases lt : i < xs.length
  · refine Or.inr ⟨⟨xs, xs[i], q, by simp [lt]⟩, Pv (i + 1), fun H' p' => ⟨xs.length - (i + 1), by omega, rfl, lt, p'⟩, fun x H' y => ?_⟩
    obtain ⟨e, f⟩ := y
    subst e
    exact hs i x H' (f xs q) p
  · have e : i = xs.length := by omega
    subst e
    exact Or.inl ⟨⟨xs, q, Nat.le_refl _⟩, hd H p⟩
theorem r_wL {K : PySem.W.Frag} {σ : L2.St} {H : Hp} {tl : TE} {R : It → Hp → Prop} (h : tl σ H fun x H1 => ∃ a, x = .ref a ∧ (∃ xs, SqL K H1 a xs) ∧ R (Itl K a) H1) : iList K tl σ H R := h
end Vf

namespace Vf
open PySem PySem.Spec PyProof.Rows L2
/-! ## math.comb; the pairs of a dict whose keys are tuples; d.get(key, x) -/
section
variable {X : Cx}
def rComb : List V → Hp → VK → Prop := fun vs H Q => ∃ a b : Int, vs = [.int a, .int b] ∧ 0 ≤ a ∧ 0 ≤ b ∧ a ≤ 18000 ∧ Q (.int (PySem.W.mcComb a b)) H
theorem c_comb : CallR X (.builtin "math.comb") rComb := by
  intro pins s σ H vs us Q I r h
  obtain ⟨a, b, rfl, ha, hb, hl, q⟩ := h
  obtain ⟨t, u, rfl⟩ := Vals.int2 r
  exact PySem.W.mc_comb ha hb (by omega) (.inr hl) fun _ => ⟨.int _, H, I.tok _, ⟨_, rfl⟩, q⟩
theorem r_comb {H : Hp} {Q : VK} {a b : Int} (ha : 0 ≤ a) (hb : 0 ≤ b) (hl : a ≤ 18000) (h : Q (.int (PySem.W.mcComb a b)) H) : rComb [.int a, .int b] H Q := ⟨a, b, rfl, ha, hb, hl, h⟩
end
section
variable {X : Cx} {pins : List (Addr × Obj)} {σ : L2.St} {H : Hp} {s : Shared} {d : Addr} {o : Obj}
theorem frzV {kvs : List (List Key × V)} (I : Inv X pins σ H s) (h : H d = some (.frz o (.dT kvs))) :
    (d == sysModules) = false ∧ s.heap.get? d = some o ∧ o.ExactDict ∧ ∃ (es : Array DictEntry) (ep : Nat), o.data = .dict es ep ∧ es.size = kvs.length ∧
      ∀ (i : Nat) (k : List Key) (v : V), kvs[i]? = some (k, v) → ∃ (en : DictEntry) (q : Addr), es[i]? = some en ∧ en.key = .ref q ∧ H q = some (.tup (k.map kV)) ∧ RelV v en.val := by
  obtain ⟨hd, z, hs, xs, pr, o', es, ep, ho, hx, hdt, he, _⟩ := I.hok d _ h
  rw [hd] at ho
  cases ho
  refine ⟨hs, hd, hx, es, ep, hdt, ?_, fun i k v e => ?_⟩
  · have l1 : es.size = xs.length := size_of_entries he
    have l2 : kvs.length = xs.length := Paired.length pr
    omega
  · obtain ⟨b, hb, e1, e2, e3⟩ := paired_get pr e
    have q := entry_at he i
    rw [hb] at q
    exact ⟨_, b.2.1, q, rfl, e2, e3⟩
/-- the pairs of the locked dict at d, each a new tuple of the key's own tuple and the value -/
def Itit (d : Addr) (o : Obj) (kvs : List (List Key × V)) : It :=
  ⟨fun i H => H d = some (.frz o (.dT kvs)) ∧ i < kvs.length, fun i H x H' => ∃ T k v q, kvs[i]? = some (k, v) ∧ H q = some (.tup (k.map kV)) ∧ x = .ref T ∧ H T = none ∧ H' = upd H T (.tup [.ref q, v]), fun i H => H d = some (.frz o (.dT kvs)) ∧ kvs.length ≤ i⟩
theorem turn_itemsT {P : Program} {w : World} {K : PySem.W.Frag} {es : Array DictEntry} {ep : Nat} {kvs : List (List Key × V)} {elts : List Expr} {kk : Nat} {tpos : Pos} (it : Addr) (hod : o.data = .dict es ep) :
    Turn P w K (.Tuple elts kk tpos) (Itit d o kvs) [it] it (fun i h => ∃ ok ov, IsItemIter h it d i kvs.length ep ok ov) where
  mem := by simp
  obj := fun i h st b hb => by
    have e : b = it := by simpa using hb
    subst e
    obtain ⟨ok, ov, e⟩ := st
    exact ⟨_, e, fun v z => nomatch z⟩
  keep := fun i h h' st k => let ⟨ok, ov, e⟩ := st; ⟨ok, ov, k it (by simp) _ e⟩
  item := by
    intro X hP hw hK hc i pins s σ H E I hf st hg
    subst hP hw hK
    obtain ⟨hd, hi⟩ := hg
    obtain ⟨hs, hgd, hx, es', ep', hdt, hsz, ent⟩ := frzV I hd
    obtain ⟨rfl, rfl⟩ := dict_ep hod hdt
    obtain ⟨⟨k, v⟩, hkv⟩ : ∃ p, kvs[i]? = some p := ⟨kvs[i], List.getElem?_eq_getElem hi⟩
    obtain ⟨en, q, hen, hkey, hq, rv⟩ := ent i k v hkv
    obtain ⟨ok, ov, he⟩ := st
    rw [← hsz] at he
    have hlt : it < s.heap.objs.size := Heap.lt_size he
    have his : i < es'.size := by omega
    have eni : es'[i] = en := by
      rw [Array.getElem?_eq_getElem his] at hen
      exact Option.some.inj hen
    refine DT.nextI he ⟨o, hgd, hx, hdt⟩ his fun h' ho hT hz hk => ?_
    rw [eni] at ho hT
    refine ⟨_, rfl, wpAny_letOwnedTupleGo_items (s := { s with heap := h' }) ho fun h'' he' sb => ?_⟩
    have hT2 : h''.get? s.heap.objs.size = some { cls := .type "tuple", data := .seq #[en.key, en.val] } := (sb.2 _ (Nat.ne_of_gt hlt)).trans hT
    have new : ObjOk X.prog X.w (upd H s.heap.objs.size (.tup [.ref q, v])) h'' s.heap.objs.size (.tup [.ref q, v]) :=
      ⟨by show 2 ≤ sizeLine; decide, [en.key, en.val], .cons hkey (.cons rv .nil), ⟨_, hT2, rfl, _, rfl⟩⟩
    have I1 : Inv X pins σ (upd H s.heap.objs.size (.tup [.ref q, v])) { s with heap := h'' } :=
      I.turnedNew (t' := s.toks) (ch := [it]) (fun b ob hb e => (sb.2 b (by simpa using hb)).trans (hk b ob (by simpa using hb) e)) hf (Nat.le_refl _) new
    refine ⟨.ref s.heap.objs.size, _, I1, rfl, ⟨_, k, v, q, hkv, hq, rfl, I.hok.fresh (Nat.le_refl _), rfl⟩, ⟨en.key, en.val, ?_⟩, fun b hb => ?_⟩
    · rw [← hsz]
      exact he'
    · have e : b = it := by simpa using hb
      rw [e, upd_ne (Nat.ne_of_lt hlt)]
      exact (hf it (by simp)).1
  done := by
    intro X hP hw hK hc i pins s σ H E I hf st hg
    subst hP hw hK
    obtain ⟨hd, hi⟩ := hg
    obtain ⟨f0, f1, f2, f3, f4, f5⟩ := hf it (by simp)
    obtain ⟨hs, hgd, hx, es', ep', hdt, hsz, ent⟩ := frzV I hd
    obtain ⟨rfl, rfl⟩ := dict_ep hod hdt
    obtain ⟨ok, ov, he⟩ := st
    rw [← hsz] at he
    exact DT.endI (I.ok.hd hc) he ⟨o, hgd, hx, hdt⟩ (by omega) fun h' eb => ⟨rfl, I.turned (t' := s.toks) (fun b ob hb e => eb b ob hb e) f0 f1 f3 f4 f5⟩
  self := fun A i s Q E st h => let ⟨_, _, e⟩ := st; PySem.W.kcp_self e h
end
def iItemsT (td : TE) : TI := fun σ H R => td σ H fun x H1 => ∃ d o kvs, x = .ref d ∧ H1 d = some (.frz o (.dT kvs)) ∧ R (Itit d o kvs) H1
theorem pi_itemsT {X : Cx} {e : Expr} {td : TE} {apos cpos : Pos} {elts : List Expr} {kk : Nat} {tpos : Pos} (he : PE X e td) (hbase : attributeBase e "items" X.env (eval e X.env) = eval e X.env := by rfl) (hline : (apos.endLine == cpos.line) = true := by rfl) :
    PI X (.Tuple elts kk tpos) (.Call (.Attribute e "items" apos) [] [] cpos) (iItemsT td) := by
  refine ⟨fun pins s σ H R I h => ?_⟩
  refine wpAny_Call_method (T := "dict") (id := "dict.items") hbase rfl hline F.plainAttrs_dict F.slot_dict_items F.type_dict_items (thn (he.run pins s σ H _ I h) fun u s1 ⟨x, H1, I1, rx, d, o, kvs, ex, hd, q⟩ => ?_)
  subst ex
  obtain rfl : u = Value.ref d := rx
  obtain ⟨hs, hgd, hx, es, ep, hdt, hsz, ent⟩ := frzV I1 hd
  have raw : DT.Raw s1.heap d es ep := ⟨o, hgd, hx, hdt⟩
  refine ⟨raw.typeIs, (fun a e => by cases e; exact ⟨o, hgd, hx.2.1⟩), ?_⟩
  have I2 : Inv X pins σ H1 { s1 with heap := s1.heap.push { cls := .type "dict_items", data := .fields #[.ref d] } } := I1.kept (t' := s1.toks) fun b ob q => Heap.get?_push_of_some _ q
  have fin : wpAny (model X.prog X.w) X.A (pyIter (.ref s1.heap.objs.size)) (PIE X pins σ (.Tuple elts kk tpos) R) X.xe { s1 with heap := s1.heap.push { cls := .type "dict_items", data := .fields #[.ref d] } } := by
    refine DT.iterI (d := d) (es := es) (ep := ep) ⟨_, Heap.get?_push_size _ rfl, rfl, rfl⟩ (raw.push _) (pi_one (tk := s1.toks) I2 _ (turn_itemsT _ hdt) ⟨.none, .none, ?_⟩ q)
    rw [← hsz]
    exact Heap.get?_push_size _ rfl
  show wpAny _ _ (callWith cpos (.builtin "dict.items") [.ref d] [] []) _ X.xe s1
  exact method_meetsIn F.slot_dict_items F.entry_dict_items rfl (PySem.evalArgs_none ⟨rfl, raw.typeIs, F.args_dict_items_1 _, _, DT.meetsItems (es := es) (ep := ep) hs, raw, fin⟩)
section
variable {K : PySem.W.Frag} {σ : L2.St} {H : Hp} {Q : VK} {g : TG} {tt : TT} {te : TE} {vs : List Nat}
theorem r_lcITi {td : TE} (h : td σ H fun x H1 => ∃ d o kvs, x = .ref d ∧ H1 d = some (.frz o (.dT kvs)) ∧ tLc (fun _ H2 R => R (Itit d o kvs) H2) g tt te vs σ H1 Q) : tLc (iItemsT td) g tt te vs σ H Q := h
theorem r_lcIT {d : Addr} {o : Obj} (kvs : List (List Key × V)) (Pv : Addr → Nat → Hp → Prop) (h0 : ∀ D, H D = none → Pv D 0 (upd H D (.lst [])))
    (hl : ∀ D i H', H D = none → i ≤ kvs.length → Pv D i H' → H' d = some (.frz o (.dT kvs)))
    (hs : ∀ D i k v q H' T, H D = none → kvs[i]? = some (k, v) → H' q = some (.tup (k.map kV)) → Pv D i H' → H' T = none → g (.ref T) (wipe σ vs) (upd H' T (.tup [.ref q, v])) fun σ2 H2 => wipe σ2 vs = wipe σ vs ∧ tt σ2 H2 fun b H3 =>
      if b = true then te σ2 H3 fun y H4 => ∃ acc, H4 D = some (.lst acc) ∧ acc.length < sizeLine ∧ Pv D (i + 1) (upd H4 D (.lst (acc ++ [y]))) else Pv D (i + 1) H3)
    (hd : ∀ D H', H D = none → Pv D kvs.length H' → Q (.ref D) H') : tLc (fun _ H2 R => R (Itit d o kvs) H2) g tt te vs σ H Q := by
  refine fun D hD => ⟨fun i m H => m = kvs.length - i ∧ i ≤ kvs.length ∧ Pv D i H, ⟨kvs.length, by omega, Nat.zero_le _, h0 D hD⟩, ?_⟩
  rintro i m H' ⟨rfl, hi, p⟩
  have qx := hl D i H' hD hi p
  by_cases lt : i < kvs.length
  · refine Or.inr ⟨⟨qx, lt⟩, Pv D (i + 1), fun H' p' => ⟨kvs.length - (i + 1), by omega, rfl, lt, p'⟩, fun v H'' yy => ?_⟩
    obtain ⟨T, k, v, q, hkv, hq, rfl, nT, rfl⟩ := yy
    exact hs D i k v q H' T hD hkv hq p nT
  · have e : i = kvs.length := by omega
    rw [e] at p
    exact Or.inl ⟨⟨qx, by omega⟩, hd D H' hD p⟩
theorem r_dget2 {td ty tx : TE} (h : td σ H fun x H1 => ∃ a, x = .ref a ∧ IsD H1 a ∧ ty σ H1 fun y H2 => tx σ H2 fun z H3 => ∃ o, DGet H3 a y o ∧ Q (o.getD z) H3) : tDGet2 td ty tx σ H Q := h
end
end Vf

namespace Vf
open PySem PySem.Spec PyProof.Rows L2 LamX
/-! ## sorted(rows, key=lambda x: (len(x), x)) -/
theorem reads_ints {h : Heap} : ∀ {ns : List Int} {vs : List Value} {as : List Addr}, ReadsAll h vs (ns.map PyData.int) as → as = []
  | [], _, _, r => by
    have r' : ReadsAll h _ [] _ := r
    cases r'
    rfl
  | n :: ns, _, _, r => by
    have r' : ReadsAll h _ (.int n :: ns.map PyData.int) _ := r
    cases r' with
    | cons h1 h2 =>
      cases h1
      rw [reads_ints h2]
      rfl
theorem reads_row {h : Heap} {v : Value} {ns : List Int} {as : List Addr} (r : Reads h v (tupD ns) as) : as = [] ∧ ∃ (p : Addr) (its : Array Value), v = .ref p ∧ IsTup h p its ∧ its.size = ns.length := by
  have r' : Reads h v (.tuple (ns.map PyData.int)) as := r
  cases r' with
  | @tuple b o vs n _ _ h1 h2 h3 h4 =>
    refine ⟨reads_ints h4, b, vs, rfl, ⟨o, h1, h2, n, h3⟩, ?_⟩
    have e : ∀ {ns : List Int} {vs : List Value} {as : List Addr}, ReadsAll h vs (ns.map PyData.int) as → vs.length = ns.length := by
      intro ns
      induction ns with
      | nil => intro vs as r; have r' : ReadsAll h vs [] as := r; cases r'; rfl
      | cons n ns ih =>
        intro vs as r
        have r' : ReadsAll h vs (.int n :: ns.map PyData.int) as := r
        cases r' with
        | cons h1 h2 => rw [List.length_cons, List.length_cons, ih h2]
    rw [← Array.length_toList]
    exact e h4
def keyD (ns : List Int) : PyData := .tuple [.int (ns.length : Int), tupD ns]
section
variable {prog : Program} {w : World} {A : Around} {s : Shared} {f c' : Addr} {q x : Str} {params : Arguments} {scope : Scope} {pm ctv : Value} {k : Nat} {p1 p2 p3 p4 p5 : Pos}
/-- the key of one row -/
theorem key_row {mg mb : Str → Option Value} {p : Addr} {its : Array Value} {ns : List Int} (hf : s.heap.get? f = some (PySem.W.kla_obj "<lambda>" q params (.Tuple [.Call (.Name "len" p1) [.Name x p2] [] p3, .Name x p4] k p5) scope [] pm c' ctv)) (hrec : s.heap.CodeRec (.ref c') q)
    (hroom : A.depth < recursionLimit) (hns : scope.names = [(x, NameKind.local), (("len" : Str), NameKind.globalImplicit)] ∨ scope.names = [(("len" : Str), NameKind.globalImplicit), (x, NameKind.local)]) (hxl : x ≠ ("len" : Str)) (hkd : scope.kind = .function) (hco : scope.isCoroutine = false) (hgen : scope.isGenerator = false)
    (hbind : bindArgs (PySem.W.kla_fn "<lambda>" q params (.Tuple [.Call (.Name "len" p1) [.Name x p2] [] p3, .Name x p4] k p5) scope [] pm (.ref c') ctv) ⟨[.ref p], []⟩ = pure [(x, .ref p)])
    (hlim : s.heap.NoLimit) (hG : s.heap.Ns mainGlobals mg) (hB : s.heap.Ns builtinsNs mb) (hm : mg ("len" : Str) = none) (hb : mb ("len" : Str) = some (.builtin "len")) (hT : IsTup s.heap p its) (hz : its.size = ns.length) (hl : ns.length ≤ 1000) (hr : Reads s.heap (.ref p) (tupD ns) [])
    (hd : (x == ("__debug__" : Str)) = false) :
    wpAny (model prog w) A (call (.ref f) [.ref p]) (PySem.W.KeyPure (keyD ns) s) (fun _ _ => False) s := by
  have lx : scope.names.lookup x = some .local := by
    rcases hns with e | e <;> rw [e]
    · simp [List.lookup]
    · have : (x == ("len" : Str)) = false := by simpa using hxl
      simp [List.lookup, this]
  have ll : scope.names.lookup ("len" : Str) = some .globalImplicit := by
    rcases hns with e | e <;> rw [e]
    · have : (("len" : Str) == x) = false := by simpa using fun z => hxl z.symm
      simp [List.lookup, this]
    · simp [List.lookup]
  refine wpAny_call ?_
  refine PySem.W.kla_callFunE hroom hf rfl hco hgen rfl hrec ?_
  rw [hbind]
  refine wpAny_pure (wpAny_newFunctionEnv (fun y hy => ?_) (fun y hy => ?_) (fun h₁ hns' hsb => ⟨hlim.fresh _ hsb, ?_⟩) hkd)
  · rcases hns with e | e <;> rw [e] at hy
    · rcases List.mem_cons.mp hy with rfl | hy
      · exact fun z => nomatch z
      · rw [List.mem_singleton.mp hy]
        exact fun z => nomatch z
    · rcases List.mem_cons.mp hy with rfl | hy
      · exact fun z => nomatch z
      · rw [List.mem_singleton.mp hy]
        exact fun z => nomatch z
  · rw [List.mem_singleton.mp hy]
    exact lx
  have kp : ∀ b o, s.heap.get? b = some o → h₁.get? b = some o := fun b o e => hsb.extBut b o (Nat.ne_of_lt (Heap.lt_size e)) (Heap.get?_push_of_some _ e)
  have hv : ([(x, Value.ref p)].reverse.lookup x) = some (.ref p) := by simp [List.lookup]
  refine PySem.W.kla_codeExpr (wpAny_mono (Q := fun v s' => PySem.W.KeyPure (keyD ns) s v s') (E := fun _ _ => False) ?_ (fun _ _ h => h) fun _ _ h => h.elim)
  refine wpAny_Tuple_spliced ?_
  refine Calls.spliced_cons ?_
  refine wpAny_Call_Name_kw (Calls.Name_function_global hkd ll (Calls.loadGlobal_builtin (hG.keeps kp) hm (hB.keeps kp) hb ?_) (by decide))
  refine PyProof.Rows.callWith_builtin1 (Calls.spliced_cons (wpAny_Name (wpAny_loadName_local hkd lx hns' hv (Calls.spliced_nil ?_)) hd)) (by rfl) (by rfl)
  obtain ⟨o, g1, g2, n, g3⟩ := hT
  refine len_tuple ⟨o, kp _ _ g1, g2, n, g3⟩ (by omega) ?_
  refine Calls.spliced_cons (wpAny_Name (wpAny_loadName_local hkd lx hns' hv (Calls.spliced_nil ⟨by show 2 ≤ sizeLine; decide, ?_⟩)) hd)
  have kp2 : ∀ (oT : Obj) b o, s.heap.get? b = some o → (h₁.push oT).get? b = some o := fun oT b o e => Heap.get?_push_of_some _ (kp b o e)
  refine ⟨_, _, rfl, kp2 _, ?_⟩
  rw [hz]
  exact Reads.tuple (Heap.get?_push_size _ rfl) rfl rfl (.cons (.int _ _) (.cons (PyProof.Rows.Reads.keeps (kp2 _) hr) .nil))
end
abbrev leK : List Int → List Int → Bool := PySem.W.dataLe false keyD
theorem ExtN.seqL {K : PySem.W.Frag} {H H' : Hp} {a : Addr} {xs : List V} (e : ExtN H H') (h : SqL K H a xs) : SqL K H' a xs := by
  rcases h with (h | ⟨o, h⟩) | h
  · exact Or.inl (Or.inl (e _ _ h fun _ z => nomatch z))
  · exact Or.inl (Or.inr ⟨o, e _ _ h fun _ z => nomatch z⟩)
  · exact Or.inr h
theorem ExtN.seqT {K : PySem.W.Frag} {H H' : Hp} {a : Addr} {xs : List V} (e : ExtN H H') (h : SqT K H a xs) : SqT K H' a xs := by
  rcases h with (h | ⟨o, h⟩) | h
  · exact Or.inl (Or.inl (e _ _ h fun _ z => nomatch z))
  · exact Or.inl (Or.inr ⟨o, e _ _ h fun _ z => nomatch z⟩)
  · exact Or.inr h
theorem ExtN.rows {K : PySem.W.Frag} {H H' : Hp} (e : ExtN H H') : ∀ {xs : List V} {nss : List (List Int)}, RowsAt K H xs nss → RowsAt K H' xs nss
  | _, _, .nil => .nil
  | _, _, .cons ⟨t, h1, h2⟩ r => .cons ⟨t, h1, ExtN.seqT e h2⟩ (ExtN.rows e r)
def tSortKey (K : PySem.W.Frag) (T : List (Addr × Str)) (t : TA) : TE := fun σ H Q => t σ H fun vs H1 => Tabs T H1 ∧ ∃ (a : Addr) (xs : List V) (nss : List (List Int)), vs = [.ref a] ∧ SqL K H1 a xs ∧ RowsAt K H1 xs nss ∧ nss.length ≤ 100000 ∧ (∀ ns ∈ nss, ns.length ≤ 1000) ∧
  ∀ ys p H2, ExtN H1 H2 → Tabs T H2 → (∀ o, H1 p = some o → ∃ ps, o = .tbl ps) → H2 p = some (.lst ys) → RowsAt K H2 ys (nss.mergeSort leK) → Q (.ref p) H2
section
variable {X : Cx} {K : PySem.W.Frag}
/-- sorted(rows, key=lambda x: (len(x), x)) -/
theorem pe_sortKey (eK : X.K = K) {T : List (Addr × Str)} {c P : Addr} {x : Str} {e : Expr} {params : Arguments} {scope : Scope} {k : Nat} {t : TA} {p pos lpos kpos p1 p2 p3 p4 p5 : Pos}
    (hu : X.A.units + 64 < cLine) (hdp : X.A.in1.in1.depth < recursionLimit) (hg : Gl X "sorted") (hm : X.mg "sorted" = none) (hml : X.mg "len" = none)
    (TB : TabB X.base X.mg c P) (hcode : X.env.code = .ref c) (hmT : (P, X.env.qual ++ "<lambda>") ∈ T) (huT : ∀ p ∈ T, p.1 = P → p.2 = X.env.qual ++ "<lambda>") (hdef : defaultsOf params X.env = ([], []))
    (hns : scope.names = [(x, NameKind.local), (("len" : Str), NameKind.globalImplicit)] ∨ scope.names = [(("len" : Str), NameKind.globalImplicit), (x, NameKind.local)]) (hxl : x ≠ ("len" : Str)) (hkd : scope.kind = .function) (hco : scope.isCoroutine = false) (hgen : scope.isGenerator = false)
    (hbind : ∀ (q : Str) (pm cv ctv : Value) (r : Addr), bindArgs (PySem.W.kla_fn "<lambda>" q params (.Tuple [.Call (.Name "len" p1) [.Name x p2] [] p3, .Name x p4] k p5) scope [] pm cv ctv) ⟨[.ref r], []⟩ = pure [(x, .ref r)])
    (hxd : (x == ("__debug__" : Str)) = false) (ha : PA X [e] t)
    (he : backTo pos (starEach [e] X.env) = (false, eval e X.env) :: backTo pos (starEach [] X.env) := by rfl) (hpl : (backTo pos (starEach [e] X.env)).any (·.1) = false := by rfl) :
    PE X (.Call (.Name "sorted" p) [e] [⟨some "key", .Lambda params (.Tuple [.Call (.Name "len" p1) [.Name x p2] [] p3, .Name x p4] k p5) scope lpos, kpos⟩] pos) (tSortKey K T t) := by
  subst eK
  have hfree : ∀ y ∈ scope.names, y.2 = .free → ∃ c, X.env.cells.lookup y.1 = some c := fun y hy z => by
    rcases hns with e | e <;> rw [e] at hy
    · rcases List.mem_cons.mp hy with rfl | hy
      · exact nomatch z
      · rw [List.mem_singleton.mp hy] at z
        exact nomatch z
    · rcases List.mem_cons.mp hy with rfl | hy
      · exact nomatch z
      · rw [List.mem_singleton.mp hy] at z
        exact nomatch z
  have hclo : cloFrom X.env.cells scope.names [] = [] := by
    rcases hns with e | e <;> rw [e] <;> rfl
  refine ⟨fun pins s σ H Q I h => ?_⟩
  refine wpAny_Call_Name_kw (ld_blt I hg hm (u := .builtin "sorted") (by decide +kernel) ?_)
  refine PyProof.Rows.callWith_kw (thn (ha.run pos pins s σ H _ I h) fun us s1 ⟨vs, H1, I1, r1, q1⟩ => ?_) he hpl (by rfl) (by rfl)
  obtain ⟨hT, a, xs, nss, rfl, hs, R, hb, hb2, q⟩ := q1
  obtain ⟨u, rfl, ru⟩ := vals1 r1
  obtain rfl : u = Value.ref a := ru
  show wpAny _ _ (evalAll ((do let v ← eval (.Lambda params (.Tuple [.Call (.Name "len" p1) [.Name x p2] [] p3, .Name x p4] k p5) scope lpos) X.env; standAt pos; pure v) :: [])) _ _ s1
  refine wpAny_evalAll_cons (wpAny_bind (lam_make2 I1 TB hcode hmT huT hT hdef hfree fun f c' pm ctv H2 s2 I2 eN T2 hf hfn hfr hcO => wpAny_bind (wpAny_standAt (wpAny_pure (wpAny_evalAll_nil ?_)))))
  show wpAny _ _ (call (.builtin "sorted") [.ref a] [(Str.ofString "key", .ref f)]) _ _ s2
  rw [hclo] at hf
  have hs2 := ExtN.seqL eN hs
  have R2 := ExtN.rows eN R
  obtain ⟨its, rv, hl, hz⟩ := I2.list hs2
  obtain ⟨e1, e2⟩ := refs_back rv (rows_refs R2)
  obtain ⟨z1, z2, z3⟩ := rows_zip R2 rv
  have rr := rows_reads I2 R2 rv
  have lz : (its.zip nss).length = nss.length := by rw [← List.length_map (f := Prod.snd), z3]
  have li : its.length = nss.length := by rw [← rv.length]; exact Paired.length R2
  obtain ⟨⟨oc, cvs, ct, hoc, hdc, hvc⟩, _, _⟩ := I2.hok c' _ hcO
  obtain ⟨mb, mb1, mb2⟩ := I2.mod.blt
  have each : ∀ {vs : List Value} {bs : List (Value × List Int)}, PySem.W.EachIs (fun v b => v = b.1) vs bs → PySem.W.EachIs (fun v b => ∃ as, Reads s2.heap v (tupD b.2) as) vs bs → ∀ b ∈ bs, ∃ as, Reads s2.heap b.1 (tupD b.2) as := by
    intro vs bs h1
    induction h1 with
    | nil => intro _ b hb; exact nomatch hb
    | cons h _ ih =>
      intro h2 b hb
      cases h2 with
      | cons h3 h4 =>
        rcases List.mem_cons.mp hb with rfl | hb
        · rw [← h]
          exact h3
        · exact ih h4 b hb
  have rd : ∀ b ∈ its.zip nss, Reads s2.heap b.1 (tupD b.2) [] ∧ ∃ (p : Addr) (jts : Array Value), b.1 = .ref p ∧ IsTup s2.heap p jts ∧ jts.size = b.2.length := fun b hb => by
    obtain ⟨as, hr⟩ := each z1 rr b hb
    obtain ⟨rfl, w⟩ := reads_row hr
    exact ⟨hr, w⟩
  refine PySem.W.sorted_key_data (β := Value × List Int) (bs := its.zip nss) (R := fun v b => v = b.1) (b := false) (fun b => keyD b.2) hl.isList z1 (PySem.W.AllAlike.of fun b b' => ?_) (PySem.W.Sortable.tuples fun b => ⟨_, _, rfl⟩) (by rw [lz, ← li, ← rv.length]; exact hz) (fun b hb => ?_) (ksk_s1 _ _) (fun _ => ksk_l1 _ _) (fun _ => ksk_t1 _ _) (fun v b hv hb h tk kp => ?_) fun out c h' tk kp fresh hD hlen ho => ?_
  · show PySem.W.alike (.tuple [.int _, .tuple (b.2.map PyData.int)]) (.tuple [.int _, .tuple (b'.2.map PyData.int)]) = true
    have z := PySem.W.alike_ints b.2 b'.2
    simp [PySem.W.alike, PySem.W.alikeAll, z]
  · show X.A.units + 2 + (PyData.depthAll [.int _, .tuple (b.2.map PyData.int)] + 1) < cLine
    have z : PyData.depthAll [.int (b.2.length : Int), .tuple (b.2.map PyData.int)] ≤ 1 := by
      show max 0 (max (PyData.depthAll (b.2.map PyData.int) + 1) 0) ≤ 1
      rw [depthInts]
      decide
    omega
  · obtain ⟨hr, p', jts, e3, hT', hz'⟩ := rd b hb
    rw [hv, e3]
    have lb : b.2.length ≤ 1000 := hb2 _ (List.of_mem_zip hb).2
    obtain ⟨o', g1, g2, n', g3⟩ := hT'
    have kb : ∀ b o, X.base.get? b = some o → h.get? b = some o := fun b o e => kp b o (I2.bk b o e)
    refine key_row (mg := X.mg) (mb := mb) (p := p') (its := jts) (ns := b.2) (kp _ _ hf) ⟨c', oc, cvs, ct, rfl, kp _ _ hoc, hdc, hvc⟩ hdp hns hxl hkd hco hgen (hbind _ _ _ _ _) (I2.mod.nolimit.keeps kb) (I2.mod.glob.keeps kb) (mb1.keeps kb) hml ((mb2 "len" (by decide)).trans (by decide +kernel)) ⟨o', kp _ _ g1, g2, n', g3⟩ hz' lb ?_ hxd
    rw [e3] at hr
    exact PyProof.Rows.Reads.keeps kp hr
  · have eo := each_fst ho
    have pm : ((its.zip nss).mergeSort (PySem.W.dataLe false fun b => keyD b.2)).Perm (its.zip nss) := List.mergeSort_perm ..
    have em : ((its.zip nss).mergeSort (PySem.W.dataLe false fun b => keyD b.2)).map Prod.snd = nss.mergeSort leK := by
      have hh := List.map_mergeSort (f := Prod.snd) (r := PySem.W.dataLe false fun b : Value × List Int => keyD b.2) (s := leK) (l := its.zip nss) fun a _ b _ => rfl
      rw [z3] at hh
      exact hh
    have hR := rows_of (K := X.K) (H := H2) _ fun b hb => z2 b (pm.mem_iff.mp hb)
    rw [em, ← eo] at hR
    have hm3 : ∀ u ∈ out, ∃ a, u = Value.ref a := fun u hu3 => by
      rw [eo] at hu3
      obtain ⟨b, hb, rfl⟩ := List.mem_map.mp hu3
      exact e2 _ (List.of_mem_zip (pm.mem_iff.mp hb)).1
    have nF : H2 (s2.heap.objs.size + 1) = none := I2.hok.fresh (Nat.le_succ _)
    have nF1 : ∀ o, H1 (s2.heap.objs.size + 1) = some o → ∃ ps, o = .tbl ps := fun o hh => by
      by_cases ht : ∃ ps, o = .tbl ps
      · exact ht
      · have z := eN _ _ hh fun ps z => ht ⟨ps, z⟩
        rw [nF] at z
        cases z
    have sF := Same.new nF (o := .lst (out.map backV))
    refine ⟨.ref (s2.heap.objs.size + 1), upd H2 (s2.heap.objs.size + 1) (.lst (out.map backV)), I2.laid (t' := tk) kp (Nat.le_succ _) ⟨?_, out, c, vals_back hm3, hD⟩, rfl, q _ _ _ (ExtN.trans eN (ExtN.of sF)) (Tabs.ext T2 sF) nF1 upd_same (RowsAt.same hR sF)⟩
    rw [List.length_map, hlen, lz, ← li, ← rv.length]
    exact hz
end
end Vf

namespace Vf
open PySem PySem.Spec PyProof.Rows L2 LamX
/-! ## sorted of pairs (length, row); the order of rows by their length -/
def LpAt (K : PySem.W.Frag) (H : Hp) (v : V) (ns : List Int) : Prop := ∃ t r, v = .ref t ∧ SqT K H t [.int (ns.length : Int), .ref r] ∧ SqT K H r (ns.map V.int)
theorem LpAt.same {K : PySem.W.Frag} {H H' : Hp} (s : Same H H') {v : V} {ns : List Int} (h : LpAt K H v ns) : LpAt K H' v ns := by
  obtain ⟨t, r, h1, h2, h3⟩ := h
  exact ⟨t, r, h1, Same.tup s h2, Same.tup s h3⟩
section
variable {X : Cx} {K : PySem.W.Frag}
theorem Dp.keyD {H : Hp} {v : V} {ns : List Int} (h : LpAt K H v ns) : Dp K H v (keyD ns) := by
  obtain ⟨t, r, rfl, h2, h3⟩ := h
  exact Dp.tup h2 (.cons (.int _) (.cons (Dp.tupD h3) .nil))
def rSortedLP (K : PySem.W.Frag) : List V → Hp → VK → Prop := fun vs H Q => ∃ (a : Addr) (xs : List V) (nss : List (List Int)), vs = [.ref a] ∧ SqL K H a xs ∧ Paired (LpAt K H) xs nss ∧ nss.length ≤ 100000 ∧
  ∀ ys p, Paired (LpAt K H) ys (nss.mergeSort leK) → H p = none → Q (.ref p) (upd H p (.lst ys))
theorem lp_refs {H : Hp} : ∀ {xs : List V} {nss : List (List Int)}, Paired (LpAt K H) xs nss → ∀ x ∈ xs, ∃ t, x = V.ref t
  | _, _, .nil, x, h => by cases h
  | _, _, .cons h t, x, hx => by
    rcases List.mem_cons.mp hx with z | z
    · obtain ⟨p, _, e, _⟩ := h
      exact ⟨p, z.trans e⟩
    · exact lp_refs t x z
theorem lp_zip {H : Hp} : ∀ {xs : List V} {nss : List (List Int)} {its : List Value}, Paired (LpAt K H) xs nss → Vals xs its → PySem.W.EachIs (fun v b => v = b.1) its (its.zip nss) ∧ (∀ b ∈ its.zip nss, ∃ p, b.1 = Value.ref p ∧ LpAt K H (.ref p) b.2) ∧ (its.zip nss).map Prod.snd = nss
  | _, _, _, .nil, .nil => ⟨.nil, (fun b h => nomatch h), rfl⟩
  | _, _, _, .cons h t, .cons r1 r2 => by
    obtain ⟨i1, i2, i3⟩ := lp_zip t r2
    obtain ⟨p, q, rfl, e⟩ := h
    cases r1
    refine ⟨.cons rfl i1, fun b hb => ?_, by rw [List.zip_cons_cons, List.map_cons, i3]⟩
    rcases List.mem_cons.mp hb with z | z
    · rw [z]
      exact ⟨p, rfl, p, q, rfl, e⟩
    · exact i2 b z
theorem lp_reads {pins : List (Addr × Obj)} {σ : L2.St} {H : Hp} {s : Shared} (I : Inv X pins σ H s) : ∀ {xs : List V} {nss : List (List Int)} {its : List Value}, Paired (LpAt X.K H) xs nss → Vals xs its → PySem.W.EachIs (fun v b => ∃ as, Reads s.heap v (keyD b.2) as) its (its.zip nss)
  | _, _, _, .nil, .nil => .nil
  | _, _, _, .cons h t, .cons r1 r2 => .cons (Dp.reads I _ _ _ (Dp.keyD h) r1) (lp_reads I t r2)
theorem lp_of {H : Hp} : ∀ bs : List (Value × List Int), (∀ b ∈ bs, ∃ p, b.1 = Value.ref p ∧ LpAt K H (.ref p) b.2) → Paired (LpAt K H) ((bs.map Prod.fst).map backV) (bs.map Prod.snd)
  | [], _ => .nil
  | b :: bs, h => by
    obtain ⟨p, e, s⟩ := h b List.mem_cons_self
    exact .cons (by rw [e]; exact s) (lp_of bs fun c hc => h c (List.mem_cons_of_mem _ hc))
theorem alike_key (a b : List Int) : PySem.W.alike (keyD a) (keyD b) = true := by
  show PySem.W.alike (.tuple [.int _, .tuple (a.map PyData.int)]) (.tuple [.int _, .tuple (b.map PyData.int)]) = true
  have z := PySem.W.alike_ints a b
  simp [PySem.W.alike, PySem.W.alikeAll, z]
theorem depth_key (a : List Int) : (keyD a).depth ≤ 2 := by
  show PyData.depthAll [.int _, .tuple (a.map PyData.int)] + 1 ≤ 2
  have z : PyData.depthAll [.int (a.length : Int), .tuple (a.map PyData.int)] ≤ 1 := by
    show max 0 (max (PyData.depthAll (a.map PyData.int) + 1) 0) ≤ 1
    rw [depthInts]
    decide
  omega
theorem cr_sortedLP (hu : X.A.units + 64 < cLine) : CallR X (.builtin "sorted") (rSortedLP X.K) := by
  intro pins s σ H vs us Q I r h
  obtain ⟨a, xs, nss, rfl, hs, R, hb, q⟩ := h
  obtain ⟨its, rv, hl, hz⟩ := I.list hs
  obtain ⟨u, rfl, ru⟩ := vals1 r
  obtain rfl : u = Value.ref a := ru
  obtain ⟨e1, e2⟩ := refs_back rv (lp_refs R)
  obtain ⟨z1, z2, z3⟩ := lp_zip R rv
  have lz : (its.zip nss).length = nss.length := by rw [← List.length_map (f := Prod.snd), z3]
  have li : its.length = nss.length := by rw [← rv.length]; exact Paired.length R
  refine PySem.W.sorted_data (bs := its.zip nss) (enc := fun b => keyD b.2) (R := fun v b => v = b.1) hl.isList z1 (lp_reads I R rv) (PySem.W.AllAlike.of fun b b' => alike_key _ _) (PySem.W.Sortable.tuples fun b => ⟨_, _, rfl⟩) (by rw [lz, ← li, ← rv.length]; exact hz) (fun b _ => by have := depth_key b.2; omega) fun out hlen ho => ?_
  have eo := each_fst ho
  have pm : ((its.zip nss).mergeSort (PySem.W.dataLe false fun b => keyD b.2)).Perm (its.zip nss) := List.mergeSort_perm ..
  have em : ((its.zip nss).mergeSort (PySem.W.dataLe false fun b => keyD b.2)).map Prod.snd = nss.mergeSort leK := by
    have hh := List.map_mergeSort (f := Prod.snd) (r := PySem.W.dataLe false fun b : Value × List Int => keyD b.2) (s := leK) (l := its.zip nss) fun a _ b _ => rfl
    rw [z3] at hh
    exact hh
  have hR := lp_of (K := X.K) (H := H) _ fun b hb2 => z2 b (pm.mem_iff.mp hb2)
  rw [em, ← eo] at hR
  have h3 : ∀ u ∈ out, ∃ a, u = Value.ref a := fun u hu3 => by
    rw [eo] at hu3
    obtain ⟨b, hb, rfl⟩ := List.mem_map.mp hu3
    exact e2 _ (List.of_mem_zip (pm.mem_iff.mp hb)).1
  have hn := sortedAll_at s.heap its out.toArray
  obtain ⟨n, hn⟩ := hn
  refine ⟨.ref (s.heap.objs.size + 1), upd H (s.heap.objs.size + 1) (.lst (out.map backV)), I.laid (t' := s.toks) (fun b o e => sortedAll_old e) (Nat.le_succ _) ⟨?_, out, n, vals_back h3, hn⟩, rfl, q _ _ hR (I.hok.fresh (Nat.le_succ _))⟩
  rw [List.length_map, hlen, lz, ← li, ← rv.length]
  exact hz
theorem c_sortedLP (e : X.K = K) (hu : X.A.units + 64 < cLine) : CallR X (.builtin "sorted") (rSortedLP K) := by subst e; exact cr_sortedLP hu
end
/-! the order -/
theorem leK_iff (a b : List Int) : leK a b = decide (a.length < b.length ∨ (a.length = b.length ∧ a ≤ b)) := by
  show (!PySem.W.dataLt (.tuple [.int (b.length : Int), tupD b]) (.tuple [.int (a.length : Int), tupD a])) = _
  have al : PySem.W.alike (tupD b) (tupD a) = true := by
    show PySem.W.alike (.tuple (b.map PyData.int)) (.tuple (a.map PyData.int)) = true
    rw [PySem.W.alike]
    exact PySem.W.alike_ints b a
  have e1 : PyData.eqv (tupD b) (tupD a) = decide (b = a) := eqvInts b a
  rw [PySem.W.dataLt_pair (by simp [PySem.W.alike]) al, PySem.W.dataLt_int, e1]
  have e0 : PyData.eqv (.int (b.length : Int)) (.int (a.length : Int)) = decide (b.length = a.length) := by
    rw [PyData.eqv]
    by_cases h : b.length = a.length
    · rw [decide_eq_true h, h]
      simp
    · rw [decide_eq_false h]
      simp
      omega
  rw [e0]
  by_cases h : b.length = a.length
  · rw [decide_eq_true h, if_pos rfl]
    by_cases h2 : b = a
    · subst h2
      rw [decide_eq_true rfl, if_pos rfl]
      simp
    · rw [decide_eq_false h2, if_neg Bool.false_ne_true]
      show (!PySem.W.dataLt (.tuple (b.map PyData.int)) (.tuple (a.map PyData.int))) = _
      rw [PySem.W.dataLt_tuple]
      show (!PySem.W.rowLt (b.map PyData.int) (a.map PyData.int)) = _
      rw [PySem.W.dataLt_ints]
      by_cases h3 : b < a
      · rw [decide_eq_true h3, decide_eq_false]
        · rfl
        · rintro (z | ⟨_, z⟩)
          · omega
          · exact List.not_le.mpr h3 z
      · rw [decide_eq_false h3, decide_eq_true]
        · rfl
        · exact .inr ⟨h.symm, List.not_lt.mp h3⟩
  · rw [decide_eq_false h, if_neg Bool.false_ne_true]
    by_cases h3 : (b.length : Int) < a.length
    · rw [decide_eq_true h3, decide_eq_false (by omega)]
      rfl
    · rw [decide_eq_false h3, decide_eq_true (by omega)]
      rfl
theorem leK_trans (a b c : List Int) (h1 : leK a b = true) (h2 : leK b c = true) : leK a c = true := by
  rw [leK_iff, decide_eq_true_eq] at *
  rcases h1 with h1 | ⟨h1, h3⟩
  · rcases h2 with h2 | ⟨h2, h4⟩
    · exact .inl (by omega)
    · exact .inl (by omega)
  · rcases h2 with h2 | ⟨h2, h4⟩
    · exact .inl (by omega)
    · exact .inr ⟨by omega, List.le_trans h3 h4⟩
theorem leK_tot (a b : List Int) : (leK a b || leK b a) = true := by
  rw [leK_iff, leK_iff, Bool.or_eq_true, decide_eq_true_eq, decide_eq_true_eq]
  rcases Nat.lt_trichotomy a.length b.length with h | h | h
  · exact .inl (.inl h)
  · rcases List.le_total a b with z | z
    · exact .inl (.inr ⟨h, z⟩)
    · exact .inr (.inr ⟨h.symm, z⟩)
  · exact .inr (.inl h)
theorem leK_anti {a b : List Int} (h1 : leK a b = true) (h2 : leK b a = true) : a = b := by
  rw [leK_iff, decide_eq_true_eq] at *
  rcases h1 with h1 | ⟨h1, h3⟩
  · omega
  · rcases h2 with h2 | ⟨h2, h4⟩
    · omega
    · exact List.le_antisymm h3 h4
/-- what is kept of a sorted list is what is kept, sorted -/
theorem sort_filter (l : List (List Int)) (p : List Int → Bool) : (l.filter p).mergeSort leK = (l.mergeSort leK).filter p := by
  have p1 := List.pairwise_mergeSort (le := leK) leK_trans leK_tot (l.filter p)
  have p2 := (List.pairwise_mergeSort (le := leK) leK_trans leK_tot l).filter p
  exact List.Perm.eq_of_pairwise (le := fun a b => leK a b = true) (fun a b _ _ h1 h2 => leK_anti h1 h2) p1 p2 ((List.mergeSort_perm _ _).trans ((List.mergeSort_perm l leK).filter p).symm)
/-- the shorter stands before -/
theorem sort_lt {l : List (List Int)} {i j : Nat} {a b : List Int} (hi : (l.mergeSort leK)[i]? = some a) (hj : (l.mergeSort leK)[j]? = some b) (h : a.length < b.length) : i < j := by
  have p := List.pairwise_mergeSort (le := leK) leK_trans leK_tot l
  rcases Nat.lt_trichotomy i j with z | z | z
  · exact z
  · subst z
    rw [hi] at hj
    cases hj
    omega
  · obtain ⟨hi1, hi2⟩ := List.getElem?_eq_some_iff.mp hi
    obtain ⟨hj1, hj2⟩ := List.getElem?_eq_some_iff.mp hj
    have := List.pairwise_iff_getElem.mp p j i hj1 hi1 z
    rw [hi2, hj2, leK_iff, decide_eq_true_eq] at this
    omega
end Vf

namespace Vf
open PySem PySem.Spec PyProof.Rows L2
/-! ## x |= y of integers, bits of naturals, tuple(range(n)) -/
theorem ip_or {X : Cx} : PIp X .BitOr (ipI fun i j => Builtin.bitOr i j) := fun pins s σ H x y v u Q I rx ry h => iop_or pins s σ H x y v u Q I rx ry h
theorem bor_nat (a b : Nat) : Builtin.bitOr (a : Int) (b : Int) = ((a ||| b : Nat) : Int) := by
  rw [bitOr_nn (Int.natCast_nonneg _) (Int.natCast_nonneg _), Int.toNat_natCast, Int.toNat_natCast]
section
variable {σ : L2.St} {H : Hp} {Q : VK}
theorem r_tupRg {te : L2.St → Hp → (Int → Int → Hp → Prop) → Prop} (h : te σ H fun a b H1 => RgOk a b ∧ ∀ q, H1 q = none → Q (.ref q) (upd H1 q (.tup (rgV a b)))) : tTupRg te σ H Q := h
end
theorem rgV_nat (n : Nat) : rgV 0 (n : Int) = ((List.range n).map fun i : Nat => (i : Int)).map V.int := by
  unfold rgV
  rw [Int.sub_zero, Int.toNat_natCast, List.map_map]
  refine List.map_congr_left fun i _ => ?_
  show V.int (0 + (i : Int)) = V.int (i : Int)
  rw [Int.zero_add]
end Vf

namespace Vf
open PySem PySem.Spec PyProof.Rows L2
/-! ## max of a list or a tuple of ints -/
theorem max_fold : ∀ (ns : List Int) (a : Int), PySem.W.maxD (.int a) (ns.map PyData.int) = .int (ns.foldl (fun m y => if m < y then y else m) a)
  | [], a => rfl
  | n :: ns, a => by
    show PySem.W.maxD (if PySem.W.dataLt (.int a) (.int n) = true then .int n else .int a) (ns.map PyData.int) = .int (ns.foldl (fun m y => if m < y then y else m) (if a < n then n else a))
    have e : PySem.W.dataLt (.int a) (.int n) = decide (a < n) := PySem.W.dataLt_int a n
    rw [e]
    by_cases c : a < n
    · rw [if_pos (decide_eq_true c), if_pos c]
      exact max_fold ns n
    · rw [if_neg (by rw [decide_eq_false c]; decide), if_neg c]
      exact max_fold ns a
theorem fold_max : ∀ (ns : List Int) (a : Int), (ns.foldl (fun m y => if m < y then y else m) a) ∈ a :: ns ∧ ∀ y ∈ a :: ns, y ≤ ns.foldl (fun m y => if m < y then y else m) a
  | [], a => ⟨List.mem_cons_self, fun y h => by rw [List.mem_singleton.mp h]; exact Int.le_refl _⟩
  | n :: ns, a => by
    obtain ⟨h1, h2⟩ := fold_max ns (if a < n then n else a)
    refine ⟨?_, fun y hy => ?_⟩
    · show (ns.foldl (fun m y => if m < y then y else m) (if a < n then n else a)) ∈ a :: n :: ns
      rcases List.mem_cons.mp h1 with e | e
      · rw [e]
        split
        · exact List.mem_cons_of_mem _ List.mem_cons_self
        · exact List.mem_cons_self
      · exact List.mem_cons_of_mem _ (List.mem_cons_of_mem _ e)
    · show y ≤ ns.foldl (fun m y => if m < y then y else m) (if a < n then n else a)
      have h0 := h2 _ List.mem_cons_self
      rcases List.mem_cons.mp hy with e | e
      · rw [e]
        refine Int.le_trans ?_ h0
        split <;> omega
      · rcases List.mem_cons.mp e with e | e
        · rw [e]
          refine Int.le_trans ?_ h0
          split <;> omega
        · exact h2 _ (List.mem_cons_of_mem _ e)
def rMaxQ (K : PySem.W.Frag) : List V → Hp → VK → Prop := fun vs H Q => rMax K vs H Q ∨ ∃ (a : Addr) (ns : List Int), vs = [V.ref a] ∧ SqT K H a (ns.map V.int) ∧ 0 < ns.length ∧ ∀ m, m ∈ ns → (∀ y, y ∈ ns → y ≤ m) → Q (.int m) H
section
variable {X : Cx} {K : PySem.W.Frag}
theorem cr_maxQ (hc : X.calm = true) (hu : X.A.units + 64 < cLine) : CallR X (.builtin "max") (rMaxQ X.K) := by
  intro pins s σ H vs us Q I r h
  rcases h with h | ⟨a, ns, rfl, hs, hne, q⟩
  · exact cr_max hc pins s σ H vs us Q I r h
  · obtain ⟨its, rv, ht, _⟩ := I.tuple hs
    rw [Vals.ref1 r]
    have hd : ∀ l : List Int, DpAll X.K H (l.map V.int) (l.map PyData.int) := fun l => by
      induction l with
      | nil => exact .nil
      | cons n l ih => exact .cons (.int n) ih
    obtain ⟨as, ra⟩ := Dp.readsAll I _ _ its (hd ns) rv
    cases ns with
    | nil => exact absurd hne (by decide)
    | cons n ns =>
      have ra2 : ReadsAll s.heap its.toArray.toList (.int n :: ns.map PyData.int) as := by
        rw [List.toList_toArray]
        exact ra
      refine PySem.W.max_tuple_data (I.ok.hd hc) (by obtain ⟨o, h1, h2, h3⟩ := ht; exact ⟨o, h1, h2, h3⟩) ra2 ?_ ?_ fun i v h' tk bs hv rd kp => ?_
      · refine ⟨fun x hx y hy => ?_, fun x hx => ?_⟩
        · obtain ⟨i, _, rfl⟩ : ∃ i, i ∈ n :: ns ∧ PyData.int i = x := List.mem_map.mp hx
          obtain ⟨j, _, rfl⟩ : ∃ i, i ∈ n :: ns ∧ PyData.int i = y := List.mem_map.mp hy
          rfl
        · obtain ⟨i, _, rfl⟩ : ∃ i, i ∈ n :: ns ∧ PyData.int i = x := List.mem_map.mp hx
          exact fun z => nomatch z
      · have e : PyData.depthAll (.int n :: ns.map PyData.int) = 0 := depthInts (n :: ns)
        rw [e]
        omega
      · rw [max_fold] at rd
        obtain ⟨f1, f2⟩ := fold_max ns n
        cases rd
        exact ⟨.int _, H, I.kept (t' := tk) kp, ⟨_, rfl⟩, q _ f1 f2⟩
theorem c_maxQ (e : X.K = K) (h : X.calm = true) (hu : X.A.units + 64 < cLine) : CallR X (.builtin "max") (rMaxQ K) := by subst e; exact cr_maxQ h hu
end
end Vf

/-! ## isinstance of a caught exception that has fields -/
namespace Vf
open PySem PySem.W PySem.Spec PySem.Calls PyProof.Rows
section
variable {P : Program} {w : World} {A : Around} {E : Value → Shared → Prop} {s : Shared} {K : Frag} {x D : Addr} {ox : Obj} {od : Option Obj}
theorem fo_data {C : Addr} {nm : Str} {a g : Value} (hc : (clsIn K C).isSome = true) (h1 : findIn K (.ref C) nm = some (some a)) (h2 : specialIn K a "__get__" = some (some g)) (h3 : takesIn K a = some true) :
    findObj K C od nm = some (.bind g a) := by
  obtain ⟨cd, e⟩ := Option.isSome_iff_exists.mp hc
  unfold findObj
  rw [e, Option.bind_some, h1]
  rw [Option.bind_some]
  simp [h2, h3]
theorem cls_attr {Q : Option Value → Shared → Prop} (C : L2.ExcC K D) (X : K.In s.heap) (I : InstAt s.heap x ox D od) (h : Q (some (.ref D)) { s with toks := s.toks + 1 }) :
    wpAny (model P w) A (getAttr? (.ref x) "__class__") Q E s := by
  obtain ⟨g1, g2, g3, g4, g5, g6, g7, g8⟩ := C
  have fb : findObj K D od "__class__" = some (.bind (.builtin "getset_descriptor.__get__") (.builtin "object.__class__")) := fo_data (by obtain ⟨cd, e, _⟩ := any_some g4; rw [e]; rfl) g5 g6 g7
  obtain ⟨m, gs, dr, tk, os⟩ := s
  have T0 := I.type (M := model P w)
  have T1 := looks_findIn (M := model P w) X g1
  have T2 := looks_findIn (M := model P w) X g2
  have T3 := looks_find (M := model P w) X I fb
  have sb : Looks (model P w) m (isInstance (.ref x) (.type "BaseException")) true := T0.andThen (looks_subIn X g3)
  have y0 : (false && onTheHeap (Value.builtin "BaseException.__getattribute__")) = false := rfl
  have y2 : (Value.builtin "BaseException.__getattribute__" == Value.builtin "object.__getattribute__") = false := by decide +kernel
  have y1 : (onTheHeap (Value.ref D) && Value.builtin "BaseException.__getattribute__" == Value.builtin "object.__getattribute__") = false := by
    rw [y2]
    rfl
  unfold getAttr? getAttrBy? getAttrBy
  refine wpAny_bind (wpAny_mkText (wpAny_bind (wpAny_attempt (wpAny_holding (wpAny_bind (T0.at (wpAny_bind (T1.at ?_))))))))
  show wpAny _ _ (if (onTheHeap (Value.ref D) && Value.builtin "BaseException.__getattribute__" == Value.builtin "object.__getattribute__") = true then _ else _) _ _ _
  rw [y1]
  rw [if_neg Bool.false_ne_true]
  unfold getAttrByItsOwn hookBefore
  refine wpAny_bind ?_
  have y3 : onTheHeap (Value.ref D) = true := rfl
  rw [if_pos y3]
  refine T2.at ?_
  refine wpAny_bind (wpAny_attempt <| wpAny_holding ?_)
  unfold callGetattribute
  rw [y0]
  rw [if_neg Bool.false_ne_true]
  unfold boundAndCalled
  rw [(PySem.F.excAttr_ValueError.ga.bind (.ref x))]
  refine wpAny_bind (wpAny_pure ?_)
  show wpAny _ _ (call (.builtin "BaseException.__getattribute__") [.ref x, .str "__class__" tk]) _ _ _
  refine wpAny_call <| codeAny_call_builtin PySem.F.excAttr_ValueError.ga.plain PySem.F.entry_bexc_ga ?_
  refine @check_slot (model P w) _ _ ⟨m, gs, dr, tk + 1, os⟩ "BaseException.__getattribute__" "BaseException" "__getattribute__" (.ref x) [.str "__class__" tk] [] _ (by decide +kernel) (by decide +kernel) sb (PySem.F.args_bexc_ga (.ref x) (.str "__class__" tk)) ?_
  unfold Builtin.«object.__getattribute__»
  refine wpAny_bind (wpAny_of_eq (a := ((Value.ref x : Value), [Value.str "__class__" tk])) (by first | rfl | (simp only [slotArgs] <;> rfl)) ?_)
  refine wpAny_bind (wpAny_pure <| wpAny_bind (T0.at <| wpAny_bind (T3.at ?_)))
  show wpAny _ _ (holding [Value.builtin "object.__class__"] (call (.builtin "getset_descriptor.__get__") [.builtin "object.__class__", .ref x, .ref D]) >>= ret) _ _ _
  refine wpAny_bind (wpAny_holding <| wpAny_call (class_get (s := ⟨m, gs, dr, tk + 1, os⟩) (ox := ox) (od := od) X I g8 ?_))
  refine wpAny_pure ?_
  show wpAny _ _ (handedOut (.ref D)) _ _ _
  rw [handedOut_of (v := .ref D) rfl]
  first
    | exact wpAny_pure <| wpAny_pure h
    | exact wpAny_pure h
    | exact wpAny_pure <| wpAny_bind (wpAny_pure <| wpAny_pure h)
theorem kit_exc (C : L2.ExcC K D) : KitX K (.ref x) (.ref D) (fun h => InstAt h x ox D od) where
  ty := fun _ _ _ I => I.type
  it := fun _ _ X _ => by
    obtain ⟨cd, e, _⟩ := any_some C.hd
    unfold clsIn at e
    split at e
    · rename_i c1 d1 cd1 sl1 ho
      intro A1 Q1 E1 s1 kp q
      unfold isType loadHead
      exact wpAny_bind <| wpAny_loadPart (kp _ _ (X _ _ ho)) (wpAny_pure q)
    · cases e
  ne := fun h tp dd its n sl X htp => by
    obtain ⟨cd, e, _⟩ := any_some C.hd
    refine beq_false_of_ne fun z => ?_
    cases z
    unfold clsIn at e
    split at e
    · rename_i c1 d1 cd1 sl1 ho
      have z := (X _ _ ho).symm.trans htp
      cases z
    · cases e
  ca := fun X I q => cls_attr C X I q
end
end Vf
namespace Vf
open PySem PySem.Spec PyProof.Rows L2
/-- isinstance(e, c): e the exception that the suite holds, c a class -/
def rIsX (K : PySem.W.Frag) (D a : Addr) : List V → Hp → VK → Prop := fun xs H Q => ∃ (c : V) (cv : Value) (b : Bool), xs = [.ref a, c] ∧ (∀ u, RelV c u → u = cv) ∧ PySem.W.kitOne K (.ref D) cv = some b ∧ Q (.bl b) H
theorem cr_isX {X : Cx} {a D : Addr} {d : Option Addr} {oe : Obj} {pn : List (Addr × Obj)} (C : ExcC X.K D) (hz : Zc (.ref D) d oe) (hf : ∃ vs, oe.data = .fields vs)
    (hd : ∀ s : Shared, ∀ dd, d = some dd → ∀ (pins : List (Addr × Obj)) σ H, Inv (X.suite a ((a, oe) :: pn)) pins σ H s → ∃ o, s.heap.get? dd = some o) : CallR (X.suite a ((a, oe) :: pn)) (.builtin "isinstance") (rIsX X.K D a) := by
  intro pins s σ H xs us Q I r h
  obtain ⟨c, cv, b, rfl, hcv, e, q⟩ := h
  cases r with
  | cons rx rr =>
    cases rr with
    | cons rt rr =>
      cases rr
      cases rx
      obtain rfl := hcv _ rt
      obtain ⟨he, _⟩ := I.pin (a, oe) (List.mem_append.mpr (.inl List.mem_cons_self))
      obtain ⟨vs, hv⟩ := hf
      have J : ∃ od, PySem.W.InstAt s.heap a oe D od := by
        obtain ⟨oc, od, oda, osl⟩ := oe
        obtain ⟨h1, h2⟩ := hz
        dsimp only at h1 h2 hv
        subst h1 h2 hv
        cases od with
        | none => exact ⟨none, he, rfl, rfl, trivial⟩
        | some dd =>
          obtain ⟨o, ho⟩ := hd s dd rfl pins σ H I
          exact ⟨some o, he, rfl, rfl, ho⟩
      obtain ⟨od, J⟩ := J
      exact PySem.W.kia_one (kit_exc C) I.kIn J e (fun z => nomatch z) fun tk => ⟨.bl b, H, I.kept (t' := tk) fun _ _ z => z, rfl, q⟩
end Vf

/-! ## except (A, B, C) as n -/
namespace Vf
open PySem PySem.Spec PyProof.Rows L2
/-- a flying exception goes on flying when the heap only grows -/
theorem fly_on {B h h' : Heap} {l : List Env} {e : Addr} {Z : Obj → Prop} (x : HandSPX.FlyingZ B l e Z h) (k : ∀ b o, h.get? b = some o → h'.get? b = some o) : HandSPX.FlyingZ B l e Z h' := by
  obtain ⟨st, nw, ff, r1, r2, r3, r4, r5, w1, w2, w3, w4, w5, w6, w7, w8, w9⟩ := x
  exact ⟨fun b o q => k b o (st b o q), nw, ff.of_keeps fun b o q _ => ⟨o, k b o q, rfl⟩, r1, r2, r3, r4, r5, k _ _ w1, w2, w3, w4, w5, w6, k _ _ w7, w8, w9⟩
/-- what the clause wishes of the body's exceptions: each is one of its kinds -/
def wTup (K : PySem.W.Frag) (cs : List Value) (i : Nat) (ts : Addr → Value → Option Addr → TS) (D : Ends) : WX := fun cls d σ H =>
  PySem.W.exmAny K cls cs = some true ∧ ∀ a, H a = none → ts a cls d { nx := fun τ G => D.nx (τ.set i none) G, rt := D.rt, bk := fun τ G => D.bk (τ.set i none) G, ct := fun τ G => D.ct (τ.set i none) G } (σ.set i (some (.ref a))) H
section
variable {X : Cx} {x1 x2 x3 n : Str} {c1 c2 c3 : Value} {i kk : Nat} {body rest : List Stmt} {b1 : Stmt} {p1 p2 p3 tp pos hp : Pos} {tb : WX → TS} {ts : Addr → Value → Option Addr → TS}
theorem name_val {pins : List (Addr × Obj)} {σ : L2.St} {H : Hp} {s : Shared} {x : Str} {c : Value} {q : Pos} {Q : Value → Shared → Prop} {E : Value → Shared → Prop} (I : Inv X pins σ H s) (m : Names X x c) (h : Q c s) :
    wpAny (model X.prog X.w) X.A (eval (.Name x q) X.env) Q E s := by
  rcases m with ⟨g, db, z | ⟨z, y, ne⟩⟩
  · exact ld_glob I g z h db
  · exact ld_blt I g z y h ne db
/-- the clause's own work, once the exception has landed -/
theorem tup_clause (hs : X.stack = X.env :: X.outer) (hf : X.env.frame = some X.env.locals) (hN : X.N.Nodup) (hi : X.N[i]? = some n) (hln : X.env.kindOf n = some .local) (m1 : Names X x1 c1) (m2 : Names X x2 c2) (m3 : Names X x3 c3)
    (hsu : ∀ (a : Addr) (oe : Obj) (cls : Value) (d : Option Addr) (pn : List (Addr × Obj)), Zc cls d oe → (∃ vs, oe.data = .fields vs) → PSs (X.suite a ((a, oe) :: pn)) (b1 :: rest) (ts a cls d))
    {pins : List (Addr × Obj)} {σ : L2.St} {H : Hp} {sI s : Shared} {D : Ends} {a : Addr} {B : Heap} {cls : Value} {d : Option Addr} (J : Inv X pins σ H sI) (nb : ∀ b o, sI.heap.get? b = some o → b ∉ frs X.stack → B.get? b = some o)
    (fl : HandSPX.FlyingZ B (X.env :: X.outer) a (Zc cls d) s.heap) (up : sI.heap.UpToSlots s.heap) (na : H a = none) (os : s.os = sI.os) (ag : AllBare s.gens) (w : wTup X.K [c1, c2, c3] i ts D cls d σ H) :
    wpAny (model X.prog X.w) X.A (handleBy (.ref a) X.env [.ExceptHandler (some (.Tuple [.Name x1 p1, .Name x2 p2, .Name x3 p3] kk tp)) (some n) (b1 :: rest) hp]) (SP X pins D) X.xe s := by
  have free : ∀ {g : Heap}, HandSPX.FlyingZ B (X.env :: X.outer) a (Zc cls d) g → a ≠ X.env.locals ∧ a ∉ X.fs := fun {g} f => by
    obtain ⟨oe, vs, he, _, hd⟩ := f.there
    have out : a ∉ frs (X.env :: X.outer) := fun z => by
      obtain ⟨_, o, e, no⟩ := f.2.2.1.mem z
      rw [he] at e
      cases e
      exact no _ hd
    exact ⟨fun z => out (List.mem_filterMap.mpr ⟨X.env, List.mem_cons_self, by rw [hf, z]⟩), fun z => by
      obtain ⟨e, h1, h2⟩ := List.mem_filterMap.mp z
      exact out (List.mem_filterMap.mpr ⟨e, List.mem_cons_of_mem _ h1, h2⟩)⟩
  have at_ : ∀ {g : Heap}, HandSPX.FlyingZ B (X.env :: X.outer) a (Zc cls d) g → sI.heap.UpToSlots g → ∃ oe, Zc cls d oe ∧ (∃ vs, oe.data = .fields vs) ∧ g.get? a = some oe ∧ Inv (X.suite a ((a, oe) :: (X.pn ++ pins))) [] σ H { s with heap := g } := fun {g} f u => by
    obtain ⟨oe, vs, he, hz, hd⟩ := f.there
    exact ⟨oe, hz, ⟨vs, hd⟩, he, (J.landed (s' := { s with heap := g }) nb f.1 u os ag).suite he hd na (free f).1 (free f).2⟩
  obtain ⟨oe, hz, _, he, S⟩ := at_ fl up
  refine wpAny_handleBy_cons (codeAny_handlers_test ?_) (by intro q; cases q)
  have nm : ∀ {x : Str} {c : Value} {q : Pos} {Q : Value → Shared → Prop} {E : Value → Shared → Prop}, Names X x c → Q c s → wpAny (model X.prog X.w) (X.A.mark (some (.ref a))) (eval (.Name x q) X.env) Q E s :=
    fun {x c q Q E} m h => name_val (X := X.suite a ((a, oe) :: (X.pn ++ pins))) S m h
  refine wpAny_Tuple (wpAny_items_cons (nm m1 (wpAny_items_cons (nm m2 (wpAny_items_cons (nm m3 (wpAny_items_nil ⟨Nat.le_of_ble_eq_true rfl, ?_⟩)))))))
  have grow : ∀ b o, s.heap.get? b = some o → (s.heap.push { cls := .type "tuple", data := .seq [c1, c2, c3].toArray }).get? b = some o := fun _ _ z => Heap.get?_push_of_some _ z
  have fl2 := fly_on fl grow
  have up2 := up.trans (Heap.UpToSlots.of_keeps grow)
  obtain ⟨oe2, hz2, _, he2, S2⟩ := at_ fl2 up2
  have ty : PySem.W.Looks (model X.prog X.w) (s.heap.push { cls := .type "tuple", data := .seq [c1, c2, c3].toArray }) (typeOf (.ref a)) cls := fun A Q E t k q => wpAny_typeOf_ref (k _ _ he2) (by rw [hz2.1]; exact q)
  refine (PySem.W.exm_tup3 (M := model X.prog X.w) S2.kIn ty (Heap.get?_push_size s.heap rfl) w.1).here ?_
  refine codeAny_handlers_suite_as (HandSPX.lands_againZ fl2 fun g fl3 up3 => ?_)
  obtain ⟨oe3, hz3, hv3, he3, S3⟩ := at_ fl3 (up2.trans up3)
  refine store_ok (X := X.suite a ((a, oe3) :: (X.pn ++ pins))) (v := .ref a) S3 hN hi (.inl hln) rfl (fun t S4 => ?_) (.inr hln)
  have go := (hsu a oe3 cls d (X.pn ++ pins) hz3 hv3).run [] t _ H _ S4 (w.2 a na)
  refine wpAny_mono go (fun f t2 r => ?_) (fun _ _ z => False.elim z)
  have leave : ∀ {τ : L2.St} {G : Hp} {Q : Shared → Prop}, Inv (X.suite a ((a, oe3) :: (X.pn ++ pins))) [] τ G t2 → (∀ t3, Inv X pins (τ.set i none) G t3 → Q t3) →
      wpAny (model X.prog X.w) X.A (do bindName X.env n .none; unbindBehindTheSuite X.env n hp) (fun _ t3 => Q t3) X.xe t2 := fun {τ G Q} y q => gone_ok (y.unsuite J.ok) hN hi hln q
  rcases f with _ | _ | _ | u
  all_goals first
    | (obtain ⟨τ, G, y, q⟩ := r
       exact leave y fun t3 y3 => ⟨_, _, y3, q⟩)
    | (obtain ⟨v, τ, G, y, rv, q⟩ := r
       exact leave y fun t3 y3 => ⟨_, _, _, y3, rv, q⟩)
theorem ps_try_tup (hs : X.stack = X.env :: X.outer) (hf : X.env.frame = some X.env.locals) (hN : X.N.Nodup) (hi : X.N[i]? = some n) (hln : X.env.kindOf n = some .local) (m1 : Names X x1 c1) (m2 : Names X x2 c2) (m3 : Names X x3 c3)
    (hb : ∀ (W : WX) (pn : List (Addr × Obj)) (xe : Value → Shared → Prop), Takes (X.tr pn xe) W → PassesOwn (model X.prog X.w) X.A X.env xe → PSs (X.tr pn xe) body (tb W))
    (hsu : ∀ (a : Addr) (oe : Obj) (cls : Value) (d : Option Addr) (pn : List (Addr × Obj)), Zc cls d oe → (∃ vs, oe.data = .fields vs) → PSs (X.suite a ((a, oe) :: pn)) (b1 :: rest) (ts a cls d)) :
    PS X (.Try body [.ExceptHandler (some (.Tuple [.Name x1 p1, .Name x2 p2, .Name x3 p3] kk tp)) (some n) (b1 :: rest) hp] [] [] pos) (fun D σ H => tb (wTup X.K [c1, c2, c3] i ts D) D σ H) := by
  refine ⟨fun pins s σ H D I h => wpAny_Try_except ?_⟩
  have back : ∀ {q : List (Addr × Obj)} {xe : Value → Shared → Prop} {τ : L2.St} {G : Hp} {t : Shared}, Inv (X.tr (X.pn ++ pins) xe) q τ G t → Inv X pins τ G t := fun y => y.ofTry I.ok
  refine wpAny_mono ((hb (wTup X.K [c1, c2, c3] i ts D) (X.pn ++ pins) _ (fun u t f => ?_) PassesOwn.looking).run [] s σ H D (I.toTry _) h) (fun f t r => ?_) (fun _ _ z => z)
  · obtain ⟨a, B, sI, _, τ, G, cls, d, rfl, y, nb, up, sky, na, os, ag, w⟩ := f
    have sk : Sky B (X.env :: X.outer) a (Zc cls d) X.env.locals t.heap := by rw [← hs]; exact sky
    refine Sky.land Zc.steady (by rw [I.ok.frames, hs]) hf sk fun g fl u2 => ?_
    exact tup_clause hs hf hN hi hln m1 m2 m3 hsu (back y) nb fl (up.trans u2) na os ag w
  · rcases f with _ | _ | _ | u
    · obtain ⟨τ, G, y, q⟩ := r
      exact wpAny_execs_nil ⟨τ, G, back y, q⟩
    all_goals first
      | (obtain ⟨τ, G, y, q⟩ := r
         exact ⟨τ, G, back y, q⟩)
      | (obtain ⟨v, τ, G, y, rv, q⟩ := r
         exact ⟨v, τ, G, back y, rv, q⟩)
end
end Vf

/-! ## defs that are called within an except clause, the caught exception among what they are given -/
namespace Vf
open PySem PySem.Spec PyProof.Rows L2
/-- a promise of such a def: a the exception, of class cls, its own dict at d -/
abbrev SpX := Addr → Value → Option Addr → Sp
structure OkX (P : Program) (w : World) (K : PySem.W.Frag) (mg : Str → Option Value) (base : Heap) (k : Nat) (x : Str) (st : Stmt) (ps : List Str) (sp : SpX) : Prop where
  mk ::
  ex : ∃ f fd, L2.Fun K x x st f fd ∧ mg x = some (.ref f) ∧
    (∀ (A : Around) (outer : List Env) (s : Shared) (H : Hp) (args : Args) (us : List Value) (vs : List V) (Q : VK) (E : XK) (a : Addr) (oe : Obj) (cls : Value) (d : Option Addr),
      A.guards = some [] → L2H.RoomH k A → A.handled = some (.ref a) → L2H.PinOk outer H s (a, oe) → Zc cls d oe → (∃ fs, oe.data = .fields fs) → Env0 P w K mg base A outer s H → BindsTo s fd args (ps.zip us) → Vals vs us → sp a cls d vs H Q E →
        codeAny (model P w) A (.call (.ref f) args) (CR (CX P w) outer P w H s Q E) s)
  len : ∀ a cls d vs H Q E, sp a cls d vs H Q E → vs.length = ps.length
theorem mark_hot {A : Around} {a : Addr} (h : A.handled = some (.ref a)) : A.mark (some (.ref a)) = A := by
  cases A
  cases h
  rfl
section
variable {P : Program} {w : World} {K : PySem.W.Frag} {mg : Str → Option Value} {base : Heap} {k j : Nat} {x : Str} {st : Stmt} {ps N : List Str} {sp sp' : SpX}
theorem OkX.mono (G : OkX P w K mg base j x st ps sp) (h : j ≤ k) : OkX P w K mg base k x st ps sp := by
  obtain ⟨⟨f, fd, F, g, r⟩, l⟩ := G
  exact ⟨⟨f, fd, F, g, fun A outer s H args us vs Q E a oe cls d hg hr => r A outer s H args us vs Q E a oe cls d hg (hr.mono h)⟩, l⟩
theorem At.okX (t0 : At K mg x st) (S : FnScope N ps (defScope st)) (len : ∀ a cls d vs H Q E, sp a cls d vs H Q E → vs.length = ps.length)
    (hbody : ∀ (f : Addr) (cdv : Value) (A : Around) (outer : List Env) (s : Shared) (H : Hp) (vs : List V) (Q : VK) (E : XK) (a : Addr) (oe : Obj) (cls : Value) (d : Option Addr),
      (A.deeper (envOfC x (defScope st) s.heap.objs.size f cdv)).guards = some [] → L2H.RoomH k (A.deeper (envOfC x (defScope st) s.heap.objs.size f cdv)) → Zc cls d oe → (∃ fs, oe.data = .fields fs) → sp a cls d vs H Q E →
      ∃ t, PSs ((cxOf (CX P w) P w K mg base N x (defScope st) f cdv A outer s H E).suite a [(a, oe)]) (defBody st) t ∧
        t { nx := fun _ H' => Q .non H', rt := Q } (L2.start N vs) H) : OkX P w K mg base (k + 1) x st ps sp := by
  obtain ⟨f, fd, F, g⟩ := t0
  have F2 := F
  obtain ⟨⟨oc, od, kV, doc, pm, an, cdv, ct, osl, rfl, lk, hcd⟩, kp⟩ := F
  refine ⟨⟨f, _, F2, g, fun A outer s H args us vs Q E a oe cls d hg hr hot pin hz hv e0 hb r hsp => ?_⟩, len⟩
  have hl := len _ _ _ _ _ _ _ hsp
  have stay : ∀ b o, base.get? b = some o → s.heap.get? b = some o := fun b o e => (e0.bs b o e).1
  have KX : K.In s.heap := e0.mod.kin.keeps stay
  refine codeAny_call_function hr.depth (KX _ _ lk) rfl S.co S.gen rfl (PySem.W.codeRec_of KX hcd) (hb _ _ _ _ ?_)
  refine wpAny_newFunctionEnv_cells S.kind (fun ⟨n, v⟩ hy => ?_) fun env he s1 x1 => ?_
  · rcases S.par n (List.of_mem_zip hy).1 with q | q
    · exact Or.inl q
    · exact Or.inr ⟨q, PySem.W.cellsFrom_some _ _ _ (Or.inl q)⟩
  subst he
  have lim : s.heap.NoLimit := e0.mod.nolimit.keeps stay
  refine ⟨lim.keeps x1.toInCall.keep, codeAny_func ?_⟩
  obtain ⟨t, ht, hq⟩ := hbody f cdv A outer s H vs Q E a oe cls d hg (hr.deeper _) hz hv hsp
  have I0 := (L2H.inv_startH (CX := CX P w) (E := E) S pin e0 hl r x1).toTry fun _ _ => False
  have eA : (A.deeper (envOfC x (defScope st) s.heap.objs.size f cdv)).mark (some (.ref a)) = A.deeper (envOfC x (defScope st) s.heap.objs.size f cdv) := mark_hot hot
  have eY : (cxOf (CX P w) P w K mg base N x (defScope st) f cdv A outer s H E).suite a [(a, oe)] = { L2H.cxH (CX P w) P w K mg base N x (defScope st) f cdv A outer s H E (a, oe) with xe := fun _ _ => False } := by
    show ({ cxOf (CX P w) P w K mg base N x (defScope st) f cdv A outer s H E with A := (A.deeper (envOfC x (defScope st) s.heap.objs.size f cdv)).mark (some (.ref a)), calm := false, pn := [(a, oe)], xe := fun _ _ => False } : Cx) = _
    rw [eA]
    rfl
  rw [eY] at ht
  refine wpAny_mono (ht.run [] s1 _ H _ I0 hq) (fun fl s' hs => ?_) fun e s' hs => False.elim hs
  cases fl with
  | ret u =>
    obtain ⟨v, σ', H', J, rv, q⟩ := hs
    exact ⟨v, H', J.os, J.bare, J.base, J.hok, rv, q⟩
  | next =>
    obtain ⟨σ', H', J, q⟩ := hs
    exact ⟨V.non, H', J.os, J.bare, J.base, J.hok, rfl, q⟩
  | brk =>
    obtain ⟨_, _, _, z⟩ := hs
    exact (show False from z).elim
  | cont =>
    obtain ⟨_, _, _, z⟩ := hs
    exact (show False from z).elim
end
/-- f(e, ..) within the clause -/
def tCallX (sp : SpX) (a : Addr) (cls : Value) (d : Option Addr) (t : TA) : TE := fun σ H Q => t σ H fun vs H1 => sp a cls d vs H1 Q fun _ _ _ => False
section
variable {X : Cx} {k : Nat} {ps : List Str} {sp : SpX} {x : Str} {st : Stmt} {p pos : Pos} {e : Expr} {es : List Expr} {t : TA} {a : Addr} {oe : Obj} {cls : Value} {d : Option Addr} {pn : List (Addr × Obj)}
theorem pe_gX (G : OkX X.prog X.w X.K X.mg X.base k x st ps sp) (b : ∀ f fd, L2.Fun X.K x x st f fd → L2.Binds X.K fd ps [])
    (hg : X.A.guards = some []) (hr : L2H.RoomH k X.A) (hz : Zc cls d oe) (hv : ∃ fs, oe.data = .fields fs) (gl : Gl X x) (ha : PA (X.suite a ((a, oe) :: pn)) (e :: es) t)
    (hdb : (x == ("__debug__" : Str)) = false := by decide)
    (he : starEach (e :: es) X.env = (false, eval e X.env) :: starEach es X.env := by rfl)
    (hpl : (backTo pos (starEach es X.env)).any (·.1) = false := by rfl) :
    PE (X.suite a ((a, oe) :: pn)) (.Call (.Name x p) (e :: es) [] pos) (tCallX sp a cls d t) := by
  obtain ⟨⟨f, fd, F, hm, r⟩, l⟩ := G
  refine ⟨fun pins s σ H Q I h => wpAny_Call_Name_kw (ld_glob (X := X.suite a ((a, oe) :: pn)) I gl hm ?_ hdb)⟩
  refine PySem.W.callWith_K (h₀ := X.base) I.ok.mod.kin F.kp (thn (ha.run pos pins s σ H _ I h) fun us s1 ⟨vs, H1, I1, r1, q1⟩ => ⟨I1.kIn, ?_⟩) he hpl
  have hl : us.length = ps.length := r1.length.symm.trans (l _ _ _ _ _ _ _ q1)
  have bb := b f fd F s1 us I1.kIn (by rw [List.append_nil]; exact hl)
  rw [List.append_nil] at bb
  have pin := I1.pin (a, oe) (List.mem_append_left _ List.mem_cons_self)
  have po : L2H.PinOk X.stack H1 s1 (a, oe) := ⟨pin.1, pin.2.1, fun z => (List.mem_cons.mp (I1.stkSub a z)).elim pin.2.2.1 pin.2.2.2.1, pin.2.2.2.2⟩
  have go := r (X.suite a ((a, oe) :: pn)).A X.stack s1 H1 ⟨us, []⟩ us vs Q (fun _ _ _ => False) a oe cls d hg ⟨hr.dp, hr.un⟩ rfl po hz hv I1.env0 bb r1 q1
  refine wpAny_call (codeAny_mono go fun z s' hq => ?_)
  rcases z with er | fl
  · obtain ⟨_, _, _, _, _, _, _, _, _, _, _, _, no⟩ := hq
    exact no
  · cases fl with
    | ret u => exact I1.after hq
    | next => exact hq
    | brk => exact hq
    | cont => exact hq
end
end Vf
namespace Vf
open PySem PySem.Spec PyProof.Rows L2
/-- isinstance(e, c) where the exception's class is known only when the clause runs -/
def rIsY (K : PySem.W.Frag) (a : Addr) (cls : Value) (d : Option Addr) : List V → Hp → VK → Prop := fun xs H Q => ∃ (D : Addr) (c : V) (cv : Value) (b : Bool), cls = .ref D ∧ ExcC K D ∧ xs = [.ref a, c] ∧ (∀ u, RelV c u → u = cv) ∧ PySem.W.kitOne K (.ref D) cv = some b ∧
  (∀ dd, d = some dd → ∃ fs, H dd = some (.xd fs)) ∧ Q (.bl b) H
theorem cr_isY {X : Cx} {a : Addr} {cls : Value} {d : Option Addr} {oe : Obj} {pn : List (Addr × Obj)} (hz : Zc cls d oe) (hv : ∃ vs, oe.data = .fields vs) : CallR (X.suite a ((a, oe) :: pn)) (.builtin "isinstance") (rIsY X.K a cls d) := by
  intro pins s σ H xs us Q I r h
  obtain ⟨D, c, cv, b, rfl, C, rfl, hcv, e, hd, q⟩ := h
  obtain @⟨_, _⟩ | @⟨_, _, _, _, rx, rr⟩ := r
  cases rr with
  | cons rt rn =>
  cases rn
  cases rx
  obtain rfl := hcv _ rt
  have here := (I.pin (a, oe) (List.mem_append_left _ List.mem_cons_self)).1
  obtain ⟨vs, hvs⟩ := hv
  have J : ∃ od, PySem.W.InstAt s.heap a oe D od := by
    obtain ⟨oc, od, oda, osl⟩ := oe
    obtain ⟨h1, h2⟩ := hz
    dsimp only at h1 h2 hvs
    subst h1 h2 hvs
    cases od with
    | none => exact ⟨none, here, rfl, rfl, trivial⟩
    | some dd =>
      obtain ⟨fs, hx⟩ := hd dd rfl
      obtain ⟨mA, hns, _⟩ := (I.hok dd _ hx : ObjOk X.prog X.w H s.heap dd (.xd fs))
      obtain ⟨o, ho, _⟩ := lookIn_ns hns
      exact ⟨some o, here, rfl, rfl, ho⟩
  obtain ⟨od, J⟩ := J
  exact PySem.W.kia_one (kit_exc C) I.kIn J e (fun z => nomatch z) fun tk => ⟨.bl b, H, I.kept (t' := tk) fun _ _ z => z, rfl, q⟩
end Vf

/-! ## range(a, b) of ints of any size -/
namespace Vf
open PySem PySem.Spec PyProof.Rows L2
theorem turn_long {P : Program} {w : World} {K : PySem.W.Frag} {tg : Expr} (q : Addr) (z : Int) (m : Nat) : Turn P w K tg (Itr z m) [q] q (fun j g => IsLongIter g q (z + (j : Nat) * 1) ((m : Int) - (j : Nat)) 1) where
  mem := List.mem_singleton.mpr rfl
  self := fun _ _ _ _ _ here r => wpAny_pyIter_longiter here r
  keep := fun _ _ _ here up => up q (List.mem_singleton.mpr rfl) _ here
  obj := by
    intro j g here b hb
    obtain rfl := List.mem_singleton.mp hb
    refine ⟨_, here, fun v y => ?_⟩
    have : Data.fields _ = Data.cell v := y
    cases this
  done := by
    rintro X rfl rfl rfl calm j pins s σ H E I room here over
    have over : m ≤ j := over
    have ⟨r0, r1, _, r3, r4, r5⟩ := room q (List.mem_singleton.mpr rfl)
    refine wpAny_pyNext_long_end (I.ok.hd calm) here (by omega) fun g eb => ⟨rfl, ?_⟩
    exact I.turned (t' := s.toks) (fun b o ne e => eb b o ne e) r0 r1 r3 r4 r5
  item := by
    rintro X rfl rfl rfl calm j pins s σ H E I room here more
    have ⟨r0, r1, _, r3, r4, r5⟩ := room q (List.mem_singleton.mpr rfl)
    refine (Walks.longrange (prog := X.prog) (w := X.w) (I.ok.hd calm) q z 1 m).item j s _ _ more here fun v g k hv there same => ?_
    obtain ⟨t, rfl⟩ := hv
    have I2 : Inv X pins σ H { s with heap := g, toks := k } := I.turned (fun b o ne e => same b o (fun y => ne (List.mem_singleton.mp y)) e) r0 r1 r3 r4 r5
    have val : RelV (V.int (z + j)) (Value.int (z + (j : Int) * 1) t) := ⟨t, by rw [Int.mul_one]⟩
    exact ⟨_, rfl, go_of (s := { s with heap := g, toks := k }) (n := "longrange_iterator") there rfl rfl (by decide) ⟨_, H, I2, val, ⟨rfl, rfl⟩, there, fun b hb => (room b hb).1⟩⟩
section
variable {X : Cx} {tg : Expr}
theorem range_any {pins : List (Addr × Obj)} {σ : L2.St} {H : Hp} {s : Shared} {R : It → Hp → Prop} {E : Value → Shared → Prop} {a b : Int} {t u v : Tok} {k : Nat} (I : Inv X pins σ H s) (r : R (Itr a (b - a).toNat) H) :
    wpAny (model X.prog X.w) X.A (pyIter (.ref s.heap.objs.size)) (PIE X pins σ tg R) E { s with heap := s.heap.push { cls := .type "range", data := .fields #[.int a t, .int b u, .int 1 v] }, toks := k } := by
  have len : Builtin.Range.rangeSize a b 1 = (((b - a).toNat : Nat) : Int) - ((0 : Nat) : Int) := by
    rw [rangeSize_one]
    split <;> omega
  have I2 : Inv X pins σ H { s with heap := s.heap.push { cls := .type "range", data := .fields #[.int a t, .int b u, .int 1 v] }, toks := k } := I.kept fun _ _ e => Heap.get?_push_of_some _ e
  have first : a + ((0 : Nat) : Int) * 1 = a := by omega
  cases small : Builtin.Range.small a b 1 with
  | true =>
    refine wpAny_pyIter_range (IsRange.new ..) small ⟨_, [_], _, _, H, rfl, I2.kept (t' := k) fun _ _ e => Heap.get?_push_of_some _ e, turn_range _ a (b - a).toNat, ?_, fun p hp => ?_, r⟩
    · show IsRangeIter _ _ (a + ((0 : Nat) : Int) * 1) ((((b - a).toNat : Nat) : Int) - ((0 : Nat) : Int)) 1
      rw [first, ← len]
      exact Heap.get?_push_size _ rfl
    · rw [List.mem_singleton.mp hp]
      exact I2.fpOk (Nat.le_refl _) (I2.hok.fresh (Nat.le_refl _))
  | false =>
    refine wpAny_pyIter_longrange (IsRange.new ..) small ⟨_, [_], _, _, H, rfl, I2.kept (t' := k) fun _ _ e => Heap.get?_push_of_some _ e, turn_long _ a (b - a).toNat, ?_, fun p hp => ?_, r⟩
    · show IsLongIter _ _ (a + ((0 : Nat) : Int) * 1) ((((b - a).toNat : Nat) : Int) - ((0 : Nat) : Int)) 1
      rw [first, ← len]
      exact Heap.get?_push_size _ rfl
    · rw [List.mem_singleton.mp hp]
      exact I2.fpOk (Nat.le_refl _) (I2.hok.fresh (Nat.le_refl _))
/-- the wish of `for x in range(a, b)`, the ends of any size -/
def iRngA (ta : TA) : TI := fun σ H R => ta σ H fun vs H1 => ∃ a b : Int, vs = [.int a, .int b] ∧ R (Itr a (b - a).toNat) H1
theorem pi_rangeA {a b : Expr} {ta : TA} {p pos : Pos} (gl : Gl X "range") (hm : X.mg "range" = none) (ha : PA X [a, b] ta) (e2 : starEach [a, b] X.env = [(false, eval a X.env), (false, eval b X.env)] := by rfl) (e1 : starEach [b] X.env = [(false, eval b X.env)] := by rfl) :
    PI X tg (.Call (.Name "range" p) [a, b] [] pos) (iRngA ta) := by
  refine ⟨fun pins s σ H R I w => Call_ (ld_blt I gl hm boot_range (PyProof.Rows.callWith_type1 (thn (ha.run pos pins s σ H _ I w) fun us s2 h => ?_) (by rw [e2, e1]) (by rw [e1]; rfl)))⟩
  obtain ⟨vs, H2, I2, rel, x, y, rfl, q⟩ := h
  obtain @⟨_, _⟩ | @⟨_, _, _, _, rx, rest⟩ := rel
  cases rest with
  | cons ry nil =>
  cases nil
  obtain ⟨t, rfl⟩ := rx
  obtain ⟨u, rfl⟩ := ry
  exact call_range_2 (range_any I2 q)
end
end Vf

/-! ## bools counted in a list; a caught exception's field, its class known only at the wish -/
namespace Vf
open PySem PySem.Spec PyProof.Rows L2
theorem bools_vals : ∀ {bs : List Bool} {us : List Value}, Vals (bs.map V.bl) us → us = bs.map Value.bool
  | [], _, .nil => rfl
  | b :: bs, _, .cons h r => by
    have e : _ = Value.bool b := h
    rw [bools_vals r, e]
    rfl
def isB (k : Bool) : Value → Bool
  | .bool b => b == k
  | _ => false
theorem isB_count (k : Bool) : ∀ bs : List Bool, (bs.map Value.bool).countP (isB k) = bs.count k
  | [] => rfl
  | b :: bs => by
    rw [List.map_cons, List.countP_cons, List.count_cons, isB_count k bs]
    rfl
def rCntB (K : PySem.W.Frag) : V → List V → Hp → VK → Prop := fun x xs H Q => ∃ (p : Addr) (bs : List Bool) (k : Bool), x = .ref p ∧ xs = [.bl k] ∧ SqL K H p (bs.map V.bl) ∧ Q (.int (bs.count k : Nat)) H
section
variable {X : Cx}
theorem mt_countB : MtR X "list.count" (rCntB X.K) := by
  intro pins s σ H x xs v us Q I rx rxs h
  obtain ⟨p, bs, k, rfl, rfl, sq, q⟩ := h
  cases rx
  obtain ⟨u, rfl, ru⟩ := rxs.one
  cases ru
  obtain ⟨its, rv, ⟨⟨cls, dd, data, sl⟩, n, ho, hc, hdn, hd⟩, _⟩ := I.list sq
  simp only at hc hd
  subst hc hd
  obtain rfl := bools_vals rv
  refine call_meets PySem.F.slot_list_count ⟨_, ho, rfl⟩ PySem.F.entry_list_count (PySem.F.args_list_count_2 _ _) (SeqAt.list_countAt p (bs.map Value.bool).toArray n dd sl (.bool k) (isB k)) ⟨ho, fun y hy => ?_, ?_⟩
  · obtain ⟨b, _, rfl⟩ := List.mem_map.mp (show y ∈ bs.map Value.bool by simpa using hy)
    exact SeqAt.EqAt.bool_bool b k
  · refine ⟨.int (bs.count k : Nat), H, I.tok _, ⟨s.toks, ?_⟩, q⟩
    show Value.int (((bs.map Value.bool).toArray.toList.countP (isB k) : Nat) : Int) s.toks = Value.int ((bs.count k : Nat) : Int) s.toks
    rw [show (bs.map Value.bool).toArray.toList = bs.map Value.bool from rfl, isB_count]
end
/-- e.n where the class is known only when the clause runs -/
def tXfY (K : PySem.W.Frag) (a : Addr) (cls : Value) (d : Option Addr) (n : Str) (te : TE) : TE := fun σ H Q => te σ H fun x H1 => x = .ref a ∧ ∃ (C dd : Addr) (fs : List (Str × V)) (v : V), cls = .ref C ∧ XfC K C ∧ PySem.W.findIn K (.ref C) n = some none ∧ d = some dd ∧ H1 dd = some (.xd fs) ∧ fs.lookup n = some v ∧ Q v H1
theorem pe_xfY {X : Cx} {a : Addr} {oe : Obj} {cls : Value} {d : Option Addr} {pn : List (Addr × Obj)} {e : Expr} {te : TE} {pos : Pos} {n : Str} (hz : Zc cls d oe) (hv : ∃ vs, oe.data = .fields vs) (he : PE (X.suite a ((a, oe) :: pn)) e te)
    (hb : attributeBase e n X.env (eval e X.env) = eval e X.env := by rfl) : PE (X.suite a ((a, oe) :: pn)) (.Attribute e n pos) (tXfY X.K a cls d n te) := by
  refine ⟨fun pins s σ H Q I h => attr_of hb (thn (he.run pins s σ H _ I h) fun u t y => ?_)⟩
  obtain ⟨x, G, J, rx, rfl, C, dd, fs, v, rfl, T, no, rfl, eq, lk, q⟩ := y
  obtain rfl : u = Value.ref a := rx
  have here := (J.pin (a, oe) (List.mem_append_left _ List.mem_cons_self)).1
  obtain ⟨vs, hvs⟩ := hv
  obtain ⟨mA, hns, hr⟩ := (J.hok dd _ eq : ObjOk X.prog X.w G t.heap dd (.xd fs))
  obtain ⟨od, ho, hl⟩ := lookIn_ns hns
  obtain ⟨w, hw, rw_⟩ := RelO.some_of (v := v) (o := mA n) (by rw [← lk]; exact hr n)
  have inst : PySem.W.InstAt t.heap a oe C (some od) := ⟨here, hz.1, by unfold PySem.W.notCls; rw [hvs] <;> rfl, by rw [hz.2]; exact ho⟩
  exact HandSPX.exc_get J.kIn inst T.ga T.gg T.exC (PySem.W.findObj_own T.hdC no rfl (by rw [hl, hw])) (handed_of rw_) ⟨v, G, J.tok _, rw_, q⟩
end Vf
namespace Vf
open PySem PySem.Spec PyProof.Rows L2
theorem unH {k : Nat} {A : Around} (h : L2H.RoomH k A) : A.units + 64 < cLine := by
  have := h.un
  omega
theorem r_isY {K : PySem.W.Frag} {H : Hp} {Q : VK} {a D : Addr} {d : Option Addr} {c : V} {cv : Value} {b : Bool} (C : ExcC K D) (e : PySem.W.kitOne K (.ref D) cv = some b) (hc : ∀ u, RelV c u → u = cv) (hd : ∀ dd, d = some dd → ∃ fs, H dd = some (.xd fs)) (q : Q (.bl b) H) :
    rIsY K a (.ref D) d [.ref a, c] H Q := ⟨D, c, cv, b, rfl, C, rfl, hc, e, hd, q⟩
end Vf
namespace Vf
open PySem PySem.Spec PyProof.Rows L2
theorem unM {k : Nat} {A : Around} {h : Option Value} (r : L2H.RoomH k A) : (A.mark h).units + 64 < cLine := unH (A := A) r
end Vf
namespace Vf
open PySem PySem.Spec PyProof.Rows L2
theorem r_forA {ta : TA} {g : TG} {tb : TS} {D : Ends} {σ : L2.St} {H : Hp} (h : ta σ H fun ws H1 => ∃ i j : Int, ws = [.int i, .int j] ∧ tFor (fun _ H2 R => R (Itr i (j - i).toNat) H2) g tb D σ H1) : tFor (iRngA ta) g tb D σ H := by
  unfold tFor iRngA
  exact h
theorem r_lcA {ta : TA} {g : TG} {tt : TT} {te : TE} {vs : List Nat} {σ : L2.St} {H : Hp} {Q : VK} (h : ta σ H fun ws H1 => ∃ i j : Int, ws = [.int i, .int j] ∧ tLc (fun _ H2 R => R (Itr i (j - i).toNat) H2) g tt te vs σ H1 Q) : tLc (iRngA ta) g tt te vs σ H Q := by
  unfold tLc iRngA
  exact h
end Vf

/-! ## repr of any value -/
namespace Vf
open PySem PySem.Spec PyProof.Rows L2
def rReprS (K : PySem.W.Frag) : List V → Hp → VK → Prop := fun vs H Q => (vs = [.non] ∧ Q (.str (Str.ofString "None")) H) ∨ (∃ b : Bool, vs = [.bl b] ∧ Q (.str (if b then Str.ofString "True" else Str.ofString "False")) H) ∨
  (∃ i : Int, vs = [.int i] ∧ i.natAbs.log2 < 1920 ∧ Q (.str (Str.ofString (toString i))) H) ∨ (∃ x : Str, vs = [.str x] ∧ (reprText x).length ≤ sizeLine ∧ Q (.str (reprText x)) H) ∨ rRepr K vs H Q
section
variable {X : Cx} {K : PySem.W.Frag}
theorem c_reprS (e : X.K = K) (hg : X.A.guards = some []) (hu : X.A.units + 64 < cLine) : CallR X (.builtin "repr") (rReprS K) := by
  subst e
  intro pins s σ H xs us Q I r h
  have kept : ∀ {t : Nat}, Inv X pins σ H { s with toks := t } := fun {t} => I.kept (t' := t) fun _ _ z => z
  rcases h with ⟨rfl, q⟩ | ⟨b, rfl, q⟩ | ⟨i, rfl, hi, q⟩ | ⟨x, rfl, hx, q⟩ | h
  · obtain ⟨u, rfl, r1⟩ := Vals.one r
    cases r1
    exact PySem.P.repr_of_none ⟨.str (Str.ofString "None"), H, kept, ⟨_, rfl⟩, q⟩
  · obtain ⟨u, rfl, r1⟩ := Vals.one r
    cases r1
    exact PySem.P.repr_of_bool ⟨.str (if b then Str.ofString "True" else Str.ofString "False"), H, kept, ⟨_, rfl⟩, q⟩
  · obtain ⟨u, rfl, r1⟩ := Vals.one r
    obtain ⟨t, rfl⟩ := r1
    exact PySem.P.repr_of_int hi ⟨.str (Str.ofString (toString i)), H, kept, ⟨_, rfl⟩, q⟩
  · obtain ⟨u, rfl, r1⟩ := Vals.one r
    obtain ⟨t, rfl⟩ := r1
    exact PySem.P.repr_of_str ⟨.str (reprText x), H, kept, ⟨_, rfl⟩, q⟩ hx
  · exact cr_repr hg hu pins s σ H xs us Q I r h
end
theorem r_reprBl {K : PySem.W.Frag} {H : Hp} {Q : VK} {b : Bool} (h : Q (.str (if b then Str.ofString "True" else Str.ofString "False")) H) : rReprS K [.bl b] H Q := .inr (.inl ⟨b, rfl, h⟩)
theorem r_reprIn {K : PySem.W.Frag} {H : Hp} {Q : VK} {i : Int} (hi : i.natAbs.log2 < 1920) (h : Q (.str (Str.ofString (toString i))) H) : rReprS K [.int i] H Q := .inr (.inr (.inl ⟨i, rfl, hi, h⟩))
theorem r_reprRef {K : PySem.W.Frag} {H : Hp} {Q : VK} {vs : List V} (h : rRepr K vs H Q) : rReprS K vs H Q := .inr (.inr (.inr (.inr h)))
end Vf

namespace Vf
open PySem
/-! ## whether an exception of an own class is of a kind -/
theorem kit_cls {K : PySem.W.Frag} {C D : Addr} {b : Bool} (h1 : PySem.W.hasDictIn K D = true) (h2 : PySem.W.typeIn K (.ref D) = some (.type "type"))
    (h3 : PySem.W.subIn K (.ref C) (.ref C) = some true) (h4 : PySem.W.subIn K (.ref C) (.ref D) = some b) : PySem.W.kitOne K (.ref C) (.ref D) = some b := by
  obtain ⟨cd, hc, _⟩ := PySem.W.any_some h1
  unfold PySem.W.kitOne
  by_cases e : C = D
  · subst e
    rw [h3] at h4
    rw [if_pos (beq_self_eq_true _)]
    exact h4
  · rw [if_neg (fun z => e (Value.ref.inj (eq_of_beq z)))]
    unfold PySem.W.kitCls
    dsimp only
    rw [if_pos (by rw [h2, hc] <;> rfl)]
    exact h4
theorem kit_typ {K : PySem.W.Frag} {C : Addr} {x : String} {b : Bool} (h1 : PySem.W.kitMeta x = true) (h2 : PySem.W.subIn K (.ref C) (.type x) = some b) : PySem.W.kitOne K (.ref C) (.type x) = some b := by
  unfold PySem.W.kitOne
  rw [if_neg (by intro z; have y := eq_of_beq z; cases y)]
  unfold PySem.W.kitCls
  dsimp only
  rw [if_pos h1]
  exact h2
end Vf

namespace Vf
open PySem PySem.Spec PyProof.Rows L2 LamX
/-- the end of a law in which one def, x, makes lambdas -/
theorem walk_gT1 {l : PySem.W.OpenLaw} {n k : Nat} {q : Program} {loose : List Str} {XP : (Str → Option Value) → Heap → Prop} {YP : World → Heap → Prop} {d : DefRec} {K : Params → PySem.W.Frag} {sp : PySem.W.Frag → List (Addr × Addr) → Sp} {y : Str} {st : Stmt}
    {x : Str} {c P : Addr}
    (hn : l.most = some n) (hn2 : n ≤ sizeLine) (hdf : d.params.defaults = []) (hr : Room k callerA) (hY : ∀ (w : World) (h : Heap), YP w h → (K w.params).In h)
    (hrec : ((recsOf q).find? (fun e => e.name == x)).isSome = true) (htab : ∀ w : World, PySem.W.tabIn (K w.params) x = some (c, P)) (hnon : ∀ w : World, (K w.params).lookup P = none)
    (F : ∀ (w : World) (mg : Str → Option Value) (h : Heap), (K w.params).In h → h.Ns mainGlobals mg → ∀ base : Heap, (K w.params).In base → base.Ns mainGlobals mg → TabB base mg (tabP (K w.params) x).1 (tabP (K w.params) x).2 →
      Ok l.prog w (K w.params) mg base k d.name st [y] (sp (K w.params) [tabP (K w.params) x]))
    (B : ∀ (w : World) f fd, L2.Fun (K w.params) d.name d.name st f fd → L2.Binds (K w.params) fd [y] [])
    (hsp : ∀ (w : World) (H : Hp) (a : Addr) (ns : List Int), ns.length ≤ n → (∀ z ∈ ns, Builtin.Int.intBits z ≤ 1048576) → H (tabP (K w.params) x).2 = some (.tbl #[]) → SqL (K w.params) H a (ns.map V.int) →
      sp (K w.params) [tabP (K w.params) x] [.ref a] H (fun v _ => v = .bl true) fun _ _ _ => False) :
    PySem.W.WalkO q loose XP YP l.row.toRowW d [] (fun f vs => PySem.call f vs) := by
  obtain ⟨r, hr2⟩ := Option.isSome_iff_exists.mp hrec
  refine walk_gT (sp := sp) [(x, r, c, P)] hn hn2 hdf hr hY (fun z hz => ?_) (fun w z hz => ?_) (fun w z hz => ?_) (fun w mg h KX G base kb gb tb => ?_) B (fun w H a ns h1 h2 h3 h4 => ?_)
  · rw [List.mem_singleton.mp hz]; exact hr2
  · rw [List.mem_singleton.mp hz]; exact htab w
  · rw [List.mem_singleton.mp hz]; exact hnon w
  · have e := tabP_eq (htab w)
    have z := F w mg h KX G base kb gb (by rw [e]; exact tb _ (List.mem_singleton.mpr rfl))
    rw [e] at z
    exact z
  · have e := tabP_eq (htab w)
    have z := hsp w H a ns h1 h2 (by rw [e]; exact h3 _ (List.mem_singleton.mpr rfl)) h4
    rw [e] at z
    exact z
end Vf

namespace Vf
/-! ## numbers with a rest, counted and told -/
theorem div_step {L y : Int} (h : 0 < L) : y / L - (y - 1) / L = if y % L = 0 then 1 else 0 := by
  have d := Int.emod_add_mul_ediv y L
  have m0 := Int.emod_nonneg y (show L ≠ 0 by omega)
  have m1 := Int.emod_lt_of_pos y h
  split
  · rename_i z
    have : (y - 1) / L = y / L - 1 := by
      have e : y - 1 = (L - 1) + L * (y / L - 1) := by grind
      rw [e, Int.add_mul_ediv_left _ _ (by omega), Int.ediv_eq_zero_of_lt (by omega) (by omega)]
      omega
    omega
  · rename_i z
    have : (y - 1) / L = y / L := by
      have e : y - 1 = (y % L - 1) + L * (y / L) := by omega
      rw [e, Int.add_mul_ediv_left _ _ (by omega), Int.ediv_eq_zero_of_lt (by omega) (by omega)]
      omega
    omega
/-- the numbers from lo on, n of them, that leave the rest of r -/
def foundIn (L r lo : Int) : Nat → List Int
  | 0 => []
  | n + 1 => foundIn L r lo n ++ (if (lo + (n : Int) - r) % L = 0 then [lo + (n : Int)] else [])
theorem found_len {L r lo : Int} (h : 0 < L) : ∀ n : Nat, ((foundIn L r lo n).length : Int) = (lo + (n : Int) - 1 - r) / L - (lo - 1 - r) / L
  | 0 => by
    show ((0 : Nat) : Int) = _
    rw [show lo + ((0 : Nat) : Int) - 1 - r = lo - 1 - r by omega]
    omega
  | n + 1 => by
    have ih := found_len (r := r) (lo := lo) h n
    have st := div_step (y := lo + (n : Int) - r) h
    unfold foundIn
    rw [List.length_append]
    rw [show lo + ((n + 1 : Nat) : Int) - 1 - r = lo + (n : Int) - r by omega]
    rw [show lo + (n : Int) - 1 - r = lo + (n : Int) - r - 1 by omega] at ih
    split at st
    · rename_i z
      rw [if_pos z]
      simp only [List.length_cons, List.length_nil]
      omega
    · rename_i z
      rw [if_neg z]
      simp only [List.length_nil]
      omega
theorem found_le (L r lo : Int) : ∀ n : Nat, (foundIn L r lo n).length ≤ n
  | 0 => Nat.le_refl _
  | n + 1 => by
    have := found_le L r lo n
    unfold foundIn
    rw [List.length_append]
    split <;> simp <;> omega
/-- the k-th of them -/
def nthOf (L r lo : Int) (k : Int) : Int := lo + (r - lo) % L + k * L
theorem nth_at {L r lo : Int} (h : 0 < L) (n : Nat) (z : (lo + (n : Int) - r) % L = 0) : nthOf L r lo ((foundIn L r lo n).length : Int) = lo + (n : Int) := by
  rw [found_len h]
  unfold nthOf
  have st := div_step (y := lo + (n : Int) - r) h
  rw [if_pos z] at st
  have d := Int.emod_add_mul_ediv (lo + (n : Int) - r) L
  rw [z] at d
  have d2 := Int.emod_add_mul_ediv (r - lo) L
  have e2 : (lo - 1 - r) / L = -((r - lo) / L) - 1 := by
    have m0 := Int.emod_nonneg (r - lo) (show L ≠ 0 by omega)
    have m1 := Int.emod_lt_of_pos (r - lo) h
    have e : lo - 1 - r = (L - 1 - (r - lo) % L) + L * (-((r - lo) / L) - 1) := by grind
    rw [e, Int.add_mul_ediv_left _ _ (by omega), Int.ediv_eq_zero_of_lt (by omega) (by omega)]
    omega
  rw [show lo + (n : Int) - 1 - r = lo + (n : Int) - r - 1 by omega, show (lo + (n : Int) - r - 1) / L = (lo + (n : Int) - r) / L - 1 by omega, e2]
  generalize (lo + (n : Int) - r) / L = q at *
  generalize (r - lo) / L = v at *
  generalize (r - lo) % L = m at *
  grind
theorem found_nth {L r lo : Int} (h : 0 < L) : ∀ n : Nat, (List.range (foundIn L r lo n).length).map (fun k : Nat => nthOf L r lo (k : Int)) = foundIn L r lo n
  | 0 => rfl
  | n + 1 => by
    have ih := found_nth (r := r) (lo := lo) h n
    have e : foundIn L r lo (n + 1) = foundIn L r lo n ++ (if (lo + (n : Int) - r) % L = 0 then [lo + (n : Int)] else []) := rfl
    rw [e]
    by_cases z : (lo + (n : Int) - r) % L = 0
    · rw [if_pos z, List.length_append, List.length_singleton, List.range_succ, List.map_append, ih, List.map_singleton, nth_at h n z]
    · rw [if_neg z, List.append_nil, ih]
/-- the look at each fact is the look at the rest by all -/
theorem all_iff {x y : Int} {fs : List (Int × Int)} (hf : ∀ p ∈ fs, Fact p) (hx : Fits x fs) :
    (fs.all fun p => decide ((y - p.1) % p.2 = 0)) = decide ((y - x % (lcmAll fs : Int)) % (lcmAll fs : Int) = 0) := by
  have e1 : (fs.all fun p => decide ((y - p.1) % p.2 = 0)) = true ↔ Fits y fs := by
    rw [List.all_eq_true]
    constructor
    · intro h p hp
      have a := of_decide_eq_true (h p hp)
      have fp := hf p hp
      have := Int.emod_eq_emod_iff_emod_sub_eq_zero.mpr a
      rw [this]
      exact Int.emod_eq_of_lt fp.2.2.1 fp.2.2.2
    · intro h p hp
      have fp := hf p hp
      refine decide_eq_true (Int.emod_eq_emod_iff_emod_sub_eq_zero.mp ?_)
      rw [h p hp]
      exact (Int.emod_eq_of_lt fp.2.2.1 fp.2.2.2).symm
  rw [fits_iff hf hx] at e1
  have e2 : (y - x % (lcmAll fs : Int)) % (lcmAll fs : Int) = 0 ↔ (lcmAll fs : Int) ∣ y - x := by
    constructor
    · intro h
      have := Int.emod_eq_emod_iff_emod_sub_eq_zero.mpr h
      rw [Int.emod_emod_of_dvd x (Int.dvd_refl _)] at this
      exact Int.dvd_of_emod_eq_zero (Int.emod_eq_emod_iff_emod_sub_eq_zero.mp this)
    · intro h
      refine Int.emod_eq_emod_iff_emod_sub_eq_zero.mp ?_
      rw [Int.emod_emod_of_dvd x (Int.dvd_refl _)]
      exact Int.emod_eq_emod_iff_emod_sub_eq_zero.mpr (Int.emod_eq_zero_of_dvd h)
  rw [← e2] at e1
  by_cases h : (y - x % (lcmAll fs : Int)) % (lcmAll fs : Int) = 0
  · rw [decide_eq_true h]; exact e1.mpr h
  · rw [decide_eq_false h]
    cases b : (fs.all fun p => decide ((y - p.1) % p.2 = 0)) with
    | true => exact absurd (e1.mp b) h
    | false => rfl
end Vf

namespace Vf
theorem two_of {L A N : Int} (h : 0 < L) : (A + N) / L - A / L = N / L ∨ (A + N) / L - A / L = N / L + 1 := by
  have a0 := Int.emod_nonneg A (show L ≠ 0 by omega)
  have a1 := Int.emod_lt_of_pos A h
  have n0 := Int.emod_nonneg N (show L ≠ 0 by omega)
  have n1 := Int.emod_lt_of_pos N h
  have e : A + N = (A % L + N % L) + L * (A / L + N / L) := by
    have := Int.emod_add_mul_ediv A L
    have := Int.emod_add_mul_ediv N L
    grind
  have e2 : (A + N) / L = (A % L + N % L) / L + (A / L + N / L) := by
    rw [e, Int.add_mul_ediv_left _ _ (by omega)]
  have e3 : (A % L + N % L) / L = 0 ∨ (A % L + N % L) / L = 1 := by
    by_cases c : A % L + N % L < L
    · exact Or.inl (Int.ediv_eq_zero_of_lt (by omega) c)
    · refine Or.inr ?_
      rw [show A % L + N % L = (A % L + N % L - L) + L * 1 by omega, Int.add_mul_ediv_left _ _ (by omega), Int.ediv_eq_zero_of_lt (by omega) (by omega)]
      rfl
  omega
theorem count_L {L A : Int} (h : 0 < L) : (A + L) / L - A / L = 1 := by
  rw [show A + L = A + L * 1 by omega, Int.add_mul_ediv_left _ _ (by omega)]
  omega
theorem nth_q {L r lo k : Int} : nthOf L r lo k - r = L * (k - (r - lo) / L) := by
  unfold nthOf
  have d2 := Int.emod_add_mul_ediv (r - lo) L
  grind
theorem nth_fits {L r lo k : Int} : (nthOf L r lo k - r) % L = 0 := by
  rw [nth_q]
  exact Int.mul_emod_right _ _
theorem nth_count {L r lo k : Int} (h : 0 < L) : (nthOf L r lo k - 1 - r) / L - (lo - 1 - r) / L = k := by
  have q := nth_q (L := L) (r := r) (lo := lo) (k := k)
  have e1 : (nthOf L r lo k - 1 - r) / L = k - (r - lo) / L - 1 := by
    rw [show nthOf L r lo k - 1 - r = (L - 1) + L * (k - (r - lo) / L - 1) by rw [show nthOf L r lo k - 1 - r = nthOf L r lo k - r - 1 by omega, q]; grind]
    rw [Int.add_mul_ediv_left _ _ (by omega), Int.ediv_eq_zero_of_lt (by omega) (by omega)]
    omega
  have e2 : (lo - 1 - r) / L = -((r - lo) / L) - 1 := by
    have d2 := Int.emod_add_mul_ediv (r - lo) L
    have m0 := Int.emod_nonneg (r - lo) (show L ≠ 0 by omega)
    have m1 := Int.emod_lt_of_pos (r - lo) h
    have e : lo - 1 - r = (L - 1 - (r - lo) % L) + L * (-((r - lo) / L) - 1) := by grind
    rw [e, Int.add_mul_ediv_left _ _ (by omega), Int.ediv_eq_zero_of_lt (by omega) (by omega)]
    omega
  omega
theorem nth_lo {L r lo k : Int} (h : 0 < L) (hk : 0 ≤ k) : lo ≤ nthOf L r lo k := by
  unfold nthOf
  have m0 := Int.emod_nonneg (r - lo) (show L ≠ 0 by omega)
  have := Int.mul_nonneg hk (show 0 ≤ L by omega)
  omega
end Vf

namespace Vf
/-! ## two facts that may quarrel -/
/-- the place along the one fact at which the other one is met -/
theorem along_math {r s b c g bt ct u w : Int} (hg : 0 < g) (hct : 0 < ct) (eb : b = g * bt) (ec : c = g * ct) (hq : (s - r) % g = 0) (hu : u * bt = 1 + ct * w) :
    (r + b * ((s - r) / g * (u % ct) % ct) - s) % c = 0 := by
  have d : s - r = g * ((s - r) / g) := (Int.mul_ediv_cancel' (Int.dvd_of_emod_eq_zero hq)).symm
  generalize (s - r) / g = t at *
  have e1 := Int.emod_add_mul_ediv u ct
  have e2 := Int.emod_add_mul_ediv (t * (u % ct)) ct
  generalize u / ct = q at *
  generalize t * (u % ct) / ct = v at *
  generalize hm : t * (u % ct) % ct = m at *
  generalize u % ct = n at *
  have key : r + b * m - s = c * (t * w - bt * t * q - bt * v) := by
    have h1 : b * m = g * (bt * m) := by rw [eb, Int.mul_assoc]
    have h2 : bt * m = bt * (t * n) - bt * (ct * v) := by rw [← e2]; grind
    have h3 : u * bt = n * bt + ct * q * bt := by rw [← e1]; grind
    have h4 : n * bt = 1 + ct * w - ct * q * bt := by omega
    have h5 : bt * (t * n) = t * (n * bt) := by grind
    rw [h1, h2, h5, h4, ec]
    have : r - s = -(g * t) := by omega
    grind
  rw [key]
  exact Int.mul_emod_right _ _
theorem cong_lcm {b c : Nat} {x y : Int} (h1 : y % (b : Int) = x % (b : Int)) (h2 : y % (c : Int) = x % (c : Int)) : y % ((Nat.lcm b c : Nat) : Int) = x % ((Nat.lcm b c : Nat) : Int) := by
  have d1 : (b : Int) ∣ y - x := Int.dvd_of_emod_eq_zero (Int.emod_eq_emod_iff_emod_sub_eq_zero.mp h1)
  have d2 : (c : Int) ∣ y - x := Int.dvd_of_emod_eq_zero (Int.emod_eq_emod_iff_emod_sub_eq_zero.mp h2)
  have n1 : b ∣ (y - x).natAbs := Int.ofNat_dvd_left.mp d1
  have n2 : c ∣ (y - x).natAbs := Int.ofNat_dvd_left.mp d2
  exact Int.emod_eq_emod_iff_emod_sub_eq_zero.mpr (Int.emod_eq_zero_of_dvd (Int.ofNat_dvd_left.mpr (Nat.lcm_dvd n1 n2)))
/-- what both make: R is the one number of a round that fits both -/
theorem both_iff {b c : Nat} {r s R : Int} (b0 : 0 < b) (c0 : 0 < c) (h0 : 0 ≤ R) (h1 : R < (Nat.lcm b c : Nat)) (e1 : R % (b : Int) = r) (e2 : R % (c : Int) = s) (x : Int) :
    (x % (b : Int) = r ∧ x % (c : Int) = s) ↔ x % ((Nat.lcm b c : Nat) : Int) = R := by
  constructor
  · rintro ⟨h2, h3⟩
    rw [cong_lcm (x := R) (h2.trans e1.symm) (h3.trans e2.symm), Int.emod_eq_of_lt h0 h1]
  · intro h
    have d1 : (b : Int) ∣ ((Nat.lcm b c : Nat) : Int) := Int.natCast_dvd_natCast.mpr (Nat.dvd_lcm_left b c)
    have d2 : (c : Int) ∣ ((Nat.lcm b c : Nat) : Int) := Int.natCast_dvd_natCast.mpr (Nat.dvd_lcm_right b c)
    rw [← Int.emod_emod_of_dvd x d1, ← Int.emod_emod_of_dvd x d2, h]
    exact ⟨e1, e2⟩
theorem quarrel_none {b c : Nat} {r s : Int} (h : (s - r) % ((Nat.gcd b c : Nat) : Int) ≠ 0) (x : Int) : ¬ (x % (b : Int) = r ∧ x % (c : Int) = s) := by
  rintro ⟨rfl, rfl⟩
  apply h
  have d1 : ((Nat.gcd b c : Nat) : Int) ∣ (b : Int) := Int.natCast_dvd_natCast.mpr (Nat.gcd_dvd_left b c)
  have d2 : ((Nat.gcd b c : Nat) : Int) ∣ (c : Int) := Int.natCast_dvd_natCast.mpr (Nat.gcd_dvd_right b c)
  refine Int.emod_eq_emod_iff_emod_sub_eq_zero.mp ?_
  rw [Int.emod_emod_of_dvd x d1, Int.emod_emod_of_dvd x d2]
/-- R is what the facts make -/
def Jn (fs : List (Int × Int)) (R : Int) : Prop := 0 ≤ R ∧ R < (lcmAll fs : Int) ∧ ∀ x, Fits x fs ↔ x % (lcmAll fs : Int) = R
theorem Jn.nil : Jn [] 0 := ⟨by decide, by decide, fun x => ⟨fun _ => Int.emod_one x, fun _ p hp => absurd hp List.not_mem_nil⟩⟩
theorem fits_snoc {x : Int} {fs : List (Int × Int)} {p : Int × Int} : Fits x (fs ++ [p]) ↔ Fits x fs ∧ x % p.2 = p.1 := by
  constructor
  · intro h
    exact ⟨fun q hq => h q (List.mem_append_left _ hq), h p (List.mem_append_right _ List.mem_cons_self)⟩
  · rintro ⟨h1, h2⟩ q hq
    rcases List.mem_append.mp hq with hq | hq
    · exact h1 q hq
    · rw [List.mem_singleton.mp hq]
      exact h2
theorem Jn.snoc {fs : List (Int × Int)} {p : Int × Int} {R S : Int} (h : Jn fs R) (hp : Fact p) (l0 : 0 < lcmAll fs) (h0 : 0 ≤ S) (h1 : S < (Nat.lcm (lcmAll fs) p.2.natAbs : Nat)) (e1 : S % (lcmAll fs : Int) = R) (e2 : S % p.2 = p.1) : Jn (fs ++ [p]) S := by
  have ep : ((p.2.natAbs : Nat) : Int) = p.2 := by have := hp.1; omega
  refine ⟨h0, by rw [lcmAll_snoc]; exact h1, fun x => ?_⟩
  rw [fits_snoc, h.2.2 x, lcmAll_snoc, ← both_iff (r := R) (s := p.1) l0 (by have := hp.1; omega) h0 h1 e1 (by rw [ep]; exact e2) x, ep]
/-- facts that some number fits make its rest -/
theorem Jn.of_fits {fs : List (Int × Int)} {x R : Int} (hf : ∀ p ∈ fs, Fact p) (hx : Fits x fs) : Jn fs (x % (lcmAll fs : Int)) := by
  have l0 : (0 : Int) < lcmAll fs := by
    have := lcmAll_pos fs 1 hf (by decide)
    exact Int.natCast_pos.mpr this
  refine ⟨Int.emod_nonneg _ (by omega), Int.emod_lt_of_pos _ l0, fun y => ?_⟩
  rw [fits_iff hf hx]
  constructor
  · intro h
    exact Int.emod_eq_emod_iff_emod_sub_eq_zero.mpr (Int.emod_eq_zero_of_dvd h)
  · intro h
    exact Int.dvd_of_emod_eq_zero (Int.emod_eq_emod_iff_emod_sub_eq_zero.mp h)
theorem Jn.fits {fs : List (Int × Int)} {R : Int} (h : Jn fs R) : Fits R fs := (h.2.2 R).mpr (Int.emod_eq_of_lt h.1 h.2.1)
theorem Jn.one {fs : List (Int × Int)} {R S : Int} (h : Jn fs R) (h' : Jn fs S) : R = S := by
  have z := (h'.2.2 R).mp h.fits
  rw [Int.emod_eq_of_lt h.1 h.2.1] at z
  exact z
end Vf

namespace Vf
/-! ## facts of which no two quarrel fit together -/
def Quar (p o : Int × Int) : Prop := (p.1 - o.1) % ((Nat.gcd p.2.natAbs o.2.natAbs : Nat) : Int) ≠ 0
theorem snoc_ind {α : Type} {M : List α → Prop} (h0 : M []) (h1 : ∀ xs x, M xs → M (xs ++ [x])) (xs : List α) : M xs := by
  have h : ∀ ys : List α, M ys.reverse := by
    intro ys
    induction ys with
    | nil => exact h0
    | cons y ys ih =>
      rw [List.reverse_cons]
      exact h1 _ _ ih
  rw [← List.reverse_reverse xs]
  exact h _
theorem bez (a b : Nat) : ∃ u v : Int, u * a + v * b = ((Nat.gcd a b : Nat) : Int) := by
  induction a, b using Nat.gcd.induction with
  | H0 n => exact ⟨0, 1, by simp⟩
  | H1 m n hm ih =>
    obtain ⟨u, v, e⟩ := ih
    refine ⟨v - u * (n / m : Nat), u, ?_⟩
    rw [Nat.gcd_rec, ← e]
    have z : (n : Int) = (n % m : Nat) + m * (n / m : Nat) := by
      have := Nat.mod_add_div n m
      rw [← Int.natCast_mul, ← Int.natCast_add, this]
    rw [z]
    generalize ((n % m : Nat) : Int) = r
    generalize ((n / m : Nat) : Int) = q
    grind
/-- what two bases have in common with a third one, so has their least common multiple -/
theorem gcd_lcm_dvd {a b c : Nat} {t : Int} (ha : 0 < a) (h1 : ((Nat.gcd a c : Nat) : Int) ∣ t) (h2 : ((Nat.gcd b c : Nat) : Int) ∣ t) : ((Nat.gcd (Nat.lcm a b) c : Nat) : Int) ∣ t := by
  have g0 : 0 < Nat.gcd a b := Nat.gcd_pos_of_pos_left _ ha
  have ea : a = Nat.gcd a b * (a / Nat.gcd a b) := (Nat.mul_div_cancel' (Nat.gcd_dvd_left a b)).symm
  have eb : b = Nat.gcd a b * (b / Nat.gcd a b) := (Nat.mul_div_cancel' (Nat.gcd_dvd_right a b)).symm
  have cop : Nat.gcd (a / Nat.gcd a b) (b / Nat.gcd a b) = 1 := by rw [Nat.gcd_div (Nat.gcd_dvd_left a b) (Nat.gcd_dvd_right a b), Nat.div_self g0]
  have el : Nat.lcm a b = a * (b / Nat.gcd a b) := Nat.mul_div_assoc a (Nat.gcd_dvd_right a b)
  have el2 : Nat.lcm a b = b * (a / Nat.gcd a b) := by
    rw [Nat.lcm_comm, Nat.gcd_comm]
    exact Nat.mul_div_assoc b (Nat.gcd_dvd_right b a)
  have d1 : ((Nat.gcd (Nat.lcm a b) c : Nat) : Int) ∣ ((Nat.lcm a b : Nat) : Int) := Int.natCast_dvd_natCast.mpr (Nat.gcd_dvd_left _ _)
  have d2 : ((Nat.gcd (Nat.lcm a b) c : Nat) : Int) ∣ (c : Int) := Int.natCast_dvd_natCast.mpr (Nat.gcd_dvd_right _ _)
  generalize a / Nat.gcd a b = a' at *
  generalize b / Nat.gcd a b = b' at *
  have key : ∀ {p q : Nat}, ((Nat.gcd p c : Nat) : Int) ∣ t → Nat.lcm a b = p * q → ((Nat.gcd (Nat.lcm a b) c : Nat) : Int) ∣ q * t := by
    intro p q hp e
    have n1 : Nat.gcd (Nat.lcm a b) c ∣ q * Nat.gcd p c := by
      rw [← Nat.gcd_mul_left]
      refine Nat.dvd_gcd ?_ ?_
      · rw [Nat.mul_comm q p, ← e]
        exact Nat.gcd_dvd_left _ _
      · exact Nat.dvd_trans (Nat.gcd_dvd_right _ _) (Nat.dvd_mul_left _ _)
    refine Int.dvd_trans (Int.natCast_dvd_natCast.mpr n1) ?_
    rw [Int.natCast_mul]
    exact Int.mul_dvd_mul_left _ hp
  have k1 := key h1 el
  have k2 := key h2 el2
  obtain ⟨u, v, e⟩ : ∃ u v : Int, u * a' + v * b' = 1 := by
    obtain ⟨u, v, e⟩ := bez a' b'
    rw [cop] at e
    exact ⟨u, v, e⟩
  have et : t = u * (a' * t) + v * (b' * t) := by
    rw [← Int.mul_assoc, ← Int.mul_assoc, ← Int.add_mul, e, Int.one_mul]
  rw [et]
  exact Int.dvd_add (Int.dvd_trans k2 (Int.dvd_mul_left _ _)) (Int.dvd_trans k1 (Int.dvd_mul_left _ _))
/-- the base with what all bases have in common -/
theorem gcd_all_dvd {c : Nat} {t : Int} : ∀ (fs : List (Int × Int)), (∀ p ∈ fs, Fact p) → (∀ p ∈ fs, ((Nat.gcd p.2.natAbs c : Nat) : Int) ∣ t) → ((Nat.gcd (lcmAll fs) c : Nat) : Int) ∣ t := by
  refine fun fs => snoc_ind (M := fun fs => (∀ p ∈ fs, Fact p) → (∀ p ∈ fs, ((Nat.gcd p.2.natAbs c : Nat) : Int) ∣ t) → ((Nat.gcd (lcmAll fs) c : Nat) : Int) ∣ t) ?_ (fun fs p ih => ?_) fs
  · intro _ _
    show ((Nat.gcd 1 c : Nat) : Int) ∣ t
    rw [Nat.gcd_one_left]
    exact Int.one_dvd t
  · intro hf h
    rw [lcmAll_snoc]
    have hf' : ∀ q ∈ fs, Fact q := fun q hq => hf q (List.mem_append_left _ hq)
    exact gcd_lcm_dvd (lcmAll_pos fs 1 hf' (by decide)) (ih hf' fun q hq => h q (List.mem_append_left _ hq)) (h p (List.mem_append_right _ List.mem_cons_self))
/-- of two facts that do not quarrel some number fits both -/
theorem both_ex {b c : Nat} {r s : Int} (b0 : 0 < b) (c0 : 0 < c) (r0 : 0 ≤ r) (r1 : r < b) (s0 : 0 ≤ s) (s1 : s < c) (h : (s - r) % ((Nat.gcd b c : Nat) : Int) = 0) :
    ∃ x : Int, x % (b : Int) = r ∧ x % (c : Int) = s := by
  have g0 : 0 < Nat.gcd b c := Nat.gcd_pos_of_pos_left _ b0
  have e1 : b = Nat.gcd b c * (b / Nat.gcd b c) := (Nat.mul_div_cancel' (Nat.gcd_dvd_left b c)).symm
  have e2 : c = Nat.gcd b c * (c / Nat.gcd b c) := (Nat.mul_div_cancel' (Nat.gcd_dvd_right b c)).symm
  have cop : Nat.gcd (b / Nat.gcd b c) (c / Nat.gcd b c) = 1 := by rw [Nat.gcd_div (Nat.gcd_dvd_left b c) (Nat.gcd_dvd_right b c), Nat.div_self g0]
  generalize Nat.gcd b c = g at *
  generalize b / g = bt at *
  generalize c / g = ct at *
  have ct0 : 0 < ct := by
    rcases Nat.eq_zero_or_pos ct with z | z
    · rw [z] at e2; omega
    · exact z
  obtain ⟨u, v, e⟩ := bez bt ct
  rw [cop] at e
  have am := along_math (r := r) (s := s) (b := b) (c := c) (g := g) (bt := bt) (ct := ct) (u := u) (w := -v) (by omega) (by omega) (by rw [e1]; push_cast; rfl) (by rw [e2]; push_cast; rfl) h (by
    have e' : u * (bt : Int) + v * (ct : Int) = 1 := e
    have : (ct : Int) * -v = -(v * ct) := by grind
    omega)
  refine ⟨r + b * ((s - r) / g * (u % ct) % ct), ?_, ?_⟩
  · rw [Int.add_mul_emod_self_left, Int.emod_eq_of_lt r0 r1]
  · rw [Int.emod_eq_emod_iff_emod_sub_eq_zero.mpr am, Int.emod_eq_of_lt s0 s1]
/-- Sun Tzu, Gauss: facts of which no two quarrel make one fact -/
theorem sun_tzu : ∀ (fs : List (Int × Int)), (∀ p ∈ fs, Fact p) → (∀ p ∈ fs, ∀ o ∈ fs, (p.1 - o.1) % ((Nat.gcd p.2.natAbs o.2.natAbs : Nat) : Int) = 0) → ∃ x, Fits x fs := by
  refine fun fs => snoc_ind (M := fun fs => (∀ p ∈ fs, Fact p) → (∀ p ∈ fs, ∀ o ∈ fs, (p.1 - o.1) % ((Nat.gcd p.2.natAbs o.2.natAbs : Nat) : Int) = 0) → ∃ x, Fits x fs) ?_ (fun fs p ih => ?_) fs
  · exact fun _ _ => ⟨0, fun p hp => absurd hp List.not_mem_nil⟩
  · intro hf h
    have hf' : ∀ q ∈ fs, Fact q := fun q hq => hf q (List.mem_append_left _ hq)
    have hp : Fact p := hf p (List.mem_append_right _ List.mem_cons_self)
    obtain ⟨x, hx⟩ := ih hf' fun a ha b hb => h a (List.mem_append_left _ ha) b (List.mem_append_left _ hb)
    have l0 := lcmAll_pos fs 1 hf' (by decide)
    have ep : ((p.2.natAbs : Nat) : Int) = p.2 := by have := hp.1; omega
    have dv : ((Nat.gcd (lcmAll fs) p.2.natAbs : Nat) : Int) ∣ p.1 - x := by
      refine gcd_all_dvd fs hf' fun q hq => ?_
      have d1 : ((Nat.gcd q.2.natAbs p.2.natAbs : Nat) : Int) ∣ p.1 - q.1 := by
        have z := h p (List.mem_append_right _ List.mem_cons_self) q (List.mem_append_left _ hq)
        rw [Nat.gcd_comm] at z
        exact Int.dvd_of_emod_eq_zero z
      have fq := hf' q hq
      have d2 : ((Nat.gcd q.2.natAbs p.2.natAbs : Nat) : Int) ∣ q.1 - x := by
        have e : q.1 - x = -(q.2 * (x / q.2)) := by
          have := Int.emod_add_mul_ediv x q.2
          have z := hx q hq
          omega
        rw [e]
        refine Int.dvd_neg.mpr (Int.dvd_trans ?_ (Int.dvd_mul_right _ _))
        have : ((q.2.natAbs : Nat) : Int) = q.2 := by have := fq.1; omega
        rw [← this]
        exact Int.natCast_dvd_natCast.mpr (Nat.gcd_dvd_left _ _)
      have e : p.1 - x = (p.1 - q.1) + (q.1 - x) := by omega
      rw [e]
      exact Int.dvd_add d1 d2
    have lI : (0 : Int) < (lcmAll fs : Int) := Int.natCast_pos.mpr l0
    obtain ⟨y, h1, h2⟩ := both_ex (b := lcmAll fs) (c := p.2.natAbs) (r := x % (lcmAll fs : Int)) (s := p.1) l0 (by have := hp.1; omega) (Int.emod_nonneg _ (by omega)) (Int.emod_lt_of_pos _ lI) hp.2.2.1 (by rw [ep]; exact hp.2.2.2) (by
      refine Int.emod_eq_zero_of_dvd ?_
      have e : p.1 - x % (lcmAll fs : Int) = (p.1 - x) + (lcmAll fs : Int) * (x / (lcmAll fs : Int)) := by
        have := Int.emod_add_mul_ediv x (lcmAll fs : Int)
        omega
      rw [e]
      exact Int.dvd_add dv (Int.dvd_trans (Int.natCast_dvd_natCast.mpr (Nat.gcd_dvd_left _ _)) (Int.dvd_mul_right _ _)))
    refine ⟨y, fits_snoc.mpr ⟨(fits_iff hf' hx).mpr ?_, by rw [← ep]; exact h2⟩⟩
    exact Int.dvd_of_emod_eq_zero (Int.emod_eq_emod_iff_emod_sub_eq_zero.mp h1)
end Vf

namespace Vf
/-! ## sets of indexes by the bits of a number -/
def bitsL (k a : Nat) : List Nat := (List.range k).filter fun i => a.testBit i
theorem range_pow (k : Nat) : List.range (2 ^ (k + 1)) = List.range (2 ^ k) ++ (List.range (2 ^ k)).map (2 ^ k + ·) := by
  rw [Nat.pow_succ, Nat.mul_two, List.range_add]
theorem bitsL_low {k a : Nat} (h : a < 2 ^ k) : bitsL (k + 1) a = bitsL k a := by
  unfold bitsL
  rw [List.range_succ, List.filter_append, List.filter_cons, List.filter_nil, Nat.testBit_lt_two_pow h, if_neg (by decide), List.append_nil]
theorem bitsL_high {k a : Nat} (h : a < 2 ^ k) : bitsL (k + 1) (2 ^ k + a) = bitsL k a ++ [k] := by
  unfold bitsL
  rw [List.range_succ, List.filter_append, List.filter_cons, List.filter_nil]
  have e : (2 ^ k + a).testBit k = true := by
    rw [Nat.testBit_two_pow_add_eq, Nat.testBit_lt_two_pow h]
    rfl
  rw [if_pos e]
  congr 1
  refine List.filter_congr fun i hi => ?_
  rw [Nat.testBit_two_pow_add_gt (List.mem_range.mp hi)]
theorem mem_bitsL {k a i : Nat} : i ∈ bitsL k a ↔ i < k ∧ a.testBit i = true := by
  unfold bitsL
  rw [List.mem_filter, List.mem_range]
theorem bitsL_len (k a : Nat) : (bitsL k a).length ≤ k := by
  unfold bitsL
  exact Nat.le_trans (List.length_filter_le _ _) (by rw [List.length_range]; exact Nat.le_refl k)
def lots (k : Nat) : List (List Nat) := (List.range (2 ^ k)).map (bitsL k)
theorem lots_succ (k : Nat) : lots (k + 1) = lots k ++ (lots k).map (· ++ [k]) := by
  unfold lots
  rw [range_pow, List.map_append, List.map_map, List.map_map]
  congr 1
  · exact List.map_congr_left fun a ha => bitsL_low (List.mem_range.mp ha)
  · exact List.map_congr_left fun a ha => bitsL_high (List.mem_range.mp ha)
theorem lots_len (k : Nat) : (lots k).length = 2 ^ k := by
  unfold lots
  rw [List.length_map, List.length_range]
/-- one more bit -/
theorem testBit_more {a i j : Nat} (h : a.testBit i = false) : (2 ^ i + a).testBit j = (a.testBit j || decide (i = j)) := by
  rcases Nat.lt_trichotomy j i with c | c | c
  · rw [Nat.testBit_two_pow_add_gt c, decide_eq_false (by omega), Bool.or_false]
  · subst c
    rw [Nat.testBit_two_pow_add_eq, h, decide_eq_true rfl]
    rfl
  · rw [decide_eq_false (by omega), Bool.or_false]
    have z : a / 2 ^ i % 2 = 0 := by
      rw [Nat.testBit_eq_decide_div_mod_eq] at h
      have := of_decide_eq_false h
      omega
    have m := Nat.mod_mul (a := 2 ^ i) (b := 2) (x := a)
    rw [z, Nat.mul_zero, Nat.add_zero, ← Nat.pow_succ] at m
    have l := Nat.mod_lt a (Nat.two_pow_pos i)
    have d := Nat.div_add_mod a (2 ^ (i + 1))
    have p : 2 ^ (i + 1) = 2 * 2 ^ i := by rw [Nat.pow_succ, Nat.mul_comm]
    have e1 : (2 ^ i + a) / 2 ^ (i + 1) = a / 2 ^ (i + 1) := by
      have e2 : 2 ^ i + a = 2 ^ (i + 1) * (a / 2 ^ (i + 1)) + (2 ^ i + a % 2 ^ (i + 1)) := by omega
      rw [e2, Nat.mul_add_div (Nat.two_pow_pos _), Nat.div_eq_of_lt (a := 2 ^ i + a % 2 ^ (i + 1)) (by rw [m]; omega), Nat.add_zero]
    have t1 := Nat.testBit_div_two_pow (n := i + 1) (2 ^ i + a) (j - (i + 1))
    have t2 := Nat.testBit_div_two_pow (n := i + 1) a (j - (i + 1))
    have ej : (j - (i + 1)) + (i + 1) = j := by omega
    rw [e1, t2] at t1
    rw [ej] at t1
    exact t1.symm
theorem more_lt {k a i : Nat} (ha : a < 2 ^ k) (hi : i < k) (h : a.testBit i = false) : 2 ^ i + a < 2 ^ k := by
  refine Nat.lt_pow_two_of_testBit _ fun j hj => ?_
  rw [testBit_more h, Nat.testBit_lt_two_pow (Nat.lt_of_lt_of_le ha (Nat.pow_le_pow_right (by decide) hj)), decide_eq_false (by omega)]
  rfl
/-- every set of indexes is one of them -/
theorem bits_of (S : Nat → Bool) (k : Nat) : ∃ a, a < 2 ^ k ∧ ∀ i, i < k → a.testBit i = S i := by
  induction k with
  | zero => exact ⟨0, by decide, fun i h => absurd h (by omega)⟩
  | succ k ih =>
    obtain ⟨a, h1, h2⟩ := ih
    have p : 2 ^ (k + 1) = 2 * 2 ^ k := by rw [Nat.pow_succ, Nat.mul_comm]
    cases hs : S k with
    | false =>
      refine ⟨a, by omega, fun i hi => ?_⟩
      by_cases c : i = k
      · rw [c, hs]
        exact Nat.testBit_lt_two_pow h1
      · exact h2 i (by omega)
    | true =>
      refine ⟨2 ^ k + a, by omega, fun i hi => ?_⟩
      rw [testBit_more (Nat.testBit_lt_two_pow h1)]
      by_cases c : i = k
      · rw [c, hs]
        simp
      · rw [h2 i (by omega), decide_eq_false (by omega), Bool.or_false]
theorem bits_inj {k a b : Nat} (ha : a < 2 ^ k) (hb : b < 2 ^ k) (h : ∀ i, i < k → a.testBit i = b.testBit i) : a = b := by
  refine Nat.eq_of_testBit_eq fun i => ?_
  by_cases c : i < k
  · exact h i c
  · have p := Nat.pow_le_pow_right (n := 2) (by decide) (show k ≤ i by omega)
    rw [Nat.testBit_lt_two_pow (by omega), Nat.testBit_lt_two_pow (by omega)]
theorem bitsL_inj {k a b : Nat} (ha : a < 2 ^ k) (hb : b < 2 ^ k) (h : bitsL k a = bitsL k b) : a = b := by
  refine bits_inj ha hb fun i hi => ?_
  have z : i ∈ bitsL k a ↔ i ∈ bitsL k b := by rw [h]
  rw [mem_bitsL, mem_bitsL] at z
  cases h1 : a.testBit i <;> cases h2 : b.testBit i <;> simp_all
/-! ### sets of facts without a quarrel -/
def subF (fs : List (Int × Int)) (k a : Nat) : List (Int × Int) := (bitsL k a).map fun i => fs.getD i (0, 1)
theorem subF_low {fs : List (Int × Int)} {k a : Nat} (h : a < 2 ^ k) : subF fs (k + 1) a = subF fs k a := by
  unfold subF
  rw [bitsL_low h]
theorem subF_high {fs : List (Int × Int)} {k a : Nat} (h : a < 2 ^ k) : subF fs (k + 1) (2 ^ k + a) = subF fs k a ++ [fs.getD k (0, 1)] := by
  unfold subF
  rw [bitsL_high h, List.map_append]
  rfl
def subs (fs : List (Int × Int)) (k : Nat) : List (List (Int × Int)) := (List.range (2 ^ k)).map (subF fs k)
theorem subs_succ (fs : List (Int × Int)) (k : Nat) : subs fs (k + 1) = subs fs k ++ (subs fs k).map (· ++ [fs.getD k (0, 1)]) := by
  unfold subs
  rw [range_pow, List.map_append, List.map_map, List.map_map]
  congr 1
  · exact List.map_congr_left fun a ha => subF_low (List.mem_range.mp ha)
  · exact List.map_congr_left fun a ha => subF_high (List.mem_range.mp ha)
theorem getD_mem {fs : List (Int × Int)} {i : Nat} (h : i < fs.length) : fs.getD i (0, 1) ∈ fs := by
  rw [List.getD_eq_getElem?_getD, List.getElem?_eq_getElem h]
  exact List.getElem_mem h
theorem subF_mem {fs : List (Int × Int)} {k a : Nat} (hk : k ≤ fs.length) {p : Int × Int} (h : p ∈ subF fs k a) : p ∈ fs := by
  obtain ⟨i, hi, rfl⟩ := List.mem_map.mp h
  exact getD_mem (by have := (mem_bitsL.mp hi).1; omega)
/-- some number fits the facts of the set -/
def Con (fs : List (Int × Int)) (a : Nat) : Prop := ∃ x, Fits x (subF fs fs.length a)
def fitB (fs : List (Int × Int)) (x : Int) (i : Nat) : Bool := decide (x % (fs.getD i (0, 1)).2 = (fs.getD i (0, 1)).1)
theorem fits_sub {fs : List (Int × Int)} {x : Int} {a : Nat} : Fits x (subF fs fs.length a) ↔ ∀ i, i < fs.length → a.testBit i = true → fitB fs x i = true := by
  constructor
  · intro h i h1 h2
    exact decide_eq_true (h _ (List.mem_map.mpr ⟨i, mem_bitsL.mpr ⟨h1, h2⟩, rfl⟩))
  · intro h p hp
    obtain ⟨i, hi, rfl⟩ := List.mem_map.mp hp
    obtain ⟨h1, h2⟩ := mem_bitsL.mp hi
    exact of_decide_eq_true (h i h1 h2)
end Vf

namespace Vf
/-! ## sets of indexes and how many they have -/
theorem count_same {α : Type} {p q : α → Bool} : ∀ {l : List α}, (∀ x ∈ l, p x = true → q x = true) → l.countP q ≤ l.countP p → ∀ x ∈ l, q x = true → p x = true
  | [], _, _, x, hx, _ => nomatch hx
  | a :: l, h, e, x, hx, hq => by
    have hl : ∀ x ∈ l, p x = true → q x = true := fun y hy => h y (List.mem_cons_of_mem _ hy)
    have m := List.countP_mono_left hl
    rw [List.countP_cons, List.countP_cons] at e
    have ha := h a List.mem_cons_self
    have both : l.countP q ≤ l.countP p ∧ (q a = true → p a = true) := by
      cases pa : p a <;> cases qa : q a <;> simp_all <;> omega
    rcases List.mem_cons.mp hx with rfl | hx
    · exact both.2 hq
    · exact count_same hl both.1 x hx hq
theorem bits_count (n a : Nat) : (bitsL n a).length = (List.range n).countP fun i => a.testBit i := by
  unfold bitsL
  rw [List.countP_eq_length_filter]
theorem bits_le {n a b : Nat} (h : ∀ i, i < n → a.testBit i = true → b.testBit i = true) : (bitsL n a).length ≤ (bitsL n b).length := by
  rw [bits_count, bits_count]
  exact List.countP_mono_left fun i hi => h i (List.mem_range.mp hi)
/-- a set within one that has no more is that one -/
theorem bits_eq {n a b : Nat} (ha : a < 2 ^ n) (hb : b < 2 ^ n) (h : ∀ i, i < n → a.testBit i = true → b.testBit i = true) (l : (bitsL n b).length ≤ (bitsL n a).length) : a = b := by
  rw [bits_count, bits_count] at l
  refine bits_inj ha hb fun i hi => ?_
  have z := count_same (fun i hi => h i (List.mem_range.mp hi)) l i (List.mem_range.mpr hi)
  have y := h i hi
  cases h1 : a.testBit i <;> cases h2 : b.testBit i <;> simp_all
/-- how many facts fit the number -/
def hits (fs : List (Int × Int)) (x : Int) : Nat := (List.range fs.length).countP (fitB fs x)
/-- a set that fits the number has no more than it hits; where it has as many, it is what fits -/
theorem hits_ge {fs : List (Int × Int)} {x : Int} {a : Nat} (h : Fits x (subF fs fs.length a)) : (bitsL fs.length a).length ≤ hits fs x := by
  rw [bits_count]
  exact List.countP_mono_left fun i hi => fits_sub.mp h i (List.mem_range.mp hi)
theorem hits_set (fs : List (Int × Int)) (x : Int) : ∃ a, a < 2 ^ fs.length ∧ (bitsL fs.length a).length = hits fs x ∧ Fits x (subF fs fs.length a) ∧ ∀ i, i < fs.length → a.testBit i = fitB fs x i := by
  obtain ⟨a, h1, h2⟩ := bits_of (fitB fs x) fs.length
  refine ⟨a, h1, ?_, fits_sub.mpr fun i hi hb => by rw [← h2 i hi]; exact hb, h2⟩
  rw [bits_count]
  exact List.countP_congr fun i hi => by rw [h2 i (List.mem_range.mp hi)]
theorem hits_one {fs : List (Int × Int)} {x : Int} {a b : Nat} (ha : a < 2 ^ fs.length) (hb : b < 2 ^ fs.length) (fa : Fits x (subF fs fs.length a)) (fb : Fits x (subF fs fs.length b)) (la : (bitsL fs.length a).length = hits fs x) (lb : (bitsL fs.length b).length = hits fs x) : a = b := by
  obtain ⟨c, c1, c2, _, c4⟩ := hits_set fs x
  have e1 : a = c := bits_eq ha c1 (fun i hi h => by rw [c4 i hi]; exact fits_sub.mp fa i hi h) (by omega)
  have e2 : b = c := bits_eq hb c1 (fun i hi h => by rw [c4 i hi]; exact fits_sub.mp fb i hi h) (by omega)
  rw [e1, e2]
/-! counting by what holds for one alone -/
theorem sum_ones {α : Type} (p : α → Bool) : ∀ as : List α, (as.map fun a => if p a = true then 1 else 0).sum = as.countP p
  | [] => rfl
  | a :: as => by
    rw [List.map_cons, List.sum_cons, List.countP_cons, sum_ones p as, Nat.add_comm]
theorem sum_add {α : Type} (f g : α → Nat) : ∀ as : List α, (as.map fun a => f a + g a).sum = (as.map f).sum + (as.map g).sum
  | [] => rfl
  | a :: as => by
    rw [List.map_cons, List.sum_cons, List.map_cons, List.sum_cons, List.map_cons, List.sum_cons, sum_add f g as]
    omega
theorem sum_swap {α β : Type} (P : α → β → Bool) (Q : β → Bool) (as : List α) : ∀ xs : List β, (∀ x ∈ xs, as.countP (fun a => P a x) = if Q x = true then 1 else 0) → (as.map fun a => xs.countP (P a)).sum = xs.countP Q
  | [], _ => by
    show (as.map fun _ => 0).sum = 0
    induction as with
    | nil => rfl
    | cons a as ih => rw [List.map_cons, List.sum_cons, ih (fun x hx => nomatch hx)]
  | x :: xs, h => by
    have e : (as.map fun a => (x :: xs).countP (P a)) = as.map fun a => xs.countP (P a) + if P a x = true then 1 else 0 := List.map_congr_left fun a _ => List.countP_cons
    rw [e, sum_add, sum_swap P Q as xs fun y hy => h y (List.mem_cons_of_mem _ hy), sum_ones (fun a => P a x), h x List.mem_cons_self, List.countP_cons]
/-- of unlike ones that all are alike where it holds, one holds or none -/
theorem count_one {α : Type} {p : α → Bool} : ∀ {as : List α}, as.Nodup → (∀ a ∈ as, ∀ b ∈ as, p a = true → p b = true → a = b) → (∃ a ∈ as, p a = true) → as.countP p = 1
  | [], _, _, ⟨a, h, _⟩ => nomatch h
  | a :: as, nd, one, ex => by
    obtain ⟨n1, n2⟩ := List.nodup_cons.mp nd
    rw [List.countP_cons]
    by_cases c : p a = true
    · have z : as.countP p = 0 := List.countP_eq_zero.mpr fun b hb hp => by
        have e := one a List.mem_cons_self b (List.mem_cons_of_mem _ hb) c hp
        rw [e] at n1
        exact n1 hb
      rw [z, if_pos c]
    · obtain ⟨b, hb, hp⟩ := ex
      have hb2 : b ∈ as := (List.mem_cons.mp hb).resolve_left fun e => c (by rw [← e]; exact hp)
      rw [if_neg c, count_one n2 (fun x hx y hy => one x (List.mem_cons_of_mem _ hx) y (List.mem_cons_of_mem _ hy)) ⟨b, hb2, hp⟩]
/-! the numbers that most facts fit, counted by the sets -/
def fitsB (fs : List (Int × Int)) (a : Nat) (x : Int) : Bool := (subF fs fs.length a).all fun p => decide (x % p.2 = p.1)
theorem fitsB_iff {fs : List (Int × Int)} {a : Nat} {x : Int} : fitsB fs a x = true ↔ Fits x (subF fs fs.length a) := by
  unfold fitsB
  rw [List.all_eq_true]
  exact ⟨fun h p hp => of_decide_eq_true (h p hp), fun h p hp => decide_eq_true (h p hp)⟩
def sized (n m : Nat) : List Nat := (List.range (2 ^ n)).filter fun a => decide ((bitsL n a).length = m)
theorem mem_sized {n m a : Nat} : a ∈ sized n m ↔ a < 2 ^ n ∧ (bitsL n a).length = m := by
  unfold sized
  rw [List.mem_filter, List.mem_range, decide_eq_true_eq]
theorem most_count {fs : List (Int × Int)} {m : Nat} {x : Int} (h : hits fs x ≤ m) : (sized fs.length m).countP (fun a => fitsB fs a x) = if decide (hits fs x = m) = true then 1 else 0 := by
  by_cases c : hits fs x = m
  · rw [if_pos (decide_eq_true c)]
    refine count_one (List.Pairwise.filter _ List.nodup_range) (fun a ha b hb pa pb => ?_) ?_
    · obtain ⟨a1, a2⟩ := mem_sized.mp ha
      obtain ⟨b1, b2⟩ := mem_sized.mp hb
      exact hits_one a1 b1 (fitsB_iff.mp pa) (fitsB_iff.mp pb) (a2.trans c.symm) (b2.trans c.symm)
    · obtain ⟨a, a1, a2, a3, _⟩ := hits_set fs x
      exact ⟨a, mem_sized.mpr ⟨a1, a2.trans c⟩, fitsB_iff.mpr a3⟩
  · rw [if_neg (by rw [decide_eq_false c]; exact Bool.false_ne_true)]
    refine List.countP_eq_zero.mpr fun a ha hp => ?_
    have := hits_ge (fitsB_iff.mp hp)
    have := (mem_sized.mp ha).2
    omega
/-- how many numbers of a list most facts fit: each is counted by one set alone -/
theorem most_sum {fs : List (Int × Int)} {m : Nat} {xs : List Int} (h : ∀ x ∈ xs, hits fs x ≤ m) : ((sized fs.length m).map fun a => xs.countP (fitsB fs a)).sum = xs.countP fun x => decide (hits fs x = m) :=
  sum_swap (fitsB fs) (fun x => decide (hits fs x = m)) _ xs fun x hx => most_count (h x hx)
end Vf

namespace Vf
/-! ## the numbers from one to another that a set of facts fits -/
def numsN (lo : Int) (n : Nat) : List Int := (List.range n).map fun i : Nat => lo + (i : Int)
theorem found_count {fs : List (Int × Int)} {a : Nat} {R lo : Int} (l0 : 0 < lcmAll (subF fs fs.length a)) (jn : Jn (subF fs fs.length a) R) : ∀ n : Nat, (foundIn (lcmAll (subF fs fs.length a) : Int) R lo n).length = (numsN lo n).countP (fitsB fs a)
  | 0 => rfl
  | n + 1 => by
    have ih := found_count (lo := lo) l0 jn n
    have e : numsN lo (n + 1) = numsN lo n ++ [lo + (n : Int)] := by
      unfold numsN
      rw [List.range_succ, List.map_append]
      rfl
    rw [e, List.countP_append, ← ih, foundIn, List.length_append]
    congr 1
    rw [List.countP_cons, List.countP_nil, Nat.zero_add]
    have k : ((lo + (n : Int) - R) % (lcmAll (subF fs fs.length a) : Int) = 0) ↔ fitsB fs a (lo + (n : Int)) = true := by
      rw [fitsB_iff, jn.2.2]
      constructor
      · intro h
        rw [Int.emod_eq_emod_iff_emod_sub_eq_zero.mpr h, Int.emod_eq_of_lt jn.1 jn.2.1]
      · intro h
        refine Int.emod_eq_emod_iff_emod_sub_eq_zero.mp ?_
        rw [h, Int.emod_eq_of_lt jn.1 jn.2.1]
    by_cases c : fitsB fs a (lo + (n : Int)) = true
    · rw [if_pos (k.mpr c), if_pos c]
      rfl
    · rw [if_neg (fun z => c (k.mp z)), if_neg c]
      rfl
def numsIn (lo hi : Int) : List Int := numsN lo (hi - lo + 1).toNat
theorem mem_numsIn {lo hi x : Int} (h : lo ≤ hi) : x ∈ numsIn lo hi ↔ lo ≤ x ∧ x ≤ hi := by
  unfold numsIn numsN
  rw [List.mem_map]
  constructor
  · rintro ⟨i, hi2, rfl⟩
    have := List.mem_range.mp hi2
    omega
  · rintro ⟨h1, h2⟩
    exact ⟨(x - lo).toNat, List.mem_range.mpr (by omega), by omega⟩
/-- how many of them, as the program reckons -/
theorem cnt_eq {fs : List (Int × Int)} {a : Nat} {R lo hi : Int} (h : lo ≤ hi) (l0 : 0 < lcmAll (subF fs fs.length a)) (jn : Jn (subF fs fs.length a) R) :
    (hi - R) / (lcmAll (subF fs fs.length a) : Int) - (lo - 1 - R) / (lcmAll (subF fs fs.length a) : Int) = (((numsIn lo hi).countP (fitsB fs a) : Nat) : Int) := by
  have z := found_len (L := (lcmAll (subF fs fs.length a) : Int)) (r := R) (lo := lo) (Int.natCast_pos.mpr l0) (hi - lo + 1).toNat
  rw [found_count l0 jn, show lo + (((hi - lo + 1).toNat : Nat) : Int) - 1 - R = hi - R by omega] at z
  exact z.symm
theorem none_count {fs : List (Int × Int)} {a : Nat} (nf : ∀ x, ¬ Fits x (subF fs fs.length a)) (xs : List Int) : xs.countP (fitsB fs a) = 0 :=
  List.countP_eq_zero.mpr fun x _ h => nf x (fitsB_iff.mp h)
/-- the sets of so many facts that a number of lo to hi fits -/
def nearS (fs : List (Int × Int)) (lo hi : Int) (m : Nat) : List Nat := (List.range (2 ^ fs.length)).filter fun a => decide ((bitsL fs.length a).length = m) && decide ((numsIn lo hi).countP (fitsB fs a) ≠ 0)
theorem nearS_nil {fs : List (Int × Int)} {lo hi : Int} {m : Nat} (h : nearS fs lo hi m = []) (hm : ∀ x ∈ numsIn lo hi, hits fs x ≤ m) : ∀ x ∈ numsIn lo hi, hits fs x < m := by
  intro x hx
  have h1 := hm x hx
  by_cases c : hits fs x = m
  · obtain ⟨a, a1, a2, a3, _⟩ := hits_set fs x
    have z : a ∈ nearS fs lo hi m := by
      unfold nearS
      refine List.mem_filter.mpr ⟨List.mem_range.mpr a1, ?_⟩
      rw [Bool.and_eq_true, decide_eq_true_eq, decide_eq_true_eq]
      refine ⟨a2.trans c, fun z => ?_⟩
      exact List.countP_eq_zero.mp z x hx (fitsB_iff.mpr a3)
    rw [h] at z
    cases z
  · omega
theorem hits_le (fs : List (Int × Int)) (x : Int) : hits fs x ≤ fs.length := by
  unfold hits
  refine Nat.le_trans List.countP_le_length ?_
  rw [List.length_range]
  exact Nat.le_refl _
/-- a set of so many that some number fits: that number hits no fewer -/
theorem nearS_hit {fs : List (Int × Int)} {lo hi : Int} {m a : Nat} (h : a ∈ nearS fs lo hi m) : ∃ x ∈ numsIn lo hi, m ≤ hits fs x := by
  unfold nearS at h
  obtain ⟨_, h2⟩ := List.mem_filter.mp h
  rw [Bool.and_eq_true, decide_eq_true_eq, decide_eq_true_eq] at h2
  have h3 : 0 < (numsIn lo hi).countP (fitsB fs a) := by omega
  obtain ⟨x, hx, hf⟩ := List.countP_pos_iff.mp h3
  exact ⟨x, hx, by rw [← h2.1]; exact hits_ge (fitsB_iff.mp hf)⟩
end Vf

namespace Vf
/-! ## the nearest numbers, and what is left where some facts are wrong -/
structure NearIs (fs : List (Int × Int)) (lo hi : Int) (m : Nat) (x : Int) (c : Nat) : Prop where
  most : ∀ y ∈ numsIn lo hi, hits fs y ≤ m
  mem : x ∈ numsIn lo hi
  eq : hits fs x = m
  least : ∀ y ∈ numsIn lo hi, hits fs y = m → x ≤ y
  cnt : c = (numsIn lo hi).countP fun y => decide (hits fs y = m)
theorem NearIs.one {fs : List (Int × Int)} {lo hi : Int} {m m' : Nat} {x x' : Int} {c c' : Nat} (h : NearIs fs lo hi m x c) (h' : NearIs fs lo hi m' x' c') : m = m' ∧ x = x' ∧ c = c' := by
  have a1 := h.most _ h'.mem
  have a2 := h'.most _ h.mem
  rw [h'.eq] at a1
  rw [h.eq] at a2
  have e : m = m' := by omega
  subst e
  have b1 := h.least _ h'.mem h'.eq
  have b2 := h'.least _ h.mem h.eq
  exact ⟨rfl, by omega, h.cnt.trans h'.cnt.symm⟩
theorem sum_skip {α : Type} (f : α → Nat) : ∀ l : List α, ((l.filter fun a => decide (f a ≠ 0)).map f).sum = (l.map f).sum
  | [] => rfl
  | a :: l => by
    have ih := sum_skip f l
    rw [List.filter_cons, List.map_cons, List.sum_cons]
    by_cases h : f a = 0
    · rw [if_neg (by simp [h]), ih, h, Nat.zero_add]
    · rw [if_pos (by simp [h]), List.map_cons, List.sum_cons, ih]
theorem nearS_eq (fs : List (Int × Int)) (lo hi : Int) (m : Nat) : nearS fs lo hi m = (sized fs.length m).filter fun a => decide ((numsIn lo hi).countP (fitsB fs a) ≠ 0) := by
  unfold nearS sized
  rw [List.filter_filter]
  refine List.filter_congr fun a _ => ?_
  rw [Bool.and_comm]
theorem near_sum {fs : List (Int × Int)} {lo hi : Int} {m : Nat} (h : ∀ x ∈ numsIn lo hi, hits fs x ≤ m) : ((nearS fs lo hi m).map fun a => (numsIn lo hi).countP (fitsB fs a)).sum = (numsIn lo hi).countP fun y => decide (hits fs y = m) := by
  rw [nearS_eq, sum_skip fun a => (numsIn lo hi).countP (fitsB fs a)]
  exact most_sum h
/-- the least number from lo on that leaves the rest -/
theorem least_mod {R L lo : Int} (h0 : 0 ≤ R) (h1 : R < L) : (lo + (R - lo) % L) % L = R := by
  have e : (lo + (R - lo) % L) % L = (lo + (R - lo)) % L := by
    rw [Int.add_emod, Int.emod_emod, ← Int.add_emod]
  rw [e, show lo + (R - lo) = R by omega, Int.emod_eq_of_lt h0 h1]
theorem least_le {R L lo x : Int} (l0 : 0 < L) (hx : x % L = R) (h : lo ≤ x) : lo + (R - lo) % L ≤ x := by
  have e : (R - lo) % L = (x - lo) % L := by
    rw [← hx, Int.emod_sub_emod]
  have h1 := Int.mul_ediv_add_emod (x - lo) L
  have h2 := Int.mul_nonneg (Int.le_of_lt l0) (Int.ediv_nonneg (a := x - lo) (b := L) (by omega) (Int.le_of_lt l0))
  omega
/-- the number that a set of most facts shows -/
theorem near_of {fs : List (Int × Int)} {lo hi R : Int} {m a : Nat} (lh : lo ≤ hi) (hm : ∀ x ∈ numsIn lo hi, hits fs x ≤ m) (ha : a ∈ nearS fs lo hi m) (l0 : 0 < lcmAll (subF fs fs.length a)) (jn : Jn (subF fs fs.length a) R) :
    lo + (R - lo) % (lcmAll (subF fs fs.length a) : Int) ∈ numsIn lo hi ∧ hits fs (lo + (R - lo) % (lcmAll (subF fs fs.length a) : Int)) = m := by
  have L0 : (0 : Int) < (lcmAll (subF fs fs.length a) : Int) := Int.natCast_pos.mpr l0
  unfold nearS at ha
  obtain ⟨_, h2⟩ := List.mem_filter.mp ha
  rw [Bool.and_eq_true, decide_eq_true_eq, decide_eq_true_eq] at h2
  obtain ⟨x, hx, hf⟩ := List.countP_pos_iff.mp (Nat.pos_of_ne_zero h2.2)
  obtain ⟨x1, x2⟩ := (mem_numsIn lh).mp hx
  have ex := (jn.2.2 x).mp (fitsB_iff.mp hf)
  have le := least_le L0 ex x1
  have n0 := Int.emod_nonneg (R - lo) (show (lcmAll (subF fs fs.length a) : Int) ≠ 0 by omega)
  have e := least_mod (lo := lo) jn.1 jn.2.1
  have mem : lo + (R - lo) % (lcmAll (subF fs fs.length a) : Int) ∈ numsIn lo hi := (mem_numsIn lh).mpr ⟨by omega, by omega⟩
  have ge := hits_ge ((jn.2.2 _).mpr e)
  have := hm _ mem
  exact ⟨mem, by omega⟩
theorem near_hit {fs : List (Int × Int)} {lo hi y : Int} {m : Nat} (hy : y ∈ numsIn lo hi) (h : hits fs y = m) : ∃ a, a ∈ nearS fs lo hi m ∧ Fits y (subF fs fs.length a) := by
  obtain ⟨a, a1, a2, a3, _⟩ := hits_set fs y
  refine ⟨a, ?_, a3⟩
  unfold nearS
  refine List.mem_filter.mpr ⟨List.mem_range.mpr a1, ?_⟩
  rw [Bool.and_eq_true, decide_eq_true_eq, decide_eq_true_eq]
  refine ⟨a2.trans h, fun z => ?_⟩
  exact List.countP_eq_zero.mp z y hy (fitsB_iff.mpr a3)
/-! ## hits come round -/
theorem fitB_add {fs : List (Int × Int)} (x t : Int) {i : Nat} (hi : i < fs.length) : fitB fs (x + t * (lcmAll fs : Int)) i = fitB fs x i := by
  unfold fitB
  have hd : ((fs.getD i (0, 1)).2.natAbs : Int) ∣ (lcmAll fs : Int) := Int.natCast_dvd_natCast.mpr ((dvd_lcmAll fs 1).2 _ (getD_mem hi))
  have hd : (fs.getD i (0, 1)).2 ∣ (lcmAll fs : Int) := Int.natAbs_dvd.mp hd
  have e : (x + t * (lcmAll fs : Int)) % (fs.getD i (0, 1)).2 = x % (fs.getD i (0, 1)).2 := by
    obtain ⟨c, hc⟩ := hd
    rw [hc, show t * ((fs.getD i (0, 1)).2 * c) = (fs.getD i (0, 1)).2 * (t * c) by grind, Int.add_mul_emod_self_left]
  rw [e]
theorem hits_add (fs : List (Int × Int)) (x t : Int) : hits fs (x + t * (lcmAll fs : Int)) = hits fs x := by
  unfold hits
  exact List.countP_congr fun i hi => by rw [fitB_add x t (List.mem_range.mp hi)]
theorem hits_mod (fs : List (Int × Int)) (x : Int) : hits fs (x % (lcmAll fs : Int)) = hits fs x := by
  have h := hits_add fs (x % (lcmAll fs : Int)) (x / (lcmAll fs : Int))
  have e := Int.mul_ediv_add_emod x (lcmAll fs : Int)
  rw [show x % (lcmAll fs : Int) + x / (lcmAll fs : Int) * (lcmAll fs : Int) = x by grind] at h
  exact h.symm
theorem numsN_add (lo t : Int) (n : Nat) : numsN (lo + t) n = (numsN lo n).map (· + t) := by
  unfold numsN
  rw [List.map_map]
  refine List.map_congr_left fun i _ => ?_
  show lo + t + (i : Int) = lo + (i : Int) + t
  omega
theorem numsIn_add (lo hi t : Int) : numsIn (lo + t) (hi + t) = (numsIn lo hi).map (· + t) := by
  unfold numsIn
  rw [show hi + t - (lo + t) + 1 = hi - lo + 1 by omega, numsN_add]
theorem NearIs.far {fs : List (Int × Int)} {lo hi : Int} {m : Nat} {x : Int} {c : Nat} (h : NearIs fs lo hi m x c) (t : Int) : NearIs fs (lo + t * (lcmAll fs : Int)) (hi + t * (lcmAll fs : Int)) m (x + t * (lcmAll fs : Int)) c := by
  refine ⟨fun y hy => ?_, ?_, (hits_add fs x t).trans h.eq, fun y hy e => ?_, ?_⟩
  · rw [numsIn_add] at hy
    obtain ⟨z, hz, rfl⟩ := List.mem_map.mp hy
    rw [hits_add]
    exact h.most z hz
  · rw [numsIn_add]
    exact List.mem_map.mpr ⟨x, h.mem, rfl⟩
  · rw [numsIn_add] at hy
    obtain ⟨z, hz, rfl⟩ := List.mem_map.mp hy
    rw [hits_add] at e
    have := h.least z hz e
    omega
  · rw [numsIn_add, List.countP_map, h.cnt]
    refine List.countP_congr fun y _ => ?_
    show _ ↔ decide (hits fs (y + t * (lcmAll fs : Int)) = m) = true
    rw [hits_add]
theorem most_all {fs : List (Int × Int)} {lo : Int} {m : Nat} (l0 : 0 < lcmAll fs) (h : ∀ y ∈ numsIn lo (lo + (lcmAll fs : Int) - 1), hits fs y ≤ m) (x : Int) : hits fs x ≤ m := by
  have L0 : (0 : Int) < (lcmAll fs : Int) := Int.natCast_pos.mpr l0
  have e := Int.mul_ediv_add_emod (x - lo) (lcmAll fs : Int)
  have h1 := Int.emod_nonneg (x - lo) (show (lcmAll fs : Int) ≠ 0 by omega)
  have h2 := Int.emod_lt_of_pos (x - lo) L0
  have := h (lo + (x - lo) % (lcmAll fs : Int)) ((mem_numsIn (by omega)).mpr ⟨by omega, by omega⟩)
  have e2 := hits_add fs (lo + (x - lo) % (lcmAll fs : Int)) ((x - lo) / (lcmAll fs : Int))
  rw [show lo + (x - lo) % (lcmAll fs : Int) + (x - lo) / (lcmAll fs : Int) * (lcmAll fs : Int) = x by grind] at e2
  omega
/-- counted fact by fact -/
theorem count_idx {α : Type} (f : α → Bool) (d : α) : ∀ l : List α, (List.range l.length).countP (fun i => f (l.getD i d)) = l.countP f := by
  refine snoc_ind rfl fun l x ih => ?_
  rw [List.length_append, List.length_singleton, List.range_succ, List.countP_append, List.countP_append, ← ih]
  congr 1
  · refine List.countP_congr fun i hi => ?_
    rw [List.getD_eq_getElem?_getD, List.getD_eq_getElem?_getD, List.getElem?_append_left (List.mem_range.mp hi)]
  · rw [List.countP_cons, List.countP_nil, List.countP_cons, List.countP_nil, List.getD_eq_getElem?_getD, List.getElem?_append_right (Nat.le_refl _), Nat.sub_self]
    rfl
theorem hits_list {fs : List (Int × Int)} (hf : ∀ p ∈ fs, Fact p) (x : Int) : hits fs x = fs.countP fun p => decide ((x - p.1) % p.2 = 0) := by
  unfold hits fitB
  rw [count_idx (fun p : Int × Int => decide (x % p.2 = p.1)) (0, 1)]
  refine List.countP_congr fun p hp => ?_
  obtain ⟨f1, f2, f3, f4⟩ := hf p hp
  rw [decide_eq_true_eq, decide_eq_true_eq]
  constructor
  · intro h
    refine Int.emod_eq_emod_iff_emod_sub_eq_zero.mp ?_
    rw [h, Int.emod_eq_of_lt f3 f4]
  · intro h
    have := Int.emod_eq_emod_iff_emod_sub_eq_zero.mpr h
    rw [this, Int.emod_eq_of_lt f3 f4]
/-! ## part of a set -/
theorem count_or {α : Type} {p q : α → Bool} : ∀ {l : List α}, (∀ x ∈ l, ¬ (p x = true ∧ q x = true)) → l.countP (fun x => p x || q x) = l.countP p + l.countP q
  | [], _ => rfl
  | a :: l, h => by
    have ih := count_or fun x hx => h x (List.mem_cons_of_mem _ hx)
    have ha := h a List.mem_cons_self
    rw [List.countP_cons, List.countP_cons, List.countP_cons, ih]
    cases pa : p a <;> cases qa : q a <;> simp_all <;> omega
theorem bits_more {n a i : Nat} (hi : i < n) (h : a.testBit i = false) : (bitsL n (2 ^ i + a)).length = (bitsL n a).length + 1 := by
  rw [bits_count, bits_count]
  have e : (List.range n).countP (fun j => (2 ^ i + a).testBit j) = (List.range n).countP fun j => a.testBit j || decide (i = j) := List.countP_congr fun j _ => by rw [testBit_more h]
  rw [e, count_or (p := fun j => a.testBit j) (q := fun j => decide (i = j)) fun j _ z => ?_]
  · congr 1
    refine count_one List.nodup_range (fun x _ y _ hx hy => ?_) ⟨i, List.mem_range.mpr hi, decide_eq_true rfl⟩
    rw [← of_decide_eq_true hx, of_decide_eq_true hy]
  · have := of_decide_eq_true z.2
    subst this
    rw [h] at z
    exact Bool.false_ne_true z.1
theorem bits_part (n a : Nat) : ∀ k, k ≤ (bitsL n a).length → ∃ b, b < 2 ^ n ∧ (bitsL n b).length = k ∧ ∀ i, i < n → b.testBit i = true → a.testBit i = true
  | 0, _ => ⟨0, Nat.two_pow_pos _, by rw [bits_count]; exact List.countP_eq_zero.mpr fun i _ => by simp, fun i _ h => by rw [Nat.zero_testBit] at h; cases h⟩
  | k + 1, h => by
    obtain ⟨b, b1, b2, b3⟩ := bits_part n a k (by omega)
    have ex : ∃ i, i < n ∧ a.testBit i = true ∧ b.testBit i = false := by
      refine Classical.byContradiction fun z => ?_
      have := bits_le (n := n) (a := a) (b := b) fun i hi ha => by
        cases hb : b.testBit i with
        | true => rfl
        | false => exact absurd ⟨i, hi, ha, hb⟩ z
      omega
    obtain ⟨i, hi, ha, hb⟩ := ex
    refine ⟨2 ^ i + b, more_lt b1 hi hb, by rw [bits_more hi hb, b2], fun j hj h => ?_⟩
    rw [testBit_more hb, Bool.or_eq_true, decide_eq_true_eq] at h
    rcases h with h | h
    · exact b3 j hj h
    · rw [← h]
      exact ha
/-! ## what sets of so many facts tell of the rest -/
def Toldk (fs : List (Int × Int)) (size : Nat) (b : Int) (k : Int × Int) : Prop :=
  ∃ a R, a < 2 ^ fs.length ∧ (bitsL fs.length a).length = size ∧ Jn (subF fs fs.length a) R ∧ k = (R % ((Nat.gcd (lcmAll (subF fs fs.length a)) b.natAbs : Nat) : Int), ((Nat.gcd (lcmAll (subF fs fs.length a)) b.natAbs : Nat) : Int))
theorem told_iff {fs : List (Int × Int)} (hf : ∀ p ∈ fs, Fact p) {size : Nat} {b : Int} (b0 : 0 < b) (r : Int) : (0 ≤ r ∧ r < b ∧ ∃ k, Toldk fs size b k ∧ r % k.2 = k.1) ↔ ∃ x : Int, x % b = r ∧ size ≤ hits fs x := by
  have bn : (b.natAbs : Int) = b := by omega
  have sub (a : Nat) : ∀ p ∈ subF fs fs.length a, Fact p := fun p hp => hf p (subF_mem (Nat.le_refl _) hp)
  constructor
  · rintro ⟨r0, r1, k, ⟨a, R, ha, hs, jn, rfl⟩, e⟩
    have l0 := lcmAll_pos _ 1 (sub a) (by decide)
    change 0 < lcmAll (subF fs fs.length a) at l0
    dsimp only at e
    obtain ⟨x, x1, x2⟩ := both_ex (b := lcmAll (subF fs fs.length a)) (c := b.natAbs) (r := R) (s := r) l0 (by omega) jn.1 jn.2.1 r0 (by omega) (Int.emod_eq_emod_iff_emod_sub_eq_zero.mp e)
    rw [bn] at x2
    refine ⟨x, x2, ?_⟩
    rw [← hs]
    exact hits_ge ((jn.2.2 x).mpr x1)
  · rintro ⟨x, rfl, h⟩
    refine ⟨Int.emod_nonneg _ (by omega), Int.emod_lt_of_pos _ b0, ?_⟩
    obtain ⟨c, c1, c2, c3, c4⟩ := hits_set fs x
    obtain ⟨a, a1, a2, a3⟩ := bits_part fs.length c size (by omega)
    have fx : Fits x (subF fs fs.length a) := fits_sub.mpr fun i hi hb => by rw [← c4 i hi]; exact a3 i hi hb
    have jn := Jn.of_fits (R := 0) (sub a) fx
    refine ⟨_, ⟨a, _, a1, a2, jn, rfl⟩, ?_⟩
    dsimp only
    have d1 : ((Nat.gcd (lcmAll (subF fs fs.length a)) b.natAbs : Nat) : Int) ∣ b := by
      have := Int.natCast_dvd_natCast.mpr (Nat.gcd_dvd_right (lcmAll (subF fs fs.length a)) b.natAbs)
      rw [bn] at this
      exact this
    have d2 : ((Nat.gcd (lcmAll (subF fs fs.length a)) b.natAbs : Nat) : Int) ∣ (lcmAll (subF fs fs.length a) : Int) := Int.natCast_dvd_natCast.mpr (Nat.gcd_dvd_left _ _)
    rw [Int.emod_emod_of_dvd _ d1, Int.emod_emod_of_dvd _ d2]
/-- ascending rows of the same numbers are the same -/
theorem asc_one {l m : List Int} (hl : l.Pairwise (· < ·)) (hm : m.Pairwise (· < ·)) (h : ∀ x, x ∈ l ↔ x ∈ m) : l = m := by
  have nl : l.Nodup := hl.imp fun {a b} h => by omega
  have nm : m.Nodup := hm.imp fun {a b} h => by omega
  refine List.Perm.eq_of_pairwise (le := fun a b : Int => a < b) (fun a b _ _ h1 h2 => ?_) hl hm ((List.perm_ext_iff_of_nodup nl nm).mpr h)
  omega
theorem asc_strict {l : List Int} (h : l.Pairwise (· ≤ ·)) (nd : l.Nodup) : l.Pairwise (· < ·) :=
  List.Pairwise.imp₂ (fun a b h1 h2 => by omega) h nd
end Vf

namespace Vf
/-! ## sets of facts that tell a fact -/
/-- the set c of facts that R fits tells p -/
def tB (fs : List (Int × Int)) (R : Int) (p : Int × Int) (c : Nat) : Bool := decide ((lcmAll (subF fs fs.length c) : Int) % p.2 = 0) && decide ((R - p.1) % p.2 = 0)
theorem sub_pos {fs : List (Int × Int)} (hf : ∀ p ∈ fs, Fact p) (c : Nat) : 0 < lcmAll (subF fs fs.length c) := lcmAll_pos _ 1 (fun p hp => hf p (subF_mem (Nat.le_refl _) hp)) (by decide)
theorem sub_fits {fs : List (Int × Int)} {R : Int} (h : Fits R fs) (c : Nat) : Fits R (subF fs fs.length c) := fun p hp => h p (subF_mem (Nat.le_refl _) hp)
theorem tB_made {fs : List (Int × Int)} (hf : ∀ p ∈ fs, Fact p) {R S : Int} (h : Fits R fs) {p : Int × Int} {c : Nat} (jn : Jn (subF fs fs.length c) S) :
    (decide ((lcmAll (subF fs fs.length c) : Int) % p.2 = 0) && decide ((S - p.1) % p.2 = 0)) = tB fs R p c := by
  unfold tB
  have e : R % (lcmAll (subF fs fs.length c) : Int) = S := (jn.2.2 R).mp (sub_fits h c)
  by_cases d : (lcmAll (subF fs fs.length c) : Int) % p.2 = 0
  · rw [decide_eq_true d, Bool.true_and, Bool.true_and]
    have dv : p.2 ∣ (lcmAll (subF fs fs.length c) : Int) := Int.dvd_of_emod_eq_zero d
    have e2 : (S - p.1) % p.2 = (R - p.1) % p.2 := by
      rw [← e]
      have e3 : R % (lcmAll (subF fs fs.length c) : Int) % p.2 = R % p.2 := Int.emod_emod_of_dvd R dv
      rw [Int.sub_emod, e3, ← Int.sub_emod]
    rw [e2]
  · rw [decide_eq_false d, Bool.false_and, Bool.false_and]
/-- more facts tell more -/
theorem lcm_sub_dvd {fs : List (Int × Int)} {a b : Nat} (h : ∀ i, i < fs.length → a.testBit i = true → b.testBit i = true) : lcmAll (subF fs fs.length a) ∣ lcmAll (subF fs fs.length b) := by
  refine lcmAll_dvd _ 1 _ (Nat.one_dvd _) fun p hp => ?_
  obtain ⟨i, hi, rfl⟩ := List.mem_map.mp hp
  obtain ⟨h1, h2⟩ := mem_bitsL.mp hi
  exact (dvd_lcmAll (subF fs fs.length b) 1).2 _ (List.mem_map.mpr ⟨i, mem_bitsL.mpr ⟨h1, h _ h1 h2⟩, rfl⟩)
theorem tB_mono {fs : List (Int × Int)} {R : Int} {p : Int × Int} {a b : Nat} (h : ∀ i, i < fs.length → a.testBit i = true → b.testBit i = true) (t : tB fs R p a = true) : tB fs R p b = true := by
  unfold tB at *
  rw [Bool.and_eq_true, decide_eq_true_eq, decide_eq_true_eq] at *
  exact ⟨Int.emod_eq_zero_of_dvd (Int.dvd_trans (Int.dvd_of_emod_eq_zero t.1) (Int.natCast_dvd_natCast.mpr (lcm_sub_dvd h))), t.2⟩
/-- told by looking at all numbers of a round -/
theorem tB_iff {fs : List (Int × Int)} (hf : ∀ p ∈ fs, Fact p) {R : Int} (h : Fits R fs) {p : Int × Int} (hp : Fact p) (c : Nat) :
    tB fs R p c = true ↔ ∀ x : Int, 0 ≤ x → x < (Nat.lcm (lcmAll (subF fs fs.length c)) p.2.natAbs : Nat) → Fits x (subF fs fs.length c) → x % p.2 = p.1 := by
  obtain ⟨f1, f2, f3, f4⟩ := hp
  have l0 := sub_pos hf c
  have hs := sub_fits h c
  have mo : ∀ p ∈ subF fs fs.length c, Fact p := fun p hp => hf p (subF_mem (Nat.le_refl _) hp)
  have jn := Jn.of_fits (R := 0) mo hs
  have pn : (p.2.natAbs : Int) = p.2 := by omega
  have jf := jn.2.2
  clear jn
  unfold tB
  rw [Bool.and_eq_true, decide_eq_true_eq, decide_eq_true_eq]
  constructor
  · rintro ⟨d, e⟩ x x0 x1 hx
    have dv : p.2 ∣ (lcmAll (subF fs fs.length c) : Int) := Int.dvd_of_emod_eq_zero d
    have e1 : x % (lcmAll (subF fs fs.length c) : Int) = R % (lcmAll (subF fs fs.length c) : Int) := (jf x).mp hx
    have e2 : x % p.2 = R % p.2 := by rw [← Int.emod_emod_of_dvd x dv, e1, Int.emod_emod_of_dvd R dv]
    rw [e2, Int.emod_eq_emod_iff_emod_sub_eq_zero.mpr e, Int.emod_eq_of_lt f3 f4]
  · intro hx
    generalize hm : lcmAll (subF fs fs.length c) = m at *
    have lp : 0 < Nat.lcm m p.2.natAbs := Nat.lcm_pos l0 (by omega)
    have all : ∀ x : Int, Fits x (subF fs fs.length c) → x % p.2 = p.1 := fun x fx => by
      have g0 := Int.emod_nonneg x (show ((Nat.lcm m p.2.natAbs : Nat) : Int) ≠ 0 by omega)
      have g1 := Int.emod_lt_of_pos x (show 0 < ((Nat.lcm m p.2.natAbs : Nat) : Int) by omega)
      have d1 : (m : Int) ∣ ((Nat.lcm m p.2.natAbs : Nat) : Int) := Int.natCast_dvd_natCast.mpr (Nat.dvd_lcm_left _ _)
      have d2 : p.2 ∣ ((Nat.lcm m p.2.natAbs : Nat) : Int) := by
        have := Int.natCast_dvd_natCast.mpr (Nat.dvd_lcm_right m p.2.natAbs)
        rw [pn] at this
        exact this
      have z := hx (x % ((Nat.lcm m p.2.natAbs : Nat) : Int)) g0 g1 ((jf _).mpr (by rw [Int.emod_emod_of_dvd x d1]; exact (jf x).mp fx))
      rw [Int.emod_emod_of_dvd x d2] at z
      exact z
    have a1 := all R hs
    have a2 := all (R + m) ((jf _).mpr (by rw [Int.add_emod_right]))
    refine ⟨?_, ?_⟩
    · have z := Int.emod_eq_emod_iff_emod_sub_eq_zero.mp (a2.trans a1.symm)
      rw [show R + (m : Int) - R = m by omega] at z
      exact z
    · refine Int.emod_eq_emod_iff_emod_sub_eq_zero.mp ?_
      rw [a1, Int.emod_eq_of_lt f3 f4]
end Vf

namespace Vf
/-! ## least sets -/
theorem drop_bit {c i : Nat} (h : c.testBit i = true) (j : Nat) : (c - 2 ^ i).testBit j = (c.testBit j && decide (j ≠ i)) := by
  have le : 2 ^ i ≤ c := Nat.ge_two_pow_of_testBit h
  have f : (c - 2 ^ i).testBit i = false := by
    rw [Nat.testBit_eq_decide_div_mod_eq] at h ⊢
    have h1 := of_decide_eq_true h
    have e : (c - 2 ^ i) / 2 ^ i = c / 2 ^ i - 1 := by
      have := Nat.sub_mul_div c (2 ^ i) 1
      rw [Nat.mul_one] at this
      exact this
    rw [e]
    exact decide_eq_false (by omega)
  have m := testBit_more (a := c - 2 ^ i) (i := i) (j := j) f
  rw [show 2 ^ i + (c - 2 ^ i) = c by omega] at m
  rw [m]
  by_cases e : i = j
  · subst e
    rw [f]
    simp
  · rw [decide_eq_false e, Bool.or_false, decide_eq_true (Ne.symm e), Bool.and_true]
/-- a telling set holds a least one -/
theorem least_ex {n : Nat} {hB : Nat → Bool} : ∀ c : Nat, c < 2 ^ n → hB c = true → ∃ m, m < 2 ^ n ∧ (∀ i, m.testBit i = true → c.testBit i = true) ∧ hB m = true ∧ ∀ i ∈ bitsL n m, hB (m - 2 ^ i) = false := by
  intro c
  induction c using Nat.strongRecOn with
  | ind c ih =>
    intro hc h
    by_cases z : ∀ i ∈ bitsL n c, hB (c - 2 ^ i) = false
    · exact ⟨c, hc, fun _ h => h, h, z⟩
    · obtain ⟨i, hi⟩ := Classical.not_forall.mp z
      obtain ⟨hi, hq⟩ := Classical.not_imp.mp hi
      have hq : hB (c - 2 ^ i) = true := by
        cases hh : hB (c - 2 ^ i) with
        | true => rfl
        | false => exact absurd hh hq
      obtain ⟨_, ht⟩ := mem_bitsL.mp hi
      have le : 2 ^ i ≤ c := Nat.ge_two_pow_of_testBit ht
      have p0 := Nat.two_pow_pos i
      obtain ⟨m, h1, h2, h3⟩ := ih (c - 2 ^ i) (by omega) (by omega) hq
      refine ⟨m, h1, fun j hj => ?_, h3⟩
      have := h2 j hj
      rw [drop_bit ht, Bool.and_eq_true] at this
      exact this.1
/-- a least set is in no other -/
theorem least_no {n : Nat} {hB : Nat → Bool} (mono : ∀ a b, (∀ i, i < n → a.testBit i = true → b.testBit i = true) → hB a = true → hB b = true) {c m : Nat} (hc : c < 2 ^ n) (hm : m < 2 ^ n) (s : ∀ i, i < n → m.testBit i = true → c.testBit i = true) (t : hB m = true)
    (l : ∀ i ∈ bitsL n c, hB (c - 2 ^ i) = false) : m = c := by
  refine Classical.byContradiction fun ne => ?_
  have ex : ∃ i, i < n ∧ c.testBit i = true ∧ m.testBit i = false := by
    refine Classical.byContradiction fun z => ne ?_
    refine Nat.eq_of_testBit_eq fun i => ?_
    by_cases hi : i < n
    · cases h1 : c.testBit i with
      | true =>
        cases h2 : m.testBit i with
        | true => rfl
        | false => exact absurd ⟨i, hi, h1, h2⟩ z
      | false =>
        cases h2 : m.testBit i with
        | false => rfl
        | true => rw [s i hi h2] at h1; cases h1
    · have p : 2 ^ n ≤ 2 ^ i := Nat.pow_le_pow_right (by decide) (by omega)
      rw [Nat.testBit_lt_two_pow (by omega), Nat.testBit_lt_two_pow (by omega)]
  obtain ⟨i, h1, h2, h3⟩ := ex
  have z := l i (mem_bitsL.mpr ⟨h1, h2⟩)
  rw [mono m (c - 2 ^ i) (fun j hj hb => ?_) t] at z
  · cases z
  · rw [drop_bit h2, s j hj hb, Bool.true_and]
    exact decide_eq_true fun e => by
      rw [e, h3] at hb
      cases hb
end Vf

namespace Vf
/-! ## tables of rests, by their differences -/
/-- how many ways to choose k of x -/
def bin : Nat → Nat → Nat
  | _, 0 => 1
  | 0, _ + 1 => 0
  | x + 1, k + 1 => bin x k + bin x (k + 1)
def fac : Nat → Nat
  | 0 => 1
  | n + 1 => (n + 1) * fac n
theorem fac_pos : ∀ n, 0 < fac n
  | 0 => Nat.one_pos
  | n + 1 => Nat.mul_pos (Nat.succ_pos n) (fac_pos n)
theorem bin_zero (x : Nat) : bin x 0 = 1 := by cases x <;> rfl
theorem bin_step (x k : Nat) : bin (x + 1) (k + 1) = bin x k + bin x (k + 1) := rfl
theorem bin_next : ∀ (x k : Nat), ((k : Int) + 1) * (bin x (k + 1) : Int) = ((x : Int) - k) * (bin x k : Int)
  | 0, 0 => by simp [bin]
  | 0, k + 1 => by simp [bin]
  | x + 1, 0 => by
    have h := bin_next x 0
    rw [bin_zero] at h
    rw [bin_step, bin_zero, bin_zero]
    push_cast at *
    grind
  | x + 1, k + 1 => by
    have h1 := bin_next x k
    have h2 := bin_next x (k + 1)
    rw [bin_step, bin_step]
    push_cast at *
    grind
/-- x * (x - 1) * .., k of them, from x - j on -/
def ffj : Int → Nat → Int → Int
  | _, 0, _ => 1
  | j, k + 1, x => (x - j) * ffj (j + 1) k x
theorem ffj_last : ∀ (j : Int) (k : Nat) (x : Int), ffj j (k + 1) x = ffj j k x * (x - j - k)
  | j, 0, x => by simp [ffj]
  | j, k + 1, x => by
    rw [ffj, ffj_last (j + 1) k x, ffj]
    have : ((k + 1 : Nat) : Int) = (k : Int) + 1 := rfl
    rw [this]
    grind
theorem ff_bin (x : Nat) : ∀ k : Nat, ffj 0 k (x : Int) = (fac k : Int) * (bin x k : Int)
  | 0 => by rw [bin_zero]; rfl
  | k + 1 => by
    rw [ffj_last, ff_bin x k, Int.sub_zero]
    have h := bin_next x k
    have e : ((fac (k + 1) : Nat) : Int) = ((k : Int) + 1) * (fac k : Int) := by
      show (((k + 1) * fac k : Nat) : Int) = _
      push_cast
      rfl
    rw [e]
    grind
theorem nval_snoc : ∀ (p : List Int) (c j x : Int), nval (p ++ [c]) j x = nval p j x + c * ffj j p.length x
  | [], c, j, x => by simp [nval, ffj]
  | a :: p, c, j, x => by
    rw [List.cons_append, nval, nval_snoc p c (j + 1) x, nval, List.length_cons, ffj]
    grind
/-- a sum over the ways to choose -/
def nw (G : Nat → Int) : Nat → Nat → Int
  | 0, _ => 0
  | m + 1, x => nw G m x + G m * (bin x m : Int)
theorem nw_zero (G : Nat → Int) : ∀ m, 0 < m → nw G m 0 = G 0
  | 1, _ => by simp [nw, bin]
  | m + 2, _ => by
    rw [nw, nw_zero G (m + 1) (by omega)]
    simp [bin]
theorem nw_step (G : Nat → Int) (x : Nat) : ∀ m, nw G (m + 1) (x + 1) = nw G (m + 1) x + nw (fun k => G (k + 1)) m x
  | 0 => by simp [nw, bin_zero]
  | m + 1 => by
    rw [nw, nw_step G x m, nw.eq_def G (m + 1 + 1) x]
    simp only [nw]
    rw [bin_step]
    push_cast
    grind
theorem nw_sub (F G : Nat → Int) (x : Nat) : ∀ m, nw (fun k => F k - G k) m x = nw F m x - nw G m x
  | 0 => rfl
  | m + 1 => by
    simp only [nw, nw_sub F G x m]
    grind
theorem nw_dvd {n : Int} {G : Nat → Int} {x : Nat} : ∀ {m : Nat}, (∀ k < m, n ∣ G k) → n ∣ nw G m x
  | 0, _ => Int.dvd_zero n
  | m + 1, h => by
    rw [nw]
    exact Int.dvd_add (nw_dvd fun k hk => h k (by omega)) (Int.dvd_trans (h m (by omega)) (Int.dvd_mul_right ..))
/-- nothing but multiples of n -/
theorem nw_none {n : Int} : ∀ (m : Nat) (G : Nat → Int), (∀ x < m, n ∣ nw G m x) → ∀ k < m, n ∣ G k
  | 0, _, _, k, hk => absurd hk (by omega)
  | m + 1, G, h, k, hk => by
    cases k with
    | zero =>
      have := h 0 (by omega)
      rwa [nw_zero G (m + 1) (by omega)] at this
    | succ k =>
      refine nw_none m (fun k => G (k + 1)) (fun x hx => ?_) k (by omega)
      have h1 := h x (by omega)
      have h2 := h (x + 1) (by omega)
      rw [nw_step] at h2
      have := Int.dvd_sub h2 h1
      rwa [show nw G (m + 1) x + nw (fun k => G (k + 1)) m x - nw G (m + 1) x = nw (fun k => G (k + 1)) m x by omega] at this
theorem getD_at {s : List Int} {i : Nat} {c : Int} (h : s[i]? = some c) : s.getD i 0 = c := by
  rw [List.getD_eq_getElem?_getD, h]
  rfl
/-- a sum by its steps, at a number from 0 on -/
theorem nval_nw (s : List Int) (x : Nat) : ∀ m, nval (s.take m) 0 (x : Int) = nw (fun k => s.getD k 0 * (fac k : Int)) m x
  | 0 => rfl
  | m + 1 => by
    rw [nw, ← nval_nw s x m]
    by_cases h : m < s.length
    · have e := List.getElem?_eq_getElem h
      have el : (s.take m).length = m := by rw [List.length_take]; omega
      rw [take_nx e, nval_snoc, el, ff_bin, getD_at e, Int.mul_assoc]
    · rw [List.take_of_length_le (by omega), List.take_of_length_le (by omega), getD_out (by omega)]
      simp
theorem nval_nwl (s : List Int) (x m : Nat) (h : s.length ≤ m) : nval s 0 (x : Int) = nw (fun k => s.getD k 0 * (fac k : Int)) m x := by
  rw [← nval_nw, List.take_of_length_le h]
/-- the next row of differences, by n -/
def drow (n : Int) (r : List Int) : List Int := (List.range (r.length - 1)).map fun i => (r.getD (i + 1) 0 - r.getD i 0) % n
theorem drow_len (n : Int) (r : List Int) : (drow n r).length = r.length - 1 := by simp [drow]
theorem drow_at (n : Int) (r : List Int) {i : Nat} (h : i < r.length - 1) : (drow n r).getD i 0 = (r.getD (i + 1) 0 - r.getD i 0) % n := by
  rw [List.getD_eq_getElem?_getD]
  unfold drow
  rw [List.getElem?_map, List.getElem?_range h]
  rfl
/-- the firsts of a row, of its differences, and so on -/
def firsts (n : Int) : Nat → List Int → List Int
  | 0, _ => []
  | m + 1, r => r.getD 0 0 :: firsts n m (drow n r)
theorem firsts_len (n : Int) : ∀ (m : Nat) (r : List Int), (firsts n m r).length = m
  | 0, _ => rfl
  | m + 1, r => by rw [firsts, List.length_cons, firsts_len n m]
theorem sub_mod (n a : Int) : n ∣ a % n - a := ⟨-(a / n), by
  have := Int.mul_ediv_add_emod a n
  grind⟩
theorem firsts_nw (n : Int) : ∀ (m : Nat) (r : List Int), r.length = m → ∀ x < m, n ∣ nw (fun k => (firsts n m r).getD k 0) m x - r.getD x 0
  | 0, _, _, x, hx => absurd hx (by omega)
  | m + 1, r, hl, 0, hx => by
    rw [nw_zero _ (m + 1) (by omega)]
    show n ∣ r.getD 0 0 - r.getD 0 0
    rw [Int.sub_self]
    exact Int.dvd_zero n
  | m + 1, r, hl, x + 1, hx => by
    have h1 := firsts_nw n (m + 1) r hl x (by omega)
    have h2 := firsts_nw n m (drow n r) (by rw [drow_len]; omega) x (by omega)
    rw [drow_at n r (by omega)] at h2
    have h3 := sub_mod n (r.getD (x + 1) 0 - r.getD x 0)
    rw [nw_step]
    have h4 := Int.dvd_add (Int.dvd_add h1 h2) h3
    have e : nw (fun k => (firsts n (m + 1) r).getD (k + 1) 0) m x = nw (fun k => (firsts n m (drow n r)).getD k 0) m x := rfl
    rw [e]
    have e2 : nw (fun k => (firsts n (m + 1) r).getD k 0) (m + 1) x - r.getD x 0 + (nw (fun k => (firsts n m (drow n r)).getD k 0) m x - (r.getD (x + 1) 0 - r.getD x 0) % n) + ((r.getD (x + 1) 0 - r.getD x 0) % n - (r.getD (x + 1) 0 - r.getD x 0)) = nw (fun k => (firsts n (m + 1) r).getD k 0) (m + 1) x + nw (fun k => (firsts n m (drow n r)).getD k 0) m x - r.getD (x + 1) 0 := by omega
    rw [e2] at h4
    exact h4
def gk (n k : Nat) : Nat := Nat.gcd n (fac k)
def sz (n k : Nat) : Nat := n / gk n k
theorem gk_pos {n : Nat} (k : Nat) (hn : 0 < n) : 0 < gk n k := Nat.gcd_pos_of_pos_left _ hn
theorem sz_mul (n k : Nat) : sz n k * gk n k = n := Nat.div_mul_cancel (Nat.gcd_dvd_left _ _)
theorem sz_pos {n : Nat} (k : Nat) (hn : 0 < n) : 0 < sz n k := by
  have h := sz_mul n k
  rcases Nat.eq_zero_or_pos (sz n k) with z | z
  · rw [z, Nat.zero_mul] at h; omega
  · exact z
/-- the multiples: a step times its size is nothing by n -/
theorem sz_fac (n k : Nat) : (n : Int) ∣ (sz n k : Int) * (fac k : Int) := by
  obtain ⟨c, hc⟩ := Nat.gcd_dvd_right n (fac k)
  refine ⟨(c : Int), ?_⟩
  have h := sz_mul n k
  have e : fac k = gk n k * c := hc
  rw [e, ← Int.natCast_mul, ← Int.natCast_mul, ← Nat.mul_assoc, h]
theorem uniq_step {n k : Nat} (hn : 0 < n) {a b : Int} (ha : 0 ≤ a ∧ a < sz n k) (hb : 0 ≤ b ∧ b < sz n k) (h : (n : Int) ∣ (a - b) * (fac k : Int)) : a = b := by
  have hg := gk_pos k hn
  have h1 : n ∣ (a - b).natAbs * fac k := by
    have := Int.natAbs_dvd_natAbs.mpr h
    rwa [Int.natAbs_mul, Int.natAbs_natCast, Int.natAbs_natCast] at this
  obtain ⟨c, hc⟩ := Nat.gcd_dvd_right n (fac k)
  have e : fac k = gk n k * c := hc
  have h2 : sz n k ∣ (a - b).natAbs * c := by
    obtain ⟨d, hd⟩ := h1
    refine ⟨d, Nat.eq_of_mul_eq_mul_left hg ?_⟩
    have h3 := sz_mul n k
    calc gk n k * ((a - b).natAbs * c) = (a - b).natAbs * (gk n k * c) := by grind
      _ = (a - b).natAbs * fac k := by rw [e]
      _ = n * d := hd
      _ = gk n k * (sz n k * d) := by rw [← Nat.mul_assoc, Nat.mul_comm (gk n k), h3]
  have hco : Nat.Coprime (sz n k) c := by
    have := Nat.coprime_div_gcd_div_gcd (m := n) (n := fac k) hg
    have e2 : fac k / Nat.gcd n (fac k) = c := Nat.div_eq_of_eq_mul_right hg e
    rw [e2] at this
    exact this
  have h4 : sz n k ∣ (a - b).natAbs := hco.dvd_of_dvd_mul_right h2
  have h5 : (a - b).natAbs < sz n k := by omega
  have := Nat.eq_zero_of_dvd_of_lt h4 h5
  omega
/-- the steps of a table, within their sizes -/
structure Good (n : Nat) (v f : List Int) : Prop where
  len : f.length = n
  b : ∀ k < n, 0 ≤ f.getD k 0 ∧ f.getD k 0 < sz n k
  v : ∀ x < n, (n : Int) ∣ nval f 0 (x : Int) - v.getD x 0
theorem steps_firsts {n : Nat} {v s : List Int} (hv : v.length = n) (hs : ∀ x < n, (n : Int) ∣ nval s 0 (x : Int) - v.getD x 0) : ∀ k < n, (n : Int) ∣ s.getD k 0 * (fac k : Int) - (firsts n n v).getD k 0 := by
  refine nw_none (n := (n : Int)) n (fun k => s.getD k 0 * (fac k : Int) - (firsts n n v).getD k 0) fun x hx => ?_
  have h1 := hs x hx
  have h2 := firsts_nw n n v hv x hx
  have h3 : nval s 0 (x : Int) = nw (fun k => s.getD k 0 * (fac k : Int)) n x := by
    rcases Nat.le_total s.length n with c | c
    · exact nval_nwl s x n c
    · rw [nval_nwl s x s.length (Nat.le_refl _)]
      -- beyond x nothing is chosen
      have z : ∀ (G : Nat → Int) (m : Nat), x < m → ∀ d, nw G (m + d) x = nw G m x := by
        intro G m hm d
        induction d with
        | zero => rfl
        | succ d ih =>
          rw [← Nat.add_assoc, nw, ih]
          have : bin x (m + d) = 0 := by
            have zz : ∀ (y k : Nat), y < k → bin y k = 0 := by
              intro y
              induction y with
              | zero => intro k hk; cases k with
                | zero => omega
                | succ k => rfl
              | succ y ih => intro k hk; cases k with
                | zero => omega
                | succ k => rw [bin_step, ih k (by omega), ih (k + 1) (by omega)]
            exact zz x (m + d) (by omega)
          rw [this]
          simp
      have := z (fun k => s.getD k 0 * (fac k : Int)) n hx (s.length - n)
      rw [show n + (s.length - n) = s.length by omega] at this
      exact this
  rw [h3] at h1
  rw [nw_sub]
  have := Int.dvd_sub h1 h2
  rwa [show nw (fun k => s.getD k 0 * (fac k : Int)) n x - v.getD x 0 - (nw (fun k => (firsts n n v).getD k 0) n x - v.getD x 0) = nw (fun k => s.getD k 0 * (fac k : Int)) n x - nw (fun k => (firsts n n v).getD k 0) n x by omega] at this
theorem firsts_steps {n : Nat} {v f : List Int} (hv : v.length = n) (hl : f.length = n) (h : ∀ k < n, (n : Int) ∣ f.getD k 0 * (fac k : Int) - (firsts n n v).getD k 0) : ∀ x < n, (n : Int) ∣ nval f 0 (x : Int) - v.getD x 0 := by
  intro x hx
  have h2 := firsts_nw n n v hv x hx
  rw [nval_nwl f x n (by omega)]
  have h3 := nw_dvd (x := x) h
  rw [nw_sub] at h3
  have := Int.dvd_add h3 h2
  rwa [show nw (fun k => f.getD k 0 * (fac k : Int)) n x - nw (fun k => (firsts n n v).getD k 0) n x + (nw (fun k => (firsts n n v).getD k 0) n x - v.getD x 0) = nw (fun k => f.getD k 0 * (fac k : Int)) n x - v.getD x 0 by omega] at this
/-- a step is the one that the table's steps ask for -/
theorem Good.step {n : Nat} {v f : List Int} (g : Good n v f) (hv : v.length = n) {s : List Int} (hs : ∀ x < n, (n : Int) ∣ nval s 0 (x : Int) - v.getD x 0) {k : Nat} (hk : k < n) (hb : 0 ≤ s.getD k 0 ∧ s.getD k 0 < sz n k) : s.getD k 0 = f.getD k 0 := by
  have h1 := steps_firsts hv hs k hk
  have h2 := steps_firsts hv g.v k hk
  refine uniq_step (by omega) hb (g.b k hk) ?_
  have := Int.dvd_sub h1 h2
  rwa [show s.getD k 0 * (fac k : Int) - (firsts n n v).getD k 0 - (f.getD k 0 * (fac k : Int) - (firsts n n v).getD k 0) = (s.getD k 0 - f.getD k 0) * (fac k : Int) by grind] at this
/-- the product of 1, 2, .. by n, as the program takes it on -/
def pf (n : Nat) : Nat → Int
  | 0 => 1
  | i + 1 => (fac i : Int) % (n : Int)
theorem pf_next (n i : Nat) : pf n i * max (i : Int) 1 % (n : Int) = pf n (i + 1) := by
  cases i with
  | zero => rfl
  | succ i =>
    show (fac i : Int) % (n : Int) * max ((i + 1 : Nat) : Int) 1 % (n : Int) = ((fac (i + 1) : Nat) : Int) % (n : Int)
    have e : ((fac (i + 1) : Nat) : Int) = ((i + 1 : Nat) : Int) * (fac i : Int) := by
      show (((i + 1) * fac i : Nat) : Int) = _
      push_cast
      rfl
    rw [e, show max ((i + 1 : Nat) : Int) 1 = ((i + 1 : Nat) : Int) by omega, Int.mul_comm ((i + 1 : Nat) : Int), Int.mul_emod, Int.emod_emod, ← Int.mul_emod]
theorem gcd_pf (n i : Nat) : Nat.gcd (n : Int).natAbs (pf n (i + 1)).natAbs = gk n i := by
  show Nat.gcd n ((fac i : Int) % (n : Int)).natAbs = Nat.gcd n (fac i)
  rw [← Int.natCast_emod, Int.natAbs_natCast, Nat.gcd_comm, ← Nat.gcd_rec]
theorem pf_nat (n i : Nat) : pf n (i + 1) = ((fac i % n : Nat) : Int) := by
  show (fac i : Int) % (n : Int) = _
  rw [Int.natCast_emod]
theorem pf_small {n i : Nat} (hn : 0 < n) : 0 ≤ pf n (i + 1) ∧ pf n (i + 1) < n := by
  rw [pf_nat]
  have := Nat.mod_lt (fac i) hn
  omega
/-- the step that the program reckons -/
theorem step_ok {n i : Nat} (hn : 0 < n) {F u w : Int} (hF : F % (gk n i : Int) = 0) (hu : u * (pf n (i + 1) / (gk n i : Int)) = 1 + (sz n i : Int) * w) :
    (n : Int) ∣ (F / (gk n i : Int) * (u % (sz n i : Int)) % (sz n i : Int)) * (fac i : Int) - F := by
  have hg : (0 : Int) < (gk n i : Int) := by have := gk_pos i hn; omega
  obtain ⟨F', rfl⟩ := Int.dvd_of_emod_eq_zero hF
  rw [Int.mul_ediv_cancel_left _ (by omega)]
  have hpd : (gk n i : Int) ∣ pf n (i + 1) := by
    rw [← gcd_pf n i]
    have := Int.natCast_dvd_natCast.mpr (Nat.gcd_dvd_right (n : Int).natAbs (pf n (i + 1)).natAbs)
    exact Int.dvd_natAbs.mp this
  obtain ⟨p', hp⟩ := hpd
  rw [hp, Int.mul_ediv_cancel_left _ (by omega)] at hu
  have h1 : (n : Int) ∣ pf n (i + 1) - (fac i : Int) := sub_mod _ _
  have h2 : (sz n i : Int) * (gk n i : Int) = (n : Int) := by
    rw [← Int.natCast_mul, sz_mul]
  obtain ⟨z1, hz1⟩ : ∃ z, u % (sz n i : Int) = u + (sz n i : Int) * z := ⟨-(u / (sz n i : Int)), by have := Int.mul_ediv_add_emod u (sz n i : Int); grind⟩
  obtain ⟨z2, hz2⟩ : ∃ z, F' * (u % (sz n i : Int)) % (sz n i : Int) = F' * (u % (sz n i : Int)) + (sz n i : Int) * z := ⟨-(F' * (u % (sz n i : Int)) / (sz n i : Int)), by have := Int.mul_ediv_add_emod (F' * (u % (sz n i : Int))) (sz n i : Int); grind⟩
  obtain ⟨z3, hz3⟩ := h1
  rw [hz2, hz1]
  -- all by the product
  have hf : (fac i : Int) = (gk n i : Int) * p' - (n : Int) * z3 := by omega
  refine ⟨F' * w + (F' * z1 + z2) * p' - (F' * (u + (sz n i : Int) * z1) + (sz n i : Int) * z2) * z3, ?_⟩
  rw [hf, ← h2]
  have e1 : u * p' = 1 + (sz n i : Int) * w := hu
  have e2 : F' * u * (gk n i : Int) * p' = F' * (gk n i : Int) * (1 + (sz n i : Int) * w) := by rw [← e1]; grind
  grind
theorem cop_pf {n i : Nat} (hn : 0 < n) : Nat.gcd (pf n (i + 1) / (gk n i : Int)).natAbs (sz n i) = 1 := by
  rw [pf_nat, ← Int.natCast_ediv, Int.natAbs_natCast]
  have e : gk n i = Nat.gcd n (fac i % n) := by
    show Nat.gcd n (fac i) = _
    rw [Nat.gcd_comm n (fac i % n), ← Nat.gcd_rec]
  unfold sz
  rw [e, Nat.gcd_comm]
  exact Nat.coprime_div_gcd_div_gcd (Nat.gcd_pos_of_pos_left _ hn)
theorem fac_primes : ∀ n ∈ [2, 3, 5, 7, 11], ∀ k < n, gk n k = 1 := by decide
theorem bin_more : ∀ (y k : Nat), y < k → bin y k = 0
  | 0, 0, h => by omega
  | 0, _ + 1, _ => rfl
  | _ + 1, 0, h => by omega
  | y + 1, k + 1, h => by rw [bin_step, bin_more y k (by omega), bin_more y (k + 1) (by omega)]
theorem bin_self : ∀ k : Nat, bin k k = 1
  | 0 => rfl
  | k + 1 => by rw [bin_step, bin_self k, bin_more k (k + 1) (by omega)]
theorem nw_low (G : Nat → Int) {x m : Nat} (hm : x < m) : ∀ d, nw G (m + d) x = nw G m x
  | 0 => rfl
  | d + 1 => by
    rw [← Nat.add_assoc, nw, nw_low G hm d, bin_more x (m + d) (by omega)]
    simp
theorem nval_low (s : List Int) {x m : Nat} (h : x < m) : nval s 0 (x : Int) = nw (fun k => s.getD k 0 * (fac k : Int)) m x := by
  rcases Nat.le_total s.length m with c | c
  · exact nval_nwl s x m c
  · rw [nval_nwl s x s.length (Nat.le_refl _)]
    have := nw_low (fun k => s.getD k 0 * (fac k : Int)) h (s.length - m)
    rwa [show m + (s.length - m) = s.length by omega] at this
/-- at a number, steps beyond it tell nothing -/
theorem nval_upto (s : List Int) {x m : Nat} (h : x < m) : nval (s.take m) 0 (x : Int) = nval s 0 (x : Int) := by
  rw [nval_nw, nval_low s h]
theorem steps_same {n : Int} {i : Nat} {s t : List Int} (h : ∀ x < i, n ∣ nval s 0 ((x : Nat) : Int) - nval t 0 (x : Int)) : ∀ k < i, n ∣ (s.getD k 0 - t.getD k 0) * (fac k : Int) := by
  intro k hk
  have := nw_none i (fun k => s.getD k 0 * (fac k : Int) - t.getD k 0 * (fac k : Int)) (fun x hx => by
    rw [nw_sub, ← nval_low s hx, ← nval_low t hx]
    exact h x hx) k hk
  rwa [← Int.sub_mul] at this
theorem dvd_fac : ∀ {n : Nat}, 0 < n → n ∣ fac n
  | n + 1, _ => ⟨fac n, rfl⟩
theorem fac_dvd : ∀ {k m : Nat}, k ≤ m → fac k ∣ fac m
  | k, 0, h => by
    have : k = 0 := by omega
    subst this
    exact Nat.dvd_refl _
  | k, m + 1, h => by
    by_cases c : k = m + 1
    · subst c; exact Nat.dvd_refl _
    · exact Nat.dvd_trans (fac_dvd (show k ≤ m by omega)) (Nat.dvd_mul_left _ _)
theorem sz_one {n k : Nat} (hn : 0 < n) : sz n k = 1 ↔ n ∣ fac k := by
  constructor
  · intro h
    have := sz_mul n k
    rw [h, Nat.one_mul] at this
    rw [← this]
    exact Nat.gcd_dvd_right _ _
  · intro h
    unfold sz gk
    rw [Nat.gcd_eq_left h]
    exact Nat.div_self hn
theorem sz_self {n : Nat} (hn : 0 < n) : sz n n = 1 := (sz_one hn).mpr (dvd_fac hn)
theorem sz_up {n k m : Nat} (hn : 0 < n) (h : sz n k = 1) (hk : k ≤ m) : sz n m = 1 := (sz_one hn).mpr (Nat.dvd_trans ((sz_one hn).mp h) (fac_dvd hk))
theorem fac_le : ∀ i < 13, fac i ≤ 479001600 := by decide
theorem ff_self (i : Nat) : ffj 0 i (i : Int) = (fac i : Int) := by
  rw [ff_bin, bin_self]
  simp
theorem ff_more {x i : Nat} (h : x < i) : ffj 0 i (x : Int) = 0 := by
  rw [ff_bin, bin_more x i h]
  simp
/-- the table of a sum -/
def tabOf (p : List Int) (n : Nat) : List Int := (List.range n).map fun x : Nat => pval p (x : Int) % (n : Int)
theorem tabOf_len (p : List Int) (n : Nat) : (tabOf p n).length = n := by simp [tabOf]
theorem tabOf_at (p : List Int) {n x : Nat} (h : x < n) : (tabOf p n).getD x 0 = pval p (x : Int) % (n : Int) := by
  rw [List.getD_eq_getElem?_getD]
  unfold tabOf
  rw [List.getElem?_map, List.getElem?_range h]
  rfl
theorem tabOf_snoc (p : List Int) (n i : Nat) : (List.range (i + 1)).map (fun x => pval p ((x : Nat) : Int) % (n : Int)) = (List.range i).map (fun x => pval p ((x : Nat) : Int) % (n : Int)) ++ [pval p (i : Int) % (n : Int)] := by
  rw [List.range_succ, List.map_append]
  rfl
/-- the least form of a sum tells its table's steps -/
theorem form_good {n : Nat} (hn : 0 < n) {p t h f : List Int} (g : Good n (tabOf p n) f) (ht : ∀ x : Int, nval t 0 x = pval p x) (lt : h.length = t.length) (hh : ∀ k < t.length, h.getD k 0 = t.getD k 0 % (sz n k : Int)) : ∀ k, h.getD k 0 = f.getD k 0 := by
  have hs : ∀ x < n, (n : Int) ∣ nval h 0 (x : Int) - (tabOf p n).getD x 0 := by
    intro x hx
    rw [tabOf_at p hx, ← ht, nval_nwl h x t.length (by omega), nval_nwl t x t.length (Nat.le_refl _)]
    have h1 : (n : Int) ∣ nw (fun k => h.getD k 0 * (fac k : Int) - t.getD k 0 * (fac k : Int)) t.length x := nw_dvd fun k hk => by
      rw [hh k hk, ← Int.sub_mul]
      obtain ⟨z, hz⟩ := sub_mod (sz n k : Int) (t.getD k 0)
      rw [hz, Int.mul_assoc, Int.mul_left_comm]
      exact Int.dvd_mul_of_dvd_right (sz_fac n k)
    rw [nw_sub] at h1
    have h2 := sub_mod (n : Int) (nw (fun k => t.getD k 0 * (fac k : Int)) t.length x)
    have := Int.dvd_sub h1 h2
    rwa [show nw (fun k => h.getD k 0 * (fac k : Int)) t.length x - nw (fun k => t.getD k 0 * (fac k : Int)) t.length x - (nw (fun k => t.getD k 0 * (fac k : Int)) t.length x % (n : Int) - nw (fun k => t.getD k 0 * (fac k : Int)) t.length x) = nw (fun k => h.getD k 0 * (fac k : Int)) t.length x - nw (fun k => t.getD k 0 * (fac k : Int)) t.length x % (n : Int) by omega] at this
  have hb : ∀ k, 0 ≤ h.getD k 0 ∧ h.getD k 0 < sz n k := by
    intro k
    have zp := sz_pos k hn
    by_cases c : k < t.length
    · rw [hh k c]
      exact ⟨Int.emod_nonneg _ (by omega), Int.emod_lt_of_pos _ (by omega)⟩
    · rw [getD_out (by omega)]
      omega
  intro k
  by_cases c : k < n
  · exact g.step (tabOf_len p n) hs c (hb k)
  · have h1 := hb k
    rw [sz_up hn (sz_self hn) (by omega)] at h1
    rw [getD_out (p := f) (by rw [g.len]; omega)]
    omega
/-- equal but for 0s at the end -/
theorem pval_same : ∀ (a b : List Int), (∀ k, a.getD k 0 = b.getD k 0) → ∀ x, pval a x = pval b x
  | [], [], _, _ => rfl
  | [], b :: q, h, x => by
    have h0 : b = 0 := (h 0).symm
    have e : pval [] x = pval q x := pval_same [] q (fun k => h (k + 1)) x
    show 0 = b + x * pval q x
    rw [h0, ← e]
    simp [pval]
  | a :: p, [], h, x => by
    have h0 : a = 0 := h 0
    have e : pval p x = pval [] x := pval_same p [] (fun k => h (k + 1)) x
    show a + x * pval p x = 0
    rw [h0, e]
    simp [pval]
  | a :: p, b :: q, h, x => by
    have h0 : a = b := h 0
    rw [h0, pval, pval, pval_same p q (fun k => h (k + 1)) x]
theorem getD_take {s : List Int} {k i : Nat} (h : k < i) : (s.take i).getD k 0 = s.getD k 0 := by
  rw [List.getD_eq_getElem?_getD, List.getElem?_take_of_lt h, ← List.getD_eq_getElem?_getD]
end Vf

namespace Vf
/-! ## sums that turn the rests by a base -/
def Inj (F : Int → Int) (n : Nat) : Prop := ∀ x y : Int, (n : Int) ∣ F x - F y → (n : Int) ∣ x - y
theorem Dv.step {F G : Int → Int} (d : Dv F G) (x y : Int) : ∃ k, F x - F y = (x - y) * (G y + (x - y) * k) := by
  obtain ⟨k, e⟩ := d y (x - y)
  refine ⟨k, ?_⟩
  rw [show y + (x - y) = x by omega] at e
  rw [e]
  grind
theorem Dv.cong {F G : Int → Int} (d : Dv F G) {n x y : Int} (h : n ∣ x - y) : n ∣ F x - F y := by
  obtain ⟨k, e⟩ := d.step x y
  rw [e]
  exact Int.dvd_trans h (Int.dvd_mul_right ..)
theorem noinj : ∀ (n : Nat) (g : Nat → Nat), (∀ x < n + 1, g x < n) → (∀ x < n + 1, ∀ y < n + 1, g x = g y → x = y) → False
  | 0, g, h, _ => absurd (h 0 (by omega)) (by omega)
  | n + 1, g, h, hi => by
    have hv := h (n + 1) (by omega)
    refine noinj n (fun x => if g x > g (n + 1) then g x - 1 else g x) (fun x hx => ?_) (fun x hx y hy e => ?_)
    · have h1 := h x (by omega)
      have h2 : g x ≠ g (n + 1) := fun z => by have := hi x (by omega) (n + 1) (by omega) z; omega
      try dsimp only
      split <;> omega
    · have h2 : g x ≠ g (n + 1) := fun z => by have := hi x (by omega) (n + 1) (by omega) z; omega
      have h3 : g y ≠ g (n + 1) := fun z => by have := hi y (by omega) (n + 1) (by omega) z; omega
      try dsimp only at e
      refine hi x (by omega) y (by omega) ?_
      split at e <;> split at e <;> omega
theorem pig {n : Nat} {g : Nat → Nat} (h : ∀ x < n, g x < n) (hi : ∀ x < n, ∀ y < n, g x = g y → x = y) : ∀ r < n, ∃ x < n, g x = r := by
  intro r hr
  refine Classical.byContradiction fun no => ?_
  cases n with
  | zero => omega
  | succ n =>
    refine noinj n (fun x => if g x > r then g x - 1 else g x) (fun x hx => ?_) (fun x hx y hy e => ?_)
    · have h1 := h x hx
      have h2 : g x ≠ r := fun z => no ⟨x, hx, z⟩
      try dsimp only
      split <;> omega
    · have h2 : g x ≠ r := fun z => no ⟨x, hx, z⟩
      have h3 : g y ≠ r := fun z => no ⟨y, hy, z⟩
      try dsimp only at e
      refine hi x hx y hy ?_
      split at e <;> split at e <;> omega
theorem dvd_mod {n : Nat} (a b : Int) : (n : Int) ∣ a - b ↔ a % (n : Int) = b % (n : Int) :=
  ⟨fun h => Int.emod_eq_emod_iff_emod_sub_eq_zero.mpr (Int.emod_eq_zero_of_dvd h), fun h => Int.dvd_of_emod_eq_zero (Int.emod_eq_emod_iff_emod_sub_eq_zero.mp h)⟩
def rs (n : Nat) (x : Int) : Nat := (x % (n : Int)).toNat
theorem rs_eq {n : Nat} (n0 : 0 < n) (x : Int) : ((rs n x : Nat) : Int) = x % (n : Int) := Int.toNat_of_nonneg (Int.emod_nonneg _ (by omega))
theorem rs_lt {n : Nat} (n0 : 0 < n) (x : Int) : rs n x < n := by
  have h1 := rs_eq n0 x
  have h2 := Int.emod_lt_of_pos x (show (0 : Int) < (n : Int) by omega)
  omega
theorem rs_dvd {n : Nat} (n0 : 0 < n) (x y : Int) : (n : Int) ∣ x - y ↔ rs n x = rs n y := by
  rw [dvd_mod, ← rs_eq n0, ← rs_eq n0]
  omega
theorem rs_self {n : Nat} (n0 : 0 < n) (x : Int) : (n : Int) ∣ x - (rs n x : Nat) := by
  rw [rs_eq n0, dvd_mod, Int.emod_emod]
theorem small_eq {n x y : Nat} (hx : x < n) (hy : y < n) (h : (n : Int) ∣ (x : Int) - (y : Int)) : x = y := by
  rw [dvd_mod, Int.emod_eq_of_lt (by omega) (by omega), Int.emod_eq_of_lt (by omega) (by omega)] at h
  omega
theorem dvd_tr {n a b c : Int} (h1 : n ∣ a - b) (h2 : n ∣ b - c) : n ∣ a - c := by
  have := Int.dvd_add h1 h2
  rwa [show a - b + (b - c) = a - c by omega] at this
theorem dvd_sy {n a b : Int} (h1 : n ∣ a - b) : n ∣ b - a := by
  have := Int.dvd_neg.mpr h1
  rwa [show -(a - b) = b - a by omega] at this
theorem Inj.surj {F G : Int → Int} {n : Nat} (d : Dv F G) (n0 : 0 < n) (h : Inj F n) (r : Int) : ∃ x : Int, (n : Int) ∣ F x - r := by
  obtain ⟨x, hx, e⟩ := pig (n := n) (g := fun x => rs n (F (x : Int))) (fun x _ => rs_lt n0 _) (fun x hx y hy e => small_eq hx hy (h _ _ ((rs_dvd n0 _ _).mpr e))) (rs n r) (rs_lt n0 r)
  exact ⟨(x : Int), (rs_dvd n0 _ _).mpr e⟩
theorem inj_of_surj {F G : Int → Int} {n : Nat} (d : Dv F G) (n0 : 0 < n) (h : ∀ r : Int, ∃ x : Int, (n : Int) ∣ F x - r) : Inj F n := by
  let s : Int → Int := fun r => (h r).choose
  have hs : ∀ r, (n : Int) ∣ F (s r) - r := fun r => (h r).choose_spec
  have hp := pig (n := n) (g := fun r => rs n (s (r : Int))) (fun x _ => rs_lt n0 _) (fun x hx y hy e => small_eq hx hy (dvd_tr (dvd_sy (hs x)) (dvd_tr (d.cong ((rs_dvd n0 _ _).mpr e)) (hs y))))
  intro x y hxy
  obtain ⟨r1, h1, e1⟩ := hp (rs n x) (rs_lt n0 x)
  obtain ⟨r2, h2, e2⟩ := hp (rs n y) (rs_lt n0 y)
  have a1 : (n : Int) ∣ s r1 - x := (rs_dvd n0 _ _).mpr e1
  have a2 : (n : Int) ∣ s r2 - y := (rs_dvd n0 _ _).mpr e2
  have b1 : (n : Int) ∣ (r1 : Int) - F x := dvd_tr (dvd_sy (hs r1)) (d.cong a1)
  have b2 : (n : Int) ∣ (r2 : Int) - F y := dvd_tr (dvd_sy (hs r2)) (d.cong a2)
  have : r1 = r2 := small_eq h1 h2 (dvd_tr b1 (dvd_tr hxy (dvd_sy b2)))
  subst this
  exact dvd_tr (dvd_sy a1) a2
theorem Inj.of_dvd {F G : Int → Int} {m n : Nat} (d : Dv F G) (n0 : 0 < n) (hm : m ∣ n) (h : Inj F n) : Inj F m := by
  have m0 : 0 < m := Nat.pos_of_dvd_of_pos hm n0
  refine inj_of_surj d m0 fun r => ?_
  obtain ⟨x, hx⟩ := h.surj d n0 r
  exact ⟨x, Int.dvd_trans (Int.natCast_dvd_natCast.mpr hm) hx⟩
theorem Inj.mul {F : Int → Int} {a b : Nat} (hc : Nat.Coprime a b) (ha : Inj F a) (hb : Inj F b) : Inj F (a * b) := by
  intro x y h
  have h1 := ha x y (Int.dvd_trans (Int.natCast_dvd_natCast.mpr (Nat.dvd_mul_right a b)) h)
  have h2 := hb x y (Int.dvd_trans (Int.natCast_dvd_natCast.mpr (Nat.dvd_mul_left b a)) h)
  exact Int.ofNat_dvd_left.mpr (hc.mul_dvd_of_dvd_of_dvd (Int.ofNat_dvd_left.mp h1) (Int.ofNat_dvd_left.mp h2))
def Pr (p : Nat) : Prop := 2 ≤ p ∧ ∀ k, k ∣ p → k = 1 ∨ k = p
theorem Pr.euclid {p : Nat} (hp : Pr p) {a b : Int} (h : (p : Int) ∣ a * b) : (p : Int) ∣ a ∨ (p : Int) ∣ b := by
  have h1 := Int.ofNat_dvd_left.mp h
  rw [Int.natAbs_mul] at h1
  rcases hp.2 _ (Nat.gcd_dvd_left p a.natAbs) with c | c
  · exact .inr (Int.ofNat_dvd_left.mpr (Nat.Coprime.dvd_of_dvd_mul_left c h1))
  · exact .inl (Int.ofNat_dvd_left.mpr (by rw [← c]; exact Nat.gcd_dvd_right _ _))
theorem Pr.dvd_pow {p q : Nat} (hp : Pr p) (hq : Pr q) : ∀ e, p ∣ q ^ e → p = q
  | 0, h => by
    have := Nat.le_of_dvd Nat.one_pos h
    have := hp.1
    omega
  | e + 1, h => by
    rw [Nat.pow_succ] at h
    rcases hp.euclid (a := ((q ^ e : Nat) : Int)) (b := (q : Int)) (by rw [← Int.natCast_mul]; exact Int.natCast_dvd_natCast.mpr h) with c | c
    · exact hp.dvd_pow hq e (Int.natCast_dvd_natCast.mp c)
    · rcases hq.2 p (Int.natCast_dvd_natCast.mp c) with d | d
      · have := hp.1
        omega
      · exact d
theorem pow_int (p e : Nat) : ((p ^ e : Nat) : Int) = (p : Int) ^ e := by push_cast; rfl
theorem lift_up {F G : Int → Int} {p : Nat} (d : Dv F G) (hp : Pr p) (h1 : Inj F p) (hg : ∀ x : Int, ¬ (p : Int) ∣ G x) : ∀ e, Inj F (p ^ (e + 1))
  | 0 => by
    rw [Nat.pow_one]
    exact h1
  | e + 1 => by
    intro x y h
    have ih := lift_up d hp h1 hg e
    have p0 : (0 : Int) < ((p ^ (e + 1) : Nat) : Int) := by
      have := Nat.pow_pos (n := e + 1) (show 0 < p by have := hp.1; omega)
      omega
    have e2 : ((p ^ (e + 1 + 1) : Nat) : Int) = ((p ^ (e + 1) : Nat) : Int) * (p : Int) := by rw [← Int.natCast_mul, ← Nat.pow_succ]
    rw [e2] at h ⊢
    obtain ⟨t, ht⟩ := ih x y (Int.dvd_trans (Int.dvd_mul_right ..) h)
    obtain ⟨k, hk⟩ := d.step x y
    rw [hk, ht, Int.mul_assoc] at h
    have h3 : (p : Int) ∣ t * (G y + ((p ^ (e + 1) : Nat) : Int) * t * k) := Int.dvd_of_mul_dvd_mul_left (by omega) h
    rw [ht]
    refine Int.mul_dvd_mul_left _ ?_
    rcases hp.euclid h3 with c | c
    · exact c
    · have h4 : (p : Int) ∣ ((p ^ (e + 1) : Nat) : Int) * t * k := by
        rw [Int.mul_assoc]
        refine Int.dvd_trans ?_ (Int.dvd_mul_right ..)
        exact Int.natCast_dvd_natCast.mpr (by rw [Nat.pow_succ]; exact Nat.dvd_mul_left _ _)
      have := Int.dvd_sub c h4
      rw [show G y + ((p ^ (e + 1) : Nat) : Int) * t * k - ((p ^ (e + 1) : Nat) : Int) * t * k = G y by omega] at this
      exact absurd this (hg y)
theorem lift_down {F G : Int → Int} {p e : Nat} (d : Dv F G) (hp : Pr p) (h : Inj F (p ^ (e + 2))) (x : Int) : ¬ (p : Int) ∣ G x := by
  intro hx
  have p0 : 0 < p ^ (e + 1) := Nat.pow_pos (show 0 < p by have := hp.1; omega)
  obtain ⟨k, hk⟩ := d.step (x + ((p ^ (e + 1) : Nat) : Int)) x
  rw [show x + ((p ^ (e + 1) : Nat) : Int) - x = ((p ^ (e + 1) : Nat) : Int) by omega] at hk
  have e2 : ((p ^ (e + 2) : Nat) : Int) = ((p ^ (e + 1) : Nat) : Int) * (p : Int) := by rw [← Int.natCast_mul, ← Nat.pow_succ]
  have h4 : (p : Int) ∣ ((p ^ (e + 1) : Nat) : Int) * k := Int.dvd_trans (Int.natCast_dvd_natCast.mpr (by rw [Nat.pow_succ]; exact Nat.dvd_mul_left _ _)) (Int.dvd_mul_right ..)
  have h5 := h (x + ((p ^ (e + 1) : Nat) : Int)) x (by rw [hk, e2]; exact Int.mul_dvd_mul_left _ (Int.dvd_add hx h4))
  rw [show x + ((p ^ (e + 1) : Nat) : Int) - x = ((p ^ (e + 1) : Nat) : Int) by omega] at h5
  have h6 := Nat.le_of_dvd p0 (Int.natCast_dvd_natCast.mp h5)
  have h7 : p ^ (e + 2) = p ^ (e + 1) * p := Nat.pow_succ ..
  have := Nat.mul_le_mul_left (p ^ (e + 1)) hp.1
  omega
theorem lift_iff {F G : Int → Int} {p e : Nat} (d : Dv F G) (hp : Pr p) (he : 1 ≤ e) : Inj F (p ^ e) ↔ Inj F p ∧ (e = 1 ∨ ∀ x : Int, ¬ (p : Int) ∣ G x) := by
  have p0 : 0 < p ^ e := Nat.pow_pos (show 0 < p by have := hp.1; omega)
  constructor
  · intro h
    refine ⟨h.of_dvd d p0 (Nat.dvd_trans (by rw [Nat.pow_one]; exact Nat.dvd_refl _) (Nat.pow_dvd_pow p he)), ?_⟩
    rcases Nat.lt_or_ge 1 e with c | c
    · obtain ⟨f, rfl⟩ : ∃ f, e = f + 2 := ⟨e - 2, by omega⟩
      exact .inr (lift_down d hp h)
    · exact .inl (by omega)
  · intro ⟨h1, h2⟩
    rcases h2 with c | c
    · rw [c, Nat.pow_one]
      exact h1
    · obtain ⟨f, rfl⟩ : ∃ f, e = f + 1 := ⟨e - 1, by omega⟩
      exact lift_up d hp h1 c f
/-- the powers of primes that make a base -/
def made : List (Nat × Nat) → Nat
  | [] => 1
  | a :: r => a.1 ^ a.2 * made r
structure Apart (ps : List (Nat × Nat)) (n : Nat) : Prop where
  m : made ps = n
  p : ∀ a ∈ ps, Pr a.1 ∧ 1 ≤ a.2
  s : ps.Pairwise fun a b => a.1 < b.1
theorem cop_primes {p q : Nat} (hp : Pr p) (hq : Pr q) (h : p ≠ q) : Nat.Coprime p q := by
  rcases hp.2 _ (Nat.gcd_dvd_left p q) with c | c
  · exact c
  · have h1 : p ∣ q := by rw [← c]; exact Nat.gcd_dvd_right _ _
    rcases hq.2 p h1 with d | d
    · have := hp.1
      omega
    · exact absurd d h
theorem cop_made {p : Nat} (hp : Pr p) : ∀ (ps : List (Nat × Nat)), (∀ a ∈ ps, Pr a.1 ∧ p < a.1) → Nat.Coprime p (made ps)
  | [], _ => Nat.gcd_one_right p
  | a :: r, h => by
    have h1 := h a List.mem_cons_self
    exact Nat.Coprime.mul_right (Nat.Coprime.pow_right a.2 (cop_primes hp h1.1 (by omega))) (cop_made hp r fun b hb => h b (List.mem_cons_of_mem _ hb))
theorem made_pos : ∀ (ps : List (Nat × Nat)), (∀ a ∈ ps, Pr a.1 ∧ 1 ≤ a.2) → 0 < made ps
  | [], _ => Nat.one_pos
  | a :: r, h => Nat.mul_pos (Nat.pow_pos (by have := (h a List.mem_cons_self).1.1; omega)) (made_pos r fun b hb => h b (List.mem_cons_of_mem _ hb))
theorem made_iff {F G : Int → Int} (d : Dv F G) : ∀ (ps : List (Nat × Nat)), (∀ a ∈ ps, Pr a.1 ∧ 1 ≤ a.2) → ps.Pairwise (fun a b => a.1 < b.1) → (Inj F (made ps) ↔ ∀ a ∈ ps, Inj F (a.1 ^ a.2))
  | [], _, _ => ⟨fun _ a ha => by simp at ha, fun _ x y _ => ⟨x - y, by simp [made]⟩⟩
  | a :: r, hp, hs => by
    have h1 := hp a List.mem_cons_self
    have hr : ∀ b ∈ r, Pr b.1 ∧ 1 ≤ b.2 := fun b hb => hp b (List.mem_cons_of_mem _ hb)
    have ih := made_iff d r hr (List.pairwise_cons.mp hs).2
    have hc : Nat.Coprime (a.1 ^ a.2) (made r) := Nat.Coprime.pow_left _ (cop_made h1.1 r fun b hb => ⟨(hr b hb).1, (List.pairwise_cons.mp hs).1 b hb⟩)
    have pos : 0 < a.1 ^ a.2 * made r := made_pos (a :: r) hp
    show Inj F (a.1 ^ a.2 * made r) ↔ _
    constructor
    · intro h b hb
      rcases List.mem_cons.mp hb with e | e
      · rw [e]
        exact h.of_dvd d pos (Nat.dvd_mul_right _ _)
      · exact ih.mp (h.of_dvd d pos (Nat.dvd_mul_left _ _)) b e
    · intro h
      exact Inj.mul hc (h a List.mem_cons_self) (ih.mpr fun b hb => h b (List.mem_cons_of_mem _ hb))
theorem Apart.turn {F G : Int → Int} {ps : List (Nat × Nat)} {n : Nat} (A : Apart ps n) (d : Dv F G) : Inj F n ↔ ∀ a ∈ ps, Inj F a.1 ∧ (a.2 = 1 ∨ ∀ x : Int, ¬ (a.1 : Int) ∣ G x) := by
  rw [← A.m, made_iff d ps A.p A.s]
  exact ⟨fun h a ha => (lift_iff d (A.p a ha).1 (A.p a ha).2).mp (h a ha), fun h a ha => (lift_iff d (A.p a ha).1 (A.p a ha).2).mpr (h a ha)⟩
theorem line_turn {a s : Int} {n : Nat} (n0 : 0 < n) : Inj (fun x => a + x * s) n ↔ Nat.gcd s.natAbs n = 1 := by
  constructor
  · intro h
    obtain ⟨g, hg⟩ : ∃ g, Nat.gcd s.natAbs n = g := ⟨_, rfl⟩
    rw [hg]
    have g0 : 0 < g := by rw [← hg]; exact Nat.gcd_pos_of_pos_right _ n0
    obtain ⟨c, hc⟩ : g ∣ s.natAbs := by rw [← hg]; exact Nat.gcd_dvd_left _ _
    obtain ⟨m, hm⟩ : g ∣ n := by rw [← hg]; exact Nat.gcd_dvd_right _ _
    have hs : (n : Int) ∣ (m : Int) * s := by
      refine Int.ofNat_dvd_left.mpr ?_
      rw [Int.natAbs_mul, Int.natAbs_natCast, hc, hm]
      exact ⟨c, by rw [Nat.mul_left_comm, Nat.mul_assoc]⟩
    have h1 := h (m : Int) 0 (by
      show (n : Int) ∣ a + (m : Int) * s - (a + 0 * s)
      rw [Int.zero_mul, show a + (m : Int) * s - (a + 0) = (m : Int) * s by omega]
      exact hs)
    rw [Int.sub_zero] at h1
    have m0 : 0 < m := by
      rcases Nat.eq_zero_or_pos m with z | z
      · rw [z, Nat.mul_zero] at hm; omega
      · exact z
    have h2 := Nat.le_of_dvd m0 (Int.natCast_dvd_natCast.mp h1)
    rcases Nat.lt_or_ge 1 g with c2 | c2
    · have := Nat.mul_le_mul_right m c2
      omega
    · omega
  · intro h x y hxy
    have hxy : (n : Int) ∣ a + x * s - (a + y * s) := hxy
    rw [show a + x * s - (a + y * s) = (x - y) * s by grind] at hxy
    have h1 := Int.ofNat_dvd_left.mp hxy
    rw [Int.natAbs_mul] at h1
    exact Int.ofNat_dvd_left.mpr (Nat.Coprime.dvd_of_dvd_mul_right (by rw [Nat.coprime_comm]; exact h) h1)
theorem Inj.comp {F H : Int → Int} {n : Nat} (hf : Inj F n) (hh : Inj H n) : Inj (fun x => F (H x)) n := fun x y h => hh x y (hf _ _ h)
theorem prime_pow_turn {F G : Int → Int} {p e : Nat} (d : Dv F G) (hp : Pr p) (he : 2 ≤ e) : Inj F (p ^ e) ↔ Inj F (p ^ 2) := by
  rw [lift_iff d hp (by omega), lift_iff d hp (show 1 ≤ 2 by decide)]
  constructor
  · intro ⟨a, b⟩
    exact ⟨a, .inr (b.resolve_left (by omega))⟩
  · intro ⟨a, b⟩
    exact ⟨a, .inr (b.resolve_left (by omega))⟩
end Vf

namespace Vf
/-! ## bases without common divisors, rows by them -/
def prodN (ns : List Nat) : Nat := ns.foldl (fun m n => m * n) 1
theorem prodN_snoc (ns : List Nat) (n : Nat) : prodN (ns ++ [n]) = prodN ns * n := by
  unfold prodN
  rw [List.foldl_append]
  rfl
theorem take_next {α : Type} {ns : List α} {i : Nat} {n : α} (h : ns[i]? = some n) : ns.take (i + 1) = ns.take i ++ [n] := by
  rw [List.take_add_one, h]
  rfl
structure Bs (ns : List Nat) : Prop where
  ne : ns ≠ []
  len : ns.length ≤ 12
  b : ∀ n ∈ ns, 2 ≤ n ∧ n ≤ 1000000
  co : ∀ (i n : Nat), ns[i]? = some n → Nat.gcd n (prodN (ns.take i)) = 1
theorem prodN_dvd : ∀ (ns : List Nat) (m : Nat), m ∣ ns.foldl (fun m n => m * n) m ∧ ∀ n ∈ ns, n ∣ ns.foldl (fun m n => m * n) m
  | [], m => ⟨Nat.dvd_refl m, fun _ h => nomatch h⟩
  | k :: ns, m => by
    obtain ⟨h1, h2⟩ := prodN_dvd ns (m * k)
    refine ⟨Nat.dvd_trans (Nat.dvd_mul_right _ _) h1, fun n hn => ?_⟩
    rcases List.mem_cons.mp hn with rfl | hn
    · exact Nat.dvd_trans (Nat.dvd_mul_left _ _) h1
    · exact h2 n hn
theorem mem_dvd {ns : List Nat} {n : Nat} (h : n ∈ ns) : n ∣ prodN ns := (prodN_dvd ns 1).2 n h
theorem prodN_pos : ∀ (ns : List Nat) (m : Nat), (∀ n ∈ ns, 2 ≤ n ∧ n ≤ 1000000) → 0 < m → 0 < ns.foldl (fun m n => m * n) m
  | [], _, _, h => h
  | k :: ns, m, hb, h => prodN_pos ns _ (fun n hn => hb n (List.mem_cons_of_mem _ hn)) (Nat.mul_pos h (by have := hb k List.mem_cons_self; omega))
theorem prodN_le : ∀ (ns : List Nat) (m e : Nat), (∀ n ∈ ns, 2 ≤ n ∧ n ≤ 1000000) → m ≤ 2 ^ e → ns.foldl (fun m n => m * n) m ≤ 2 ^ (e + 20 * ns.length)
  | [], _, _, _, h => h
  | k :: ns, m, e, hb, h => by
    have h3 : m * k ≤ 2 ^ (e + 20) := by
      rw [Nat.pow_add]
      exact Nat.mul_le_mul h (by have := hb k List.mem_cons_self; omega)
    have := prodN_le ns _ (e + 20) (fun n hn => hb n (List.mem_cons_of_mem _ hn)) h3
    have e1 : e + 20 + 20 * ns.length = e + 20 * (k :: ns).length := by rw [List.length_cons]; omega
    rw [e1] at this
    exact this
theorem Bs.tb {ns : List Nat} (h : Bs ns) (i : Nat) : ∀ n ∈ ns.take i, 2 ≤ n ∧ n ≤ 1000000 := fun n hn => h.b n (List.mem_of_mem_take hn)
theorem Bs.pos {ns : List Nat} (h : Bs ns) (i : Nat) : 0 < prodN (ns.take i) := prodN_pos _ 1 (h.tb i) (by decide)
theorem Bs.le {ns : List Nat} (h : Bs ns) (i : Nat) : prodN (ns.take i) ≤ 2 ^ 240 := by
  have := prodN_le (ns.take i) 1 0 (h.tb i) (Nat.le_refl 1)
  refine Nat.le_trans this (Nat.pow_le_pow_right (by decide) ?_)
  rw [List.length_take]
  have := h.len
  omega
theorem Bs.all {ns : List Nat} : prodN (ns.take ns.length) = prodN ns := by rw [List.take_length]
theorem Bs.pos' {ns : List Nat} (h : Bs ns) : 0 < prodN ns := by rw [← Bs.all]; exact h.pos _
theorem Bs.at {ns : List Nat} (h : Bs ns) {i n : Nat} (e : ns[i]? = some n) : 2 ≤ n ∧ n ≤ 1000000 := h.b n (List.mem_of_getElem? e)
/-! a number for each row -/
theorem bez5 (a b : Nat) : ∃ u v : Int, u * (a : Int) + v * (b : Int) = ((Nat.gcd a b : Nat) : Int) := by
  induction a, b using Nat.gcd.induction with
  | H0 n => exact ⟨0, 1, by simp⟩
  | H1 m n hm ih =>
    obtain ⟨u, v, h⟩ := ih
    rw [Nat.gcd_rec m n, ← h]
    refine ⟨v - u * ((n / m : Nat) : Int), u, ?_⟩
    have d : ((n % m : Nat) : Int) = (n : Int) - (m : Int) * ((n / m : Nat) : Int) := by
      have := Nat.mod_add_div n m
      have e : ((n % m : Nat) : Int) + ((m * (n / m) : Nat) : Int) = (n : Int) := by omega
      rw [Int.natCast_mul] at e
      omega
    rw [d]
    grind
theorem row_exists {ns : List Nat} {rs : List Int} (h : Bs ns) (hr : ∀ (i n : Nat) (r : Int), ns[i]? = some n → rs[i]? = some r → 0 ≤ r ∧ r < (n : Int)) :
    ∀ i : Nat, ∃ x : Int, ∀ (j n : Nat) (r : Int), j < i → ns[j]? = some n → rs[j]? = some r → x % (n : Int) = r
  | 0 => ⟨0, fun j n r hj => absurd hj (Nat.not_lt_zero _)⟩
  | i + 1 => by
    obtain ⟨x, hx⟩ := row_exists h hr i
    cases en : ns[i]? with
    | none =>
      refine ⟨x, fun j n r hj e1 e2 => ?_⟩
      rcases Nat.lt_or_ge j i with c | c
      · exact hx j n r c e1 e2
      · rw [show j = i by omega, en] at e1; cases e1
    | some n =>
      cases er : rs[i]? with
      | none =>
        refine ⟨x, fun j n r hj e1 e2 => ?_⟩
        rcases Nat.lt_or_ge j i with c | c
        · exact hx j n r c e1 e2
        · rw [show j = i by omega, er] at e2; cases e2
      | some r =>
        obtain ⟨u, v, e⟩ := bez5 n (prodN (ns.take i))
        rw [h.co i n en] at e
        refine ⟨x + (prodN (ns.take i) : Int) * (v * (r - x)), fun j k q hj e1 e2 => ?_⟩
        rcases Nat.lt_or_ge j i with c | c
        · have m : k ∈ ns.take i := List.mem_of_getElem? (i := j) (by rw [List.getElem?_take_of_lt c]; exact e1)
          obtain ⟨z, hz⟩ := mem_dvd m
          rw [hz, Int.natCast_mul, show x + (k : Int) * (z : Int) * (v * (r - x)) = x + (k : Int) * ((z : Int) * (v * (r - x))) by grind, Int.add_mul_emod_self_left]
          exact hx j k q c e1 e2
        · have ji : j = i := by omega
          subst ji
          rw [en] at e1
          rw [er] at e2
          cases e1
          cases e2
          obtain ⟨r0, r1⟩ := hr _ _ _ en er
          have e3 : x + (prodN (ns.take j) : Int) * (v * (r - x)) = r + (n : Int) * (-(u * (r - x))) := by
            have : v * (prodN (ns.take j) : Int) = 1 - u * (n : Int) := by omega
            grind
          rw [e3, Int.add_mul_emod_self_left]
          exact Int.emod_eq_of_lt r0 r1
/-! places -/
def digsTo (ns : List Nat) (x : Int) : Nat → List Int
  | 0 => []
  | i + 1 => digsTo ns x i ++ [(x / (prodN (ns.take i) : Int)) % ((ns.getD i 1 : Nat) : Int)]
theorem digs_len (ns : List Nat) (x : Int) : ∀ i, (digsTo ns x i).length = i
  | 0 => rfl
  | i + 1 => by
    unfold digsTo
    rw [List.length_append, digs_len ns x i]
    rfl
theorem emod_step {x P n : Int} (h0 : 0 < P) (h1 : 0 < n) : x % (P * n) = x % P + (x / P) % n * P := by
  have d1 := Int.emod_add_mul_ediv x P
  have d2 := Int.emod_add_mul_ediv (x / P) n
  have a0 := Int.emod_nonneg x (show P ≠ 0 by omega)
  have a1 := Int.emod_lt_of_pos x h0
  have b0 := Int.emod_nonneg (x / P) (show n ≠ 0 by omega)
  have b1 := Int.emod_lt_of_pos (x / P) h1
  generalize x % P = r at *
  generalize (x / P) % n = d at *
  generalize (x / P) / n = w at *
  refine emod_unique (q := w) ?_ ?_ ?_
  · rw [← d1, ← d2]; grind
  · have := Int.mul_nonneg b0 (show 0 ≤ P by omega); omega
  · have h2 : (d + 1) * P ≤ n * P := Int.mul_le_mul_of_nonneg_right (by omega) (by omega)
    have e1 : (d + 1) * P = d * P + P := by grind
    have e2 : n * P = P * n := Int.mul_comm _ _
    omega
theorem ediv_step {x P n : Int} (h0 : 0 < P) (h1 : 0 < n) : x / P / n = x / (P * n) := by
  have d1 := Int.emod_add_mul_ediv x P
  have d2 := Int.emod_add_mul_ediv (x / P) n
  have d3 := Int.emod_add_mul_ediv x (P * n)
  have s := emod_step (x := x) h0 h1
  have hp : (0 : Int) < P * n := Int.mul_pos h0 h1
  rw [s] at d3
  have : (P * n) * (x / P / n) = (P * n) * (x / (P * n)) := by
    generalize x / P / n = w at *
    generalize x / (P * n) = z at *
    generalize (x / P) % n = d at *
    generalize x / P = q at *
    generalize x % P = r at *
    grind
  exact Int.eq_of_mul_eq_mul_left (by omega) this
theorem ediv_law {x n : Int} (h : 0 < n) : (x - x % n) / n = x / n := by
  have d := Int.emod_add_mul_ediv x n
  rw [show x - x % n = 0 + n * (x / n) by omega, Int.add_mul_ediv_left _ _ (by omega), Int.zero_ediv]
  omega
end Vf

namespace Vf
/-! ## rows mended -/
def rowF (ns : List Nat) (x : Int) : List (Int × Int) := ns.map fun n : Nat => (x % ((n : Nat) : Int), ((n : Nat) : Int))
theorem rowF_len (ns : List Nat) (x : Int) : (rowF ns x).length = ns.length := List.length_map _
theorem hits_row (ns : List Nat) (x y : Int) : hits (rowF ns x) y = ns.countP fun n : Nat => decide (y % (n : Int) = x % (n : Int)) := by
  unfold hits fitB
  rw [count_idx (fun p : Int × Int => decide (y % p.2 = p.1)) (0, 1)]
  unfold rowF
  rw [List.countP_map]
  rfl
theorem hits_self (ns : List Nat) (x : Int) : hits (rowF ns x) x = ns.length := by
  rw [hits_row, List.countP_eq_length]
  exact fun n _ => decide_eq_true rfl
theorem rowF_line {ns : List Nat} {x y : Int} (h : ∀ n ∈ ns, x % ((n : Nat) : Int) = y % ((n : Nat) : Int)) : rowF ns x = rowF ns y := by
  unfold rowF
  exact List.map_congr_left fun n hn => by rw [h n hn]
/-- lists without twins -/
theorem nodup_sub {α : Type} [DecidableEq α] : ∀ {l S : List α}, l.Nodup → (∀ x ∈ l, x ∈ S) → l.length ≤ S.length
  | [], _, _, _ => Nat.zero_le _
  | x :: l, S, nd, h => by
    obtain ⟨n1, n2⟩ := List.nodup_cons.mp nd
    have mx := h x List.mem_cons_self
    have := nodup_sub (l := l) (S := S.erase x) n2 fun y hy => by
      have ne : y ≠ x := fun e => n1 (e ▸ hy)
      exact (List.mem_erase_of_ne ne).mpr (h y (List.mem_cons_of_mem _ hy))
    rw [List.length_erase_of_mem mx] at this
    have := List.length_pos_of_mem mx
    rw [List.length_cons]
    omega
/-- what mended tells -/
structure MendIs (fs : List (Int × Int)) (bound : Int) (m : Nat) (ys : List Int) : Prop where
  most : ∀ y, 0 ≤ y → y < bound → hits fs y ≤ m
  asc : ys.Pairwise (· < ·)
  mem : ∀ y, y ∈ ys ↔ 0 ≤ y ∧ y < bound ∧ hits fs y = m
  ne : ys ≠ []
theorem MendIs.one {fs : List (Int × Int)} {bound : Int} {m m' : Nat} {ys ys' : List Int} (h : MendIs fs bound m ys) (h' : MendIs fs bound m' ys') : m = m' ∧ ys = ys' := by
  obtain ⟨y, hy⟩ := List.exists_mem_of_ne_nil _ h.ne
  obtain ⟨z, hz⟩ := List.exists_mem_of_ne_nil _ h'.ne
  obtain ⟨y0, y1, y2⟩ := (h.mem y).mp hy
  obtain ⟨z0, z1, z2⟩ := (h'.mem z).mp hz
  have a := h.most z z0 z1
  have b := h'.most y y0 y1
  have e : m = m' := by omega
  subst e
  exact ⟨rfl, asc_one h.asc h'.asc fun x => (h.mem x).trans (h'.mem x).symm⟩
theorem MendIs.alone {fs : List (Int × Int)} {bound : Int} {m : Nat} {x : Int} (x0 : 0 ≤ x) (x1 : x < bound) (hx : hits fs x = m) (h : ∀ y, 0 ≤ y → y < bound → y ≠ x → hits fs y < m) : MendIs fs bound m [x] := by
  refine ⟨fun y y0 y1 => ?_, List.pairwise_singleton _ _, fun y => ?_, by simp⟩
  · by_cases e : y = x
    · rw [e, hx]
      exact Nat.le_refl _
    · exact Nat.le_of_lt (h y y0 y1 e)
  · rw [List.mem_singleton]
    constructor
    · rintro rfl
      exact ⟨x0, x1, hx⟩
    · rintro ⟨y0, y1, e⟩
      refine Classical.byContradiction fun ne => ?_
      have := h y y0 y1 ne
      omega
/-- a number below the reach that has the whole row is the row's -/
theorem dvd_all {ns : List Nat} (hb : Bs ns) {t : Int} (h : ∀ n ∈ ns, ((n : Nat) : Int) ∣ t) : ((prodN ns : Nat) : Int) ∣ t := by
  have key : ∀ i, i ≤ ns.length → ((prodN (ns.take i) : Nat) : Int) ∣ t := by
    intro i
    induction i with
    | zero => intro _; exact ⟨t, by show t = ((1 : Nat) : Int) * t; omega⟩
    | succ i ih =>
      intro hi
      have en : ns[i]? = some ns[i] := List.getElem?_eq_getElem (by omega)
      rw [take_next en, prodN_snoc]
      have h1 := ih (by omega)
      have h2 := h ns[i] (List.getElem_mem _)
      have co := hb.co i _ en
      obtain ⟨u, v, e⟩ := bez5 ns[i] (prodN (ns.take i))
      rw [co] at e
      obtain ⟨p, hp⟩ := h1
      obtain ⟨q, hq⟩ := h2
      refine ⟨u * p + v * q, ?_⟩
      rw [Int.natCast_mul]
      have e2 : t = (u * (ns[i] : Int) + v * (prodN (ns.take i) : Int)) * t := by rw [e]; omega
      have e3 : (u * (ns[i] : Int) + v * (prodN (ns.take i) : Int)) * t = u * (ns[i] : Int) * t + v * (prodN (ns.take i) : Int) * t := by grind
      rw [e3] at e2
      have a1 : u * (ns[i] : Int) * t = (prodN (ns.take i) : Int) * (ns[i] : Int) * (u * p) := by
        have : t = (prodN (ns.take i) : Int) * p := hp
        calc u * (ns[i] : Int) * t = u * (ns[i] : Int) * ((prodN (ns.take i) : Int) * p) := by rw [← this]
          _ = _ := by grind
      have a2 : v * (prodN (ns.take i) : Int) * t = (prodN (ns.take i) : Int) * (ns[i] : Int) * (v * q) := by
        have : t = (ns[i] : Int) * q := hq
        calc v * (prodN (ns.take i) : Int) * t = v * (prodN (ns.take i) : Int) * ((ns[i] : Int) * q) := by rw [← this]
          _ = _ := by grind
      rw [a1, a2] at e2
      rw [e2]
      grind
  have := key ns.length (Nat.le_refl _)
  rw [List.take_length] at this
  exact this
theorem full_row {ns : List Nat} (hb : Bs ns) {x y : Int} (h : hits (rowF ns x) y = ns.length) (x0 : 0 ≤ x) (x1 : x < prodN ns) (y0 : 0 ≤ y) (y1 : y < prodN ns) : y = x := by
  rw [hits_row, List.countP_eq_length] at h
  have d := dvd_all hb (t := y - x) fun n hn => Int.dvd_of_emod_eq_zero (Int.emod_eq_emod_iff_emod_sub_eq_zero.mp (of_decide_eq_true (h n hn)))
  obtain ⟨c, hc⟩ := d
  have p0 : (0 : Int) < prodN ns := Int.natCast_pos.mpr hb.pos'
  have : c = 0 := by
    rcases Int.lt_trichotomy c 0 with h | h | h
    · have := Int.mul_le_mul_of_nonneg_left (show c ≤ -1 by omega) (Int.le_of_lt p0)
      omega
    · exact h
    · have := Int.mul_le_mul_of_nonneg_left (show 1 ≤ c by omega) (Int.le_of_lt p0)
      omega
  rw [this] at hc
  omega
theorem mend_whole {ns : List Nat} (hb : Bs ns) {x bound : Int} (x0 : 0 ≤ x) (x1 : x < prodN ns) (b0 : x < bound) (b1 : bound ≤ prodN ns) : MendIs (rowF ns x) bound ns.length [x] := by
  refine MendIs.alone x0 b0 (hits_self ns x) fun y y0 y1 ne => ?_
  have le := hits_le (rowF ns x) y
  rw [rowF_len] at le
  refine Nat.lt_of_le_of_ne le fun e => ne (full_row hb e x0 x1 y0 (by omega))
end Vf
namespace Vf
/-! ## bases in which rows of small numbers lie far apart -/
structure Far (ns : List Nat) (E : Nat) : Prop where
  bs : Bs ns
  len : ns.length = 5
  first : ns.getD 0 0 * ns.getD 1 0 = E
  far : ∀ i j : Nat, i < j → j < ns.length → E ≤ ns.getD i 1 * ns.getD j 1
  e1 : 1 ≤ E
  e2 : E ≤ 1000
  e3 : E ≤ prodN ns
  e4 : prodN ns < 2 ^ 29
theorem Bs.of_check {ns : List Nat} (ne : ns ≠ []) (len : ns.length ≤ 12) (b : ∀ n ∈ ns, 2 ≤ n ∧ n ≤ 1000000) (co : ∀ i, i < ns.length → Nat.gcd (ns.getD i 1) (prodN (ns.take i)) = 1) : Bs ns :=
  ⟨ne, len, b, fun i n e => by
    have il := (List.getElem?_eq_some_iff.mp e).1
    have := co i il
    rw [List.getD_eq_getElem?_getD, e] at this
    exact this⟩
theorem far_of {ns : List Nat} {E : Nat} (h : ∀ j, j < ns.length → ∀ i, i < j → E ≤ ns.getD i 1 * ns.getD j 1) : ∀ i j : Nat, i < j → j < ns.length → E ≤ ns.getD i 1 * ns.getD j 1 := fun i j a b => h j b i a
theorem far1 : Far [7, 11, 13, 15, 16] 77 := ⟨Bs.of_check (by decide) (by decide) (by decide) (by decide), rfl, rfl, far_of (by decide), by decide, by decide, by decide, by decide⟩
theorem far2 : Far [23, 25, 27, 28, 29] 575 := ⟨Bs.of_check (by decide) (by decide) (by decide) (by decide), rfl, rfl, far_of (by decide), by decide, by decide, by decide, by decide⟩
theorem far3 : Far [31, 32, 33, 35, 37] 992 := ⟨Bs.of_check (by decide) (by decide) (by decide) (by decide), rfl, rfl, far_of (by decide), by decide, by decide, by decide, by decide⟩
theorem far4 : Far [9, 10, 11, 13, 17] 90 := ⟨Bs.of_check (by decide) (by decide) (by decide) (by decide), rfl, rfl, far_of (by decide), by decide, by decide, by decide, by decide⟩
theorem gcd_of_take {ns : List Nat} (hb : Bs ns) {i j : Nat} (h : i < j) (hj : j < ns.length) : Nat.gcd (ns.getD i 1) (ns.getD j 1) = 1 := by
  have ej : ns[j]? = some ns[j] := List.getElem?_eq_getElem hj
  have ei : ns[i]? = some (ns[i]'(by omega)) := List.getElem?_eq_getElem (by omega)
  rw [List.getD_eq_getElem?_getD, List.getD_eq_getElem?_getD, ej, ei]
  have co := hb.co j _ ej
  have m : ns[i]'(by omega) ∈ ns.take j := List.mem_of_getElem? (i := i) (by rw [List.getElem?_take_of_lt h]; exact ei)
  have d := mem_dvd m
  show Nat.gcd (ns[i]'(by omega)) ns[j] = 1
  refine Nat.Coprime.coprime_dvd_left d ?_
  show Nat.gcd _ _ = 1
  rw [Nat.gcd_comm]
  exact co
theorem Far.agree {ns : List Nat} {E : Nat} (h : Far ns E) {x y : Int} (x0 : 0 ≤ x) (x1 : x < E) (y0 : 0 ≤ y) (y1 : y < E) (ne : y ≠ x) : hits (rowF ns x) y ≤ 1 := by
  rw [hits_row, ← count_idx (fun n : Nat => decide (y % (n : Int) = x % (n : Int))) 1 ns]
  have two : ∀ i j : Nat, i < j → j < ns.length → y % (ns.getD i 1 : Int) = x % (ns.getD i 1 : Int) → y % (ns.getD j 1 : Int) = x % (ns.getD j 1 : Int) → False := fun i j hij hj e1 e2 => by
    have d1 := Int.dvd_of_emod_eq_zero (Int.emod_eq_emod_iff_emod_sub_eq_zero.mp e1)
    have d2 := Int.dvd_of_emod_eq_zero (Int.emod_eq_emod_iff_emod_sub_eq_zero.mp e2)
    have n1 := Int.natAbs_dvd_natAbs.mpr d1
    have n2 := Int.natAbs_dvd_natAbs.mpr d2
    rw [Int.natAbs_natCast] at n1 n2
    have := Nat.Coprime.mul_dvd_of_dvd_of_dvd (gcd_of_take h.bs hij hj) n1 n2
    have := Nat.le_of_dvd (by omega) this
    have := h.far i j hij hj
    omega
  by_cases ex : ∃ a ∈ List.range ns.length, decide (y % ((ns.getD a 1 : Nat) : Int) = x % ((ns.getD a 1 : Nat) : Int)) = true
  · refine Nat.le_of_eq (count_one List.nodup_range (fun a ha b hb pa pb => ?_) ex)
    have ha := List.mem_range.mp ha
    have hb := List.mem_range.mp hb
    have pa := of_decide_eq_true pa
    have pb := of_decide_eq_true pb
    rcases Nat.lt_trichotomy a b with c | c | c
    · exact absurd (two a b c hb pa pb) id
    · exact c
    · exact absurd (two b a c ha pb pa) id
  · rw [List.countP_eq_zero.mpr fun a ha hp => ex ⟨a, ha, hp⟩]
    exact Nat.zero_le _
theorem hits_sym (ns : List Nat) (x y : Int) : hits (rowF ns x) y = hits (rowF ns y) x := by
  rw [hits_row, hits_row]
  exact List.countP_congr fun n _ => by rw [decide_eq_true_eq, decide_eq_true_eq]; exact ⟨Eq.symm, Eq.symm⟩
/-- a number agrees with a bent row where it agrees with the row, or where that is bent -/
theorem hits_bent (ns : List Nat) (x x' y : Int) : hits (rowF ns x') y ≤ (ns.length - hits (rowF ns x) x') + hits (rowF ns x) y := by
  rw [hits_row, hits_row, hits_row]
  induction ns with
  | nil => exact Nat.zero_le _
  | cons n ns ih =>
    have l1 := List.countP_le_length (p := fun n : Nat => decide (x' % (n : Int) = x % (n : Int))) (l := ns)
    rw [List.countP_cons, List.countP_cons, List.countP_cons, List.length_cons]
    by_cases c1 : y % (n : Int) = x' % (n : Int)
    · by_cases c2 : x' % (n : Int) = x % (n : Int)
      · rw [if_pos (decide_eq_true c1), if_pos (decide_eq_true c2), if_pos (decide_eq_true (c1.trans c2))]
        omega
      · rw [if_pos (decide_eq_true c1), if_neg (by rw [decide_eq_false c2]; exact Bool.false_ne_true)]
        split <;> omega
    · rw [if_neg (by rw [decide_eq_false c1]; exact Bool.false_ne_true)]
      split <;> split <;> omega
theorem Far.found {ns : List Nat} {E : Nat} (h : Far ns E) {x x' : Int} {many : Nat} (x0 : 0 ≤ x) (x1 : x < E) (hx : hits (rowF ns x) x' + many = ns.length) (hm : many ≤ 1) : MendIs (rowF ns x') E (ns.length - many) [x] := by
  have hl := h.len
  refine MendIs.alone x0 x1 (by rw [hits_sym]; omega) fun y y0 y1 ne => ?_
  have a := h.agree x0 x1 y0 y1 ne
  have b := hits_bent ns x x' y
  omega
theorem Far.near {ns : List Nat} {E : Nat} (h : Far ns E) {x x' : Int} {m : Nat} {ys : List Int} (x0 : 0 ≤ x) (x1 : x < E) (hx : hits (rowF ns x) x' + 2 = ns.length) (md : MendIs (rowF ns x') E m ys) : m = 3 ∧ x ∈ ys := by
  have hl := h.len
  have h1 : hits (rowF ns x') x = 3 := by rw [hits_sym]; omega
  have h2 := md.most x x0 x1
  obtain ⟨z, hz⟩ := List.exists_mem_of_ne_nil _ md.ne
  obtain ⟨z0, z1, z2⟩ := (md.mem z).mp hz
  have h3 : hits (rowF ns x') z ≤ 3 := by
    by_cases e : z = x
    · rw [e, h1]
      exact Nat.le_refl _
    · have a := h.agree x0 x1 z0 z1 e
      have b := hits_bent ns x x' z
      omega
  have e : m = 3 := by omega
  exact ⟨e, (md.mem x).mpr ⟨x0, x1, by rw [h1, e]⟩⟩
end Vf

namespace Vf
/-! ## lamps weighed: sums over the sets of facts, with signs -/
/-- the weight of a set of j facts, where k are asked -/
def wtk (k j : Nat) : Int := if k ≤ j then (if (j - k) % 2 = 1 then -(PySem.W.mcComb j k) else PySem.W.mcComb j k) else 0
/-- sums over the subsets of h things by their size -/
def bsum : Nat → (Nat → Int) → Int
  | 0, F => F 0
  | h + 1, F => bsum h F + bsum h fun j => F (j + 1)
theorem bsum_wt : ∀ h, h ≤ 5 → ∀ k, k ≤ 12 → bsum h (wtk k) = if h = k then 1 else 0 := by decide +kernel
theorem isum_add {α : Type} (f g : α → Int) : ∀ as : List α, (as.map fun a => f a + g a).sum = (as.map f).sum + (as.map g).sum
  | [] => rfl
  | a :: as => by
    rw [List.map_cons, List.map_cons, List.map_cons, List.sum_cons, List.sum_cons, List.sum_cons, isum_add f g as]
    omega
theorem isum_mul {α : Type} (c : Int) (f : α → Int) : ∀ as : List α, (as.map fun a => c * f a).sum = c * (as.map f).sum
  | [] => by simp
  | a :: as => by
    rw [List.map_cons, List.map_cons, List.sum_cons, List.sum_cons, isum_mul c f as, Int.mul_add]
theorem isum_congr {α : Type} {f g : α → Int} : ∀ {as : List α}, (∀ a ∈ as, f a = g a) → (as.map f).sum = (as.map g).sum
  | [], _ => rfl
  | a :: as, h => by
    rw [List.map_cons, List.map_cons, List.sum_cons, List.sum_cons, h a List.mem_cons_self, isum_congr fun b hb => h b (List.mem_cons_of_mem _ hb)]
theorem isum_zero {α : Type} : ∀ as : List α, (as.map fun _ => (0 : Int)).sum = 0
  | [] => rfl
  | a :: as => by rw [List.map_cons, List.sum_cons, isum_zero as]; rfl
theorem isum_swap {α β : Type} (f : α → β → Int) (bs : List β) : ∀ as : List α, (as.map fun a => (bs.map (f a)).sum).sum = (bs.map fun b => (as.map fun a => f a b).sum).sum
  | [] => by
    rw [List.map_nil, List.sum_nil]
    exact (isum_zero bs).symm
  | a :: as => by
    rw [List.map_cons, List.sum_cons, isum_swap f bs as, ← isum_add]
    exact isum_congr fun b _ => by rw [List.map_cons, List.sum_cons]
theorem isum_count {α : Type} (p : α → Bool) : ∀ as : List α, (as.map fun a => if p a = true then (1 : Int) else 0).sum = (as.countP p : Nat)
  | [] => rfl
  | a :: as => by
    rw [List.map_cons, List.sum_cons, isum_count p as, List.countP_cons]
    cases p a <;> simp <;> omega
/-- the sets that lie in what fits, weighed by their size -/
theorem bsum_bits (p : Nat → Bool) : ∀ (n : Nat) (F : Nat → Int), ((List.range (2 ^ n)).map fun c => if (bitsL n c).all p = true then F (bitsL n c).length else 0).sum = bsum ((List.range n).countP p) F
  | 0, F => by
    show ((List.range 1).map _).sum = F 0
    rw [show List.range 1 = [0] from rfl]
    show (if (bitsL 0 0).all p = true then F (bitsL 0 0).length else 0) + 0 = F 0
    rw [show bitsL 0 0 = [] from rfl]
    simp
  | n + 1, F => by
    rw [range_pow, List.map_append, List.sum_append, List.map_map]
    have e1 : ((List.range (2 ^ n)).map fun c => if (bitsL (n + 1) c).all p = true then F (bitsL (n + 1) c).length else 0).sum = bsum ((List.range n).countP p) F := by
      rw [← bsum_bits p n F]
      exact isum_congr fun c hc => by rw [bitsL_low (List.mem_range.mp hc)]
    have e2 : ((List.range (2 ^ n)).map ((fun c => if (bitsL (n + 1) c).all p = true then F (bitsL (n + 1) c).length else 0) ∘ (2 ^ n + ·))).sum = if p n = true then bsum ((List.range n).countP p) (fun j => F (j + 1)) else 0 := by
      by_cases h : p n = true
      · rw [if_pos h, ← bsum_bits p n fun j => F (j + 1)]
        refine isum_congr fun c hc => ?_
        show (if (bitsL (n + 1) (2 ^ n + c)).all p = true then F (bitsL (n + 1) (2 ^ n + c)).length else 0) = _
        rw [bitsL_high (List.mem_range.mp hc), List.all_append, List.length_append]
        simp [h]
      · rw [if_neg h]
        refine Eq.trans ?_ (isum_zero (List.range (2 ^ n)))
        refine isum_congr fun c hc => ?_
        show (if (bitsL (n + 1) (2 ^ n + c)).all p = true then F (bitsL (n + 1) (2 ^ n + c)).length else 0) = _
        rw [bitsL_high (List.mem_range.mp hc), List.all_append]
        simp [h]
    rw [e1, e2, List.range_succ, List.countP_append]
    by_cases h : p n = true
    · rw [if_pos h, List.countP_cons, if_pos h, List.countP_nil]
      rfl
    · rw [if_neg h, List.countP_cons, if_neg h, List.countP_nil, Int.add_zero]
      rfl

/-! ### over the sets of facts -/
def rng (L : Nat) : List Int := (List.range L).map fun i : Nat => (i : Int)
open Classical in
noncomputable def tmk (fs : List (Int × Int)) (k : Nat) (G : Int → Int) (c : Nat) : Int := if Con fs c then wtk k (bitsL fs.length c).length * G (lcmAll (subF fs fs.length c) : Int) else 0
theorem fitsB_bits {fs : List (Int × Int)} {c : Nat} {x : Int} : fitsB fs c x = (bitsL fs.length c).all (fitB fs x) := by
  refine Bool.eq_iff_iff.mpr ?_
  rw [fitsB_iff, fits_sub, List.all_eq_true]
  constructor
  · intro h i hi
    obtain ⟨h1, h2⟩ := mem_bitsL.mp hi
    exact h i h1 h2
  · intro h i h1 h2
    exact h i (mem_bitsL.mpr ⟨h1, h2⟩)
theorem rng_numsN (L : Nat) : rng L = numsN 0 L := by
  unfold rng numsN
  exact List.map_congr_left fun i _ => by omega
theorem lcm_sub {fs : List (Int × Int)} {c : Nat} : lcmAll (subF fs fs.length c) ∣ lcmAll fs :=
  lcmAll_dvd _ 1 _ (Nat.one_dvd _) fun p hp => (dvd_lcmAll fs 1).2 p (subF_mem (Nat.le_refl _) hp)
/-- how many of a whole round fit a set of facts -/
theorem set_count {fs : List (Int × Int)} (hf : ∀ p ∈ fs, Fact p) {c : Nat} (h : Con fs c) : ((rng (lcmAll fs)).countP (fitsB fs c) : Int) = (lcmAll fs : Int) / (lcmAll (subF fs fs.length c) : Int) := by
  obtain ⟨x, hx⟩ := h
  have mo : ∀ p ∈ subF fs fs.length c, Fact p := fun p hp => hf p (subF_mem (Nat.le_refl _) hp)
  have l0 : 0 < lcmAll (subF fs fs.length c) := lcmAll_pos _ 1 mo (by decide)
  have jn := Jn.of_fits (R := 0) mo hx
  rw [rng_numsN, ← found_count l0 jn (lcmAll fs), found_len (by omega)]
  obtain ⟨q, hq⟩ := lcm_sub (fs := fs) (c := c)
  generalize lcmAll (subF fs fs.length c) = m at *
  generalize x % (m : Int) = R at *
  obtain ⟨j0, j1, _⟩ := jn
  rw [hq]
  have e1 : (0 : Int) + ((m * q : Nat) : Int) - 1 - R = (-1 - R) + (m : Int) * (q : Int) := by
    rw [Int.natCast_mul]
    omega
  have e2 : (0 : Int) - 1 - R = -1 - R := by omega
  rw [e1, e2, Int.add_mul_ediv_left _ _ (by omega), Int.natCast_mul, Int.mul_ediv_cancel_left _ (by omega)]
  omega
/-- the numbers of a round at which just k facts fit -/
theorem lamps_count {fs : List (Int × Int)} (hf : ∀ p ∈ fs, Fact p) (hl : fs.length ≤ 5) {k : Nat} (hk : k ≤ 12) :
    ((List.range (2 ^ fs.length)).map (tmk fs k fun m => (lcmAll fs : Int) / m)).sum = ((rng (lcmAll fs)).countP fun x => decide (hits fs x = k) : Nat) := by
  have e1 : ∀ c, tmk fs k (fun m => (lcmAll fs : Int) / m) c = ((rng (lcmAll fs)).map fun x => if fitsB fs c x = true then wtk k (bitsL fs.length c).length else 0).sum := fun c => by
    have e3 : ((rng (lcmAll fs)).map fun x => if fitsB fs c x = true then wtk k (bitsL fs.length c).length else 0).sum = wtk k (bitsL fs.length c).length * ((rng (lcmAll fs)).countP (fitsB fs c) : Nat) := by
      rw [← isum_count, ← isum_mul]
      refine isum_congr fun x _ => ?_
      by_cases h : fitsB fs c x = true
      · rw [if_pos h, if_pos h, Int.mul_one]
      · rw [if_neg h, if_neg h, Int.mul_zero]
    rw [e3]
    unfold tmk
    by_cases h : Con fs c
    · rw [if_pos h, set_count hf h]
    · rw [if_neg h, none_count (fun x hx => h ⟨x, hx⟩)]
      simp
  rw [isum_congr fun c _ => e1 c, isum_swap, ← isum_count]
  refine isum_congr fun x _ => ?_
  rw [isum_congr (f := fun c => if fitsB fs c x = true then wtk k (bitsL fs.length c).length else 0) (g := fun c => if (bitsL fs.length c).all (fitB fs x) = true then wtk k (bitsL fs.length c).length else 0) fun c _ => by rw [fitsB_bits], bsum_bits]
  have e2 : (List.range fs.length).countP (fitB fs x) = hits fs x := rfl
  have le := hits_le fs x
  rw [e2, bsum_wt _ (by omega) k hk]
  by_cases h : hits fs x = k
  · rw [if_pos h, decide_eq_true h, if_pos rfl]
  · rw [if_neg h, decide_eq_false h, if_neg (by decide)]

/-! ### bases without common divisors -/
theorem pw_all {α : Type} {R : α → α → Prop} (sy : ∀ a b, R a b → R b a) : ∀ {l : List α}, l.Pairwise R → ∀ a ∈ l, ∀ b ∈ l, a = b ∨ R a b
  | [], _, a, ha, _, _ => nomatch ha
  | x :: l, h, a, ha, b, hb => by
    obtain ⟨h1, h2⟩ := List.pairwise_cons.mp h
    rcases List.mem_cons.mp ha with ea | ma
    · rcases List.mem_cons.mp hb with eb | mb
      · exact .inl (ea.trans eb.symm)
      · exact .inr (by rw [ea]; exact h1 b mb)
    · rcases List.mem_cons.mp hb with eb | mb
      · exact .inr (by rw [eb]; exact sy _ _ (h1 a ma))
      · exact pw_all sy h2 a ma b mb
def Cop (p o : Int × Int) : Prop := Nat.gcd p.2.natAbs o.2.natAbs = 1
theorem Cop.symm {p o : Int × Int} (h : Cop p o) : Cop o p := (Nat.gcd_comm _ _).trans h
theorem cop_lcm (m : Nat) (gs : List (Int × Int)) : (∀ p ∈ gs, Nat.gcd p.2.natAbs m = 1) → Nat.gcd (lcmAll gs) m = 1 := by
  refine snoc_ind (M := fun gs => (∀ p ∈ gs, Nat.gcd p.2.natAbs m = 1) → Nat.gcd (lcmAll gs) m = 1) (fun _ => Nat.gcd_one_left m) (fun gs p ih h => ?_) gs
  rw [lcmAll_snoc]
  have a := ih fun o ho => h o (List.mem_append_left _ ho)
  have b := h p (List.mem_append_right _ (List.mem_singleton.mpr rfl))
  have c : Nat.Coprime (lcmAll gs * p.2.natAbs) m := Nat.Coprime.mul_left a b
  exact Nat.Coprime.coprime_dvd_left (Nat.lcm_dvd_mul _ _) c
theorem cop_fit {fs : List (Int × Int)} (hf : ∀ p ∈ fs, Fact p) (h : fs.Pairwise Cop) : ∃ x, Fits x fs := by
  refine sun_tzu fs hf fun p hp o ho => ?_
  rcases pw_all (fun _ _ => Cop.symm) h p hp o ho with rfl | e
  · rw [Int.sub_self]
    exact Int.zero_emod _
  · rw [show Nat.gcd p.2.natAbs o.2.natAbs = 1 from e]
    exact Int.emod_one _
def pr1 (fs : List (Int × Int)) : Int := fs.foldl (fun m p => m * (p.2 - 1)) 1
theorem pr1_snoc (fs : List (Int × Int)) (p : Int × Int) : pr1 (fs ++ [p]) = pr1 fs * (p.2 - 1) := by
  unfold pr1
  rw [List.foldl_append]
  rfl
theorem wt0 (j : Nat) : wtk 0 j = if j % 2 = 1 then -1 else 1 := by
  unfold wtk
  rw [if_pos (Nat.zero_le _), show ((0 : Nat) : Int) = 0 from rfl, PySem.W.mcComb_ends (Int.le_refl 0) (by omega) (.inl rfl)]
  rfl
theorem wt0_succ (j : Nat) : wtk 0 (j + 1) = -wtk 0 j := by
  rw [wt0, wt0]
  rcases Nat.mod_two_eq_zero_or_one j with e | e
  · rw [if_pos (by omega), if_neg (by omega)]
  · rw [if_neg (by omega), if_pos e]
    rfl
theorem subF_app (fs : List (Int × Int)) (p : Int × Int) (c : Nat) : subF (fs ++ [p]) fs.length c = subF fs fs.length c := by
  unfold subF
  refine List.map_congr_left fun i hi => ?_
  have := (mem_bitsL.mp hi).1
  rw [List.getD_eq_getElem?_getD, List.getD_eq_getElem?_getD, List.getElem?_append_left this]
theorem cop_sum (fs : List (Int × Int)) : (∀ p ∈ fs, Fact p) → fs.Pairwise Cop →
    ((List.range (2 ^ fs.length)).map fun c => wtk 0 (bitsL fs.length c).length * ((lcmAll fs : Int) / (lcmAll (subF fs fs.length c) : Int))).sum = pr1 fs := by
  refine snoc_ind (M := fun fs => (∀ p ∈ fs, Fact p) → fs.Pairwise Cop → ((List.range (2 ^ fs.length)).map fun c => wtk 0 (bitsL fs.length c).length * ((lcmAll fs : Int) / (lcmAll (subF fs fs.length c) : Int))).sum = pr1 fs) ?_ (fun fs p ih hf hp => ?_) fs
  · intro _ _
    decide +kernel
  · have hf' : ∀ o ∈ fs, Fact o := fun o ho => hf o (List.mem_append_left _ ho)
    have fp : Fact p := hf p (List.mem_append_right _ (List.mem_singleton.mpr rfl))
    obtain ⟨h1, h2, h3⟩ := List.pairwise_append.mp hp
    have i1 := ih hf' h1
    have pn : (p.2.natAbs : Int) = p.2 := by have := fp.1; omega
    have co : Nat.gcd (lcmAll fs) p.2.natAbs = 1 := cop_lcm _ _ fun o ho => h3 o ho p (List.mem_singleton.mpr rfl)
    have eL : lcmAll (fs ++ [p]) = lcmAll fs * p.2.natAbs := by
      rw [lcmAll_snoc, Nat.lcm, co, Nat.div_one]
    have cs : ∀ c, lcmAll (subF fs fs.length c) ∣ lcmAll fs ∧ 0 < lcmAll (subF fs fs.length c) ∧ Nat.gcd (lcmAll (subF fs fs.length c)) p.2.natAbs = 1 := fun c =>
      ⟨lcm_sub, lcmAll_pos _ 1 (fun o ho => hf' o (subF_mem (Nat.le_refl _) ho)) (by decide), cop_lcm _ _ fun o ho => h3 o (subF_mem (Nat.le_refl _) ho) p (List.mem_singleton.mpr rfl)⟩
    have low : ∀ c, ((lcmAll fs * p.2.natAbs : Nat) : Int) / (lcmAll (subF fs fs.length c) : Int) = p.2 * ((lcmAll fs : Int) / (lcmAll (subF fs fs.length c) : Int)) := fun c => by
      obtain ⟨d, d0, _⟩ := cs c
      obtain ⟨q, hq⟩ := d
      generalize lcmAll (subF fs fs.length c) = m at *
      rw [hq, Int.natCast_mul, Int.natCast_mul, pn, Int.mul_assoc, Int.mul_ediv_cancel_left _ (by omega), Int.mul_ediv_cancel_left _ (by omega), Int.mul_comm]
    have high : ∀ c, ((lcmAll fs * p.2.natAbs : Nat) : Int) / ((lcmAll (subF fs fs.length c) * p.2.natAbs : Nat) : Int) = (lcmAll fs : Int) / (lcmAll (subF fs fs.length c) : Int) := fun c => by
      rw [Int.natCast_mul, Int.natCast_mul, pn]
      exact Int.mul_ediv_mul_of_pos_left _ _ fp.1
    rw [pr1_snoc, List.length_append, List.length_singleton, range_pow, List.map_append, List.sum_append, List.map_map]
    have e1 : ((List.range (2 ^ fs.length)).map fun c => wtk 0 (bitsL (fs.length + 1) c).length * ((lcmAll (fs ++ [p]) : Int) / (lcmAll (subF (fs ++ [p]) (fs.length + 1) c) : Int))).sum = p.2 * pr1 fs := by
      rw [← i1, ← isum_mul]
      refine isum_congr fun c hc => ?_
      have hc := List.mem_range.mp hc
      rw [bitsL_low hc, subF_low hc, subF_app, eL, low c]
      grind
    have e2 : ((List.range (2 ^ fs.length)).map ((fun c => wtk 0 (bitsL (fs.length + 1) c).length * ((lcmAll (fs ++ [p]) : Int) / (lcmAll (subF (fs ++ [p]) (fs.length + 1) c) : Int))) ∘ (2 ^ fs.length + ·))).sum = -1 * pr1 fs := by
      rw [← i1, ← isum_mul]
      refine isum_congr fun c hc => ?_
      have hc := List.mem_range.mp hc
      show wtk 0 (bitsL (fs.length + 1) (2 ^ fs.length + c)).length * ((lcmAll (fs ++ [p]) : Int) / (lcmAll (subF (fs ++ [p]) (fs.length + 1) (2 ^ fs.length + c)) : Int)) = _
      have eg : (fs ++ [p]).getD fs.length (0, 1) = p := by
        rw [List.getD_eq_getElem?_getD, List.getElem?_append_right (Nat.le_refl _), Nat.sub_self]
        rfl
      have el : lcmAll (subF fs fs.length c ++ [p]) = lcmAll (subF fs fs.length c) * p.2.natAbs := by
        rw [lcmAll_snoc, Nat.lcm, (cs c).2.2, Nat.div_one]
      rw [bitsL_high hc, subF_high hc, subF_app, eg, el, eL, high c, List.length_append, List.length_singleton, wt0_succ]
      grind
    rw [e1, e2]
    grind
/-- no lamp lights: bases without common divisors -/
theorem lamps_cop {fs : List (Int × Int)} (hf : ∀ p ∈ fs, Fact p) (h : fs.Pairwise Cop) : ((List.range (2 ^ fs.length)).map (tmk fs 0 fun m => (lcmAll fs : Int) / m)).sum = pr1 fs := by
  rw [← cop_sum fs hf h]
  refine isum_congr fun c _ => ?_
  obtain ⟨x, hx⟩ := cop_fit hf h
  have co : Con fs c := ⟨x, fun o ho => hx o (subF_mem (Nat.le_refl _) ho)⟩
  unfold tmk
  rw [if_pos co]
end Vf

namespace Vf
/-! ## so many neighbouring numbers show whether lamps cover: sums of powers by a prime -/
/-- a sum of weighed powers -/
def ex : List (Int × Int) → Nat → Int
  | [], _ => 0
  | (c, a) :: l, x => c * a ^ x + ex l x
theorem ex_step (b : Int) : ∀ (l : List (Int × Int)) (x : Nat), ex (l.map fun t => (t.1 * (t.2 - b), t.2)) x = ex l (x + 1) - b * ex l x
  | [], _ => by simp [ex]
  | (c, a) :: l, x => by
    show c * (a - b) * a ^ x + ex (l.map fun t => (t.1 * (t.2 - b), t.2)) x = c * a ^ (x + 1) + ex l (x + 1) - b * (c * a ^ x + ex l x)
    rw [ex_step b l x, Int.pow_succ]
    grind
theorem ex_all (p : Int) : ∀ (n : Nat) (l : List (Int × Int)) (x0 : Nat), l.length = n → (∀ j, j < n → p ∣ ex l (x0 + j)) → ∀ j, p ∣ ex l (x0 + j)
  | 0, l, x0, hl, _ => fun j => by
    rw [List.length_eq_zero_iff.mp hl]
    exact Int.dvd_zero p
  | n + 1, [], x0, hl, _ => by cases hl
  | n + 1, (c, a) :: l, x0, hl, h => by
    have hl' : l.length = n := by simpa using hl
    have key : ∀ x, ex ((l.map fun t => (t.1 * (t.2 - a), t.2))) x = ex ((c, a) :: l) (x + 1) - a * ex ((c, a) :: l) x := fun x => by
      rw [ex_step a l x]
      show _ = c * a ^ (x + 1) + ex l (x + 1) - a * (c * a ^ x + ex l x)
      rw [Int.pow_succ]
      grind
    have ih := ex_all p n (l.map fun t => (t.1 * (t.2 - a), t.2)) x0 (by rw [List.length_map]; exact hl') fun j hj => by
      rw [key]
      exact Int.dvd_sub (h (j + 1) (by omega)) (Int.dvd_trans (h j (by omega)) (Int.dvd_mul_left _ _))
    intro j
    induction j with
    | zero => exact h 0 (by omega)
    | succ j ih2 =>
      have a1 := ih j
      rw [key] at a1
      have e : ex ((c, a) :: l) (x0 + (j + 1)) = (ex ((c, a) :: l) (x0 + j + 1) - a * ex ((c, a) :: l) (x0 + j)) + a * ex ((c, a) :: l) (x0 + j) := by
        rw [show x0 + (j + 1) = x0 + j + 1 by omega]
        omega
      rw [e]
      exact Int.dvd_add a1 (Int.dvd_trans ih2 (Int.dvd_mul_left _ _))
theorem ex_app : ∀ (l m : List (Int × Int)) (x : Nat), ex (l ++ m) x = ex l x + ex m x
  | [], m, x => by simp [ex]
  | (c, a) :: l, m, x => by
    show c * a ^ x + ex (l ++ m) x = c * a ^ x + ex l x + ex m x
    rw [ex_app l m x]
    omega
theorem ex_times (c b : Int) : ∀ (l : List (Int × Int)) (x : Nat), ex (l.map fun t => (t.1 * c, t.2 * b)) x = c * b ^ x * ex l x
  | [], _ => by simp [ex]
  | (d, a) :: l, x => by
    show d * c * (a * b) ^ x + ex (l.map fun t => (t.1 * c, t.2 * b)) x = c * b ^ x * (d * a ^ x + ex l x)
    rw [ex_times c b l x, Int.mul_pow]
    grind
/-- the product over lamps of 1 less a power, as a sum -/
def exL (g : Int → Int) : List (Int × Int) → List (Int × Int)
  | [] => [(1, 1)]
  | (r, n) :: fs => exL g fs ++ (exL g fs).map fun t => (t.1 * (-(g n) ^ (n - r).toNat), t.2 * g n)
theorem exL_len (g : Int → Int) : ∀ fs, (exL g fs).length = 2 ^ fs.length
  | [] => rfl
  | (r, n) :: fs => by
    show (exL g fs ++ _).length = _
    rw [List.length_append, List.length_map, exL_len g fs, List.length_cons, Nat.pow_succ]
    omega
theorem exL_val (g : Int → Int) (x : Nat) (r n : Int) (fs : List (Int × Int)) : ex (exL g ((r, n) :: fs)) x = (1 - (g n) ^ ((n - r).toNat + x)) * ex (exL g fs) x := by
  show ex (exL g fs ++ _) x = _
  rw [ex_app, ex_times, Int.pow_add]
  grind
/-- p divides the product just where a lamp is lit -/
structure Root (p : Nat) (g : Int → Int) (n : Int) : Prop where
  pos : 1 ≤ n
  iff : ∀ m : Nat, (p : Int) ∣ 1 - (g n) ^ m ↔ n ∣ (m : Int)
theorem exL_lit {p : Nat} (hp : Pr p) {g : Int → Int} (x : Nat) : ∀ (fs : List (Int × Int)), (∀ o ∈ fs, Root p g o.2 ∧ 0 ≤ o.1 ∧ o.1 < o.2) → ((p : Int) ∣ ex (exL g fs) x ↔ ∃ o ∈ fs, ((x : Int) - o.1) % o.2 = 0)
  | [], _ => by
    constructor
    · intro h
      have h : (p : Int) ∣ 1 := by simpa [exL, ex, Int.one_pow] using h
      have h := Int.le_of_dvd (by decide) h
      have := hp.1
      omega
    · rintro ⟨_, h, _⟩
      cases h
  | (r, n) :: fs, h => by
    obtain ⟨hr, r0, r1⟩ := h (r, n) List.mem_cons_self
    have ih := exL_lit hp (g := g) x fs fun o ho => h o (List.mem_cons_of_mem _ ho)
    have e : (p : Int) ∣ 1 - (g n) ^ ((n - r).toNat + x) ↔ ((x : Int) - r) % n = 0 := by
      rw [hr.iff]
      dsimp only at r0 r1
      rw [show (((n - r).toNat + x : Nat) : Int) = (x - r) + n by omega]
      constructor
      · intro d
        rw [← Int.add_emod_right]
        exact Int.emod_eq_zero_of_dvd d
      · intro d
        rw [← Int.add_emod_right] at d
        exact Int.dvd_of_emod_eq_zero d
    rw [exL_val]
    constructor
    · intro d
      rcases hp.euclid d with d | d
      · exact ⟨(r, n), List.mem_cons_self, e.mp d⟩
      · obtain ⟨o, ho, q⟩ := ih.mp d
        exact ⟨o, List.mem_cons_of_mem _ ho, q⟩
    · rintro ⟨o, ho, q⟩
      rcases List.mem_cons.mp ho with rfl | ho
      · exact Int.dvd_trans (e.mpr q) (Int.dvd_mul_right _ _)
      · exact Int.dvd_trans (ih.mpr ⟨o, ho, q⟩) (Int.dvd_mul_left _ _)
/-- whether a lamp is lit at the number -/
def litB (fs : List (Int × Int)) (x : Int) : Bool := fs.any fun o => decide ((x - o.1) % o.2 = 0)
theorem litB_iff {fs : List (Int × Int)} {x : Int} : litB fs x = true ↔ ∃ o ∈ fs, (x - o.1) % o.2 = 0 := by
  unfold litB
  rw [List.any_eq_true]
  exact ⟨fun ⟨o, h, e⟩ => ⟨o, h, of_decide_eq_true e⟩, fun ⟨o, h, e⟩ => ⟨o, h, decide_eq_true e⟩⟩
theorem lit_add {fs : List (Int × Int)} (x t : Int) : litB fs (x + t * (lcmAll fs : Int)) = litB fs x := by
  unfold litB
  rw [Bool.eq_iff_iff, List.any_eq_true, List.any_eq_true]
  have key : ∀ o ∈ fs, (x + t * (lcmAll fs : Int) - o.1) % o.2 = (x - o.1) % o.2 := fun o ho => by
    have d : (o.2.natAbs : Int) ∣ (lcmAll fs : Int) := Int.natCast_dvd_natCast.mpr ((dvd_lcmAll fs 1).2 o ho)
    have d2 : o.2 ∣ t * (lcmAll fs : Int) := Int.dvd_trans (Int.dvd_trans (Int.dvd_natAbs_self) d) (Int.dvd_mul_left _ _)
    obtain ⟨k, hk⟩ := d2
    rw [hk, show x + o.2 * k - o.1 = (x - o.1) + o.2 * k by omega, Int.add_mul_emod_self_left]
  constructor
  · rintro ⟨o, h, e⟩
    exact ⟨o, h, by rw [key o h] at e; exact e⟩
  · rintro ⟨o, h, e⟩
    exact ⟨o, h, by rw [key o h]; exact e⟩
/-- the window: lit at 2 ^ n neighbouring numbers, lit everywhere -/
theorem window {p : Nat} (hp : Pr p) {g : Int → Int} {fs : List (Int × Int)} (hf : ∀ o ∈ fs, Root p g o.2 ∧ 0 ≤ o.1 ∧ o.1 < o.2) (l0 : 0 < lcmAll fs) {x0 : Int} (h : ∀ j : Nat, j < 2 ^ fs.length → litB fs (x0 + j) = true) (x : Int) : litB fs x = true := by
  -- move both into the naturals by rounds
  have nat : ∀ y : Nat, (p : Int) ∣ ex (exL g fs) y ↔ litB fs (y : Int) = true := fun y => by rw [exL_lit hp y fs hf, litB_iff]
  have l1 : (1 : Int) ≤ (lcmAll fs : Int) := by omega
  have a0 : 0 ≤ x0 + (x0.natAbs : Int) * (lcmAll fs : Int) := by
    have : (x0.natAbs : Int) * 1 ≤ (x0.natAbs : Int) * (lcmAll fs : Int) := Int.mul_le_mul_of_nonneg_left l1 (by omega)
    omega
  obtain ⟨y0, e0⟩ := Int.eq_ofNat_of_zero_le a0
  have all := ex_all (p : Int) (2 ^ fs.length) (exL g fs) y0 (exL_len g fs) fun j hj => by
    rw [nat, show ((y0 + j : Nat) : Int) = (x0 + j) + (x0.natAbs : Int) * (lcmAll fs : Int) by omega, lit_add]
    exact h j hj
  have big : ∃ t : Int, (y0 : Int) ≤ x + t * (lcmAll fs : Int) := ⟨(x.natAbs : Int) + y0, by
    have : ((x.natAbs : Int) + y0) * 1 ≤ ((x.natAbs : Int) + y0) * (lcmAll fs : Int) := Int.mul_le_mul_of_nonneg_left l1 (by omega)
    omega⟩
  obtain ⟨t, ht⟩ := big
  obtain ⟨j, ej⟩ := Int.eq_ofNat_of_zero_le (show 0 ≤ x + t * (lcmAll fs : Int) - y0 by omega)
  have := (nat (y0 + j)).mp (all j)
  rw [show ((y0 + j : Nat) : Int) = x + t * (lcmAll fs : Int) by omega, lit_add] at this
  exact this
/-! the prime 15121, and a root of each order that divides 5040 -/
def g15 (n : Int) : Int := (1331 ^ ((5040 / n).toNat) : Int) % 15121
theorem pr15 : Pr 15121 := by
  refine ⟨by decide, fun k hk => ?_⟩
  have small : ∀ d, d < 123 → d ∣ 15121 → d = 1 := by decide +kernel
  obtain ⟨m, hm⟩ := hk
  by_cases c : k < 123
  · exact .inl (small k c ⟨m, hm⟩)
  · by_cases c2 : m < 123
    · have := small m c2 ⟨k, by rw [hm, Nat.mul_comm]⟩
      subst this
      exact .inr (by omega)
    · have : 123 * 123 ≤ k * m := Nat.mul_le_mul (by omega) (by omega)
      omega
theorem root15 {n : Nat} (n0 : 1 ≤ n) (h1 : (15121 : Int) ∣ 1 - g15 n ^ n) (h2 : ∀ m, m < n → (15121 : Int) ∣ 1 - g15 n ^ m → m = 0) : Root 15121 g15 n := by
  refine ⟨by omega, fun m => ?_⟩
  have e : ∀ q : Nat, (15121 : Int) ∣ 1 - (g15 n ^ n) ^ q := fun q => by
    induction q with
    | zero => exact ⟨0, by simp⟩
    | succ q ih =>
      rw [Int.pow_succ, show 1 - (g15 n ^ n) ^ q * g15 n ^ n = (1 - (g15 n ^ n) ^ q) + (g15 n ^ n) ^ q * (1 - g15 n ^ n) by grind]
      exact Int.dvd_add ih (Int.dvd_trans h1 (Int.dvd_mul_left _ _))
  have split : ((15121 : Int) ∣ 1 - g15 n ^ m) ↔ (15121 : Int) ∣ 1 - g15 n ^ (m % n) := by
    have em : g15 n ^ m = (g15 n ^ n) ^ (m / n) * g15 n ^ (m % n) := by
      rw [← Int.pow_mul, ← Int.pow_add, Nat.div_add_mod]
    have z : (1 - g15 n ^ m) = (1 - g15 n ^ (m % n)) + g15 n ^ (m % n) * (1 - (g15 n ^ n) ^ (m / n)) := by rw [em]; grind
    have d := Int.dvd_trans (e (m / n)) (Int.dvd_mul_left (g15 n ^ (m % n)) _)
    rw [z]
    exact ⟨fun h => by
      have := Int.dvd_sub h d
      rw [Int.add_sub_cancel] at this
      exact this, fun h => Int.dvd_add h d⟩
  show (15121 : Int) ∣ _ ↔ _
  rw [split]
  constructor
  · intro h
    have := h2 _ (Nat.mod_lt _ (by omega)) h
    exact Int.natCast_dvd_natCast.mpr (Nat.dvd_of_mod_eq_zero this)
  · intro h
    have := Nat.mod_eq_zero_of_dvd (Int.natCast_dvd_natCast.mp h)
    rw [this]
    exact ⟨0, by simp⟩
theorem roots15 : ∀ n : Nat, n ∈ [1, 2, 3, 4, 5, 6, 7, 8, 9, 10, 12, 16] → Root 15121 g15 n := fun n hn => by
  have h : ∀ n ∈ ([1, 2, 3, 4, 5, 6, 7, 8, 9, 10, 12, 16] : List Nat), 1 ≤ n ∧ (15121 : Int) ∣ 1 - g15 n ^ n ∧ ∀ m, m < n → (15121 : Int) ∣ 1 - g15 n ^ m → m = 0 := by decide +kernel
  obtain ⟨a, b, c⟩ := h n hn
  exact root15 a b c
end Vf

namespace Vf
/-! ## lamps of small bases: windows along, covers, how often numbers are lit -/
def bL : List Nat := [1, 2, 3, 4, 5, 6, 7, 8, 9, 10, 12, 16]
def Lm (fs : List (Int × Int)) : Prop := ∀ p ∈ fs, p.2.natAbs ∈ bL ∧ 0 ≤ p.1 ∧ p.1 < p.2
theorem bL_le : ∀ n ∈ bL, 1 ≤ n ∧ n ≤ 16 ∧ n ∣ 5040 := by decide
theorem Lm.fact {fs : List (Int × Int)} (h : Lm fs) : ∀ p ∈ fs, Fact p := fun p hp => by
  obtain ⟨h1, h2, h3⟩ := h p hp
  have := bL_le _ h1
  exact ⟨by omega, by omega, h2, h3⟩
theorem Lm.root {fs : List (Int × Int)} (h : Lm fs) : ∀ o ∈ fs, Root 15121 g15 o.2 ∧ 0 ≤ o.1 ∧ o.1 < o.2 := fun p hp => by
  obtain ⟨h1, h2, h3⟩ := h p hp
  have r := roots15 _ h1
  rw [show ((p.2.natAbs : Nat) : Int) = p.2 by omega] at r
  exact ⟨r, h2, h3⟩
theorem Lm.pos {fs : List (Int × Int)} (h : Lm fs) : 0 < lcmAll fs := lcmAll_pos fs 1 h.fact (by decide)
theorem Lm.dvd {fs : List (Int × Int)} (h : Lm fs) : lcmAll fs ∣ 5040 := lcmAll_dvd fs 1 _ (Nat.one_dvd _) fun p hp => (bL_le _ (h p hp).1).2.2
theorem Lm.le {fs : List (Int × Int)} (h : Lm fs) : lcmAll fs ≤ 5040 := Nat.le_of_dvd (by decide) h.dvd
theorem Lm.sub {fs gs : List (Int × Int)} (h : Lm fs) (s : ∀ p ∈ gs, p ∈ fs) : Lm gs := fun p hp => h p (s p hp)
theorem ex_lift (b y : Nat) : ∀ (l : List (Int × Int)) (t : Nat), ex (l.map fun q => (q.1 * q.2 ^ y, q.2 ^ b)) t = ex l (y + b * t)
  | [], _ => rfl
  | (c, a) :: l, t => by
    show c * a ^ y * (a ^ b) ^ t + ex (l.map fun q => (q.1 * q.2 ^ y, q.2 ^ b)) t = c * a ^ (y + b * t) + ex l (y + b * t)
    rw [ex_lift b y l t, Int.pow_add, Int.pow_mul, Int.mul_assoc]
/-- the window along the numbers that fit a fact -/
theorem window_along {fs : List (Int × Int)} (hf : Lm fs) {x0 : Int} {b : Nat} (h : ∀ j : Nat, j < 2 ^ fs.length → litB fs (x0 + (b : Int) * j) = true) (j : Int) : litB fs (x0 + (b : Int) * j) = true := by
  have l0 := hf.pos
  have nat : ∀ y : Nat, ((15121 : Nat) : Int) ∣ ex (exL g15 fs) y ↔ litB fs (y : Int) = true := fun y => by rw [exL_lit pr15 y fs hf.root, litB_iff]
  have l1 : (1 : Int) ≤ (lcmAll fs : Int) := by omega
  have a0 : 0 ≤ x0 + (x0.natAbs : Int) * (lcmAll fs : Int) := by
    have : (x0.natAbs : Int) * 1 ≤ (x0.natAbs : Int) * (lcmAll fs : Int) := Int.mul_le_mul_of_nonneg_left l1 (by omega)
    omega
  obtain ⟨y0, e0⟩ := Int.eq_ofNat_of_zero_le a0
  have all := ex_all ((15121 : Nat) : Int) (2 ^ fs.length) ((exL g15 fs).map fun q => (q.1 * q.2 ^ y0, q.2 ^ b)) 0 (by rw [List.length_map]; exact exL_len g15 fs) fun j hj => by
    rw [Nat.zero_add, ex_lift, nat, show ((y0 + b * j : Nat) : Int) = (x0 + (b : Int) * j) + (x0.natAbs : Int) * (lcmAll fs : Int) by rw [Int.natCast_add, Int.natCast_mul]; omega, lit_add]
    exact h j hj
  have big : 0 ≤ j + (j.natAbs : Int) * (lcmAll fs : Int) := by
    have : (j.natAbs : Int) * 1 ≤ (j.natAbs : Int) * (lcmAll fs : Int) := Int.mul_le_mul_of_nonneg_left l1 (by omega)
    omega
  obtain ⟨t, et⟩ := Int.eq_ofNat_of_zero_le big
  have z := all t
  rw [Nat.zero_add, ex_lift, nat] at z
  have e : ((y0 + b * t : Nat) : Int) = (x0 + (b : Int) * j) + ((x0.natAbs : Int) + (b : Int) * (j.natAbs : Int)) * (lcmAll fs : Int) := by
    rw [Int.natCast_add, Int.natCast_mul, ← e0, ← et]
    grind
  rw [e, lit_add] at z
  exact z
theorem window_all {fs : List (Int × Int)} (hf : Lm fs) {x0 : Int} {n : Nat} (hn : fs.length ≤ n) (h : ∀ j : Nat, j < 2 ^ n → litB fs (x0 + j) = true) (x : Int) : litB fs x = true :=
  window pr15 hf.root hf.pos (fun j hj => h j (Nat.lt_of_lt_of_le hj (Nat.pow_le_pow_right (by decide) hn))) x
theorem lit_mod {fs : List (Int × Int)} (x : Int) : litB fs (x % (lcmAll fs : Int)) = litB fs x := by
  have e := lit_add (fs := fs) (x % (lcmAll fs : Int)) (x / (lcmAll fs : Int))
  rw [← e]
  congr 1
  have := Int.mul_ediv_add_emod x (lcmAll fs : Int)
  rw [Int.mul_comm] at this
  omega
/-- lit at all numbers of a round -/
def cov (fs : List (Int × Int)) : Bool := (List.range (lcmAll fs)).all fun x => litB fs (x : Int)
theorem cov_iff {fs : List (Int × Int)} (hf : Lm fs) : cov fs = true ↔ ∀ x : Int, litB fs x = true := by
  unfold cov
  rw [List.all_eq_true]
  constructor
  · intro h x
    rw [← lit_mod x]
    have l0 := hf.pos
    have a := Int.emod_nonneg x (show (lcmAll fs : Int) ≠ 0 by omega)
    have b := Int.emod_lt_of_pos x (show (0 : Int) < (lcmAll fs : Int) by omega)
    have z := h (x % (lcmAll fs : Int)).toNat (List.mem_range.mpr (by omega))
    rw [show (((x % (lcmAll fs : Int)).toNat : Nat) : Int) = x % (lcmAll fs : Int) by omega] at z
    exact z
  · intro h x _
    exact h _
theorem lit_sub {fs gs : List (Int × Int)} (s : ∀ p ∈ gs, p ∈ fs) {x : Int} (h : litB gs x = true) : litB fs x = true := by
  obtain ⟨o, ho, e⟩ := litB_iff.mp h
  exact litB_iff.mpr ⟨o, s o ho, e⟩
theorem subF_subset {fs : List (Int × Int)} {a b : Nat} (h : ∀ i, i < fs.length → a.testBit i = true → b.testBit i = true) : ∀ p ∈ subF fs fs.length a, p ∈ subF fs fs.length b := fun p hp => by
  obtain ⟨i, hi, rfl⟩ := List.mem_map.mp hp
  obtain ⟨h1, h2⟩ := mem_bitsL.mp hi
  exact List.mem_map.mpr ⟨i, mem_bitsL.mpr ⟨h1, h i h1 h2⟩, rfl⟩
theorem cov_mono {fs : List (Int × Int)} (hf : Lm fs) {a b : Nat} (h : ∀ i, i < fs.length → a.testBit i = true → b.testBit i = true) (t : cov (subF fs fs.length a) = true) : cov (subF fs fs.length b) = true := by
  have s : ∀ {c}, Lm (subF fs fs.length c) := hf.sub fun p hp => subF_mem (Nat.le_refl _) hp
  rw [cov_iff s] at *
  exact fun x => lit_sub (subF_subset h) (t x)
theorem subF_len (fs : List (Int × Int)) (c : Nat) : (subF fs fs.length c).length ≤ fs.length := by
  unfold subF
  rw [List.length_map]
  exact bitsL_len _ _
/-- covers, by the window -/
theorem cov_win {fs : List (Int × Int)} (hf : Lm fs) (c : Nat) (x0 : Int) : cov (subF fs fs.length c) = true ↔ ∀ j : Nat, j < 2 ^ fs.length → litB (subF fs fs.length c) (x0 + j) = true := by
  have s : Lm (subF fs fs.length c) := hf.sub fun p hp => subF_mem (Nat.le_refl _) hp
  rw [cov_iff s]
  exact ⟨fun h j _ => h _, fun h x => window_all s (subF_len fs c) h x⟩
/-! how many lamps are lit -/
def litN (fs : List (Int × Int)) (x : Int) : Nat := fs.countP fun o => decide ((x - o.1) % o.2 = 0)
theorem litN_pos {fs : List (Int × Int)} {x : Int} : litN fs x = 0 ↔ litB fs x = false := by
  unfold litN litB
  rw [List.countP_eq_zero, List.any_eq_false]
def tot (fs : List (Int × Int)) (L : Nat) : Nat := ((List.range L).map fun x : Nat => litN fs (x : Int)).sum
def one (o : Int × Int) (x : Nat) : Nat := if decide (((x : Int) - o.1) % o.2 = 0) = true then 1 else 0
theorem sum_add2 {α : Type} (f g : α → Nat) : ∀ l : List α, (l.map fun a => f a + g a).sum = (l.map f).sum + (l.map g).sum
  | [] => rfl
  | a :: l => by
    rw [List.map_cons, List.sum_cons, List.map_cons, List.sum_cons, List.map_cons, List.sum_cons, sum_add2 f g l]
    omega
theorem one_found (o : Int × Int) : ∀ L : Nat, ((List.range L).map (one o)).sum = (foundIn o.2 o.1 0 L).length
  | 0 => rfl
  | L + 1 => by
    rw [List.range_succ, List.map_append, List.sum_append, one_found o L]
    show _ = (foundIn o.2 o.1 0 L ++ (if ((0 : Int) + (L : Int) - o.1) % o.2 = 0 then [0 + (L : Int)] else [])).length
    rw [List.length_append, Int.zero_add]
    congr 1
    simp only [List.map_cons, List.map_nil, List.sum_cons, List.sum_nil, Nat.add_zero]
    unfold one
    by_cases c : ((L : Int) - o.1) % o.2 = 0
    · rw [if_pos c, if_pos (decide_eq_true c)]
      rfl
    · rw [if_neg c, if_neg (by rw [decide_eq_false c]; decide)]
      rfl
theorem one_sum {o : Int × Int} (ho : Fact o) {L : Nat} (d : o.2 ∣ (L : Int)) : ((((List.range L).map (one o)).sum : Nat) : Int) = (L : Int) / o.2 := by
  obtain ⟨o1, o2, o3, o4⟩ := ho
  have n0 : 0 < o.2 := by omega
  rw [one_found, found_len n0 L]
  obtain ⟨q, hq⟩ := d
  rw [hq, Int.mul_ediv_cancel_left _ (by omega)]
  rw [show (0 : Int) + o.2 * q - 1 - o.1 = (o.2 - 1 - o.1) + o.2 * (q - 1) by rw [Int.mul_sub]; omega, Int.add_mul_ediv_left _ _ (by omega), Int.ediv_eq_zero_of_lt (by omega) (by omega)]
  rw [show (0 : Int) - 1 - o.1 = (o.2 - 1 - o.1) + o.2 * (-1) by omega, Int.add_mul_ediv_left _ _ (by omega), Int.ediv_eq_zero_of_lt (by omega) (by omega)]
  omega
theorem tot_cons (o : Int × Int) (fs : List (Int × Int)) (L : Nat) : tot (o :: fs) L = ((List.range L).map (one o)).sum + tot fs L := by
  unfold tot
  rw [← sum_add2]
  congr 1
  refine List.map_congr_left fun x _ => ?_
  unfold litN one
  rw [List.countP_cons]
  split <;> omega
theorem sum_zero {α : Type} : ∀ l : List α, (l.map fun _ => 0).sum = 0
  | [] => rfl
  | a :: l => by rw [List.map_cons, List.sum_cons, sum_zero l]
theorem tot_eq : ∀ (fs : List (Int × Int)) {L : Nat}, (∀ o ∈ fs, Fact o ∧ o.2 ∣ (L : Int)) → ((tot fs L : Nat) : Int) = (fs.map fun o => (L : Int) / o.2).sum
  | [], L, _ => by
    have : tot [] L = 0 := sum_zero (List.range L)
    rw [this]
    rfl
  | o :: fs, L, h => by
    obtain ⟨h1, h2⟩ := h o List.mem_cons_self
    rw [tot_cons, Int.natCast_add, one_sum h1 h2, tot_eq fs fun p hp => h p (List.mem_cons_of_mem _ hp), List.map_cons, List.sum_cons]
theorem sum_le1 {f : Nat → Nat} : ∀ L : Nat, (∀ x, x < L → f x ≤ 1) → ((List.range L).map f).sum ≤ L ∧ (((List.range L).map f).sum = L ↔ ∀ x, x < L → f x = 1)
  | 0, _ => ⟨Nat.le_refl _, fun _ x h => by omega, fun _ => rfl⟩
  | L + 1, h => by
    obtain ⟨h1, h2⟩ := sum_le1 (f := f) L fun x hx => h x (by omega)
    have hL := h L (by omega)
    rw [List.range_succ, List.map_append, List.sum_append]
    simp only [List.map_cons, List.map_nil, List.sum_cons, List.sum_nil, Nat.add_zero]
    refine ⟨by omega, fun e x hx => ?_, fun e => ?_⟩
    · by_cases c : x = L
      · subst c
        omega
      · exact h2.mp (by omega) x (by omega)
    · have a := h2.mpr fun x hx => e x (by omega)
      have b := e L (by omega)
      omega
/-- two that are lit at one number -/
theorem litN_two {fs : List (Int × Int)} {x : Int} {i j : Nat} (ij : i < j) (hj : j < fs.length) (h1 : (x - (fs.getD i (0, 1)).1) % (fs.getD i (0, 1)).2 = 0) (h2 : (x - (fs.getD j (0, 1)).1) % (fs.getD j (0, 1)).2 = 0) : 2 ≤ litN fs x := by
  have e : fs = fs.take j ++ fs.drop j := (List.take_append_drop j fs).symm
  have a1 : 1 ≤ (fs.take j).countP fun o => decide ((x - o.1) % o.2 = 0) := List.countP_pos_iff.mpr ⟨fs.getD i (0, 1), by
    rw [List.getD_eq_getElem?_getD, List.getElem?_eq_getElem (by omega)]
    exact List.mem_take_iff_getElem.mpr ⟨i, by omega, rfl⟩, decide_eq_true h1⟩
  have a2 : 1 ≤ (fs.drop j).countP fun o => decide ((x - o.1) % o.2 = 0) := List.countP_pos_iff.mpr ⟨fs.getD j (0, 1), by
    rw [List.getD_eq_getElem?_getD, List.getElem?_eq_getElem hj]
    exact List.mem_drop_iff_getElem.mpr ⟨0, by omega, rfl⟩, decide_eq_true h2⟩
  unfold litN
  rw [e, List.countP_append]
  omega
theorem litN_one {x : Int} : ∀ (fs : List (Int × Int)), (∀ i j, i < j → j < fs.length → ¬ ((x - (fs.getD i (0, 1)).1) % (fs.getD i (0, 1)).2 = 0 ∧ (x - (fs.getD j (0, 1)).1) % (fs.getD j (0, 1)).2 = 0)) → litN fs x ≤ 1
  | [], _ => by unfold litN; simp
  | o :: fs, h => by
    have ih := litN_one fs fun i j ij hj q => h (i + 1) (j + 1) (by omega) (by rw [List.length_cons]; omega) q
    unfold litN at *
    rw [List.countP_cons]
    by_cases c : (x - o.1) % o.2 = 0
    · have z : fs.countP (fun o => decide ((x - o.1) % o.2 = 0)) = 0 := List.countP_eq_zero.mpr fun p hp q => by
        obtain ⟨j, hj, e⟩ := List.getElem_of_mem hp
        refine h 0 (j + 1) (by omega) (by rw [List.length_cons]; omega) ⟨c, ?_⟩
        rw [List.getD_eq_getElem?_getD, List.getElem?_cons_succ, List.getElem?_eq_getElem hj, e]
        exact of_decide_eq_true q
      rw [z]
      split <;> omega
    · rw [if_neg (by rw [decide_eq_false c]; decide)]
      omega
/-- facts of two that no number fits -/
def quar (p o : Int × Int) : Prop := (p.1 - o.1) % ((Nat.gcd p.2.natAbs o.2.natAbs : Nat) : Int) ≠ 0
theorem emod_self_iff {x r n : Int} (r0 : 0 ≤ r) (r1 : r < n) : (x - r) % n = 0 ↔ x % n = r := by
  rw [← Int.emod_eq_emod_iff_emod_sub_eq_zero, Int.emod_eq_of_lt r0 r1]
theorem quar_iff {p o : Int × Int} (hp : Fact p) (ho : Fact o) : quar p o ↔ ∀ x : Int, ¬ ((x - p.1) % p.2 = 0 ∧ (x - o.1) % o.2 = 0) := by
  obtain ⟨p1, p2, p3, p4⟩ := hp
  obtain ⟨o1, o2, o3, o4⟩ := ho
  constructor
  · rintro h x ⟨h1, h2⟩
    apply h
    have d1 : ((Nat.gcd p.2.natAbs o.2.natAbs : Nat) : Int) ∣ x - p.1 := Int.dvd_trans (Int.dvd_natAbs.mp (Int.natCast_dvd_natCast.mpr (Nat.gcd_dvd_left _ _))) (Int.dvd_of_emod_eq_zero h1)
    have d2 : ((Nat.gcd p.2.natAbs o.2.natAbs : Nat) : Int) ∣ x - o.1 := Int.dvd_trans (Int.dvd_natAbs.mp (Int.natCast_dvd_natCast.mpr (Nat.gcd_dvd_right _ _))) (Int.dvd_of_emod_eq_zero h2)
    have d3 := Int.dvd_sub d2 d1
    rw [show x - o.1 - (x - p.1) = p.1 - o.1 by omega] at d3
    exact Int.emod_eq_zero_of_dvd d3
  · intro h z
    have z' : (o.1 - p.1) % ((Nat.gcd o.2.natAbs p.2.natAbs : Nat) : Int) = 0 := by
      rw [Nat.gcd_comm]
      have d := Int.dvd_neg.mpr (Int.dvd_of_emod_eq_zero z)
      rw [show -(p.1 - o.1) = o.1 - p.1 by omega] at d
      exact Int.emod_eq_zero_of_dvd d
    obtain ⟨x, hx⟩ := sun_tzu [p, o] (fun q hq => by
      rcases List.mem_cons.mp hq with rfl | hq
      · exact ⟨p1, p2, p3, p4⟩
      · rw [List.mem_singleton.mp hq]
        exact ⟨o1, o2, o3, o4⟩) (fun a ha b hb => by
      rcases List.mem_cons.mp ha with ea | ha2
      · rcases List.mem_cons.mp hb with eb | hb2
        · rw [ea, eb, Int.sub_self]
          exact Int.zero_emod _
        · rw [ea, List.mem_singleton.mp hb2]
          exact z
      · rcases List.mem_cons.mp hb with eb | hb2
        · rw [List.mem_singleton.mp ha2, eb]
          exact z'
        · rw [List.mem_singleton.mp ha2, List.mem_singleton.mp hb2, Int.sub_self]
          exact Int.zero_emod _)
    exact h x ⟨(emod_self_iff p3 p4).mpr (hx p List.mem_cons_self), (emod_self_iff o3 o4).mpr (hx o (List.mem_cons_of_mem _ (List.mem_singleton.mpr rfl)))⟩
/-- at each number just one is lit -/
theorem exact_iff {fs : List (Int × Int)} (hf : ∀ p ∈ fs, Fact p) : (∀ x : Nat, x < lcmAll fs → litN fs (x : Int) = 1) ↔
    (∀ i j, i < j → j < fs.length → quar (fs.getD i (0, 1)) (fs.getD j (0, 1))) ∧ (fs.map fun o => (lcmAll fs : Int) / o.2).sum = (lcmAll fs : Int) := by
  have dv : ∀ o ∈ fs, Fact o ∧ o.2 ∣ ((lcmAll fs : Nat) : Int) := fun o ho => ⟨hf o ho, Int.natAbs_dvd.mp (Int.natCast_dvd_natCast.mpr ((dvd_lcmAll fs 1).2 o ho))⟩
  have te := tot_eq fs dv
  have l0 : 0 < lcmAll fs := lcmAll_pos fs 1 hf (by decide)
  have gf : ∀ i, i < fs.length → Fact (fs.getD i (0, 1)) := fun i hi => hf _ (getD_mem hi)
  constructor
  · intro h
    refine ⟨fun i j ij hj => ?_, ?_⟩
    · rw [quar_iff (gf i (by omega)) (gf j hj)]
      rintro x ⟨h1, h2⟩
      have m0 := Int.emod_nonneg x (show (lcmAll fs : Int) ≠ 0 by omega)
      have m1 := Int.emod_lt_of_pos x (show (0 : Int) < (lcmAll fs : Int) by omega)
      have mv : ∀ k, k < fs.length → (x % (lcmAll fs : Int) - (fs.getD k (0, 1)).1) % (fs.getD k (0, 1)).2 = (x - (fs.getD k (0, 1)).1) % (fs.getD k (0, 1)).2 := fun k hk => by
        have d := (dv _ (getD_mem hk)).2
        obtain ⟨c, hc⟩ := d
        have em := Int.mul_ediv_add_emod x (lcmAll fs : Int)
        rw [show x - (fs.getD k (0, 1)).1 = (x % (lcmAll fs : Int) - (fs.getD k (0, 1)).1) + (fs.getD k (0, 1)).2 * (c * (x / (lcmAll fs : Int))) by rw [← Int.mul_assoc, ← hc]; omega, Int.add_mul_emod_self_left]
      have two := litN_two ij hj (by rw [mv i (by omega)]; exact h1) (by rw [mv j hj]; exact h2)
      have e := h (x % (lcmAll fs : Int)).toNat (by omega)
      rw [show (((x % (lcmAll fs : Int)).toNat : Nat) : Int) = x % (lcmAll fs : Int) by omega] at e
      omega
    · rw [← te]
      have := ((sum_le1 (f := fun x : Nat => litN fs (x : Int)) (lcmAll fs) fun x hx => Nat.le_of_eq (h x hx)).2).mpr h
      unfold tot
      rw [this]
  · rintro ⟨h1, h2⟩
    have le : ∀ x : Int, litN fs x ≤ 1 := fun x => litN_one fs fun i j ij hj q => (quar_iff (gf i (by omega)) (gf j hj)).mp (h1 i j ij hj) x q
    rw [← te] at h2
    exact ((sum_le1 (f := fun x : Nat => litN fs (x : Int)) (lcmAll fs) fun x _ => le x).2).mp (Int.ofNat.inj h2)
end Vf

namespace Vf
/-! ## places lit as bits; lamps without one; pairs counted -/
def plN (p : Int × Int) : Nat → Nat
  | 0 => 0
  | k + 1 => if decide (((k : Int) - p.1) % p.2 = 0) = true then plN p k ||| 2 ^ k else plN p k
theorem plN_bit (p : Int × Int) : ∀ (W t : Nat), (plN p W).testBit t = (decide (t < W) && decide (((t : Int) - p.1) % p.2 = 0))
  | 0, t => by
    show (0 : Nat).testBit t = _
    rw [Nat.zero_testBit, decide_eq_false (by omega), Bool.false_and]
  | W + 1, t => by
    have ih := plN_bit p W t
    unfold plN
    by_cases c : ((W : Int) - p.1) % p.2 = 0
    · rw [if_pos (decide_eq_true c), Nat.testBit_or, ih, Nat.testBit_two_pow]
      by_cases e : W = t
      · subst e
        rw [decide_eq_true rfl, Bool.or_true, decide_eq_true (show W < W + 1 by omega), decide_eq_true c]
        rfl
      · rw [decide_eq_false e, Bool.or_false]
        by_cases l : t < W
        · rw [decide_eq_true l, decide_eq_true (show t < W + 1 by omega)]
        · rw [decide_eq_false l, decide_eq_false (show ¬ t < W + 1 by omega)]
    · rw [if_neg (by rw [decide_eq_false c]; decide), ih]
      by_cases e : W = t
      · subst e
        rw [decide_eq_false c, Bool.and_false, Bool.and_false]
      · by_cases l : t < W
        · rw [decide_eq_true l, decide_eq_true (show t < W + 1 by omega)]
        · rw [decide_eq_false l, decide_eq_false (show ¬ t < W + 1 by omega)]
theorem lt_of_bits {n W : Nat} (h : ∀ t, W ≤ t → n.testBit t = false) : n < 2 ^ W := by
  refine Nat.lt_of_not_le fun c => ?_
  obtain ⟨t, ht, hb⟩ := Nat.exists_ge_and_testBit_of_ge_two_pow c
  rw [h t ht] at hb
  cases hb
theorem plN_lt (p : Int × Int) (W : Nat) : plN p W < 2 ^ W := lt_of_bits fun t ht => by rw [plN_bit, decide_eq_false (by omega), Bool.false_and]
def mkL (fs : List (Int × Int)) (W : Nat) (l : List Nat) : Nat := l.foldl (fun m i => m ||| plN (fs.getD i (0, 1)) W) 0
theorem mkL_snoc (fs : List (Int × Int)) (W : Nat) (l : List Nat) (i : Nat) : mkL fs W (l ++ [i]) = mkL fs W l ||| plN (fs.getD i (0, 1)) W := by
  unfold mkL
  rw [List.foldl_append]
  rfl
theorem mkL_bit (fs : List (Int × Int)) (W t : Nat) (l : List Nat) : (mkL fs W l).testBit t = l.any fun i => decide (t < W) && decide (((t : Int) - (fs.getD i (0, 1)).1) % (fs.getD i (0, 1)).2 = 0) := by
  refine snoc_ind (M := fun l => (mkL fs W l).testBit t = l.any fun i => decide (t < W) && decide (((t : Int) - (fs.getD i (0, 1)).1) % (fs.getD i (0, 1)).2 = 0)) ?_ (fun l i ih => ?_) l
  · show (0 : Nat).testBit t = _
    rw [Nat.zero_testBit]
    rfl
  · rw [mkL_snoc, Nat.testBit_or, ih, plN_bit, List.any_append, List.any_cons, List.any_nil, Bool.or_false]
theorem mkL_lt (fs : List (Int × Int)) (W : Nat) (l : List Nat) : mkL fs W l < 2 ^ W := lt_of_bits fun t ht => by
  rw [mkL_bit, List.any_eq_false]
  intro i _
  rw [decide_eq_false (by omega), Bool.false_and]
  decide
def msk (fs : List (Int × Int)) (W k s : Nat) : Nat := mkL fs W (bitsL k s)
def msks (fs : List (Int × Int)) (W k : Nat) : List Nat := (List.range (2 ^ k)).map (msk fs W k)
theorem msks_succ (fs : List (Int × Int)) (W k : Nat) : msks fs W (k + 1) = msks fs W k ++ (msks fs W k).map (· ||| plN (fs.getD k (0, 1)) W) := by
  unfold msks msk
  rw [range_pow, List.map_append, List.map_map, List.map_map]
  congr 1
  · exact List.map_congr_left fun a ha => by rw [bitsL_low (List.mem_range.mp ha)]
  · exact List.map_congr_left fun a ha => by
      show mkL fs W (bitsL (k + 1) (2 ^ k + a)) = _
      rw [bitsL_high (List.mem_range.mp ha), mkL_snoc]
      rfl
theorem msk_all {fs : List (Int × Int)} (hf : Lm fs) (s : Nat) : decide (msk fs (2 ^ fs.length) fs.length s = 2 ^ (2 ^ fs.length) - 1) = cov (subF fs fs.length s) := by
  have bit : ∀ t, (msk fs (2 ^ fs.length) fs.length s).testBit t = (decide (t < 2 ^ fs.length) && litB (subF fs fs.length s) (t : Int)) := fun t => by
    unfold msk
    rw [mkL_bit]
    unfold litB subF
    rw [List.any_map]
    by_cases c : t < 2 ^ fs.length
    · rw [decide_eq_true c, Bool.true_and]
      simp only [Bool.true_and]
      rfl
    · rw [decide_eq_false c, Bool.false_and]
      simp only [Bool.false_and, List.any_eq_false]
      intro _ _
      decide
  have w := cov_win hf s 0
  rw [Bool.eq_iff_iff, decide_eq_true_eq, w]
  constructor
  · intro e j hj
    have b := bit j
    rw [e, Nat.testBit_two_pow_sub_one, decide_eq_true hj, Bool.true_and] at b
    rw [Int.zero_add]
    exact b.symm
  · intro h
    refine Nat.eq_of_testBit_eq fun t => ?_
    rw [bit, Nat.testBit_two_pow_sub_one]
    by_cases c : t < 2 ^ fs.length
    · have := h t c
      rw [Int.zero_add] at this
      rw [this, Bool.and_true]
    · rw [decide_eq_false c, Bool.false_and]
/-! without one of them -/
def less (fs : List (Int × Int)) (i : Nat) : List (Int × Int) := fs.take i ++ fs.drop (i + 1)
theorem less_sub (fs : List (Int × Int)) (i : Nat) : ∀ p ∈ less fs i, p ∈ fs := fun p hp => by
  rcases List.mem_append.mp hp with h | h
  · exact List.mem_of_mem_take h
  · exact List.mem_of_mem_drop h
theorem less_or {fs : List (Int × Int)} {i : Nat} (hi : i < fs.length) {p : Int × Int} (hp : p ∈ fs) : p = fs.getD i (0, 1) ∨ p ∈ less fs i := by
  obtain ⟨j, hj, e⟩ := List.getElem_of_mem hp
  rcases Nat.lt_trichotomy j i with c | c | c
  · exact .inr (List.mem_append_left _ (by rw [← e]; exact List.mem_take_iff_getElem.mpr ⟨j, by omega, rfl⟩))
  · subst c
    exact .inl (by rw [List.getD_eq_getElem?_getD, List.getElem?_eq_getElem hj, e]; rfl)
  · refine .inr (List.mem_append_right _ ?_)
    rw [← e]
    refine List.mem_drop_iff_getElem.mpr ⟨j - (i + 1), by omega, ?_⟩
    congr 1
    omega
theorem lit_per {fs gs : List (Int × Int)} (s : ∀ p ∈ gs, p ∈ fs) (x : Int) : litB gs (x % (lcmAll fs : Int)) = litB gs x := by
  have d : lcmAll gs ∣ lcmAll fs := lcmAll_dvd gs 1 _ (Nat.one_dvd _) fun p hp => (dvd_lcmAll fs 1).2 p (s p hp)
  obtain ⟨c, hc⟩ := d
  have em := Int.mul_ediv_add_emod x (lcmAll fs : Int)
  have e := lit_add (fs := gs) (x % (lcmAll fs : Int)) ((c : Int) * (x / (lcmAll fs : Int)))
  rw [← e]
  congr 1
  have e2 : (c : Int) * (x / (lcmAll fs : Int)) * (lcmAll gs : Int) = (lcmAll fs : Int) * (x / (lcmAll fs : Int)) := by
    rw [hc, Int.natCast_mul]
    generalize x / ((lcmAll gs : Int) * (c : Int)) = z
    grind
  rw [e2]
  omega
def needB (fs : List (Int × Int)) (i : Nat) : Bool := (List.range (lcmAll fs)).all fun x => litB (less fs i) (x : Int) == litB fs (x : Int)
theorem need_iff {fs : List (Int × Int)} (hf : Lm fs) {i : Nat} (hi : i < fs.length) : needB fs i = true ↔ ∀ x : Int, litB (less fs i) x = litB fs x := by
  unfold needB
  rw [List.all_eq_true]
  constructor
  · intro h x
    have l0 := hf.pos
    have a := Int.emod_nonneg x (show (lcmAll fs : Int) ≠ 0 by omega)
    have b := Int.emod_lt_of_pos x (show (0 : Int) < (lcmAll fs : Int) by omega)
    have z := h (x % (lcmAll fs : Int)).toNat (List.mem_range.mpr (by omega))
    rw [show (((x % (lcmAll fs : Int)).toNat : Nat) : Int) = x % (lcmAll fs : Int) by omega, lit_per (less_sub fs i), lit_mod] at z
    exact eq_of_beq z
  · intro h x _
    rw [h]
    exact beq_self_eq_true _
theorem need_win {fs : List (Int × Int)} (hf : Lm fs) {i : Nat} (hi : i < fs.length) {r : Int} {b : Nat} (e : fs.getD i (0, 1) = (r, (b : Int))) : decide (∀ j : Nat, j < 2 ^ (less fs i).length → litB (less fs i) (r + (b : Int) * j) = true) = needB fs i := by
  have hl : Lm (less fs i) := hf.sub (less_sub fs i)
  have m : (r, (b : Int)) ∈ fs := by rw [← e]; exact getD_mem hi
  obtain ⟨m1, m2, m3⟩ := hf _ m
  dsimp only at m1 m2 m3
  rw [Bool.eq_iff_iff, decide_eq_true_eq, need_iff hf hi]
  constructor
  · intro h x
    have all := window_along hl h
    cases c : litB (less fs i) x with
    | true => exact (lit_sub (less_sub fs i) c).symm
    | false =>
      cases c2 : litB fs x with
      | false => rfl
      | true =>
        obtain ⟨o, ho, eo⟩ := litB_iff.mp c2
        rcases less_or hi ho with q | q
        · rw [q, e] at eo
          dsimp only at eo
          have em := Int.mul_ediv_add_emod (x - r) (b : Int)
          rw [eo] at em
          have z := all ((x - r) / (b : Int))
          rw [show r + (b : Int) * ((x - r) / (b : Int)) = x by omega, c] at z
          cases z
        · rw [litB_iff.mpr ⟨o, q, eo⟩] at c
          cases c
  · intro h j _
    rw [h]
    refine litB_iff.mpr ⟨_, m, ?_⟩
    dsimp only
    rw [show r + (b : Int) * j - r = (b : Int) * j by omega]
    exact Int.mul_emod_right _ _
end Vf

namespace Vf
/-! ## lamps of which no more than five are lit anywhere, weighed -/
theorem lamps_cnt {fs : List (Int × Int)} (hf : ∀ p ∈ fs, Fact p) (hl : ∀ x, hits fs x ≤ 5) {k : Nat} (hk : k ≤ 12) :
    ((List.range (2 ^ fs.length)).map (tmk fs k fun m => (lcmAll fs : Int) / m)).sum = ((rng (lcmAll fs)).countP fun x => decide (hits fs x = k) : Nat) := by
  have e1 : ∀ c, tmk fs k (fun m => (lcmAll fs : Int) / m) c = ((rng (lcmAll fs)).map fun x => if fitsB fs c x = true then wtk k (bitsL fs.length c).length else 0).sum := fun c => by
    have e3 : ((rng (lcmAll fs)).map fun x => if fitsB fs c x = true then wtk k (bitsL fs.length c).length else 0).sum = wtk k (bitsL fs.length c).length * ((rng (lcmAll fs)).countP (fitsB fs c) : Nat) := by
      rw [← isum_count, ← isum_mul]
      refine isum_congr fun x _ => ?_
      by_cases h : fitsB fs c x = true
      · rw [if_pos h, if_pos h, Int.mul_one]
      · rw [if_neg h, if_neg h, Int.mul_zero]
    rw [e3]
    unfold tmk
    by_cases h : Con fs c
    · rw [if_pos h, set_count hf h]
    · rw [if_neg h, none_count (fun x hx => h ⟨x, hx⟩)]
      simp
  rw [isum_congr fun c _ => e1 c, isum_swap, ← isum_count]
  refine isum_congr fun x _ => ?_
  rw [isum_congr (f := fun c => if fitsB fs c x = true then wtk k (bitsL fs.length c).length else 0) (g := fun c => if (bitsL fs.length c).all (fitB fs x) = true then wtk k (bitsL fs.length c).length else 0) fun c _ => by rw [fitsB_bits], bsum_bits]
  have e2 : (List.range fs.length).countP (fitB fs x) = hits fs x := rfl
  have le := hl x
  rw [e2, bsum_wt _ le k hk]
  by_cases h : hits fs x = k
  · rw [if_pos h, decide_eq_true h, if_pos rfl]
  · rw [if_neg h, decide_eq_false h, if_neg (by decide)]
theorem erase_perm {α : Type} : ∀ {l : List α} {i : Nat} (h : i < l.length), (l[i] :: l.eraseIdx i).Perm l
  | [], i, h => absurd h (Nat.not_lt_zero i)
  | a :: l, 0, _ => List.Perm.refl _
  | a :: l, i + 1, h => by
    have hl : i < l.length := Nat.lt_of_succ_lt_succ h
    have ih := erase_perm (l := l) (i := i) hl
    rw [List.getElem_cons_succ, List.eraseIdx_cons_succ]
    exact (List.Perm.swap a (l[i]'hl) (l.eraseIdx i)).trans (ih.cons a)
/-! ## lamps of which just one is lit at each number -/
structure Xr (fs : List (Int × Int)) : Prop where
  one : ∀ x : Int, litN fs x = 1
  rg : ∀ p ∈ fs, 0 ≤ p.1 ∧ p.1 < p.2
  bd : ∃ D : Nat, 0 < D ∧ 2 * D ≤ 2 ^ fs.length ∧ ∀ p ∈ fs, p.2.natAbs ∣ D
  len : 1 ≤ fs.length ∧ fs.length ≤ 12
  top : ∀ t, 2 ≤ fs.length → (∀ p ∈ fs, p.2 ≤ t) → (∃ p ∈ fs, p.2 = t) → 2 ≤ fs.countP fun p => decide (p.2 = t)
theorem Xr.start : Xr [(0, 1)] where
  one := fun x => by
    unfold litN
    rw [List.countP_cons, List.countP_nil, if_pos (by rw [decide_eq_true_eq]; exact Int.emod_one _)]
  rg := fun p hp => by rw [List.mem_singleton.mp hp]; decide
  bd := ⟨1, by decide, by decide, fun p hp => by rw [List.mem_singleton.mp hp]; decide⟩
  len := by decide
  top := fun t h => absurd h (by decide)
theorem cnt_is (t : Nat) : ∀ m : Nat, (List.range m).countP (fun k => decide (k = t)) = if t < m then 1 else 0
  | 0 => rfl
  | m + 1 => by
    rw [List.range_succ, List.countP_append, cnt_is t m, List.countP_cons, List.countP_nil]
    by_cases c : m = t
    · subst c
      simp
    · by_cases l : t < m
      · simp [c, l, show t < m + 1 by omega]
      · simp [c, l, show ¬ t < m + 1 by omega]
/-- the parts of a lamp -/
def kids (r n : Int) (m : Nat) : List (Int × Int) := (List.range m).map fun k : Nat => (r + k * n, n * m)
theorem kids_lit {r n : Int} (n0 : 0 < n) {m : Nat} (m0 : 0 < m) (x : Int) : litN (kids r n m) x = if decide ((x - r) % n = 0) = true then 1 else 0 := by
  unfold litN kids
  rw [List.countP_map]
  by_cases c : (x - r) % n = 0
  · rw [if_pos (decide_eq_true c)]
    have em := Int.mul_ediv_add_emod (x - r) n
    rw [c] at em
    generalize (x - r) / n = q at *
    have q1 := Int.emod_nonneg q (show (m : Int) ≠ 0 by omega)
    have q2 := Int.emod_lt_of_pos q (show (0 : Int) < (m : Int) by omega)
    have e : (List.range m).countP ((fun o : Int × Int => decide ((x - o.1) % o.2 = 0)) ∘ fun k : Nat => (r + k * n, n * m)) = (List.range m).countP fun k => decide (k = (q % (m : Int)).toNat) := by
      refine List.countP_congr fun k hk => ?_
      have km := List.mem_range.mp hk
      show decide ((x - (r + (k : Int) * n)) % (n * (m : Int)) = 0) = true ↔ _
      rw [decide_eq_true_eq, decide_eq_true_eq, show x - (r + (k : Int) * n) = n * (q - (k : Int)) by rw [Int.mul_sub, Int.mul_comm n (k : Int)]; omega, Int.mul_emod_mul_of_pos _ _ n0]
      constructor
      · intro h
        have h2 : (q - (k : Int)) % (m : Int) = 0 := by
          rcases Int.mul_eq_zero.mp h with z | z
          · omega
          · exact z
        have h3 : q % (m : Int) = (k : Int) % (m : Int) := Int.emod_eq_emod_iff_emod_sub_eq_zero.mpr h2
        rw [Int.emod_eq_of_lt (a := (k : Int)) (by omega) (by omega)] at h3
        omega
      · intro h
        have h3 : q % (m : Int) = (k : Int) % (m : Int) := by
          rw [Int.emod_eq_of_lt (a := (k : Int)) (by omega) (by omega)]
          omega
        rw [Int.emod_eq_emod_iff_emod_sub_eq_zero.mp h3, Int.mul_zero]
    rw [e, cnt_is, if_pos (by omega)]
  · rw [if_neg (by rw [decide_eq_false c]; decide), List.countP_eq_zero]
    intro k _ h
    have h : decide ((x - (r + (k : Int) * n)) % (n * (m : Int)) = 0) = true := h
    rw [decide_eq_true_eq] at h
    have d : n ∣ x - (r + (k : Int) * n) := Int.dvd_trans (Int.dvd_mul_right n (m : Int)) (Int.dvd_of_emod_eq_zero h)
    have d2 : n ∣ x - r := by
      have := Int.dvd_add d (Int.dvd_mul_left (k : Int) n)
      rwa [show x - (r + (k : Int) * n) + (k : Int) * n = x - r by omega] at this
    exact c (Int.emod_eq_zero_of_dvd d2)
theorem Xr.split {fs : List (Int × Int)} (h : Xr fs) {i : Nat} {r n : Int} (hi : fs[i]? = some (r, n)) {m : Nat} (m0 : 1 ≤ m) (m1 : 2 * m ≤ 2 ^ m) (l : fs.length - 1 + m ≤ 12) : Xr (fs.eraseIdx i ++ kids r n m) := by
  obtain ⟨il, ei⟩ := List.getElem?_eq_some_iff.mp hi
  have pm : ((r, n) :: fs.eraseIdx i).Perm fs := by
    have := erase_perm il
    rwa [ei] at this
  have mem : ∀ p, p ∈ fs.eraseIdx i → p ∈ fs := fun p hp => pm.mem_iff.mp (List.mem_cons_of_mem _ hp)
  have rn := h.rg _ (List.mem_of_getElem? hi)
  dsimp only at rn
  have le : (fs.eraseIdx i).length = fs.length - 1 := by rw [List.length_eraseIdx_of_lt il]
  have lk : (kids r n m).length = m := by unfold kids; rw [List.length_map, List.length_range]
  have kid : ∀ p ∈ kids r n m, ∃ k : Nat, k < m ∧ p = (r + k * n, n * m) := fun p hp => by
    obtain ⟨k, hk, e⟩ := List.mem_map.mp hp
    exact ⟨k, List.mem_range.mp hk, e.symm⟩
  obtain ⟨D, D0, D1, D2⟩ := h.bd
  constructor
  · intro x
    have a := pm.countP_eq fun p => decide ((x - p.1) % p.2 = 0)
    have b := h.one x
    have c := kids_lit (r := r) (n := n) (by omega) (m := m) (by omega) x
    unfold litN at *
    rw [List.countP_cons] at a
    rw [List.countP_append, c]
    dsimp only at a
    omega
  · intro p hp
    rcases List.mem_append.mp hp with z | z
    · exact h.rg p (mem p z)
    · obtain ⟨k, km, rfl⟩ := kid p z
      dsimp only
      have a1 : (k : Int) * n ≤ ((m : Int) - 1) * n := Int.mul_le_mul_of_nonneg_right (by omega) (by omega)
      have a2 : 0 ≤ (k : Int) * n := Int.mul_nonneg (by omega) (by omega)
      rw [Int.sub_mul, Int.one_mul, Int.mul_comm (m : Int) n] at a1
      omega
  · refine ⟨D * m, Nat.mul_pos D0 m0, ?_, fun p hp => ?_⟩
    · rw [List.length_append, le, lk]
      have e : 2 ^ (fs.length - 1 + m) * 2 = 2 ^ fs.length * 2 ^ m := by
        rw [← Nat.pow_succ, ← Nat.pow_add]
        congr 1
        omega
      have := Nat.mul_le_mul D1 m1
      rw [← e, show 2 * D * (2 * m) = 2 * (D * m) * 2 by grind] at this
      omega
    · rcases List.mem_append.mp hp with z | z
      · exact Nat.dvd_trans (D2 p (mem p z)) (Nat.dvd_mul_right D m)
      · obtain ⟨k, km, rfl⟩ := kid p z
        dsimp only
        rw [Int.natAbs_mul, Int.natAbs_natCast]
        exact Nat.mul_dvd_mul (D2 _ (List.mem_of_getElem? hi)) (Nat.dvd_refl m)
  · rw [List.length_append, le, lk]
    have := h.len
    omega
  · intro t l2 ub ⟨p, hp, pt⟩
    have a := pm.countP_eq fun p => decide (p.2 = t)
    rw [List.countP_cons] at a
    rw [List.countP_append]
    have kc : n * (m : Int) = t → (kids r n m).countP (fun p => decide (p.2 = t)) = m := fun e => by
      have : (kids r n m).countP (fun p => decide (p.2 = t)) = (kids r n m).length := List.countP_eq_length.mpr fun p hp => by
        obtain ⟨k, _, rfl⟩ := kid p hp
        exact decide_eq_true e
      rw [this, lk]
    have kin : (r + ((0 : Nat) : Int) * n, n * (m : Int)) ∈ kids r n m := List.mem_map.mpr ⟨0, List.mem_range.mpr (by omega), rfl⟩
    have nm := ub _ (List.mem_append_right _ kin)
    dsimp only at nm
    have n1 : n * 1 ≤ n * (m : Int) := Int.mul_le_mul_of_nonneg_left (by omega) (by omega)
    rw [List.length_append, le, lk] at l2
    have hb : ∀ p ∈ fs, p.2 ≤ t := fun p hp => by
      rcases List.mem_cons.mp (pm.mem_iff.mpr hp) with z | z
      · rw [z]; dsimp only; omega
      · exact ub p (List.mem_append_left _ z)
    by_cases e : n * (m : Int) = t
    · rw [kc e]
      by_cases m2 : 2 ≤ m
      · omega
      · have em : m = 1 := by omega
        subst em
        have et : n = t := by rw [← e]; exact (Int.mul_one n).symm
        have z := h.top t (by omega) hb ⟨_, List.mem_of_getElem? hi, et⟩
        rw [decide_eq_true (show (r, n).2 = t from et), if_pos rfl] at a
        omega
    · have pin : p ∈ fs := by
        rcases List.mem_append.mp hp with z | z
        · exact mem p z
        · obtain ⟨k, _, rfl⟩ := kid p z
          exact absurd pt e
      have z := h.top t (by
        rcases List.mem_append.mp hp with z | z
        · have := List.length_pos_of_mem z
          omega
        · obtain ⟨k, _, rfl⟩ := kid p z
          exact absurd pt e) hb ⟨p, pin, pt⟩
      have ne : n ≠ t := by omega
      rw [decide_eq_false (show ¬ (r, n).2 = t from ne), if_neg (by decide)] at a
      omega
/-! what follows -/
theorem Xr.fact {fs : List (Int × Int)} (h : Xr fs) : ∀ p ∈ fs, Fact p ∧ p.2 ≤ 2048 := fun p hp => by
  obtain ⟨D, D0, D1, D2⟩ := h.bd
  have a := Nat.le_of_dvd D0 (D2 p hp)
  have b : 2 ^ fs.length ≤ 2 ^ 12 := Nat.pow_le_pow_right (by decide) h.len.2
  have c := h.rg p hp
  have d : (2 : Nat) ^ 12 = 4096 := rfl
  unfold Fact
  omega
theorem Xr.win {fs : List (Int × Int)} (h : Xr fs) : ∀ p ∈ fs, 2 * p.2 ≤ ((2 ^ fs.length : Nat) : Int) := fun p hp => by
  obtain ⟨D, D0, D1, D2⟩ := h.bd
  have a := Nat.le_of_dvd D0 (D2 p hp)
  have c := h.rg p hp
  omega
theorem Xr.lit {fs : List (Int × Int)} (h : Xr fs) (x : Int) : litB fs x = true := by
  cases e : litB fs x with
  | true => rfl
  | false => have := h.one x; rw [litN_pos.mpr e] at this; cases this
/-- without one: lit where the one is not -/
theorem Xr.less {fs : List (Int × Int)} (h : Xr fs) {i : Nat} {r n : Int} (hi : fs[i]? = some (r, n)) (x : Int) : litN (Vf.less fs i) x = if (x - r) % n = 0 then 0 else 1 := by
  obtain ⟨il, ei⟩ := List.getElem?_eq_some_iff.mp hi
  have pm : ((r, n) :: fs.eraseIdx i).Perm fs := by
    have := erase_perm il
    rwa [ei] at this
  have a := pm.countP_eq fun p => decide ((x - p.1) % p.2 = 0)
  have b := h.one x
  rw [List.countP_cons] at a
  unfold litN Vf.less at *
  rw [← List.eraseIdx_eq_take_drop_succ]
  dsimp only at a
  by_cases c : (x - r) % n = 0
  · rw [if_pos c]
    rw [decide_eq_true c, if_pos rfl] at a
    omega
  · rw [if_neg c]
    rw [decide_eq_false c, if_neg (by decide)] at a
    omega
theorem Xr.dark {fs : List (Int × Int)} (h : Xr fs) {i : Nat} {r n : Int} (hi : fs[i]? = some (r, n)) (x : Int) : litB (Vf.less fs i) x = false ↔ (x - r) % n = 0 := by
  rw [← litN_pos, h.less hi]
  by_cases c : (x - r) % n = 0
  · rw [if_pos c]; exact ⟨fun _ => c, fun _ => rfl⟩
  · rw [if_neg c]; exact ⟨fun z => (nomatch z), fun z => absurd z c⟩
end Vf

namespace K26
open PySem PySem.Spec PyProof.Rows L2 Vf
/-! ### the text -/
def topS (i : Nat) : Stmt := PySem.Challenge.pw_restworld_k26_whole_exact_covers.main.body.getD i (.Pass ⟨0, 0, 0, 0⟩)
abbrev s_is_integer : Stmt := topS 12
theorem sc_is_integer : FnScope ["given"] ["given"] (defScope s_is_integer) := ⟨rfl, rfl, rfl, by decide +kernel, rfl, by decide +kernel, by decide +kernel⟩
theorem bd_is_integer {K : PySem.W.Frag} {f : Addr} {fd : FuncData} (F : L2.Fun K "is_integer" "is_integer" s_is_integer f fd) : L2.Binds K fd ["given"] [] := F.binds (ps := ["given"]) fun _ _ _ _ _ _ us hl => match us, hl with | [_], _ => rfl
abbrev s_is_within : Stmt := topS 13
theorem sc_is_within : FnScope ["given", "least", "most"] ["given", "least", "most"] (defScope s_is_within) := ⟨rfl, rfl, rfl, by decide +kernel, rfl, by decide +kernel, by decide +kernel⟩
theorem bd_is_within {K : PySem.W.Frag} {f : Addr} {fd : FuncData} (F : L2.Fun K "is_within" "is_within" s_is_within f fd) : L2.Binds K fd ["given", "least", "most"] [] := F.binds (ps := ["given", "least", "most"]) fun _ _ _ _ _ _ us hl => match us, hl with | [_, _, _], _ => rfl
abbrev s_check_within : Stmt := topS 14
theorem sc_check_within : FnScope ["given", "least", "most"] ["given", "least", "most"] (defScope s_check_within) := ⟨rfl, rfl, rfl, by decide +kernel, rfl, by decide +kernel, by decide +kernel⟩
theorem bd_check_within {K : PySem.W.Frag} {f : Addr} {fd : FuncData} (F : L2.Fun K "check_within" "check_within" s_check_within f fd) : L2.Binds K fd ["given", "least", "most"] [] := F.binds (ps := ["given", "least", "most"]) fun _ _ _ _ _ _ us hl => match us, hl with | [_, _, _], _ => rfl
abbrev s_check_number : Stmt := topS 15
theorem sc_check_number : FnScope ["given"] ["given"] (defScope s_check_number) := ⟨rfl, rfl, rfl, by decide +kernel, rfl, by decide +kernel, by decide +kernel⟩
theorem bd_check_number {K : PySem.W.Frag} {f : Addr} {fd : FuncData} (F : L2.Fun K "check_number" "check_number" s_check_number f fd) : L2.Binds K fd ["given"] [] := F.binds (ps := ["given"]) fun _ _ _ _ _ _ us hl => match us, hl with | [_], _ => rfl
abbrev s_check_index : Stmt := topS 16
theorem sc_check_index : FnScope ["given"] ["given"] (defScope s_check_index) := ⟨rfl, rfl, rfl, by decide +kernel, rfl, by decide +kernel, by decide +kernel⟩
theorem bd_check_index {K : PySem.W.Frag} {f : Addr} {fd : FuncData} (F : L2.Fun K "check_index" "check_index" s_check_index f fd) : L2.Binds K fd ["given"] [] := F.binds (ps := ["given"]) fun _ _ _ _ _ _ us hl => match us, hl with | [_], _ => rfl
abbrev s_is_fact : Stmt := topS 17
theorem sc_is_fact : FnScope ["given", "rest", "base"] ["given"] (defScope s_is_fact) := ⟨rfl, rfl, rfl, by decide +kernel, rfl, by decide +kernel, by decide +kernel⟩
theorem bd_is_fact {K : PySem.W.Frag} {f : Addr} {fd : FuncData} (F : L2.Fun K "is_fact" "is_fact" s_is_fact f fd) : L2.Binds K fd ["given"] [] := F.binds (ps := ["given"]) fun _ _ _ _ _ _ us hl => match us, hl with | [_], _ => rfl
abbrev s_check_lamps : Stmt := topS 18
theorem sc_check_lamps : FnScope ["lamps"] ["lamps"] (defScope s_check_lamps) := ⟨rfl, rfl, rfl, by decide +kernel, rfl, by decide +kernel, by decide +kernel⟩
theorem bd_check_lamps {K : PySem.W.Frag} {f : Addr} {fd : FuncData} (F : L2.Fun K "check_lamps" "check_lamps" s_check_lamps f fd) : L2.Binds K fd ["lamps"] [] := F.binds (ps := ["lamps"]) fun _ _ _ _ _ _ us hl => match us, hl with | [_], _ => rfl
abbrev s__check_each_fact : Stmt := topS 19
theorem sc__check_each_fact : FnScope ["facts", "most", "index"] ["facts", "most"] (defScope s__check_each_fact) := ⟨rfl, rfl, rfl, by decide +kernel, rfl, by decide +kernel, by decide +kernel⟩
theorem bd__check_each_fact {K : PySem.W.Frag} {f : Addr} {fd : FuncData} (F : L2.Fun K "_check_each_fact" "_check_each_fact" s__check_each_fact f fd) : L2.Binds K fd ["facts", "most"] [] := F.binds (ps := ["facts", "most"]) fun _ _ _ _ _ _ us hl => match us, hl with | [_, _], _ => rfl
abbrev s__first_wrong_fact : Stmt := topS 20
theorem sc__first_wrong_fact : FnScope ["facts", "most", "index", "fact"] ["facts", "most"] (defScope s__first_wrong_fact) := ⟨rfl, rfl, rfl, by decide +kernel, rfl, by decide +kernel, by decide +kernel⟩
theorem bd__first_wrong_fact {K : PySem.W.Frag} {f : Addr} {fd : FuncData} (F : L2.Fun K "_first_wrong_fact" "_first_wrong_fact" s__first_wrong_fact f fd) : L2.Binds K fd ["facts", "most"] [] := F.binds (ps := ["facts", "most"]) fun _ _ _ _ _ _ us hl => match us, hl with | [_, _], _ => rfl
abbrev s_bezout : Stmt := topS 22
theorem sc_bezout : FnScope ["one", "other", "u", "v", "next_u", "next_v", "left", "right", "times"] ["one", "other"] (defScope s_bezout) := ⟨rfl, rfl, rfl, by decide +kernel, rfl, by decide +kernel, by decide +kernel⟩
theorem bd_bezout {K : PySem.W.Frag} {f : Addr} {fd : FuncData} (F : L2.Fun K "bezout" "bezout" s_bezout f fd) : L2.Binds K fd ["one", "other"] [] := F.binds (ps := ["one", "other"]) fun _ _ _ _ _ _ us hl => match us, hl with | [_, _], _ => rfl
abbrev s_inverse : Stmt := topS 23
theorem sc_inverse : FnScope ["number", "base", "u", "_"] ["number", "base"] (defScope s_inverse) := ⟨rfl, rfl, rfl, by decide +kernel, rfl, by decide +kernel, by decide +kernel⟩
theorem bd_inverse {K : PySem.W.Frag} {f : Addr} {fd : FuncData} (F : L2.Fun K "inverse" "inverse" s_inverse f fd) : L2.Binds K fd ["number", "base"] [] := F.binds (ps := ["number", "base"]) fun _ _ _ _ _ _ us hl => match us, hl with | [_, _], _ => rfl
abbrev s_is_fitting : Stmt := topS 25
theorem sc_is_fitting : FnScope ["number", "fact", "rest", "base"] ["number", "fact"] (defScope s_is_fitting) := ⟨rfl, rfl, rfl, by decide +kernel, rfl, by decide +kernel, by decide +kernel⟩
theorem bd_is_fitting {K : PySem.W.Frag} {f : Addr} {fd : FuncData} (F : L2.Fun K "is_fitting" "is_fitting" s_is_fitting f fd) : L2.Binds K fd ["number", "fact"] [] := F.binds (ps := ["number", "fact"]) fun _ _ _ _ _ _ us hl => match us, hl with | [_, _], _ => rfl
abbrev s_are_quarrelling : Stmt := topS 26
theorem sc_are_quarrelling : FnScope ["one", "other"] ["one", "other"] (defScope s_are_quarrelling) := ⟨rfl, rfl, rfl, by decide +kernel, rfl, by decide +kernel, by decide +kernel⟩
theorem bd_are_quarrelling {K : PySem.W.Frag} {f : Addr} {fd : FuncData} (F : L2.Fun K "are_quarrelling" "are_quarrelling" s_are_quarrelling f fd) : L2.Binds K fd ["one", "other"] [] := F.binds (ps := ["one", "other"]) fun _ _ _ _ _ _ us hl => match us, hl with | [_, _], _ => rfl
abbrev s_along : Stmt := topS 27
theorem sc_along : FnScope ["fact", "other", "rest", "base", "shared", "between", "step"] ["fact", "other"] (defScope s_along) := ⟨rfl, rfl, rfl, by decide +kernel, rfl, by decide +kernel, by decide +kernel⟩
theorem bd_along {K : PySem.W.Frag} {f : Addr} {fd : FuncData} (F : L2.Fun K "along" "along" s_along f fd) : L2.Binds K fd ["fact", "other"] [] := F.binds (ps := ["fact", "other"]) fun _ _ _ _ _ _ us hl => match us, hl with | [_, _], _ => rfl
abbrev s_merged : Stmt := topS 28
theorem sc_merged : FnScope ["one", "other", "places", "place", "step"] ["one", "other"] (defScope s_merged) := ⟨rfl, rfl, rfl, by decide +kernel, rfl, by decide +kernel, by decide +kernel⟩
theorem bd_merged {K : PySem.W.Frag} {f : Addr} {fd : FuncData} (F : L2.Fun K "merged" "merged" s_merged f fd) : L2.Binds K fd ["one", "other"] [] := F.binds (ps := ["one", "other"]) fun _ _ _ _ _ _ us hl => match us, hl with | [_, _], _ => rfl
abbrev s_common_base : Stmt := topS 30
theorem sc_common_base : FnScope ["facts", "common", "_", "base"] ["facts"] (defScope s_common_base) := ⟨rfl, rfl, rfl, by decide +kernel, rfl, by decide +kernel, by decide +kernel⟩
theorem bd_common_base {K : PySem.W.Frag} {f : Addr} {fd : FuncData} (F : L2.Fun K "common_base" "common_base" s_common_base f fd) : L2.Binds K fd ["facts"] [] := F.binds (ps := ["facts"]) fun _ _ _ _ _ _ us hl => match us, hl with | [_], _ => rfl
abbrev s_count_between : Stmt := topS 31
theorem sc_count_between : FnScope ["fact", "low", "high", "rest", "base"] ["fact", "low", "high"] (defScope s_count_between) := ⟨rfl, rfl, rfl, by decide +kernel, rfl, by decide +kernel, by decide +kernel⟩
theorem bd_count_between {K : PySem.W.Frag} {f : Addr} {fd : FuncData} (F : L2.Fun K "count_between" "count_between" s_count_between f fd) : L2.Binds K fd ["fact", "low", "high"] [] := F.binds (ps := ["fact", "low", "high"]) fun _ _ _ _ _ _ us hl => match us, hl with | [_, _, _], _ => rfl
abbrev s_quarrelling_pairs : Stmt := topS 33
theorem sc_quarrelling_pairs : FnScope ["facts", "many", "i", "j"] ["facts"] (defScope s_quarrelling_pairs) := ⟨rfl, rfl, rfl, by decide +kernel, rfl, by decide +kernel, by decide +kernel⟩
theorem bd_quarrelling_pairs {K : PySem.W.Frag} {f : Addr} {fd : FuncData} (F : L2.Fun K "quarrelling_pairs" "quarrelling_pairs" s_quarrelling_pairs f fd) : L2.Binds K fd ["facts"] [] := F.binds (ps := ["facts"]) fun _ _ _ _ _ _ us hl => match us, hl with | [_], _ => rfl
abbrev s_index_sets : Stmt := topS 34
theorem sc_index_sets : FnScope ["many", "sets", "index", "old"] ["many"] (defScope s_index_sets) := ⟨rfl, rfl, rfl, by decide +kernel, rfl, by decide +kernel, by decide +kernel⟩
theorem bd_index_sets {K : PySem.W.Frag} {f : Addr} {fd : FuncData} (F : L2.Fun K "index_sets" "index_sets" s_index_sets f fd) : L2.Binds K fd ["many"] [] := F.binds (ps := ["many"]) fun _ _ _ _ _ _ us hl => match us, hl with | [_], _ => rfl
abbrev s_joined_sets : Stmt := topS 35
theorem sc_joined_sets : FnScope ["facts", "joins", "fact", "old"] ["facts"] (defScope s_joined_sets) := ⟨rfl, rfl, rfl, by decide +kernel, rfl, by decide +kernel, by decide +kernel⟩
theorem bd_joined_sets {K : PySem.W.Frag} {f : Addr} {fd : FuncData} (F : L2.Fun K "joined_sets" "joined_sets" s_joined_sets f fd) : L2.Binds K fd ["facts"] [] := F.binds (ps := ["facts"]) fun _ _ _ _ _ _ us hl => match us, hl with | [_], _ => rfl
abbrev s_least_sets : Stmt := topS 36
theorem sc_least_sets : FnScope ["holds", "many", "least", "at", "indexes", "index"] ["holds", "many"] (defScope s_least_sets) := ⟨rfl, rfl, rfl, by decide +kernel, rfl, by decide +kernel, by decide +kernel⟩
theorem bd_least_sets {K : PySem.W.Frag} {f : Addr} {fd : FuncData} (F : L2.Fun K "least_sets" "least_sets" s_least_sets f fd) : L2.Binds K fd ["holds", "many"] [] := F.binds (ps := ["holds", "many"]) fun _ _ _ _ _ _ us hl => match us, hl with | [_, _], _ => rfl
abbrev s_is_lit : Stmt := topS 38
theorem sc_is_lit : FnScope ["lamps", "number", "lamp"] ["lamps", "number"] (defScope s_is_lit) := ⟨rfl, rfl, rfl, by decide +kernel, rfl, by decide +kernel, by decide +kernel⟩
theorem bd_is_lit {K : PySem.W.Frag} {f : Addr} {fd : FuncData} (F : L2.Fun K "is_lit" "is_lit" s_is_lit f fd) : L2.Binds K fd ["lamps", "number"] [] := F.binds (ps := ["lamps", "number"]) fun _ _ _ _ _ _ us hl => match us, hl with | [_, _], _ => rfl
abbrev s_window_of : Stmt := topS 39
theorem sc_window_of : FnScope ["lamps"] ["lamps"] (defScope s_window_of) := ⟨rfl, rfl, rfl, by decide +kernel, rfl, by decide +kernel, by decide +kernel⟩
theorem bd_window_of {K : PySem.W.Frag} {f : Addr} {fd : FuncData} (F : L2.Fun K "window_of" "window_of" s_window_of f fd) : L2.Binds K fd ["lamps"] [] := F.binds (ps := ["lamps"]) fun _ _ _ _ _ _ us hl => match us, hl with | [_], _ => rfl
abbrev s_first_dark : Stmt := topS 40
theorem sc_first_dark : FnScope ["lamps", "number", "dark"] ["lamps", "number"] (defScope s_first_dark) := ⟨rfl, rfl, rfl, by decide +kernel, rfl, by decide +kernel, by decide +kernel⟩
theorem bd_first_dark {K : PySem.W.Frag} {f : Addr} {fd : FuncData} (F : L2.Fun K "first_dark" "first_dark" s_first_dark f fd) : L2.Binds K fd ["lamps", "number"] [] := F.binds (ps := ["lamps", "number"]) fun _ _ _ _ _ _ us hl => match us, hl with | [_, _], _ => rfl
abbrev s_is_lit_along : Stmt := topS 41
theorem sc_is_lit_along : FnScope ["lamps", "fact", "rest", "base", "number"] ["lamps", "fact"] (defScope s_is_lit_along) := ⟨rfl, rfl, rfl, by decide +kernel, rfl, by decide +kernel, by decide +kernel⟩
theorem bd_is_lit_along {K : PySem.W.Frag} {f : Addr} {fd : FuncData} (F : L2.Fun K "is_lit_along" "is_lit_along" s_is_lit_along f fd) : L2.Binds K fd ["lamps", "fact"] [] := F.binds (ps := ["lamps", "fact"]) fun _ _ _ _ _ _ us hl => match us, hl with | [_, _], _ => rfl
abbrev s_weighed_facts : Stmt := topS 43
theorem sc_weighed_facts : FnScope ["lamps", "many", "weights", "indexes", "fact", "beyond", "weight"] ["lamps", "many"] (defScope s_weighed_facts) := ⟨rfl, rfl, rfl, by decide +kernel, rfl, by decide +kernel, by decide +kernel⟩
theorem bd_weighed_facts {K : PySem.W.Frag} {f : Addr} {fd : FuncData} (F : L2.Fun K "weighed_facts" "weighed_facts" s_weighed_facts f fd) : L2.Binds K fd ["lamps", "many"] [] := F.binds (ps := ["lamps", "many"]) fun _ _ _ _ _ _ us hl => match us, hl with | [_, _], _ => rfl
abbrev s_count_weighed : Stmt := topS 44
theorem sc_count_weighed : FnScope ["weighed", "low", "high", "weight", "fact"] ["weighed", "low", "high"] (defScope s_count_weighed) := ⟨rfl, rfl, rfl, by decide +kernel, rfl, by decide +kernel, by decide +kernel⟩
theorem bd_count_weighed {K : PySem.W.Frag} {f : Addr} {fd : FuncData} (F : L2.Fun K "count_weighed" "count_weighed" s_count_weighed f fd) : L2.Binds K fd ["weighed", "low", "high"] [] := F.binds (ps := ["weighed", "low", "high"]) fun _ _ _ _ _ _ us hl => match us, hl with | [_, _, _], _ => rfl
abbrev s_share_weighed : Stmt := topS 45
theorem sc_share_weighed : FnScope ["lamps", "weighed", "bottom", "top", "shared", "weight", "fact"] ["lamps", "weighed"] (defScope s_share_weighed) := ⟨rfl, rfl, rfl, by decide +kernel, rfl, by decide +kernel, by decide +kernel⟩
theorem bd_share_weighed {K : PySem.W.Frag} {f : Addr} {fd : FuncData} (F : L2.Fun K "share_weighed" "share_weighed" s_share_weighed f fd) : L2.Binds K fd ["lamps", "weighed"] [] := F.binds (ps := ["lamps", "weighed"]) fun _ _ _ _ _ _ us hl => match us, hl with | [_, _], _ => rfl
abbrev s_dark_at : Stmt := topS 46
theorem sc_dark_at : FnScope ["lamps", "number", "index", "weighed", "top", "bottom", "window", "guess", "low", "high", "middle"] ["lamps", "number", "index"] (defScope s_dark_at) := ⟨rfl, rfl, rfl, by decide +kernel, rfl, by decide +kernel, by decide +kernel⟩
theorem bd_dark_at {K : PySem.W.Frag} {f : Addr} {fd : FuncData} (F : L2.Fun K "dark_at" "dark_at" s_dark_at f fd) : L2.Binds K fd ["lamps", "number", "index"] [] := F.binds (ps := ["lamps", "number", "index"]) fun _ _ _ _ _ _ us hl => match us, hl with | [_, _, _], _ => rfl
abbrev s_covers : Stmt := topS 48
theorem sc_covers : FnScope ["lamps"] ["lamps"] (defScope s_covers) := ⟨rfl, rfl, rfl, by decide +kernel, rfl, by decide +kernel, by decide +kernel⟩
theorem bd_covers {K : PySem.W.Frag} {f : Addr} {fd : FuncData} (F : L2.Fun K "covers" "covers" s_covers f fd) : L2.Binds K fd ["lamps"] [] := F.binds (ps := ["lamps"]) fun _ _ _ _ _ _ us hl => match us, hl with | [_], _ => rfl
abbrev s_are_exact : Stmt := topS 49
theorem sc_are_exact : FnScope ["lamps", "many", "whole", "_", "base"] ["lamps"] (defScope s_are_exact) := ⟨rfl, rfl, rfl, by decide +kernel, rfl, by decide +kernel, by decide +kernel⟩
theorem bd_are_exact {K : PySem.W.Frag} {f : Addr} {fd : FuncData} (F : L2.Fun K "are_exact" "are_exact" s_are_exact f fd) : L2.Binds K fd ["lamps"] [] := F.binds (ps := ["lamps"]) fun _ _ _ _ _ _ us hl => match us, hl with | [_], _ => rfl
abbrev s_needless_lamps : Stmt := topS 50
theorem sc_needless_lamps : FnScope ["lamps", "index"] ["lamps"] (defScope s_needless_lamps) := ⟨rfl, rfl, rfl, by decide +kernel, rfl, by decide +kernel, by decide +kernel⟩
theorem bd_needless_lamps {K : PySem.W.Frag} {f : Addr} {fd : FuncData} (F : L2.Fun K "needless_lamps" "needless_lamps" s_needless_lamps f fd) : L2.Binds K fd ["lamps"] [] := F.binds (ps := ["lamps"]) fun _ _ _ _ _ _ us hl => match us, hl with | [_], _ => rfl
abbrev s_least_covers : Stmt := topS 51
theorem sc_least_covers : FnScope ["lamps", "window", "lit", "lamp", "places", "everywhere", "old"] ["lamps"] (defScope s_least_covers) := ⟨rfl, rfl, rfl, by decide +kernel, rfl, by decide +kernel, by decide +kernel⟩
theorem bd_least_covers {K : PySem.W.Frag} {f : Addr} {fd : FuncData} (F : L2.Fun K "least_covers" "least_covers" s_least_covers f fd) : L2.Binds K fd ["lamps"] [] := F.binds (ps := ["lamps"]) fun _ _ _ _ _ _ us hl => match us, hl with | [_], _ => rfl
abbrev s__is_needless : Stmt := topS 52
theorem sc__is_needless : FnScope ["lamps", "index"] ["lamps", "index"] (defScope s__is_needless) := ⟨rfl, rfl, rfl, by decide +kernel, rfl, by decide +kernel, by decide +kernel⟩
theorem bd__is_needless {K : PySem.W.Frag} {f : Addr} {fd : FuncData} (F : L2.Fun K "_is_needless" "_is_needless" s__is_needless f fd) : L2.Binds K fd ["lamps", "index"] [] := F.binds (ps := ["lamps", "index"]) fun _ _ _ _ _ _ us hl => match us, hl with | [_, _], _ => rfl
abbrev s__lit_places : Stmt := topS 53
theorem sc__lit_places : FnScope ["lamp", "window", "places", "place"] ["lamp", "window"] (defScope s__lit_places) := ⟨rfl, rfl, rfl, by decide +kernel, rfl, by decide +kernel, by decide +kernel⟩
theorem bd__lit_places {K : PySem.W.Frag} {f : Addr} {fd : FuncData} (F : L2.Fun K "_lit_places" "_lit_places" s__lit_places f fd) : L2.Binds K fd ["lamp", "window"] [] := F.binds (ps := ["lamp", "window"]) fun _ _ _ _ _ _ us hl => match us, hl with | [_, _], _ => rfl
abbrev s_dark_from : Stmt := topS 65
theorem sc_dark_from : FnScope ["lamps", "number"] ["lamps", "number"] (defScope s_dark_from) := ⟨rfl, rfl, rfl, by decide +kernel, rfl, by decide +kernel, by decide +kernel⟩
theorem bd_dark_from {K : PySem.W.Frag} {f : Addr} {fd : FuncData} (F : L2.Fun K "dark_from" "dark_from" s_dark_from f fd) : L2.Binds K fd ["lamps", "number"] [] := F.binds (ps := ["lamps", "number"]) fun _ _ _ _ _ _ us hl => match us, hl with | [_, _], _ => rfl
abbrev s_nth_dark : Stmt := topS 66
theorem sc_nth_dark : FnScope ["lamps", "number", "index"] ["lamps", "number", "index"] (defScope s_nth_dark) := ⟨rfl, rfl, rfl, by decide +kernel, rfl, by decide +kernel, by decide +kernel⟩
theorem bd_nth_dark {K : PySem.W.Frag} {f : Addr} {fd : FuncData} (F : L2.Fun K "nth_dark" "nth_dark" s_nth_dark f fd) : L2.Binds K fd ["lamps", "number", "index"] [] := F.binds (ps := ["lamps", "number", "index"]) fun _ _ _ _ _ _ us hl => match us, hl with | [_, _, _], _ => rfl
abbrev s_dark_share : Stmt := topS 67
theorem sc_dark_share : FnScope ["lamps"] ["lamps"] (defScope s_dark_share) := ⟨rfl, rfl, rfl, by decide +kernel, rfl, by decide +kernel, by decide +kernel⟩
theorem bd_dark_share {K : PySem.W.Frag} {f : Addr} {fd : FuncData} (F : L2.Fun K "dark_share" "dark_share" s_dark_share f fd) : L2.Binds K fd ["lamps"] [] := F.binds (ps := ["lamps"]) fun _ _ _ _ _ _ us hl => match us, hl with | [_], _ => rfl
abbrev s_share_lit : Stmt := topS 68
theorem sc_share_lit : FnScope ["lamps", "many"] ["lamps", "many"] (defScope s_share_lit) := ⟨rfl, rfl, rfl, by decide +kernel, rfl, by decide +kernel, by decide +kernel⟩
theorem bd_share_lit {K : PySem.W.Frag} {f : Addr} {fd : FuncData} (F : L2.Fun K "share_lit" "share_lit" s_share_lit f fd) : L2.Binds K fd ["lamps", "many"] [] := F.binds (ps := ["lamps", "many"]) fun _ _ _ _ _ _ us hl => match us, hl with | [_, _], _ => rfl
abbrev s_longest_lit : Stmt := topS 69
theorem sc_longest_lit : FnScope ["lamps"] ["lamps"] (defScope s_longest_lit) := ⟨rfl, rfl, rfl, by decide +kernel, rfl, by decide +kernel, by decide +kernel⟩
theorem bd_longest_lit {K : PySem.W.Frag} {f : Addr} {fd : FuncData} (F : L2.Fun K "longest_lit" "longest_lit" s_longest_lit f fd) : L2.Binds K fd ["lamps"] [] := F.binds (ps := ["lamps"]) fun _ _ _ _ _ _ us hl => match us, hl with | [_], _ => rfl
abbrev s__law_cell : Stmt := topS 71
theorem sc__law_cell : FnScope ["_law_cells", "_law_spot", "_law_mixed", "_law_each"] ["_law_cells", "_law_spot"] (defScope s__law_cell) := ⟨rfl, rfl, rfl, by decide +kernel, rfl, by decide +kernel, by decide +kernel⟩
theorem bd__law_cell {K : PySem.W.Frag} {f : Addr} {fd : FuncData} (F : L2.Fun K "_law_cell" "_law_cell" s__law_cell f fd) : L2.Binds K fd ["_law_cells", "_law_spot"] [] := F.binds (ps := ["_law_cells", "_law_spot"]) fun _ _ _ _ _ _ us hl => match us, hl with | [_, _], _ => rfl
abbrev s__law_jar : Stmt := topS 72
theorem sc__law_jar : FnScope ["_law_cells", "_law_spot", "_law_cell_here"] ["_law_cells", "_law_spot"] (defScope s__law_jar) := ⟨rfl, rfl, rfl, by decide +kernel, rfl, by decide +kernel, by decide +kernel⟩
theorem bd__law_jar {K : PySem.W.Frag} {f : Addr} {fd : FuncData} (F : L2.Fun K "_law_jar" "_law_jar" s__law_jar f fd) : L2.Binds K fd ["_law_cells", "_law_spot"] [] := F.binds (ps := ["_law_cells", "_law_spot"]) fun _ _ _ _ _ _ us hl => match us, hl with | [_, _], _ => rfl
abbrev s__law_dig : Stmt := topS 73
theorem sc__law_dig : FnScope ["_law_jar_here", "_law_wide", "_law_mixed", "_law_by", "_law_digit"] ["_law_jar_here", "_law_wide"] (defScope s__law_dig) := ⟨rfl, rfl, rfl, by decide +kernel, rfl, by decide +kernel, by decide +kernel⟩
theorem bd__law_dig {K : PySem.W.Frag} {f : Addr} {fd : FuncData} (F : L2.Fun K "_law_dig" "_law_dig" s__law_dig f fd) : L2.Binds K fd ["_law_jar_here", "_law_wide"] [] := F.binds (ps := ["_law_jar_here", "_law_wide"]) fun _ _ _ _ _ _ us hl => match us, hl with | [_, _], _ => rfl
abbrev s__law_take : Stmt := topS 74
theorem sc__law_take : FnScope ["_law_jar_here", "_law_some"] ["_law_jar_here", "_law_some"] (defScope s__law_take) := ⟨rfl, rfl, rfl, by decide +kernel, rfl, by decide +kernel, by decide +kernel⟩
theorem bd__law_take {K : PySem.W.Frag} {f : Addr} {fd : FuncData} (F : L2.Fun K "_law_take" "_law_take" s__law_take f fd) : L2.Binds K fd ["_law_jar_here", "_law_some"] [] := F.binds (ps := ["_law_jar_here", "_law_some"]) fun _ _ _ _ _ _ us hl => match us, hl with | [_, _], _ => rfl
abbrev s__law_far : Stmt := topS 75
theorem sc__law_far : FnScope ["_law_jar_here", "_law_far_here", "_law_k"] ["_law_jar_here"] (defScope s__law_far) := ⟨rfl, rfl, rfl, by decide +kernel, rfl, by decide +kernel, by decide +kernel⟩
theorem bd__law_far {K : PySem.W.Frag} {f : Addr} {fd : FuncData} (F : L2.Fun K "_law_far" "_law_far" s__law_far f fd) : L2.Binds K fd ["_law_jar_here"] [] := F.binds (ps := ["_law_jar_here"]) fun _ _ _ _ _ _ us hl => match us, hl with | [_], _ => rfl
abbrev s__law_parted : Stmt := topS 76
theorem sc__law_parted : FnScope ["_law_jar_here", "_law_rows", "_law_turn", "_law_r", "_law_n", "_law_m", "_law_k"] ["_law_jar_here"] (defScope s__law_parted) := ⟨rfl, rfl, rfl, by decide +kernel, rfl, by decide +kernel, by decide +kernel⟩
theorem bd__law_parted {K : PySem.W.Frag} {f : Addr} {fd : FuncData} (F : L2.Fun K "_law_parted" "_law_parted" s__law_parted f fd) : L2.Binds K fd ["_law_jar_here"] [] := F.binds (ps := ["_law_jar_here"]) fun _ _ _ _ _ _ us hl => match us, hl with | [_], _ => rfl
abbrev s__law_right : Stmt := topS 77
theorem sc__law_right : FnScope ["_law_jar_here", "_law_rows", "_law_top", "_law_k", "_law_less", "_law_lost", "_law_x", "_law_first", "_law_r", "_law_n"] ["_law_jar_here"] (defScope s__law_right) := ⟨rfl, rfl, rfl, by decide +kernel, rfl, by decide +kernel, by decide +kernel⟩
theorem bd__law_right {K : PySem.W.Frag} {f : Addr} {fd : FuncData} (F : L2.Fun K "_law_right" "_law_right" s__law_right f fd) : L2.Binds K fd ["_law_jar_here"] [] := F.binds (ps := ["_law_jar_here"]) fun _ _ _ _ _ _ us hl => match us, hl with | [_], _ => rfl
abbrev s_law : Stmt := topS 78
theorem sc_law : FnScope ["_law_cells", "_law_k"] ["_law_cells"] (defScope s_law) := ⟨rfl, rfl, rfl, by decide +kernel, rfl, by decide +kernel, by decide +kernel⟩
theorem bd_law {K : PySem.W.Frag} {f : Addr} {fd : FuncData} (F : L2.Fun K "law" "law" s_law f fd) : L2.Binds K fd ["_law_cells"] [] := F.binds (ps := ["_law_cells"]) fun _ _ _ _ _ _ us hl => match us, hl with | [_], _ => rfl
/-! ### the top -/
structure Top (K : PySem.W.Frag) (mg : Str → Option Value) : Prop where
  d_is_integer : At K mg "is_integer" s_is_integer
  d_is_within : At K mg "is_within" s_is_within
  d_check_within : At K mg "check_within" s_check_within
  d_check_number : At K mg "check_number" s_check_number
  d_check_index : At K mg "check_index" s_check_index
  d_is_fact : At K mg "is_fact" s_is_fact
  d_check_lamps : At K mg "check_lamps" s_check_lamps
  d__check_each_fact : At K mg "_check_each_fact" s__check_each_fact
  d__first_wrong_fact : At K mg "_first_wrong_fact" s__first_wrong_fact
  d_bezout : At K mg "bezout" s_bezout
  d_inverse : At K mg "inverse" s_inverse
  d_is_fitting : At K mg "is_fitting" s_is_fitting
  d_are_quarrelling : At K mg "are_quarrelling" s_are_quarrelling
  d_along : At K mg "along" s_along
  d_merged : At K mg "merged" s_merged
  d_common_base : At K mg "common_base" s_common_base
  d_count_between : At K mg "count_between" s_count_between
  d_quarrelling_pairs : At K mg "quarrelling_pairs" s_quarrelling_pairs
  d_index_sets : At K mg "index_sets" s_index_sets
  d_joined_sets : At K mg "joined_sets" s_joined_sets
  d_least_sets : ∃ c P, AtC K mg "least_sets" s_least_sets c ∧ PySem.W.tabIn K "least_sets" = some (c, P)
  d_is_lit : At K mg "is_lit" s_is_lit
  d_window_of : At K mg "window_of" s_window_of
  d_first_dark : At K mg "first_dark" s_first_dark
  d_is_lit_along : At K mg "is_lit_along" s_is_lit_along
  d_weighed_facts : At K mg "weighed_facts" s_weighed_facts
  d_count_weighed : At K mg "count_weighed" s_count_weighed
  d_share_weighed : At K mg "share_weighed" s_share_weighed
  d_dark_at : At K mg "dark_at" s_dark_at
  d_covers : At K mg "covers" s_covers
  d_are_exact : At K mg "are_exact" s_are_exact
  d_needless_lamps : At K mg "needless_lamps" s_needless_lamps
  d_least_covers : At K mg "least_covers" s_least_covers
  d__is_needless : At K mg "_is_needless" s__is_needless
  d__lit_places : At K mg "_lit_places" s__lit_places
  d_dark_from : At K mg "dark_from" s_dark_from
  d_nth_dark : At K mg "nth_dark" s_nth_dark
  d_dark_share : At K mg "dark_share" s_dark_share
  d_share_lit : At K mg "share_lit" s_share_lit
  d_longest_lit : At K mg "longest_lit" s_longest_lit
  d__law_cell : At K mg "_law_cell" s__law_cell
  d__law_jar : At K mg "_law_jar" s__law_jar
  d__law_dig : At K mg "_law_dig" s__law_dig
  d__law_take : At K mg "_law_take" s__law_take
  d__law_far : At K mg "_law_far" s__law_far
  d__law_parted : At K mg "_law_parted" s__law_parted
  d__law_right : At K mg "_law_right" s__law_right
  d_law : At K mg "law" s_law
  m_comb : mg "comb" = some (.builtin "math.comb")
  m_gcd : mg "gcd" = some (.builtin "math.gcd")
  m_lcm : mg "lcm" = some (.builtin "math.lcm")
  c_MOST_NUMBER : ∃ t, mg "MOST_NUMBER" = some (.int (10000000000000000000000000000000000000000) t)
  c_MOST_FACT : ∃ t, mg "MOST_FACT" = some (.int (1000000000000000000000000000000) t)
  c_MOST_LAMPS : ∃ t, mg "MOST_LAMPS" = some (.int (12) t)
  b_abs : mg "abs" = none
  b_all : mg "all" = none
  b_any : mg "any" = none
  b_bool : mg "bool" = none
  b_divmod : mg "divmod" = none
  b_enumerate : mg "enumerate" = none
  b_int : mg "int" = none
  b_isinstance : mg "isinstance" = none
  b_len : mg "len" = none
  b_max : mg "max" = none
  b_min : mg "min" = none
  b_range : mg "range" = none
  b_sorted : mg "sorted" = none
  b_sum : mg "sum" = none
  b_tuple : mg "tuple" = none
  b_zip : mg "zip" = none
/-! ### the exceptions -/
/-! ### the end -/
theorem top_mk {K : PySem.W.Frag} {h : Heap} {mg : Str → Option Value} (X : K.In h) (G : h.Ns mainGlobals mg)
    {f0 : Addr} {od0 an0 : Option Addr} {sl0 : Array (Option Value)} {oc0 kV0 dc0 pm0 cd0 ct0 : Value}
    {f1 : Addr} {od1 an1 : Option Addr} {sl1 : Array (Option Value)} {oc1 kV1 dc1 pm1 cd1 ct1 : Value}
    {f2 : Addr} {od2 an2 : Option Addr} {sl2 : Array (Option Value)} {oc2 kV2 dc2 pm2 cd2 ct2 : Value}
    {f3 : Addr} {od3 an3 : Option Addr} {sl3 : Array (Option Value)} {oc3 kV3 dc3 pm3 cd3 ct3 : Value}
    {f4 : Addr} {od4 an4 : Option Addr} {sl4 : Array (Option Value)} {oc4 kV4 dc4 pm4 cd4 ct4 : Value}
    {f5 : Addr} {od5 an5 : Option Addr} {sl5 : Array (Option Value)} {oc5 kV5 dc5 pm5 cd5 ct5 : Value}
    {f6 : Addr} {od6 an6 : Option Addr} {sl6 : Array (Option Value)} {oc6 kV6 dc6 pm6 cd6 ct6 : Value}
    {f7 : Addr} {od7 an7 : Option Addr} {sl7 : Array (Option Value)} {oc7 kV7 dc7 pm7 cd7 ct7 : Value}
    {f8 : Addr} {od8 an8 : Option Addr} {sl8 : Array (Option Value)} {oc8 kV8 dc8 pm8 cd8 ct8 : Value}
    {f9 : Addr} {od9 an9 : Option Addr} {sl9 : Array (Option Value)} {oc9 kV9 dc9 pm9 cd9 ct9 : Value}
    {f10 : Addr} {od10 an10 : Option Addr} {sl10 : Array (Option Value)} {oc10 kV10 dc10 pm10 cd10 ct10 : Value}
    {f11 : Addr} {od11 an11 : Option Addr} {sl11 : Array (Option Value)} {oc11 kV11 dc11 pm11 cd11 ct11 : Value}
    {f12 : Addr} {od12 an12 : Option Addr} {sl12 : Array (Option Value)} {oc12 kV12 dc12 pm12 cd12 ct12 : Value}
    {f13 : Addr} {od13 an13 : Option Addr} {sl13 : Array (Option Value)} {oc13 kV13 dc13 pm13 cd13 ct13 : Value}
    {f14 : Addr} {od14 an14 : Option Addr} {sl14 : Array (Option Value)} {oc14 kV14 dc14 pm14 cd14 ct14 : Value}
    {f15 : Addr} {od15 an15 : Option Addr} {sl15 : Array (Option Value)} {oc15 kV15 dc15 pm15 cd15 ct15 : Value}
    {f16 : Addr} {od16 an16 : Option Addr} {sl16 : Array (Option Value)} {oc16 kV16 dc16 pm16 cd16 ct16 : Value}
    {f17 : Addr} {od17 an17 : Option Addr} {sl17 : Array (Option Value)} {oc17 kV17 dc17 pm17 cd17 ct17 : Value}
    {f18 : Addr} {od18 an18 : Option Addr} {sl18 : Array (Option Value)} {oc18 kV18 dc18 pm18 cd18 ct18 : Value}
    {f19 : Addr} {od19 an19 : Option Addr} {sl19 : Array (Option Value)} {oc19 kV19 dc19 pm19 cd19 ct19 : Value}
    {f20 c20 P20 : Addr} {od20 an20 : Option Addr} {sl20 : Array (Option Value)} {oc20 kV20 dc20 pm20 ct20 ocC20 : Value} {odC20 : Option Addr} {vsC20 : Array Value} {slC20 : Array (Option Value)}
    {f21 : Addr} {od21 an21 : Option Addr} {sl21 : Array (Option Value)} {oc21 kV21 dc21 pm21 cd21 ct21 : Value}
    {f22 : Addr} {od22 an22 : Option Addr} {sl22 : Array (Option Value)} {oc22 kV22 dc22 pm22 cd22 ct22 : Value}
    {f23 : Addr} {od23 an23 : Option Addr} {sl23 : Array (Option Value)} {oc23 kV23 dc23 pm23 cd23 ct23 : Value}
    {f24 : Addr} {od24 an24 : Option Addr} {sl24 : Array (Option Value)} {oc24 kV24 dc24 pm24 cd24 ct24 : Value}
    {f25 : Addr} {od25 an25 : Option Addr} {sl25 : Array (Option Value)} {oc25 kV25 dc25 pm25 cd25 ct25 : Value}
    {f26 : Addr} {od26 an26 : Option Addr} {sl26 : Array (Option Value)} {oc26 kV26 dc26 pm26 cd26 ct26 : Value}
    {f27 : Addr} {od27 an27 : Option Addr} {sl27 : Array (Option Value)} {oc27 kV27 dc27 pm27 cd27 ct27 : Value}
    {f28 : Addr} {od28 an28 : Option Addr} {sl28 : Array (Option Value)} {oc28 kV28 dc28 pm28 cd28 ct28 : Value}
    {f29 : Addr} {od29 an29 : Option Addr} {sl29 : Array (Option Value)} {oc29 kV29 dc29 pm29 cd29 ct29 : Value}
    {f30 : Addr} {od30 an30 : Option Addr} {sl30 : Array (Option Value)} {oc30 kV30 dc30 pm30 cd30 ct30 : Value}
    {f31 : Addr} {od31 an31 : Option Addr} {sl31 : Array (Option Value)} {oc31 kV31 dc31 pm31 cd31 ct31 : Value}
    {f32 : Addr} {od32 an32 : Option Addr} {sl32 : Array (Option Value)} {oc32 kV32 dc32 pm32 cd32 ct32 : Value}
    {f33 : Addr} {od33 an33 : Option Addr} {sl33 : Array (Option Value)} {oc33 kV33 dc33 pm33 cd33 ct33 : Value}
    {f34 : Addr} {od34 an34 : Option Addr} {sl34 : Array (Option Value)} {oc34 kV34 dc34 pm34 cd34 ct34 : Value}
    {f35 : Addr} {od35 an35 : Option Addr} {sl35 : Array (Option Value)} {oc35 kV35 dc35 pm35 cd35 ct35 : Value}
    {f36 : Addr} {od36 an36 : Option Addr} {sl36 : Array (Option Value)} {oc36 kV36 dc36 pm36 cd36 ct36 : Value}
    {f37 : Addr} {od37 an37 : Option Addr} {sl37 : Array (Option Value)} {oc37 kV37 dc37 pm37 cd37 ct37 : Value}
    {f38 : Addr} {od38 an38 : Option Addr} {sl38 : Array (Option Value)} {oc38 kV38 dc38 pm38 cd38 ct38 : Value}
    {f39 : Addr} {od39 an39 : Option Addr} {sl39 : Array (Option Value)} {oc39 kV39 dc39 pm39 cd39 ct39 : Value}
    {f40 : Addr} {od40 an40 : Option Addr} {sl40 : Array (Option Value)} {oc40 kV40 dc40 pm40 cd40 ct40 : Value}
    {f41 : Addr} {od41 an41 : Option Addr} {sl41 : Array (Option Value)} {oc41 kV41 dc41 pm41 cd41 ct41 : Value}
    {f42 : Addr} {od42 an42 : Option Addr} {sl42 : Array (Option Value)} {oc42 kV42 dc42 pm42 cd42 ct42 : Value}
    {f43 : Addr} {od43 an43 : Option Addr} {sl43 : Array (Option Value)} {oc43 kV43 dc43 pm43 cd43 ct43 : Value}
    {f44 : Addr} {od44 an44 : Option Addr} {sl44 : Array (Option Value)} {oc44 kV44 dc44 pm44 cd44 ct44 : Value}
    {f45 : Addr} {od45 an45 : Option Addr} {sl45 : Array (Option Value)} {oc45 kV45 dc45 pm45 cd45 ct45 : Value}
    {f46 : Addr} {od46 an46 : Option Addr} {sl46 : Array (Option Value)} {oc46 kV46 dc46 pm46 cd46 ct46 : Value}
    {f47 : Addr} {od47 an47 : Option Addr} {sl47 : Array (Option Value)} {oc47 kV47 dc47 pm47 cd47 ct47 : Value}
    {t_MOST_NUMBER : Tok}
    {t_MOST_FACT : Tok}
    {t_MOST_LAMPS : Tok}
    (a0 : PySem.W.nsIn K mainGlobals "is_integer" = some (some (.ref f0))) (l0 : K.lookup f0 = some ⟨oc0, od0, .func (PySem.W.fnOf "is_integer" "is_integer" (defArgs s_is_integer) (defBody s_is_integer) (defScope s_is_integer) .none kV0 dc0 pm0 an0 cd0 ct0), sl0⟩) (c0 : PySem.W.codeIn K cd0 "is_integer" = true) (k0 : PySem.W.keepIn K (.ref f0) = true)
    (a1 : PySem.W.nsIn K mainGlobals "is_within" = some (some (.ref f1))) (l1 : K.lookup f1 = some ⟨oc1, od1, .func (PySem.W.fnOf "is_within" "is_within" (defArgs s_is_within) (defBody s_is_within) (defScope s_is_within) .none kV1 dc1 pm1 an1 cd1 ct1), sl1⟩) (c1 : PySem.W.codeIn K cd1 "is_within" = true) (k1 : PySem.W.keepIn K (.ref f1) = true)
    (a2 : PySem.W.nsIn K mainGlobals "check_within" = some (some (.ref f2))) (l2 : K.lookup f2 = some ⟨oc2, od2, .func (PySem.W.fnOf "check_within" "check_within" (defArgs s_check_within) (defBody s_check_within) (defScope s_check_within) .none kV2 dc2 pm2 an2 cd2 ct2), sl2⟩) (c2 : PySem.W.codeIn K cd2 "check_within" = true) (k2 : PySem.W.keepIn K (.ref f2) = true)
    (a3 : PySem.W.nsIn K mainGlobals "check_number" = some (some (.ref f3))) (l3 : K.lookup f3 = some ⟨oc3, od3, .func (PySem.W.fnOf "check_number" "check_number" (defArgs s_check_number) (defBody s_check_number) (defScope s_check_number) .none kV3 dc3 pm3 an3 cd3 ct3), sl3⟩) (c3 : PySem.W.codeIn K cd3 "check_number" = true) (k3 : PySem.W.keepIn K (.ref f3) = true)
    (a4 : PySem.W.nsIn K mainGlobals "check_index" = some (some (.ref f4))) (l4 : K.lookup f4 = some ⟨oc4, od4, .func (PySem.W.fnOf "check_index" "check_index" (defArgs s_check_index) (defBody s_check_index) (defScope s_check_index) .none kV4 dc4 pm4 an4 cd4 ct4), sl4⟩) (c4 : PySem.W.codeIn K cd4 "check_index" = true) (k4 : PySem.W.keepIn K (.ref f4) = true)
    (a5 : PySem.W.nsIn K mainGlobals "is_fact" = some (some (.ref f5))) (l5 : K.lookup f5 = some ⟨oc5, od5, .func (PySem.W.fnOf "is_fact" "is_fact" (defArgs s_is_fact) (defBody s_is_fact) (defScope s_is_fact) .none kV5 dc5 pm5 an5 cd5 ct5), sl5⟩) (c5 : PySem.W.codeIn K cd5 "is_fact" = true) (k5 : PySem.W.keepIn K (.ref f5) = true)
    (a6 : PySem.W.nsIn K mainGlobals "check_lamps" = some (some (.ref f6))) (l6 : K.lookup f6 = some ⟨oc6, od6, .func (PySem.W.fnOf "check_lamps" "check_lamps" (defArgs s_check_lamps) (defBody s_check_lamps) (defScope s_check_lamps) .none kV6 dc6 pm6 an6 cd6 ct6), sl6⟩) (c6 : PySem.W.codeIn K cd6 "check_lamps" = true) (k6 : PySem.W.keepIn K (.ref f6) = true)
    (a7 : PySem.W.nsIn K mainGlobals "_check_each_fact" = some (some (.ref f7))) (l7 : K.lookup f7 = some ⟨oc7, od7, .func (PySem.W.fnOf "_check_each_fact" "_check_each_fact" (defArgs s__check_each_fact) (defBody s__check_each_fact) (defScope s__check_each_fact) .none kV7 dc7 pm7 an7 cd7 ct7), sl7⟩) (c7 : PySem.W.codeIn K cd7 "_check_each_fact" = true) (k7 : PySem.W.keepIn K (.ref f7) = true)
    (a8 : PySem.W.nsIn K mainGlobals "_first_wrong_fact" = some (some (.ref f8))) (l8 : K.lookup f8 = some ⟨oc8, od8, .func (PySem.W.fnOf "_first_wrong_fact" "_first_wrong_fact" (defArgs s__first_wrong_fact) (defBody s__first_wrong_fact) (defScope s__first_wrong_fact) .none kV8 dc8 pm8 an8 cd8 ct8), sl8⟩) (c8 : PySem.W.codeIn K cd8 "_first_wrong_fact" = true) (k8 : PySem.W.keepIn K (.ref f8) = true)
    (a9 : PySem.W.nsIn K mainGlobals "bezout" = some (some (.ref f9))) (l9 : K.lookup f9 = some ⟨oc9, od9, .func (PySem.W.fnOf "bezout" "bezout" (defArgs s_bezout) (defBody s_bezout) (defScope s_bezout) .none kV9 dc9 pm9 an9 cd9 ct9), sl9⟩) (c9 : PySem.W.codeIn K cd9 "bezout" = true) (k9 : PySem.W.keepIn K (.ref f9) = true)
    (a10 : PySem.W.nsIn K mainGlobals "inverse" = some (some (.ref f10))) (l10 : K.lookup f10 = some ⟨oc10, od10, .func (PySem.W.fnOf "inverse" "inverse" (defArgs s_inverse) (defBody s_inverse) (defScope s_inverse) .none kV10 dc10 pm10 an10 cd10 ct10), sl10⟩) (c10 : PySem.W.codeIn K cd10 "inverse" = true) (k10 : PySem.W.keepIn K (.ref f10) = true)
    (a11 : PySem.W.nsIn K mainGlobals "is_fitting" = some (some (.ref f11))) (l11 : K.lookup f11 = some ⟨oc11, od11, .func (PySem.W.fnOf "is_fitting" "is_fitting" (defArgs s_is_fitting) (defBody s_is_fitting) (defScope s_is_fitting) .none kV11 dc11 pm11 an11 cd11 ct11), sl11⟩) (c11 : PySem.W.codeIn K cd11 "is_fitting" = true) (k11 : PySem.W.keepIn K (.ref f11) = true)
    (a12 : PySem.W.nsIn K mainGlobals "are_quarrelling" = some (some (.ref f12))) (l12 : K.lookup f12 = some ⟨oc12, od12, .func (PySem.W.fnOf "are_quarrelling" "are_quarrelling" (defArgs s_are_quarrelling) (defBody s_are_quarrelling) (defScope s_are_quarrelling) .none kV12 dc12 pm12 an12 cd12 ct12), sl12⟩) (c12 : PySem.W.codeIn K cd12 "are_quarrelling" = true) (k12 : PySem.W.keepIn K (.ref f12) = true)
    (a13 : PySem.W.nsIn K mainGlobals "along" = some (some (.ref f13))) (l13 : K.lookup f13 = some ⟨oc13, od13, .func (PySem.W.fnOf "along" "along" (defArgs s_along) (defBody s_along) (defScope s_along) .none kV13 dc13 pm13 an13 cd13 ct13), sl13⟩) (c13 : PySem.W.codeIn K cd13 "along" = true) (k13 : PySem.W.keepIn K (.ref f13) = true)
    (a14 : PySem.W.nsIn K mainGlobals "merged" = some (some (.ref f14))) (l14 : K.lookup f14 = some ⟨oc14, od14, .func (PySem.W.fnOf "merged" "merged" (defArgs s_merged) (defBody s_merged) (defScope s_merged) .none kV14 dc14 pm14 an14 cd14 ct14), sl14⟩) (c14 : PySem.W.codeIn K cd14 "merged" = true) (k14 : PySem.W.keepIn K (.ref f14) = true)
    (a15 : PySem.W.nsIn K mainGlobals "common_base" = some (some (.ref f15))) (l15 : K.lookup f15 = some ⟨oc15, od15, .func (PySem.W.fnOf "common_base" "common_base" (defArgs s_common_base) (defBody s_common_base) (defScope s_common_base) .none kV15 dc15 pm15 an15 cd15 ct15), sl15⟩) (c15 : PySem.W.codeIn K cd15 "common_base" = true) (k15 : PySem.W.keepIn K (.ref f15) = true)
    (a16 : PySem.W.nsIn K mainGlobals "count_between" = some (some (.ref f16))) (l16 : K.lookup f16 = some ⟨oc16, od16, .func (PySem.W.fnOf "count_between" "count_between" (defArgs s_count_between) (defBody s_count_between) (defScope s_count_between) .none kV16 dc16 pm16 an16 cd16 ct16), sl16⟩) (c16 : PySem.W.codeIn K cd16 "count_between" = true) (k16 : PySem.W.keepIn K (.ref f16) = true)
    (a17 : PySem.W.nsIn K mainGlobals "quarrelling_pairs" = some (some (.ref f17))) (l17 : K.lookup f17 = some ⟨oc17, od17, .func (PySem.W.fnOf "quarrelling_pairs" "quarrelling_pairs" (defArgs s_quarrelling_pairs) (defBody s_quarrelling_pairs) (defScope s_quarrelling_pairs) .none kV17 dc17 pm17 an17 cd17 ct17), sl17⟩) (c17 : PySem.W.codeIn K cd17 "quarrelling_pairs" = true) (k17 : PySem.W.keepIn K (.ref f17) = true)
    (a18 : PySem.W.nsIn K mainGlobals "index_sets" = some (some (.ref f18))) (l18 : K.lookup f18 = some ⟨oc18, od18, .func (PySem.W.fnOf "index_sets" "index_sets" (defArgs s_index_sets) (defBody s_index_sets) (defScope s_index_sets) .none kV18 dc18 pm18 an18 cd18 ct18), sl18⟩) (c18 : PySem.W.codeIn K cd18 "index_sets" = true) (k18 : PySem.W.keepIn K (.ref f18) = true)
    (a19 : PySem.W.nsIn K mainGlobals "joined_sets" = some (some (.ref f19))) (l19 : K.lookup f19 = some ⟨oc19, od19, .func (PySem.W.fnOf "joined_sets" "joined_sets" (defArgs s_joined_sets) (defBody s_joined_sets) (defScope s_joined_sets) .none kV19 dc19 pm19 an19 cd19 ct19), sl19⟩) (c19 : PySem.W.codeIn K cd19 "joined_sets" = true) (k19 : PySem.W.keepIn K (.ref f19) = true)
    (a20 : PySem.W.nsIn K mainGlobals "least_sets" = some (some (.ref f20))) (l20 : K.lookup f20 = some ⟨oc20, od20, .func (PySem.W.fnOf "least_sets" "least_sets" (defArgs s_least_sets) (defBody s_least_sets) (defScope s_least_sets) .none kV20 dc20 pm20 an20 (.ref c20) ct20), sl20⟩) (c20_ : PySem.W.codeIn K (.ref c20) "least_sets" = true) (k20 : PySem.W.keepIn K (.ref f20) = true) (y20 : K.lookup c20 = some ⟨ocC20, odC20, .fields vsC20, slC20⟩) (z20 : (vsC20[11]? : Option Value) = some (.ref P20))
    (a21 : PySem.W.nsIn K mainGlobals "is_lit" = some (some (.ref f21))) (l21 : K.lookup f21 = some ⟨oc21, od21, .func (PySem.W.fnOf "is_lit" "is_lit" (defArgs s_is_lit) (defBody s_is_lit) (defScope s_is_lit) .none kV21 dc21 pm21 an21 cd21 ct21), sl21⟩) (c21 : PySem.W.codeIn K cd21 "is_lit" = true) (k21 : PySem.W.keepIn K (.ref f21) = true)
    (a22 : PySem.W.nsIn K mainGlobals "window_of" = some (some (.ref f22))) (l22 : K.lookup f22 = some ⟨oc22, od22, .func (PySem.W.fnOf "window_of" "window_of" (defArgs s_window_of) (defBody s_window_of) (defScope s_window_of) .none kV22 dc22 pm22 an22 cd22 ct22), sl22⟩) (c22 : PySem.W.codeIn K cd22 "window_of" = true) (k22 : PySem.W.keepIn K (.ref f22) = true)
    (a23 : PySem.W.nsIn K mainGlobals "first_dark" = some (some (.ref f23))) (l23 : K.lookup f23 = some ⟨oc23, od23, .func (PySem.W.fnOf "first_dark" "first_dark" (defArgs s_first_dark) (defBody s_first_dark) (defScope s_first_dark) .none kV23 dc23 pm23 an23 cd23 ct23), sl23⟩) (c23 : PySem.W.codeIn K cd23 "first_dark" = true) (k23 : PySem.W.keepIn K (.ref f23) = true)
    (a24 : PySem.W.nsIn K mainGlobals "is_lit_along" = some (some (.ref f24))) (l24 : K.lookup f24 = some ⟨oc24, od24, .func (PySem.W.fnOf "is_lit_along" "is_lit_along" (defArgs s_is_lit_along) (defBody s_is_lit_along) (defScope s_is_lit_along) .none kV24 dc24 pm24 an24 cd24 ct24), sl24⟩) (c24 : PySem.W.codeIn K cd24 "is_lit_along" = true) (k24 : PySem.W.keepIn K (.ref f24) = true)
    (a25 : PySem.W.nsIn K mainGlobals "weighed_facts" = some (some (.ref f25))) (l25 : K.lookup f25 = some ⟨oc25, od25, .func (PySem.W.fnOf "weighed_facts" "weighed_facts" (defArgs s_weighed_facts) (defBody s_weighed_facts) (defScope s_weighed_facts) .none kV25 dc25 pm25 an25 cd25 ct25), sl25⟩) (c25 : PySem.W.codeIn K cd25 "weighed_facts" = true) (k25 : PySem.W.keepIn K (.ref f25) = true)
    (a26 : PySem.W.nsIn K mainGlobals "count_weighed" = some (some (.ref f26))) (l26 : K.lookup f26 = some ⟨oc26, od26, .func (PySem.W.fnOf "count_weighed" "count_weighed" (defArgs s_count_weighed) (defBody s_count_weighed) (defScope s_count_weighed) .none kV26 dc26 pm26 an26 cd26 ct26), sl26⟩) (c26 : PySem.W.codeIn K cd26 "count_weighed" = true) (k26 : PySem.W.keepIn K (.ref f26) = true)
    (a27 : PySem.W.nsIn K mainGlobals "share_weighed" = some (some (.ref f27))) (l27 : K.lookup f27 = some ⟨oc27, od27, .func (PySem.W.fnOf "share_weighed" "share_weighed" (defArgs s_share_weighed) (defBody s_share_weighed) (defScope s_share_weighed) .none kV27 dc27 pm27 an27 cd27 ct27), sl27⟩) (c27 : PySem.W.codeIn K cd27 "share_weighed" = true) (k27 : PySem.W.keepIn K (.ref f27) = true)
    (a28 : PySem.W.nsIn K mainGlobals "dark_at" = some (some (.ref f28))) (l28 : K.lookup f28 = some ⟨oc28, od28, .func (PySem.W.fnOf "dark_at" "dark_at" (defArgs s_dark_at) (defBody s_dark_at) (defScope s_dark_at) .none kV28 dc28 pm28 an28 cd28 ct28), sl28⟩) (c28 : PySem.W.codeIn K cd28 "dark_at" = true) (k28 : PySem.W.keepIn K (.ref f28) = true)
    (a29 : PySem.W.nsIn K mainGlobals "covers" = some (some (.ref f29))) (l29 : K.lookup f29 = some ⟨oc29, od29, .func (PySem.W.fnOf "covers" "covers" (defArgs s_covers) (defBody s_covers) (defScope s_covers) .none kV29 dc29 pm29 an29 cd29 ct29), sl29⟩) (c29 : PySem.W.codeIn K cd29 "covers" = true) (k29 : PySem.W.keepIn K (.ref f29) = true)
    (a30 : PySem.W.nsIn K mainGlobals "are_exact" = some (some (.ref f30))) (l30 : K.lookup f30 = some ⟨oc30, od30, .func (PySem.W.fnOf "are_exact" "are_exact" (defArgs s_are_exact) (defBody s_are_exact) (defScope s_are_exact) .none kV30 dc30 pm30 an30 cd30 ct30), sl30⟩) (c30 : PySem.W.codeIn K cd30 "are_exact" = true) (k30 : PySem.W.keepIn K (.ref f30) = true)
    (a31 : PySem.W.nsIn K mainGlobals "needless_lamps" = some (some (.ref f31))) (l31 : K.lookup f31 = some ⟨oc31, od31, .func (PySem.W.fnOf "needless_lamps" "needless_lamps" (defArgs s_needless_lamps) (defBody s_needless_lamps) (defScope s_needless_lamps) .none kV31 dc31 pm31 an31 cd31 ct31), sl31⟩) (c31 : PySem.W.codeIn K cd31 "needless_lamps" = true) (k31 : PySem.W.keepIn K (.ref f31) = true)
    (a32 : PySem.W.nsIn K mainGlobals "least_covers" = some (some (.ref f32))) (l32 : K.lookup f32 = some ⟨oc32, od32, .func (PySem.W.fnOf "least_covers" "least_covers" (defArgs s_least_covers) (defBody s_least_covers) (defScope s_least_covers) .none kV32 dc32 pm32 an32 cd32 ct32), sl32⟩) (c32 : PySem.W.codeIn K cd32 "least_covers" = true) (k32 : PySem.W.keepIn K (.ref f32) = true)
    (a33 : PySem.W.nsIn K mainGlobals "_is_needless" = some (some (.ref f33))) (l33 : K.lookup f33 = some ⟨oc33, od33, .func (PySem.W.fnOf "_is_needless" "_is_needless" (defArgs s__is_needless) (defBody s__is_needless) (defScope s__is_needless) .none kV33 dc33 pm33 an33 cd33 ct33), sl33⟩) (c33 : PySem.W.codeIn K cd33 "_is_needless" = true) (k33 : PySem.W.keepIn K (.ref f33) = true)
    (a34 : PySem.W.nsIn K mainGlobals "_lit_places" = some (some (.ref f34))) (l34 : K.lookup f34 = some ⟨oc34, od34, .func (PySem.W.fnOf "_lit_places" "_lit_places" (defArgs s__lit_places) (defBody s__lit_places) (defScope s__lit_places) .none kV34 dc34 pm34 an34 cd34 ct34), sl34⟩) (c34 : PySem.W.codeIn K cd34 "_lit_places" = true) (k34 : PySem.W.keepIn K (.ref f34) = true)
    (a35 : PySem.W.nsIn K mainGlobals "dark_from" = some (some (.ref f35))) (l35 : K.lookup f35 = some ⟨oc35, od35, .func (PySem.W.fnOf "dark_from" "dark_from" (defArgs s_dark_from) (defBody s_dark_from) (defScope s_dark_from) .none kV35 dc35 pm35 an35 cd35 ct35), sl35⟩) (c35 : PySem.W.codeIn K cd35 "dark_from" = true) (k35 : PySem.W.keepIn K (.ref f35) = true)
    (a36 : PySem.W.nsIn K mainGlobals "nth_dark" = some (some (.ref f36))) (l36 : K.lookup f36 = some ⟨oc36, od36, .func (PySem.W.fnOf "nth_dark" "nth_dark" (defArgs s_nth_dark) (defBody s_nth_dark) (defScope s_nth_dark) .none kV36 dc36 pm36 an36 cd36 ct36), sl36⟩) (c36 : PySem.W.codeIn K cd36 "nth_dark" = true) (k36 : PySem.W.keepIn K (.ref f36) = true)
    (a37 : PySem.W.nsIn K mainGlobals "dark_share" = some (some (.ref f37))) (l37 : K.lookup f37 = some ⟨oc37, od37, .func (PySem.W.fnOf "dark_share" "dark_share" (defArgs s_dark_share) (defBody s_dark_share) (defScope s_dark_share) .none kV37 dc37 pm37 an37 cd37 ct37), sl37⟩) (c37 : PySem.W.codeIn K cd37 "dark_share" = true) (k37 : PySem.W.keepIn K (.ref f37) = true)
    (a38 : PySem.W.nsIn K mainGlobals "share_lit" = some (some (.ref f38))) (l38 : K.lookup f38 = some ⟨oc38, od38, .func (PySem.W.fnOf "share_lit" "share_lit" (defArgs s_share_lit) (defBody s_share_lit) (defScope s_share_lit) .none kV38 dc38 pm38 an38 cd38 ct38), sl38⟩) (c38 : PySem.W.codeIn K cd38 "share_lit" = true) (k38 : PySem.W.keepIn K (.ref f38) = true)
    (a39 : PySem.W.nsIn K mainGlobals "longest_lit" = some (some (.ref f39))) (l39 : K.lookup f39 = some ⟨oc39, od39, .func (PySem.W.fnOf "longest_lit" "longest_lit" (defArgs s_longest_lit) (defBody s_longest_lit) (defScope s_longest_lit) .none kV39 dc39 pm39 an39 cd39 ct39), sl39⟩) (c39 : PySem.W.codeIn K cd39 "longest_lit" = true) (k39 : PySem.W.keepIn K (.ref f39) = true)
    (a40 : PySem.W.nsIn K mainGlobals "_law_cell" = some (some (.ref f40))) (l40 : K.lookup f40 = some ⟨oc40, od40, .func (PySem.W.fnOf "_law_cell" "_law_cell" (defArgs s__law_cell) (defBody s__law_cell) (defScope s__law_cell) .none kV40 dc40 pm40 an40 cd40 ct40), sl40⟩) (c40 : PySem.W.codeIn K cd40 "_law_cell" = true) (k40 : PySem.W.keepIn K (.ref f40) = true)
    (a41 : PySem.W.nsIn K mainGlobals "_law_jar" = some (some (.ref f41))) (l41 : K.lookup f41 = some ⟨oc41, od41, .func (PySem.W.fnOf "_law_jar" "_law_jar" (defArgs s__law_jar) (defBody s__law_jar) (defScope s__law_jar) .none kV41 dc41 pm41 an41 cd41 ct41), sl41⟩) (c41 : PySem.W.codeIn K cd41 "_law_jar" = true) (k41 : PySem.W.keepIn K (.ref f41) = true)
    (a42 : PySem.W.nsIn K mainGlobals "_law_dig" = some (some (.ref f42))) (l42 : K.lookup f42 = some ⟨oc42, od42, .func (PySem.W.fnOf "_law_dig" "_law_dig" (defArgs s__law_dig) (defBody s__law_dig) (defScope s__law_dig) .none kV42 dc42 pm42 an42 cd42 ct42), sl42⟩) (c42 : PySem.W.codeIn K cd42 "_law_dig" = true) (k42 : PySem.W.keepIn K (.ref f42) = true)
    (a43 : PySem.W.nsIn K mainGlobals "_law_take" = some (some (.ref f43))) (l43 : K.lookup f43 = some ⟨oc43, od43, .func (PySem.W.fnOf "_law_take" "_law_take" (defArgs s__law_take) (defBody s__law_take) (defScope s__law_take) .none kV43 dc43 pm43 an43 cd43 ct43), sl43⟩) (c43 : PySem.W.codeIn K cd43 "_law_take" = true) (k43 : PySem.W.keepIn K (.ref f43) = true)
    (a44 : PySem.W.nsIn K mainGlobals "_law_far" = some (some (.ref f44))) (l44 : K.lookup f44 = some ⟨oc44, od44, .func (PySem.W.fnOf "_law_far" "_law_far" (defArgs s__law_far) (defBody s__law_far) (defScope s__law_far) .none kV44 dc44 pm44 an44 cd44 ct44), sl44⟩) (c44 : PySem.W.codeIn K cd44 "_law_far" = true) (k44 : PySem.W.keepIn K (.ref f44) = true)
    (a45 : PySem.W.nsIn K mainGlobals "_law_parted" = some (some (.ref f45))) (l45 : K.lookup f45 = some ⟨oc45, od45, .func (PySem.W.fnOf "_law_parted" "_law_parted" (defArgs s__law_parted) (defBody s__law_parted) (defScope s__law_parted) .none kV45 dc45 pm45 an45 cd45 ct45), sl45⟩) (c45 : PySem.W.codeIn K cd45 "_law_parted" = true) (k45 : PySem.W.keepIn K (.ref f45) = true)
    (a46 : PySem.W.nsIn K mainGlobals "_law_right" = some (some (.ref f46))) (l46 : K.lookup f46 = some ⟨oc46, od46, .func (PySem.W.fnOf "_law_right" "_law_right" (defArgs s__law_right) (defBody s__law_right) (defScope s__law_right) .none kV46 dc46 pm46 an46 cd46 ct46), sl46⟩) (c46 : PySem.W.codeIn K cd46 "_law_right" = true) (k46 : PySem.W.keepIn K (.ref f46) = true)
    (a47 : PySem.W.nsIn K mainGlobals "law" = some (some (.ref f47))) (l47 : K.lookup f47 = some ⟨oc47, od47, .func (PySem.W.fnOf "law" "law" (defArgs s_law) (defBody s_law) (defScope s_law) .none kV47 dc47 pm47 an47 cd47 ct47), sl47⟩) (c47 : PySem.W.codeIn K cd47 "law" = true) (k47 : PySem.W.keepIn K (.ref f47) = true)
    (m_comb : PySem.W.nsIn K mainGlobals "comb" = some (some (.builtin "math.comb")))
    (m_gcd : PySem.W.nsIn K mainGlobals "gcd" = some (some (.builtin "math.gcd")))
    (m_lcm : PySem.W.nsIn K mainGlobals "lcm" = some (some (.builtin "math.lcm")))
    (q_MOST_NUMBER : PySem.W.nsIn K mainGlobals "MOST_NUMBER" = some (some (.int (10000000000000000000000000000000000000000) t_MOST_NUMBER)))
    (q_MOST_FACT : PySem.W.nsIn K mainGlobals "MOST_FACT" = some (some (.int (1000000000000000000000000000000) t_MOST_FACT)))
    (q_MOST_LAMPS : PySem.W.nsIn K mainGlobals "MOST_LAMPS" = some (some (.int (12) t_MOST_LAMPS)))
    (b_abs : PySem.W.nsIn K mainGlobals "abs" = some none)
    (b_all : PySem.W.nsIn K mainGlobals "all" = some none)
    (b_any : PySem.W.nsIn K mainGlobals "any" = some none)
    (b_bool : PySem.W.nsIn K mainGlobals "bool" = some none)
    (b_divmod : PySem.W.nsIn K mainGlobals "divmod" = some none)
    (b_enumerate : PySem.W.nsIn K mainGlobals "enumerate" = some none)
    (b_int : PySem.W.nsIn K mainGlobals "int" = some none)
    (b_isinstance : PySem.W.nsIn K mainGlobals "isinstance" = some none)
    (b_len : PySem.W.nsIn K mainGlobals "len" = some none)
    (b_max : PySem.W.nsIn K mainGlobals "max" = some none)
    (b_min : PySem.W.nsIn K mainGlobals "min" = some none)
    (b_range : PySem.W.nsIn K mainGlobals "range" = some none)
    (b_sorted : PySem.W.nsIn K mainGlobals "sorted" = some none)
    (b_sum : PySem.W.nsIn K mainGlobals "sum" = some none)
    (b_tuple : PySem.W.nsIn K mainGlobals "tuple" = some none)
    (b_zip : PySem.W.nsIn K mainGlobals "zip" = some none) : Top K mg where
  d_is_integer := ⟨_, _, fun_mk (st := s_is_integer) l0 c0 k0, PySem.W.mg_of X G a0⟩
  d_is_within := ⟨_, _, fun_mk (st := s_is_within) l1 c1 k1, PySem.W.mg_of X G a1⟩
  d_check_within := ⟨_, _, fun_mk (st := s_check_within) l2 c2 k2, PySem.W.mg_of X G a2⟩
  d_check_number := ⟨_, _, fun_mk (st := s_check_number) l3 c3 k3, PySem.W.mg_of X G a3⟩
  d_check_index := ⟨_, _, fun_mk (st := s_check_index) l4 c4 k4, PySem.W.mg_of X G a4⟩
  d_is_fact := ⟨_, _, fun_mk (st := s_is_fact) l5 c5 k5, PySem.W.mg_of X G a5⟩
  d_check_lamps := ⟨_, _, fun_mk (st := s_check_lamps) l6 c6 k6, PySem.W.mg_of X G a6⟩
  d__check_each_fact := ⟨_, _, fun_mk (st := s__check_each_fact) l7 c7 k7, PySem.W.mg_of X G a7⟩
  d__first_wrong_fact := ⟨_, _, fun_mk (st := s__first_wrong_fact) l8 c8 k8, PySem.W.mg_of X G a8⟩
  d_bezout := ⟨_, _, fun_mk (st := s_bezout) l9 c9 k9, PySem.W.mg_of X G a9⟩
  d_inverse := ⟨_, _, fun_mk (st := s_inverse) l10 c10 k10, PySem.W.mg_of X G a10⟩
  d_is_fitting := ⟨_, _, fun_mk (st := s_is_fitting) l11 c11 k11, PySem.W.mg_of X G a11⟩
  d_are_quarrelling := ⟨_, _, fun_mk (st := s_are_quarrelling) l12 c12 k12, PySem.W.mg_of X G a12⟩
  d_along := ⟨_, _, fun_mk (st := s_along) l13 c13 k13, PySem.W.mg_of X G a13⟩
  d_merged := ⟨_, _, fun_mk (st := s_merged) l14 c14 k14, PySem.W.mg_of X G a14⟩
  d_common_base := ⟨_, _, fun_mk (st := s_common_base) l15 c15 k15, PySem.W.mg_of X G a15⟩
  d_count_between := ⟨_, _, fun_mk (st := s_count_between) l16 c16 k16, PySem.W.mg_of X G a16⟩
  d_quarrelling_pairs := ⟨_, _, fun_mk (st := s_quarrelling_pairs) l17 c17 k17, PySem.W.mg_of X G a17⟩
  d_index_sets := ⟨_, _, fun_mk (st := s_index_sets) l18 c18 k18, PySem.W.mg_of X G a18⟩
  d_joined_sets := ⟨_, _, fun_mk (st := s_joined_sets) l19 c19 k19, PySem.W.mg_of X G a19⟩
  d_least_sets := ⟨_, _, ⟨_, _, _, _, _, _, _, _, _, l20, c20_, k20, PySem.W.mg_of X G a20⟩, tabIn_of a20 l20 y20 z20⟩
  d_is_lit := ⟨_, _, fun_mk (st := s_is_lit) l21 c21 k21, PySem.W.mg_of X G a21⟩
  d_window_of := ⟨_, _, fun_mk (st := s_window_of) l22 c22 k22, PySem.W.mg_of X G a22⟩
  d_first_dark := ⟨_, _, fun_mk (st := s_first_dark) l23 c23 k23, PySem.W.mg_of X G a23⟩
  d_is_lit_along := ⟨_, _, fun_mk (st := s_is_lit_along) l24 c24 k24, PySem.W.mg_of X G a24⟩
  d_weighed_facts := ⟨_, _, fun_mk (st := s_weighed_facts) l25 c25 k25, PySem.W.mg_of X G a25⟩
  d_count_weighed := ⟨_, _, fun_mk (st := s_count_weighed) l26 c26 k26, PySem.W.mg_of X G a26⟩
  d_share_weighed := ⟨_, _, fun_mk (st := s_share_weighed) l27 c27 k27, PySem.W.mg_of X G a27⟩
  d_dark_at := ⟨_, _, fun_mk (st := s_dark_at) l28 c28 k28, PySem.W.mg_of X G a28⟩
  d_covers := ⟨_, _, fun_mk (st := s_covers) l29 c29 k29, PySem.W.mg_of X G a29⟩
  d_are_exact := ⟨_, _, fun_mk (st := s_are_exact) l30 c30 k30, PySem.W.mg_of X G a30⟩
  d_needless_lamps := ⟨_, _, fun_mk (st := s_needless_lamps) l31 c31 k31, PySem.W.mg_of X G a31⟩
  d_least_covers := ⟨_, _, fun_mk (st := s_least_covers) l32 c32 k32, PySem.W.mg_of X G a32⟩
  d__is_needless := ⟨_, _, fun_mk (st := s__is_needless) l33 c33 k33, PySem.W.mg_of X G a33⟩
  d__lit_places := ⟨_, _, fun_mk (st := s__lit_places) l34 c34 k34, PySem.W.mg_of X G a34⟩
  d_dark_from := ⟨_, _, fun_mk (st := s_dark_from) l35 c35 k35, PySem.W.mg_of X G a35⟩
  d_nth_dark := ⟨_, _, fun_mk (st := s_nth_dark) l36 c36 k36, PySem.W.mg_of X G a36⟩
  d_dark_share := ⟨_, _, fun_mk (st := s_dark_share) l37 c37 k37, PySem.W.mg_of X G a37⟩
  d_share_lit := ⟨_, _, fun_mk (st := s_share_lit) l38 c38 k38, PySem.W.mg_of X G a38⟩
  d_longest_lit := ⟨_, _, fun_mk (st := s_longest_lit) l39 c39 k39, PySem.W.mg_of X G a39⟩
  d__law_cell := ⟨_, _, fun_mk (st := s__law_cell) l40 c40 k40, PySem.W.mg_of X G a40⟩
  d__law_jar := ⟨_, _, fun_mk (st := s__law_jar) l41 c41 k41, PySem.W.mg_of X G a41⟩
  d__law_dig := ⟨_, _, fun_mk (st := s__law_dig) l42 c42 k42, PySem.W.mg_of X G a42⟩
  d__law_take := ⟨_, _, fun_mk (st := s__law_take) l43 c43 k43, PySem.W.mg_of X G a43⟩
  d__law_far := ⟨_, _, fun_mk (st := s__law_far) l44 c44 k44, PySem.W.mg_of X G a44⟩
  d__law_parted := ⟨_, _, fun_mk (st := s__law_parted) l45 c45 k45, PySem.W.mg_of X G a45⟩
  d__law_right := ⟨_, _, fun_mk (st := s__law_right) l46 c46 k46, PySem.W.mg_of X G a46⟩
  d_law := ⟨_, _, fun_mk (st := s_law) l47 c47 k47, PySem.W.mg_of X G a47⟩
  m_comb := PySem.W.mg_of X G m_comb
  m_gcd := PySem.W.mg_of X G m_gcd
  m_lcm := PySem.W.mg_of X G m_lcm
  c_MOST_NUMBER := ⟨_, PySem.W.mg_of X G q_MOST_NUMBER⟩
  c_MOST_FACT := ⟨_, PySem.W.mg_of X G q_MOST_FACT⟩
  c_MOST_LAMPS := ⟨_, PySem.W.mg_of X G q_MOST_LAMPS⟩
  b_abs := PySem.W.mg_none_of X G b_abs
  b_all := PySem.W.mg_none_of X G b_all
  b_any := PySem.W.mg_none_of X G b_any
  b_bool := PySem.W.mg_none_of X G b_bool
  b_divmod := PySem.W.mg_none_of X G b_divmod
  b_enumerate := PySem.W.mg_none_of X G b_enumerate
  b_int := PySem.W.mg_none_of X G b_int
  b_isinstance := PySem.W.mg_none_of X G b_isinstance
  b_len := PySem.W.mg_none_of X G b_len
  b_max := PySem.W.mg_none_of X G b_max
  b_min := PySem.W.mg_none_of X G b_min
  b_range := PySem.W.mg_none_of X G b_range
  b_sorted := PySem.W.mg_none_of X G b_sorted
  b_sum := PySem.W.mg_none_of X G b_sum
  b_tuple := PySem.W.mg_none_of X G b_tuple
  b_zip := PySem.W.mg_none_of X G b_zip
local macro_rules | `(tactic| walk_at "vat") => `(tactic| first
  | assumption
  | exact upd_same
  | (refine at_new (by assumption) ?_; walk_at "vat")
  | (refine at_same (by assumption) ?_; walk_at "vat")
  | (refine at_ne (by first | assumption | exact Ne.symm (by assumption)) ?_; walk_at "vat")
  | (refine at_kx (by assumption) (by first | assumption | exact Ne.symm (by assumption)) ?_; walk_at "vat"))
local macro_rules | `(tactic| walk_at "vsq") => `(tactic| first
  | assumption
  | (exact SqL.of (by walk_at "vat"))
  | (exact SqT.of (by walk_at "vat"))
  | (refine new_list (by assumption) ?_; walk_at "vsq")
  | (refine new_tup (by assumption) ?_; walk_at "vsq")
  | (refine Same.list (by assumption) ?_; walk_at "vsq")
  | (refine Same.tup (by assumption) ?_; walk_at "vsq")
  | (refine ne_list (by first | assumption | exact Ne.symm (by assumption)) ?_; walk_at "vsq")
  | (refine ne_tup (by first | assumption | exact Ne.symm (by assumption)) ?_; walk_at "vsq")
  | (refine Kx.list (by assumption) (by first | assumption | exact Ne.symm (by assumption)) ?_; walk_at "vsq")
  | (refine Kx.tup (by assumption) (by first | assumption | exact Ne.symm (by assumption)) ?_; walk_at "vsq"))
local macro_rules | `(tactic| walk_at "vsame") => `(tactic| first
  | exact Same.refl _
  | assumption
  | (refine Same.trans ?_ (Same.new (by assumption)); walk_at "vsame")
  | (refine Same.trans ?_ (by assumption); walk_at "vsame"))
local macro_rules | `(tactic| walk_at "vnone") => `(tactic| first
  | assumption
  | (refine none_up (by assumption))
  | (refine none_same (by assumption) ?_; walk_at "vnone"))
local macro_rules | `(tactic| walk_at "s") => `(tactic| first
  | (with_reducible refine r_seq ?_)
  | (with_reducible refine r_asg ?_)
  | (with_reducible refine r_name ?_)
  | ((with_reducible refine r_var (v := ?kv) ?k1 ?_); (case k1 => exact rfl))
  | (with_reducible refine r_c ?_)
  | (with_reducible refine r_yes ?_)
  | (with_reducible refine r_op ?_)
  | (with_reducible refine r_un ?_)
  | (with_reducible refine r_rI0 ?_)
  | (with_reducible refine r_rU ?_)
  | (with_reducible refine r_test ?_)
  | (with_reducible refine r_B ?_)
  | (with_reducible refine r_ret ?_)
  | (with_reducible refine r_drop ?_)
  | (with_reducible refine r_cons ?_)
  | (with_reducible refine r_nil ?_)
  | (with_reducible refine r_call ?_)
  | (with_reducible refine r_callK ?_)
  | (with_reducible refine r_callW ?_)
  | (with_reducible refine r_callKW ?_)
  | (with_reducible refine r_xf ?_)
  | (with_reducible refine r_forQ ?_)
  | (with_reducible refine r_lcQ ?_)
  | (with_reducible refine r_isn_ref ?_)
  | (with_reducible refine r_isn_int ?_)
  | (with_reducible refine r_isn_non ?_)
  | (with_reducible refine r_nn_ref ?_)
  | (with_reducible refine r_nn_int ?_)
  | (with_reducible refine r_nn_non ?_)
  | (with_reducible refine r_cb ?_)
  | (with_reducible refine r_tup ?_)
  | (with_reducible refine r_lst ?_)
  | (with_reducible refine r_and ?_)
  | (with_reducible refine r_or ?_)
  | (with_reducible refine r_not ?_)
  | (with_reducible refine r_andV ?_)
  | (with_reducible refine r_orV ?_)
  | (with_reducible refine r_notV ?_)
  | (with_reducible refine r_chain ?_)
  | (with_reducible refine r_gcd ?_)
  | (with_reducible refine r_abs ?_)
  | (with_reducible refine r_max2 ?_)
  | (with_reducible refine r_min2 ?_)
  | (with_reducible refine r_int1 ?_)
  | ((with_reducible refine r_lenL (xs := ?kx) ?k1 ?_); (case k1 => walk_at "vsq"))
  | ((with_reducible refine r_lenT (xs := ?kx) ?k1 ?_); (case k1 => walk_at "vsq"))
  | (with_reducible refine is_int_int ?_)
  | (with_reducible refine is_int_bool ?_)
  | (with_reducible refine is_int_tuple ?_)
  | (with_reducible refine is_int_list ?_)
  | (with_reducible refine is_int_str ?_)
  | (with_reducible refine is_bool_int ?_)
  | (with_reducible refine is_bool_bool ?_)
  | (with_reducible refine is_bool_tuple ?_)
  | (with_reducible refine is_bool_list ?_)
  | (with_reducible refine is_bool_str ?_)
  | (with_reducible refine is_NoneType_int ?_)
  | (with_reducible refine is_NoneType_bool ?_)
  | (with_reducible refine is_NoneType_tuple ?_)
  | (with_reducible refine is_NoneType_list ?_)
  | (with_reducible refine is_NoneType_str ?_)
  | (with_reducible refine is_str_int ?_)
  | (with_reducible refine is_str_bool ?_)
  | (with_reducible refine is_str_tuple ?_)
  | (with_reducible refine is_str_list ?_)
  | (with_reducible refine is_str_str ?_)
  | ((with_reducible refine is_tuple_int (xs := ?kx) ?k1 ?_); (case k1 => walk_at "vat"))
  | ((with_reducible refine is_tuple_bool (xs := ?kx) ?k1 ?_); (case k1 => walk_at "vat"))
  | ((with_reducible refine is_tuple_tuple (xs := ?kx) ?k1 ?_); (case k1 => walk_at "vat"))
  | ((with_reducible refine is_tuple_list (xs := ?kx) ?k1 ?_); (case k1 => walk_at "vat"))
  | ((with_reducible refine is_tuple_str (xs := ?kx) ?k1 ?_); (case k1 => walk_at "vat"))
  | ((with_reducible refine is_list_int (xs := ?kx) ?k1 ?_); (case k1 => walk_at "vat"))
  | ((with_reducible refine is_list_bool (xs := ?kx) ?k1 ?_); (case k1 => walk_at "vat"))
  | ((with_reducible refine is_list_tuple (xs := ?kx) ?k1 ?_); (case k1 => walk_at "vat"))
  | ((with_reducible refine is_list_list (xs := ?kx) ?k1 ?_); (case k1 => walk_at "vat"))
  | ((with_reducible refine is_list_str (xs := ?kx) ?k1 ?_); (case k1 => walk_at "vat"))
  | (with_reducible refine r_par ?_)
  | (with_reducible refine r_par3 ?_)
  | ((with_reducible refine r_aug (x := ?kv) ?k1 ?_); (case k1 => exact rfl))
  | (with_reducible refine r_ip ?_)
  | (with_reducible refine r_gsub ?_)
  | ((with_reducible refine r_gtup (xs := ?kx) ?k1 ?k2 ?_); (case k1 => walk_at "vsq"); (case k2 => exact rfl))
  | (with_reducible refine r_gcons ?_)
  | (with_reducible refine And.intro (small (Nat.le_of_ble_eq_true rfl)) (fun _ _ => ?_))
  | (with_reducible refine r_gnil ?_)
  | (with_reducible refine And.intro (Exists.intro _ (by walk_at "vsq")) ?_)
  | (with_reducible refine r_wb ?_)
  | (with_reducible refine r_for1 ?_)
  | (with_reducible refine r_for2 ?_)
  | (with_reducible refine r_forL ?_)
  | (with_reducible refine r_forT ?_)
  | (with_reducible refine r_lcR1 ?_)
  | (with_reducible refine r_lcR2 ?_)
  | (with_reducible refine r_lcL ?_)
  | (with_reducible refine r_lcT ?_)
  | (with_reducible refine r_lcZ3i ?_)
  | (with_reducible refine r_sl ?_)
  | (with_reducible refine r_noPart ?_)
  | (with_reducible refine r_part ?_)
  | (with_reducible refine r_forE ?_)
  | (with_reducible refine r_forZn ?_)
  | (with_reducible refine r_forZa ?_)
  | (with_reducible refine tru_int ?_)
  | (with_reducible refine r_bm ?_)
  | (with_reducible refine r_lc2R1 ?_)
  | (with_reducible refine r_next ?_)
  | (with_reducible refine r_break ?_)
  | (with_reducible refine r_cont ?_)
  | (with_reducible refine r_retN ?_)
  | (with_reducible refine Exists.intro _ (And.intro rfl ?_))
  | (with_reducible refine Exists.intro _ (Exists.intro _ (And.intro rfl ?_)))
  | (with_reducible refine Exists.intro _ (Exists.intro _ (And.intro rfl (And.intro rfl ?_))))
  | (with_reducible refine Exists.intro _ (Exists.intro _ (Exists.intro _ (And.intro rfl ?_))))
  | (with_reducible refine r_bits ?_)
  | (with_reducible refine r_dget ?_)
  | (with_reducible refine r_din ?_)
  | (with_reducible refine r_dput ?_)
  | (with_reducible refine r_dnew ?_)
  | (with_reducible refine r_lcZti ?_)
  | (with_reducible refine ifTT ?_)
  | (with_reducible refine ifFF ?_)
  | (with_reducible refine ifNT ?_)
  | (with_reducible refine ifNF ?_)
  | dsimp only)
local macro_rules | `(tactic| walk_at "go") => `(tactic| repeat walk_at "s")
local macro_rules | `(tactic| walk_at "gi") => `(tactic| repeat first | walk_at "s" | (with_reducible refine r_if ?_) | (with_reducible refine r_ifE ?_))
local macro_rules | `(tactic| walk_at "sti") => `(tactic| ((try dsimp only [cxOf]); walk_at "gi"))
local macro_rules | `(tactic| walk_at "st") => `(tactic| ((try dsimp only [cxOf]); walk_at "go"))
section
variable {P : Program} {w : World} {K : PySem.W.Frag} {mg : Str → Option Value} {base : Heap}
def sp_is_integer : Sp := fun vs H Q _ => ∃ i : Int, vs = [.int i] ∧ Q (.bl true) H
theorem ok_is_integer (T : Top K mg) : Ok P w K mg base 1 "is_integer" s_is_integer ["given"] sp_is_integer := by
  refine T.d_is_integer.ok sc_is_integer (fun vs H Q E h => ?_) (fun f cdv A outer s H vs Q E hg hr h => ?_)
  · obtain ⟨i, rfl, _⟩ := h
    rfl
  · obtain ⟨i, rfl, q⟩ := h
    refine ⟨_, (pss_one (ps_ret (pe_and (pe_callB (id := "isinstance") (c_isi rfl) (by rfl) T.b_isinstance (by decide +kernel) (pa_cons (pv 0) (pa_cons (pe_bltn (v := .ty "int") (by rfl) T.b_int (by decide +kernel) rfl) pa_nil))) (pe_one (pe_not (pe_callB (id := "isinstance") (c_isi rfl) (by rfl) T.b_isinstance (by decide +kernel) (pa_cons (pv 0) (pa_cons (pe_bltn (v := .ty "bool") (by rfl) T.b_bool (by decide +kernel) rfl) pa_nil)))))))), ?_⟩
    walk_at "sti"
    exact q
def sp_is_within : Sp := fun vs H Q _ => ∃ i a b : Int, vs = [.int i, .int a, .int b] ∧ Q (.bl (decide (a ≤ i ∧ i ≤ b))) H
theorem ok_is_within (T : Top K mg) : Ok P w K mg base 2 "is_within" s_is_within ["given", "least", "most"] sp_is_within := by
  have G_is_integer := ok_is_integer (P := P) (w := w) (base := base) T
  refine T.d_is_within.ok sc_is_within (fun vs H Q E h => ?_) (fun f cdv A outer s H vs Q E hg hr h => ?_)
  · obtain ⟨i, a, b, rfl, _⟩ := h
    rfl
  · obtain ⟨i, a, b, rfl, q⟩ := h
    refine ⟨_, (pss_one (ps_ret (pe_and (pe_g G_is_integer (fun _ _ F => bd_is_integer F) hg (hr.mono (by decide)) passL (by rfl) (pa_cons (pv 0) pa_nil)) (pe_one (pe_chain op_le op_le (pv 1) (pv 0) (pv 2)))))), ?_⟩
    walk_at "sti"
    refine ⟨i, rfl, ?_⟩
    walk_at "gi"
    refine ifd (fun c => ?_) (fun c => ?_)
    · walk_at "gi"
      rw [show decide (i ≤ b) = decide (a ≤ i ∧ i ≤ b) by simp [c]]
      exact q
    · rw [show decide (a ≤ i ∧ i ≤ b) = false by simp [c]] at q
      exact q
def sp_check_within : Sp := fun vs H Q _ => ∃ i a b : Int, vs = [.int i, .int a, .int b] ∧ a ≤ i ∧ i ≤ b ∧ Q .non H
theorem ok_check_within (T : Top K mg) : Ok P w K mg base 3 "check_within" s_check_within ["given", "least", "most"] sp_check_within := by
  have G_is_within := ok_is_within (P := P) (w := w) (base := base) T
  refine T.d_check_within.ok sc_check_within (fun vs H Q E h => ?_) (fun f cdv A outer s H vs Q E hg hr h => ?_)
  · obtain ⟨i, a, b, rfl, _⟩ := h
    rfl
  · obtain ⟨i, a, b, rfl, h1, h2, q⟩ := h
    refine ⟨_, (pss_one (ps_if (pt_not (pt_val (pe_g G_is_within (fun _ _ F => bd_is_within F) hg (hr.mono (by decide)) passL (by rfl) (pa_cons (pv 0) (pa_cons (pv 1) (pa_cons (pv 2) pa_nil)))))) (pss_one ps_never) pss_nil)), ?_⟩
    walk_at "sti"
    refine ⟨i, a, b, rfl, ?_⟩
    rw [decide_eq_true (show a ≤ i ∧ i ≤ b from ⟨h1, h2⟩)]
    walk_at "gi"
    exact q
def Nr (i : Int) : Prop := -(10 ^ 40) ≤ i ∧ i ≤ 10 ^ 40
def sp_is_fact (K : PySem.W.Frag) : Sp := fun vs H Q _ => ∃ (v : V) (p : Int × Int), vs = [v] ∧ PairAt K H v p ∧ Fact p ∧ Q (.bl true) H
theorem ok_is_fact (T : Top K mg) : Ok P w K mg base 3 "is_fact" s_is_fact ["given"] (sp_is_fact K) := by
  have G_is_within := ok_is_within (P := P) (w := w) (base := base) T
  refine T.d_is_fact.ok sc_is_fact (fun vs H Q E h => ?_) (fun f cdv A outer s H vs Q E hg hr h => ?_)
  · obtain ⟨v, p, rfl, _⟩ := h
    rfl
  · obtain ⟨v, p, rfl, ⟨t, rfl, st⟩, ⟨f1, f2, f3, f4⟩, q⟩ := h
    refine ⟨_, (pss_cons (ps_if (PW.pt (pw_or (pt_not (pt_val (pe_callB (id := "isinstance") (c_isi rfl) (by rfl) T.b_isinstance (by decide +kernel) (pa_cons (pv 0) (pa_cons (pe_bltn (v := .ty "tuple") (by rfl) T.b_tuple (by decide +kernel) rfl) pa_nil))))) (pw_or1 (pt_cmpR op_neZ (pe_callB (id := "len") (c_len rfl) (by rfl) T.b_len (by decide +kernel) (pa_cons (pv 0) pa_nil)) pe_int (nomark _))))) (pss_one ps_never) pss_nil)
    (pss_cons (ps_asg (pv 0) (g_tup rfl rfl (pgs_cons (pg_name (i := 1) sc_is_fact.nd rfl (.inl rfl)) (pgs_cons (pg_name (i := 2) sc_is_fact.nd rfl (.inl rfl)) pgs_nil)) rfl rfl))
    (pss_one (ps_ret (pe_and (pe_g G_is_within (fun _ _ F => bd_is_within F) hg (hr.mono (by decide)) passL (by rfl) (pa_cons (pv 2) (pa_cons pe_int (pa_cons (pe_gi T.c_MOST_FACT (by rfl)) pa_nil)))) (pe_one (pe_g G_is_within (fun _ _ F => bd_is_within F) hg (hr.mono (by decide)) passL (by rfl) (pa_cons (pv 1) (pa_cons pe_int (pa_cons (pe_op op_sub (pv 2) pe_int) pa_nil)))))))))), ?_⟩
    walk_at "sti"
    refine is_T_T st ?_
    walk_at "gi"
    refine ifnd (fun c => absurd rfl c) (fun _ => ?_)
    walk_at "gi"
    refine ⟨p.2, 1, _, rfl, ?_⟩
    rw [decide_eq_true (show 1 ≤ p.2 ∧ p.2 ≤ 1000000000000000000000000000000 from ⟨f1, by omega⟩)]
    walk_at "gi"
    refine ⟨p.1, 0, _, rfl, ?_⟩
    rw [decide_eq_true (show 0 ≤ p.1 ∧ p.1 ≤ p.2 - 1 from ⟨f3, by omega⟩)]
    exact q
def sp_first_wrong (K : PySem.W.Frag) : Sp := fun vs H Q _ => ∃ (a : Addr) (fs : List (Int × Int)) (m : Nat), vs = [.ref a, .int (m : Int)] ∧ FactsAt K H a fs ∧ fs.length ≤ m ∧ (∀ p ∈ fs, Fact p) ∧ ∀ H', Same H H' → Q .non H'
theorem ok__first_wrong_fact (T : Top K mg) : Ok P w K mg base 4 "_first_wrong_fact" s__first_wrong_fact ["facts", "most"] (sp_first_wrong K) := by
  have G_is_fact := ok_is_fact (P := P) (w := w) (base := base) T
  refine T.d__first_wrong_fact.ok sc__first_wrong_fact (fun vs H Q E h => ?_) (fun f cdv A outer s H vs Q E hg hr h => ?_)
  · obtain ⟨a, fs, m, rfl, _⟩ := h
    rfl
  · obtain ⟨a, fs, m, rfl, ⟨vs, sv, pvs⟩, hl, hf, q⟩ := h
    have ev := pvs.length
    refine ⟨_, (pss_cons (ps_for (passes_of rfl) rfl (i_enT rfl (by rfl) T.b_enumerate (pa_cons (pv 0) pa_nil)) (g_tup rfl rfl (pgs_cons (pg_name (i := 2) sc__first_wrong_fact.nd rfl (.inl rfl)) (pgs_cons (pg_name (i := 3) sc__first_wrong_fact.nd rfl (.inl rfl)) pgs_nil)) rfl rfl) (pss_one (ps_if (PW.pt (pw_or (pt_cmpR op_ge (pv 2) (pv 1) (nomark _)) (pw_or1 (pt_not (pt_val (pe_g G_is_fact (fun _ _ F => bd_is_fact F) hg (hr.mono (by decide)) passL (by rfl) (pa_cons (pv 3) pa_nil))))))) (pss_one (ps_ret (pv 2))) pss_nil)))
    (pss_one (ps_ret pe_non))), ?_⟩
    walk_at "sti"
    refine ⟨a, vs, rfl, sv, ?_⟩
    refine r_forEn vs (fun i σ H' => ∃ x2 x3, σ = [some (.ref a), some (.int (m : Int)), x2, x3] ∧ Same H H') ⟨_, _, rfl, Same.refl _⟩ (fun i σ H' hi hP => ?_) (fun i x σ H' T' hi hP hT => ?_) (fun σ H' hP => ?_)
    · obtain ⟨x2, x3, rfl, s1⟩ := hP
      exact Same.tup s1 sv
    · obtain ⟨x2, x3, rfl, s1⟩ := hP
      obtain ⟨p, hp, px⟩ := pvs.get hi
      have il : i < vs.length := (List.getElem?_eq_some_iff.mp hi).1
      have s2 : Same H (upd H' T' (.tup [.int (i : Nat), x])) := s1.trans (Same.new hT)
      refine r_gtup (SqT.of upd_same) rfl ?_
      walk_at "gi"
      refine ifd (fun c => ?_) (fun c => ?_)
      · omega
      · walk_at "gi"
        refine ⟨x, p, rfl, px.tt (Same.tt s2), hf p (List.mem_of_getElem? hp), ?_⟩
        walk_at "gi"
        exact s2
    · obtain ⟨x2, x3, rfl, s1⟩ := hP
      walk_at "gi"
      exact q _ s1
def sp_check_each (K : PySem.W.Frag) : Sp := fun vs H Q _ => ∃ (a : Addr) (fs : List (Int × Int)) (m : Nat), vs = [.ref a, .int (m : Int)] ∧ FactsAt K H a fs ∧ fs.length ≤ m ∧ (∀ p ∈ fs, Fact p) ∧ ∀ H', Same H H' → Q .non H'
theorem ok__check_each_fact (T : Top K mg) : Ok P w K mg base 5 "_check_each_fact" s__check_each_fact ["facts", "most"] (sp_check_each K) := by
  have G__first_wrong_fact := ok__first_wrong_fact (P := P) (w := w) (base := base) T
  refine T.d__check_each_fact.ok sc__check_each_fact (fun vs H Q E h => ?_) (fun f cdv A outer s H vs Q E hg hr h => ?_)
  · obtain ⟨a, fs, m, rfl, _⟩ := h
    rfl
  · obtain ⟨a, fs, m, rfl, hfa, hl, hf, q⟩ := h
    obtain ⟨vs, sv, pvs⟩ := id hfa
    refine ⟨_, (pss_cons (ps_if (pt_not (pt_val (pe_callB (id := "isinstance") (c_isi rfl) (by rfl) T.b_isinstance (by decide +kernel) (pa_cons (pv 0) (pa_cons (pe_bltn (v := .ty "tuple") (by rfl) T.b_tuple (by decide +kernel) rfl) pa_nil))))) (pss_one ps_never) pss_nil)
    (pss_cons (ps_set (i := 2) sc__check_each_fact.nd rfl (.inl rfl) (pe_g G__first_wrong_fact (fun _ _ F => bd__first_wrong_fact F) hg (hr.mono (by decide)) passL (by rfl) (pa_cons (pv 0) (pa_cons (pv 1) pa_nil))))
    (pss_one (ps_if (pt_cmpR op_notN (pv 2) pe_non (nomark _)) (pss_one ps_never) pss_nil)))), ?_⟩
    walk_at "sti"
    refine is_T_T sv ?_
    walk_at "gi"
    refine ⟨a, fs, m, rfl, hfa, hl, hf, fun H' s1 => ?_⟩
    walk_at "gi"
    exact q _ s1
def sp_bezout : Sp := fun vs H Q _ => ∃ a b : Int, vs = [.int a, .int b] ∧ a.natAbs ≤ Bq ∧ b.natAbs ≤ Bq ∧
  ∀ u v : Int, u * a + v * b = (Nat.gcd a.natAbs b.natAbs : Nat) → u.natAbs ≤ Bq → NewT [.int u, .int v] H Q
theorem ok_bezout (T : Top K mg) : Ok P w K mg base 1 "bezout" s_bezout ["one", "other"] sp_bezout := by
  refine T.d_bezout.ok sc_bezout (fun vs H Q E h => ?_) (fun f cdv A outer s H vs Q E hg hr h => ?_)
  · obtain ⟨a, b, rfl, _⟩ := h
    rfl
  · obtain ⟨x, y, rfl, hx, hy, q⟩ := h
    refine ⟨_, (pss_cons (ps_asg (pe_tup (pa_cons pe_int (pa_cons pe_int (pa_cons pe_int (pa_cons pe_int pa_nil))))) (g_tup rfl rfl (pgs_cons (pg_name (i := 2) sc_bezout.nd rfl (.inl rfl)) (pgs_cons (pg_name (i := 3) sc_bezout.nd rfl (.inl rfl)) (pgs_cons (pg_name (i := 4) sc_bezout.nd rfl (.inl rfl)) (pgs_cons (pg_name (i := 5) sc_bezout.nd rfl (.inl rfl)) pgs_nil)))) rfl rfl))
    (pss_cons (ps_par (i := 6) (j := 7) (by rfl) sc_bezout.nd rfl rfl (by decide) rfl rfl (pa_cons (pv 0) (pa_cons (pv 1) pa_nil)) (by rfl))
    (pss_cons (ps_while (passes_of rfl) (pt_truth (pv 7) (by intro _; rfl)) (pss_cons (ps_set (i := 8) sc_bezout.nd rfl (.inl rfl) (pe_op op_fdivG (pv 6) (pv 7)))
    (pss_cons (ps_par (i := 6) (j := 7) (by rfl) sc_bezout.nd rfl rfl (by decide) rfl rfl (pa_cons (pv 7) (pa_cons (pe_op op_sub (pv 6) (pe_op op_mulX (pv 8) (pv 7))) pa_nil)) (by rfl))
    (pss_cons (ps_par (i := 2) (j := 4) (by rfl) sc_bezout.nd rfl rfl (by decide) rfl rfl (pa_cons (pv 4) (pa_cons (pe_op op_sub (pv 2) (pe_op op_mulX (pv 8) (pv 4))) pa_nil)) (by rfl))
    (pss_one (ps_par (i := 3) (j := 5) (by rfl) sc_bezout.nd rfl rfl (by decide) rfl rfl (pa_cons (pv 5) (pa_cons (pe_op op_sub (pv 3) (pe_op op_mulX (pv 8) (pv 5))) pa_nil)) (by rfl)))))))
    (pss_cons (ps_if (pt_cmpR op_lt (pv 6) pe_int (nomark _)) (pss_one (ps_ret (pe_tup (pa_cons (pe_un un_neg (pv 2)) (pa_cons (pe_un un_neg (pv 3)) pa_nil))))) pss_nil)
    (pss_one (ps_ret (pe_tup (pa_cons (pv 2) (pa_cons (pv 3) pa_nil))))))))), ?_⟩
    walk_at "sti"
    refine r_while (fun m σ H' => ∃ u v nu nv l r tm, σ = [some (.int x), some (.int y), some (.int u), some (.int v), some (.int nu), some (.int nv), some (.int l), some (.int r), tm] ∧
      Bz x y u v nu nv l r ∧ m = r.natAbs ∧ Same H H') y.natAbs ⟨1, 0, 0, 1, x, y, none, rfl, Bz.first x y, rfl, by walk_at "vsame"⟩ fun m σ H1 hW => ?_
    obtain ⟨u, v, nu, nv, l, r, tm, rfl, B, rfl, s1⟩ := hW
    have bd := B.bounds (B := Bq) hx hy Bq_one
    obtain ⟨b1, b2, b3, b4, b5, b6⟩ := bd
    walk_at "gi"
    refine ifb (fun c => ?_) (fun c => ?_)
    · have hr0 : r ≠ 0 := by simpa using c
      have st := B.step hr0
      have bt : Builtin.Int.intBits (l.fdiv r) ≤ 4003 := by
        refine bit_of (Nat.lt_of_le_of_lt (m := 2 * Bq) (abs_of_mul hr0 ?_) Bq_two)
        have := st.2
        omega
      walk_at "gi"
      refine r_rI ⟨hr0, Nat.lt_of_le_of_lt b4 Bq_90⟩ ?_
      walk_at "gi"
      refine r_rI (bit_mul bt (Bq_bits b4) (by decide)) ?_
      walk_at "gi"
      refine r_rI (bit_mul bt (Bq_bits b2) (by decide)) ?_
      walk_at "gi"
      refine r_rI (bit_mul bt (bit_of (Nat.lt_of_le_of_lt b6 Bq_sq)) (by decide)) ?_
      walk_at "gi"
      exact ⟨_, st.2, _, _, _, _, _, _, _, rfl, st.1, rfl, s1⟩
    · have hr0 : r = 0 := by simpa using c
      have g := B.g
      have e1 := B.e1
      rw [hr0] at g
      have g2 : l.natAbs = Nat.gcd x.natAbs y.natAbs := by rw [← g]; simp
      walk_at "gi"
      refine ifd (fun c => ?_) (fun c => ?_)
      · walk_at "gi"
        refine q (-u) (-v) ?_ (by omega) _ _ (by walk_at "vsame") (by walk_at "vnone") upd_same
        rw [← g2]
        have : -u * x + -v * y = -(u * x + v * y) := by grind
        omega
      · walk_at "gi"
        refine q u v ?_ (by omega) _ _ (by walk_at "vsame") (by walk_at "vnone") upd_same
        omega
theorem gcd_rest (n : Int) (b : Nat) : Nat.gcd (n % (b : Int)).natAbs ((b : Nat) : Int).natAbs = Nat.gcd n.natAbs b := by
  have h := Int.gcd_add_mul_right_right (b : Int) (n % (b : Int)) (n / (b : Int))
  rw [Int.mul_comm, Int.emod_add_mul_ediv, Int.gcd_eq_natAbs_gcd_natAbs, Int.gcd_eq_natAbs_gcd_natAbs, Int.natAbs_natCast] at h
  rw [Int.natAbs_natCast, Nat.gcd_comm, ← h, Nat.gcd_comm]
def sp_inverse : Sp := fun vs H Q _ => ∃ (n : Int) (b : Nat), vs = [.int n, .int (b : Int)] ∧ 0 < b ∧ b ≤ Bq ∧
  ∀ (u w : Int) H', u * n = (Nat.gcd n.natAbs b : Nat) + b * w → Same H H' → Q (.int (u % b)) H'
theorem ok_inverse (T : Top K mg) : Ok P w K mg base 2 "inverse" s_inverse ["number", "base"] sp_inverse := by
  have G_bezout := ok_bezout (P := P) (w := w) (base := base) T
  refine T.d_inverse.ok sc_inverse (fun vs H Q E h => ?_) (fun f cdv A outer s H vs Q E hg hr h => ?_)
  · obtain ⟨a, b, rfl, _⟩ := h
    rfl
  · obtain ⟨n, b, rfl, b0, hb, q⟩ := h
    have m0 := Int.emod_nonneg n (show (b : Int) ≠ 0 by omega)
    have m1 := Int.emod_lt_of_pos n (show (0 : Int) < b by omega)
    refine ⟨_, (pss_cons (ps_asg (pe_g G_bezout (fun _ _ F => bd_bezout F) hg (hr.mono (by decide)) passL (by rfl) (pa_cons (pe_op op_mod (pv 0) (pv 1)) (pa_cons (pv 1) pa_nil))) (g_tup rfl rfl (pgs_cons (pg_name (i := 2) sc_inverse.nd rfl (.inl rfl)) (pgs_cons (pg_name (i := 3) sc_inverse.nd rfl (.inl rfl)) pgs_nil)) rfl rfl))
    (pss_one (ps_ret (pe_op op_mod (pv 2) (pv 1))))), ?_⟩
    walk_at "sti"
    refine r_rI (by omega) ?_
    walk_at "gi"
    refine ⟨_, _, rfl, by omega, by omega, fun u v e ub p H' sH pn pa => ?_⟩
    walk_at "gi"
    refine r_rI (by omega) ?_
    refine q u (u * (n / b) - v) _ ?_ sH
    rw [gcd_rest] at e
    have d := Int.emod_add_mul_ediv n b
    generalize n % (b : Int) = m at *
    generalize n / (b : Int) = z at *
    rw [← e]
    have : u * n = u * m + b * (u * z) := by rw [← d]; grind
    rw [this]
    grind
def sp_check_lamps (K : PySem.W.Frag) : Sp := fun vs H Q _ => ∃ (a : Addr) (fs : List (Int × Int)), vs = [.ref a] ∧ FactsAt K H a fs ∧ Facts fs ∧ fs.length ≤ 12 ∧ ∀ H', Same H H' → Q .non H'
theorem ok_check_lamps (T : Top K mg) : Ok P w K mg base 6 "check_lamps" s_check_lamps ["lamps"] (sp_check_lamps K) := by
  have G__check_each_fact := ok__check_each_fact (P := P) (w := w) (base := base) T
  refine T.d_check_lamps.ok sc_check_lamps (fun vs H Q E h => ?_) (fun f cdv A outer s H vs Q E hg hr h => ?_)
  · obtain ⟨a, fs, rfl, _⟩ := h
    rfl
  · obtain ⟨a, fs, rfl, h1, h2, hl, q⟩ := h
    refine ⟨_, (pss_one (ps_expr (pe_g G__check_each_fact (fun _ _ F => bd__check_each_fact F) hg (hr.mono (by decide)) passL (by rfl) (pa_cons (pv 0) (pa_cons (pe_gi T.c_MOST_LAMPS (by rfl)) pa_nil))))), ?_⟩
    walk_at "sti"
    exact ⟨a, fs, 12, rfl, h1, hl, h2.2, q⟩
end
section
variable {P : Program} {w : World} {K : PySem.W.Frag} {mg : Str → Option Value} {base : Heap}
def sp_check_number : Sp := fun vs H Q _ => ∃ i : Int, vs = [.int i] ∧ -(10 ^ 40) ≤ i ∧ i ≤ 10 ^ 40 ∧ Q .non H
theorem ok_check_number (T : Top K mg) : Ok P w K mg base 4 "check_number" s_check_number ["given"] sp_check_number := by
  have G_check_within := ok_check_within (P := P) (w := w) (base := base) T
  refine T.d_check_number.ok sc_check_number (fun vs H Q E h => ?_) (fun f cdv A outer s H vs Q E hg hr h => ?_)
  · obtain ⟨i, rfl, _⟩ := h
    rfl
  · obtain ⟨i, rfl, h1, h2, q⟩ := h
    refine ⟨_, (pss_one (ps_expr (pe_g G_check_within (fun _ _ F => bd_check_within F) hg (hr.mono (by decide)) passL (by rfl) (pa_cons (pv 0) (pa_cons (pe_un un_neg (pe_gi T.c_MOST_NUMBER (by rfl))) (pa_cons (pe_gi T.c_MOST_NUMBER (by rfl)) pa_nil)))))), ?_⟩
    walk_at "sti"
    exact ⟨i, _, _, rfl, h1, h2, q⟩
def sp_check_index : Sp := fun vs H Q _ => ∃ i : Int, vs = [.int i] ∧ 0 ≤ i ∧ i ≤ 10 ^ 40 ∧ Q .non H
theorem ok_check_index (T : Top K mg) : Ok P w K mg base 3 "check_index" s_check_index ["given"] sp_check_index := by
  have G_is_within := ok_is_within (P := P) (w := w) (base := base) T
  refine T.d_check_index.ok sc_check_index (fun vs H Q E h => ?_) (fun f cdv A outer s H vs Q E hg hr h => ?_)
  · obtain ⟨i, rfl, _⟩ := h
    rfl
  · obtain ⟨i, rfl, h1, h2, q⟩ := h
    refine ⟨_, (pss_one (ps_if (pt_not (pt_val (pe_g G_is_within (fun _ _ F => bd_is_within F) hg (hr.mono (by decide)) passL (by rfl) (pa_cons (pv 0) (pa_cons pe_int (pa_cons (pe_gi T.c_MOST_NUMBER (by rfl)) pa_nil)))))) (pss_one ps_never) pss_nil)), ?_⟩
    walk_at "sti"
    refine ⟨i, 0, _, rfl, ?_⟩
    rw [decide_eq_true (show 0 ≤ i ∧ i ≤ 10000000000000000000000000000000000000000 from ⟨h1, by omega⟩)]
    walk_at "gi"
    exact q
end
section
variable {P : Program} {w : World} {K : PySem.W.Frag} {mg : Str → Option Value} {base : Heap}
def sp_along (K : PySem.W.Frag) : Sp := fun vs H Q _ => ∃ (a d : Addr) (r s : Int) (b c : Nat), vs = [.ref a, .ref d] ∧ SqT K H a [.int r, .int (b : Int)] ∧ SqT K H d [.int s, .int (c : Int)] ∧
  0 < b ∧ 0 < c ∧ b ≤ Bq ∧ c ≤ Bq ∧ 0 ≤ r ∧ r < b ∧ 0 ≤ s ∧ s < c ∧ ((s - r) % ((Nat.gcd b c : Nat) : Int) ≠ 0 → Q .non H) ∧
  ((s - r) % ((Nat.gcd b c : Nat) : Int) = 0 → ∀ pl : Int, 0 ≤ pl → pl < (c / Nat.gcd b c : Nat) → (r + b * pl - s) % (c : Int) = 0 → NewT [.int pl, .int ((c / Nat.gcd b c : Nat) : Int)] H Q)
theorem ok_along (T : Top K mg) : Ok P w K mg base 3 "along" s_along ["fact", "other"] (sp_along K) := by
  have G_inverse := ok_inverse (P := P) (w := w) (base := base) T
  refine T.d_along.ok sc_along (fun vs H Q E h => ?_) (fun f cdv A outer s H vs Q E hg hr h => ?_)
  · obtain ⟨a, d, r, s, b, c, rfl, _⟩ := h
    rfl
  · obtain ⟨a, d, r, s, b, c, rfl, sa, sd, b0, c0, bB, cB, r0, r1, s0, s1, q1, q2⟩ := h
    have bq := Bq_one
    have g0 : 0 < Nat.gcd b c := Nat.gcd_pos_of_pos_left _ b0
    have gl : Nat.gcd b c ≤ b := Nat.gcd_le_left _ b0
    have cop : Nat.gcd (b / Nat.gcd b c) (c / Nat.gcd b c) = 1 := by rw [Nat.gcd_div (Nat.gcd_dvd_left b c) (Nat.gcd_dvd_right b c), Nat.div_self g0]
    have e1 : b = Nat.gcd b c * (b / Nat.gcd b c) := (Nat.mul_div_cancel' (Nat.gcd_dvd_left b c)).symm
    have e2 : c = Nat.gcd b c * (c / Nat.gcd b c) := (Nat.mul_div_cancel' (Nat.gcd_dvd_right b c)).symm
    have lb : b / Nat.gcd b c ≤ b := Nat.div_le_self _ _
    have lc : c / Nat.gcd b c ≤ c := Nat.div_le_self _ _
    have cb : ((c : Nat) : Int) / ((Nat.gcd b c : Nat) : Int) = ((c / Nat.gcd b c : Nat) : Int) := (Int.natCast_ediv c _).symm
    have bb : ((b : Nat) : Int) / ((Nat.gcd b c : Nat) : Int) = ((b / Nat.gcd b c : Nat) : Int) := (Int.natCast_ediv b _).symm
    refine ⟨_, (pss_cons (ps_asg (pv 0) (g_tup rfl rfl (pgs_cons (pg_name (i := 2) sc_along.nd rfl (.inl rfl)) (pgs_cons (pg_name (i := 3) sc_along.nd rfl (.inl rfl)) pgs_nil)) rfl rfl))
    (pss_cons (ps_set (i := 4) sc_along.nd rfl (.inl rfl) (pe_callBfun (id := "math.gcd") cr_gcd (by rfl) T.m_gcd (pa_cons (pv 3) (pa_cons (pe_ix (x_tup rfl) (pv 1) pe_int (fun _ _ => rfl)) pa_nil))))
    (pss_cons (ps_set (i := 5) sc_along.nd rfl (.inl rfl) (pe_op op_sub (pe_ix (x_tup rfl) (pv 1) pe_int (fun _ _ => rfl)) (pv 2)))
    (pss_cons (ps_if (pt_truth (pe_op op_mod (pv 5) (pv 4)) (by intro _; rfl)) (pss_one (ps_ret pe_non)) pss_nil)
    (pss_cons (ps_set (i := 6) sc_along.nd rfl (.inl rfl) (pe_op op_fdivW (pe_ix (x_tup rfl) (pv 1) pe_int (fun _ _ => rfl)) (pv 4)))
    (pss_one (ps_ret (pe_tup (pa_cons (pe_op op_mod (pe_op op_mulX (pe_op op_fdivW (pv 5) (pv 4)) (pe_g G_inverse (fun _ _ F => bd_inverse F) hg (hr.mono (by decide)) passL (by rfl) (pa_cons (pe_op op_fdivW (pv 3) (pv 4)) (pa_cons (pv 6) pa_nil)))) (pv 6)) (pa_cons (pv 6) pa_nil)))))))))), ?_⟩
    walk_at "sti"
    refine r_ixT sd (atI_nat (j := 1) rfl) ?_
    walk_at "gi"
    rw [Int.natAbs_natCast, Int.natAbs_natCast]
    generalize Nat.gcd b c = g at *
    generalize b / g = bt at *
    generalize c / g = ct at *
    have ct0 : 0 < ct := by
      rcases Nat.eq_zero_or_pos ct with z | z
      · rw [z] at e2; omega
      · exact z
    have gI : (0 : Int) < g := by omega
    refine r_ixT sd (atI_nat (j := 0) rfl) ?_
    walk_at "gi"
    refine r_rI gI ?_
    walk_at "gi"
    refine ifb (fun cc => ?_) (fun cc => ?_)
    · walk_at "gi"
      exact q1 (by simpa using cc)
    have nq : (s - r) % (g : Int) = 0 := by simpa using cc
    walk_at "gi"
    refine r_ixT sd (atI_nat (j := 1) rfl) ?_
    walk_at "gi"
    refine r_rI (Bq_div gI (by omega)) ?_
    rw [cb]
    walk_at "gi"
    have dv : (s - r) / g * g = s - r := Int.ediv_mul_cancel (Int.dvd_of_emod_eq_zero nq)
    have db : ((s - r) / g).natAbs ≤ Bq := abs_of_mul (y := (g : Int)) (by omega) (by rw [dv]; omega)
    refine r_rI (Bq_div gI (by omega)) ?_
    walk_at "gi"
    refine r_rI (Bq_div gI (by omega)) ?_
    rw [bb]
    walk_at "gi"
    refine ⟨_, ct, rfl, ct0, by omega, fun u wz H' eu sH => ?_⟩
    rw [Int.natAbs_natCast, cop] at eu
    have u0 := Int.emod_nonneg u (show (ct : Int) ≠ 0 by omega)
    have u1 := Int.emod_lt_of_pos u (show (0 : Int) < ct by omega)
    have am := Vf.along_math (r := r) (s := s) (b := b) (c := c) (g := g) (bt := bt) (ct := ct) (u := u) (w := wz) gI (by omega) (by rw [e1]; push_cast; rfl) (by rw [e2]; push_cast; rfl) nq (by rw [eu]; rfl)
    walk_at "gi"
    refine r_rI (bit_mul (Bq_bits db) (Bq_bits (by omega)) (by decide)) ?_
    walk_at "gi"
    refine r_rI (by omega) ?_
    walk_at "gi"
    have t0 := Int.emod_nonneg ((s - r) / g * (u % ct)) (show (ct : Int) ≠ 0 by omega)
    have t1 := Int.emod_lt_of_pos ((s - r) / g * (u % ct)) (show (0 : Int) < ct by omega)
    generalize ((s - r) / g * (u % ct)) % ct = tm at *
    exact q2 nq tm t0 t1 am _ _ (by walk_at "vsame") (none_same sH (by assumption)) upd_same
def sp_merged (K : PySem.W.Frag) : Sp := fun vs H Q _ => ∃ (a d : Addr) (r s : Int) (b c : Nat), vs = [.ref a, .ref d] ∧ SqT K H a [.int r, .int (b : Int)] ∧ SqT K H d [.int s, .int (c : Int)] ∧
  0 < b ∧ 0 < c ∧ b ≤ Bq ∧ c ≤ Bq ∧ 0 ≤ r ∧ r < b ∧ 0 ≤ s ∧ s < c ∧ ((s - r) % ((Nat.gcd b c : Nat) : Int) ≠ 0 → Q .non H) ∧
  ((s - r) % ((Nat.gcd b c : Nat) : Int) = 0 → ∀ R : Int, 0 ≤ R → R < (Nat.lcm b c : Nat) → R % (b : Int) = r → R % (c : Int) = s → NewT [.int R, .int ((Nat.lcm b c : Nat) : Int)] H Q)
theorem ok_merged (T : Top K mg) : Ok P w K mg base 4 "merged" s_merged ["one", "other"] (sp_merged K) := by
  have G_along := ok_along (P := P) (w := w) (base := base) T
  refine T.d_merged.ok sc_merged (fun vs H Q E h => ?_) (fun f cdv A outer s H vs Q E hg hr h => ?_)
  · obtain ⟨a, d, r, s, b, c, rfl, _⟩ := h
    rfl
  · obtain ⟨a, d, r, s, b, c, rfl, sa, sd, b0, c0, bB, cB, r0, r1, s0, s1, q1, q2⟩ := h
    refine ⟨_, (pss_cons (ps_set (i := 2) sc_merged.nd rfl (.inl rfl) (pe_g G_along (fun _ _ F => bd_along F) hg (hr.mono (by decide)) passL (by rfl) (pa_cons (pv 0) (pa_cons (pv 1) pa_nil))))
    (pss_cons (ps_if (pt_cmpR op_isN (pv 2) pe_non (nomark _)) (pss_one (ps_ret pe_non)) pss_nil)
    (pss_cons (ps_asg (pv 2) (g_tup rfl rfl (pgs_cons (pg_name (i := 3) sc_merged.nd rfl (.inl rfl)) (pgs_cons (pg_name (i := 4) sc_merged.nd rfl (.inl rfl)) pgs_nil)) rfl rfl))
    (pss_one (ps_ret (pe_tup (pa_cons (pe_op op_add (pe_ix (x_tup rfl) (pv 0) pe_int (fun _ _ => rfl)) (pe_op op_mulX (pe_ix (x_tup rfl) (pv 0) pe_int (fun _ _ => rfl)) (pv 3))) (pa_cons (pe_op op_mulX (pe_ix (x_tup rfl) (pv 0) pe_int (fun _ _ => rfl)) (pv 4)) pa_nil)))))))), ?_⟩
    walk_at "sti"
    refine ⟨a, d, r, s, b, c, rfl, sa, sd, b0, c0, bB, cB, r0, r1, s0, s1, fun z => ?_, fun nq pl p0 p1 am p H1 s1' np hp => ?_⟩
    · walk_at "gi"
      exact q1 z
    · walk_at "gi"
      have el : Nat.lcm b c = b * (c / Nat.gcd b c) := Nat.mul_div_assoc b (Nat.gcd_dvd_right b c)
      have lc : c / Nat.gcd b c ≤ c := Nat.div_le_self _ _
      rw [el] at q2
      generalize c / Nat.gcd b c = ct at *
      refine r_ixT (Same.tup s1' sa) (atI_nat (j := 0) rfl) ?_
      walk_at "gi"
      refine r_ixT (Same.tup s1' sa) (atI_nat (j := 1) rfl) ?_
      walk_at "gi"
      refine r_rI (bit_mul (Bq_bits (by omega)) (Bq_bits (by omega)) (by decide)) ?_
      walk_at "gi"
      refine r_ixT (Same.tup s1' sa) (atI_nat (j := 1) rfl) ?_
      walk_at "gi"
      refine r_rI (bit_mul (Bq_bits (by omega)) (Bq_bits (by omega)) (by decide)) ?_
      walk_at "gi"
      have up : (b : Int) * pl + b ≤ b * ct := by
        have z : (b : Int) * (pl + 1) ≤ b * ct := Int.mul_le_mul_of_nonneg_left (by omega) (by omega)
        rw [Int.mul_add, Int.mul_one] at z
        exact z
      have lo : 0 ≤ (b : Int) * pl := Int.mul_nonneg (by omega) p0
      refine q2 nq (r + b * pl) (by omega) (by rw [Int.natCast_mul]; omega) ?_ ?_ _ _ (by walk_at "vsame") (none_same s1' (by assumption)) (by rw [Int.natCast_mul]; exact upd_same)
      · rw [Int.add_mul_emod_self_left, Int.emod_eq_of_lt r0 r1]
      · rw [Int.emod_eq_emod_iff_emod_sub_eq_zero.mpr am, Int.emod_eq_of_lt s0 s1]
end
section
variable {P : Program} {w : World} {K : PySem.W.Frag} {mg : Str → Option Value} {base : Heap}
/-! ### sets of indexes -/
theorem pget {α β : Type} {R : α → β → Prop} : ∀ {xs : List α} {ys : List β} {i : Nat} {x : α}, Paired R xs ys → xs[i]? = some x → ∃ y, ys[i]? = some y ∧ R x y
  | _, _, i, x, .nil, e => by simp at e
  | _, _, 0, x, .cons (b := b) r t, e => by
    cases e
    exact ⟨b, rfl, r⟩
  | _, _, i + 1, x, .cons r t, e => by
    obtain ⟨p, h1, h2⟩ := pget (i := i) (x := x) t (by simpa using e)
    exact ⟨p, by simpa using h1, h2⟩
theorem papp {α β : Type} {R : α → β → Prop} : ∀ {xs zs : List α} {ys ws : List β}, Paired R xs ys → Paired R zs ws → Paired R (xs ++ zs) (ys ++ ws)
  | _, _, _, _, .nil, s => s
  | _, _, _, _, .cons r t, s => .cons r (papp t s)
theorem pmono {α β : Type} {R S : α → β → Prop} (h : ∀ x y, R x y → S x y) : ∀ {xs : List α} {ys : List β}, Paired R xs ys → Paired S xs ys
  | _, _, .nil => .nil
  | _, _, .cons r t => .cons (h _ _ r) (pmono h t)
theorem take_one {α : Type} {l : List α} {i : Nat} {x : α} (h : l[i]? = some x) : l.take (i + 1) = l.take i ++ [x] := by
  rw [List.take_add_one, h]; rfl
def nint (ns : List Nat) : List Int := ns.map fun i : Nat => (i : Int)
theorem pow12 {k : Nat} (h : k ≤ 12) : 2 ^ k ≤ 4096 := Nat.pow_le_pow_right (n := 2) (by decide) h
def sp_isets (K : PySem.W.Frag) : Sp := fun vs H Q _ => ∃ n : Nat, vs = [.int (n : Int)] ∧ n ≤ 12 ∧ ∀ p ws H', Same H H' → H p = none → H' p = some (.lst ws) → RowsAt K H' ws ((Vf.lots n).map nint) → Q (.ref p) H'
theorem ok_index_sets (T : Top K mg) : Ok P w K mg base 1 "index_sets" s_index_sets ["many"] (sp_isets K) := by
  refine T.d_index_sets.ok sc_index_sets (fun vs H Q E h => ?_) (fun f cdv A outer s H vs Q E hg hr h => ?_)
  · obtain ⟨n, rfl, _⟩ := h
    rfl
  · obtain ⟨n, rfl, hn, q⟩ := h
    refine ⟨_, (pss_cons (ps_set (i := 1) sc_index_sets.nd rfl (.inl rfl) (pe_lst (pa_cons (pe_tup pa_nil) pa_nil)))
    (pss_cons (ps_for (passes_of rfl) rfl (pi_range1 (by rfl) T.b_range (pa_cons (pv 0) pa_nil)) (pg_name (i := 2) sc_index_sets.nd rfl (.inr rfl)) (pss_one (ps_set (i := 1) sc_index_sets.nd rfl (.inl rfl) (pe_op op_cat (pv 1) (pe_lc (own := [("old", 3)]) (by rfl) sc_index_sets.nd (i_list rfl (pv 1)) (blkOk_by (own := [("old", 3)]) (N := ["many", "sets", "index", "old"]) (sc := defScope s_index_sets) (by decide +kernel)) (fun _ _ _ _ _ => (pg_name (i := 3) sc_index_sets.nd rfl (by first | exact Or.inl rfl | exact Or.inr rfl))) (fun _ _ _ _ _ => pts_nil) (fun _ _ _ _ _ => (pe_op (o_catA rfl) (pv 3) (pe_tup (pa_cons (pv 2) pa_nil)))))))))
    (pss_one (ps_ret (pv 1))))), ?_⟩
    walk_at "sti"
    rename_i p0 h0 p1 h1
    refine ⟨by omega, by omega, ?_⟩
    rw [Int.toNat_natCast]
    have s1 : Same H (upd (upd H p0 (.tup [])) p1 (.lst [.ref p0])) := (Same.new h0).trans (Same.new h1)
    refine r_forR (fun k σ H' => ∃ x2 x3 L ws, σ = [some (.int (n : Int)), some (.ref L), x2, x3] ∧ Same H H' ∧ H L = none ∧ H' L = some (.lst ws) ∧ RowsAt K H' ws ((Vf.lots k).map nint))
      ⟨_, _, p1, [.ref p0], rfl, s1, none_same (Same.new h0) h1, upd_same, .cons ⟨p0, rfl, SqT.of (at_new h1 upd_same)⟩ .nil⟩ (fun k σ H' hk hP => ?_) (fun σ H' hP => ?_)
    · obtain ⟨x2, x3, L, ws, rfl, s2, nL, eL, R⟩ := hP
      have lw := RowsAt.len R
      rw [List.length_map, Vf.lots_len] at lw
      have l2 := pow12 (k := k) (by omega)
      rw [Int.zero_add]
      walk_at "gi"
      refine r_lcLs ws (fun D i H2 => Same H' H2 ∧ ∃ us, H2 D = some (.lst us) ∧ RowsAt K H2 us (((Vf.lots k).take i).map fun l => nint (l ++ [k]))) (fun D hD => ⟨Same.new hD, [], upd_same, by rw [List.take_zero]; exact .nil⟩) (fun D i H2 hD hi hP => ?_) (fun D i x H2 hD hx hP => ?_) (fun D H2 hD hP => ?_)
      · exact SqL.of (hP.1 _ _ eL)
      · obtain ⟨s3, us, eD, U⟩ := hP
        obtain ⟨y, hy, t, rfl, st⟩ := pget R hx
        rw [List.getElem?_map] at hy
        obtain ⟨l, hl, rfl⟩ : ∃ l, (Vf.lots k)[i]? = some l ∧ nint l = y := by
          cases hh : (Vf.lots k)[i]? with
          | none => rw [hh] at hy; cases hy
          | some l => rw [hh] at hy; cases hy; exact ⟨l, rfl, rfl⟩
        have st2 := Same.tup s3 st
        have ll : l.length ≤ k := by
          obtain ⟨a, _, rfl⟩ := List.mem_map.mp (List.mem_of_getElem? hl)
          exact Vf.bitsL_len k a
        have lu := RowsAt.len U
        rw [List.length_map, List.length_take, Vf.lots_len] at lu
        walk_at "gi"
        refine ⟨rfl, ?_⟩
        walk_at "gi"
        rename_i T1 hT1
        refine r_catA (Same.tup (Same.new hT1) st2) (SqT.of upd_same) (by rw [List.length_map, nint, List.length_map]; show l.length + 1 ≤ 1000; omega) (fun p H3 s4 e4 => ?_)
        have s5 := (Same.new hT1).trans s4
        walk_at "gi"
        refine ⟨us, s5 _ _ eD, Nat.lt_of_le_of_lt (show us.length ≤ 4096 by omega) (by decide), fun b o e => ?_, us ++ [.ref p], upd_same, ?_⟩
        · rw [upd_ne (ne_of_none e hD)]
          exact s5 _ _ (s3 _ _ e)
        · rw [take_one hl, List.map_append]
          refine RowsAt.mono (RowsAt.snoc (U.same s5) (p := p) (ns := nint (l ++ [k])) ?_) fun q xs t => upd_tt (s5 _ _ eD) K q xs t
          rw [nint, List.map_append, List.map_append]
          exact e4
      · obtain ⟨s3, us, eD, U⟩ := hP
        rw [List.take_of_length_le (by rw [Vf.lots_len]; omega)] at U
        have lu := RowsAt.len U
        rw [List.length_map, Vf.lots_len] at lu
        walk_at "gi"
        refine r_cat (s3 _ _ eL) eD (by omega) fun p3 h3 => ?_
        have s4 := (s2.trans s3).trans (Same.new h3 (o := .lst (ws ++ us)))
        walk_at "gi"
        refine ⟨_, _, p3, ws ++ us, rfl, s4, none_same (s2.trans s3) h3, upd_same, ?_⟩
        rw [Vf.lots_succ, List.map_append, List.map_map]
        exact papp ((R.same s3).same (Same.new h3)) (U.same (Same.new h3))
    · obtain ⟨x2, x3, L, ws, rfl, s2, nL, eL, R⟩ := hP
      walk_at "gi"
      exact q _ _ _ s2 nL eL R
end
section
variable {P : Program} {w : World} {K : PySem.W.Frag} {mg : Str → Option Value} {base : Heap}
/-! ### what sets of facts make -/
def JoinAt (K : PySem.W.Frag) (H : Hp) (v : V) (gs : List (Int × Int)) : Prop := (v = .non ∧ ∀ x, ¬ Fits x gs) ∨ ∃ t R, v = .ref t ∧ H t = some (.tup [.int R, .int (lcmAll gs : Int)]) ∧ Vf.Jn gs R
def Th (H H' : Hp) : Prop := ∀ a xs, H a = some (.tup xs) → H' a = some (.tup xs)
theorem Same.th {H H' : Hp} (s : Same H H') : Th H H' := fun a _ h => s a _ h
theorem Kx.th {k : Addr} {H H' : Hp} {o : HO} (e : Kx k H H') (hk : H k = some o) (no : ∀ xs, o ≠ .tup xs) : Th H H' := fun a xs h => e a _ (fun z => no xs (by rw [z, hk] at h; exact Option.some.inj h)) h
theorem upd_th {H : Hp} {k : Addr} {l : List V} {o : HO} (hk : H k = some (.lst l)) : Th H (upd H k o) := Kx.th Kx.upd hk fun _ z => nomatch z
theorem JoinAt.tt {H H' : Hp} (e : Th H H') {v : V} {gs : List (Int × Int)} (h : JoinAt K H v gs) : JoinAt K H' v gs := by
  rcases h with h | ⟨t, R, h1, h2, h3⟩
  · exact .inl h
  · exact .inr ⟨t, R, h1, e _ _ h2, h3⟩
def JoinsAt (K : PySem.W.Frag) (H : Hp) (vs : List V) (gss : List (List (Int × Int))) : Prop := Paired (JoinAt K H) vs gss
theorem JoinsAt.tt {H H' : Hp} (e : Th H H') {vs : List V} {gss : List (List (Int × Int))} (h : JoinsAt K H vs gss) : JoinsAt K H' vs gss := pmono (fun _ _ r => r.tt e) h
theorem subs_len (fs : List (Int × Int)) (k : Nat) : (Vf.subs fs k).length = 2 ^ k := by
  unfold Vf.subs
  rw [List.length_map, List.length_range]
def sp_joins (K : PySem.W.Frag) : Sp := fun vs H Q _ => ∃ (a : Addr) (fs : List (Int × Int)), vs = [.ref a] ∧ FactsAt K H a fs ∧ Facts fs ∧ fs.length ≤ 12 ∧
  ∀ p ws H', Same H H' → H p = none → H' p = some (.lst ws) → JoinsAt K H' ws (Vf.subs fs fs.length) → Q (.ref p) H'
theorem ok_joined_sets (T : Top K mg) : Ok P w K mg base 5 "joined_sets" s_joined_sets ["facts"] (sp_joins K) := by
  have G_merged := ok_merged (P := P) (w := w) (base := base) T
  refine T.d_joined_sets.ok sc_joined_sets (fun vs H Q E h => ?_) (fun f cdv A outer s H vs Q E hg hr h => ?_)
  · obtain ⟨a, fs, rfl, _⟩ := h
    rfl
  · obtain ⟨a, fs, rfl, ⟨vs, sv, pvs⟩, hf, hl, q⟩ := h
    have ev := pvs.length
    refine ⟨_, (pss_cons (ps_set (i := 1) sc_joined_sets.nd rfl (.inl rfl) (pe_lst (pa_cons (pe_tup (pa_cons pe_int (pa_cons pe_int pa_nil))) pa_nil)))
    (pss_cons (ps_for (passes_of rfl) rfl (i_tup' rfl (pv 0)) (pg_name (i := 2) sc_joined_sets.nd rfl (.inr rfl)) (pss_one (ps_set (i := 1) sc_joined_sets.nd rfl (.inl rfl) (pe_op op_cat (pv 1) (pe_lc (own := [("old", 3)]) (by rfl) sc_joined_sets.nd (i_list rfl (pv 1)) (blkOk_by (own := [("old", 3)]) (N := ["facts", "joins", "fact", "old"]) (sc := defScope s_joined_sets) (by decide +kernel)) (fun _ _ _ _ _ => (pg_name (i := 3) sc_joined_sets.nd rfl (by first | exact Or.inl rfl | exact Or.inr rfl))) (fun _ _ _ _ _ => pts_nil) (fun _ _ _ _ _ => (pe_ifExp (pt_cmpR op_isN (pv 3) pe_non (nomark _)) pe_non (pe_g G_merged (fun _ _ F => bd_merged F) hg (hr.mono (by decide)) passL (by rfl) (pa_cons (pv 3) (pa_cons (pv 2) pa_nil))))))))))
    (pss_one (ps_ret (pv 1))))), ?_⟩
    walk_at "sti"
    rename_i p0 h0 p1 h1
    have s1 : Same H (upd (upd H p0 (.tup [.int 0, .int 1])) p1 (.lst [.ref p0])) := (Same.new h0).trans (Same.new h1)
    refine ⟨⟨vs, Same.tup s1 sv⟩, ?_⟩
    refine r_forTs vs (fun k σ H' => ∃ x2 x3 L ws, σ = [some (.ref a), some (.ref L), x2, x3] ∧ Same H H' ∧ H L = none ∧ H' L = some (.lst ws) ∧ JoinsAt K H' ws (Vf.subs fs k))
      ⟨_, _, p1, [.ref p0], rfl, s1, none_same (Same.new h0) h1, upd_same, .cons (.inr ⟨p0, 0, rfl, at_new h1 upd_same, Vf.Jn.nil⟩) .nil⟩ (fun k σ H' hk hP => ?_) (fun k v σ H' hk hP => ?_) (fun σ H' hP => ?_)
    · obtain ⟨x2, x3, L, ws, rfl, s2, _⟩ := hP
      exact Same.tup s2 sv
    · obtain ⟨x2, x3, L, ws, rfl, s2, nL, eL, R⟩ := hP
      obtain ⟨o, ho, t, rfl, st⟩ := pvs.get hk
      have kl : k < fs.length := (List.getElem?_eq_some_iff.mp ho).1
      have fo := hf.at ho
      have lw := Paired.length R
      rw [subs_len] at lw
      have l2 := pow12 (k := k) (by omega)
      have eo : fs.getD k (0, 1) = o := by rw [List.getD_eq_getElem?_getD, ho]; rfl
      have oq : o.2.natAbs ≤ Bq := by
        refine Nat.le_trans (?_ : o.2.natAbs ≤ 2 ^ 100) (Nat.pow_le_pow_right (by decide) (by decide))
        obtain ⟨h1, h2, _⟩ := fo
        omega
      have en : ((o.2.natAbs : Nat) : Int) = o.2 := by have := fo.1; omega
      walk_at "gi"
      refine r_lcLs ws (fun D i H2 => Same H' H2 ∧ ∃ us, H2 D = some (.lst us) ∧ JoinsAt K H2 us (((Vf.subs fs k).take i).map (· ++ [o]))) (fun D hD => ⟨Same.new hD, [], upd_same, by rw [List.take_zero]; exact .nil⟩) (fun D i H2 hD hi hP => ?_) (fun D i x H2 hD hx hP => ?_) (fun D H2 hD hP => ?_)
      · exact SqL.of (hP.1 _ _ eL)
      · obtain ⟨s3, us, eD, U⟩ := hP
        obtain ⟨gs, hgs, J⟩ := pget R hx
        have lu := Paired.length U
        rw [List.length_map, List.length_take, subs_len] at lu
        have mg2 : ∀ p ∈ gs, Fact p := fun p hp => by
          obtain ⟨c, hc, rfl⟩ := List.mem_map.mp (List.mem_of_getElem? hgs)
          exact hf.2 p (Vf.subF_mem (by omega) hp)
        have lg : gs.length ≤ 12 := by
          obtain ⟨c, hc, rfl⟩ := List.mem_map.mp (List.mem_of_getElem? hgs)
          unfold Vf.subF
          rw [List.length_map]
          have := Vf.bitsL_len k c
          omega
        have fin : ∀ (H3 : Hp) (v : V), Same H2 H3 → JoinAt K H3 v (gs ++ [o]) → ∃ acc, H3 D = some (.lst acc) ∧ acc.length < sizeLine ∧ (Same H' (upd H3 D (.lst (acc ++ [v]))) ∧ ∃ us, (upd H3 D (.lst (acc ++ [v]))) D = some (.lst us) ∧ JoinsAt K (upd H3 D (.lst (acc ++ [v]))) us (((Vf.subs fs k).take (i + 1)).map (· ++ [o]))) := fun H3 v s5 jv => by
          refine ⟨us, s5 _ _ eD, Nat.lt_of_le_of_lt (show us.length ≤ 4096 by omega) (by decide), fun b e h => ?_, us ++ [v], upd_same, ?_⟩
          · rw [upd_ne (ne_of_none h hD)]
            exact s5 _ _ (s3 _ _ h)
          · rw [take_one hgs, List.map_append]
            exact JoinsAt.tt (upd_th (s5 _ _ eD)) (papp (JoinsAt.tt (Same.th s5) U) (.cons jv .nil))
        have st2 := Same.tup (s2.trans s3) st
        rcases J with ⟨rfl, nf⟩ | ⟨m, S, rfl, sm, jn⟩
        · walk_at "gi"
          refine ⟨rfl, ?_⟩
          walk_at "gi"
          exact fin _ _ (Same.refl _) (.inl ⟨rfl, fun x hx => nf x (Vf.fits_snoc.mp hx).1⟩)
        · have lm : 0 < lcmAll gs := lcmAll_pos gs 1 mg2 (by decide)
          have lq := Facts.lcm_Bq mg2 (by omega)
          walk_at "gi"
          refine ⟨rfl, ?_⟩
          walk_at "gi"
          refine ⟨m, t, S, o.1, lcmAll gs, o.2.natAbs, rfl, SqT.of (s3 _ _ sm), by rw [en]; exact st2, lm, by have := fo.1; omega, lq, oq, jn.1, jn.2.1, fo.2.2.1, by have := fo.2.2.2; omega, fun z => ?_, fun nq S2 S0 S1 e1 e2 p2 H3 s4 n3 e3 => ?_⟩
          · walk_at "gi"
            refine fin _ _ (Same.refl _) (.inl ⟨rfl, fun x hx => ?_⟩)
            obtain ⟨y1, y2⟩ := Vf.fits_snoc.mp hx
            exact Vf.quarrel_none z x ⟨(jn.2.2 x).mp y1, by rw [en]; exact y2⟩
          · walk_at "gi"
            refine fin _ _ s4 (.inr ⟨p2, S2, rfl, ?_, jn.snoc fo lm S0 S1 e1 (by rw [← en]; exact e2)⟩)
            rw [lcmAll_snoc]
            exact e3
      · obtain ⟨s3, us, eD, U⟩ := hP
        rw [List.take_of_length_le (by rw [subs_len]; omega)] at U
        have lu := Paired.length U
        rw [List.length_map, subs_len] at lu
        walk_at "gi"
        refine r_cat (s3 _ _ eL) eD (by omega) fun p3 h3 => ?_
        have s4 := (s2.trans s3).trans (Same.new h3 (o := .lst (ws ++ us)))
        walk_at "gi"
        refine ⟨_, _, p3, ws ++ us, rfl, s4, none_same (s2.trans s3) h3, upd_same, ?_⟩
        rw [Vf.subs_succ, eo]
        exact papp (JoinsAt.tt (Same.th (s3.trans (Same.new h3))) R) (JoinsAt.tt (Same.th (Same.new h3)) U)
    · obtain ⟨x2, x3, L, ws, rfl, s2, nL, eL, R⟩ := hP
      rw [ev] at R
      walk_at "gi"
      exact q _ _ _ s2 nL eL R
end
section
variable {P : Program} {w : World} {K : PySem.W.Frag} {mg : Str → Option Value} {base : Heap}
def sp_is_fitting (K : PySem.W.Frag) : Sp := fun vs H Q _ => ∃ (x : Int) (v : V) (p : Int × Int), vs = [.int x, v] ∧ PairAt K H v p ∧ 0 < p.2 ∧ Q (.bl (decide ((x - p.1) % p.2 = 0))) H
theorem ok_is_fitting (T : Top K mg) : Ok P w K mg base 1 "is_fitting" s_is_fitting ["number", "fact"] (sp_is_fitting K) := by
  refine T.d_is_fitting.ok sc_is_fitting (fun vs H Q E h => ?_) (fun f cdv A outer s H vs Q E hg hr h => ?_)
  · obtain ⟨x, v, p, rfl, _⟩ := h
    rfl
  · obtain ⟨x, v, p, rfl, ⟨t, rfl, st⟩, h0, q⟩ := h
    refine ⟨_, (pss_cons (ps_asg (pv 1) (g_tup rfl rfl (pgs_cons (pg_name (i := 2) sc_is_fitting.nd rfl (.inl rfl)) (pgs_cons (pg_name (i := 3) sc_is_fitting.nd rfl (.inl rfl)) pgs_nil)) rfl rfl))
    (pss_one (ps_ret (pe_cmpR op_eqZ (pe_op op_mod (pe_op op_sub (pv 0) (pv 2)) (pv 3)) pe_int (nomark _))))), ?_⟩
    walk_at "sti"
    refine r_rI h0 ?_
    walk_at "gi"
    exact q
def sp_quar (K : PySem.W.Frag) : Sp := fun vs H Q _ => ∃ (v z : V) (p o : Int × Int), vs = [v, z] ∧ PairAt K H v p ∧ PairAt K H z o ∧ 0 < p.2 ∧
  Q (.bl (!decide ((p.1 - o.1) % ((Nat.gcd p.2.natAbs o.2.natAbs : Nat) : Int) = 0))) H
theorem ok_are_quarrelling (T : Top K mg) : Ok P w K mg base 1 "are_quarrelling" s_are_quarrelling ["one", "other"] (sp_quar K) := by
  refine T.d_are_quarrelling.ok sc_are_quarrelling (fun vs H Q E h => ?_) (fun f cdv A outer s H vs Q E hg hr h => ?_)
  · obtain ⟨v, z, p, o, rfl, _⟩ := h
    rfl
  · obtain ⟨v, z, p, o, rfl, ⟨t, rfl, st⟩, ⟨t2, rfl, st2⟩, h0, q⟩ := h
    refine ⟨_, (pss_one (ps_ret (pe_cmpR op_neZ (pe_op op_mod (pe_op op_sub (pe_ix (x_tup rfl) (pv 0) pe_int (fun _ _ => rfl)) (pe_ix (x_tup rfl) (pv 1) pe_int (fun _ _ => rfl))) (pe_callBfun (id := "math.gcd") cr_gcd (by rfl) T.m_gcd (pa_cons (pe_ix (x_tup rfl) (pv 0) pe_int (fun _ _ => rfl)) (pa_cons (pe_ix (x_tup rfl) (pv 1) pe_int (fun _ _ => rfl)) pa_nil)))) pe_int (nomark _)))), ?_⟩
    walk_at "sti"
    refine r_ixT st (atI_nat (j := 0) rfl) ?_
    walk_at "gi"
    refine r_ixT st2 (atI_nat (j := 0) rfl) ?_
    walk_at "gi"
    refine r_ixT st (atI_nat (j := 1) rfl) ?_
    walk_at "gi"
    refine r_ixT st2 (atI_nat (j := 1) rfl) ?_
    walk_at "gi"
    have hg : 0 < Nat.gcd p.2.natAbs o.2.natAbs := Nat.gcd_pos_of_pos_left _ (by omega)
    refine r_rI (by omega) ?_
    walk_at "gi"
    exact q
def sp_count_between (K : PySem.W.Frag) : Sp := fun vs H Q _ => ∃ (a : Addr) (r b lo hi : Int), vs = [.ref a, .int lo, .int hi] ∧ SqT K H a [.int r, .int b] ∧ 0 < b ∧ b.natAbs ≤ Bq ∧ Q (.int ((hi - r) / b - (lo - 1 - r) / b)) H
theorem ok_count_between (T : Top K mg) : Ok P w K mg base 1 "count_between" s_count_between ["fact", "low", "high"] (sp_count_between K) := by
  refine T.d_count_between.ok sc_count_between (fun vs H Q E h => ?_) (fun f cdv A outer s H vs Q E hg hr h => ?_)
  · obtain ⟨a, r, b, lo, hi, rfl, _⟩ := h
    rfl
  · obtain ⟨a, r, b, lo, hi, rfl, st, h0, hb, q⟩ := h
    refine ⟨_, (pss_cons (ps_asg (pv 0) (g_tup rfl rfl (pgs_cons (pg_name (i := 3) sc_count_between.nd rfl (.inl rfl)) (pgs_cons (pg_name (i := 4) sc_count_between.nd rfl (.inl rfl)) pgs_nil)) rfl rfl))
    (pss_one (ps_ret (pe_op op_sub (pe_op op_fdivW (pe_op op_sub (pv 2) (pv 3)) (pv 4)) (pe_op op_fdivW (pe_op op_sub (pe_op op_sub (pv 1) pe_int) (pv 3)) (pv 4)))))), ?_⟩
    walk_at "sti"
    refine r_rI (Bq_div h0 hb) ?_
    walk_at "gi"
    refine r_rI (Bq_div h0 hb) ?_
    walk_at "gi"
    exact q
def quarB (p o : Int × Int) : Bool := !decide ((p.1 - o.1) % ((Nat.gcd p.2.natAbs o.2.natAbs : Nat) : Int) = 0)
def qrow (fs : List (Int × Int)) (i m : Nat) : List (Int × Int) := ((List.range m).filter fun j => quarB (fs.getD i (0, 1)) (fs.getD (i + 1 + j) (0, 1))).map fun j => ((i : Int), ((i + 1 + j : Nat) : Int))
def qall (fs : List (Int × Int)) (i : Nat) : List (Int × Int) := (List.range i).flatMap fun k => qrow fs k (fs.length - (k + 1))
theorem qrow_succ (fs : List (Int × Int)) (i m : Nat) : qrow fs i (m + 1) = qrow fs i m ++ (if quarB (fs.getD i (0, 1)) (fs.getD (i + 1 + m) (0, 1)) = true then [((i : Int), ((i + 1 + m : Nat) : Int))] else []) := by
  unfold qrow
  rw [List.range_succ, List.filter_append, List.map_append, List.filter_cons, List.filter_nil]
  by_cases h : quarB (fs.getD i (0, 1)) (fs.getD (i + 1 + m) (0, 1)) = true
  · rw [if_pos h, if_pos h]; rfl
  · rw [if_neg h, if_neg h]; rfl
theorem qall_succ (fs : List (Int × Int)) (i : Nat) : qall fs (i + 1) = qall fs i ++ qrow fs i (fs.length - (i + 1)) := by
  unfold qall
  rw [List.range_succ, List.flatMap_append, List.flatMap_cons, List.flatMap_nil, List.append_nil]
theorem qrow_len (fs : List (Int × Int)) (i m : Nat) : (qrow fs i m).length ≤ m := by
  unfold qrow
  rw [List.length_map]
  refine Nat.le_trans (List.length_filter_le _ _) ?_
  rw [List.length_range]
  exact Nat.le_refl _
theorem qall_len (fs : List (Int × Int)) : ∀ i, (qall fs i).length ≤ i * fs.length
  | 0 => Nat.zero_le _
  | i + 1 => by
    rw [qall_succ, List.length_append, Nat.succ_mul]
    have := qall_len fs i
    have := qrow_len fs i (fs.length - (i + 1))
    omega
def sp_qp (K : PySem.W.Frag) : Sp := fun vs H Q _ => ∃ (a : Addr) (fs : List (Int × Int)), vs = [.ref a] ∧ FactsAt K H a fs ∧ Facts fs ∧
  ∀ p ws H', Same H H' → H p = none → H' p = some (.lst ws) → PairsAt K H' ws (qall fs fs.length) → Q (.ref p) H'
theorem ok_quarrelling_pairs (T : Top K mg) : Ok P w K mg base 2 "quarrelling_pairs" s_quarrelling_pairs ["facts"] (sp_qp K) := by
  have G_are_quarrelling := ok_are_quarrelling (P := P) (w := w) (base := base) T
  refine T.d_quarrelling_pairs.ok sc_quarrelling_pairs (fun vs H Q E h => ?_) (fun f cdv A outer s H vs Q E hg hr h => ?_)
  · obtain ⟨a, fs, rfl, _⟩ := h
    rfl
  · obtain ⟨a, fs, rfl, ⟨vs, sv, pvs⟩, hf, q⟩ := h
    have ev := pvs.length
    have hl := hf.1
    refine ⟨_, (pss_cons (ps_set (i := 1) sc_quarrelling_pairs.nd rfl (.inr rfl) (pe_callB (id := "len") (c_len rfl) (by rfl) T.b_len (by decide +kernel) (pa_cons (pv 0) pa_nil)))
    (pss_one (ps_ret (pe_lc2 (own := [("i", 2), ("j", 3)]) (by rfl) sc_quarrelling_pairs.nd (pi_range1 (by rfl) T.b_range (pa_cons (pv 1) pa_nil)) (blkOk_by (own := [("i", 2), ("j", 3)]) (N := ["facts", "many", "i", "j"]) (sc := defScope s_quarrelling_pairs) (by decide +kernel)) (vs1 := [3]) (by decide) (fun _ _ _ _ _ => (pg_name (i := 2) sc_quarrelling_pairs.nd rfl (by first | exact Or.inl rfl | exact Or.inr rfl))) (fun _ _ _ _ _ => pts_nil) (fun _ _ _ _ _ => (pi_range2 (by rfl) T.b_range (pa_cons (pe_op op_add (pv 2) pe_int) (pa_cons (pv 1) pa_nil)))) (fun _ _ _ _ _ => (pg_name (i := 3) sc_quarrelling_pairs.nd rfl (by first | exact Or.inl rfl | exact Or.inr rfl))) (fun _ _ _ _ _ => (pts_one (pt_val (pe_g G_are_quarrelling (fun _ _ F => bd_are_quarrelling F) hg (hr.mono (by decide)) passL (by rfl) (pa_cons (pe_ix (x_tup rfl) (pv 0) (pv 2) (fun _ _ => rfl)) (pa_cons (pe_ix (x_tup rfl) (pv 0) (pv 3) (fun _ _ => rfl)) pa_nil)))))) (fun _ _ _ _ _ => (pe_tup (pa_cons (pv 2) (pa_cons (pv 3) pa_nil)))))))), ?_⟩
    walk_at "sti"
    refine ⟨by omega, by omega, ?_⟩
    refine r_lc2R (fun D i H' => Same H H' ∧ ∃ ws, H' D = some (.lst ws) ∧ PairsAt K H' ws (qall fs i)) (fun D hD => ⟨Same.new hD, [], upd_same, .nil⟩) (fun D i H' hD hi hP => ?_) (fun D H' hD hP => ?_)
    · obtain ⟨s1, ws, d1, p1⟩ := hP
      walk_at "go"
      refine ⟨rfl, ?_⟩
      walk_at "go"
      refine r_w2 ?_
      walk_at "go"
      refine ⟨by omega, ?_⟩
      have en : ((vs.length : Int) - (0 + (i : Int) + 1)).toNat = fs.length - (i + 1) := by omega
      rw [en]
      refine inn_range (fun j H' => Same H H' ∧ ∃ ws, H' D = some (.lst ws) ∧ PairsAt K H' ws (qall fs i ++ qrow fs i j)) ⟨s1, ws, d1, by rw [show qrow fs i 0 = [] from rfl, List.append_nil]; exact p1⟩ (fun j H' hj hP => ?_) (fun H' hP => ?_)
      · obtain ⟨s2, ws, d2, p2⟩ := hP
        walk_at "go"
        refine ⟨rfl, ?_⟩
        have i1 : i < vs.length := by omega
        have i2 : i + 1 + j < vs.length := by omega
        obtain ⟨p, hp, pp⟩ := pvs.get (List.getElem?_eq_getElem i1)
        obtain ⟨o, ho, oo⟩ := pvs.get (List.getElem?_eq_getElem i2)
        have sv2 := Same.tup s2 sv
        walk_at "go"
        refine r_ixT sv2 (show atI vs (0 + (i : Int)) = _ by rw [Int.zero_add]; exact atI_nat (List.getElem?_eq_getElem i1)) ?_
        walk_at "go"
        refine r_ixT sv2 (show atI vs (0 + (i : Int) + 1 + (j : Int)) = _ by rw [show 0 + (i : Int) + 1 + (j : Int) = ((i + 1 + j : Nat) : Int) by omega]; exact atI_nat (List.getElem?_eq_getElem i2)) ?_
        walk_at "go"
        have f1 := hf.at hp
        refine ⟨_, _, p, o, rfl, pp.tt (Same.tt s2), oo.tt (Same.tt s2), by have := f1.1; omega, ?_⟩
        have e1 : fs.getD i (0, 1) = p := by rw [List.getD_eq_getElem?_getD, hp]; rfl
        have e2 : fs.getD (i + 1 + j) (0, 1) = o := by rw [List.getD_eq_getElem?_getD, ho]; rfl
        rw [qrow_succ, e1, e2, ← List.append_assoc]
        have lw := p2.length
        have l1 := qall_len fs i
        have l2 := qrow_len fs i j
        have l3 : i * fs.length ≤ 40 * 40 := Nat.mul_le_mul (by omega) hl
        rw [List.length_append] at lw
        walk_at "go"
        refine ifnd (fun c => ?_) (fun c => ?_)
        · rw [if_pos (show quarB p o = true by unfold quarB; rw [decide_eq_false c]; rfl)]
          walk_at "go"
          rename_i t ht
          refine ⟨ws, at_new ht d2, Nat.lt_of_le_of_lt (show ws.length ≤ 2000 by omega) (by decide), fun b u e => ?_, ws ++ [.ref t], upd_same, ?_⟩
          · rw [upd_ne (ne_of_none e hD)]
            exact Same.new ht _ _ (s2 _ _ e)
          · rw [show 0 + (i : Int) = (i : Int) by omega, show (i : Int) + 1 + (j : Int) = ((i + 1 + j : Nat) : Int) by omega] at *
            exact PairsAt.tt (upd_tt (at_new ht d2)) (PairsAt.append (p2.tt (new_tt ht)) (.cons ⟨t, rfl, SqT.of upd_same⟩ .nil))
        · rw [if_neg (show ¬ quarB p o = true by unfold quarB; rw [decide_eq_true c]; decide), List.append_nil]
          exact ⟨s2, ws, d2, p2⟩
      · rw [qall_succ]
        exact hP
    · obtain ⟨s1, ws, d1, p1⟩ := hP
      rw [ev] at p1
      walk_at "go"
      exact q _ _ _ s1 hD d1 p1
def sp_common_base (K : PySem.W.Frag) : Sp := fun vs H Q _ => ∃ (a : Addr) (fs : List (Int × Int)), vs = [.ref a] ∧ FactsAt K H a fs ∧ Facts fs ∧ Q (.int (lcmAll fs : Int)) H
theorem Bq_9000 : Bq < 2 ^ 9000 := Nat.pow_lt_pow_right (by decide) (by decide)
theorem ok_common_base (T : Top K mg) : Ok P w K mg base 1 "common_base" s_common_base ["facts"] (sp_common_base K) := by
  refine T.d_common_base.ok sc_common_base (fun vs H Q E h => ?_) (fun f cdv A outer s H vs Q E hg hr h => ?_)
  · obtain ⟨a, fs, rfl, _⟩ := h
    rfl
  · obtain ⟨a, fs, rfl, ⟨vs, sv, pvs⟩, hF, q⟩ := h
    have ev := pvs.length
    refine ⟨_, (pss_cons (ps_set (i := 1) sc_common_base.nd rfl (.inl rfl) pe_int)
    (pss_cons (ps_for (passes_of rfl) rfl (i_tup' rfl (pv 0)) (g_tup rfl rfl (pgs_cons (pg_name (i := 2) sc_common_base.nd rfl (.inl rfl)) (pgs_cons (pg_name (i := 3) sc_common_base.nd rfl (.inl rfl)) pgs_nil)) rfl rfl) (pss_one (ps_set (i := 1) sc_common_base.nd rfl (.inl rfl) (pe_callBfun (id := "math.lcm") cr_lcm (by rfl) T.m_lcm (pa_cons (pv 1) (pa_cons (pv 3) pa_nil))))))
    (pss_one (ps_ret (pv 1))))), ?_⟩
    walk_at "sti"
    refine r_forTs vs (fun i σ H' => H' = H ∧ ∃ x2 x3, σ = [some (.ref a), some (.int (lcmAll (fs.take i) : Int)), x2, x3]) ⟨rfl, _, _, rfl⟩ (fun i σ H' hi hP => ?_) (fun i v σ H' hi hP => ?_) (fun σ H' hP => ?_)
    · obtain ⟨rfl, _⟩ := hP
      exact sv
    · obtain ⟨rfl, x2, x3, rfl⟩ := hP
      obtain ⟨o, ho, t, rfl, st⟩ := pvs.get hi
      obtain ⟨o1, o2, o3, o4⟩ := hF.2 o (List.mem_of_getElem? ho)
      have mo : ∀ p ∈ fs.take i, Fact p := fun p hp => hF.2 p (List.mem_of_mem_take hp)
      have l1 : lcmAll (fs.take i) ≤ Bq := Facts.lcm_Bq mo (by rw [List.length_take]; have := hF.1; omega)
      have tk : fs.take (i + 1) = fs.take i ++ [o] := by rw [List.take_add_one, ho]; rfl
      have oB : o.2.natAbs ≤ Bq := by
        refine Nat.le_trans (?_ : o.2.natAbs ≤ 2 ^ 100) (Nat.pow_le_pow_right (by decide) (by decide))
        omega
      refine r_gtup st rfl ?_
      walk_at "gi"
      refine r_lcm (by rw [Int.natAbs_natCast]; exact Nat.lt_of_le_of_lt l1 Bq_9000) (Nat.lt_of_le_of_lt oB Bq_9000) ?_
      rw [Int.natAbs_natCast]
      walk_at "gi"
      refine ⟨rfl, some (.int o.1), some (.int o.2), ?_⟩
      rw [tk, lcmAll_snoc]
      rfl
    · obtain ⟨rfl, x2, x3, rfl⟩ := hP
      rw [List.take_of_length_le (by omega)]
      walk_at "gi"
      exact q
theorem pairs_take {H : Hp} : ∀ {vs : List V} {fs : List (Int × Int)} (n : Nat), PairsAt K H vs fs → PairsAt K H (vs.take n) (fs.take n)
  | _, _, 0, _ => .nil
  | _, _, _ + 1, .nil => .nil
  | _, _, n + 1, .cons r t => .cons r (pairs_take n t)
theorem pairs_drop {H : Hp} : ∀ {vs : List V} {fs : List (Int × Int)} (n : Nat), PairsAt K H vs fs → PairsAt K H (vs.drop n) (fs.drop n)
  | _, _, 0, h => h
  | _, _, _ + 1, .nil => .nil
  | _, _, n + 1, .cons _ t => pairs_drop n t
theorem cut_from {xs : List V} {i : Nat} (h : i ≤ xs.length) : cutV xs (some (i : Int)) none = xs.drop i := by
  unfold cutV
  rw [HT.sIx_none, HT.sIx_nat, show min i xs.length = i by omega]
  exact List.take_of_length_le (by rw [List.length_drop]; omega)
theorem cut_til {xs : List V} (i : Nat) : cutV xs none (some (i : Int)) = xs.take i := cut_to xs i
end
section
variable {P : Program} {w : World} {K : PySem.W.Frag} {mg : Str → Option Value} {base : Heap}
theorem pairs_at {H : Hp} : ∀ {vs : List V} {fs : List (Int × Int)} {i : Nat} {o : Int × Int}, PairsAt K H vs fs → fs[i]? = some o → ∃ v, vs[i]? = some v ∧ PairAt K H v o
  | _, _, 0, _, .cons h _, e => ⟨_, rfl, by cases e; exact h⟩
  | _, _, i + 1, _, .cons _ t, e => pairs_at (i := i) t e
  | _, _, _, _, .nil, e => by simp at e
theorem facts_less {fs : List (Int × Int)} (h : Facts fs) (i : Nat) : Facts (fs.take i ++ fs.drop (i + 1)) := by
  refine ⟨?_, fun p hp => ?_⟩
  · rw [List.length_append, List.length_take, List.length_drop]
    have := h.1
    omega
  · rcases List.mem_append.mp hp with z | z
    · exact h.2 p (List.mem_of_mem_take z)
    · exact h.2 p (List.mem_of_mem_drop z)
end
section
variable {P : Program} {w : World} {K : PySem.W.Frag} {mg : Str → Option Value} {base : Heap}
/-! ### facts weighed -/
abbrev We := (Int × Int) × Int
def encW (e : We) : List L2.Key × V := (keyP e.1, .int e.2)
/-- the rest that a joined set of lamps leaves -/
noncomputable def jr (gs : List (Int × Int)) : Int := open Classical in if h : ∃ R, Vf.Jn gs R then h.choose else 0
theorem jr_eq {gs : List (Int × Int)} {R : Int} (h : Vf.Jn gs R) : jr gs = R := by
  have e : ∃ R, Vf.Jn gs R := ⟨R, h⟩
  unfold jr
  rw [dif_pos e]
  exact Vf.Jn.one e.choose_spec h
noncomputable def tmj (fs : List (Int × Int)) (k : Nat) (G : Int × Int → Int) (c : Nat) : Int := open Classical in if Vf.Con fs c then Vf.wtk k (Vf.bitsL fs.length c).length * G (jr (Vf.subF fs fs.length c), (lcmAll (Vf.subF fs fs.length c) : Int)) else 0
theorem tmj_base (fs : List (Int × Int)) (k : Nat) (G : Int → Int) (c : Nat) : tmj fs k (fun o => G o.2) c = Vf.tmk fs k G c := by
  unfold tmj Vf.tmk
  rfl
def sumE (es : List We) (G : Int × Int → Int) : Int := (es.map fun e => e.2 * G e.1).sum
theorem sumE_app (es fs : List We) (G : Int × Int → Int) : sumE (es ++ fs) G = sumE es G + sumE fs G := by
  unfold sumE
  rw [List.map_append, List.sum_append]
theorem keyP_inj {a b : Int × Int} (h : keyP a = keyP b) : a = b := by
  have h1 : [Sum.inl a.1, (Sum.inl a.2 : L2.Key)] = [Sum.inl b.1, Sum.inl b.2] := h
  injection h1 with h2 h3
  injection h3 with h3 _
  exact Prod.ext (Sum.inl.inj h2) (Sum.inl.inj h3)
theorem val_none {es : List We} {j : Int × Int} (h : ∀ e ∈ es, e.1 ≠ j) : valV (es.map encW) (keyP j) = none := by
  unfold valV
  rw [List.find?_eq_none.mpr]
  · rfl
  · intro x hx
    obtain ⟨e, he, rfl⟩ := List.mem_map.mp hx
    simp only [decide_eq_true_eq]
    exact fun z => h e he (keyP_inj z)
theorem put_same {es : List We} {j : Int × Int} {v : V} (h : ∀ e ∈ es, e.1 ≠ j) : (es.map encW).map (fun kv => if kv.1 = keyP j then (kv.1, v) else kv) = es.map encW := by
  rw [List.map_map]
  refine List.map_congr_left fun e he => ?_
  show (if keyP e.1 = keyP j then _ else _) = _
  rw [if_neg fun z => h e he (keyP_inj z)]
/-- one more weight for the key j -/
theorem wput (es : List We) (nd : (es.map (·.1)).Nodup) (j : Int × Int) (B : Nat) (hB : ∀ e ∈ es, e.2.natAbs ≤ B) (w : Int) : ∃ (v : Int) (es' : List We), (valV (es.map encW) (keyP j)).getD (.int 0) = .int v ∧ putK (es.map encW) (keyP j) (.int (v + w)) = es'.map encW ∧
    (es'.map (·.1)).Nodup ∧ es'.length ≤ es.length + 1 ∧ (∀ G, sumE es' G = sumE es G + w * G j) ∧ (∀ e ∈ es', e ∈ es ∨ (e.1 = j ∧ e.2.natAbs ≤ B + w.natAbs)) := by
  by_cases h : ∃ e ∈ es, e.1 = j
  · obtain ⟨⟨j', v⟩, he, rfl⟩ := h
    obtain ⟨l1, l2, rfl⟩ := List.append_of_mem he
    rw [List.map_append, List.map_cons] at nd
    obtain ⟨n1, n2, n3⟩ := List.nodup_append.mp nd
    obtain ⟨n4, n5⟩ := List.nodup_cons.mp n2
    have f1 : ∀ e ∈ l1, e.1 ≠ j' := fun e he z => n3 e.1 (List.mem_map.mpr ⟨e, he, rfl⟩) j' List.mem_cons_self z
    have f2 : ∀ e ∈ l2, e.1 ≠ j' := fun e he z => n4 (by show j' ∈ _; rw [← z]; exact List.mem_map.mpr ⟨e, he, rfl⟩)
    refine ⟨v, l1 ++ (j', v + w) :: l2, ?_, ?_, ?_, ?_, fun G => ?_, fun e he => ?_⟩
    · unfold valV
      rw [List.map_append, List.find?_append]
      have z := val_none f1
      unfold valV at z
      rw [Option.map_eq_none_iff.mp z, List.map_cons, List.find?_cons]
      show (Option.map _ (Option.or none (match decide (keyP j' = keyP j') with | true => some (encW (j', v)) | false => _))).getD _ = _
      rw [decide_eq_true rfl]
      rfl
    · unfold putK
      rw [if_pos]
      · rw [List.map_append, List.map_append, List.map_cons, List.map_cons, put_same f1, put_same f2, List.map_append, List.map_cons]
        show _ ++ (if keyP j' = keyP j' then _ else _) :: _ = _
        rw [if_pos rfl]
        rfl
      · rw [List.any_eq_true]
        exact ⟨encW (j', v), List.mem_map.mpr ⟨_, he, rfl⟩, decide_eq_true rfl⟩
    · rw [List.map_append, List.map_cons]
      exact nd
    · simp
    · rw [sumE_app, sumE_app]
      show sumE l1 G + (((j', v + w) :: l2 : List We).map fun e => e.2 * G e.1).sum = sumE l1 G + (((j', v) :: l2 : List We).map fun e => e.2 * G e.1).sum + w * G j'
      rw [List.map_cons, List.map_cons, List.sum_cons, List.sum_cons]
      show sumE l1 G + ((v + w) * G j' + _) = sumE l1 G + (v * G j' + _) + w * G j'
      rw [Int.add_mul]
      omega
    · rcases List.mem_append.mp he with q | q
      · exact .inl (List.mem_append_left _ q)
      · rcases List.mem_cons.mp q with rfl | q
        · have := hB (j', v) (List.mem_append_right _ List.mem_cons_self)
          exact .inr ⟨rfl, by dsimp only at *; omega⟩
        · exact .inl (List.mem_append_right _ (List.mem_cons_of_mem _ q))
  · have f1 : ∀ e ∈ es, e.1 ≠ j := fun e he z => h ⟨e, he, z⟩
    refine ⟨0, es ++ [(j, w)], by rw [val_none f1]; rfl, ?_, ?_, by simp, fun G => ?_, fun e he => ?_⟩
    · unfold putK
      rw [if_neg, List.map_append, Int.zero_add]
      · rfl
      · rw [List.any_eq_true]
        rintro ⟨x, hx, e⟩
        obtain ⟨e', he', rfl⟩ := List.mem_map.mp hx
        exact f1 e' he' (keyP_inj (of_decide_eq_true e))
    · rw [List.map_append]
      refine List.nodup_append.mpr ⟨nd, by simp, fun a ha b hb => ?_⟩
      obtain ⟨e, he, rfl⟩ := List.mem_map.mp ha
      have : b = j := by simpa using hb
      rw [this]
      exact f1 e he
    · rw [sumE_app]
      show _ + (w * G j + 0) = _
      omega
    · rcases List.mem_append.mp he with q | q
      · exact .inl q
      · rw [List.mem_singleton.mp q]
        exact .inr ⟨rfl, by dsimp only; omega⟩
theorem wtk_le : ∀ k, k ≤ 12 → ∀ j, j ≤ 12 → (Vf.wtk k j).natAbs ≤ 1000 := by decide +kernel
def WAt (H : Hp) (v : V) (e : We) : Prop := ∃ t q, v = .ref t ∧ H t = some (.tup [.int e.2, .ref q]) ∧ H q = some (.tup [.int e.1.1, .int e.1.2])
theorem WAt.th {H H' : Hp} (s : Th H H') {v : V} {e : We} (h : WAt H v e) : WAt H' v e := by
  obtain ⟨t, q, h1, h2, h3⟩ := h
  exact ⟨t, q, h1, s _ _ h2, s _ _ h3⟩
theorem sum_filter (es : List We) (G : Int × Int → Int) : sumE (es.filter fun e => decide (e.2 ≠ 0)) G = sumE es G := by
  induction es with
  | nil => rfl
  | cons e es ih =>
    unfold sumE at *
    rw [List.filter_cons]
    by_cases h : e.2 = 0
    · rw [if_neg (by simp [h]), ih, List.map_cons, List.sum_cons, h, Int.zero_mul, Int.zero_add]
    · rw [if_pos (by simp [h]), List.map_cons, List.map_cons, List.sum_cons, List.sum_cons, ih]
def sp_weighed (K : PySem.W.Frag) : Sp := fun vs H Q _ => ∃ (a : Addr) (fs : List (Int × Int)) (k : Nat), vs = [.ref a, .int (k : Int)] ∧ FactsAt K H a fs ∧ Facts fs ∧ fs.length ≤ 12 ∧ k ≤ 12 ∧
  ∀ p ws es H', Same H H' → H p = none → H' p = some (.lst ws) → Paired (WAt H') ws es → es.length ≤ 4096 → (∀ e ∈ es, (0 < e.1.2 ∧ e.1.2.natAbs ≤ Bq) ∧ e.2.natAbs ≤ 4096000) → (∀ G, sumE es G = ((List.range (2 ^ fs.length)).map (tmj fs k G)).sum) → Q (.ref p) H'
theorem ok_weighed_facts (T : Top K mg) : Ok P w K mg base 6 "weighed_facts" s_weighed_facts ["lamps", "many"] (sp_weighed K) := by
  have G_joined_sets := ok_joined_sets (P := P) (w := w) (base := base) T
  have G_index_sets := ok_index_sets (P := P) (w := w) (base := base) T
  refine T.d_weighed_facts.ok sc_weighed_facts (fun vs H Q E h => ?_) (fun f cdv A outer s H vs Q E hg hr h => ?_)
  · obtain ⟨a, fs, k, rfl, _⟩ := h
    rfl
  · obtain ⟨a, fs, k, rfl, hfa, hf, hl, hk, q⟩ := h
    obtain ⟨vs, sv, pvs⟩ := id hfa
    have ev := pvs.length
    have l2 := pow12 hl
    refine ⟨_, (pss_cons (ps_set (i := 2) sc_weighed_facts.nd rfl (.inl rfl) pe_dnewT)
    (pss_cons (ps_for (passes_of rfl) rfl (pi_zip (by rfl) T.b_zip (pa_cons (pe_g G_index_sets (fun _ _ F => bd_index_sets F) hg (hr.mono (by decide)) passL (by rfl) (pa_cons (pe_callB (id := "len") (c_len rfl) (by rfl) T.b_len (by decide +kernel) (pa_cons (pv 0) pa_nil)) pa_nil)) (pa_cons (pe_g G_joined_sets (fun _ _ F => bd_joined_sets F) hg (hr.mono (by decide)) passL (by rfl) (pa_cons (pv 0) pa_nil)) pa_nil))) (g_tup rfl rfl (pgs_cons (pg_name (i := 3) sc_weighed_facts.nd rfl (.inl rfl)) (pgs_cons (pg_name (i := 4) sc_weighed_facts.nd rfl (.inl rfl)) pgs_nil)) rfl rfl) (pss_cons (ps_set (i := 5) sc_weighed_facts.nd rfl (.inl rfl) (pe_op op_sub (pe_callB (id := "len") (c_len rfl) (by rfl) T.b_len (by decide +kernel) (pa_cons (pv 3) pa_nil)) (pv 1)))
    (pss_one (ps_if (PW.pt (pw_and (pt_cmpR op_notN (pv 4) pe_non (nomark _)) (pw_and1 (pt_cmpR op_ge (pv 5) pe_int (nomark _))))) (pss_cons (ps_set (i := 6) sc_weighed_facts.nd rfl (.inl rfl) (pe_callBfun (id := "math.comb") c_comb (by rfl) T.m_comb (pa_cons (pe_callB (id := "len") (c_len rfl) (by rfl) T.b_len (by decide +kernel) (pa_cons (pv 3) pa_nil)) (pa_cons (pv 1) pa_nil))))
    (pss_one (ps_dput (Nat.lt_of_le_of_lt (Nat.add_le_add_left (by decide) _) hr.units) (pv 2) (pv 4) (pe_op op_add (pe_dget2 (Nat.lt_of_le_of_lt (Nat.add_le_add_left (by decide) _) hr.units) (pv 2) (pv 4) pe_int (M2.mk rfl rfl rfl rfl)) (pe_ifExp (pt_truth (pe_op op_odd (pv 5) pe_int) (by intro _; rfl)) (pe_un un_neg (pv 6)) (pv 6))) rfl))) pss_nil))))
    (pss_one (ps_ret (pe_lock (pe_lc (own := [("fact", 4), ("weight", 6)]) (by rfl) sc_weighed_facts.nd (pi_itemsT (pv 2)) (blkOk_by (own := [("fact", 4), ("weight", 6)]) (N := ["lamps", "many", "weights", "indexes", "fact", "beyond", "weight"]) (sc := defScope s_weighed_facts) (by decide +kernel)) (fun _ _ _ _ _ => (g_tup (n := 2) rfl rfl (pgs_cons (pg_name (i := 4) sc_weighed_facts.nd rfl (by first | exact Or.inl rfl | exact Or.inr rfl)) (pgs_cons (pg_name (i := 6) sc_weighed_facts.nd rfl (by first | exact Or.inl rfl | exact Or.inr rfl)) pgs_nil)) rfl rfl)) (fun _ _ _ _ _ => (pts_one (pt_truK rfl (pv 6) (by intro _; rfl)))) (fun _ _ _ _ _ => (pe_tup (pa_cons (pv 6) (pa_cons (pv 4) pa_nil)))))))))), ?_⟩
    walk_at "sti"
    intro D hD
    walk_at "gi"
    have s0 := Same.new hD (o := .dT [])
    refine r_forZli ?_
    walk_at "gi"
    refine ⟨fs.length, by rw [ev], hl, fun pi wi H1 s1 ni ei R => ?_⟩
    have li := RowsAt.len R
    rw [List.length_map, Vf.lots_len] at li
    walk_at "gi"
    have s01 := s0.trans s1
    refine ⟨a, fs, rfl, hfa.tt (Same.tt s01), hf, hl, fun pj wj H2 s2 nj ej J => ?_⟩
    have lj := Paired.length J
    rw [subs_len] at lj
    have ei2 := s2 _ _ ei
    walk_at "gi"
    have eD : H2 D = some (.dT []) := (s1.trans s2) _ _ upd_same
    have s02 := s01.trans s2
    have fit : ∀ {i : Nat} {x : V}, wj[i]? = some x → i < 2 ^ fs.length ∧ ((x = .non ∧ ∀ z, ¬ Fits z (Vf.subF fs fs.length i)) ∨ ∃ t R, x = .ref t ∧ H2 t = some (.tup [.int R, .int (lcmAll (Vf.subF fs fs.length i) : Int)]) ∧ Vf.Jn (Vf.subF fs fs.length i) R) := fun {i x} hx => by
      have il : i < 2 ^ fs.length := by
        have := (List.getElem?_eq_some_iff.mp hx).1
        omega
      obtain ⟨gs, hgs, jn⟩ := pget J hx
      have eg : gs = Vf.subF fs fs.length i := by
        rw [Vf.subs, List.getElem?_map, List.getElem?_range il] at hgs
        exact (Option.some.inj hgs).symm
      subst eg
      exact ⟨il, jn⟩
    refine ⟨pi, pj, wi, wj, rfl, SqL.of ei2, SqL.of ej, ?_⟩
    refine r_forZl wi wj (2 ^ fs.length) li lj (fun i σ H' => ∃ x3 x4 x5 x6 es, σ = [some (.ref a), some (.int (k : Int)), some (.ref D), x3, x4, x5, x6] ∧ Same H H' ∧ Kx D H2 H' ∧ H' D = some (.dT (es.map encW)) ∧ (es.map (·.1)).Nodup ∧ es.length ≤ i ∧
      (∀ e ∈ es, (0 < e.1.2 ∧ e.1.2.natAbs ≤ Bq) ∧ e.2.natAbs ≤ 1000 * i) ∧ ∀ G, sumE es G = ((List.range i).map (tmj fs k G)).sum)
      ⟨_, _, _, _, [], rfl, s02, Kx.refl _, eD, List.nodup_nil, Nat.le_refl _, (fun e h => nomatch h), fun G => rfl⟩ (fun i σ H' hi hP => ?_) (fun i x y σ H' t hx hy hP ht => ?_) (fun σ H' hP => ?_)
    · obtain ⟨x3, x4, x5, x6, es, rfl, _, kx, _⟩ := hP
      exact ⟨SqL.of (kx _ _ (Ne.symm (ne_of_none upd_same ni)) ei2), SqL.of (kx _ _ (Ne.symm (ne_of_none (s1 _ _ upd_same) nj)) ej)⟩
    · obtain ⟨x3, x4, x5, x6, es, rfl, sH, kx, e3, nd, le, bd, sm⟩ := hP
      obtain ⟨il, jn⟩ := fit hy
      obtain ⟨y', hy', tx, rfl, stx⟩ := pget R hx
      rw [List.getElem?_map, Vf.lots, List.getElem?_map, List.getElem?_range il] at hy'
      have hy' := Option.some.inj hy'
      have lx : (y'.map V.int).length = (Vf.bitsL fs.length i).length := by rw [← hy', List.length_map, nint, List.length_map]
      have bl := Vf.bitsL_len fs.length i
      have sT := Same.new ht (o := .tup [.ref tx, y])
      have stx2 : SqT K H' tx (y'.map V.int) := kx.tupT eD (Same.tup s2 stx)
      have stx3 := Same.tup sT stx2
      have s00 : ∀ G, ((List.range (i + 1)).map (tmj fs k G)).sum = ((List.range i).map (tmj fs k G)).sum + tmj fs k G i := fun G => by
        rw [List.range_succ, List.map_append, List.sum_append]
        show _ + (tmj fs k G i + 0) = _
        omega
      have skip : (∀ G, tmj fs k G i = 0) → (∀ e ∈ es, (0 < e.1.2 ∧ e.1.2.natAbs ≤ Bq) ∧ e.2.natAbs ≤ 1000 * (i + 1)) ∧ ∀ G, sumE es G = ((List.range (i + 1)).map (tmj fs k G)).sum := fun z => by
        refine ⟨fun e he => ⟨(bd e he).1, by have := (bd e he).2; omega⟩, fun G => ?_⟩
        rw [s00, z, Int.add_zero]
        exact sm G
      refine r_gtup (SqT.of upd_same) rfl ?_
      walk_at "gi"
      rw [lx]
      rcases jn with ⟨rfl, nf⟩ | ⟨t2, R2, rfl, sm2, jn⟩
      · walk_at "gi"
        obtain ⟨k1, k2⟩ := skip fun G => by
          unfold tmj
          rw [if_neg fun ⟨z, hz⟩ => nf z hz]
        exact ⟨_, _, _, _, es, rfl, sH.trans sT, kx.same sT, sT _ _ e3, nd, by omega, k1, k2⟩
      · have mo : ∀ p ∈ Vf.subF fs fs.length i, Fact p := fun p hp => hf.2 p (Vf.subF_mem (Nat.le_refl _) hp)
        have lm : 0 < lcmAll (Vf.subF fs fs.length i) := lcmAll_pos _ 1 mo (by decide)
        have lq : lcmAll (Vf.subF fs fs.length i) ≤ Bq := Facts.lcm_Bq mo (by unfold Vf.subF; rw [List.length_map]; omega)
        have e42 : (upd H' t (.tup [.ref tx, .ref t2])) t2 = some (.tup [.int R2, .int (lcmAll (Vf.subF fs fs.length i) : Int)]) := sT _ _ ((Kx.th kx eD fun _ z => nomatch z) _ _ sm2)
        have co : Vf.Con fs i := ⟨R2, jn.fits⟩
        have ef : ∀ G, tmj fs k G i = Vf.wtk k (Vf.bitsL fs.length i).length * G (R2, (lcmAll (Vf.subF fs fs.length i) : Int)) := fun G => by
          unfold tmj
          rw [if_pos co, jr_eq jn]
        walk_at "gi"
        refine ifd (fun c => ?_) (fun c => ?_)
        · have ck : k ≤ (Vf.bitsL fs.length i).length := by omega
          walk_at "gi"
          refine r_comb (by omega) (by omega) (by omega) ?_
          obtain ⟨v, es', ev1, ev2, nd', le', se', me'⟩ := wput es nd (R2, (lcmAll (Vf.subF fs fs.length i) : Int)) (1000 * i) (fun e he => (bd e he).2) (Vf.wtk k (Vf.bitsL fs.length i).length)
          have wl := wtk_le k hk _ (show (Vf.bitsL fs.length i).length ≤ 12 by omega)
          have hw : Vf.wtk k (Vf.bitsL fs.length i).length = if ((Vf.bitsL fs.length i).length - k) % 2 = 1 then -(PySem.W.mcComb (Vf.bitsL fs.length i).length k) else PySem.W.mcComb (Vf.bitsL fs.length i).length k := if_pos ck
          have fin : ∃ x3' x4' x5' x6' es0, [some (.ref a), some (.int (k : Int)), some (.ref D), some (V.ref tx), some (V.ref t2), some (V.int ((Vf.bitsL fs.length i).length - k)), some (V.int (PySem.W.mcComb (Vf.bitsL fs.length i).length k))] = [some (.ref a), some (.int (k : Int)), some (.ref D), x3', x4', x5', x6'] ∧ Same H (upd (upd H' t (.tup [.ref tx, .ref t2])) D (.dT (es'.map encW))) ∧ Kx D H2 (upd (upd H' t (.tup [.ref tx, .ref t2])) D (.dT (es'.map encW))) ∧ (upd (upd H' t (.tup [.ref tx, .ref t2])) D (.dT (es'.map encW))) D = some (.dT (es0.map encW)) ∧ (es0.map (·.1)).Nodup ∧ es0.length ≤ i + 1 ∧ (∀ e ∈ es0, (0 < e.1.2 ∧ e.1.2.natAbs ≤ Bq) ∧ e.2.natAbs ≤ 1000 * (i + 1)) ∧ ∀ G, sumE es0 G = ((List.range (i + 1)).map (tmj fs k G)).sum := by
            refine ⟨_, _, _, _, es', rfl, fun b o e => ?_, (kx.same sT).trans Kx.upd, upd_same, nd', by omega, fun e he => ?_, fun G => by rw [se', s00, ef, sm]⟩
            · rw [upd_ne (ne_of_none e hD)]
              exact (sH.trans sT) _ _ e
            · rcases me' e he with z | ⟨z1, z2⟩
              · exact ⟨(bd e z).1, by have := (bd e z).2; omega⟩
              · rw [z1]
                exact ⟨⟨by dsimp only; omega, by dsimp only; rw [Int.natAbs_natCast]; exact lq⟩, by omega⟩
          rw [lx]
          walk_at "gi"
          refine r_dget2 ?_
          walk_at "gi"
          refine ⟨.inr ⟨_, .inl (sT _ _ e3)⟩, ?_⟩
          walk_at "gi"
          refine ⟨_, DGet.t (k := keyP (R2, (lcmAll (Vf.subF fs fs.length i) : Int))) (sT _ _ e3) e42, ?_⟩
          rw [ev1]
          walk_at "gi"
          refine ⟨(Vf.bitsL fs.length i).length - k, by rw [Int.natCast_sub ck], rfl, tru_int ?_⟩
          rcases Nat.mod_two_eq_zero_or_one ((Vf.bitsL fs.length i).length - k) with c2 | c2
          · rw [c2, show (((0 : Nat) : Int) != 0) = false from rfl]
            rw [hw, if_neg (by omega)] at ev2
            walk_at "gi"
            refine ⟨D, _, rfl, DPut.t (k := keyP (R2, (lcmAll (Vf.subF fs fs.length i) : Int))) (sT _ _ e3) e42 (Nat.lt_of_le_of_lt (show _ ≤ 4096 by rw [List.length_map]; omega) (by decide)), ?_⟩
            rw [ev2]
            walk_at "gi"
            exact fin
          · rw [c2, show (((1 : Nat) : Int) != 0) = true from rfl]
            rw [hw, if_pos c2] at ev2
            walk_at "gi"
            refine ⟨D, _, rfl, DPut.t (k := keyP (R2, (lcmAll (Vf.subF fs fs.length i) : Int))) (sT _ _ e3) e42 (Nat.lt_of_le_of_lt (show _ ≤ 4096 by rw [List.length_map]; omega) (by decide)), ?_⟩
            rw [ev2]
            walk_at "gi"
            exact fin
        · walk_at "gi"
          obtain ⟨k1, k2⟩ := skip fun G => by
            rw [ef, show Vf.wtk k (Vf.bitsL fs.length i).length = 0 from if_neg (by omega), Int.zero_mul]
          exact ⟨_, _, _, _, es, rfl, sH.trans sT, kx.same sT, sT _ _ e3, nd, by omega, k1, k2⟩
    · obtain ⟨x3, x4, x5, x6, es, rfl, sH, kx, e3, nd, le, bd, sm⟩ := hP
      refine ⟨D, .dT (es.map encW), e3, True.intro, fun od => ?_⟩
      refine r_lcITi ?_
      walk_at "gi"
      refine ⟨D, od, _, rfl, upd_same, ?_⟩
      refine r_lcIT (es.map encW) (fun E i H4 => Same (upd H' D (.frz od (.dT (es.map encW)))) H4 ∧ ∃ us, H4 E = some (.lst us) ∧ Paired (WAt H4) us ((es.take i).filter fun e => decide (e.2 ≠ 0))) (fun E hE => ⟨Same.new hE, [], upd_same, by rw [List.take_zero]; exact .nil⟩) (fun E i H4 hE hi hP => hP.1 _ _ upd_same) (fun E i kk v q2 H4 T hE hkv hq hP hT => ?_) (fun E H4 hE hP => ?_)
      · obtain ⟨s3, us, e4, U⟩ := hP
        obtain ⟨e, he, ek⟩ : ∃ e, es[i]? = some e ∧ encW e = (kk, v) := by
          rw [List.getElem?_map] at hkv
          cases hh : es[i]? with
          | none => rw [hh] at hkv; cases hkv
          | some e => rw [hh] at hkv; exact ⟨e, rfl, Option.some.inj hkv⟩
        obtain ⟨rfl, rfl⟩ := Prod.mk.inj ek
        have hq : H4 q2 = some (.tup [.int e.1.1, .int e.1.2]) := hq
        have sT := Same.new hT (o := .tup [.ref q2, .int e.2])
        have lu : us.length ≤ 4096 := by
          have h1 := Paired.length U
          have h2 := List.length_filter_le (fun e : We => decide (e.2 ≠ 0)) (es.take i)
          rw [List.length_take] at h2
          omega
        have ef : (es.take (i + 1)).filter (fun e => decide (e.2 ≠ 0)) = (es.take i).filter (fun e => decide (e.2 ≠ 0)) ++ (if e.2 = 0 then [] else [e]) := by
          rw [take_one he, List.filter_append, List.filter_cons, List.filter_nil]
          by_cases z : e.2 = 0
          · rw [if_pos z, if_neg (by simp [z])]
          · rw [if_neg z, if_pos (by simp [z])]
        refine r_gtup (SqT.of upd_same) rfl ?_
        walk_at "gi"
        refine ⟨rfl, ?_⟩
        walk_at "gi"
        by_cases z : e.2 = 0
        · rw [z, show ((0 : Int) != 0) = false from rfl]
          rw [if_neg Bool.false_ne_true]
          rw [z] at sT
          rw [ef, if_pos z, List.append_nil]
          exact ⟨s3.trans sT, us, sT _ _ e4, pmono (fun _ _ r => r.th (Same.th sT)) U⟩
        · rw [show (e.2 != 0) = true from bne_iff_ne.mpr z]
          walk_at "gi"
          rename_i T2 hT2
          have s5 := sT.trans (Same.new hT2 (o := .tup [.int e.2, .ref q2]))
          refine ⟨us, s5 _ _ e4, Nat.lt_of_le_of_lt lu (by decide), fun b o eb => ?_, us ++ [.ref T2], upd_same, ?_⟩
          · rw [upd_ne (ne_of_none eb hE)]
            exact (s3.trans s5) _ _ eb
          · rw [ef, if_neg z]
            exact papp (pmono (fun _ _ r => r.th (fun a xs h => upd_th (s5 _ _ e4) _ _ (s5 _ _ h))) U) (.cons ⟨T2, q2, rfl, upd_th (s5 _ _ e4) _ _ upd_same, upd_th (s5 _ _ e4) _ _ (s5 _ _ hq)⟩ .nil)
      · obtain ⟨s3, us, e4, U⟩ := hP
        rw [List.length_map, List.take_length] at U
        have eF : H4 D = some (.frz od (.dT (es.map encW))) := s3 _ _ upd_same
        have nE : E ≠ D := fun z => by rw [z, upd_same] at hE; cases hE
        have nE' : H' E = none := by rw [upd_ne nE] at hE; exact hE
        refine ⟨eF, ?_⟩
        have sf : Same H (upd H4 D (.dT (es.map encW))) := fun b o eb => by
          have nb := ne_of_none eb hD
          rw [upd_ne nb]
          refine s3 _ _ ?_
          rw [upd_ne nb]
          exact sH _ _ eb
        refine q E us (es.filter fun e => decide (e.2 ≠ 0)) _ sf (none_same sH nE') (by rw [upd_ne nE]; exact e4) (pmono (fun _ _ r => r.th (Kx.th Kx.upd eF fun _ z => nomatch z)) U) (Nat.le_trans (List.length_filter_le _ _) (by omega)) (fun e he => ?_) fun G => by rw [sum_filter, sm]
        have := bd e (List.mem_filter.mp he).1
        exact ⟨this.1, by omega⟩
end
section
variable {P : Program} {w : World} {K : PySem.W.Frag} {mg : Str → Option Value} {base : Heap}
/-! ### shares -/
theorem Facts.few_lcm {fs : List (Int × Int)} (h : Facts fs) : 0 < lcmAll fs ∧ lcmAll fs ≤ Bq := ⟨lcmAll_pos _ 1 h.2 (by decide), Facts.lcm_Bq h.2 h.1⟩
theorem sum_each {es : List We} (G : Int × Int → Int) : ∀ {k : Nat}, sumE (es.take k) G = (((es.take k).map fun e => e.2 * G e.1).sum) := rfl
def sp_share (K : PySem.W.Frag) : Sp := fun vs H Q _ => ∃ (a p : Addr) (ws : List V) (es : List We) (fs : List (Int × Int)), vs = [.ref a, .ref p] ∧ FactsAt K H a fs ∧ Facts fs ∧ H p = some (.lst ws) ∧ Paired (WAt H) ws es ∧ es.length ≤ 4096 ∧ (∀ e ∈ es, (0 < e.1.2 ∧ e.1.2.natAbs ≤ Bq) ∧ e.2.natAbs ≤ 4096000) ∧
  ∀ t H', Same H H' → H t = none → H' t = some (.tup [.int (sumE es (fun o => (lcmAll fs : Int) / o.2) / ((Nat.gcd (sumE es fun o => (lcmAll fs : Int) / o.2).natAbs (lcmAll fs) : Nat) : Int)), .int ((lcmAll fs : Int) / ((Nat.gcd (sumE es fun o => (lcmAll fs : Int) / o.2).natAbs (lcmAll fs) : Nat) : Int))]) → Q (.ref t) H'
theorem ok_share_weighed (T : Top K mg) : Ok P w K mg base 2 "share_weighed" s_share_weighed ["lamps", "weighed"] (sp_share K) := by
  have G_common_base := ok_common_base (P := P) (w := w) (base := base) T
  refine T.d_share_weighed.ok sc_share_weighed (fun vs H Q E h => ?_) (fun f cdv A outer s H vs Q E hg hr h => ?_)
  · obtain ⟨a, p, ws, es, fs, rfl, _⟩ := h
    rfl
  · obtain ⟨a, p, ws, es, fs, rfl, hfa, hf, hp, W, le, bd, q⟩ := h
    obtain ⟨L0, L1⟩ := Facts.few_lcm hf
    have lw := Paired.length W
    refine ⟨_, (pss_cons (ps_set (i := 2) sc_share_weighed.nd rfl (.inr rfl) (pe_g G_common_base (fun _ _ F => bd_common_base F) hg (hr.mono (by decide)) passL (by rfl) (pa_cons (pv 0) pa_nil)))
    (pss_cons (ps_set (i := 3) sc_share_weighed.nd rfl (.inl rfl) (pe_callB (id := "sum") (c_sum rfl rfl) (by rfl) T.b_sum (by decide +kernel) (pa_cons (pe_lc (own := [("weight", 5), ("fact", 6)]) (by rfl) sc_share_weighed.nd (i_list rfl (pv 1)) (blkOk_by (own := [("weight", 5), ("fact", 6)]) (N := ["lamps", "weighed", "bottom", "top", "shared", "weight", "fact"]) (sc := defScope s_share_weighed) (by decide +kernel)) (fun _ _ _ _ _ => (g_tup (n := 2) rfl rfl (pgs_cons (pg_name (i := 5) sc_share_weighed.nd rfl (by first | exact Or.inl rfl | exact Or.inr rfl)) (pgs_cons (pg_name (i := 6) sc_share_weighed.nd rfl (by first | exact Or.inl rfl | exact Or.inr rfl)) pgs_nil)) rfl rfl)) (fun _ _ _ _ _ => pts_nil) (fun _ _ _ _ _ => (pe_op op_mulX (pv 5) (pe_op op_fdivW (pv 2) (pe_ix (x_tup rfl) (pv 6) pe_int (fun _ _ => rfl)))))) pa_nil)))
    (pss_cons (ps_set (i := 4) sc_share_weighed.nd rfl (.inl rfl) (pe_callBfun (id := "math.gcd") cr_gcd (by rfl) T.m_gcd (pa_cons (pv 3) (pa_cons (pv 2) pa_nil))))
    (pss_one (ps_ret (pe_tup (pa_cons (pe_op op_fdivW (pv 3) (pv 4)) (pa_cons (pe_op op_fdivW (pv 2) (pv 4)) pa_nil)))))))), ?_⟩
    walk_at "sti"
    refine ⟨a, fs, rfl, hfa, hf, ?_⟩
    walk_at "gi"
    refine r_lcLs ws (fun D i H1 => Same H H1 ∧ H1 D = some (.lst ((es.take i).map fun e => V.int (e.2 * ((lcmAll fs : Int) / e.1.2))))) (fun D hD => ⟨Same.new hD, upd_same⟩) (fun D i H1 hD hi hP => ?_) (fun D i x H1 hD hx hP => ?_) (fun D H1 hD hP => ?_)
    · exact SqL.of (hP.1 _ _ hp)
    · obtain ⟨s1, e1⟩ := hP
      obtain ⟨e, he, t, q2, rfl, h2, h3⟩ := pget W hx
      have st := SqT.of (K := K) (s1 _ _ h2)
      have sq := SqT.of (K := K) (s1 _ _ h3)
      obtain ⟨b1, b2⟩ := bd e (List.mem_of_getElem? he)
      refine r_gtup st rfl ?_
      walk_at "gi"
      refine ⟨rfl, ?_⟩
      walk_at "gi"
      refine r_ixT sq (atI_nat (j := 1) rfl) ?_
      refine r_rI (Bq_div b1.1 b1.2) ?_
      have lB : ((lcmAll fs : Int) / e.1.2).natAbs < 2 ^ 4002 := by
        have h1 := Int.ediv_le_self e.1.2 (show (0 : Int) ≤ (lcmAll fs : Int) by omega)
        have h2 := Int.ediv_nonneg (show (0 : Int) ≤ (lcmAll fs : Int) by omega) (show 0 ≤ e.1.2 by omega)
        have h3 : ((lcmAll fs : Int) / e.1.2).natAbs ≤ Bq := by omega
        exact Nat.lt_of_le_of_lt h3 (Nat.pow_lt_pow_right (by decide) (by decide))
      refine r_rI (bit_mul (a := 64) (b := 4002) (bit_of (by omega)) (bit_of lB) (by decide)) ?_
      refine ⟨_, e1, Nat.lt_of_le_of_lt (show _ ≤ 4096 by rw [List.length_map]; exact Nat.le_trans (List.length_take_le' ..) le) (by decide), fun b o eb => ?_, ?_⟩
      · rw [upd_ne (ne_of_none eb hD)]
        exact s1 _ _ eb
      · rw [take_one he, List.map_append]
        exact upd_same
    · obtain ⟨s1, e1⟩ := hP
      rw [show ws.length = es.length from lw, List.take_length] at e1
      walk_at "gi"
      have em : (es.map fun e => V.int (e.2 * ((lcmAll fs : Int) / e.1.2))) = (es.map fun e => e.2 * ((lcmAll fs : Int) / e.1.2)).map V.int := by rw [List.map_map]; rfl
      rw [em] at e1
      refine ⟨D, _, rfl, SqL.of e1, ?_⟩
      have ss : (es.map fun e => e.2 * ((lcmAll fs : Int) / e.1.2)).sum = sumE es fun o => (lcmAll fs : Int) / o.2 := rfl
      rw [ss]
      generalize sumE es (fun o => (lcmAll fs : Int) / o.2) = S at *
      walk_at "gi"
      rw [Int.natAbs_natCast]
      have g0 : 0 < Nat.gcd S.natAbs (lcmAll fs) := Nat.gcd_pos_of_pos_right _ L0
      have g1 : Nat.gcd S.natAbs (lcmAll fs) ≤ Bq := Nat.le_trans (Nat.le_of_dvd L0 (Nat.gcd_dvd_right _ _)) L1
      refine r_rI (Bq_div (by omega) (by rw [Int.natAbs_natCast]; exact g1)) ?_
      walk_at "gi"
      refine r_rI (Bq_div (by omega) (by rw [Int.natAbs_natCast]; exact g1)) ?_
      walk_at "gi"
      rename_i t ht
      exact q t _ (s1.trans (Same.new ht)) (none_same s1 ht) upd_same
/-- the share of the numbers at which just k lamps shine -/
def shr (fs : List (Int × Int)) (k : Nat) (S : Int) : Prop := S = ((List.range (2 ^ fs.length)).map (Vf.tmk fs k fun m => (lcmAll fs : Int) / m)).sum
def low2 (S : Int) (L : Nat) : List V := [.int (S / ((Nat.gcd S.natAbs L : Nat) : Int)), .int ((L : Int) / ((Nat.gcd S.natAbs L : Nat) : Int))]
def sp_dark (K : PySem.W.Frag) : Sp := fun vs H Q _ => ∃ (a : Addr) (fs : List (Int × Int)), vs = [.ref a] ∧ FactsAt K H a fs ∧ Facts fs ∧ fs.length ≤ 12 ∧
  ∀ S, shr fs 0 S → ∀ t H', Same H H' → H t = none → H' t = some (.tup (low2 S (lcmAll fs))) → Q (.ref t) H'
theorem ok_dark_share (T : Top K mg) : Ok P w K mg base 7 "dark_share" s_dark_share ["lamps"] (sp_dark K) := by
  have G_check_lamps := ok_check_lamps (P := P) (w := w) (base := base) T
  have G_weighed_facts := ok_weighed_facts (P := P) (w := w) (base := base) T
  have G_share_weighed := ok_share_weighed (P := P) (w := w) (base := base) T
  refine T.d_dark_share.ok sc_dark_share (fun vs H Q E h => ?_) (fun f cdv A outer s H vs Q E hg hr h => ?_)
  · obtain ⟨a, fs, rfl, _⟩ := h
    rfl
  · obtain ⟨a, fs, rfl, hfa, hf, hl, q⟩ := h
    refine ⟨_, (pss_cons (ps_expr (pe_g G_check_lamps (fun _ _ F => bd_check_lamps F) hg (hr.mono (by decide)) passL (by rfl) (pa_cons (pv 0) pa_nil)))
    (pss_one (ps_ret (pe_g G_share_weighed (fun _ _ F => bd_share_weighed F) hg (hr.mono (by decide)) passL (by rfl) (pa_cons (pv 0) (pa_cons (pe_g G_weighed_facts (fun _ _ F => bd_weighed_facts F) hg (hr.mono (by decide)) passL (by rfl) (pa_cons (pv 0) (pa_cons pe_int pa_nil))) pa_nil)))))), ?_⟩
    walk_at "sti"
    refine ⟨a, fs, rfl, hfa, hf, hl, fun H1 s1 => ?_⟩
    walk_at "gi"
    refine ⟨a, fs, 0, rfl, hfa.tt (Same.tt s1), hf, hl, by decide, fun p ws es H2 s2 np ep W le bd sm => ?_⟩
    walk_at "gi"
    refine ⟨a, p, ws, es, fs, rfl, hfa.tt (Same.tt (s1.trans s2)), hf, ep, W, le, bd, fun t H3 s3 nt et => ?_⟩
    exact q _ ((sm fun o => (lcmAll fs : Int) / o.2).trans (congrArg List.sum (List.map_congr_left fun c _ => tmj_base fs 0 (fun m => (lcmAll fs : Int) / m) c))) t H3 ((s1.trans s2).trans s3) (none_same (s1.trans s2) nt) et
def sp_lit (K : PySem.W.Frag) : Sp := fun vs H Q _ => ∃ (a : Addr) (fs : List (Int × Int)) (k : Nat), vs = [.ref a, .int (k : Int)] ∧ FactsAt K H a fs ∧ Facts fs ∧ fs.length ≤ 12 ∧ k ≤ 12 ∧
  ∀ S, shr fs k S → ∀ t H', Same H H' → H t = none → H' t = some (.tup (low2 S (lcmAll fs))) → Q (.ref t) H'
theorem ok_share_lit (T : Top K mg) : Ok P w K mg base 7 "share_lit" s_share_lit ["lamps", "many"] (sp_lit K) := by
  have G_check_lamps := ok_check_lamps (P := P) (w := w) (base := base) T
  have G_check_within := ok_check_within (P := P) (w := w) (base := base) T
  have G_weighed_facts := ok_weighed_facts (P := P) (w := w) (base := base) T
  have G_share_weighed := ok_share_weighed (P := P) (w := w) (base := base) T
  refine T.d_share_lit.ok sc_share_lit (fun vs H Q E h => ?_) (fun f cdv A outer s H vs Q E hg hr h => ?_)
  · obtain ⟨a, fs, k, rfl, _⟩ := h
    rfl
  · obtain ⟨a, fs, k, rfl, hfa, hf, hl, hk, q⟩ := h
    refine ⟨_, (pss_cons (ps_expr (pe_g G_check_lamps (fun _ _ F => bd_check_lamps F) hg (hr.mono (by decide)) passL (by rfl) (pa_cons (pv 0) pa_nil)))
    (pss_cons (ps_expr (pe_g G_check_within (fun _ _ F => bd_check_within F) hg (hr.mono (by decide)) passL (by rfl) (pa_cons (pv 1) (pa_cons pe_int (pa_cons (pe_gi T.c_MOST_LAMPS (by rfl)) pa_nil)))))
    (pss_one (ps_ret (pe_g G_share_weighed (fun _ _ F => bd_share_weighed F) hg (hr.mono (by decide)) passL (by rfl) (pa_cons (pv 0) (pa_cons (pe_g G_weighed_facts (fun _ _ F => bd_weighed_facts F) hg (hr.mono (by decide)) passL (by rfl) (pa_cons (pv 0) (pa_cons (pv 1) pa_nil))) pa_nil))))))), ?_⟩
    walk_at "sti"
    refine ⟨a, fs, rfl, hfa, hf, hl, fun H1 s1 => ?_⟩
    walk_at "gi"
    refine ⟨_, 0, 12, rfl, by omega, by omega, ?_⟩
    walk_at "gi"
    refine ⟨a, fs, k, rfl, hfa.tt (Same.tt s1), hf, hl, hk, fun p ws es H2 s2 np ep W le bd sm => ?_⟩
    walk_at "gi"
    refine ⟨a, p, ws, es, fs, rfl, hfa.tt (Same.tt (s1.trans s2)), hf, ep, W, le, bd, fun t H3 s3 nt et => ?_⟩
    exact q _ ((sm fun o => (lcmAll fs : Int) / o.2).trans (congrArg List.sum (List.map_congr_left fun c _ => tmj_base fs k (fun m => (lcmAll fs : Int) / m) c))) t H3 ((s1.trans s2).trans s3) (none_same (s1.trans s2) nt) et
end
section
/-! ### lamps that a window shows -/
structure Lw (fs : List (Int × Int)) : Prop where
  b : ∀ p ∈ fs, 1 ≤ p.2 ∧ p.2 ≤ 2048 ∧ 0 ≤ p.1 ∧ p.1 < p.2
  lc : lcmAll fs ≤ 2048
  win : ∀ x0 : Int, (∀ j : Nat, j < 2 ^ fs.length → Vf.litB fs (x0 + j) = true) → ∀ x, Vf.litB fs x = true
  few : ∀ x, Vf.litN fs x ≤ 1
def Dr (fs : List (Int × Int)) : Prop := fs.length ≤ 12 ∧ Lw fs
theorem Lw.fact {fs : List (Int × Int)} (h : Lw fs) : ∀ p ∈ fs, Fact p := fun p hp => by
  have := h.b p hp
  unfold Fact
  omega
theorem Lw.pos {fs : List (Int × Int)} (h : Lw fs) : 0 < lcmAll fs := lcmAll_pos fs 1 h.fact (by decide)
theorem Lw.hits {fs : List (Int × Int)} (h : Lw fs) (x : Int) : Vf.hits fs x ≤ 5 := by
  rw [Vf.hits_list h.fact]
  exact Nat.le_trans (h.few x) (by decide)
theorem Dr.b {fs : List (Int × Int)} (h : Dr fs) : ∀ p ∈ fs, 1 ≤ p.2 ∧ p.2 ≤ 2048 ∧ 0 ≤ p.1 ∧ p.1 < p.2 := h.2.b
theorem Dr.facts {fs : List (Int × Int)} (h : Dr fs) : Facts fs := ⟨by have := h.1; omega, h.2.fact⟩
theorem Dr.lcm {fs : List (Int × Int)} (h : Dr fs) : lcmAll fs ≤ 5040 := Nat.le_trans h.2.lc (by decide)
theorem Dr.pos {fs : List (Int × Int)} (h : Dr fs) : 0 < lcmAll fs := h.2.pos
theorem xr_lcm {fs gs : List (Int × Int)} (h : Vf.Xr fs) (s : ∀ p ∈ gs, p ∈ fs) : lcmAll gs ≤ 2048 := by
  obtain ⟨D, D0, D1, D2⟩ := h.bd
  have a := Nat.le_of_dvd D0 (lcmAll_dvd gs 1 D (Nat.one_dvd _) fun p hp => D2 p (s p hp))
  have b : 2 ^ fs.length ≤ 2 ^ 12 := Nat.pow_le_pow_right (by decide) h.len.2
  have d : (2 : Nat) ^ 12 = 4096 := rfl
  have e : lcmAll gs ≤ D := a
  omega
theorem xr_dr {fs : List (Int × Int)} (h : Vf.Xr fs) : Dr fs := ⟨h.len.2, fun p hp => by
  have a := h.fact p hp
  have b := h.rg p hp
  have c := a.1.1
  omega, xr_lcm h fun _ hp => hp, fun _ _ x => h.lit x, fun x => Nat.le_of_eq (h.one x)⟩
theorem less_len {fs : List (Int × Int)} {i : Nat} (il : i < fs.length) : (Vf.less fs i).length = fs.length - 1 := by
  unfold Vf.less
  rw [List.length_append, List.length_take, List.length_drop]
  omega
/-- the first dark one is near -/
theorem xr_near {fs : List (Int × Int)} (h : Vf.Xr fs) {i : Nat} {r n : Int} (hi : fs[i]? = some (r, n)) (x0 : Int) : ∃ j : Nat, j < 2 ^ (Vf.less fs i).length ∧ (j : Int) = (r - x0) % n ∧ Vf.litB (Vf.less fs i) (x0 + j) = false := by
  obtain ⟨il, _⟩ := List.getElem?_eq_some_iff.mp hi
  have rn := h.rg _ (List.mem_of_getElem? hi)
  have wi := h.win _ (List.mem_of_getElem? hi)
  dsimp only at rn wi
  have a1 := Int.emod_nonneg (r - x0) (show n ≠ 0 by omega)
  have a2 := Int.emod_lt_of_pos (r - x0) (show 0 < n by omega)
  have e2 : 2 ^ fs.length = 2 ^ (fs.length - 1) * 2 := by rw [← Nat.pow_succ]; congr 1; omega
  refine ⟨((r - x0) % n).toNat, ?_, by omega, ?_⟩
  · rw [less_len il]
    omega
  · rw [h.dark hi, show x0 + (((r - x0) % n).toNat : Int) - r = -((r - x0) - (r - x0) % n) by omega]
    refine Int.emod_eq_zero_of_dvd (Int.dvd_neg.mpr ?_)
    exact Int.dvd_self_sub_emod
theorem xr_less {fs : List (Int × Int)} (h : Vf.Xr fs) {i : Nat} {r n : Int} (hi : fs[i]? = some (r, n)) : Dr (Vf.less fs i) := by
  obtain ⟨il, _⟩ := List.getElem?_eq_some_iff.mp hi
  have hl := h.len
  refine ⟨by rw [less_len il]; omega, fun p hp => (xr_dr h).2.b p (Vf.less_sub fs i p hp), xr_lcm h (Vf.less_sub fs i), fun x0 al => ?_, fun x => ?_⟩
  · obtain ⟨j, j1, _, j3⟩ := xr_near h hi x0
    rw [al j j1] at j3
    cases j3
  · rw [h.less hi]
    split <;> omega
end
section
variable {P : Program} {w : World} {K : PySem.W.Frag} {mg : Str → Option Value} {base : Heap}
def sp_is_lit (K : PySem.W.Frag) : Sp := fun vs H Q _ => ∃ (a : Addr) (fs : List (Int × Int)) (x : Int), vs = [.ref a, .int x] ∧ FactsAt K H a fs ∧ (∀ p ∈ fs, Fact p) ∧ Q (.bl (Vf.litB fs x)) H
theorem lit_snoc {fs : List (Int × Int)} {x : Int} {p : Int × Int} : Vf.litB (fs ++ [p]) x = (Vf.litB fs x || decide ((x - p.1) % p.2 = 0)) := by
  unfold Vf.litB
  rw [List.any_append, List.any_cons, List.any_nil, Bool.or_false]
theorem ok_is_lit (T : Top K mg) : Ok P w K mg base 2 "is_lit" s_is_lit ["lamps", "number"] (sp_is_lit K) := by
  have G_is_fitting := ok_is_fitting (P := P) (w := w) (base := base) T
  refine T.d_is_lit.ok sc_is_lit (fun vs H Q E h => ?_) (fun f cdv A outer s H vs Q E hg hr h => ?_)
  · obtain ⟨a, fs, x, rfl, _⟩ := h
    rfl
  · obtain ⟨a, fs, x, rfl, ⟨vs, sv, pvs⟩, hf, q⟩ := h
    have ev := pvs.length
    refine ⟨_, (pss_cons (ps_for (passes_of rfl) rfl (i_tup' rfl (pv 0)) (pg_name (i := 2) sc_is_lit.nd rfl (.inl rfl)) (pss_one (ps_if (pt_val (pe_g G_is_fitting (fun _ _ F => bd_is_fitting F) hg (hr.mono (by decide)) passL (by rfl) (pa_cons (pv 1) (pa_cons (pv 2) pa_nil)))) (pss_one (ps_ret pe_bl)) pss_nil)))
    (pss_one (ps_ret pe_bl))), ?_⟩
    walk_at "sti"
    refine r_forTs vs (fun i σ H' => H' = H ∧ Vf.litB (fs.take i) x = false ∧ ∃ x2, σ = [some (.ref a), some (.int x), x2]) ⟨rfl, rfl, _, rfl⟩ (fun i σ H' hi hP => ?_) (fun i v σ H' hi hP => ?_) (fun σ H' hP => ?_)
    · obtain ⟨rfl, _⟩ := hP
      exact sv
    · obtain ⟨rfl, lt, x2, rfl⟩ := hP
      obtain ⟨p, hp, pp⟩ := pvs.get hi
      have fp := hf p (List.mem_of_getElem? hp)
      have tk : fs.take (i + 1) = fs.take i ++ [p] := by rw [List.take_add_one, hp]; rfl
      walk_at "gi"
      refine ⟨x, v, p, rfl, pp, by have := fp.1; omega, ?_⟩
      refine ⟨_, rfl, ?_⟩
      refine ifd (fun c => ?_) (fun c => ?_)
      · walk_at "gi"
        rw [show Vf.litB fs x = true from Vf.litB_iff.mpr ⟨p, List.mem_of_getElem? hp, c⟩] at q
        exact q
      · walk_at "gi"
        refine ⟨rfl, ?_, _, rfl⟩
        rw [tk, lit_snoc, lt, decide_eq_false c]
        rfl
    · obtain ⟨rfl, lt, x2, rfl⟩ := hP
      rw [List.take_of_length_le (by omega)] at lt
      walk_at "gi"
      rw [lt] at q
      exact q
def sp_window (K : PySem.W.Frag) : Sp := fun vs H Q _ => ∃ (a : Addr) (us : List V), vs = [.ref a] ∧ SqT K H a us ∧ us.length ≤ 12 ∧ Q (.int ((2 ^ us.length : Nat) : Int)) H
theorem ok_window_of (T : Top K mg) : Ok P w K mg base 1 "window_of" s_window_of ["lamps"] (sp_window K) := by
  refine T.d_window_of.ok sc_window_of (fun vs H Q E h => ?_) (fun f cdv A outer s H vs Q E hg hr h => ?_)
  · obtain ⟨a, us, rfl, _⟩ := h
    rfl
  · obtain ⟨a, us, rfl, sv, l12, q⟩ := h
    refine ⟨_, (pss_one (ps_ret (pe_op op_shlW pe_int (pe_callB (id := "len") (c_len rfl) (by rfl) T.b_len (by decide +kernel) (pa_cons (pv 0) pa_nil))))), ?_⟩
    walk_at "sti"
    refine r_rI (shl_ok (n := 1) (by decide) (by omega)) ?_
    rw [Int.one_mul, Int.toNat_natCast]
    rw [Int.natCast_pow] at q
    exact q
def sp_alg (K : PySem.W.Frag) : Sp := fun vs H Q _ => ∃ (a : Addr) (fs : List (Int × Int)) (v : V) (r : Int) (b : Nat), vs = [.ref a, v] ∧ FactsAt K H a fs ∧ (∀ p ∈ fs, Fact p) ∧ fs.length ≤ 12 ∧ PairAt K H v (r, (b : Int)) ∧ 0 ≤ r ∧ r ≤ 3000 ∧ 1 ≤ b ∧ b ≤ 3000 ∧
  Q (.bl (decide (∀ j : Nat, j < 2 ^ fs.length → Vf.litB fs (r + (b : Int) * j) = true))) H
theorem ok_is_lit_along (T : Top K mg) : Ok P w K mg base 3 "is_lit_along" s_is_lit_along ["lamps", "fact"] (sp_alg K) := by
  have G_is_lit := ok_is_lit (P := P) (w := w) (base := base) T
  have G_window_of := ok_window_of (P := P) (w := w) (base := base) T
  refine T.d_is_lit_along.ok sc_is_lit_along (fun vs H Q E h => ?_) (fun f cdv A outer s H vs Q E hg hr h => ?_)
  · obtain ⟨a, fs, v, r, b, rfl, _⟩ := h
    rfl
  · obtain ⟨a, fs, v, r, b, rfl, hfa, hf, l12, ⟨tp, rfl, sp⟩, r0, r1, b0, b1, q⟩ := h
    obtain ⟨vs, sv, pvs⟩ := id hfa
    have ev := pvs.length
    have l2 := pow12 l12
    have w0 := Nat.two_pow_pos fs.length
    dsimp only at sp
    refine ⟨_, (pss_cons (ps_asg (pv 1) (g_tup rfl rfl (pgs_cons (pg_name (i := 2) sc_is_lit_along.nd rfl (.inl rfl)) (pgs_cons (pg_name (i := 3) sc_is_lit_along.nd rfl (.inl rfl)) pgs_nil)) rfl rfl))
    (pss_cons (ps_for (passes_of rfl) rfl (pi_range3 (by rfl) T.b_range (pa_cons (pv 2) (pa_cons (pe_op op_add (pv 2) (pe_op op_mulX (pv 3) (pe_g G_window_of (fun _ _ F => bd_window_of F) hg (hr.mono (by decide)) passL (by rfl) (pa_cons (pv 0) pa_nil)))) (pa_cons (pv 3) pa_nil)))) (pg_name (i := 4) sc_is_lit_along.nd rfl (.inl rfl)) (pss_one (ps_if (pt_not (pt_val (pe_g G_is_lit (fun _ _ F => bd_is_lit F) hg (hr.mono (by decide)) passL (by rfl) (pa_cons (pv 0) (pa_cons (pv 4) pa_nil))))) (pss_one (ps_ret pe_bl)) pss_nil)))
    (pss_one (ps_ret pe_bl)))), ?_⟩
    walk_at "sti"
    refine r_for3 ?_
    walk_at "gi"
    refine ⟨a, vs, rfl, sv, by omega, ?_⟩
    rw [ev]
    walk_at "gi"
    have bm : (b : Int) * ((2 ^ fs.length : Nat) : Int) ≤ 3000 * 4096 := Int.mul_le_mul (by omega) (by omega) (by omega) (by decide)
    have bm0 : (b : Int) * 1 ≤ (b : Int) * ((2 ^ fs.length : Nat) : Int) := Int.mul_le_mul_of_nonneg_left (by omega) (by omega)
    refine r_rI (bit_mul (a := 13) (b := 13) (bit_of (by omega)) (bit_of (by omega)) (by decide)) ?_
    walk_at "gi"
    have rg := Vf.RgC.up (i := r) (j := r + (b : Int) * ((2 ^ fs.length : Nat) : Int)) (c := (b : Int)) r0 (by omega) (by omega) (by omega) (by omega)
    have en : ((r + (b : Int) * ((2 ^ fs.length : Nat) : Int) - r - 1) / (b : Int) + 1).toNat = 2 ^ fs.length := by
      rw [show r + (b : Int) * ((2 ^ fs.length : Nat) : Int) - r - 1 = ((b : Int) - 1) + (b : Int) * (((2 ^ fs.length : Nat) : Int) - 1) by rw [Int.mul_sub]; omega, Int.add_mul_ediv_left _ _ (by omega), Int.ediv_eq_zero_of_lt (by omega) (by omega)]
      omega
    rw [en] at rg
    refine ⟨r, _, (b : Int), _, rfl, rg, ?_⟩
    refine r_forC (fun i σ H' => H' = H ∧ (∀ j : Nat, j < i → Vf.litB fs (r + (b : Int) * j) = true) ∧ ∃ x4, σ = [some (.ref a), some (.ref tp), some (.int r), some (.int (b : Int)), x4]) ⟨rfl, (fun j h => absurd h (by omega)), _, rfl⟩ (fun i σ H' hi hP => ?_) (fun σ H' hP => ?_)
    · obtain ⟨rfl, lt, x2, rfl⟩ := hP
      rw [show r + (i : Int) * (b : Int) = r + (b : Int) * (i : Int) by rw [Int.mul_comm]]
      walk_at "gi"
      refine ⟨a, fs, r + (b : Int) * (i : Int), rfl, hfa, hf, ?_⟩
      cases hb : Vf.litB fs (r + (b : Int) * (i : Int)) with
      | true =>
        walk_at "gi"
        refine ⟨rfl, fun j hj => ?_, _, rfl⟩
        by_cases c : j = i
        · rw [c]; exact hb
        · exact lt j (by omega)
      | false =>
        walk_at "gi"
        rw [decide_eq_false (fun z => by rw [z i hi] at hb; cases hb)] at q
        exact q
    · obtain ⟨rfl, lt, x2, rfl⟩ := hP
      walk_at "gi"
      rw [decide_eq_true lt] at q
      exact q
end
section
variable {P : Program} {w : World} {K : PySem.W.Frag} {mg : Str → Option Value} {base : Heap}
/-- all lit from x0 on, or the first that is dark -/
def sp_first (K : PySem.W.Frag) : Sp := fun vs H Q _ => ∃ (a : Addr) (fs : List (Int × Int)) (x0 : Int), vs = [.ref a, .int x0] ∧ FactsAt K H a fs ∧ (∀ p ∈ fs, Fact p) ∧ fs.length ≤ 12 ∧
  ((∀ j : Nat, j < 2 ^ fs.length → Vf.litB fs (x0 + j) = true) → Q .non H) ∧ (∀ j : Nat, j < 2 ^ fs.length → Vf.litB fs (x0 + j) = false → (∀ i : Nat, i < j → Vf.litB fs (x0 + i) = true) → Q (.int (x0 + j)) H)
theorem ok_first_dark (T : Top K mg) : Ok P w K mg base 3 "first_dark" s_first_dark ["lamps", "number"] (sp_first K) := by
  have G_is_lit := ok_is_lit (P := P) (w := w) (base := base) T
  have G_window_of := ok_window_of (P := P) (w := w) (base := base) T
  refine T.d_first_dark.ok sc_first_dark (fun vs H Q E h => ?_) (fun f cdv A outer s H vs Q E hg hr h => ?_)
  · obtain ⟨a, fs, x0, rfl, _⟩ := h
    rfl
  · obtain ⟨a, fs, x0, rfl, hfa, hf, l12, q1, q2⟩ := h
    obtain ⟨vs, sv, pvs⟩ := id hfa
    have ev := pvs.length
    have l2 := pow12 l12
    have w0 := Nat.two_pow_pos fs.length
    refine ⟨_, (pss_cons (ps_for (passes_of rfl) rfl (pi_rangeA (by rfl) T.b_range (pa_cons (pv 1) (pa_cons (pe_op op_add (pv 1) (pe_g G_window_of (fun _ _ F => bd_window_of F) hg (hr.mono (by decide)) passL (by rfl) (pa_cons (pv 0) pa_nil))) pa_nil))) (pg_name (i := 2) sc_first_dark.nd rfl (.inl rfl)) (pss_one (ps_if (pt_not (pt_val (pe_g G_is_lit (fun _ _ F => bd_is_lit F) hg (hr.mono (by decide)) passL (by rfl) (pa_cons (pv 0) (pa_cons (pv 2) pa_nil))))) (pss_one (ps_ret (pv 2))) pss_nil)))
    (pss_one (ps_ret pe_non))), ?_⟩
    walk_at "sti"
    refine r_forA ?_
    walk_at "gi"
    refine ⟨a, vs, rfl, sv, by omega, ?_⟩
    rw [ev]
    walk_at "gi"
    rw [show (x0 + ((2 ^ fs.length : Nat) : Int) - x0).toNat = 2 ^ fs.length by omega]
    refine r_forR (fun i σ H' => H' = H ∧ (∀ j : Nat, j < i → Vf.litB fs (x0 + j) = true) ∧ ∃ x2, σ = [some (.ref a), some (.int x0), x2]) ⟨rfl, (fun j h => absurd h (by omega)), _, rfl⟩ (fun i σ H' hi hP => ?_) (fun σ H' hP => ?_)
    · obtain ⟨rfl, lt, x2, rfl⟩ := hP
      walk_at "gi"
      refine ⟨a, fs, x0 + (i : Int), rfl, hfa, hf, ?_⟩
      cases hb : Vf.litB fs (x0 + (i : Int)) with
      | true =>
        walk_at "gi"
        refine ⟨rfl, fun j hj => ?_, _, rfl⟩
        by_cases c : j = i
        · rw [c]; exact hb
        · exact lt j (by omega)
      | false =>
        walk_at "gi"
        exact q2 i hi hb lt
    · obtain ⟨rfl, lt, x2, rfl⟩ := hP
      walk_at "gi"
      exact q1 lt
end
section
variable {P : Program} {w : World} {K : PySem.W.Frag} {mg : Str → Option Value} {base : Heap}
/-! ### the law's jar -/
theorem e60 : (2 : Nat) ^ 60 = 1152921504606846976 := by decide
theorem e59 : (2 : Nat) ^ 59 = 576460752303423488 := by decide
theorem e62 : (2 : Int) ^ 62 = 4611686018427387904 := by decide
structure JarOk (a b c : Int) (n : Nat) : Prop where
  a0 : 0 ≤ a
  ab : Builtin.Int.intBits a ≤ 1048600
  b0 : 0 ≤ b
  bM : b < 2147483587
  c0 : 0 ≤ c
  cn : c ≤ n
def Jar (n : Nat) (k : Addr) (H : Hp) : Prop := ∃ a b c : Int, H k = some (.lst [.int a, .int b, .int c]) ∧ JarOk a b c n
theorem Jar.mono {n m : Nat} {k : Addr} {H : Hp} (h : Jar n k H) (l : n ≤ m) : Jar m k H := by
  obtain ⟨a, b, c, hk, o⟩ := h
  exact ⟨a, b, c, hk, ⟨o.a0, o.ab, o.b0, o.bM, o.c0, by have := o.cn; omega⟩⟩
theorem Jar.same {n : Nat} {k : Addr} {H H' : Hp} (h : Jar n k H) (s : Same H H') : Jar n k H' := by
  obtain ⟨a, b, c, hk, o⟩ := h
  exact ⟨a, b, c, s _ _ hk, o⟩
theorem Jar.new {n : Nat} {k p : Addr} {H : Hp} {o : HO} (h : Jar n k H) (hp : H p = none) : Jar n k (upd H p o) := h.same (Same.new hp)
theorem Jar.ne {n : Nat} {k p : Addr} {H : Hp} (h : Jar n k H) (hp : H p = none) : p ≠ k := by
  obtain ⟨a, b, c, hk, o⟩ := h
  rintro rfl
  rw [hk] at hp
  cases hp
theorem Jar.tt {n : Nat} {k : Addr} {H H' : Hp} (h : Jar n k H) (e : Kx k H H') : Tt H H' := by
  obtain ⟨a, b, c, hk, o⟩ := h
  exact Kx.tt e hk
theorem Jar.kx {n m : Nat} {k j : Addr} {H H' : Hp} (h : Jar n k H) (e : Kx j H H') (ne : k ≠ j) : Jar n k H' := by
  obtain ⟨a, b, c, hk, o⟩ := h
  exact ⟨a, b, c, e _ _ ne hk, o⟩
def sp_cell (K : PySem.W.Frag) : Sp := fun vs H Q _ => ∃ (c : Addr) (ns : List Int) (j : Nat), vs = [.ref c, .int (j : Int)] ∧ SqL K H c (ns.map V.int) ∧ Script ns ∧ j ≤ 1000 ∧
  ∀ z H', Same H H' → Builtin.Int.intBits z ≤ 1048576 → Q (.int z) H'
theorem ok__law_cell (T : Top K mg) : Ok P w K mg base 1 "_law_cell" s__law_cell ["_law_cells", "_law_spot"] (sp_cell K) := by
  refine T.d__law_cell.ok sc__law_cell (fun vs H Q E h => ?_) (fun f cdv A outer s H vs Q E hg hr h => ?_)
  · obtain ⟨c, ns, j, rfl, _⟩ := h
    rfl
  · obtain ⟨c, ns, j, rfl, hs, ⟨hl, hb⟩, hj, q⟩ := h
    have cell : ∀ i : Nat, i < ns.length → ∃ z, (ns.map V.int)[i]? = some (V.int z) ∧ Builtin.Int.intBits z ≤ 1048576 := fun i hi =>
      ⟨ns[i], by rw [List.getElem?_map, List.getElem?_eq_getElem hi]; rfl, hb _ (List.getElem_mem hi)⟩
    refine ⟨_, (pss_cons (ps_if (pt_cmpR op_lt (pv 1) (pe_callB (id := "len") (c_len rfl) (by rfl) T.b_len (by decide +kernel) (pa_cons (pv 0) pa_nil)) (nomark _)) (pss_one (ps_ret (pe_callTy (T := "int") c_int (by rfl) T.b_int (by decide +kernel) (pa_cons (pe_ix (x_list rfl) (pv 0) (pv 1) (fun _ _ => rfl)) pa_nil)))) pss_nil)
    (pss_cons (ps_set (i := 2) sc__law_cell.nd rfl (.inl rfl) (pe_op op_add (pe_op op_mulX pe_int (pv 1)) pe_int))
    (pss_cons (ps_for (passes_of rfl) rfl (i_list rfl (pe_slice (s_list rfl) (pv 0) po_none (po_some pe_int))) (pg_name (i := 3) sc__law_cell.nd rfl (.inl rfl)) (pss_one (ps_set (i := 2) sc__law_cell.nd rfl (.inl rfl) (pe_op op_mod (pe_callTy (T := "int") c_int (by rfl) T.b_int (by decide +kernel) (pa_cons (pe_op op_add (pe_op op_add (pe_op op_mulX (pv 2) pe_int) (pv 3)) pe_int) pa_nil)) pe_int))))
    (pss_one (ps_ret (pv 2)))))), ?_⟩
    walk_at "sti"
    refine ifd (fun cc => ?_) (fun cc => ?_)
    · walk_at "gi"
      have hj2 : j < ns.length := by
        rw [List.length_map] at cc
        omega
      obtain ⟨z, e, hz⟩ := cell j hj2
      refine r_ixL hs (atI_nat e) ?_
      walk_at "gi"
      exact q _ _ (Same.refl _) hz
    · walk_at "go"
      refine r_rI (bit_mul (a := 64) (b := 64) (bit_of (by decide)) (bit_of (by omega)) (by decide)) ?_
      walk_at "go"
      refine r_slL hs fun p hp => ?_
      walk_at "go"
      have cut : cutV (ns.map V.int) none (some 4) = (ns.take 4).map V.int := by
        exact (cut_to (ns.map V.int) 4).trans (List.map_take ..).symm
      rw [cut]
      have hcut : ∀ z ∈ ns.take 4, Builtin.Int.intBits z ≤ 1048576 := fun z hz => hb z (List.mem_of_mem_take hz)
      generalize ns.take 4 = ms at *
      refine r_forLs (ms.map V.int) (fun i σ H1 => H1 = upd H p (.lst (ms.map V.int)) ∧ ∃ (bl : Int) (x4 : Option V), σ = [some (.ref c), some (.int (j : Int)), some (.int bl), x4] ∧ 0 ≤ bl ∧ bl < 2 ^ 40)
        ⟨rfl, 7919 * (j : Int) + 4021, none, rfl, by omega, by omega⟩ (fun i σ H1 _ hP => ?_) (fun i x σ H1 hi hP => ?_) (fun σ H1 hP => ?_)
      · obtain ⟨rfl, _⟩ := hP
        exact SqL.of upd_same
      · obtain ⟨rfl, bl, x4, rfl, b0, b1⟩ := hP
        have hx : ∃ z, x = V.int z ∧ Builtin.Int.intBits z ≤ 1048576 := by
          rw [List.getElem?_map] at hi
          cases e : ms[i]? with
          | none => rw [e] at hi; cases hi
          | some z =>
            rw [e] at hi
            exact ⟨z, (Option.some.inj hi).symm, hcut z (List.mem_of_getElem? e)⟩
        obtain ⟨z, rfl, hz⟩ := hx
        walk_at "go"
        refine r_rI (bit_mul (a := 64) (b := 64) (bit_of (by omega)) (bit_of (by decide)) (by decide)) ?_
        walk_at "go"
        refine r_rI (by decide) ?_
        walk_at "go"
        exact ⟨rfl, _, _, rfl, Int.emod_nonneg _ (by decide), Int.lt_trans (Int.emod_lt_of_pos _ (by decide)) (by decide)⟩
      · obtain ⟨rfl, bl, x4, rfl, b0, b1⟩ := hP
        walk_at "go"
        exact q _ _ (Same.new hp) (Nat.le_trans (bit_of (a := 40) (by omega)) (by decide))
def sp_jar (K : PySem.W.Frag) : Sp := fun vs H Q _ => ∃ (c : Addr) (ns : List Int) (j : Nat), vs = [.ref c, .int (j : Int)] ∧ SqL K H c (ns.map V.int) ∧ Script ns ∧ j ≤ 1000 ∧
  ∀ p H', Same H H' → H p = none → Jar 1 p H' → Q (.ref p) H'
theorem ok__law_jar (T : Top K mg) : Ok P w K mg base 2 "_law_jar" s__law_jar ["_law_cells", "_law_spot"] (sp_jar K) := by
  have G__law_cell := ok__law_cell (P := P) (w := w) (base := base) T
  refine T.d__law_jar.ok sc__law_jar (fun vs H Q E h => ?_) (fun f cdv A outer s H vs Q E hg hr h => ?_)
  · obtain ⟨c, ns, j, rfl, _⟩ := h
    rfl
  · obtain ⟨c, ns, j, rfl, hs, hb, hj, q⟩ := h
    refine ⟨_, (pss_cons (ps_set (i := 2) sc__law_jar.nd rfl (.inl rfl) (pe_callB (id := "abs") c_abs (by rfl) T.b_abs (by decide +kernel) (pa_cons (pe_g G__law_cell (fun _ _ F => bd__law_cell F) hg (hr.mono (by decide)) passL (by rfl) (pa_cons (pv 0) (pa_cons (pv 1) pa_nil))) pa_nil)))
    (pss_one (ps_ret (pe_lst (pa_cons (pv 2) (pa_cons (pe_op op_mod (pe_callTy (T := "int") c_int (by rfl) T.b_int (by decide +kernel) (pa_cons (pe_op op_add (pv 2) (pe_op op_mulX pe_int (pv 1))) pa_nil)) pe_int) (pa_cons pe_int pa_nil))))))), ?_⟩
    walk_at "st"
    refine ⟨c, ns, j, rfl, hs, hb, hj, fun z H1 s1 hz => ?_⟩
    walk_at "go"
    refine r_rI (bit_mul (a := 64) (b := 64) (bit_of (by decide)) (bit_of (by omega)) (by decide)) ?_
    walk_at "go"
    refine r_rI (by decide) ?_
    walk_at "go"
    rename_i p hp
    exact q p _ (s1.trans (Same.new hp)) (none_same s1 hp) ⟨_, _, 0, upd_same, ⟨by omega, Nat.le_trans (bits_mono (by omega)) (Nat.le_trans hz (by decide)), Int.emod_nonneg _ (by decide), Int.emod_lt_of_pos _ (by decide), by decide, by decide⟩⟩
def sp_dig : Sp := fun vs H Q _ => ∃ (k : Addr) (u : Int) (n : Nat), vs = [.ref k, .int u] ∧ Jar n k H ∧ n ≤ 2 ^ 60 ∧ 0 < u ∧ u < 2 ^ 62 ∧
  ∀ f H', 0 ≤ f → f < u → Kx k H H' → Jar (n + 1) k H' → Q (.int f) H'
theorem i_dig {k : Addr} {u : Int} {H : Hp} {Q : VK} {E : XK} (n : Nat) (hk : Jar n k H) (hn : n ≤ 2 ^ 60) (h0 : 0 < u) (h1 : u < 2 ^ 62)
    (q : ∀ f H', 0 ≤ f → f < u → Kx k H H' → Jar (n + 1) k H' → Q (.int f) H') : sp_dig [.ref k, .int u] H Q E := ⟨k, u, n, rfl, hk, hn, h0, h1, q⟩
theorem ok__law_dig (T : Top K mg) : Ok P w K mg base 1 "_law_dig" s__law_dig ["_law_jar_here", "_law_wide"] sp_dig := by
  refine T.d__law_dig.ok sc__law_dig (fun vs H Q E h => ?_) (fun f cdv A outer s H vs Q E hg hr h => ?_)
  · obtain ⟨k, u, n, rfl, _⟩ := h
    rfl
  · obtain ⟨k, u, n, rfl, ⟨a, b, c, hk, o⟩, hn, h0, h1, q⟩ := h
    obtain ⟨oa, oab, ob, obM, oc, ocn⟩ := o
    have E60 := e60
    refine ⟨_, (pss_cons (ps_asg (pe_op op_add (pe_ix (x_list rfl) (pv 0) pe_int (fun _ _ => rfl)) pe_int) (pg_sub (pv 0) pe_int set_list))
    (pss_cons (ps_set (i := 2) sc__law_dig.nd rfl (.inl rfl) (pe_callTy (T := "int") c_int (by rfl) T.b_int (by decide +kernel) (pa_cons (pe_ix (x_list rfl) (pv 0) pe_int (fun _ _ => rfl)) pa_nil)))
    (pss_cons (ps_set (i := 3) sc__law_dig.nd rfl (.inl rfl) (pe_op op_add (pe_op op_mod (pe_callTy (T := "int") c_int (by rfl) T.b_int (by decide +kernel) (pa_cons (pv 2) pa_nil)) pe_int) pe_int))
    (pss_cons (ps_asg (pe_op op_mod (pe_callTy (T := "int") c_int (by rfl) T.b_int (by decide +kernel) (pa_cons (pe_op op_add (pe_op op_add (pe_op op_mulX (pv 2) (pv 3)) (pe_op op_mulX (pe_ix (x_list rfl) (pv 0) pe_int (fun _ _ => rfl)) pe_int)) pe_int) pa_nil)) pe_int) (pg_sub (pv 0) pe_int set_list))
    (pss_cons (ps_if (pt_cmpR op_gt (pe_ix (x_list rfl) (pv 0) pe_int (fun _ _ => rfl)) pe_int (nomark _)) (pss_cons (ps_asg (pe_callB (id := "divmod") c_divmod (by rfl) T.b_divmod (by decide +kernel) (pa_cons (pe_ix (x_list rfl) (pv 0) pe_int (fun _ _ => rfl)) (pa_cons (pv 1) pa_nil))) (g_tup rfl rfl (pgs_cons (pg_sub (pv 0) pe_int set_list) (pgs_cons (pg_name (i := 4) sc__law_dig.nd rfl (.inl rfl)) pgs_nil)) rfl rfl))
    (pss_one (ps_ret (pv 4)))) pss_nil)
    (pss_one (ps_ret (pe_op op_mod (pe_callTy (T := "int") c_int (by rfl) T.b_int (by decide +kernel) (pa_cons (pe_op op_fdivW (pe_ix (x_list rfl) (pv 0) pe_int (fun _ _ => rfl)) pe_int) pa_nil)) (pv 1))))))))), ?_⟩
    walk_at "st"
    refine r_ixL (SqL.of hk) (atI_nat (j := 2) rfl) ?_
    walk_at "go"
    refine r_setL (j := 2) hk rfl ?_
    walk_at "gi"
    have hk1 : upd H k (.lst ([V.int a, V.int b, V.int c].set 2 (V.int (c + 1)))) k = some (.lst [.int a, .int b, .int (c + 1)]) := upd_same
    have x1 : Kx k H (upd H k (.lst ([V.int a, V.int b, V.int c].set 2 (V.int (c + 1))))) := Kx.upd
    generalize upd H k (.lst ([V.int a, V.int b, V.int c].set 2 (V.int (c + 1)))) = H1 at *
    have L : SqL K H1 k [.int a, .int b, .int (c + 1)] := SqL.of hk1
    refine r_ixL L (atI_nat (j := 1) rfl) ?_
    walk_at "go"
    refine r_rI (by decide) ?_
    walk_at "go"
    have m1 := Int.emod_nonneg b (show (29989 : Int) ≠ 0 by decide)
    have m2 := Int.emod_lt_of_pos b (show (0 : Int) < 29989 by decide)
    refine r_rI (bit_mul (a := 40) (b := 40) (bit_of (by omega)) (bit_of (by omega)) (by decide)) ?_
    walk_at "go"
    refine r_ixL L (atI_nat (j := 2) rfl) ?_
    walk_at "go"
    refine r_rI (bit_mul (a := 64) (b := 64) (bit_of (by omega)) (bit_of (by decide)) (by decide)) ?_
    walk_at "go"
    refine r_rI (by decide) ?_
    walk_at "go"
    generalize hz : (b * (b % 29989 + 40013) + (c + 1) * 65521 + 7) % 2147483587 = z
    have z1 : 0 ≤ z := by rw [← hz]; exact Int.emod_nonneg _ (by decide)
    have z2 : z < 2147483587 := by rw [← hz]; exact Int.emod_lt_of_pos _ (by decide)
    refine r_setL (j := 1) hk1 rfl ?_
    walk_at "go"
    have hk2 : upd H1 k (.lst ([V.int a, V.int b, V.int (c + 1)].set 1 (V.int z))) k = some (.lst [.int a, .int z, .int (c + 1)]) := upd_same
    have x2 : Kx k H (upd H1 k (.lst ([V.int a, V.int b, V.int (c + 1)].set 1 (V.int z)))) := x1.trans Kx.upd
    generalize upd H1 k (.lst ([V.int a, V.int b, V.int (c + 1)].set 1 (V.int z))) = H2 at *
    have L2 : SqL K H2 k [.int a, .int z, .int (c + 1)] := SqL.of hk2
    walk_at "gi"
    refine r_ixL L2 (atI_nat (j := 0) rfl) ?_
    walk_at "gi"
    refine ifd (fun ca => ?_) (fun ca => ?_)
    · walk_at "gi"
      refine r_ixL L2 (atI_nat (j := 0) rfl) ?_
      walk_at "gi"
      refine r_divmod (divp_of h0 h1) fun p hp => ?_
      walk_at "gi"
      refine r_setL (j := 0) (at_new hp hk2) rfl ?_
      walk_at "gi"
      refine q _ _ (Int.emod_nonneg _ (by omega)) (Int.emod_lt_of_pos _ h0) (x2.trans (Kx.trans (Same.toKx (Same.new hp)) Kx.upd)) ⟨a / u, z, c + 1, upd_same, ⟨Int.ediv_nonneg oa (by omega), ?_, z1, z2, by omega, by omega⟩⟩
      refine Nat.le_trans (bits_mono ?_) oab
      have := Int.ediv_le_self u oa
      have := Int.ediv_nonneg oa (show 0 ≤ u by omega)
      omega
    · walk_at "go"
      refine r_ixL L2 (atI_nat (j := 1) rfl) ?_
      walk_at "go"
      refine r_rI (divw_of (by decide) (by decide)) ?_
      walk_at "go"
      refine r_rI h0 ?_
      refine q _ _ (Int.emod_nonneg _ (by omega)) (Int.emod_lt_of_pos _ h0) x2 ⟨a, z, c + 1, hk2, ⟨oa, oab, z1, z2, by omega, by omega⟩⟩
def sp_take (K : PySem.W.Frag) : Sp := fun vs H Q _ => ∃ (k t : Addr) (xs : List V) (n : Nat), vs = [.ref k, .ref t] ∧ Jar n k H ∧ n ≤ 2 ^ 60 ∧ t ≠ k ∧ SqL K H t xs ∧ 0 < xs.length ∧ xs.length ≤ 100000 ∧
  ∀ (i : Nat) (x : V) H', xs[i]? = some x → Kx k H H' → Jar (n + 1) k H' → Q x H'
theorem i_take {K : PySem.W.Frag} {k t : Addr} {H : Hp} {Q : VK} {E : XK} (n : Nat) (xs : List V) (hk : Jar n k H) (hn : n ≤ 2 ^ 60) (ht : t ≠ k) (hs : SqL K H t xs) (h0 : 0 < xs.length) (h1 : xs.length ≤ 100000)
    (q : ∀ (i : Nat) x H', xs[i]? = some x → Kx k H H' → Jar (n + 1) k H' → Q x H') : sp_take K [.ref k, .ref t] H Q E := ⟨k, t, xs, n, rfl, hk, hn, ht, hs, h0, h1, q⟩
theorem ok__law_take (T : Top K mg) : Ok P w K mg base 2 "_law_take" s__law_take ["_law_jar_here", "_law_some"] (sp_take K) := by
  have G__law_dig := ok__law_dig (P := P) (w := w) (base := base) T
  refine T.d__law_take.ok sc__law_take (fun vs H Q E h => ?_) (fun f cdv A outer s H vs Q E hg hr h => ?_)
  · obtain ⟨k, t, xs, n, rfl, _⟩ := h
    rfl
  · obtain ⟨k, t, xs, n, rfl, hk, hn, ht, hs, h0, h1, q⟩ := h
    refine ⟨_, (pss_one (ps_ret (pe_ix (x_list rfl) (pv 1) (pe_g G__law_dig (fun _ _ F => bd__law_dig F) hg (hr.mono (by decide)) passL (by rfl) (pa_cons (pv 0) (pa_cons (pe_callB (id := "len") (c_len rfl) (by rfl) T.b_len (by decide +kernel) (pa_cons (pv 1) pa_nil)) pa_nil))) (fun _ _ => rfl)))), ?_⟩
    walk_at "st"
    refine i_dig n hk hn (by omega) (by omega) fun f H' f0 f1 kx hk' => ?_
    obtain ⟨j, rfl⟩ := Int.eq_ofNat_of_zero_le f0
    have hj : j < xs.length := by omega
    exact r_ixL (kx.list ht hs) (atI_nat (List.getElem?_eq_getElem hj)) (q j _ _ (List.getElem?_eq_getElem hj) kx hk')
end
section
variable {P : Program} {w : World} {K : PySem.W.Frag} {mg : Str → Option Value} {base : Heap}
/-! ### a number drawn far off -/
def sp_far : Sp := fun vs H Q _ => ∃ (k : Addr) (n : Nat), vs = [.ref k] ∧ Jar n k H ∧ n ≤ 2 ^ 58 ∧ ∀ (x : Int) H', x.natAbs ≤ 10 ^ 30 → Kx k H H' → Jar (n + 15) k H' → Q (.int x) H'
theorem ok__law_far (T : Top K mg) : Ok P w K mg base 3 "_law_far" s__law_far ["_law_jar_here"] sp_far := by
  have G__law_dig := ok__law_dig (P := P) (w := w) (base := base) T
  have G__law_take := ok__law_take (P := P) (w := w) (base := base) T
  refine T.d__law_far.ok sc__law_far (fun vs H Q E h => ?_) (fun f cdv A outer s H vs Q E hg hr h => ?_)
  · obtain ⟨k, n, rfl, _⟩ := h
    rfl
  · obtain ⟨k, n, rfl, hk, hn, q⟩ := h
    have E58 : (2 : Nat) ^ 58 = 288230376151711744 := by decide
    have E60 : (2 : Nat) ^ 60 = 1152921504606846976 := by decide
    refine ⟨_, (pss_cons (ps_set (i := 1) sc__law_far.nd rfl (.inl rfl) pe_int)
    (pss_cons (ps_for (passes_of rfl) rfl (pi_range1 (by rfl) T.b_range (pa_cons (pe_op op_add pe_int (pe_g G__law_dig (fun _ _ F => bd__law_dig F) hg (hr.mono (by decide)) passL (by rfl) (pa_cons (pv 0) (pa_cons pe_int pa_nil)))) pa_nil)) (pg_name (i := 2) sc__law_far.nd rfl (.inl rfl)) (pss_one (ps_set (i := 1) sc__law_far.nd rfl (.inl rfl) (pe_op op_add (pe_op op_mulX pe_int (pv 1)) (pe_g G__law_dig (fun _ _ F => bd__law_dig F) hg (hr.mono (by decide)) passL (by rfl) (pa_cons (pv 0) (pa_cons pe_int pa_nil)))))))
    (pss_one (ps_ret (pe_g G__law_take (fun _ _ F => bd__law_take F) hg (hr.mono (by decide)) passL (by rfl) (pa_cons (pv 0) (pa_cons (pe_lst (pa_cons (pe_g G__law_dig (fun _ _ F => bd__law_dig F) hg (hr.mono (by decide)) passL (by rfl) (pa_cons (pv 0) (pa_cons pe_int pa_nil))) (pa_cons (pe_op op_sub pe_int (pe_g G__law_dig (fun _ _ F => bd__law_dig F) hg (hr.mono (by decide)) passL (by rfl) (pa_cons (pv 0) (pa_cons pe_int pa_nil)))) (pa_cons (pv 1) (pa_cons (pe_op op_sub pe_int (pv 1)) pa_nil))))) pa_nil))))))), ?_⟩
    walk_at "sti"
    refine i_dig n hk (by omega) (by decide) (by decide) fun f1 H1 f10 f11 x1 k1 => ?_
    walk_at "gi"
    refine ⟨by omega, by omega, ?_⟩
    obtain ⟨m, hm⟩ : ∃ m : Nat, (3 + f1).toNat = m := ⟨_, rfl⟩
    rw [hm]
    have P30 : ∀ i : Nat, i ≤ 10 → (1000 : Int) ^ i ≤ 10 ^ 30 := by decide +kernel
    refine r_forR (fun i σ H' => ∃ (z : Int) (x2 : Option V), σ = [some (.ref k), some (.int z), x2] ∧ 0 ≤ z ∧ z < 1000 ^ i ∧ Kx k H H' ∧ Jar (n + 1 + i) k H')
      ⟨0, _, rfl, by decide, by decide, x1, k1⟩ (fun i σ H' hi hP => ?_) (fun σ H' hP => ?_)
    · obtain ⟨z, x2, rfl, z0, z1, y1, k2⟩ := hP
      have p1 := P30 i (by omega)
      walk_at "gi"
      refine r_rI (bit_mul (a := 64) (b := 128) (bit_of (by omega)) (bit_of (by omega)) (by decide)) ?_
      walk_at "gi"
      refine i_dig _ k2 (by omega) (by decide) (by decide) fun f2 H2 f20 f21 x3 k3 => ?_
      walk_at "gi"
      refine ⟨by omega, ?_, y1.trans x3, k3⟩
      rw [Int.pow_succ]
      omega
    · obtain ⟨z, x2, rfl, z0, z1, y1, k2⟩ := hP
      have p1 := P30 m (by omega)
      walk_at "gi"
      refine i_dig _ k2 (by omega) (by decide) (by decide) fun f2 H2 f20 f21 x3 k3 => ?_
      walk_at "gi"
      refine i_dig _ k3 (by omega) (by decide) (by decide) fun f3 H3 f30 f31 x4 k4 => ?_
      walk_at "gi"
      rename_i l nl
      refine i_take _ [V.int f2, V.int (0 - f3), V.int z, V.int (0 - z)] (k4.new nl) (by omega) (k4.ne nl) (SqL.of upd_same) (Nat.le_of_ble_eq_true rfl) (Nat.le_of_ble_eq_true rfl) fun j v H4 hv x5 k5 => ?_
      obtain ⟨x, rfl, xb⟩ : ∃ x : Int, v = .int x ∧ x.natAbs ≤ 10 ^ 30 := by
        have E30 : (10 : Int) ^ 30 = 1000000000000000000000000000000 := by decide
        rcases j with _ | _ | _ | _ | j
        all_goals first
          | exact ⟨_, (Option.some.inj hv).symm, by omega⟩
          | exact absurd hv (by simp)
      exact q x H4 xb (((y1.trans x3).trans x4).trans (Kx.trans (Same.toKx (Same.new nl)) x5)) (k5.mono (by omega))
end
section
variable {P : Program} {w : World} {K : PySem.W.Frag} {mg : Str → Option Value} {base : Heap}
/-! ### lamps parted again and again -/
theorem erase_pairs {H : Hp} : ∀ {vs : List V} {fs : List (Int × Int)} (i : Nat), PairsAt K H vs fs → PairsAt K H (vs.eraseIdx i) (fs.eraseIdx i)
  | _, _, _, .nil => .nil
  | _, _, 0, .cons r t => t
  | _, _, i + 1, .cons r t => .cons r (erase_pairs i t)
theorem kids_take (r n : Int) (m i : Nat) (h : i < m) : (Vf.kids r n m).take (i + 1) = (Vf.kids r n m).take i ++ [(r + (i : Int) * n, n * (m : Int))] := by
  rw [List.take_add_one]
  congr 1
  unfold Vf.kids
  rw [List.getElem?_map, List.getElem?_range h]
  rfl
def sp_parted (K : PySem.W.Frag) : Sp := fun vs H Q _ => ∃ (k : Addr), vs = [.ref k] ∧ Jar 1 k H ∧
  ∀ a fs n H', n ≤ 100 → Kx k H H' → Jar n k H' → FactsAt K H' a fs → Vf.Xr fs → Q (.ref a) H'
theorem ok__law_parted (T : Top K mg) : Ok P w K mg base 3 "_law_parted" s__law_parted ["_law_jar_here"] (sp_parted K) := by
  have G__law_dig := ok__law_dig (P := P) (w := w) (base := base) T
  have G__law_take := ok__law_take (P := P) (w := w) (base := base) T
  refine T.d__law_parted.ok sc__law_parted (fun vs H Q E h => ?_) (fun f cdv A outer s H vs Q E hg hr h => ?_)
  · obtain ⟨k, rfl, _⟩ := h
    rfl
  · obtain ⟨k, rfl, hk, q⟩ := h
    refine ⟨_, (pss_cons (ps_set (i := 1) sc__law_parted.nd rfl (.inl rfl) (pe_lst (pa_cons (pe_tup (pa_cons pe_int (pa_cons pe_int pa_nil))) pa_nil)))
    (pss_cons (ps_for (passes_of rfl) rfl (pi_range1 (by rfl) T.b_range (pa_cons (pe_op op_add pe_int (pe_g G__law_dig (fun _ _ F => bd__law_dig F) hg (hr.mono (by decide)) passL (by rfl) (pa_cons (pv 0) (pa_cons pe_int pa_nil)))) pa_nil)) (pg_name (i := 2) sc__law_parted.nd rfl (.inl rfl)) (pss_cons (ps_asg (pe_bm PySem.F.plainAttrs_list PySem.F.slot_list_pop PySem.F.type_list_pop mt_popAt (pv 1) (pa_cons (pe_g G__law_dig (fun _ _ F => bd__law_dig F) hg (hr.mono (by decide)) passL (by rfl) (pa_cons (pv 0) (pa_cons (pe_callB (id := "len") (c_len rfl) (by rfl) T.b_len (by decide +kernel) (pa_cons (pv 1) pa_nil)) pa_nil))) pa_nil)) (g_tup rfl rfl (pgs_cons (pg_name (i := 3) sc__law_parted.nd rfl (.inr rfl)) (pgs_cons (pg_name (i := 4) sc__law_parted.nd rfl (.inr rfl)) pgs_nil)) rfl rfl))
    (pss_cons (ps_set (i := 5) sc__law_parted.nd rfl (.inr rfl) (pe_g G__law_take (fun _ _ F => bd__law_take F) hg (hr.mono (by decide)) passL (by rfl) (pa_cons (pv 0) (pa_cons (pe_lst (pa_cons pe_int (pa_cons pe_int (pa_cons pe_int (pa_cons pe_int (pa_cons pe_int pa_nil)))))) pa_nil))))
    (pss_cons (ps_set (i := 5) sc__law_parted.nd rfl (.inr rfl) (pe_ifExp (pt_cmpR op_le (pe_op op_add (pe_callB (id := "len") (c_len rfl) (by rfl) T.b_len (by decide +kernel) (pa_cons (pv 1) pa_nil)) (pv 5)) pe_int (nomark _)) (pv 5) pe_int))
    (pss_one (ps_set (i := 1) sc__law_parted.nd rfl (.inl rfl) (pe_op op_cat (pv 1) (pe_lc (own := [("_law_k", 6)]) (by rfl) sc__law_parted.nd (pi_range1 (by rfl) T.b_range (pa_cons (pv 5) pa_nil)) (blkOk_by (own := [("_law_k", 6)]) (N := ["_law_jar_here", "_law_rows", "_law_turn", "_law_r", "_law_n", "_law_m", "_law_k"]) (sc := defScope s__law_parted) (by decide +kernel)) (fun _ _ _ _ _ => (pg_name (i := 6) sc__law_parted.nd rfl (by first | exact Or.inl rfl | exact Or.inr rfl))) (fun _ _ _ _ _ => pts_nil) (fun _ _ _ _ _ => (pe_tup (pa_cons (pe_op op_add (pv 3) (pe_op op_mulX (pv 6) (pv 4))) (pa_cons (pe_op op_mulX (pv 4) (pv 5)) pa_nil))))))))))))
    (pss_one (ps_ret (pe_callTy (T := "tuple") (c_tuple rfl) (by rfl) T.b_tuple (by decide +kernel) (pa_cons (pv 1) pa_nil)))))), ?_⟩
    walk_at "st"
    rename_i t1 h1 L1 hL1
    have s2 : Same H (upd (upd H t1 (.tup [.int 0, .int 1])) L1 (.lst [.ref t1])) := (Same.new h1).trans (Same.new hL1)
    have k2 : Jar 1 k (upd (upd H t1 (.tup [.int 0, .int 1])) L1 (.lst [.ref t1])) := hk.same s2
    have nk1 := (hk.same (Same.new h1)).ne hL1
    have e1 : SqT K (upd (upd H t1 (.tup [.int 0, .int 1])) L1 (.lst [.ref t1])) t1 [.int 0, .int 1] := Same.tup (Same.new hL1) (SqT.of upd_same)
    have eL : (upd (upd H t1 (.tup [.int 0, .int 1])) L1 (.lst [.ref t1])) L1 = some (.lst [.ref t1]) := upd_same
    generalize upd (upd H t1 (.tup [.int 0, .int 1])) L1 (.lst [.ref t1]) = H2 at *
    refine i_dig 1 k2 (by omega) (by decide) (by decide) fun f1 H3 f10 f11 x1 k3 => ?_
    walk_at "go"
    refine ⟨by omega, by omega, ?_⟩
    obtain ⟨N, hN⟩ : ∃ N : Nat, (1 + f1).toNat = N := ⟨_, rfl⟩
    rw [hN]
    refine r_forR (fun i σ H' => ∃ (L : Addr) (vs : List V) (fs : List (Int × Int)) (x2 x3 x4 x5 : Option V), σ = [some (.ref k), some (.ref L), x2, x3, x4, x5, none] ∧ Kx k H H' ∧ Jar (2 + 2 * i) k H' ∧ L ≠ k ∧ H L = none ∧ H' L = some (.lst vs) ∧ PairsAt K H' vs fs ∧ Vf.Xr fs)
      ⟨L1, [.ref t1], [(0, 1)], _, _, _, _, rfl, Same.kx s2 x1, k3, nk1, none_same (Same.new h1) hL1, x1 _ _ nk1 eL, .cons ⟨t1, rfl, k2.tt x1 K _ _ e1⟩ .nil, Vf.Xr.start⟩ (fun i σ H' hi hP => ?_) (fun σ H' hP => ?_)
    · obtain ⟨L, vs, fs, x2, x3, x4, x5, rfl, y0, y1, nL, nL0, eL', pvs, X⟩ := hP
      have ev := pvs.length
      have hl := X.len
      walk_at "go"
      refine ⟨.inl ⟨rfl, _, SqL.of eL'⟩, ?_⟩
      walk_at "go"
      refine i_dig _ y1 (by omega) (by omega) (by omega) fun z H4 z0 z1 x4' k4 => ?_
      walk_at "go"
      obtain ⟨zn, rfl⟩ : ∃ zn : Nat, z = (zn : Int) := ⟨z.toNat, by omega⟩
      have zl : zn < fs.length := by omega
      obtain ⟨⟨r, b⟩, hp, pp⟩ := pvs.get (i := zn) (x := vs[zn]'(by omega)) (List.getElem?_eq_getElem (by omega))
      have eL4 := x4' _ _ nL eL'
      have pv4 := pvs.tt (y1.tt x4')
      have pp4 := pp.tt (y1.tt x4')
      refine ⟨L, vs, (zn : Int), zn, vs[zn]'(by omega), rfl, rfl, eL4, by omega, by omega, ?_, List.getElem?_eq_getElem (by omega), ?_⟩
      · unfold seqIndex?
        rw [if_neg (show ¬ ((zn : Int) < 0) by omega)]
        have h1 : decide ((0 : Int) ≤ (zn : Int)) = true := decide_eq_true (by omega)
        have h2 : decide ((zn : Int) < (vs.length : Int)) = true := decide_eq_true (by omega)
        simp only [h1, h2]
        rfl
      obtain ⟨tp, ep, st⟩ := pp4
      rw [ep]
      have st5 : SqT K (upd H4 L (.lst (vs.eraseIdx zn))) tp [.int r, .int b] := upd_tt eL4 K _ _ st
      have pv5 : PairsAt K (upd H4 L (.lst (vs.eraseIdx zn))) (vs.eraseIdx zn) (fs.eraseIdx zn) := erase_pairs zn (pv4.tt (upd_tt eL4))
      have k5 : Jar (2 + 2 * i + 1) k (upd H4 L (.lst (vs.eraseIdx zn))) := by
        obtain ⟨a1, a2, a3, a4, a5⟩ := k4
        exact ⟨a1, a2, a3, by rw [upd_ne (Ne.symm nL)]; exact a4, a5⟩
      have y5 : Kx k H (upd H4 L (.lst (vs.eraseIdx zn))) := fun c o nc e => by
        rw [upd_ne (ne_of_none e nL0)]
        exact (y0.trans x4') _ _ nc e
      have eL5 : (upd H4 L (.lst (vs.eraseIdx zn))) L = some (.lst (vs.eraseIdx zn)) := upd_same
      generalize upd H4 L (.lst (vs.eraseIdx zn)) = H5 at *
      refine r_gtup st5 rfl ?_
      walk_at "go"
      rename_i l nl
      have nLl : L ≠ l := fun z => by rw [z, nl] at eL5; cases eL5
      refine i_take _ [V.int 2, V.int 2, V.int 3, V.int 2, V.int 4] (k5.new nl) (by omega) (k5.ne nl) (SqL.of upd_same) (Nat.le_of_ble_eq_true rfl) (Nat.le_of_ble_eq_true rfl) fun j v H6 hv x6 k6 => ?_
      obtain ⟨m, rfl, hm⟩ : ∃ m : Nat, v = .int (m : Int) ∧ (m = 2 ∨ m = 3 ∨ m = 4) := by
        rcases j with _ | _ | _ | _ | _ | j
        · exact ⟨2, (Option.some.inj hv).symm, by omega⟩
        · exact ⟨2, (Option.some.inj hv).symm, by omega⟩
        · exact ⟨3, (Option.some.inj hv).symm, by omega⟩
        · exact ⟨2, (Option.some.inj hv).symm, by omega⟩
        · exact ⟨4, (Option.some.inj hv).symm, by omega⟩
        · exact absurd hv (by simp)
      have x56 : Kx k H5 H6 := Same.kx (Same.new nl) x6
      have eL6 := x56 _ _ nL eL5
      have pv6 := pv5.tt (k5.tt x56)
      have le : (vs.eraseIdx zn).length = fs.length - 1 := by rw [List.length_eraseIdx_of_lt (by omega), ev]
      walk_at "go"
      refine j_if (fun v H' => ∃ mm : Nat, v = .int (mm : Int) ∧ H' = H6 ∧ 1 ≤ mm ∧ 2 * mm ≤ 2 ^ mm ∧ fs.length - 1 + mm ≤ 12) (fun Q' q' => ?_) (fun v H' hv => ?_)
      · walk_at "gi"
        rw [le]
        refine ifd (fun c => ?_) (fun c => ?_)
        · walk_at "gi"
          exact q' _ _ ⟨m, rfl, rfl, by omega, by rcases hm with rfl | rfl | rfl <;> decide, by omega⟩
        · walk_at "gi"
          exact q' _ _ ⟨1, rfl, rfl, by omega, by decide, by omega⟩
      obtain ⟨mm, rfl, rfl, m0, m1, m2⟩ := hv
      have ob := X.fact _ (List.mem_of_getElem? hp)
      have orb := X.rg _ (List.mem_of_getElem? hp)
      dsimp only at ob orb
      walk_at "go"
      refine ⟨by omega, by omega, ?_⟩
      rw [Int.toNat_natCast]
      refine r_lcR (fun D j H'' => Same H' H'' ∧ ∃ us, H'' D = some (.lst us) ∧ PairsAt K H'' us ((Vf.kids r b mm).take j)) (fun D hD => ⟨Same.new hD, [], upd_same, .nil⟩) (fun D j H'' hD hj hP => ?_) (fun D H'' hD hP => ?_)
      · obtain ⟨s1, us, d1, P1⟩ := hP
        have lu := P1.length
        have lk : ((Vf.kids r b mm).take j).length ≤ j := List.length_take_le j _
        have jb : (j : Int) * b ≤ 12 * 2048 := Int.mul_le_mul (by omega) ob.2 (by omega) (by decide)
        have jb0 : 0 ≤ (j : Int) * b := Int.mul_nonneg (by omega) (by omega)
        have mb : b * (mm : Int) ≤ 2048 * 12 := Int.mul_le_mul ob.2 (by omega) (by omega) (by decide)
        rw [Int.zero_add]
        walk_at "go"
        refine ⟨rfl, ?_⟩
        walk_at "go"
        refine r_rI (bit_mul (a := 13) (b := 13) (bit_of (by omega)) (bit_of (by omega)) (by decide)) ?_
        walk_at "go"
        refine r_rI (bit_mul (a := 13) (b := 13) (bit_of (by omega)) (bit_of (by omega)) (by decide)) ?_
        walk_at "go"
        rename_i tq htq
        refine ⟨us, at_new htq d1, Nat.lt_of_le_of_lt (show us.length ≤ 12 by omega) (by decide), fun c o e => ?_, us ++ [.ref tq], upd_same, ?_⟩
        · rw [upd_ne (ne_of_none e hD)]
          exact (s1.trans (Same.new htq)) _ _ e
        · rw [kids_take r b mm j hj]
          exact PairsAt.tt (upd_tt (at_new htq d1)) (PairsAt.append (P1.tt (new_tt htq)) (.cons ⟨tq, rfl, SqT.of upd_same⟩ .nil))
      · obtain ⟨s1, us, d1, P1⟩ := hP
        have lk : (Vf.kids r b mm).length = mm := by unfold Vf.kids; rw [List.length_map, List.length_range]
        rw [List.take_of_length_le (by omega)] at P1
        have lu := P1.length
        walk_at "go"
        refine r_cat (s1 _ _ eL6) d1 (by omega) fun p7 hp7 => ?_
        walk_at "go"
        have sA := s1.trans (Same.new hp7 (o := .lst (vs.eraseIdx zn ++ us)))
        have y6 : Kx k H H' := y5.trans x56
        have nkp := (k6.same s1).ne hp7
        have nH : H p7 = none := by
          cases h : H p7 with
          | none => rfl
          | some o => have := y6.same s1 _ _ nkp h; rw [hp7] at this; cases this
        refine ⟨p7, _, _, _, _, _, _, rfl, y6.same sA, (k6.same sA).mono (by omega), nkp, nH, upd_same, PairsAt.append (pv6.tt (Same.tt sA)) (P1.tt (new_tt hp7)), X.split hp m0 m1 m2⟩
    · obtain ⟨L, vs, fs, x2, x3, x4, x5, rfl, y0, y1, nL, nL0, eL', pvs, X⟩ := hP
      walk_at "go"
      refine r_tupL (SqL.of eL') fun p hp => ?_
      exact q p fs _ _ (show 2 + 2 * N ≤ 100 by omega) (y0.same (Same.new hp)) (y1.new hp) ⟨vs, SqT.of upd_same, pvs.tt (new_tt hp)⟩ X
end
section
variable {P : Program} {w : World} {K : PySem.W.Frag} {mg : Str → Option Value} {base : Heap}
/-! ### numbers counted by weighed facts -/
def btw (lo hi : Int) (o : Int × Int) : Int := (hi - o.1) / o.2 - (lo - 1 - o.1) / o.2
theorem jn_of {gs : List (Int × Int)} (hf : ∀ p ∈ gs, Fact p) {x : Int} (h : Fits x gs) : Vf.Jn gs (jr gs) := by
  have j := Vf.Jn.of_fits (R := 0) hf h
  rw [jr_eq j]
  exact j
theorem tmj_count {fs : List (Int × Int)} (hf : ∀ p ∈ fs, Fact p) (hl : ∀ x, Vf.hits fs x ≤ 5) {k : Nat} (hk : k ≤ 12) {lo hi : Int} (lh : lo ≤ hi) :
    ((List.range (2 ^ fs.length)).map (tmj fs k (btw lo hi))).sum = ((Vf.numsIn lo hi).countP fun x => decide (Vf.hits fs x = k) : Nat) := by
  have e1 : ∀ c, tmj fs k (btw lo hi) c = ((Vf.numsIn lo hi).map fun x => if Vf.fitsB fs c x = true then Vf.wtk k (Vf.bitsL fs.length c).length else 0).sum := fun c => by
    have e3 : ((Vf.numsIn lo hi).map fun x => if Vf.fitsB fs c x = true then Vf.wtk k (Vf.bitsL fs.length c).length else 0).sum = Vf.wtk k (Vf.bitsL fs.length c).length * ((Vf.numsIn lo hi).countP (Vf.fitsB fs c) : Nat) := by
      rw [← Vf.isum_count, ← Vf.isum_mul]
      refine Vf.isum_congr fun x _ => ?_
      by_cases h : Vf.fitsB fs c x = true
      · rw [if_pos h, if_pos h, Int.mul_one]
      · rw [if_neg h, if_neg h, Int.mul_zero]
    rw [e3]
    unfold tmj
    have mo : ∀ p ∈ Vf.subF fs fs.length c, Fact p := fun p hp => hf p (Vf.subF_mem (Nat.le_refl _) hp)
    by_cases h : Vf.Con fs c
    · rw [if_pos h]
      obtain ⟨x, hx⟩ := h
      have z := Vf.cnt_eq (fs := fs) (a := c) lh (lcmAll_pos _ 1 mo (by decide)) (jn_of mo hx)
      rw [← z]
      rfl
    · rw [if_neg h, Vf.none_count (fun x hx => h ⟨x, hx⟩)]
      simp
  rw [Vf.isum_congr fun c _ => e1 c, Vf.isum_swap, ← Vf.isum_count]
  refine Vf.isum_congr fun x _ => ?_
  rw [Vf.isum_congr (f := fun c => if Vf.fitsB fs c x = true then Vf.wtk k (Vf.bitsL fs.length c).length else 0) (g := fun c => if (Vf.bitsL fs.length c).all (Vf.fitB fs x) = true then Vf.wtk k (Vf.bitsL fs.length c).length else 0) fun c _ => by rw [Vf.fitsB_bits], Vf.bsum_bits]
  have le := hl x
  rw [show (List.range fs.length).countP (Vf.fitB fs x) = Vf.hits fs x from rfl, Vf.bsum_wt _ le k hk]
  by_cases h : Vf.hits fs x = k
  · rw [if_pos h, decide_eq_true h, if_pos rfl]
  · rw [if_neg h, decide_eq_false h, if_neg (by decide)]
/-- the dark ones of lo .. hi -/
def darkN (fs : List (Int × Int)) (lo hi : Int) : Nat := (Vf.numsIn lo hi).countP fun x => decide (Vf.hits fs x = 0)
theorem div_gap {x y b : Int} (hb : 0 < b) : (x / b - y / b).natAbs ≤ (x - y).natAbs + 1 := by
  have h1 := Int.mul_ediv_add_emod x b
  have h2 := Int.mul_ediv_add_emod y b
  have r1 := Int.emod_nonneg x (show b ≠ 0 by omega)
  have r2 := Int.emod_nonneg y (show b ≠ 0 by omega)
  have s1 := Int.emod_lt_of_pos x hb
  have s2 := Int.emod_lt_of_pos y hb
  have e : b * (x / b - y / b) = x - y - x % b + y % b := by rw [Int.mul_sub]; omega
  generalize x / b - y / b = d at *
  refine Classical.byContradiction fun c => ?_
  rcases Int.le_total 0 d with p | p
  · have h3 : b * ((x - y).natAbs + 2 : Int) ≤ b * d := Int.mul_le_mul_of_nonneg_left (by omega) (by omega)
    have h4 : 1 * ((x - y).natAbs : Int) ≤ b * ((x - y).natAbs : Int) := Int.mul_le_mul_of_nonneg_right (by omega) (by omega)
    rw [Int.mul_add] at h3
    omega
  · have h3 : b * ((x - y).natAbs + 2 : Int) ≤ b * (-d) := Int.mul_le_mul_of_nonneg_left (by omega) (by omega)
    have h4 : 1 * ((x - y).natAbs : Int) ≤ b * ((x - y).natAbs : Int) := Int.mul_le_mul_of_nonneg_right (by omega) (by omega)
    rw [Int.mul_add, Int.mul_neg] at h3
    omega
def sp_cw (K : PySem.W.Frag) : Sp := fun vs H Q _ => ∃ (p : Addr) (ws : List V) (es : List We) (lo hi : Int), vs = [.ref p, .int lo, .int hi] ∧ H p = some (.lst ws) ∧ Paired (WAt H) ws es ∧ es.length ≤ 4096 ∧ (∀ e ∈ es, (0 < e.1.2 ∧ e.1.2.natAbs ≤ Bq) ∧ e.2.natAbs ≤ 4096000) ∧
  lo.natAbs ≤ 2 ^ 300 ∧ hi.natAbs ≤ 2 ^ 300 ∧ ∀ H', Same H H' → Q (.int (sumE es (btw lo hi))) H'
theorem ok_count_weighed (T : Top K mg) : Ok P w K mg base 2 "count_weighed" s_count_weighed ["weighed", "low", "high"] (sp_cw K) := by
  have G_count_between := ok_count_between (P := P) (w := w) (base := base) T
  refine T.d_count_weighed.ok sc_count_weighed (fun vs H Q E h => ?_) (fun f cdv A outer s H vs Q E hg hr h => ?_)
  · obtain ⟨p, ws, es, lo, hi, rfl, _⟩ := h
    rfl
  · obtain ⟨p, ws, es, lo, hi, rfl, ep, U, el, eb, l1, l2, q⟩ := h
    refine ⟨_, (pss_one (ps_ret (pe_callB (id := "sum") (c_sum rfl rfl) (by rfl) T.b_sum (by decide +kernel) (pa_cons (pe_lc (own := [("weight", 3), ("fact", 4)]) (by rfl) sc_count_weighed.nd (i_list rfl (pv 0)) (blkOk_by (own := [("weight", 3), ("fact", 4)]) (N := ["weighed", "low", "high", "weight", "fact"]) (sc := defScope s_count_weighed) (by decide +kernel)) (fun _ _ _ _ _ => (g_tup (n := 2) rfl rfl (pgs_cons (pg_name (i := 3) sc_count_weighed.nd rfl (by first | exact Or.inl rfl | exact Or.inr rfl)) (pgs_cons (pg_name (i := 4) sc_count_weighed.nd rfl (by first | exact Or.inl rfl | exact Or.inr rfl)) pgs_nil)) rfl rfl)) (fun _ _ _ _ _ => pts_nil) (fun _ _ _ _ _ => (pe_op op_mulX (pv 3) (pe_g G_count_between (fun _ _ F => bd_count_between F) hg (hr.mono (by decide)) passL (by rfl) (pa_cons (pv 4) (pa_cons (pv 1) (pa_cons (pv 2) pa_nil))))))) pa_nil)))), ?_⟩
    walk_at "sti"
    refine r_lcLs ws (fun D i H1 => Same H H1 ∧ H1 D = some (.lst ((es.take i).map fun e => V.int (e.2 * btw lo hi e.1)))) (fun D hD => ⟨Same.new hD, upd_same⟩) (fun D i H1 hD hi hP => ?_) (fun D i x H1 hD hx hP => ?_) (fun D H1 hD hP => ?_)
    · exact SqL.of (hP.1 _ _ ep)
    · obtain ⟨s1, e1⟩ := hP
      obtain ⟨e, he, t, q2, rfl, h2, h3⟩ := pget U hx
      have st := SqT.of (K := K) (s1 _ _ h2)
      have sq := SqT.of (K := K) (s1 _ _ h3)
      obtain ⟨b1, b2⟩ := eb e (List.mem_of_getElem? he)
      refine r_gtup st rfl ?_
      walk_at "gi"
      refine ⟨rfl, ?_⟩
      walk_at "gi"
      refine ⟨q2, e.1.1, e.1.2, lo, hi, rfl, sq, b1.1, b1.2, ?_⟩
      have lB : (btw lo hi e.1).natAbs < 2 ^ 400 := by
        have h1 := div_gap (x := hi - e.1.1) (y := lo - 1 - e.1.1) b1.1
        rw [show hi - e.1.1 - (lo - 1 - e.1.1) = hi - lo + 1 by omega] at h1
        refine Nat.lt_of_le_of_lt h1 ?_
        have : (2 : Nat) ^ 400 = 2 ^ 300 * 2 ^ 100 := by rw [← Nat.pow_add]
        have h9 : 2 ^ 300 * 8 ≤ 2 ^ 300 * 2 ^ 100 := Nat.mul_le_mul_left _ (by decide)
        have h8 : 8 ≤ 2 ^ 300 := Nat.le_trans (show 8 ≤ 2 ^ 3 by decide) (Nat.pow_le_pow_right (by decide) (by decide))
        generalize (2 : Nat) ^ 300 = Z at *
        omega
      refine r_rI (bit_mul (a := 64) (b := 400) (bit_of (by omega)) (bit_of lB) (by decide)) ?_
      refine ⟨_, e1, Nat.lt_of_le_of_lt (show _ ≤ 4096 by rw [List.length_map]; exact Nat.le_trans (List.length_take_le' ..) el) (by decide), fun b o eb => ?_, ?_⟩
      · rw [upd_ne (ne_of_none eb hD)]
        exact s1 _ _ eb
      · rw [take_one he, List.map_append]
        exact upd_same
    · obtain ⟨s1, e1⟩ := hP
      rw [show ws.length = es.length from Paired.length U, List.take_length] at e1
      walk_at "gi"
      have em : (es.map fun e => V.int (e.2 * btw lo hi e.1)) = (es.map fun e => e.2 * btw lo hi e.1).map V.int := by rw [List.map_map]; rfl
      rw [em] at e1
      refine ⟨D, _, rfl, SqL.of e1, ?_⟩
      exact q _ s1
end
section
variable {P : Program} {w : World} {K : PySem.W.Frag} {mg : Str → Option Value} {base : Heap}
/-! ### how far a guess is off -/
theorem sum_bound {α : Type} (g : α → Int) (B : Nat) : ∀ as : List α, (∀ a ∈ as, (g a).natAbs ≤ B) → ((as.map g).sum).natAbs ≤ as.length * B
  | [], _ => Nat.zero_le _
  | a :: as, h => by
    have h1 := h a List.mem_cons_self
    have h2 := sum_bound g B as fun b hb => h b (List.mem_cons_of_mem _ hb)
    rw [List.map_cons, List.sum_cons, List.length_cons, Nat.add_mul]
    omega
/-- the dark ones of a round -/
def drk (fs : List (Int × Int)) : Nat := (Vf.rng (lcmAll fs)).countP fun x => decide (Vf.hits fs x = 0)
theorem btw_off {lo n b t : Int} (hb : 0 < b) (ht : 0 ≤ t) (r : Int) : (b * t * btw lo (lo + n - 1) (r, b) - n * t).natAbs ≤ (b * t).natAbs := by
  unfold btw
  dsimp only
  have h1 := Int.mul_ediv_add_emod (lo + n - 1 - r) b
  have h2 := Int.mul_ediv_add_emod (lo - 1 - r) b
  have r1 := Int.emod_nonneg (lo + n - 1 - r) (show b ≠ 0 by omega)
  have r2 := Int.emod_nonneg (lo - 1 - r) (show b ≠ 0 by omega)
  have s1 := Int.emod_lt_of_pos (lo + n - 1 - r) hb
  have s2 := Int.emod_lt_of_pos (lo - 1 - r) hb
  generalize (lo + n - 1 - r) / b = u at *
  generalize (lo - 1 - r) / b = v at *
  generalize (lo + n - 1 - r) % b = p at *
  generalize (lo - 1 - r) % b = q at *
  have e : b * t * (u - v) - n * t = (q - p) * t := by
    rw [show b * t * (u - v) - n * t = (b * u - b * v - n) * t by grind, show b * u - b * v - n = q - p by omega]
  rw [e, Int.natAbs_mul, Int.natAbs_mul]
  exact Nat.mul_le_mul (by omega) (Nat.le_refl _)
theorem wt0_abs (j : Nat) : (Vf.wtk 0 j).natAbs = 1 := by
  rw [Vf.wt0]
  split <;> rfl
theorem dark_off {fs : List (Int × Int)} (hf : ∀ p ∈ fs, Fact p) (hl : ∀ x, Vf.hits fs x ≤ 5) {lo n : Int} (hn : 1 ≤ n) : (((lcmAll fs : Int)) * (darkN fs lo (lo + n - 1) : Int) - n * (drk fs : Int)).natAbs ≤ 2 ^ fs.length * lcmAll fs := by
  have L0 : 0 < lcmAll fs := lcmAll_pos fs 1 hf (by decide)
  unfold darkN drk
  rw [← tmj_count hf hl (k := 0) (by decide) (lo := lo) (hi := lo + n - 1) (by omega), ← Vf.lamps_cnt hf hl (k := 0) (by decide), ← Vf.isum_mul, ← Vf.isum_mul]
  have e : ((List.range (2 ^ fs.length)).map fun c => (lcmAll fs : Int) * tmj fs 0 (btw lo (lo + n - 1)) c).sum - ((List.range (2 ^ fs.length)).map fun c => n * Vf.tmk fs 0 (fun m => (lcmAll fs : Int) / m) c).sum = ((List.range (2 ^ fs.length)).map fun c => (lcmAll fs : Int) * tmj fs 0 (btw lo (lo + n - 1)) c - n * Vf.tmk fs 0 (fun m => (lcmAll fs : Int) / m) c).sum := by
    have := Vf.isum_add (fun c => (lcmAll fs : Int) * tmj fs 0 (btw lo (lo + n - 1)) c) (fun c => -1 * (n * Vf.tmk fs 0 (fun m => (lcmAll fs : Int) / m) c)) (List.range (2 ^ fs.length))
    have m1 := Vf.isum_mul (-1) (fun c => n * Vf.tmk fs 0 (fun m => (lcmAll fs : Int) / m) c) (List.range (2 ^ fs.length))
    rw [show ((List.range (2 ^ fs.length)).map fun c => (lcmAll fs : Int) * tmj fs 0 (btw lo (lo + n - 1)) c - n * Vf.tmk fs 0 (fun m => (lcmAll fs : Int) / m) c) = (List.range (2 ^ fs.length)).map fun c => (lcmAll fs : Int) * tmj fs 0 (btw lo (lo + n - 1)) c + -1 * (n * Vf.tmk fs 0 (fun m => (lcmAll fs : Int) / m) c) from List.map_congr_left fun c _ => by omega, this, m1]
    omega
  rw [e]
  refine Nat.le_trans (sum_bound _ (lcmAll fs) _ fun c _ => ?_) (by rw [List.length_range]; exact Nat.le_refl _)
  unfold tmj Vf.tmk
  have mo : ∀ p ∈ Vf.subF fs fs.length c, Fact p := fun p hp => hf p (Vf.subF_mem (Nat.le_refl _) hp)
  have m0 : 0 < lcmAll (Vf.subF fs fs.length c) := lcmAll_pos _ 1 mo (by decide)
  obtain ⟨t, ht⟩ := Vf.lcm_sub (fs := fs) (c := c)
  by_cases h : Vf.Con fs c
  · rw [if_pos h, if_pos h]
    generalize lcmAll (Vf.subF fs fs.length c) = b at *
    have ed : (lcmAll fs : Int) / (b : Int) = (t : Int) := by
      rw [ht, Int.natCast_mul]
      exact Int.mul_ediv_cancel_left _ (by omega)
    have o := btw_off (lo := lo) (n := n) (b := (b : Int)) (t := (t : Int)) (by omega) (by omega) (jr (Vf.subF fs fs.length c))
    dsimp only
    rw [ed]
    have w1 := wt0_abs (Vf.bitsL fs.length c).length
    generalize Vf.wtk 0 (Vf.bitsL fs.length c).length = wt at *
    generalize btw lo (lo + n - 1) (jr (Vf.subF fs fs.length c), (b : Int)) = z at *
    rw [ht, Int.natCast_mul, show (b : Int) * (t : Int) * (wt * z) - n * (wt * (t : Int)) = wt * ((b : Int) * (t : Int) * z - n * (t : Int)) by grind, Int.natAbs_mul, w1, Nat.one_mul]
    refine Nat.le_trans o ?_
    rw [Int.natAbs_mul, Int.natAbs_natCast, Int.natAbs_natCast]
    exact Nat.le_refl _
  · rw [if_neg h, if_neg h, Int.mul_zero, Int.mul_zero]
    exact Nat.zero_le _
end
section
variable {P : Program} {w : World} {K : PySem.W.Frag} {mg : Str → Option Value} {base : Heap}
/-! ### dark numbers one after another -/
theorem hits_dark {fs : List (Int × Int)} (hf : ∀ p ∈ fs, Fact p) (x : Int) : Vf.hits fs x = 0 ↔ Vf.litB fs x = false := by
  rw [Vf.hits_list hf]
  exact Vf.litN_pos
theorem nums_add (lo : Int) (a b : Nat) : Vf.numsN lo (a + b) = Vf.numsN lo a ++ Vf.numsN (lo + a) b := by
  unfold Vf.numsN
  rw [List.range_add, List.map_append, List.map_map]
  congr 1
  refine List.map_congr_left fun i _ => ?_
  show lo + ((a + i : Nat) : Int) = lo + (a : Int) + (i : Int)
  omega
def dkN (fs : List (Int × Int)) (lo : Int) (n : Nat) : Nat := (Vf.numsN lo n).countP fun x => decide (Vf.hits fs x = 0)
theorem dkN_add (fs : List (Int × Int)) (lo : Int) (a b : Nat) : dkN fs lo (a + b) = dkN fs lo a + dkN fs (lo + a) b := by
  unfold dkN
  rw [nums_add, List.countP_append]
theorem dkN_one (fs : List (Int × Int)) (lo : Int) : dkN fs lo 1 = if Vf.hits fs lo = 0 then 1 else 0 := by
  show ([lo + ((0 : Nat) : Int)].countP fun x => decide (Vf.hits fs x = 0)) = _
  rw [show lo + ((0 : Nat) : Int) = lo by omega]
  by_cases h : Vf.hits fs lo = 0
  · rw [if_pos h, List.countP_cons_of_pos (by rw [decide_eq_true h])]; rfl
  · rw [if_neg h, List.countP_cons_of_neg (by rw [decide_eq_false h]; exact Bool.false_ne_true)]; rfl
theorem dkN_dark (fs : List (Int × Int)) (lo : Int) (n : Nat) : darkN fs lo (lo + n - 1) = dkN fs lo n := by
  unfold darkN dkN Vf.numsIn
  rw [show (lo + (n : Int) - 1 - lo + 1).toNat = n by omega]
theorem dkN_pos {fs : List (Int × Int)} {lo : Int} {n j : Nat} (h : j < n) (d : Vf.hits fs (lo + j) = 0) : 1 ≤ dkN fs lo n := by
  obtain ⟨r, rfl⟩ : ∃ r, n = j + (1 + r) := ⟨n - j - 1, by omega⟩
  rw [dkN_add, dkN_add, dkN_one, if_pos d]
  omega
theorem win_dark {fs : List (Int × Int)} (hm : Lw fs) {x0 : Int} (hd : Vf.litB fs x0 = false) (lo : Int) : 1 ≤ dkN fs lo (2 ^ fs.length) := by
  refine Classical.byContradiction fun c => ?_
  have all : ∀ j : Nat, j < 2 ^ fs.length → Vf.litB fs (lo + j) = true := fun j hj => by
    cases e : Vf.litB fs (lo + j) with
    | true => rfl
    | false => exact absurd (dkN_pos hj ((hits_dark hm.fact _).mpr e)) c
  have := hm.win lo all x0
  rw [hd] at this
  exact Bool.false_ne_true this
theorem wins_dark {fs : List (Int × Int)} (hm : Lw fs) {x0 : Int} (hd : Vf.litB fs x0 = false) (lo : Int) : ∀ k : Nat, k ≤ dkN fs lo (k * 2 ^ fs.length)
  | 0 => Nat.zero_le _
  | k + 1 => by
    have ih := wins_dark hm hd lo k
    have := win_dark hm hd (lo + ((k * 2 ^ fs.length : Nat) : Int))
    rw [Nat.add_mul, Nat.one_mul, dkN_add]
    omega
theorem dkN_off {fs : List (Int × Int)} (hf : ∀ p ∈ fs, Fact p) (hl : ∀ x, Vf.hits fs x ≤ 5) (lo : Int) (n : Nat) : ((lcmAll fs : Int) * (dkN fs lo n : Int) - (n : Int) * (drk fs : Int)).natAbs ≤ 2 ^ fs.length * lcmAll fs := by
  rcases Nat.eq_zero_or_pos n with rfl | h
  · show ((lcmAll fs : Int) * ((0 : Nat) : Int) - ((0 : Nat) : Int) * (drk fs : Int)).natAbs ≤ _
    simp
  · have := dark_off hf hl (lo := lo) (n := (n : Int)) (by omega)
    rwa [dkN_dark] at this
theorem dense {fs : List (Int × Int)} (hm : Lw fs) (hl : ∀ x, Vf.hits fs x ≤ 5) {x0 : Int} (hd : Vf.litB fs x0 = false) : lcmAll fs ≤ 2 ^ fs.length * drk fs := by
  refine Classical.byContradiction fun c => ?_
  have L0 := hm.pos
  have h1 := wins_dark hm hd 0 (lcmAll fs * (2 ^ fs.length + 1))
  have h2 := dkN_off hm.fact hl 0 (lcmAll fs * (2 ^ fs.length + 1) * 2 ^ fs.length)
  generalize 2 ^ fs.length = W at *
  generalize dkN fs 0 (lcmAll fs * (W + 1) * W) = f at *
  generalize lcmAll fs = L at *
  generalize drk fs = S at *
  have c1 : W * S + 1 ≤ L := by omega
  have a1 : L * (L * (W + 1)) ≤ L * f := Nat.mul_le_mul_left _ h1
  have a2 : L * f ≤ L * (W + 1) * W * S + W * L := by
    rw [← Int.natCast_mul, ← Int.natCast_mul] at h2
    omega
  have a3 : L * (L * (W + 1)) ≤ L * ((W + 1) * W * S + W) := by
    refine Nat.le_trans (Nat.le_trans a1 a2) (Nat.le_of_eq ?_)
    grind
  have a4 : L * (W + 1) ≤ (W + 1) * W * S + W := Nat.le_of_mul_le_mul_left a3 L0
  have a5 : (W * S + 1) * (W + 1) ≤ L * (W + 1) := Nat.mul_le_mul_right _ c1
  have a6 : (W * S + 1) * (W + 1) = (W + 1) * W * S + W + 1 := by
    rw [Nat.add_mul, Nat.one_mul, Nat.mul_comm (W * S), Nat.mul_assoc]
    omega
  omega
theorem dkN_mono (fs : List (Int × Int)) (lo : Int) {a b : Nat} (h : a ≤ b) : dkN fs lo a ≤ dkN fs lo b := by
  obtain ⟨c, rfl⟩ : ∃ c, b = a + c := ⟨b - a, by omega⟩
  rw [dkN_add]
  omega
theorem dkN_next (fs : List (Int × Int)) (lo : Int) (n : Nat) : dkN fs lo (n + 1) = dkN fs lo n + if Vf.hits fs (lo + n) = 0 then 1 else 0 := by
  rw [dkN_add, dkN_one]
/-- the bounds of the search hold the number -/
theorem search_in {fs : List (Int × Int)} (hm : Lw fs) (hl : ∀ x, Vf.hits fs x ≤ 5) {x0 : Int} (hd : Vf.litB fs x0 = false) (lo : Int) (N : Nat) {q : Nat} (hq : q = N * lcmAll fs / drk fs) {V : Nat} (hV : V = 2 ^ fs.length * (2 ^ fs.length + 2)) :
    N < dkN fs lo (q + V + 1) ∧ (V ≤ q → dkN fs lo (q - V) ≤ N) := by
  have L0 := hm.pos
  have D := dense hm hl hd
  have w0 : 0 < 2 ^ fs.length := Nat.two_pow_pos _
  have o1 := dkN_off hm.fact hl lo (q + V + 1)
  have o2 := dkN_off hm.fact hl lo (q - V)
  generalize 2 ^ fs.length = W at *
  generalize dkN fs lo (q + V + 1) = f at *
  generalize dkN fs lo (q - V) = g at *
  generalize lcmAll fs = L at *
  generalize drk fs = S at *
  have S0 : 0 < S := by
    rcases Nat.eq_zero_or_pos S with z | z
    · rw [z, Nat.mul_zero] at D; omega
    · exact z
  have q1 := Nat.div_add_mod (N * L) S
  have q2 := Nat.mod_lt (N * L) S0
  rw [← hq] at q1
  have VS : W * L ≤ V * S := by
    rw [hV, Nat.mul_assoc]
    refine Nat.mul_le_mul_left _ (Nat.le_trans D ?_)
    exact Nat.mul_le_mul_right _ (by omega)
  constructor
  · refine Classical.byContradiction fun c => ?_
    have a1 : L * f ≤ L * N := Nat.mul_le_mul_left _ (by omega)
    rw [← Int.natCast_mul, ← Int.natCast_mul] at o1
    have a2 : (q + V + 1) * S = S * q + V * S + S := by rw [Nat.add_mul, Nat.add_mul, Nat.one_mul, Nat.mul_comm q S]
    rw [Nat.mul_comm L N] at a1
    omega
  · intro h
    refine Classical.byContradiction fun c => ?_
    have a1 : L * (N + 1) ≤ L * g := Nat.mul_le_mul_left _ (by omega)
    rw [← Int.natCast_mul, ← Int.natCast_mul] at o2
    have a2 : (q - V) * S + V * S = S * q := by rw [← Nat.add_mul, Nat.sub_add_cancel h, Nat.mul_comm]
    rw [Nat.mul_add, Nat.mul_one, Nat.mul_comm L N] at a1
    omega
end
section
variable {P : Program} {w : World} {K : PySem.W.Frag} {mg : Str → Option Value} {base : Heap}
/-! ### the dark number by its place -/
def sp_dark_at (K : PySem.W.Frag) : Sp := fun vs H Q _ => ∃ (a : Addr) (fs : List (Int × Int)) (lo : Int) (N : Nat), vs = [.ref a, .int lo, .int (N : Int)] ∧ FactsAt K H a fs ∧ Dr fs ∧ lo.natAbs ≤ 2 ^ 140 ∧ N ≤ 2 ^ 140 ∧ (∃ x0, Vf.litB fs x0 = false) ∧
  ∀ (n : Nat) H', Same H H' → Vf.hits fs (lo + n) = 0 → dkN fs lo n = N → Q (.int (lo + n)) H'
theorem ok_dark_at (T : Top K mg) : Ok P w K mg base 7 "dark_at" s_dark_at ["lamps", "number", "index"] (sp_dark_at K) := by
  have G_weighed_facts := ok_weighed_facts (P := P) (w := w) (base := base) T
  have G_share_weighed := ok_share_weighed (P := P) (w := w) (base := base) T
  have G_window_of := ok_window_of (P := P) (w := w) (base := base) T
  have G_count_weighed := ok_count_weighed (P := P) (w := w) (base := base) T
  refine T.d_dark_at.ok sc_dark_at (fun vs H Q E h => ?_) (fun f cdv A outer s H vs Q E hg hr h => ?_)
  · obtain ⟨a, fs, lo, N, rfl, _⟩ := h
    rfl
  · obtain ⟨a, fs, lo, N, rfl, hfa, hD, l1, n1, ⟨x0, hd⟩, q⟩ := h
    have hF := hD.facts
    have L0 := hD.pos
    have L1 := hD.lcm
    have dn := dense hD.2 hD.2.hits hd
    obtain ⟨us, su, pu⟩ := id hfa
    have lu := pu.length
    refine ⟨_, (pss_cons (ps_set (i := 3) sc_dark_at.nd rfl (.inl rfl) (pe_g G_weighed_facts (fun _ _ F => bd_weighed_facts F) hg (hr.mono (by decide)) passL (by rfl) (pa_cons (pv 0) (pa_cons pe_int pa_nil))))
    (pss_cons (ps_asg (pe_g G_share_weighed (fun _ _ F => bd_share_weighed F) hg (hr.mono (by decide)) passL (by rfl) (pa_cons (pv 0) (pa_cons (pv 3) pa_nil))) (g_tup rfl rfl (pgs_cons (pg_name (i := 4) sc_dark_at.nd rfl (.inl rfl)) (pgs_cons (pg_name (i := 5) sc_dark_at.nd rfl (.inl rfl)) pgs_nil)) rfl rfl))
    (pss_cons (ps_set (i := 6) sc_dark_at.nd rfl (.inl rfl) (pe_g G_window_of (fun _ _ F => bd_window_of F) hg (hr.mono (by decide)) passL (by rfl) (pa_cons (pv 0) pa_nil)))
    (pss_cons (ps_set (i := 7) sc_dark_at.nd rfl (.inl rfl) (pe_op op_add (pv 1) (pe_op op_fdivW (pe_op op_mulX (pv 2) (pv 5)) (pv 4))))
    (pss_cons (ps_set (i := 8) sc_dark_at.nd rfl (.inl rfl) (pe_callB (id := "max") (c_max2 rfl) (by rfl) T.b_max (by decide +kernel) (pa_cons (pv 1) (pa_cons (pe_op op_sub (pv 7) (pe_op op_mulX (pv 6) (pe_op op_add (pv 6) pe_int))) pa_nil))))
    (pss_cons (ps_set (i := 9) sc_dark_at.nd rfl (.inl rfl) (pe_op op_add (pv 7) (pe_op op_mulX (pv 6) (pe_op op_add (pv 6) pe_int))))
    (pss_cons (ps_while (passes_of rfl) (pt_cmpR op_lt (pv 8) (pv 9) (nomark _)) (pss_cons (ps_set (i := 10) sc_dark_at.nd rfl (.inl rfl) (pe_op op_fdivW (pe_op op_add (pv 8) (pv 9)) pe_int))
    (pss_one (ps_if (pt_cmpR op_gt (pe_g G_count_weighed (fun _ _ F => bd_count_weighed F) hg (hr.mono (by decide)) passL (by rfl) (pa_cons (pv 3) (pa_cons (pv 1) (pa_cons (pv 10) pa_nil)))) (pv 2) (nomark _)) (pss_one (ps_set (i := 9) sc_dark_at.nd rfl (.inl rfl) (pv 10))) (pss_one (ps_set (i := 8) sc_dark_at.nd rfl (.inl rfl) (pe_op op_add (pv 10) pe_int)))))))
    (pss_one (ps_ret (pv 8)))))))))), ?_⟩
    walk_at "sti"
    refine ⟨a, fs, 0, rfl, hfa, hF, by have := hD.1; omega, by decide, fun p ws es H1 s1 np ep U el eb sm => ?_⟩
    walk_at "gi"
    refine ⟨a, p, ws, es, fs, rfl, hfa.tt (Same.tt s1), hF, ep, U, el, eb, fun t H2 s2 nt et => ?_⟩
    have eS : sumE es (fun o => (lcmAll fs : Int) / o.2) = (drk fs : Int) := by
      rw [sm, ← show ((List.range (2 ^ fs.length)).map (Vf.tmk fs 0 fun m => (lcmAll fs : Int) / m)).sum = (drk fs : Int) from Vf.lamps_cnt hF.2 hD.2.hits (by decide)]
      refine congrArg List.sum (List.map_congr_left fun c _ => ?_)
      exact tmj_base fs 0 (fun m => (lcmAll fs : Int) / m) c
    rw [eS, Int.natAbs_natCast] at et
    have S0 : 0 < drk fs := by
      rcases Nat.eq_zero_or_pos (drk fs) with z | z
      · rw [z, Nat.mul_zero] at dn; omega
      · exact z
    have SL : drk fs ≤ lcmAll fs := by
      have := List.countP_le_length (p := fun x => decide (Vf.hits fs x = 0)) (l := Vf.rng (lcmAll fs))
      unfold Vf.rng at this
      rwa [List.length_map, List.length_range] at this
    have g0 : 0 < Nat.gcd (drk fs) (lcmAll fs) := Nat.gcd_pos_of_pos_left _ S0
    obtain ⟨S', hS'⟩ := Nat.gcd_dvd_left (drk fs) (lcmAll fs)
    obtain ⟨L', hL'⟩ := Nat.gcd_dvd_right (drk fs) (lcmAll fs)
    have dS : (drk fs : Int) / ((Nat.gcd (drk fs) (lcmAll fs) : Nat) : Int) = (S' : Int) := by
      rw [← Int.natCast_ediv]
      congr 1
      conv => lhs; lhs; rw [hS']
      exact Nat.mul_div_cancel_left _ g0
    have dL : (lcmAll fs : Int) / ((Nat.gcd (drk fs) (lcmAll fs) : Nat) : Int) = (L' : Int) := by
      rw [← Int.natCast_ediv]
      congr 1
      conv => lhs; lhs; rw [hL']
      exact Nat.mul_div_cancel_left _ g0
    rw [dS, dL] at et
    have qe : N * lcmAll fs / drk fs = N * L' / S' := by
      conv => lhs; lhs; rw [hL']
      conv => lhs; rhs; rw [hS']
      rw [show N * (Nat.gcd (drk fs) (lcmAll fs) * L') = Nat.gcd (drk fs) (lcmAll fs) * (N * L') by grind]
      exact Nat.mul_div_mul_left _ _ g0
    have S1 : 0 < S' := by
      rcases Nat.eq_zero_or_pos S' with z | z
      · rw [z, Nat.mul_zero] at hS'; omega
      · exact z
    have L'5 : L' ≤ 5040 := Nat.le_trans (Nat.le_of_dvd L0 ⟨_, by rw [Nat.mul_comm]; exact hL'⟩) L1
    have S'5 : S' ≤ 5040 := Nat.le_trans (Nat.le_trans (Nat.le_of_dvd S0 ⟨_, by rw [Nat.mul_comm]; exact hS'⟩) SL) L1
    have SI := search_in hD.2 hD.2.hits hd lo N (q := N * L' / S') qe.symm rfl
    have cntA : ∀ k : Nat, sumE es (btw lo (lo + (k : Int))) = (dkN fs lo (k + 1) : Int) := fun k => by
      rw [sm, tmj_count hF.2 hD.2.hits (k := 0) (by decide) (by omega), ← dkN_dark, show lo + ((k + 1 : Nat) : Int) - 1 = lo + (k : Int) by omega]
      rfl
    have W32 : 2 ^ fs.length ≤ 4096 := Nat.pow_le_pow_right (n := 2) (by decide) hD.1
    walk_at "gi"
    refine ⟨a, us, rfl, Same.tt (s1.trans s2) _ _ _ su, by have := hD.1; omega, ?_⟩
    rw [lu]
    generalize 2 ^ fs.length = W at *
    walk_at "gi"
    refine r_rI (bit_mul (a := 150) (b := 64) (bit_of (by omega)) (bit_of (by omega)) (by decide)) ?_
    walk_at "gi"
    have qb : N * L' / S' ≤ 2 ^ 140 * 5040 := Nat.le_trans (Nat.div_le_self _ _) (Nat.mul_le_mul n1 L'5)
    obtain ⟨q0, hq0⟩ : ∃ q0 : Nat, N * L' / S' = q0 := ⟨_, rfl⟩
    have eq0 : (N : Int) * (L' : Int) / (S' : Int) = (q0 : Int) := by rw [← hq0, Int.natCast_ediv, Int.natCast_mul]
    rw [hq0] at SI qb
    obtain ⟨V0, hV0⟩ : ∃ V0 : Nat, W * (W + 2) = V0 := ⟨_, rfl⟩
    have eV0 : (W : Int) * ((W : Int) + 2) = (V0 : Int) := by rw [← hV0, Int.natCast_mul]; rfl
    have vb : V0 ≤ 4096 * 4098 := by rw [← hV0]; exact Nat.mul_le_mul W32 (by omega)
    rw [hV0] at SI
    refine r_rI (divw_of (by omega) (by omega)) ?_
    rw [eq0]
    walk_at "gi"
    refine r_rI (bit_mul (a := 64) (b := 64) (bit_of (by omega)) (bit_of (by omega)) (by decide)) ?_
    rw [eV0]
    walk_at "gi"
    refine r_rI (bit_mul (a := 64) (b := 64) (bit_of (by omega)) (bit_of (by omega)) (by decide)) ?_
    rw [eV0]
    walk_at "gi"
    rw [show max lo (lo + (q0 : Int) - (V0 : Int)) = lo + ((q0 - V0 : Nat) : Int) by omega]
    rw [show lo + (q0 : Int) + (V0 : Int) = lo + ((q0 + V0 : Nat) : Int) by omega]
    have sH : Same H H2 := s1.trans s2
    have ep2 := s2 _ _ ep
    have U2 : Paired (WAt H2) ws es := pmono (fun _ _ r => r.th (Same.th s2)) U
    refine r_while (fun m σ H' => Same H2 H' ∧ ∃ (b e : Nat) (x10 : Option V), σ = [some (.ref a), some (.int lo), some (.int (N : Int)), some (.ref p), some (.int (S' : Int)), some (.int (L' : Int)), some (.int (W : Int)), some (.int (lo + (q0 : Int))), some (.int (lo + (b : Int))), some (.int (lo + (e : Int))), x10] ∧ m = e - b ∧ b ≤ e ∧ e ≤ 2 ^ 160 ∧ N < dkN fs lo (e + 1) ∧ dkN fs lo b ≤ N) (q0 + V0 - (q0 - V0)) ⟨Same.refl _, q0 - V0, q0 + V0, _, rfl, rfl, by omega, by omega, SI.1, ?_⟩ fun m σ H1 hW => ?_
    · by_cases c : V0 ≤ q0
      · exact SI.2 c
      · rw [show q0 - V0 = 0 by omega]
        exact Nat.zero_le _
    obtain ⟨s3, b, e, x10, rfl, hm, be, eb1, hi, lw⟩ := hW
    have E140 : (2 : Nat) ^ 140 ≤ 2 ^ 160 := Nat.pow_le_pow_right (by decide) (by decide)
    have E300 : 8 * (2 : Nat) ^ 160 ≤ 2 ^ 300 := Nat.le_trans (show 8 * 2 ^ 160 ≤ 2 ^ 3 * 2 ^ 160 from Nat.le_refl _) (by rw [← Nat.pow_add]; exact Nat.pow_le_pow_right (by decide) (by decide))
    generalize (2 : Nat) ^ 160 = Z160 at *
    generalize (2 : Nat) ^ 140 = Z140 at *
    walk_at "gi"
    refine ifd (fun c => ?_) (fun c => ?_)
    · refine ⟨_, fun _ _ h => h, ?_⟩
      walk_at "gi"
      refine r_rI (divw_of (by omega) (by omega)) ?_
      obtain ⟨k, hk⟩ : ∃ k : Nat, (b + e) / 2 = k := ⟨_, rfl⟩
      rw [show (lo + (b : Int) + (lo + (e : Int))) / 2 = lo + (k : Int) by omega]
      walk_at "gi"
      refine ⟨p, ws, es, lo, lo + (k : Int), rfl, s3 _ _ ep2, pmono (fun _ _ r => r.th (Same.th s3)) U2, el, eb, by omega, by omega, fun H4 s4 => ?_⟩
      rw [cntA]
      walk_at "gi"
      refine ifd (fun c2 => ?_) (fun c2 => ?_)
      · walk_at "gi"
        exact ⟨k - b, by omega, s3.trans s4, b, k, _, rfl, rfl, by omega, by omega, by omega, lw⟩
      · walk_at "gi"
        rw [show lo + (k : Int) + 1 = lo + ((k + 1 : Nat) : Int) by omega]
        exact ⟨e - (k + 1), by omega, s3.trans s4, k + 1, e, _, rfl, rfl, by omega, eb1, hi, by omega⟩
    · have ebq : e = b := by omega
      subst ebq
      have nx := dkN_next fs lo e
      walk_at "gi"
      by_cases h0 : Vf.hits fs (lo + (e : Int)) = 0
      · rw [if_pos h0] at nx
        exact q e H1 (sH.trans s3) h0 (by omega)
      · rw [if_neg h0] at nx
        omega
end
section
variable {P : Program} {w : World} {K : PySem.W.Frag} {mg : Str → Option Value} {base : Heap}
def sp_nth_dark (K : PySem.W.Frag) : Sp := fun vs H Q E => ∃ (a : Addr) (fs : List (Int × Int)) (lo : Int) (N : Nat), vs = [.ref a, .int lo, .int (N : Int)] ∧ FactsAt K H a fs ∧ Dr fs ∧ Nr lo ∧ N ≤ 10 ^ 40 ∧
  (∃ x0, Vf.litB fs x0 = false) ∧ (∀ (n : Nat) H', Same H H' → Vf.hits fs (lo + n) = 0 → dkN fs lo n = N → Q (.int (lo + n)) H')
theorem ok_nth_dark (T : Top K mg) : Ok P w K mg base 8 "nth_dark" s_nth_dark ["lamps", "number", "index"] (sp_nth_dark K) := by
  have G_check_lamps := ok_check_lamps (P := P) (w := w) (base := base) T
  have G_check_number := ok_check_number (P := P) (w := w) (base := base) T
  have G_check_index := ok_check_index (P := P) (w := w) (base := base) T
  have G_first_dark := ok_first_dark (P := P) (w := w) (base := base) T
  have G_dark_at := ok_dark_at (P := P) (w := w) (base := base) T
  refine T.d_nth_dark.ok sc_nth_dark (fun vs H Q E h => ?_) (fun f cdv A outer s H vs Q E hg hr h => ?_)
  · obtain ⟨a, fs, lo, N, rfl, _⟩ := h
    rfl
  · obtain ⟨a, fs, lo, N, rfl, hfa, hD, nx, nN, ⟨x0, hx0⟩, q2⟩ := h
    have E140 : (10 : Nat) ^ 40 ≤ 2 ^ 140 := by decide +kernel
    have a1 := nx.1
    have a2 := nx.2
    refine ⟨_, (pss_cons (ps_expr (pe_g G_check_lamps (fun _ _ F => bd_check_lamps F) hg (hr.mono (by decide)) passL (by rfl) (pa_cons (pv 0) pa_nil)))
    (pss_cons (ps_expr (pe_g G_check_number (fun _ _ F => bd_check_number F) hg (hr.mono (by decide)) passL (by rfl) (pa_cons (pv 1) pa_nil)))
    (pss_cons (ps_expr (pe_g G_check_index (fun _ _ F => bd_check_index F) hg (hr.mono (by decide)) passL (by rfl) (pa_cons (pv 2) pa_nil)))
    (pss_cons (ps_if (pt_cmpR op_isN (pe_g G_first_dark (fun _ _ F => bd_first_dark F) hg (hr.mono (by decide)) passL (by rfl) (pa_cons (pv 0) (pa_cons (pv 1) pa_nil))) pe_non (nomark _)) (pss_one ps_never) pss_nil)
    (pss_one (ps_ret (pe_g G_dark_at (fun _ _ F => bd_dark_at F) hg (hr.mono (by decide)) passL (by rfl) (pa_cons (pv 0) (pa_cons (pv 1) (pa_cons (pv 2) pa_nil)))))))))), ?_⟩
    walk_at "sti"
    refine ⟨a, fs, rfl, hfa, hD.facts, by have := hD.1; omega, fun H1 s1 => ?_⟩
    walk_at "gi"
    refine ⟨lo, rfl, nx.1, nx.2, ?_⟩
    walk_at "gi"
    refine ⟨(N : Int), rfl, by omega, by omega, ?_⟩
    walk_at "gi"
    refine ⟨a, fs, lo, rfl, hfa.tt (Same.tt s1), hD.facts.2, by have := hD.1; omega, fun all => ?_, fun j hj dk lt => ?_⟩
    · have := hD.2.win lo all x0
      rw [hx0] at this
      cases this
    · walk_at "gi"
      exact ⟨a, fs, lo, N, rfl, hfa.tt (Same.tt s1), hD, by omega, by omega, ⟨_, dk⟩, fun n H2 s2 h0 e => q2 n H2 (s1.trans s2) h0 e⟩
def sp_longest (K : PySem.W.Frag) : Sp := fun vs H Q _ => ∃ (a : Addr) (fs : List (Int × Int)), vs = [.ref a] ∧ FactsAt K H a fs ∧ Dr fs ∧ (∀ x, Vf.litB fs x = true) ∧ ∀ H', Same H H' → Q .non H'
theorem ok_longest_lit (T : Top K mg) : Ok P w K mg base 7 "longest_lit" s_longest_lit ["lamps"] (sp_longest K) := by
  have G_check_lamps := ok_check_lamps (P := P) (w := w) (base := base) T
  have G_first_dark := ok_first_dark (P := P) (w := w) (base := base) T
  refine T.d_longest_lit.ok sc_longest_lit (fun vs H Q E h => ?_) (fun f cdv A outer s H vs Q E hg hr h => ?_)
  · obtain ⟨a, fs, rfl, _⟩ := h
    rfl
  · obtain ⟨a, fs, rfl, hfa, hD, hx, q⟩ := h
    refine ⟨_, (pss_cons (ps_expr (pe_g G_check_lamps (fun _ _ F => bd_check_lamps F) hg (hr.mono (by decide)) passL (by rfl) (pa_cons (pv 0) pa_nil)))
    (pss_cons (ps_if (pt_cmpR op_isN (pe_g G_first_dark (fun _ _ F => bd_first_dark F) hg (hr.mono (by decide)) passL (by rfl) (pa_cons (pv 0) (pa_cons pe_int pa_nil))) pe_non (nomark _)) (pss_one (ps_ret pe_non)) pss_nil)
    (pss_one ps_never))), ?_⟩
    walk_at "sti"
    refine ⟨a, fs, rfl, hfa, hD.facts, hD.1, fun H1 s1 => ?_⟩
    walk_at "gi"
    refine ⟨a, fs, 0, rfl, hfa.tt (Same.tt s1), hD.facts.2, hD.1, fun all => ?_, fun j hj dk lt => ?_⟩
    · walk_at "gi"
      exact q H1 s1
    · rw [hx] at dk
      cases dk
def sp_covers (K : PySem.W.Frag) : Sp := fun vs H Q _ => ∃ (a : Addr) (fs : List (Int × Int)), vs = [.ref a] ∧ FactsAt K H a fs ∧ Dr fs ∧ ∀ H', Same H H' → ((∀ x, Vf.litB fs x = true) → Q (.bl true) H') ∧ (∀ x, Vf.litB fs x = false → Q (.bl false) H')
theorem ok_covers (T : Top K mg) : Ok P w K mg base 7 "covers" s_covers ["lamps"] (sp_covers K) := by
  have G_check_lamps := ok_check_lamps (P := P) (w := w) (base := base) T
  have G_first_dark := ok_first_dark (P := P) (w := w) (base := base) T
  refine T.d_covers.ok sc_covers (fun vs H Q E h => ?_) (fun f cdv A outer s H vs Q E hg hr h => ?_)
  · obtain ⟨a, fs, rfl, _⟩ := h
    rfl
  · obtain ⟨a, fs, rfl, hfa, hD, q⟩ := h
    refine ⟨_, (pss_cons (ps_expr (pe_g G_check_lamps (fun _ _ F => bd_check_lamps F) hg (hr.mono (by decide)) passL (by rfl) (pa_cons (pv 0) pa_nil)))
    (pss_one (ps_ret (pe_cmpR op_isN (pe_g G_first_dark (fun _ _ F => bd_first_dark F) hg (hr.mono (by decide)) passL (by rfl) (pa_cons (pv 0) (pa_cons pe_int pa_nil))) pe_non (nomark _))))), ?_⟩
    walk_at "sti"
    refine ⟨a, fs, rfl, hfa, hD.facts, hD.1, fun H1 s1 => ?_⟩
    walk_at "gi"
    refine ⟨a, fs, 0, rfl, hfa.tt (Same.tt s1), hD.facts.2, hD.1, fun all => ?_, fun j hj dk lt => ?_⟩
    · walk_at "gi"
      exact ⟨rfl, (q H1 s1).1 (hD.2.win 0 all)⟩
    · walk_at "gi"
      exact ⟨rfl, (q H1 s1).2 _ dk⟩
end
section
variable {P : Program} {w : World} {K : PySem.W.Frag} {mg : Str → Option Value} {base : Heap}
def sp_dark_from (K : PySem.W.Frag) : Sp := fun vs H Q _ => ∃ (a : Addr) (fs : List (Int × Int)) (x0 : Int), vs = [.ref a, .int x0] ∧ FactsAt K H a fs ∧ Dr fs ∧ Nr x0 ∧ ∀ H', Same H H' →
  ((∀ j : Nat, j < 2 ^ fs.length → Vf.litB fs (x0 + j) = true) → Q .non H') ∧ (∀ j : Nat, j < 2 ^ fs.length → Vf.litB fs (x0 + j) = false → (∀ i : Nat, i < j → Vf.litB fs (x0 + i) = true) → Q (.int (x0 + j)) H')
theorem ok_dark_from (T : Top K mg) : Ok P w K mg base 7 "dark_from" s_dark_from ["lamps", "number"] (sp_dark_from K) := by
  have G_check_lamps := ok_check_lamps (P := P) (w := w) (base := base) T
  have G_check_number := ok_check_number (P := P) (w := w) (base := base) T
  have G_first_dark := ok_first_dark (P := P) (w := w) (base := base) T
  refine T.d_dark_from.ok sc_dark_from (fun vs H Q E h => ?_) (fun f cdv A outer s H vs Q E hg hr h => ?_)
  · obtain ⟨a, fs, x, rfl, _⟩ := h
    rfl
  · obtain ⟨a, fs, x, rfl, hfa, hD, nx, q⟩ := h
    refine ⟨_, (pss_cons (ps_expr (pe_g G_check_lamps (fun _ _ F => bd_check_lamps F) hg (hr.mono (by decide)) passL (by rfl) (pa_cons (pv 0) pa_nil)))
    (pss_cons (ps_expr (pe_g G_check_number (fun _ _ F => bd_check_number F) hg (hr.mono (by decide)) passL (by rfl) (pa_cons (pv 1) pa_nil)))
    (pss_one (ps_ret (pe_g G_first_dark (fun _ _ F => bd_first_dark F) hg (hr.mono (by decide)) passL (by rfl) (pa_cons (pv 0) (pa_cons (pv 1) pa_nil))))))), ?_⟩
    walk_at "sti"
    refine ⟨a, fs, rfl, hfa, hD.facts, by have := hD.1; omega, fun H1 s1 => ?_⟩
    walk_at "gi"
    refine ⟨x, rfl, nx.1, nx.2, ?_⟩
    walk_at "gi"
    exact ⟨a, fs, x, rfl, hfa.tt (Same.tt s1), hD.facts.2, by have := hD.1; omega, (q H1 s1).1, (q H1 s1).2⟩
end
section
variable {P : Program} {w : World} {K : PySem.W.Frag} {mg : Str → Option Value} {base : Heap}
def exB (fs : List (Int × Int)) : Bool := (List.range (lcmAll fs)).all fun x => Vf.litN fs (x : Int) == 1
/-- how many pairs there are up to i -/
def prs (n : Nat) : Nat → Nat
  | 0 => 0
  | i + 1 => prs n i + (n - (i + 1))
theorem prs_all (n : Nat) : ∀ i, i ≤ n → 2 * (prs n i : Int) = (i : Int) * (2 * (n : Int) - i - 1)
  | 0, _ => by simp [prs]
  | i + 1, h => by
    have ih := prs_all n i (by omega)
    show 2 * ((prs n i + (n - (i + 1)) : Nat) : Int) = _
    have e : ((n - (i + 1) : Nat) : Int) = (n : Int) - i - 1 := by omega
    rw [Int.natCast_add, e, Int.mul_add, ih]
    rw [show ((i + 1 : Nat) : Int) = (i : Int) + 1 from rfl]
    generalize (n : Int) = m
    generalize (i : Int) = k
    grind
theorem qrow_all (fs : List (Int × Int)) (i : Nat) : ∀ m, (qrow fs i m).length ≤ m ∧ ((qrow fs i m).length = m ↔ ∀ j, j < m → quarB (fs.getD i (0, 1)) (fs.getD (i + 1 + j) (0, 1)) = true)
  | 0 => ⟨Nat.le_refl _, fun _ j h => absurd h (by omega), fun _ => rfl⟩
  | m + 1 => by
    obtain ⟨h1, h2⟩ := qrow_all fs i m
    rw [qrow_succ, List.length_append]
    cases c : quarB (fs.getD i (0, 1)) (fs.getD (i + 1 + m) (0, 1)) with
    | true =>
      rw [if_pos rfl, List.length_singleton]
      refine ⟨by omega, fun e j hj => ?_, fun e => ?_⟩
      · by_cases k : j = m
        · rw [k]; exact c
        · exact h2.mp (by omega) j (by omega)
      · have := h2.mpr fun j hj => e j (by omega)
        omega
    | false =>
      rw [if_neg (by decide), List.length_nil]
      refine ⟨by omega, fun e => by omega, fun e => ?_⟩
      have := e m (by omega)
      rw [c] at this
      cases this
theorem qall_all (fs : List (Int × Int)) : ∀ i, (qall fs i).length ≤ prs fs.length i ∧ ((qall fs i).length = prs fs.length i ↔ ∀ k, k < i → ∀ j, j < fs.length - (k + 1) → quarB (fs.getD k (0, 1)) (fs.getD (k + 1 + j) (0, 1)) = true)
  | 0 => ⟨Nat.le_refl _, fun _ k h => absurd h (by omega), fun _ => rfl⟩
  | i + 1 => by
    obtain ⟨h1, h2⟩ := qall_all fs i
    obtain ⟨g1, g2⟩ := qrow_all fs i (fs.length - (i + 1))
    rw [qall_succ, List.length_append]
    show _ ≤ prs fs.length i + (fs.length - (i + 1)) ∧ (_ = prs fs.length i + (fs.length - (i + 1)) ↔ _)
    refine ⟨by omega, fun e k hk => ?_, fun e => ?_⟩
    · by_cases c : k = i
      · rw [c]; exact g2.mp (by omega)
      · exact h2.mp (by omega) k (by omega)
    · have a := h2.mpr fun k hk => e k (by omega)
      have b := g2.mpr (e i (by omega))
      omega
theorem qall_quar {fs : List (Int × Int)} : (qall fs fs.length).length = prs fs.length fs.length ↔ ∀ i j, i < j → j < fs.length → Vf.quar (fs.getD i (0, 1)) (fs.getD j (0, 1)) := by
  rw [(qall_all fs fs.length).2]
  unfold quarB Vf.quar
  constructor
  · intro h i j ij hj
    have := h i (by omega) (j - (i + 1)) (by omega)
    rw [show i + 1 + (j - (i + 1)) = j by omega] at this
    intro z
    rw [decide_eq_true z] at this
    cases this
  · intro h k hk j hj
    rw [decide_eq_false (h k (k + 1 + j) (by omega) (by omega))]
    rfl
theorem exB_iff {fs : List (Int × Int)} (hf : ∀ p ∈ fs, Fact p) : exB fs = true ↔ (qall fs fs.length).length = prs fs.length fs.length ∧ (fs.map fun o => (lcmAll fs : Int) / o.2).sum = (lcmAll fs : Int) := by
  rw [qall_quar, ← Vf.exact_iff hf]
  unfold exB
  rw [List.all_eq_true]
  constructor
  · intro h x hx
    exact eq_of_beq (h x (List.mem_range.mpr hx))
  · intro h x hx
    rw [h x (List.mem_range.mp hx)]
    rfl
def sp_exact (K : PySem.W.Frag) : Sp := fun vs H Q _ => ∃ (a : Addr) (fs : List (Int × Int)), vs = [.ref a] ∧ FactsAt K H a fs ∧ Dr fs ∧ ∀ H', Same H H' → Q (.bl (exB fs)) H'
theorem ok_are_exact (T : Top K mg) : Ok P w K mg base 7 "are_exact" s_are_exact ["lamps"] (sp_exact K) := by
  have G_check_lamps := ok_check_lamps (P := P) (w := w) (base := base) T
  have G_quarrelling_pairs := ok_quarrelling_pairs (P := P) (w := w) (base := base) T
  have G_common_base := ok_common_base (P := P) (w := w) (base := base) T
  refine T.d_are_exact.ok sc_are_exact (fun vs H Q E h => ?_) (fun f cdv A outer s H vs Q E hg hr h => ?_)
  · obtain ⟨a, fs, rfl, _⟩ := h
    rfl
  · obtain ⟨a, fs, rfl, hfa, dr, q⟩ := h
    have hl := dr.1
    have ex := exB_iff dr.facts.2
    have lL := dr.lcm
    have l0 := dr.pos
    refine ⟨_, (pss_cons (ps_expr (pe_g G_check_lamps (fun _ _ F => bd_check_lamps F) hg (hr.mono (by decide)) passL (by rfl) (pa_cons (pv 0) pa_nil)))
    (pss_cons (ps_set (i := 1) sc_are_exact.nd rfl (.inl rfl) (pe_callB (id := "len") (c_len rfl) (by rfl) T.b_len (by decide +kernel) (pa_cons (pv 0) pa_nil)))
    (pss_cons (ps_if (pt_cmpR op_lt (pe_callB (id := "len") (c_len rfl) (by rfl) T.b_len (by decide +kernel) (pa_cons (pe_g G_quarrelling_pairs (fun _ _ F => bd_quarrelling_pairs F) hg (hr.mono (by decide)) passL (by rfl) (pa_cons (pv 0) pa_nil)) pa_nil)) (pe_op op_fdivW (pe_op op_mulX (pv 1) (pe_op op_sub (pv 1) pe_int)) pe_int) (nomark _)) (pss_one (ps_ret pe_bl)) pss_nil)
    (pss_cons (ps_set (i := 2) sc_are_exact.nd rfl (.inr rfl) (pe_g G_common_base (fun _ _ F => bd_common_base F) hg (hr.mono (by decide)) passL (by rfl) (pa_cons (pv 0) pa_nil)))
    (pss_one (ps_ret (pe_cmpR op_eqZ (pe_callB (id := "sum") (c_sum rfl rfl) (by rfl) T.b_sum (by decide +kernel) (pa_cons (pe_lc (own := [("_", 3), ("base", 4)]) (by rfl) sc_are_exact.nd (i_tup' rfl (pv 0)) (blkOk_by (own := [("_", 3), ("base", 4)]) (N := ["lamps", "many", "whole", "_", "base"]) (sc := defScope s_are_exact) (by decide +kernel)) (fun _ _ _ _ _ => (g_tup (n := 2) rfl rfl (pgs_cons (pg_name (i := 3) sc_are_exact.nd rfl (by first | exact Or.inl rfl | exact Or.inr rfl)) (pgs_cons (pg_name (i := 4) sc_are_exact.nd rfl (by first | exact Or.inl rfl | exact Or.inr rfl)) pgs_nil)) rfl rfl)) (fun _ _ _ _ _ => pts_nil) (fun _ _ _ _ _ => (pe_op op_fdivW (pv 2) (pv 4)))) pa_nil)) (pv 2) (nomark _)))))))), ?_⟩
    walk_at "sti"
    refine ⟨a, fs, rfl, hfa, dr.facts, by omega, fun H1 s1 => ?_⟩
    obtain ⟨vs, sv, pvs⟩ := hfa.tt (Same.tt s1)
    have ev := pvs.length
    walk_at "gi"
    rw [ev]
    refine ⟨a, fs, rfl, ⟨vs, sv, pvs⟩, dr.facts, fun p2 ws H2 s2 n2 e2 pw => ?_⟩
    have lw := pw.length
    have le := (qall_all fs fs.length).1
    have pr := prs_all fs.length fs.length (Nat.le_refl _)
    rw [show 2 * (fs.length : Int) - fs.length - 1 = (fs.length : Int) - 1 by omega] at pr
    walk_at "gi"
    refine r_rI (bit_mul (a := 7) (b := 7) (bit_of (by omega)) (bit_of (by omega)) (by decide)) ?_
    walk_at "gi"
    refine r_rI (divw_of (by omega) (by omega)) ?_
    walk_at "gi"
    rw [← pr, Int.mul_ediv_cancel_left _ (by decide), lw]
    have hfa2 : FactsAt K H2 a fs := hfa.tt (Same.tt (s1.trans s2))
    obtain ⟨vs2, sv2, pvs2⟩ := id hfa2
    have ev2 := pvs2.length
    refine ifd (fun c => ?_) (fun c => ?_)
    · walk_at "gi"
      have z := q H2 (s1.trans s2)
      rw [show exB fs = false by
        cases h : exB fs with
        | false => rfl
        | true =>
          have := (ex.mp h).1
          omega] at z
      exact z
    · walk_at "gi"
      refine ⟨a, fs, rfl, hfa2, dr.facts, ?_⟩
      walk_at "gi"
      refine r_lcTs vs2 (fun D i H3 => Same H2 H3 ∧ H3 D = some (.lst (((fs.take i).map fun o => (lcmAll fs : Int) / o.2).map V.int))) (fun D hD => ⟨Same.new hD, upd_same⟩) (fun D i H3 hD hi hP => Same.tup hP.1 sv2) (fun D i v H3 hD hi hP => ?_) (fun D H3 hD hP => ?_)
      · obtain ⟨s3, d3⟩ := hP
        obtain ⟨o, ho, t, rfl, st⟩ := pvs2.get hi
        have ob := dr.b o (List.mem_of_getElem? ho)
        have il : i < fs.length := (List.getElem?_eq_some_iff.mp ho).1
        refine r_gtup (Same.tup s3 st) rfl ?_
        walk_at "gi"
        refine ⟨rfl, ?_⟩
        walk_at "gi"
        refine r_rI (divw_of (by omega) (by omega)) ?_
        refine ⟨_, d3, Nat.lt_of_le_of_lt (show _ ≤ 12 by rw [List.length_map, List.length_map, List.length_take]; omega) (by decide), fun b o e => ?_, ?_⟩
        · rw [upd_ne (ne_of_none e hD)]
          exact s3 _ _ e
        · rw [take_one ho, List.map_append, List.map_append]
          exact upd_same
      obtain ⟨s3, d3⟩ := hP
      rw [List.take_of_length_le (by omega)] at d3
      walk_at "gi"
      refine ⟨D, _, rfl, SqL.of d3, ?_⟩
      walk_at "gi"
      have z := q H3 ((s1.trans s2).trans s3)
      rw [show exB fs = decide ((fs.map fun o => (lcmAll fs : Int) / o.2).sum = (lcmAll fs : Int)) by
        rw [Bool.eq_iff_iff, ex, decide_eq_true_eq]
        exact ⟨fun h => h.2, fun h => ⟨by omega, h⟩⟩] at z
      exact z
def sp_need (K : PySem.W.Frag) : Sp := fun vs H Q _ => ∃ (a : Addr) (fs : List (Int × Int)) (i : Nat), vs = [.ref a, .int (i : Int)] ∧ FactsAt K H a fs ∧ Dr fs ∧ i < fs.length ∧ Vf.litB (Vf.less fs i) (fs.getD i (0, 1)).1 = false ∧ ∀ H', Same H H' → Q (.bl false) H'
theorem ok__is_needless (T : Top K mg) : Ok P w K mg base 4 "_is_needless" s__is_needless ["lamps", "index"] (sp_need K) := by
  have G_is_lit_along := ok_is_lit_along (P := P) (w := w) (base := base) T
  refine T.d__is_needless.ok sc__is_needless (fun vs H Q E h => ?_) (fun f cdv A outer s H vs Q E hg hr h => ?_)
  · obtain ⟨a, fs, i, rfl, _⟩ := h
    rfl
  · obtain ⟨a, fs, i, rfl, ⟨vs, sv, pvs⟩, dr, il, dk, q⟩ := h
    have ev := pvs.length
    have hl := dr.1
    have ho : fs[i]? = some (fs.getD i (0, 1)) := by
      rw [List.getD_eq_getElem?_getD, List.getElem?_eq_getElem il]
      rfl
    have ob := dr.b _ (List.mem_of_getElem? ho)
    refine ⟨_, (pss_one (ps_ret (pe_g G_is_lit_along (fun _ _ F => bd_is_lit_along F) hg (hr.mono (by decide)) passL (by rfl) (pa_cons (pe_op (o_catA rfl) (pe_slice (s_tupA rfl) (pv 0) po_none (po_some (pv 1))) (pe_slice (s_tupA rfl) (pv 0) (po_some (pe_op op_add (pv 1) pe_int)) po_none)) (pa_cons (pe_ix (x_tup rfl) (pv 0) (pv 1) (fun _ _ => rfl)) pa_nil))))), ?_⟩
    walk_at "sti"
    refine r_slA sv fun c1 H1 s1 e1 => ?_
    rw [cut_til] at e1
    walk_at "gi"
    rw [show ((i : Int) + 1) = ((i + 1 : Nat) : Int) from rfl]
    refine r_slA (Same.tup s1 sv) fun c2 H2 s2 e2 => ?_
    rw [cut_from (by omega)] at e2
    walk_at "gi"
    refine r_catA (Same.tup s2 e1) e2 (by rw [List.length_take, List.length_drop]; omega) fun c3 H3 s3 e3 => ?_
    have s13 := s1.trans (s2.trans s3)
    walk_at "gi"
    obtain ⟨v, hv, pv⟩ := pairs_at pvs ho
    refine r_ixT (Same.tup s13 sv) (atI_nat hv) ?_
    have eo : fs.getD i (0, 1) = ((fs.getD i (0, 1)).1, (((fs.getD i (0, 1)).2.natAbs : Nat) : Int)) := Prod.ext rfl (show (fs.getD i (0, 1)).2 = (((fs.getD i (0, 1)).2.natAbs : Nat) : Int) by omega)
    refine ⟨c3, Vf.less fs i, v, (fs.getD i (0, 1)).1, (fs.getD i (0, 1)).2.natAbs, rfl, ⟨_, e3, PairsAt.append (pairs_take i (pvs.tt (Same.tt s13))) (pairs_drop (i + 1) (pvs.tt (Same.tt s13)))⟩, (fun p hp => dr.facts.2 p (Vf.less_sub fs i p hp)), ?_, by rw [← eo]; exact pv.tt (Same.tt s13), by omega, by omega, by omega, by omega, ?_⟩
    · show (fs.take i ++ fs.drop (i + 1)).length ≤ 12
      rw [List.length_append, List.length_take, List.length_drop]
      omega
    · rw [decide_eq_false (fun z => by
        have := z 0 (Nat.two_pow_pos _)
        rw [show (fs.getD i (0, 1)).1 + (((fs.getD i (0, 1)).2.natAbs : Nat) : Int) * ((0 : Nat) : Int) = (fs.getD i (0, 1)).1 by rw [Int.natCast_zero, Int.mul_zero, Int.add_zero], dk] at this
        cases this)]
      exact q _ s13
def sp_nll (K : PySem.W.Frag) : Sp := fun vs H Q _ => ∃ (a : Addr) (fs : List (Int × Int)), vs = [.ref a] ∧ FactsAt K H a fs ∧ Dr fs ∧ (∀ i, i < fs.length → Vf.litB (Vf.less fs i) (fs.getD i (0, 1)).1 = false) ∧ NewT [] H Q
theorem ok_needless_lamps (T : Top K mg) : Ok P w K mg base 7 "needless_lamps" s_needless_lamps ["lamps"] (sp_nll K) := by
  have G_check_lamps := ok_check_lamps (P := P) (w := w) (base := base) T
  have G__is_needless := ok__is_needless (P := P) (w := w) (base := base) T
  refine T.d_needless_lamps.ok sc_needless_lamps (fun vs H Q E h => ?_) (fun f cdv A outer s H vs Q E hg hr h => ?_)
  · obtain ⟨a, fs, rfl, _⟩ := h
    rfl
  · obtain ⟨a, fs, rfl, hfa, dr, dk, q⟩ := h
    have hl := dr.1
    refine ⟨_, (pss_cons (ps_expr (pe_g G_check_lamps (fun _ _ F => bd_check_lamps F) hg (hr.mono (by decide)) passL (by rfl) (pa_cons (pv 0) pa_nil)))
    (pss_one (ps_ret (pe_callTy (T := "tuple") (c_tuple rfl) (by rfl) T.b_tuple (by decide +kernel) (pa_cons (pe_lc (own := [("index", 1)]) (by rfl) sc_needless_lamps.nd (pi_range1 (by rfl) T.b_range (pa_cons (pe_callB (id := "len") (c_len rfl) (by rfl) T.b_len (by decide +kernel) (pa_cons (pv 0) pa_nil)) pa_nil)) (blkOk_by (own := [("index", 1)]) (N := ["lamps", "index"]) (sc := defScope s_needless_lamps) (by decide +kernel)) (fun _ _ _ _ _ => (pg_name (i := 1) sc_needless_lamps.nd rfl (by first | exact Or.inl rfl | exact Or.inr rfl))) (fun _ _ _ _ _ => (pts_one (pt_val (pe_g G__is_needless (fun _ _ F => bd__is_needless F) hg (hr.mono (by decide)) passL (by rfl) (pa_cons (pv 0) (pa_cons (pv 1) pa_nil)))))) (fun _ _ _ _ _ => (pv 1))) pa_nil))))), ?_⟩
    walk_at "sti"
    refine ⟨a, fs, rfl, hfa, dr.facts, by omega, fun H1 s1 => ?_⟩
    have hfa1 := hfa.tt (Same.tt s1)
    obtain ⟨vs, sv, pvs⟩ := id hfa1
    have ev := pvs.length
    walk_at "gi"
    rw [ev]
    refine ⟨by omega, by omega, ?_⟩
    rw [Int.toNat_natCast]
    refine r_lcR (fun D i H' => Same H1 H' ∧ H' D = some (.lst [])) (fun D hD => ⟨Same.new hD, upd_same⟩) (fun D i H' hD hi hP => ?_) (fun D H' hD hP => ?_)
    · obtain ⟨s3, d3⟩ := hP
      walk_at "gi"
      refine ⟨rfl, ?_⟩
      walk_at "gi"
      rw [Int.zero_add] at *
      refine ⟨a, fs, i, rfl, hfa1.tt (Same.tt s3), dr, hi, dk i hi, fun H3 s4 => ?_⟩
      walk_at "gi"
      exact ⟨s3.trans s4, s4 _ _ d3⟩
    obtain ⟨s3, d3⟩ := hP
    walk_at "gi"
    refine r_tupL (SqL.of d3) fun p hp => ?_
    have sA := s1.trans s3
    exact q p _ (sA.trans (Same.new hp)) (none_same sA hp) upd_same
end
section
open LamX
variable {P : Program} {w : World} {K : PySem.W.Frag} {mg : Str → Option Value} {base : Heap}
/-! ### the least sets that hold -/
def lsK (K : PySem.W.Frag) : List (Addr × Str) := [((tabP K "least_sets").2, lamQ "least_sets")]
def lessB (n : Nat) (hB : Nat → Bool) (a : Nat) : Bool := hB a && !((Vf.bitsL n a).any fun i => hB (a - 2 ^ i))
def lrows (n m : Nat) (hB : Nat → Bool) : List (List Int) := ((List.range m).filter (lessB n hB)).map fun a => nint (Vf.bitsL n a)
def sp_lsets (K : PySem.W.Frag) : Sp := fun vs H Q _ => ∃ (a : Addr) (n : Nat) (hB : Nat → Bool), vs = [.ref a, .int (n : Int)] ∧ n ≤ 12 ∧ SqL K H a (((List.range (2 ^ n)).map hB).map V.bl) ∧ Tabs (lsK K) H ∧
  ∀ p ys H', ExtN H H' → Tabs (lsK K) H' → (∀ o, H p = some o → ∃ ps, o = .tbl ps) → H' p = some (.tup ys) → RowsAt K H' ys ((lrows n (2 ^ n) hB).mergeSort leK) → Q (.ref p) H'
theorem ok_least_sets (T : Top K mg) (hTB : LamX.TabB base mg (tabP K "least_sets").1 (tabP K "least_sets").2) : Ok P w K mg base 2 "least_sets" s_least_sets ["holds", "many"] (sp_lsets K) := by
  have G_index_sets := ok_index_sets (P := P) (w := w) (base := base) T
  obtain ⟨c, P0, hat, htab⟩ := T.d_least_sets
  have tp := tabP_eq htab
  refine hat.ok sc_least_sets (fun vs H Q E h => ?_) (fun f A outer s H vs Q E hg hr h => ?_)
  · obtain ⟨a, n, hB, rfl, _⟩ := h
    rfl
  · obtain ⟨a, n, hB, rfl, hn, ha, hT, q⟩ := h
    rw [tp] at hTB
    have TB := hTB
    have tj : lsK K = [(P0, lamQ "least_sets")] := by unfold lsK; rw [tp]
    have hmT : (P0, lamQ "least_sets") ∈ lsK K := by rw [tj]; exact List.mem_singleton.mpr rfl
    have hTu : ∀ p ∈ lsK K, p.1 = P0 → p.2 = lamQ "least_sets" := fun p hp _ => by rw [tj] at hp; rw [List.mem_singleton.mp hp]
    have l2 := pow12 hn
    refine ⟨_, (pss_cons (ps_set (i := 2) sc_least_sets.nd rfl (.inl rfl) (pe_lst pa_nil))
    (pss_cons (ps_for (passes_of rfl) rfl (pi_enum (by rfl) T.b_enumerate (pa_cons (pe_g G_index_sets (fun _ _ F => bd_index_sets F) hg (hr.mono (by decide)) passL (by rfl) (pa_cons (pv 1) pa_nil)) pa_nil)) (g_tup rfl rfl (pgs_cons (pg_name (i := 3) sc_least_sets.nd rfl (.inr rfl)) (pgs_cons (pg_name (i := 4) sc_least_sets.nd rfl (.inl rfl)) pgs_nil)) rfl rfl) (pss_one (ps_if (PW.pt (pw_and (pt_truth (pe_ix (x_list rfl) (pv 0) (pv 3) (fun _ _ => rfl)) (by intro _; rfl)) (pw_and1 (pt_not (pt_val (pe_callB (id := "any") (c_any rfl rfl) (by rfl) T.b_any (by decide +kernel) (pa_cons (pe_lc (own := [("index", 5)]) (by rfl) sc_least_sets.nd (i_tup' rfl (pv 4)) (blkOk_by (own := [("index", 5)]) (N := ["holds", "many", "least", "at", "indexes", "index"]) (sc := defScope s_least_sets) (by decide +kernel)) (fun _ _ _ _ _ => (pg_name (i := 5) sc_least_sets.nd rfl (by first | exact Or.inl rfl | exact Or.inr rfl))) (fun _ _ _ _ _ => pts_nil) (fun _ _ _ _ _ => (pe_ix (x_list rfl) (pv 0) (pe_op op_sub (pv 3) (pe_op op_shlW pe_int (pv 5))) (fun _ _ => rfl)))) pa_nil))))))) (pss_one (ps_expr (pe_bm PySem.F.plainAttrs_list PySem.F.slot_list_append PySem.F.type_list_append mt_append (pv 2) (pa_cons (pv 4) pa_nil)))) pss_nil)))
    (pss_one (ps_ret (pe_callTy (T := "tuple") (c_tuple rfl) (by rfl) T.b_tuple (by decide +kernel) (pa_cons (pe_sortKey rfl hr.units hr.depth (by rfl) T.b_sorted T.b_len TB rfl hmT hTu rfl (by first | exact Or.inl rfl | exact Or.inr rfl) (by decide) rfl rfl rfl (fun _ _ _ _ _ => rfl) rfl (pa_cons (pv 2) pa_nil)) pa_nil)))))), ?_⟩
    walk_at "sti"
    rename_i D hD
    have s0 := Same.new hD (o := .lst [])
    refine r_forEi ?_
    walk_at "gi"
    refine ⟨n, rfl, hn, fun pi wi H1 s1 ni ei R => ?_⟩
    have li := RowsAt.len R
    rw [List.length_map, Vf.lots_len] at li
    walk_at "gi"
    have s01 := s0.trans s1
    have eD : H1 D = some (.lst []) := s1 _ _ upd_same
    have nDi : pi ≠ D := fun z => by rw [z, upd_same] at ni; cases ni
    refine ⟨pi, wi, rfl, SqL.of ei, ?_⟩
    refine r_forEnL wi (fun i σ H' => ∃ x3 x4 x5 ws, σ = [some (.ref a), some (.int (n : Int)), some (.ref D), x3, x4, x5] ∧ Same H H' ∧ Kx D H1 H' ∧ H' D = some (.lst ws) ∧ RowsAt K H' ws (lrows n i hB))
      ⟨_, _, _, [], rfl, s01, Kx.refl _, eD, .nil⟩ (fun i σ H' hi hP => ?_) (fun i x σ H' T hx hP hT => ?_) (fun σ H' hP => ?_)
    · obtain ⟨x3, x4, x5, ws, rfl, _, kx, _⟩ := hP
      exact SqL.of (kx _ _ nDi ei)
    · obtain ⟨x3, x4, x5, ws, rfl, sH, kx, e3, R3⟩ := hP
      have il : i < 2 ^ n := by
        have := (List.getElem?_eq_some_iff.mp hx).1
        omega
      obtain ⟨y, hy, tx, rfl, stx⟩ := pget R hx
      rw [List.getElem?_map, Vf.lots, List.getElem?_map, List.getElem?_range il] at hy
      have hy := Option.some.inj hy
      subst hy
      have sT := Same.new hT (o := .tup [.int (i : Nat), .ref tx])
      have stx2 : SqT K (upd H' T (.tup [.int (i : Nat), .ref tx])) tx ((nint (Vf.bitsL n i)).map V.int) := Same.tup sT (kx.tupI eD stx)
      have ha2 := Same.list (sH.trans sT) ha
      have hat : ∀ j : Nat, j < 2 ^ n → (((List.range (2 ^ n)).map hB).map V.bl)[j]? = some (V.bl (hB j)) := fun j hj => by
        rw [List.getElem?_map, List.getElem?_map, List.getElem?_range hj]
        rfl
      have eD3 := sT _ _ e3
      have lw := RowsAt.len R3
      have lw2 : (lrows n i hB).length ≤ 4096 := by
        unfold lrows
        rw [List.length_map]
        have h2 := List.length_filter_le (lessB n hB) (List.range i)
        rw [List.length_range] at h2
        omega
      have ef : lrows n (i + 1) hB = lrows n i hB ++ (if lessB n hB i = true then [nint (Vf.bitsL n i)] else []) := by
        unfold lrows
        rw [List.range_succ, List.filter_append, List.filter_cons, List.filter_nil, List.map_append]
        cases lessB n hB i <;> rfl
      have kx2 : Kx D H1 (upd H' T (.tup [.int (i : Nat), .ref tx])) := kx.same sT
      refine r_gtup (SqT.of upd_same) rfl ?_
      walk_at "gi"
      refine r_ixL ha2 (atI_nat (hat i il)) ?_
      refine ⟨_, rfl, ?_⟩
      cases hh : hB i with
      | false =>
        walk_at "gi"
        refine ⟨_, _, _, ws, rfl, sH.trans sT, kx2, eD3, ?_⟩
        rw [ef, if_neg (by unfold lessB; rw [hh]; exact Bool.false_ne_true), List.append_nil]
        exact RowsAt.same R3 sT
      | true =>
        walk_at "gi"
        refine r_lcTs ((nint (Vf.bitsL n i)).map V.int) (fun E j H4 => Same (upd H' T (.tup [.int (i : Nat), .ref tx])) H4 ∧ H4 E = some (.lst ((((Vf.bitsL n i).take j).map fun m => hB (i - 2 ^ m)).map V.bl))) (fun E hE => ⟨Same.new hE, upd_same⟩) (fun E j H4 hE hj hP => Same.tup hP.1 stx2) (fun E j v H4 hE hv hP => ?_) (fun E H4 hE hP => ?_)
        · obtain ⟨s4, e4⟩ := hP
          obtain ⟨m, hm, rfl⟩ : ∃ m, (Vf.bitsL n i)[j]? = some m ∧ V.int (m : Int) = v := by
            rw [nint, List.map_map, List.getElem?_map] at hv
            cases h9 : (Vf.bitsL n i)[j]? with
            | none => rw [h9] at hv; cases hv
            | some m => rw [h9] at hv; exact ⟨m, rfl, Option.some.inj hv⟩
          obtain ⟨mn, mt⟩ := Vf.mem_bitsL.mp (List.mem_of_getElem? hm)
          have m2 : 2 ^ m ≤ i := Nat.ge_two_pow_of_testBit mt
          walk_at "go"
          refine ⟨rfl, ?_⟩
          walk_at "go"
          refine r_rI ⟨by omega, ?_⟩ ?_
          · have b1 : Builtin.Int.intBits 1 ≤ 64 := bit_of (by decide)
            omega
          walk_at "go"
          rw [show (i : Int) - 1 * 2 ^ ((m : Nat) : Int).toNat = ((i - 2 ^ m : Nat) : Int) by
            rw [Int.toNat_natCast, Int.one_mul, Int.natCast_sub m2, Int.natCast_pow]
            rfl]
          refine r_ixL (Same.list s4 ha2) (atI_nat (hat (i - 2 ^ m) (Nat.lt_of_le_of_lt (Nat.sub_le _ _) il))) ?_
          refine ⟨_, e4, Nat.lt_of_le_of_lt (show _ ≤ 4096 by rw [List.length_map, List.length_map]; have := List.length_take_le' j (Vf.bitsL n i); have := Vf.bitsL_len n i; omega) (by decide), fun b o e => ?_, ?_⟩
          · rw [upd_ne (ne_of_none e hE)]
            exact s4 _ _ e
          · rw [take_one hm, List.map_append, List.map_append]
            exact upd_same
        obtain ⟨s4, e4⟩ := hP
        rw [List.length_map, nint, List.length_map, List.take_length] at e4
        walk_at "gi"
        refine r_any (SqL.of e4) ?_
        have an : (((Vf.bitsL n i).map fun m => hB (i - 2 ^ m)).any id) = ((Vf.bitsL n i).any fun m => hB (i - 2 ^ m)) := by
          rw [List.any_map]
          rfl
        rw [an]
        have lb : lessB n hB i = !((Vf.bitsL n i).any fun m => hB (i - 2 ^ m)) := by
          unfold lessB
          rw [hh, Bool.true_and]
        cases hq : (Vf.bitsL n i).any fun m => hB (i - 2 ^ m) with
        | true =>
          rw [hq] at lb
          walk_at "gi"
          refine ⟨_, _, _, ws, rfl, (sH.trans sT).trans s4, kx2.same s4, s4 _ _ eD3, ?_⟩
          rw [ef, if_neg (by rw [lb]; exact Bool.false_ne_true), List.append_nil]
          exact RowsAt.same R3 (sT.trans s4)
        | false =>
          rw [hq] at lb
          walk_at "gi"
          refine ⟨.inl ⟨rfl, _, SqL.of (s4 _ _ eD3)⟩, ?_⟩
          walk_at "gi"
          refine r_app (s4 _ _ eD3) (by omega) ?_
          walk_at "gi"
          refine ⟨_, _, _, ws ++ [.ref tx], rfl, fun b o e => ?_, (kx2.same s4).trans Kx.upd, upd_same, ?_⟩
          · rw [upd_ne (ne_of_none e hD)]
            exact ((sH.trans sT).trans s4) _ _ e
          · rw [ef, if_pos (show lessB n hB i = true by rw [lb]; rfl)]
            refine papp (pmono (fun _ _ ⟨t, h1, h2⟩ => ⟨t, h1, upd_tt (s4 _ _ eD3) K _ _ h2⟩) (RowsAt.same R3 (sT.trans s4))) (.cons ⟨tx, rfl, upd_tt (s4 _ _ eD3) K _ _ (Same.tup s4 stx2)⟩ .nil)
    · obtain ⟨x3, x4, x5, ws, rfl, sH, kx, e3, R3⟩ := hP
      walk_at "gi"
      rw [li] at R3
      unfold tSortKey
      walk_at "gi"
      have l4 : (lrows n (2 ^ n) hB).length ≤ 4096 := by
        unfold lrows
        rw [List.length_map]
        have h2 := List.length_filter_le (lessB n hB) (List.range (2 ^ n))
        rw [List.length_range] at h2
        omega
      refine ⟨Tabs.ext hT sH, D, ws, _, rfl, SqL.of e3, R3, by omega, fun ns hns => ?_, fun ys p H2 eN T2 np e2 R2 => ?_⟩
      · unfold lrows at hns
        obtain ⟨b, _, rfl⟩ := List.mem_map.mp hns
        rw [nint, List.length_map]
        have := Vf.bitsL_len n b
        omega
      · walk_at "gi"
        refine r_tupL (SqL.of e2) fun p2 hp2 => ?_
        have eH := ExtN.trans (ExtN.of sH) eN
        refine q p2 ys _ (ExtN.trans eH (ExtN.of (Same.new hp2))) (Tabs.ext T2 (Same.new hp2)) (fun o ho => ?_) upd_same (RowsAt.same R2 (Same.new hp2))
        by_cases ht : ∃ ps, o = .tbl ps
        · exact ht
        · have z := eH _ _ ho fun ps z => ht ⟨ps, z⟩
          rw [hp2] at z
          cases z
end
section
open LamX
variable {P : Program} {w : World} {K : PySem.W.Frag} {mg : Str → Option Value} {base : Heap}
/-! ### least covers -/
def sp_places (K : PySem.W.Frag) : Sp := fun vs H Q _ => ∃ (v : V) (p : Int × Int) (W : Nat), vs = [v, .int (W : Int)] ∧ PairAt K H v p ∧ 0 < p.2 ∧ W ≤ 4096 ∧ Q (.int ((Vf.plN p W : Nat) : Int)) H
theorem ok__lit_places (T : Top K mg) : Ok P w K mg base 2 "_lit_places" s__lit_places ["lamp", "window"] (sp_places K) := by
  have G_is_fitting := ok_is_fitting (P := P) (w := w) (base := base) T
  refine T.d__lit_places.ok sc__lit_places (fun vs H Q E h => ?_) (fun f cdv A outer s H vs Q E hg hr h => ?_)
  · obtain ⟨v, p, W, rfl, _⟩ := h
    rfl
  · obtain ⟨v, p, W, rfl, pp, p0, w4, q⟩ := h
    refine ⟨_, (pss_cons (ps_set (i := 2) sc__lit_places.nd rfl (.inl rfl) pe_int)
    (pss_cons (ps_for (passes_of rfl) rfl (pi_range1 (by rfl) T.b_range (pa_cons (pv 1) pa_nil)) (pg_name (i := 3) sc__lit_places.nd rfl (.inl rfl)) (pss_one (ps_if (pt_val (pe_g G_is_fitting (fun _ _ F => bd_is_fitting F) hg (hr.mono (by decide)) passL (by rfl) (pa_cons (pv 3) (pa_cons (pv 0) pa_nil)))) (pss_one (ps_aug (i := 2) sc__lit_places.nd rfl (.inl rfl) (pe_op op_shlW pe_int (pv 3)) ip_or)) pss_nil)))
    (pss_one (ps_ret (pv 2))))), ?_⟩
    walk_at "sti"
    refine ⟨by omega, by omega, ?_⟩
    rw [Int.toNat_natCast]
    refine r_forR (fun i σ H' => H' = H ∧ ∃ x3, σ = [some v, some (.int (W : Int)), some (.int ((Vf.plN p i : Nat) : Int)), x3]) ⟨rfl, _, rfl⟩ (fun i σ H' hi hP => ?_) (fun σ H' hP => ?_)
    · obtain ⟨rfl, x3, rfl⟩ := hP
      have ei : Vf.plN p (i + 1) = if decide (((i : Int) - p.1) % p.2 = 0) = true then Vf.plN p i ||| 2 ^ i else Vf.plN p i := rfl
      rw [Int.zero_add]
      walk_at "gi"
      refine ⟨(i : Int), v, p, rfl, pp, p0, ?_⟩
      refine ⟨_, rfl, ?_⟩
      refine ifd (fun c => ?_) (fun c => ?_)
      · rw [if_pos (decide_eq_true c)] at ei
        walk_at "gi"
        refine r_rI (shl_ok (n := 1) (by decide) (by omega)) ?_
        rw [Int.one_mul, Int.toNat_natCast]
        walk_at "gi"
        rw [show ((2 : Int) ^ i) = ((2 ^ i : Nat) : Int) from (Int.natCast_pow 2 i).symm, bor_nat]
        rw [ei]
        exact ⟨rfl, _, rfl⟩
      · rw [if_neg (by rw [decide_eq_false c]; decide)] at ei
        walk_at "gi"
        rw [ei]
        exact ⟨rfl, _, rfl⟩
    · obtain ⟨rfl, x3, rfl⟩ := hP
      walk_at "gi"
      exact q
def cvB (fs : List (Int × Int)) (s : Nat) : Bool := decide (Vf.msk fs (2 ^ fs.length) fs.length s = 2 ^ (2 ^ fs.length) - 1)
def sp_lcov (K : PySem.W.Frag) : Sp := fun vs H Q _ => ∃ (a : Addr) (fs : List (Int × Int)), vs = [.ref a] ∧ FactsAt K H a fs ∧ Dr fs ∧ Tabs (lsK K) H ∧
  ∀ r ys H', ExtN H H' → Tabs (lsK K) H' → (∀ o, H r = some o → ∃ ps, o = .tbl ps) → H' r = some (.tup ys) → RowsAt K H' ys ((lrows fs.length (2 ^ fs.length) (cvB fs)).mergeSort leK) → Q (.ref r) H'
theorem ok_least_covers (T : Top K mg) (hTB : LamX.TabB base mg (tabP K "least_sets").1 (tabP K "least_sets").2) : Ok P w K mg base 7 "least_covers" s_least_covers ["lamps"] (sp_lcov K) := by
  have G_check_lamps := ok_check_lamps (P := P) (w := w) (base := base) T
  have G_window_of := ok_window_of (P := P) (w := w) (base := base) T
  have G__lit_places := ok__lit_places (P := P) (w := w) (base := base) T
  have G_least_sets := ok_least_sets (P := P) (w := w) (base := base) T hTB
  refine T.d_least_covers.ok sc_least_covers (fun vs H Q E h => ?_) (fun f cdv A outer s H vs Q E hg hr h => ?_)
  · obtain ⟨a, fs, rfl, _⟩ := h
    rfl
  · obtain ⟨a, fs, rfl, hfa, dr, hT, q⟩ := h
    have hl := dr.1
    have l2 := pow12 (k := fs.length) (by omega)
    refine ⟨_, (pss_cons (ps_expr (pe_g G_check_lamps (fun _ _ F => bd_check_lamps F) hg (hr.mono (by decide)) passL (by rfl) (pa_cons (pv 0) pa_nil)))
    (pss_cons (ps_set (i := 1) sc_least_covers.nd rfl (.inl rfl) (pe_g G_window_of (fun _ _ F => bd_window_of F) hg (hr.mono (by decide)) passL (by rfl) (pa_cons (pv 0) pa_nil)))
    (pss_cons (ps_set (i := 2) sc_least_covers.nd rfl (.inl rfl) (pe_lst (pa_cons pe_int pa_nil)))
    (pss_cons (ps_for (passes_of rfl) rfl (i_tup' rfl (pv 0)) (pg_name (i := 3) sc_least_covers.nd rfl (.inl rfl)) (pss_cons (ps_set (i := 4) sc_least_covers.nd rfl (.inr rfl) (pe_g G__lit_places (fun _ _ F => bd__lit_places F) hg (hr.mono (by decide)) passL (by rfl) (pa_cons (pv 3) (pa_cons (pv 1) pa_nil))))
    (pss_one (ps_set (i := 2) sc_least_covers.nd rfl (.inl rfl) (pe_op op_cat (pv 2) (pe_lc (own := [("old", 6)]) (by rfl) sc_least_covers.nd (i_list rfl (pv 2)) (blkOk_by (own := [("old", 6)]) (N := ["lamps", "window", "lit", "lamp", "places", "everywhere", "old"]) (sc := defScope s_least_covers) (by decide +kernel)) (fun _ _ _ _ _ => (pg_name (i := 6) sc_least_covers.nd rfl (by first | exact Or.inl rfl | exact Or.inr rfl))) (fun _ _ _ _ _ => pts_nil) (fun _ _ _ _ _ => (pe_op op_or (pv 6) (pv 4)))))))))
    (pss_cons (ps_set (i := 5) sc_least_covers.nd rfl (.inr rfl) (pe_op op_sub (pe_op op_shlW pe_int (pv 1)) pe_int))
    (pss_one (ps_ret (pe_g G_least_sets (fun _ _ F => bd_least_sets F) hg (hr.mono (by decide)) passL (by rfl) (pa_cons (pe_lc (own := [("places", 4)]) (by rfl) sc_least_covers.nd (i_list rfl (pv 2)) (blkOk_by (own := [("places", 4)]) (N := ["lamps", "window", "lit", "lamp", "places", "everywhere", "old"]) (sc := defScope s_least_covers) (by decide +kernel)) (fun _ _ _ _ _ => (pg_name (i := 4) sc_least_covers.nd rfl (by first | exact Or.inl rfl | exact Or.inr rfl))) (fun _ _ _ _ _ => pts_nil) (fun _ _ _ _ _ => (pe_cmpR op_eqZ (pv 4) (pv 5) (nomark _)))) (pa_cons (pe_callB (id := "len") (c_len rfl) (by rfl) T.b_len (by decide +kernel) (pa_cons (pv 0) pa_nil)) pa_nil)))))))))), ?_⟩
    walk_at "sti"
    refine ⟨a, fs, rfl, hfa, dr.facts, by omega, fun H1 s1 => ?_⟩
    obtain ⟨vs, sv, pvs⟩ := hfa.tt (Same.tt s1)
    have ev := pvs.length
    walk_at "gi"
    refine ⟨a, vs, rfl, sv, by omega, ?_⟩
    rw [ev]
    walk_at "gi"
    rename_i F hF
    generalize eW : 2 ^ fs.length = W at *
    refine ⟨⟨vs, new_tup hF sv⟩, ?_⟩
    refine r_forTs vs (fun i σ H' => ∃ L x3 x4, σ = [some (.ref a), some (.int (W : Int)), some (.ref L), x3, x4, none, none] ∧ Same H1 H' ∧ H' L = some (.lst ((Vf.msks fs W i).map fun m : Nat => V.int (m : Int)))) ⟨F, _, _, rfl, Same.new (o := .lst [.int 0]) hF, upd_same (o := .lst [.int 0])⟩ (fun i σ H' hi hP => ?_) (fun i v σ H' hi hP => ?_) (fun σ H' hP => ?_)
    · obtain ⟨L, x3, x4, rfl, s2, e2⟩ := hP
      exact Same.tup s2 sv
    · obtain ⟨L, x3, x4, rfl, s2, e2⟩ := hP
      obtain ⟨p, hp, pp⟩ := pvs.get hi
      have il : i < fs.length := (List.getElem?_eq_some_iff.mp hp).1
      have ob := dr.b p (List.mem_of_getElem? hp)
      have eg : fs.getD i (0, 1) = p := by rw [List.getD_eq_getElem?_getD, hp]; rfl
      have lm : (Vf.msks fs W i).length = 2 ^ i := by unfold Vf.msks; rw [List.length_map, List.length_range]
      have l2i := pow12 (k := i) (by omega)
      walk_at "gi"
      refine ⟨v, p, W, rfl, pp.tt (Same.tt s2), by omega, by omega, ?_⟩
      walk_at "gi"
      refine r_lcLs ((Vf.msks fs W i).map fun m : Nat => V.int (m : Int)) (fun D j H3 => Same H' H3 ∧ H3 D = some (.lst ((((Vf.msks fs W i).take j).map (· ||| Vf.plN p W)).map fun m : Nat => V.int (m : Int)))) (fun D hD => ⟨Same.new hD, upd_same⟩) (fun D j H3 hD hj hP => SqL.of (hP.1 _ _ e2)) (fun D j x H3 hD hx hP => ?_) (fun D H3 hD hP => ?_)
      · obtain ⟨s3, d3⟩ := hP
        rw [List.getElem?_map, Option.map_eq_some_iff] at hx
        obtain ⟨m, hm, rfl⟩ := hx
        have lt2 := List.length_take_le' j (Vf.msks fs W i)
        walk_at "gi"
        refine ⟨rfl, ?_⟩
        walk_at "gi"
        rw [bor_nat]
        refine ⟨_, d3, Nat.lt_of_le_of_lt (show _ ≤ 4096 by rw [List.length_map, List.length_map]; omega) (by decide), fun b o e => ?_, ?_⟩
        · rw [upd_ne (ne_of_none e hD)]
          exact s3 _ _ e
        · rw [take_one hm, List.map_append, List.map_append]
          exact upd_same
      obtain ⟨s3, d3⟩ := hP
      rw [List.length_map, List.take_length] at d3
      walk_at "gi"
      refine r_cat (s3 _ _ e2) d3 (by rw [List.length_map, List.length_map, List.length_map]; omega) fun p4 hp4 => ?_
      walk_at "gi"
      refine ⟨(s2.trans s3).trans (Same.new hp4), ?_⟩
      rw [Vf.msks_succ, eg, List.map_append]
      exact upd_same
    · obtain ⟨L, x3, x4, rfl, s2, e2⟩ := hP
      rw [ev] at e2
      have lm : (Vf.msks fs W fs.length).length = W := by unfold Vf.msks; rw [List.length_map, List.length_range, eW]
      walk_at "gi"
      refine r_rI (shl_ok (n := 1) (by decide) (by omega)) ?_
      rw [Int.one_mul, Int.toNat_natCast]
      walk_at "gi"
      have s12 := s1.trans s2
      refine r_lcLs ((Vf.msks fs W fs.length).map fun m : Nat => V.int (m : Int)) (fun D j H3 => Same H' H3 ∧ H3 D = some (.lst (((List.range j).map (cvB fs)).map V.bl))) (fun D hD => ⟨Same.new hD, upd_same⟩) (fun D j H3 hD hj hP => SqL.of (hP.1 _ _ e2)) (fun D j x H3 hD hx hP => ?_) (fun D H3 hD hP => ?_)
      · obtain ⟨s3, d3⟩ := hP
        rw [List.getElem?_map, Option.map_eq_some_iff] at hx
        obtain ⟨m, hm, rfl⟩ := hx
        have jl : j < 2 ^ fs.length := by
          have := (List.getElem?_eq_some_iff.mp hm).1
          omega
        unfold Vf.msks at hm
        rw [List.getElem?_map, List.getElem?_range jl] at hm
        obtain rfl := Option.some.inj hm
        walk_at "gi"
        refine ⟨rfl, ?_⟩
        walk_at "gi"
        have eb : decide (((Vf.msk fs W fs.length j : Nat) : Int) = (2 : Int) ^ W - 1) = cvB fs j := by
          unfold cvB
          rw [eW]
          have w1 := Nat.two_pow_pos W
          rw [Bool.eq_iff_iff, decide_eq_true_eq, decide_eq_true_eq, show ((2 : Int) ^ W) = ((2 ^ W : Nat) : Int) from (Int.natCast_pow 2 W).symm]
          omega
        rw [eb]
        refine ⟨_, d3, Nat.lt_of_le_of_lt (show _ ≤ 4096 by rw [List.length_map, List.length_map, List.length_range]; omega) (by decide), fun b o e => ?_, ?_⟩
        · rw [upd_ne (ne_of_none e hD)]
          exact s3 _ _ e
        · rw [List.range_succ, List.map_append, List.map_append]
          exact upd_same
      obtain ⟨s3, d3⟩ := hP
      rw [List.length_map, lm, ← eW] at d3
      have sv3 := Same.tup (s2.trans s3) sv
      walk_at "gi"
      rw [ev]
      have s13 := s12.trans s3
      refine ⟨D, fs.length, cvB fs, rfl, by omega, SqL.of d3, Tabs.ext hT s13, fun r ys H5 e5 T5 n5 er R5 => ?_⟩
      exact q r ys H5 (ExtN.trans (ExtN.of s13) e5) T5 (fun o ho => n5 o (s13 _ _ ho)) er (by rw [← eW]; exact R5)
end
section
/-! ### the dark ones without one lamp -/
theorem exB_one {fs : List (Int × Int)} (h : Vf.Xr fs) : exB fs = true := by
  unfold exB
  rw [List.all_eq_true]
  intro x _
  rw [h.one]
  rfl
theorem xr_get {fs : List (Int × Int)} {i : Nat} {p : Int × Int} (hi : fs[i]? = some p) : fs.getD i (0, 1) = p := by
  rw [List.getD_eq_getElem?_getD, hi]
  rfl
theorem xr_rest {fs : List (Int × Int)} (h : Vf.Xr fs) {i : Nat} (hi : i < fs.length) : Vf.litB (Vf.less fs i) (fs.getD i (0, 1)).1 = false := by
  have e : fs[i]? = some ((fs.getD i (0, 1)).1, (fs.getD i (0, 1)).2) := by
    rw [List.getD_eq_getElem?_getD, List.getElem?_eq_getElem hi]
    rfl
  rw [h.dark e, Int.sub_self]
  exact Int.zero_emod _
theorem exB_less {fs : List (Int × Int)} (h : Vf.Xr fs) {i : Nat} {r n : Int} (hi : fs[i]? = some (r, n)) : exB (Vf.less fs i) = false := by
  cases c : exB (Vf.less fs i) with
  | false => rfl
  | true =>
    have d := xr_less h hi
    have l0 := d.pos
    unfold exB at c
    rw [List.all_eq_true] at c
    have a := Int.emod_nonneg r (show (lcmAll (Vf.less fs i) : Int) ≠ 0 by omega)
    have b := Int.emod_lt_of_pos r (show (0 : Int) < (lcmAll (Vf.less fs i) : Int) by omega)
    have z := c (r % (lcmAll (Vf.less fs i) : Int)).toNat (List.mem_range.mpr (by omega))
    rw [show (((r % (lcmAll (Vf.less fs i) : Int)).toNat : Nat) : Int) = r % (lcmAll (Vf.less fs i) : Int) by omega] at z
    have e : Vf.litB (Vf.less fs i) (r % (lcmAll (Vf.less fs i) : Int)) = false := by
      rw [Vf.lit_mod, h.dark hi, Int.sub_self]
      exact Int.zero_emod _
    rw [Vf.litN_pos.mpr e] at z
    exact absurd z (by decide)
/-- the base of the lost one divides the round of the others -/
theorem xr_dvd {fs : List (Int × Int)} (h : Vf.Xr fs) {i : Nat} {r n : Int} (hi : fs[i]? = some (r, n)) : n ∣ (lcmAll (Vf.less fs i) : Int) := by
  have a := Vf.lit_add (fs := Vf.less fs i) r 1
  rw [Int.one_mul, (h.dark hi r).mpr (by rw [Int.sub_self]; exact Int.zero_emod _), h.dark hi, show r + (lcmAll (Vf.less fs i) : Int) - r = (lcmAll (Vf.less fs i) : Int) by omega] at a
  exact Int.dvd_of_emod_eq_zero a
theorem count_pre (p : Int × Int) (L : Nat) (q : Int → Bool) (h : ∀ x, q x = decide ((x - p.1) % p.2 = 0)) : (Vf.rng L).countP q = ((List.range L).map (Vf.one p)).sum := by
  unfold Vf.rng
  rw [List.countP_map]
  induction L with
  | zero => rfl
  | succ L ih =>
    rw [List.range_succ, List.countP_append, ih, List.map_append, List.sum_append, List.countP_cons, List.countP_nil]
    congr 1
    show 0 + (if q ((L : Nat) : Int) = true then 1 else 0) = Vf.one p L + 0
    rw [h, Nat.zero_add]
    rfl
theorem xr_dark_count {fs : List (Int × Int)} (h : Vf.Xr fs) {i : Nat} {r n : Int} (hi : fs[i]? = some (r, n)) : (((Vf.rng (lcmAll (Vf.less fs i))).countP fun x => decide (Vf.hits (Vf.less fs i) x = 0) : Nat) : Int) = (lcmAll (Vf.less fs i) : Int) / n := by
  have d := xr_less h hi
  rw [count_pre (r, n) _ _ fun x => by
    rw [Bool.eq_iff_iff, decide_eq_true_eq, decide_eq_true_eq, hits_dark d.2.fact, h.dark hi]]
  exact Vf.one_sum (h.fact _ (List.mem_of_getElem? hi)).1 (xr_dvd h hi)
theorem low2_less {L : Nat} {n : Int} (n0 : 1 ≤ n) (L0 : 0 < L) (d : n ∣ (L : Int)) : low2 ((L : Int) / n) L = [.int 1, .int n] := by
  obtain ⟨q, hq⟩ := d
  have q0 : 0 < q := by
    rcases Int.lt_or_le 0 q with z | z
    · exact z
    · have := Int.mul_le_mul_of_nonneg_left z (show 0 ≤ n by omega)
      rw [Int.mul_zero] at this
      omega
  have e : (L : Int) / n = q := by rw [hq]; exact Int.mul_ediv_cancel_left _ (by omega)
  rw [e]
  have g : ((Nat.gcd q.natAbs L : Nat) : Int) = q := by
    have : q.natAbs ∣ L := ⟨n.natAbs, by
      rw [← Int.natAbs_mul, Int.mul_comm, ← hq]
      omega⟩
    rw [Nat.gcd_eq_left this]
    omega
  unfold low2
  rw [g, Int.ediv_self (by omega), hq, Int.mul_ediv_cancel _ (by omega)]
theorem low2_all {L : Nat} (L0 : 0 < L) : low2 (L : Int) L = [.int 1, .int 1] := by
  unfold low2
  rw [Int.natAbs_natCast, Nat.gcd_self, Int.ediv_self (by omega)]
theorem shr_all {fs : List (Int × Int)} (h : Vf.Xr fs) {S : Int} (hS : shr fs 1 S) : low2 S (lcmAll fs) = [.int 1, .int 1] := by
  have d := xr_dr h
  unfold shr at hS
  rw [Vf.lamps_cnt d.2.fact d.2.hits (by decide)] at hS
  have e : ((Vf.rng (lcmAll fs)).countP fun x => decide (Vf.hits fs x = 1)) = lcmAll fs := by
    have : ((Vf.rng (lcmAll fs)).countP fun x => decide (Vf.hits fs x = 1)) = (Vf.rng (lcmAll fs)).length := List.countP_eq_length.mpr fun x _ => by
      rw [Vf.hits_list d.2.fact]
      exact decide_eq_true (h.one x)
    rw [this]
    unfold Vf.rng
    rw [List.length_map, List.length_range]
  rw [e] at hS
  rw [hS, low2_all d.pos]
theorem shr_less {fs : List (Int × Int)} (h : Vf.Xr fs) {i : Nat} {r n : Int} (hi : fs[i]? = some (r, n)) {S : Int} (hS : shr (Vf.less fs i) 0 S) : low2 S (lcmAll (Vf.less fs i)) = [.int 1, .int n] := by
  have d := xr_less h hi
  unfold shr at hS
  rw [Vf.lamps_cnt d.2.fact d.2.hits (by decide), xr_dark_count h hi] at hS
  have rn := h.rg _ (List.mem_of_getElem? hi)
  dsimp only at rn
  rw [hS, low2_less (by omega) d.pos (xr_dvd h hi)]
/-! which is the one by its place -/
theorem dkN_none {gs : List (Int × Int)} {lo : Int} : ∀ {m : Nat}, (∀ j : Nat, j < m → Vf.hits gs (lo + j) ≠ 0) → dkN gs lo m = 0
  | 0, _ => rfl
  | m + 1, h => by
    rw [dkN_next, dkN_none fun j hj => h j (by omega), if_neg (h m (by omega))]
theorem xr_hits {fs : List (Int × Int)} (h : Vf.Xr fs) {i : Nat} {r n : Int} (hi : fs[i]? = some (r, n)) (x : Int) : Vf.hits (Vf.less fs i) x = 0 ↔ (x - r) % n = 0 := by
  rw [hits_dark (xr_less h hi).2.fact, h.dark hi]
theorem not_mid {x r n : Int} (n0 : 0 < n) (h : (x - r) % n = 0) {j : Int} (j0 : 0 < j) (j1 : j < n) : (x + j - r) % n ≠ 0 := by
  rw [show x + j - r = j + (x - r) by omega, Int.add_emod, h, Int.add_zero, Int.emod_emod, Int.emod_eq_of_lt (by omega) j1]
  omega
theorem xr_block {fs : List (Int × Int)} (h : Vf.Xr fs) {i : Nat} {r : Int} {n : Nat} (n0 : 0 < n) (hi : fs[i]? = some (r, (n : Int))) {y : Int} (hy : (y - r) % (n : Int) = 0) : ∀ k : Nat, dkN (Vf.less fs i) y (k * n) = k
  | 0 => by rw [Nat.zero_mul]; rfl
  | k + 1 => by
    have ih := xr_block h n0 hi hy k
    have hz : (y + ((k * n : Nat) : Int) - r) % (n : Int) = 0 := by
      rw [Int.natCast_mul, show y + (k : Int) * (n : Int) - r = (y - r) + (n : Int) * (k : Int) by rw [Int.mul_comm (n : Int)]; omega, Int.add_mul_emod_self_left, hy]
    rw [Nat.add_mul, Nat.one_mul, dkN_add, ih]
    congr 1
    rw [show n = 1 + (n - 1) by omega, dkN_add, dkN_one, show 1 + (n - 1) = n by omega, if_pos ((xr_hits h hi _).mpr hz), dkN_none fun j hj => ?_]
    rw [Ne, xr_hits h hi, show y + ((k * n : Nat) : Int) + ((1 : Nat) : Int) + (j : Int) = y + ((k * n : Nat) : Int) + (((1 + j : Nat)) : Int) by omega]
    exact not_mid (by omega) hz (by omega) (by omega)
theorem dk_uniq {gs : List (Int × Int)} {lo : Int} {a b : Nat} (ha : Vf.hits gs (lo + a) = 0) (hb : Vf.hits gs (lo + b) = 0) (e : dkN gs lo a = dkN gs lo b) : a = b := by
  rcases Nat.lt_trichotomy a b with c | c | c
  · have m := dkN_mono gs lo (show a + 1 ≤ b by omega)
    rw [dkN_next, if_pos ha] at m
    omega
  · exact c
  · have m := dkN_mono gs lo (show b + 1 ≤ a by omega)
    rw [dkN_next, if_pos hb] at m
    omega
/-- the dark one with the index 5 -/
theorem xr_fifth {fs : List (Int × Int)} (h : Vf.Xr fs) {i : Nat} {r n : Int} (hi : fs[i]? = some (r, n)) {lo : Int} {m : Nat} (h0 : Vf.hits (Vf.less fs i) (lo + m) = 0) (h5 : dkN (Vf.less fs i) lo m = 5) : lo + (m : Int) = lo + (r - lo) % n + 5 * n := by
  have rn := h.rg _ (List.mem_of_getElem? hi)
  dsimp only at rn
  obtain ⟨N, rfl⟩ : ∃ N : Nat, n = (N : Int) := ⟨n.toNat, by omega⟩
  obtain ⟨j, j1, j2, j3⟩ := xr_near h hi lo
  have z := (h.dark hi _).mp j3
  have a1 := Int.emod_lt_of_pos (r - lo) (show (0 : Int) < (N : Int) by omega)
  have bl := xr_block h (by omega) hi z 5
  have pre : dkN (Vf.less fs i) lo j = 0 := dkN_none fun l hl c => by
    rw [xr_hits h hi] at c
    have := not_mid (x := lo + l) (r := r) (n := (N : Int)) (j := (j : Int) - l) (by omega) c (by omega) (by omega)
    rw [show lo + (l : Int) + ((j : Int) - l) = lo + j by omega] at this
    exact this z
  have e : dkN (Vf.less fs i) lo (j + 5 * N) = 5 := by rw [dkN_add, pre, bl]
  have h2 : Vf.hits (Vf.less fs i) (lo + ((j + 5 * N : Nat) : Int)) = 0 := by
    rw [xr_hits h hi, show lo + ((j + 5 * N : Nat) : Int) - r = (lo + j - r) + (N : Int) * 5 by omega, Int.add_mul_emod_self_left, z]
  have := dk_uniq h0 h2 (h5.trans e.symm)
  omega
/-! only all of them cover -/
theorem xr_msk {fs : List (Int × Int)} (h : Vf.Xr fs) {c : Nat} (hc : c < 2 ^ fs.length) : cvB fs c = decide (c = 2 ^ fs.length - 1) := by
  have bit : ∀ t, (Vf.msk fs (2 ^ fs.length) fs.length c).testBit t = (Vf.bitsL fs.length c).any fun i => decide (t < 2 ^ fs.length) && decide (((t : Int) - (fs.getD i (0, 1)).1) % (fs.getD i (0, 1)).2 = 0) := fun t => by
    unfold Vf.msk
    exact Vf.mkL_bit ..
  unfold cvB
  rw [Bool.eq_iff_iff, decide_eq_true_eq, decide_eq_true_eq]
  constructor
  · intro e
    refine Classical.byContradiction fun ne => ?_
    obtain ⟨i, il, ib⟩ : ∃ i, i < fs.length ∧ c.testBit i = false := by
      refine Classical.byContradiction fun al => ne ?_
      refine Nat.eq_of_testBit_eq fun t => ?_
      rw [Nat.testBit_two_pow_sub_one]
      by_cases l : t < fs.length
      · rw [decide_eq_true l]
        cases q : c.testBit t with
        | true => rfl
        | false => exact absurd ⟨t, l, q⟩ al
      · rw [decide_eq_false l, Nat.testBit_lt_two_pow (Nat.lt_of_lt_of_le hc (Nat.pow_le_pow_right (by decide) (by omega)))]
    have ei : fs[i]? = some ((fs.getD i (0, 1)).1, (fs.getD i (0, 1)).2) := by
      rw [List.getD_eq_getElem?_getD, List.getElem?_eq_getElem il]
      rfl
    have rn := h.rg _ (List.mem_of_getElem? ei)
    have wi := h.win _ (List.mem_of_getElem? ei)
    dsimp only at rn wi
    have b := bit (fs.getD i (0, 1)).1.toNat
    have tl : (fs.getD i (0, 1)).1.toNat < 2 ^ fs.length := by omega
    rw [e, Nat.testBit_two_pow_sub_one, decide_eq_true tl] at b
    obtain ⟨j, hj, ej⟩ := List.any_eq_true.mp b.symm
    rw [Bool.true_and, decide_eq_true_eq, show (((fs.getD i (0, 1)).1.toNat : Nat) : Int) = (fs.getD i (0, 1)).1 by omega] at ej
    obtain ⟨jl, jb⟩ := Vf.mem_bitsL.mp hj
    have ii : ((fs.getD i (0, 1)).1 - (fs.getD i (0, 1)).1) % (fs.getD i (0, 1)).2 = 0 := by rw [Int.sub_self]; exact Int.zero_emod _
    have o := h.one (fs.getD i (0, 1)).1
    rcases Nat.lt_trichotomy i j with c | c | c
    · have := Vf.litN_two c jl ii ej
      omega
    · rw [c, jb] at ib
      cases ib
    · have := Vf.litN_two c il ej ii
      omega
  · rintro rfl
    refine Nat.eq_of_testBit_eq fun t => ?_
    rw [bit, Nat.testBit_two_pow_sub_one]
    by_cases l : t < 2 ^ fs.length
    · rw [decide_eq_true l]
      obtain ⟨p, hp, ep⟩ := Vf.litB_iff.mp (h.lit (t : Int))
      obtain ⟨i, il, ei⟩ := List.getElem_of_mem hp
      rw [List.any_eq_true]
      refine ⟨i, Vf.mem_bitsL.mpr ⟨il, by rw [Nat.testBit_two_pow_sub_one]; exact decide_eq_true il⟩, ?_⟩
      rw [Bool.true_and, decide_eq_true_eq, List.getD_eq_getElem?_getD, List.getElem?_eq_getElem il, ei]
      exact ep
    · rw [decide_eq_false l, List.any_eq_false]
      intro i _
      simp
theorem bits_full (n : Nat) : Vf.bitsL n (2 ^ n - 1) = List.range n := by
  unfold Vf.bitsL
  rw [List.filter_eq_self]
  intro i hi
  rw [Nat.testBit_two_pow_sub_one]
  exact decide_eq_true (List.mem_range.mp hi)
theorem filter_last (n : Nat) (hB : Nat → Bool) (h : ∀ c, c < 2 ^ n → hB c = decide (c = 2 ^ n - 1)) : (lrows n (2 ^ n) hB).mergeSort leK = [nint (List.range n)] := by
  have p0 := Nat.two_pow_pos n
  have e : (List.range (2 ^ n)).filter (lessB n hB) = [2 ^ n - 1] := by
    have e1 : 2 ^ n = 2 ^ n - 1 + 1 := by omega
    rw [show List.range (2 ^ n) = List.range (2 ^ n - 1) ++ [2 ^ n - 1] by conv => lhs; rw [e1, List.range_succ]]
    rw [List.filter_append, List.filter_eq_nil_iff.mpr fun c hc z => ?_, List.filter_cons, List.filter_nil, if_pos, List.nil_append]
    · unfold lessB
      rw [h _ (by omega), decide_eq_true rfl, Bool.true_and, Bool.not_eq_true', List.any_eq_false]
      intro i hi
      obtain ⟨il, ib⟩ := Vf.mem_bitsL.mp hi
      have q0 := Nat.two_pow_pos i
      have q1 : 2 ^ i < 2 ^ n := Nat.pow_lt_pow_right (by decide) il
      rw [h (2 ^ n - 1 - 2 ^ i) (by omega), decide_eq_false (show ¬ 2 ^ n - 1 - 2 ^ i = 2 ^ n - 1 by omega)]
      decide
    · have hc := List.mem_range.mp hc
      unfold lessB at z
      rw [h _ (by omega), decide_eq_false (by omega)] at z
      cases z
  unfold lrows
  rw [e, List.map_singleton, bits_full, List.mergeSort_singleton]
end
section
variable {P : Program} {w : World} {K : PySem.W.Frag} {mg : Str → Option Value} {base : Heap}
def Kn (k : Addr) (H H' : Hp) : Prop := ∀ b o, b ≠ k → H b = some o → (∀ ps, o ≠ .tbl ps) → H' b = some o
theorem Kn.trans {k : Addr} {H H1 H2 : Hp} (a : Kn k H H1) (b : Kn k H1 H2) : Kn k H H2 := fun c o n e z => b c o n (a c o n e z) z
theorem Kx.kn {k : Addr} {H H' : Hp} (a : Kx k H H') : Kn k H H' := fun c o n e _ => a c o n e
theorem Same.kn {k : Addr} {H H' : Hp} (a : Same H H') : Kn k H H' := fun c o _ e _ => a c o e
theorem ExtN.kn {k : Addr} {H H' : Hp} (a : LamX.ExtN H H') : Kn k H H' := fun c o _ e z => a c o e z
theorem Kn.tt {n : Nat} {k : Addr} {H H' : Hp} (e : Kn k H H') (h : Jar n k H) : Tt H H' := fun K a xs h' => by
  obtain ⟨x, y, z, hk, _⟩ := h
  have ne : ∀ {o : HO}, H a = some o → o ≠ .lst [.int x, .int y, .int z] → a ≠ k := fun e1 e2 e3 => e2 (by rw [e3, hk] at e1; exact (Option.some.inj e1).symm)
  rcases h' with (h | ⟨o, h⟩) | h
  · exact Or.inl (Or.inl (e _ _ (ne h (fun z => nomatch z)) h (fun _ z => nomatch z)))
  · exact Or.inl (Or.inr ⟨o, e _ _ (ne h (fun z => nomatch z)) h (fun _ z => nomatch z)⟩)
  · exact Or.inr h
theorem Tabs.kx {T : List (Addr × Str)} {n : Nat} {k : Addr} {H H' : Hp} (t : LamX.Tabs T H) (e : Kx k H H') (h : Jar n k H) : LamX.Tabs T H' := fun p hp => by
  obtain ⟨x, y, z, hk, _⟩ := h
  obtain ⟨ps, h1, h2, h3⟩ := t p hp
  refine ⟨ps, e _ _ (fun c => by rw [c, hk] at h1; cases h1) h1, h2, fun pos cv hc => ?_⟩
  obtain ⟨c, e1, e2⟩ := h3 pos cv hc
  exact ⟨c, e1, e _ _ (fun c => by rw [c, hk] at e2; cases e2) e2⟩
end
section
variable {P : Program} {w : World} {K : PySem.W.Frag} {mg : Str → Option Value} {base : Heap}
def tupsD (nss : List (List Int)) : PyData := .tuple (nss.map tupD)
theorem Dp.tups {H : Hp} {a : Addr} {vs : List V} {nss : List (List Int)} (h : SqT K H a vs) (R : RowsAt K H vs nss) : Dp K H (.ref a) (tupsD nss) := .tup h R.dp
theorem ne_rows {H : Hp} {Q : VK} {x y : V} (nss : List (List Int)) (h1 : Dp K H x (.list (nss.map tupD))) (h2 : Dp K H y (.list (nss.map tupD))) (h : Q (.bl false) H) : rNeD K x y H Q := by
  have s := shapedRows nss
  unfold SeqAt.shaped at s
  rw [Bool.and_eq_true] at s
  exact r_neSame _ h1 h2 s.1 (of_decide_eq_true s.2) h
end
section
open LamX
variable {P : Program} {w : World} {K : PySem.W.Frag} {mg : Str → Option Value} {base : Heap}
/-! ### all of it -/
theorem ExtN.tt {H H' : Hp} (e : LamX.ExtN H H') : Tt H H' := fun K a xs h' => by
  rcases h' with (h | ⟨o, h⟩) | h
  · exact Or.inl (Or.inl (e _ _ h (fun _ z => nomatch z)))
  · exact Or.inl (Or.inr ⟨o, e _ _ h (fun _ z => nomatch z)⟩)
  · exact Or.inr h
def sp_right (K : PySem.W.Frag) : Sp := fun vs H Q _ => ∃ k : Addr, vs = [.ref k] ∧ Jar 1 k H ∧ LamX.Tabs (lsK K) H ∧ ∀ H', Kn k H H' → LamX.Tabs (lsK K) H' → Q (.bl true) H'
theorem ok__law_right (T : Top K mg) (hTB : LamX.TabB base mg (tabP K "least_sets").1 (tabP K "least_sets").2) : Ok P w K mg base 9 "_law_right" s__law_right ["_law_jar_here"] (sp_right K) := by
  have G__law_parted := ok__law_parted (P := P) (w := w) (base := base) T
  have G_are_exact := ok_are_exact (P := P) (w := w) (base := base) T
  have G_covers := ok_covers (P := P) (w := w) (base := base) T
  have G_needless_lamps := ok_needless_lamps (P := P) (w := w) (base := base) T
  have G_dark_from := ok_dark_from (P := P) (w := w) (base := base) T
  have G__law_far := ok__law_far (P := P) (w := w) (base := base) T
  have G_longest_lit := ok_longest_lit (P := P) (w := w) (base := base) T
  have G_least_covers := ok_least_covers (P := P) (w := w) (base := base) T hTB
  have G_share_lit := ok_share_lit (P := P) (w := w) (base := base) T
  have G__law_dig := ok__law_dig (P := P) (w := w) (base := base) T
  have G_dark_share := ok_dark_share (P := P) (w := w) (base := base) T
  have G_nth_dark := ok_nth_dark (P := P) (w := w) (base := base) T
  refine T.d__law_right.ok sc__law_right (fun vs H Q E h => ?_) (fun f cdv A outer s H vs Q E hg hr h => ?_)
  · obtain ⟨k, rfl, _⟩ := h
    rfl
  · obtain ⟨k, rfl, hk, htb, q⟩ := h
    refine ⟨_, (pss_cons (ps_set (i := 1) sc__law_right.nd rfl (.inl rfl) (pe_g G__law_parted (fun _ _ F => bd__law_parted F) hg (hr.mono (by decide)) passL (by rfl) (pa_cons (pv 0) pa_nil)))
    (pss_cons (ps_if (PW.pt (pw_or (pt_not (pt_val (pe_g G_are_exact (fun _ _ F => bd_are_exact F) hg (hr.mono (by decide)) passL (by rfl) (pa_cons (pv 1) pa_nil)))) (pw_or (pt_not (pt_val (pe_g G_covers (fun _ _ F => bd_covers F) hg (hr.mono (by decide)) passL (by rfl) (pa_cons (pv 1) pa_nil)))) (pw_or1 (pt_cmpR (o_neD rfl hr.units) (pe_g G_needless_lamps (fun _ _ F => bd_needless_lamps F) hg (hr.mono (by decide)) passL (by rfl) (pa_cons (pv 1) pa_nil)) (pe_tup pa_nil) (nomark _)))))) (pss_one (ps_ret pe_bl)) pss_nil)
    (pss_cons (ps_if (PW.pt (pw_or (pt_cmpR op_notN (pe_g G_dark_from (fun _ _ F => bd_dark_from F) hg (hr.mono (by decide)) passL (by rfl) (pa_cons (pv 1) (pa_cons (pe_g G__law_far (fun _ _ F => bd__law_far F) hg (hr.mono (by decide)) passL (by rfl) (pa_cons (pv 0) pa_nil)) pa_nil))) pe_non (nomark _)) (pw_or1 (pt_cmpR op_notN (pe_g G_longest_lit (fun _ _ F => bd_longest_lit F) hg (hr.mono (by decide)) passL (by rfl) (pa_cons (pv 1) pa_nil)) pe_non (nomark _))))) (pss_one (ps_ret pe_bl)) pss_nil)
    (pss_cons (ps_if (PW.pt (pw_or (PW.pt (pw_and (pt_cmpR op_lt (pe_callB (id := "len") (c_len rfl) (by rfl) T.b_len (by decide +kernel) (pa_cons (pv 1) pa_nil)) pe_int (nomark _)) (pw_and1 (pt_cmpR (o_neD rfl hr.units) (pe_g G_least_covers (fun _ _ F => bd_least_covers F) hg (hr.mono (by decide)) passL (by rfl) (pa_cons (pv 1) pa_nil)) (pe_tup (pa_cons (pe_tupRg rfl (by rfl) T.b_tuple (prg_1 (by rfl) T.b_range (pe_callB (id := "len") (c_len rfl) (by rfl) T.b_len (by decide +kernel) (pa_cons (pv 1) pa_nil)))) pa_nil)) (nomark _))))) (pw_or1 (pt_cmpR (o_neD rfl hr.units) (pe_g G_share_lit (fun _ _ F => bd_share_lit F) hg (hr.mono (by decide)) passL (by rfl) (pa_cons (pv 1) (pa_cons pe_int pa_nil))) (pe_tup (pa_cons pe_int (pa_cons pe_int pa_nil))) (nomark _))))) (pss_one (ps_ret pe_bl)) pss_nil)
    (pss_cons (ps_set (i := 2) sc__law_right.nd rfl (.inr rfl) (pe_callB (id := "max") (c_maxQ rfl rfl hr.units) (by rfl) T.b_max (by decide +kernel) (pa_cons (pe_lc (own := [("_law_r", 8), ("_law_n", 9)]) (by rfl) sc__law_right.nd (i_tup' rfl (pv 1)) (blkOk_by (own := [("_law_r", 8), ("_law_n", 9)]) (N := ["_law_jar_here", "_law_rows", "_law_top", "_law_k", "_law_less", "_law_lost", "_law_x", "_law_first", "_law_r", "_law_n"]) (sc := defScope s__law_right) (by decide +kernel)) (fun _ _ _ _ _ => (g_tup (n := 2) rfl rfl (pgs_cons (pg_name (i := 8) sc__law_right.nd rfl (by first | exact Or.inl rfl | exact Or.inr rfl)) (pgs_cons (pg_name (i := 9) sc__law_right.nd rfl (by first | exact Or.inl rfl | exact Or.inr rfl)) pgs_nil)) rfl rfl)) (fun _ _ _ _ _ => pts_nil) (fun _ _ _ _ _ => (pv 9))) pa_nil)))
    (pss_cons (ps_if (PW.pt (pw_and (pt_cmpR op_gt (pe_callB (id := "len") (c_len rfl) (by rfl) T.b_len (by decide +kernel) (pa_cons (pv 1) pa_nil)) pe_int (nomark _)) (pw_and1 (pt_cmpR op_lt (pe_callB (id := "len") (c_len rfl) (by rfl) T.b_len (by decide +kernel) (pa_cons (pe_lc (own := [("_law_r", 8), ("_law_n", 9)]) (by rfl) sc__law_right.nd (i_tup' rfl (pv 1)) (blkOk_by (own := [("_law_r", 8), ("_law_n", 9)]) (N := ["_law_jar_here", "_law_rows", "_law_top", "_law_k", "_law_less", "_law_lost", "_law_x", "_law_first", "_law_r", "_law_n"]) (sc := defScope s__law_right) (by decide +kernel)) (fun _ _ _ _ _ => (g_tup (n := 2) rfl rfl (pgs_cons (pg_name (i := 8) sc__law_right.nd rfl (by first | exact Or.inl rfl | exact Or.inr rfl)) (pgs_cons (pg_name (i := 9) sc__law_right.nd rfl (by first | exact Or.inl rfl | exact Or.inr rfl)) pgs_nil)) rfl rfl)) (fun _ _ _ _ _ => (pts_one (pt_cmpR op_eqZ (pv 9) (pv 2) (nomark _)))) (fun _ _ _ _ _ => pe_int)) pa_nil)) pe_int (nomark _))))) (pss_one (ps_ret pe_bl)) pss_nil)
    (pss_cons (ps_set (i := 3) sc__law_right.nd rfl (.inl rfl) (pe_g G__law_dig (fun _ _ F => bd__law_dig F) hg (hr.mono (by decide)) passL (by rfl) (pa_cons (pv 0) (pa_cons (pe_callB (id := "len") (c_len rfl) (by rfl) T.b_len (by decide +kernel) (pa_cons (pv 1) pa_nil)) pa_nil))))
    (pss_cons (ps_par (i := 4) (j := 5) (by rfl) sc__law_right.nd rfl rfl (by decide) rfl rfl (pa_cons (pe_op (o_catA rfl) (pe_slice (s_tupA rfl) (pv 1) po_none (po_some (pv 3))) (pe_slice (s_tupA rfl) (pv 1) (po_some (pe_op op_add (pv 3) pe_int)) po_none)) (pa_cons (pe_ix (x_tup rfl) (pv 1) (pv 3) (fun _ _ => rfl)) pa_nil)) (by rfl))
    (pss_cons (ps_if (PW.pt (pw_or (pt_cmpR (o_neD rfl hr.units) (pe_g G_dark_share (fun _ _ F => bd_dark_share F) hg (hr.mono (by decide)) passL (by rfl) (pa_cons (pv 4) pa_nil)) (pe_tup (pa_cons pe_int (pa_cons (pe_ix (x_tup rfl) (pv 5) pe_int (fun _ _ => rfl)) pa_nil))) (nomark _)) (pw_or (pt_val (pe_g G_covers (fun _ _ F => bd_covers F) hg (hr.mono (by decide)) passL (by rfl) (pa_cons (pv 4) pa_nil))) (pw_or1 (pt_val (pe_g G_are_exact (fun _ _ F => bd_are_exact F) hg (hr.mono (by decide)) passL (by rfl) (pa_cons (pv 4) pa_nil))))))) (pss_one (ps_ret pe_bl)) pss_nil)
    (pss_cons (ps_set (i := 6) sc__law_right.nd rfl (.inl rfl) (pe_g G__law_far (fun _ _ F => bd__law_far F) hg (hr.mono (by decide)) passL (by rfl) (pa_cons (pv 0) pa_nil)))
    (pss_cons (ps_set (i := 7) sc__law_right.nd rfl (.inl rfl) (pe_op op_add (pv 6) (pe_op op_mod (pe_callTy (T := "int") c_int (by rfl) T.b_int (by decide +kernel) (pa_cons (pe_op op_sub (pe_ix (x_tup rfl) (pv 5) pe_int (fun _ _ => rfl)) (pv 6)) pa_nil)) (pe_ix (x_tup rfl) (pv 5) pe_int (fun _ _ => rfl)))))
    (pss_one (ps_ret (pe_and (pe_cmpR op_eqZ (pe_g G_dark_from (fun _ _ F => bd_dark_from F) hg (hr.mono (by decide)) passL (by rfl) (pa_cons (pv 4) (pa_cons (pv 6) pa_nil))) (pv 7) (nomark _)) (pe_one (pe_cmpR op_eqZ (pe_g G_nth_dark (fun _ _ F => bd_nth_dark F) hg (hr.mono (by decide)) passL (by rfl) (pa_cons (pv 4) (pa_cons (pv 6) (pa_cons pe_int pa_nil)))) (pe_op op_add (pv 7) (pe_op op_mulX pe_int (pe_ix (x_tup rfl) (pv 5) pe_int (fun _ _ => rfl)))) (nomark _))))))))))))))))), ?_⟩
    walk_at "st"
    refine ⟨k, rfl, hk, fun a fs n H1 hn x1 k1 hfa X => ?_⟩
    have dr := xr_dr X
    have hl := X.len
    have htb1 := Tabs.kx htb x1 hk
    walk_at "go"
    refine j_s (fun σ' H' => σ' = [some (.ref k), some (.ref a), none, none, none, none, none, none, none, none] ∧ Same H1 H') (fun nx' q' => ?_) (fun σ' H2 hM => ?_)
    · walk_at "gi"
      refine ⟨a, fs, rfl, hfa, dr, fun H2 s2 => ?_⟩
      rw [exB_one X]
      walk_at "gi"
      refine ⟨a, fs, rfl, hfa.tt (Same.tt s2), dr, fun H3 s3 => ⟨fun _ => ?_, fun x hx => by rw [X.lit] at hx; cases hx⟩⟩
      have s13 := s2.trans s3
      walk_at "gi"
      refine ⟨a, fs, rfl, hfa.tt (Same.tt s13), dr, fun i hi => xr_rest X hi, fun p H4 s4 n4 e4 => ?_⟩
      walk_at "gi"
      rename_i l5 hl5
      refine r_neT [] [] (SqT.of (at_new hl5 e4)) (SqT.of upd_same) ?_
      walk_at "gi"
      exact q' _ _ ⟨rfl, (s13.trans s4).trans (Same.new hl5)⟩
    obtain ⟨rfl, s2⟩ := hM
    have hfa2 := hfa.tt (Same.tt s2)
    have x2 : Kx k H H2 := x1.same s2
    have k2 := k1.same s2
    have htb2 := htb1.ext s2
    have E58 : (2 : Nat) ^ 58 = 288230376151711744 := by decide
    have E60 : (2 : Nat) ^ 60 = 1152921504606846976 := by decide
    have N30 : (10 : Nat) ^ 30 = 1000000000000000000000000000000 := by decide
    have nr : ∀ x : Int, x.natAbs ≤ 10 ^ 30 → Nr x := fun x h => by
      have E40 : (10 : Int) ^ 40 = 10000000000000000000000000000000000000000 := by decide
      exact ⟨by omega, by omega⟩
    walk_at "gi"
    refine ⟨k, n, rfl, k2, by omega, fun x H3 xb x3 k3 => ?_⟩
    have hfa3 := hfa2.tt (k2.tt x3)
    walk_at "gi"
    refine ⟨a, fs, x, rfl, hfa3, dr, nr x xb, fun H4 s4 => ⟨fun _ => ?_, fun j _ hj _ => by rw [X.lit] at hj; cases hj⟩⟩
    walk_at "gi"
    refine ⟨a, fs, rfl, hfa3.tt (Same.tt s4), dr, X.lit, fun H5 s5 => ?_⟩
    walk_at "go"
    have s45 := s4.trans s5
    have hfa5 := hfa3.tt (Same.tt s45)
    have x5 : Kx k H H5 := (x2.trans x3).same s45
    have k5 := k3.same s45
    have htb5 := (Tabs.kx htb2 x3 k2).ext s45
    obtain ⟨vs, sv, pvs⟩ := id hfa5
    have ev := pvs.length
    walk_at "go"
    refine j_s (fun σ' H' => σ' = [some (.ref k), some (.ref a), none, none, none, none, none, none, none, none] ∧ ExtN H5 H' ∧ LamX.Tabs (lsK K) H') (fun nx' q' => ?_) (fun σ' H6 hM => ?_)
    · walk_at "gi"
      refine ifd (fun c => ?_) (fun c => ?_)
      · walk_at "gi"
        refine ⟨a, fs, rfl, hfa5, dr, htb5, fun r ys H7 e7 t7 n7 er R7 => ?_⟩
        rw [filter_last fs.length (cvB fs) fun c hc => xr_msk X hc] at R7
        have sv7 : SqT K H7 a vs := ExtN.tt e7 K _ _ sv
        walk_at "gi"
        refine r_tupRg ?_
        refine r_rg1 ?_
        walk_at "gi"
        rw [ev]
        refine ⟨RgOk.of_le (by omega) (by omega) (by omega) (by omega), fun t8 ht8 => ?_⟩
        rw [rgV_nat]
        walk_at "gi"
        rename_i l9 hl9
        have s9 := (Same.new ht8 (o := .tup ((((List.range fs.length).map fun i : Nat => (i : Int)).map V.int)))).trans (Same.new hl9 (o := .tup [.ref t8]))
        have sh := shapedRows [nint (List.range fs.length)]
        unfold SeqAt.shaped at sh
        rw [Bool.and_eq_true] at sh
        refine r_neSame (tupsD [nint (List.range fs.length)]) (Dp.tups (SqT.of (s9 _ _ er)) (RowsAt.same R7 s9)) (Dp.tups (SqT.of upd_same) (.cons ⟨t8, rfl, SqT.of (at_new hl9 upd_same)⟩ .nil)) sh.1 (of_decide_eq_true sh.2) ?_
        walk_at "gi"
        refine ⟨a, fs, 1, rfl, (hfa5.tt (ExtN.tt e7)).tt (Same.tt s9), dr.facts, dr.1, by decide, fun S hS t H8 s8 n8 e8 => ?_⟩
        rw [shr_all X hS] at e8
        walk_at "gi"
        rename_i l10 hl10
        refine r_neT [1, 1] [1, 1] (SqT.of (at_new hl10 e8)) (SqT.of upd_same) ?_
        walk_at "gi"
        have s10 := s9.trans (s8.trans (Same.new hl10 (o := .tup [.int 1, .int 1])))
        exact q' _ _ ⟨rfl, ExtN.trans e7 (ExtN.of s10), t7.ext s10⟩
      · walk_at "gi"
        refine ⟨a, fs, 1, rfl, hfa5, dr.facts, dr.1, by decide, fun S hS t H8 s8 n8 e8 => ?_⟩
        rw [shr_all X hS] at e8
        walk_at "gi"
        rename_i l9 hl9
        refine r_neT [1, 1] [1, 1] (SqT.of (at_new hl9 e8)) (SqT.of upd_same) ?_
        walk_at "gi"
        exact q' _ _ ⟨rfl, ExtN.of (s8.trans (Same.new hl9)), htb5.ext (s8.trans (Same.new hl9))⟩
    obtain ⟨rfl, e6, htb6⟩ := hM
    have hfa6 := hfa5.tt (ExtN.tt e6)
    have pvs6 := pvs.tt (ExtN.tt e6)
    have sv6 : SqT K H6 a vs := ExtN.tt e6 K _ _ sv
    walk_at "go"
    refine r_lcTs vs (fun D i H' => Same H6 H' ∧ H' D = some (.lst (((fs.take i).map Prod.snd).map V.int))) (fun D hD => ⟨Same.new hD, upd_same⟩) (fun D i H' hD hi hP => Same.tup hP.1 sv6) (fun D i v H' hD hi hP => ?_) (fun D H7 hD hP => ?_)
    · obtain ⟨s3, d3⟩ := hP
      obtain ⟨o, ho, t, rfl, st⟩ := pvs6.get hi
      have il : i < fs.length := (List.getElem?_eq_some_iff.mp ho).1
      refine r_gtup (Same.tup s3 st) rfl ?_
      walk_at "go"
      refine ⟨rfl, ?_⟩
      walk_at "go"
      refine ⟨_, d3, Nat.lt_of_le_of_lt (show _ ≤ 12 by rw [List.length_map, List.length_map, List.length_take]; omega) (by decide), fun b o e => ?_, ?_⟩
      · rw [upd_ne (ne_of_none e hD)]
        exact s3 _ _ e
      · rw [take_one ho, List.map_append, List.map_append]
        exact upd_same
    obtain ⟨s7, d7⟩ := hP
    rw [List.take_of_length_le (by omega)] at d7
    walk_at "go"
    refine .inl ⟨D, fs.map Prod.snd, rfl, SqL.of d7, by rw [List.length_map]; omega, fun mx m1 m2 => ?_⟩
    have top := fun l2 => X.top mx l2 (fun p hp => m2 p.2 (List.mem_map.mpr ⟨p, hp, rfl⟩)) (by
      obtain ⟨p, hp, e⟩ := List.mem_map.mp m1
      exact ⟨p, hp, e⟩)
    walk_at "go"
    have sv7 := Same.tup s7 sv6
    have pvs7 := pvs6.tt (Same.tt s7)
    refine j_s (fun σ' H' => σ' = [some (.ref k), some (.ref a), some (.int mx), none, none, none, none, none, none, none] ∧ Same H7 H') (fun nx' q' => ?_) (fun σ' H8 hM => ?_)
    · walk_at "gi"
      refine ifd (fun c => ?_) (fun c => ?_)
      · walk_at "gi"
        refine r_lcTs vs (fun D i H' => Same H7 H' ∧ ∃ ws, H' D = some (.lst ws) ∧ ws.length = (fs.take i).countP fun p => decide (p.2 = mx)) (fun D hD => ⟨Same.new hD, [], upd_same, rfl⟩) (fun D i H' hD hi hP => Same.tup hP.1 sv7) (fun D i v H' hD hi hP => ?_) (fun D H9 hD hP => ?_)
        · obtain ⟨s3, ws, d3, lw⟩ := hP
          obtain ⟨o, ho, t, rfl, st⟩ := pvs7.get hi
          have il : i < fs.length := (List.getElem?_eq_some_iff.mp ho).1
          have lc := List.countP_le_length (p := fun p : Int × Int => decide (p.2 = mx)) (l := fs.take i)
          rw [List.length_take] at lc
          have tk : (fs.take (i + 1)).countP (fun p => decide (p.2 = mx)) = (fs.take i).countP (fun p => decide (p.2 = mx)) + if decide (o.2 = mx) = true then 1 else 0 := by
            rw [take_one ho, List.countP_append, List.countP_cons, List.countP_nil, Nat.zero_add]
          refine r_gtup (Same.tup s3 st) rfl ?_
          walk_at "go"
          refine ⟨rfl, ?_⟩
          walk_at "go"
          by_cases c2 : o.2 = mx
          · rw [if_pos (decide_eq_true c2)] at tk
            rw [decide_eq_true c2]
            walk_at "gi"
            refine ⟨ws, d3, Nat.lt_of_le_of_lt (show ws.length ≤ 12 by omega) (by decide), fun b o e => ?_, ws ++ [.int 1], upd_same, ?_⟩
            · rw [upd_ne (ne_of_none e hD)]
              exact s3 _ _ e
            · rw [tk, List.length_append, lw]
              rfl
          · rw [if_neg (by rw [decide_eq_false c2]; exact Bool.false_ne_true)] at tk
            rw [decide_eq_false c2]
            walk_at "gi"
            exact ⟨s3, ws, d3, by rw [tk, lw]; rfl⟩
        obtain ⟨s3, ws, d3, lw⟩ := hP
        rw [List.take_of_length_le (by omega)] at lw
        have := top (by omega)
        walk_at "gi"
        refine ifd (fun c2 => by omega) (fun c2 => ?_)
        walk_at "gi"
        exact q' _ _ ⟨rfl, s3⟩
      · walk_at "gi"
        exact q' _ _ ⟨rfl, Same.refl _⟩
    obtain ⟨rfl, s8⟩ := hM
    have s78 := s7.trans s8
    have k8 : Jar (n + 15) k H8 := by
      obtain ⟨j1, j2, j3, j4, j5⟩ := k5
      exact ⟨j1, j2, j3, s78 _ _ (e6 _ _ j4 (fun _ z => nomatch z)), j5⟩
    have htb8 := htb6.ext s78
    have sv8 := Same.tup s8 sv7
    have pvs8 := pvs7.tt (Same.tt s8)
    have kn8 : Kn k H H8 := (Kx.kn x5).trans ((ExtN.kn e6).trans (Same.kn s78))
    walk_at "go"
    rw [ev]
    refine i_dig _ k8 (by omega) (by omega) (by omega) fun z H9 z0 z1 x9 k9 => ?_
    obtain ⟨zn, rfl⟩ : ∃ zn : Nat, z = (zn : Int) := ⟨z.toNat, by omega⟩
    have zl : zn < fs.length := by omega
    have tt9 := k8.tt x9
    have sv9 : SqT K H9 a vs := tt9 K _ _ sv8
    have pvs9 := pvs8.tt tt9
    have htb9 := Tabs.kx htb8 x9 k8
    have kn9 : Kn k H H9 := kn8.trans (Kx.kn x9)
    obtain ⟨r, b, hi⟩ : ∃ r b, fs[zn]? = some (r, b) := ⟨_, _, List.getElem?_eq_getElem zl⟩
    have drl := xr_less X hi
    have ob := X.fact _ (List.mem_of_getElem? hi)
    have orb := X.rg _ (List.mem_of_getElem? hi)
    dsimp only at ob orb
    obtain ⟨v, hv, pv⟩ := pairs_at pvs9 hi
    walk_at "gi"
    refine r_slA sv9 fun c1 H10 s10 e10 => ?_
    rw [cut_til] at e10
    walk_at "gi"
    rw [show ((zn : Int) + 1) = ((zn + 1 : Nat) : Int) from rfl]
    refine r_slA (Same.tup s10 sv9) fun c2 H11 s11 e11 => ?_
    rw [cut_from (by omega)] at e11
    walk_at "gi"
    refine r_catA (Same.tup s11 e10) e11 (by rw [List.length_take, List.length_drop]; omega) fun c3 H12 s12 e12 => ?_
    have s912 := s10.trans (s11.trans s12)
    have hless : FactsAt K H12 c3 (Vf.less fs zn) := ⟨_, e12, PairsAt.append (pairs_take zn (pvs9.tt (Same.tt s912))) (pairs_drop (zn + 1) (pvs9.tt (Same.tt s912)))⟩
    obtain ⟨t, rfl, st⟩ := pv.tt (Same.tt s912)
    have k12 := k9.same s912
    have htb12 := htb9.ext s912
    have kn12 : Kn k H H12 := kn9.trans (Same.kn s912)
    have sv12 := Same.tup s912 sv9
    clear s912 s10 s11 s12
    walk_at "gi"
    refine r_ixT sv12 (atI_nat hv) ?_
    walk_at "gi"
    refine ⟨c3, Vf.less fs zn, rfl, hless, drl.facts, drl.1, fun S hS t13 H13 s13 n13 e13 => ?_⟩
    rw [shr_less X hi hS] at e13
    walk_at "gi"
    refine r_ixT (Same.tup s13 st) (atI_nat (j := 1) rfl) ?_
    walk_at "gi"
    rename_i l14 hl14
    refine r_neT [1, b] [1, b] (SqT.of (at_new hl14 e13)) (SqT.of upd_same) ?_
    rw [decide_eq_true rfl]
    have s14 := s13.trans (Same.new hl14 (o := .tup [.int 1, .int b]))
    walk_at "gi"
    refine ⟨c3, Vf.less fs zn, rfl, hless.tt (Same.tt s14), drl, fun H15 s15 => ⟨fun al => ?_, fun x hx => ?_⟩⟩
    · obtain ⟨j, _, _, j3⟩ := xr_near X hi 0
      rw [al] at j3
      cases j3
    have s1415 := s14.trans s15
    walk_at "gi"
    refine ⟨c3, Vf.less fs zn, rfl, hless.tt (Same.tt s1415), drl, fun H16 s16 => ?_⟩
    rw [exB_less X hi]
    have s1216 := s1415.trans s16
    walk_at "gi"
    refine ⟨k, _, rfl, k12.same s1216, by omega, fun y H17 yb x17 k17 => ?_⟩
    have tt17 := fun K a xs h => (k12.same s1216).tt x17 K a xs (Same.tt s1216 K a xs h)
    have st17 : SqT K H17 t [.int r, .int b] := tt17 K _ _ st
    have hless17 := hless.tt tt17
    walk_at "gi"
    refine r_ixT st17 (atI_nat (j := 0) rfl) ?_
    walk_at "gi"
    refine r_ixT st17 (atI_nat (j := 1) rfl) ?_
    refine r_rI (by omega) ?_
    walk_at "gi"
    have kn17 : Kn k H H17 := (kn12.trans (Same.kn s1216)).trans (Kx.kn x17)
    have htb17 := Tabs.kx (htb12.ext s1216) x17 (k12.same s1216)
    refine ⟨c3, Vf.less fs zn, y, rfl, hless17, drl, nr y yb, fun H18 s18 => ⟨fun al => ?_, fun j hj dk lt => ?_⟩⟩
    · obtain ⟨j, j1, _, j3⟩ := xr_near X hi y
      rw [al j j1] at j3
      cases j3
    obtain ⟨j', j1, j2, j3⟩ := xr_near X hi y
    have bb := Int.emod_lt_of_pos (r - y) (show 0 < b by omega)
    have ej : j = j' := by
      rcases Nat.lt_trichotomy j j' with c | c | c
      · have := not_mid (j := (j' : Int) - j) (by omega) ((X.dark hi _).mp dk) (by omega) (by omega)
        rw [show y + (j : Int) + ((j' : Int) - j) = y + j' by omega] at this
        exact absurd ((X.dark hi _).mp j3) this
      · exact c
      · rw [lt j' c] at j3
        cases j3
    rw [← j2, ← ej]
    walk_at "gi"
    rw [decide_eq_true rfl]
    walk_at "gi"
    refine ⟨c3, Vf.less fs zn, y, 5, rfl, hless17.tt (Same.tt s18), drl, nr y yb, by decide, ⟨_, dk⟩, fun m H19 s19 h0 h5 => ?_⟩
    have fi := xr_fifth X hi h0 h5
    rw [← j2, ← ej] at fi
    have s1719 := s18.trans s19
    walk_at "gi"
    refine r_ixT (Same.tup s1719 st17) (atI_nat (j := 1) rfl) ?_
    refine r_rI (bit_mul (a := 13) (b := 13) (bit_of (by omega)) (bit_of (by omega)) (by decide)) ?_
    walk_at "gi"
    rw [fi, decide_eq_true rfl]
    exact q _ (kn17.trans (Same.kn s1719)) (htb17.ext s1719)
end
section
open LamX
variable {P : Program} {w : World} {K : PySem.W.Frag} {mg : Str → Option Value} {base : Heap}
/-! ### the law -/
theorem ExtN.seq {H H' : Hp} {a : Addr} {xs : List V} (e : LamX.ExtN H H') (h : SqL K H a xs) : SqL K H' a xs := by
  rcases h with (h | ⟨o, h⟩) | h
  · exact Or.inl (Or.inl (e _ _ h (fun _ z => nomatch z)))
  · exact Or.inl (Or.inr ⟨o, e _ _ h (fun _ z => nomatch z)⟩)
  · exact Or.inr h
theorem tabs_upd {T : List (Addr × Str)} {H : Hp} {D : Addr} {xs ys : List V} (t : LamX.Tabs T H) (hD : H D = some (.lst xs)) : LamX.Tabs T (upd H D (.lst ys)) := fun p hp => by
  obtain ⟨ps, h1, h2, h3⟩ := t p hp
  refine ⟨ps, by rw [upd_ne (fun z => by rw [z, hD] at h1; cases h1)]; exact h1, h2, fun pos cv hc => ?_⟩
  obtain ⟨c, e1, e2⟩ := h3 pos cv hc
  exact ⟨c, e1, by rw [upd_ne (fun z => by rw [z, hD] at e2; cases e2)]; exact e2⟩
def sp_law (K : PySem.W.Frag) (cs : List (Addr × Addr)) : Sp := fun vs H Q _ => ∃ (c : Addr) (ns : List Int), vs = [.ref c] ∧ SqL K H c (ns.map V.int) ∧ Script ns ∧ (∀ p ∈ cs, H p.2 = some (.tbl #[])) ∧ ∀ H', Q (.bl true) H'
theorem ok_law (T : Top K mg) (hTB : LamX.TabB base mg (tabP K "least_sets").1 (tabP K "least_sets").2) : Ok P w K mg base 10 "law" s_law ["_law_cells"] (sp_law K [tabP K "least_sets"]) := by
  have G__law_right := ok__law_right (P := P) (w := w) (base := base) T hTB
  have G__law_jar := ok__law_jar (P := P) (w := w) (base := base) T
  refine T.d_law.ok sc_law (fun vs H Q E h => ?_) (fun f cdv A outer s H vs Q E hg hr h => ?_)
  · obtain ⟨c, ns, rfl, _⟩ := h
    rfl
  · obtain ⟨c, ns, rfl, hs, hn, htbl, q⟩ := h
    have ht0 : LamX.Tabs (lsK K) H := fun p hp => by
      unfold lsK at hp
      rw [List.mem_singleton.mp hp]
      exact ⟨#[], htbl _ (List.mem_singleton.mpr rfl), by trivial, fun pos cv hc => by simp [PySem.codeAmong] at hc⟩
    refine ⟨_, (pss_one (ps_ret (pe_callB (id := "all") (c_all rfl rfl) (by rfl) T.b_all (by decide +kernel) (pa_cons (pe_lc (own := [("_law_k", 1)]) (by rfl) sc_law.nd (pi_range1 (by rfl) T.b_range (pa_cons (pe_callB (id := "max") (c_max2 rfl) (by rfl) T.b_max (by decide +kernel) (pa_cons pe_int (pa_cons (pe_callB (id := "min") (c_min2 rfl) (by rfl) T.b_min (by decide +kernel) (pa_cons (pe_callB (id := "len") (c_len rfl) (by rfl) T.b_len (by decide +kernel) (pa_cons (pv 0) pa_nil)) (pa_cons pe_int pa_nil))) pa_nil))) pa_nil)) (blkOk_by (own := [("_law_k", 1)]) (N := ["_law_cells", "_law_k"]) (sc := defScope s_law) (by decide +kernel)) (fun _ _ _ _ _ => (pg_name (i := 1) sc_law.nd rfl (by first | exact Or.inl rfl | exact Or.inr rfl))) (fun _ _ _ _ _ => pts_nil) (fun _ _ _ _ _ => (pe_g G__law_right (fun _ _ F => bd__law_right F) hg (hr.mono (by decide)) passL (by rfl) (pa_cons (pe_g G__law_jar (fun _ _ F => bd__law_jar F) hg (hr.mono (by decide)) passL (by rfl) (pa_cons (pv 0) (pa_cons (pv 1) pa_nil))) pa_nil)))) pa_nil)))), ?_⟩
    walk_at "st"
    have E62 := e62
    rw [List.length_map]
    refine ⟨by omega, by omega, ?_⟩
    have hm : (max 2 (min (ns.length : Int) 3)).toNat ≤ 4 := by omega
    generalize (max 2 (min (ns.length : Int) 3)).toNat = m at *
    refine r_lcR (fun D i H' => LamX.ExtN H H' ∧ LamX.Tabs (lsK K) H' ∧ H' D = some (.lst ((List.replicate i true).map V.bl))) (fun D hD => ⟨LamX.ExtN.of (Same.new hD), ht0.ext (Same.new hD), upd_same⟩) (fun D i H' hD hi hP => ?_) (fun D H' hD hP => ?_)
    · obtain ⟨s1, tb1, d1⟩ := hP
      walk_at "go"
      refine ⟨rfl, ?_⟩
      walk_at "go"
      rw [Int.zero_add]
      refine ⟨c, ns, i, rfl, ExtN.seq s1 hs, hn, by omega, fun p H2 s2 n2 k2 => ?_⟩
      have npD : D ≠ p := ne_of_none d1 n2
      walk_at "go"
      refine ⟨p, rfl, k2, tb1.ext s2, fun H3 x3 tb3 => ?_⟩
      have d3 : H3 D = some (.lst ((List.replicate i true).map V.bl)) := x3 _ _ npD (s2 _ _ d1) (fun _ z => nomatch z)
      refine ⟨_, d3, ?_, fun b o e z => ?_, tabs_upd tb3 d3, ?_⟩
      · rw [List.length_map, List.length_replicate]
        exact Nat.lt_of_le_of_lt (show i ≤ 4 by omega) (by decide)
      · have nb : b ≠ D := ne_of_none e hD
        have e1 := s1 _ _ e z
        rw [upd_ne nb]
        exact x3 _ _ (ne_of_none e1 n2) (s2 _ _ e1) z
      · rw [upd_same, List.replicate_succ', List.map_append]
        rfl
    obtain ⟨s1, _, d1⟩ := hP
    refine r_all (SqL.of d1) ?_
    rw [show (List.replicate m true).all id = true by simp]
    exact q _
end
end K26
open PySem PySem.W PyProof.Rows
set_option maxHeartbeats 0 in
theorem PySem.Challenge.cw_restworld_k26_whole_exact_covers_holds : PySem.Challenge.rw_restworld_k26_whole_exact_covers.Holds := by
  w_on; o_law; k_head; (case hw => w_witness2)
  k_fill
  refine' Vf.walk_gT1 (c := ?cc) (P := ?PP) (l := PySem.Challenge.rw_restworld_k26_whole_exact_covers) (n := 63) (k := 10) (y := "_law_cells") (st := K26.s_law) (sp := K26.sp_law) (x := "least_sets") rfl (by decide) rfl ⟨rfl, by decide, by decide⟩ (fun w h Y => PySem.W.km_in_of Y) (by decide +kernel) ?htab ?hnon ?F (fun w f fd G => K26.bd_law G) (fun w H a ns hl hb ht hS => ⟨a, ns, rfl, hS, ⟨hl, hb⟩, fun p hp => by rw [List.mem_singleton.mp hp]; exact ht, fun _ => rfl⟩)
  case htab =>
    intro w
    refine' Vf.tabIn_of ?a ?l ?y ?z
    (case a => k_is)
    (case l => k_is)
    (case y => k_is)
    (case z => exact rfl)
  case hnon =>
    intro w
    first | k_is | kernel_rfl | exact rfl
  case F =>
    intro w mg h KX G base kb gb tb
    refine' K26.ok_law (K26.top_mk KX G ?a0 ?l0 ?c0 ?k0 ?a1 ?l1 ?c1 ?k1 ?a2 ?l2 ?c2 ?k2 ?a3 ?l3 ?c3 ?k3 ?a4 ?l4 ?c4 ?k4 ?a5 ?l5 ?c5 ?k5 ?a6 ?l6 ?c6 ?k6 ?a7 ?l7 ?c7 ?k7 ?a8 ?l8 ?c8 ?k8 ?a9 ?l9 ?c9 ?k9 ?a10 ?l10 ?c10 ?k10 ?a11 ?l11 ?c11 ?k11 ?a12 ?l12 ?c12 ?k12 ?a13 ?l13 ?c13 ?k13 ?a14 ?l14 ?c14 ?k14 ?a15 ?l15 ?c15 ?k15 ?a16 ?l16 ?c16 ?k16 ?a17 ?l17 ?c17 ?k17 ?a18 ?l18 ?c18 ?k18 ?a19 ?l19 ?c19 ?k19 ?a20 ?l20 ?c20_ ?k20 ?y20 ?z20 ?a21 ?l21 ?c21 ?k21 ?a22 ?l22 ?c22 ?k22 ?a23 ?l23 ?c23 ?k23 ?a24 ?l24 ?c24 ?k24 ?a25 ?l25 ?c25 ?k25 ?a26 ?l26 ?c26 ?k26 ?a27 ?l27 ?c27 ?k27 ?a28 ?l28 ?c28 ?k28 ?a29 ?l29 ?c29 ?k29 ?a30 ?l30 ?c30 ?k30 ?a31 ?l31 ?c31 ?k31 ?a32 ?l32 ?c32 ?k32 ?a33 ?l33 ?c33 ?k33 ?a34 ?l34 ?c34 ?k34 ?a35 ?l35 ?c35 ?k35 ?a36 ?l36 ?c36 ?k36 ?a37 ?l37 ?c37 ?k37 ?a38 ?l38 ?c38 ?k38 ?a39 ?l39 ?c39 ?k39 ?a40 ?l40 ?c40 ?k40 ?a41 ?l41 ?c41 ?k41 ?a42 ?l42 ?c42 ?k42 ?a43 ?l43 ?c43 ?k43 ?a44 ?l44 ?c44 ?k44 ?a45 ?l45 ?c45 ?k45 ?a46 ?l46 ?c46 ?k46 ?a47 ?l47 ?c47 ?k47 ?m_comb ?m_gcd ?m_lcm ?q_MOST_NUMBER ?q_MOST_FACT ?q_MOST_LAMPS ?b_abs ?b_all ?b_any ?b_bool ?b_divmod ?b_enumerate ?b_int ?b_isinstance ?b_len ?b_max ?b_min ?b_range ?b_sorted ?b_sum ?b_tuple ?b_zip) tb
    (case a0 => k_is)
    (case l0 => k_is)
    (case c0 => k_is)
    (case k0 => k_is)
    (case a1 => k_is)
    (case l1 => k_is)
    (case c1 => k_is)
    (case k1 => k_is)
    (case a2 => k_is)
    (case l2 => k_is)
    (case c2 => k_is)
    (case k2 => k_is)
    (case a3 => k_is)
    (case l3 => k_is)
    (case c3 => k_is)
    (case k3 => k_is)
    (case a4 => k_is)
    (case l4 => k_is)
    (case c4 => k_is)
    (case k4 => k_is)
    (case a5 => k_is)
    (case l5 => k_is)
    (case c5 => k_is)
    (case k5 => k_is)
    (case a6 => k_is)
    (case l6 => k_is)
    (case c6 => k_is)
    (case k6 => k_is)
    (case a7 => k_is)
    (case l7 => k_is)
    (case c7 => k_is)
    (case k7 => k_is)
    (case a8 => k_is)
    (case l8 => k_is)
    (case c8 => k_is)
    (case k8 => k_is)
    (case a9 => k_is)
    (case l9 => k_is)
    (case c9 => k_is)
    (case k9 => k_is)
    (case a10 => k_is)
    (case l10 => k_is)
    (case c10 => k_is)
    (case k10 => k_is)
    (case a11 => k_is)
    (case l11 => k_is)
    (case c11 => k_is)
    (case k11 => k_is)
    (case a12 => k_is)
    (case l12 => k_is)
    (case c12 => k_is)
    (case k12 => k_is)
    (case a13 => k_is)
    (case l13 => k_is)
    (case c13 => k_is)
    (case k13 => k_is)
    (case a14 => k_is)
    (case l14 => k_is)
    (case c14 => k_is)
    (case k14 => k_is)
    (case a15 => k_is)
    (case l15 => k_is)
    (case c15 => k_is)
    (case k15 => k_is)
    (case a16 => k_is)
    (case l16 => k_is)
    (case c16 => k_is)
    (case k16 => k_is)
    (case a17 => k_is)
    (case l17 => k_is)
    (case c17 => k_is)
    (case k17 => k_is)
    (case a18 => k_is)
    (case l18 => k_is)
    (case c18 => k_is)
    (case k18 => k_is)
    (case a19 => k_is)
    (case l19 => k_is)
    (case c19 => k_is)
    (case k19 => k_is)
    (case a20 => k_is)
    (case l20 => k_is)
    (case c20_ => k_is)
    (case k20 => k_is)
    (case y20 => k_is)
    (case z20 => rfl)
    (case a21 => k_is)
    (case l21 => k_is)
    (case c21 => k_is)
    (case k21 => k_is)
    (case a22 => k_is)
    (case l22 => k_is)
    (case c22 => k_is)
    (case k22 => k_is)
    (case a23 => k_is)
    (case l23 => k_is)
    (case c23 => k_is)
    (case k23 => k_is)
    (case a24 => k_is)
    (case l24 => k_is)
    (case c24 => k_is)
    (case k24 => k_is)
    (case a25 => k_is)
    (case l25 => k_is)
    (case c25 => k_is)
    (case k25 => k_is)
    (case a26 => k_is)
    (case l26 => k_is)
    (case c26 => k_is)
    (case k26 => k_is)
    (case a27 => k_is)
    (case l27 => k_is)
    (case c27 => k_is)
    (case k27 => k_is)
    (case a28 => k_is)
    (case l28 => k_is)
    (case c28 => k_is)
    (case k28 => k_is)
    (case a29 => k_is)
    (case l29 => k_is)
    (case c29 => k_is)
    (case k29 => k_is)
    (case a30 => k_is)
    (case l30 => k_is)
    (case c30 => k_is)
    (case k30 => k_is)
    (case a31 => k_is)
    (case l31 => k_is)
    (case c31 => k_is)
    (case k31 => k_is)
    (case a32 => k_is)
    (case l32 => k_is)
    (case c32 => k_is)
    (case k32 => k_is)
    (case a33 => k_is)
    (case l33 => k_is)
    (case c33 => k_is)
    (case k33 => k_is)
    (case a34 => k_is)
    (case l34 => k_is)
    (case c34 => k_is)
    (case k34 => k_is)
    (case a35 => k_is)
    (case l35 => k_is)
    (case c35 => k_is)
    (case k35 => k_is)
    (case a36 => k_is)
    (case l36 => k_is)
    (case c36 => k_is)
    (case k36 => k_is)
    (case a37 => k_is)
    (case l37 => k_is)
    (case c37 => k_is)
    (case k37 => k_is)
    (case a38 => k_is)
    (case l38 => k_is)
    (case c38 => k_is)
    (case k38 => k_is)
    (case a39 => k_is)
    (case l39 => k_is)
    (case c39 => k_is)
    (case k39 => k_is)
    (case a40 => k_is)
    (case l40 => k_is)
    (case c40 => k_is)
    (case k40 => k_is)
    (case a41 => k_is)
    (case l41 => k_is)
    (case c41 => k_is)
    (case k41 => k_is)
    (case a42 => k_is)
    (case l42 => k_is)
    (case c42 => k_is)
    (case k42 => k_is)
    (case a43 => k_is)
    (case l43 => k_is)
    (case c43 => k_is)
    (case k43 => k_is)
    (case a44 => k_is)
    (case l44 => k_is)
    (case c44 => k_is)
    (case k44 => k_is)
    (case a45 => k_is)
    (case l45 => k_is)
    (case c45 => k_is)
    (case k45 => k_is)
    (case a46 => k_is)
    (case l46 => k_is)
    (case c46 => k_is)
    (case k46 => k_is)
    (case a47 => k_is)
    (case l47 => k_is)
    (case c47 => k_is)
    (case k47 => k_is)
    (case m_comb => k_is)
    (case m_gcd => k_is)
    (case m_lcm => k_is)
    (case q_MOST_NUMBER => k_is)
    (case q_MOST_FACT => k_is)
    (case q_MOST_LAMPS => k_is)
    (case b_abs => k_is)
    (case b_all => k_is)
    (case b_any => k_is)
    (case b_bool => k_is)
    (case b_divmod => k_is)
    (case b_enumerate => k_is)
    (case b_int => k_is)
    (case b_isinstance => k_is)
    (case b_len => k_is)
    (case b_max => k_is)
    (case b_min => k_is)
    (case b_range => k_is)
    (case b_sorted => k_is)
    (case b_sum => k_is)
    (case b_tuple => k_is)
    (case b_zip => k_is)

