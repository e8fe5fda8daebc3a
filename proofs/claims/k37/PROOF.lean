import PyProof.Rows.All
import Wide.All
import OpenK.AllK
import Wide.FinOn
import HandS.ForMost
import HandS.WideBits
import HandS.WideMore
import HandS.Gcd
import HandS.IsInst
import HandS.EndBits
import HandS.WordsExc
import HandS.Style
import PyProof.ReprRoads
import HandS.Zip
import HandS.Zip0
import PyProof.EnumMake
import PyProof.Draws
import PyProof.AutoIntOps
import HandS.Conv
import KE.GoesZip
import KE.GoesMore
import HandS.Rev
import HandS.TupAny
import HandS.DictComp
import HandS.WordsDict
import HandS.ExcInit
import HandS.ExcField
import HandS.TryMany
import KE.KExcInit
import KE.KIntText
import HandS.Lambda
import HandS.EndTab
import KE.KNest
import PyProof.AttrMiss
import HandS.SortRule
import HandS.SortInts
import PyProof.P3Eq
import HandS.ExcOwn
import HandS.SortKw
import PyProof.WalkInts
import HandS.TupMul
import HandS.Strs
import HandS.Dict
import HandS.DictTup
import HandS.More
import KE.SortData
import HandS.Deep
import HandS.Sort
import KE.KStateDown
import HandS.Set
import HandS.SetFor
import PyProof.TupleOfGen
import KE.DataMinMax
import HandS.ExcIs
import KE.KTryMore
import HandS.HotCalls
import KE.KMathGC
import KE.KMathG
import HandS.Iter
import HandS.TupLen
import KE.KDictPairs
import HandS.ListItems
import PySem.Challenge.RW_restworld_k37_whole_rings_of_sums
set_option Elab.async false
set_option linter.all false
set_option maxRecDepth 100000
set_option maxHeartbeats 2000000
set_option exponentiation.threshold 256
namespace Vf
open PySem PySem.Spec PyProof.Rows L2

/-! ## a def of the text, known by its name, with its promise; entered only where no repr is under way -/
structure Ok (P : Program) (w : World) (K : PySem.W.Frag) (mg : Str → Option Value) (base : Heap) (k : Nat) (x : Str) (st : Stmt) (ps : List Str) (sp : Sp) : Prop where
  mk ::
  ex : ∃ f fd, L2.Fun K x x st f fd ∧ mg x = some (.ref f) ∧
    (∀ (A : Around) (outer : List Env) (s : Shared) (H : Hp) (args : Args) (us : List Value) (vs : List V) (Q : VK) (E : XK),
      A.guards = some [] → Room k A → Env0 P w K mg base A outer s H → BindsTo s fd args (ps.zip us) → Vals vs us → sp vs H Q E →
        codeAny (model P w) A (.call (.ref f) args) (CR (CX P w) outer P w H s Q E) s)
  len : ∀ vs H Q E, sp vs H Q E → vs.length = ps.length

/-- where a def of the text stands -/
def At (K : PySem.W.Frag) (mg : Str → Option Value) (x : Str) (st : Stmt) : Prop :=
  ∃ f fd, L2.Fun K x x st f fd ∧ mg x = some (.ref f)

section
variable {P : Program} {w : World} {K : PySem.W.Frag} {mg : Str → Option Value} {base : Heap} {k j : Nat} {x : Str} {st : Stmt} {ps N : List Str} {sp sp' : Sp}
theorem Ok.mono (G : Ok P w K mg base j x st ps sp) (h : j ≤ k) : Ok P w K mg base k x st ps sp := by
  obtain ⟨⟨f, fd, F, g, r⟩, l⟩ := G
  exact ⟨⟨f, fd, F, g, fun A outer s H args us vs Q E hg hr => r A outer s H args us vs Q E hg (hr.mono h)⟩, l⟩
theorem Ok.imp (G : Ok P w K mg base k x st ps sp) (h : ∀ vs H Q E, sp' vs H Q E → sp vs H Q E) : Ok P w K mg base k x st ps sp' := by
  obtain ⟨⟨f, fd, F, g, r⟩, l⟩ := G
  exact ⟨⟨f, fd, F, g, fun A outer s H args us vs Q E hg hr he hb hv hs => r A outer s H args us vs Q E hg hr he hb hv (h _ _ _ _ hs)⟩, fun vs H Q E q => l vs H Q E (h _ _ _ _ q)⟩

/-- the rule for a def: the term of its body, then its reading -/
theorem At.ok (a : At K mg x st) (S : FnScope N ps (defScope st)) (len : ∀ vs H Q E, sp vs H Q E → vs.length = ps.length)
    (hbody : ∀ (f : Addr) (cdv : Value) (A : Around) (outer : List Env) (s : Shared) (H : Hp) (vs : List V) (Q : VK) (E : XK),
      (A.deeper (envOfC x (defScope st) s.heap.objs.size f cdv)).guards = some [] →
      Room k (A.deeper (envOfC x (defScope st) s.heap.objs.size f cdv)) → sp vs H Q E →
      ∃ t, PSs (cxOf (CX P w) P w K mg base N x (defScope st) f cdv A outer s H E) (defBody st) t ∧
        t { nx := fun _ H' => Q .non H', rt := Q } (L2.start N vs) H) : Ok P w K mg base (k + 1) x st ps sp := by
  obtain ⟨f, fd, F, g⟩ := a
  have F2 := F
  obtain ⟨⟨oc, od, kV, doc, pm, an, cdv, ct, osl, rfl, lk, hcd⟩, kp⟩ := F
  refine ⟨⟨f, _, F2, g, fun A outer s H args us vs Q E hg hr e0 hb r hsp => ?_⟩, len⟩
  have hl := len _ _ _ _ hsp
  have stay : ∀ b o, base.get? b = some o → s.heap.get? b = some o := fun b o e => (e0.bs b o e).1
  have KX : K.In s.heap := e0.mod.kin.keeps stay
  have lim : s.heap.NoLimit := e0.mod.nolimit.keeps stay
  refine codeAny_call_function hr.depth (KX _ _ lk) rfl S.co S.gen rfl
    (PySem.W.codeRec_of KX hcd) (hb _ _ _ _ ?_)
  refine wpAny_newFunctionEnv_cells S.kind (fun ⟨n, v⟩ hy => ?_) fun env he s1 x1 => ?_
  · rcases S.par n (List.of_mem_zip hy).1 with q | q
    · exact Or.inl q
    · exact Or.inr ⟨q, PySem.W.cellsFrom_some _ _ _ (Or.inl q)⟩
  subst he
  refine ⟨lim.keeps x1.toInCall.keep, codeAny_func ?_⟩
  obtain ⟨t, ht, hq⟩ := hbody f cdv A outer s H vs Q E hg (hr.deeper _) hsp
  have I := inv_start (CX := CX P w) (E := E) S hr.hd e0 hl r x1
  refine wpAny_mono (ht.run [] s1 _ H _ I hq) (fun fl s' hs => ?_) fun e s' hs => hs
  cases fl with
  | ret u =>
    obtain ⟨v, σ', H', J, rv, q⟩ := hs
    exact ⟨v, H', J.os, J.bare, J.base, J.hok, rv, q⟩
  | next =>
    obtain ⟨σ', H', J, q⟩ := hs
    exact ⟨V.non, H', J.os, J.bare, J.base, J.hok, rfl, q⟩
  | brk =>
    obtain ⟨_, _, _, z⟩ := hs
    exact (show False from z).elim
  | cont =>
    obtain ⟨_, _, _, z⟩ := hs
    exact (show False from z).elim
end

section
variable {X : Cx} {k : Nat} {ps ks : List Str} {sp : Sp} {E : XK} {x : Str} {st : Stmt} {p pos : Pos} {e : Expr} {es : List Expr} {kws : List Keyword} {t tk : TA}
/-- the callee runs -/
theorem run_g {pins : List (Addr × Obj)} {σ : L2.St} {H : Hp} {s : Shared} {Q : VK} {us : List Value} {vs : List V} {f : Addr} {fd : FuncData} {args : Args}
    (r : ∀ (A : Around) (outer : List Env) (s : Shared) (H : Hp) (args : Args) (us : List Value) (vs : List V) (Q : VK) (E : XK),
      A.guards = some [] → Room k A → Env0 X.prog X.w X.K X.mg X.base A outer s H → BindsTo s fd args (ps.zip us) → Vals vs us → sp vs H Q E →
        codeAny (model X.prog X.w) A (.call (.ref f) args) (CR (CX X.prog X.w) outer X.prog X.w H s Q E) s)
    (hg : X.A.guards = some []) (hr : Room k X.A) (hx : Passes (CX X.prog X.w) X E)
    (I : Inv X pins σ H s) (hb : BindsTo s fd args (ps.zip us)) (hv : Vals vs us) (h : sp vs H Q E) :
    codeAny (model X.prog X.w) X.A (.call (.ref f) args)
      (fun r s' => match r with | .ok (.ret u) => EP X pins σ Q u s' | .ok _ => False | .error e => X.xe e s') s := by
  refine codeAny_mono (r X.A X.stack s H args us vs Q E hg hr I.env0 hb hv h) fun r s' hq => ?_
  cases r with
  | error e => exact hx pins σ H s e s' I hq
  | ok fl =>
    cases fl with
    | ret u => exact I.after hq
    | next => exact hq
    | brk => exact hq
    | cont => exact hq

/-- f(e, ..), every parameter given by its place -/
theorem pe_g (G : Ok X.prog X.w X.K X.mg X.base k x st ps sp) (b : ∀ f fd, L2.Fun X.K x x st f fd → L2.Binds X.K fd ps [])
    (hg : X.A.guards = some []) (hr : Room k X.A) (hx : Passes (CX X.prog X.w) X E) (gl : Gl X x) (ha : PA X (e :: es) t)
    (hdb : (x == ("__debug__" : Str)) = false := by decide)
    (he : starEach (e :: es) X.env = (false, eval e X.env) :: starEach es X.env := by rfl)
    (hpl : (backTo pos (starEach es X.env)).any (·.1) = false := by rfl) :
    PE X (.Call (.Name x p) (e :: es) [] pos) (tCall sp [] E t) := by
  obtain ⟨⟨f, fd, F, hm, r⟩, l⟩ := G
  refine ⟨fun pins s σ H Q I h => ?_⟩
  refine wpAny_Call_Name_kw (ld_glob I gl hm ?_ hdb)
  refine PySem.W.callWith_K (h₀ := X.base) I.ok.mod.kin F.kp
    (thn (ha.run pos pins s σ H _ I h) fun us s1 ⟨vs, H1, I1, r1, q⟩ => ⟨I1.kIn, ?_⟩) he hpl
  have q1 : sp (vs ++ []) H1 Q E := q
  rw [List.append_nil] at q1
  have hl : us.length = ps.length := by rw [← r1.length]; exact l _ _ _ _ q1
  have bb := b f fd F s1 us I1.kIn (by rw [List.append_nil]; exact hl)
  rw [List.append_nil] at bb
  refine wpAny_call (codeAny_mono (run_g r hg hr hx I1 bb r1 q1) fun z s' hz => ?_)
  cases z with
  | error e => exact hz
  | ok fl => cases fl <;> exact hz
/-- f(.., k = v) -/
theorem pe_gk {gf : List Value → List Value → List Value} {gV : List V → List V → List V} (G : Ok X.prog X.w X.K X.mg X.base k x st ps sp)
    (b : ∀ f fd, L2.Fun X.K x x st f fd → KBinds X.K fd ps ks gf gV)
    (hg : X.A.guards = some []) (hr : Room k X.A) (hx : Passes (CX X.prog X.w) X E) (gl : Gl X x) (ha : PA X (e :: es) t) (hkw : PK X kws tk)
    (hall : (backToKw pos (keywordEach kws X.env)).all (·.1.isSome) = true := by rfl)
    (hks : (backToKw pos (keywordEach kws X.env)).filterMap (·.1) = ks := by rfl) (hdb : (x == ("__debug__" : Str)) = false := by decide)
    (he : starEach (e :: es) X.env = (false, eval e X.env) :: starEach es X.env := by rfl)
    (hpl : ((backTo pos (starEach (e :: es) X.env)).any (·.1) || (backToKw pos (keywordEach kws X.env)).any (·.1.isNone)) = false := by rfl) :
    PE X (.Call (.Name x p) (e :: es) kws pos) (tCallK sp gV E t tk) := by
  obtain ⟨⟨f, fd, F, hm, r⟩, l⟩ := G
  refine ⟨fun pins s σ H Q I h => ?_⟩
  refine wpAny_Call_Name_kw (ld_glob I gl hm ?_ hdb)
  refine PySem.W.callWith_KW (h₀ := X.base) I.ok.mod.kin F.kp hall
    (thn (ha.run pos pins s σ H _ I h) fun us s1 ⟨vs, H1, I1, r1, q⟩ => ?_) hpl he
  refine thn (hkw.run pos pins s1 σ H1 _ I1 q) fun ws s2 ⟨zs, H2, I2, rz, q2⟩ => ⟨I2.kIn, ?_⟩
  rw [hks]
  have B := b f fd F
  have r2 := B.rel r1 rz
  have hl : (gf us ws).length = ps.length := by rw [← r2.length]; exact l _ _ _ _ q2
  refine wpAny_call (codeAny_mono (run_g r hg hr hx I2 (B.to s2 us ws I2.kIn hl) r2 q2) fun z s' hz => ?_)
  cases z with
  | error e => exact hz
  | ok fl => cases fl <;> exact hz
/-- f(k = v, ..): keywords alone -/
theorem pe_gk0 {gf : List Value → List Value → List Value} {gV : List V → List V → List V} (G : Ok X.prog X.w X.K X.mg X.base k x st ps sp)
    (b : ∀ f fd, L2.Fun X.K x x st f fd → KBinds X.K fd ps ks gf gV)
    (hg : X.A.guards = some []) (hr : Room k X.A) (hx : Passes (CX X.prog X.w) X E) (gl : Gl X x) (hkw : PK X kws tk)
    (hall : (backToKw pos (keywordEach kws X.env)).all (·.1.isSome) = true := by rfl)
    (hks : (backToKw pos (keywordEach kws X.env)).filterMap (·.1) = ks := by rfl) (hdb : (x == ("__debug__" : Str)) = false := by decide)
    (hpl : ((backTo pos (starEach [] X.env)).any (·.1) || (backToKw pos (keywordEach kws X.env)).any (·.1.isNone)) = false := by rfl) :
    PE X (.Call (.Name x p) [] kws pos) (tCallK sp gV E tNil tk) := by
  obtain ⟨⟨f, fd, F, hm, r⟩, l⟩ := G
  refine ⟨fun pins s σ H Q I h => ?_⟩
  refine wpAny_Call_Name_kw (ld_glob I gl hm ?_ hdb)
  refine PySem.W.callWith_KW0 (h₀ := X.base) I.ok.mod.kin F.kp hall
    (thn (hkw.run pos pins s σ H _ I h) fun ws s2 ⟨zs, H2, I2, rz, q2⟩ => ⟨I2.kIn, ?_⟩) hpl
  rw [hks]
  have B := b f fd F
  have r2 := B.rel .nil rz
  have hl : (gf [] ws).length = ps.length := by rw [← r2.length]; exact l _ _ _ _ q2
  refine wpAny_call (codeAny_mono (run_g r hg hr hx I2 (B.to s2 [] ws I2.kIn hl) r2 q2) fun z s' hz => ?_)
  cases z with
  | error e => exact hz
  | ok fl => cases fl <;> exact hz
/-- f() -/
theorem pe_g0 (G : Ok X.prog X.w X.K X.mg X.base k x st ps sp) (b : ∀ f fd, L2.Fun X.K x x st f fd → L2.Binds X.K fd ps [])
    (hg : X.A.guards = some []) (hr : Room k X.A) (hx : Passes (CX X.prog X.w) X E) (gl : Gl X x)
    (hdb : (x == ("__debug__" : Str)) = false := by decide) : PE X (.Call (.Name x p) [] [] pos) (tCall sp [] E tNil) := by
  obtain ⟨⟨f, fd, F, hm, r⟩, l⟩ := G
  refine ⟨fun pins s σ H Q I h => ?_⟩
  refine wpAny_Call_Name_kw (ld_glob I gl hm ?_ hdb)
  have q1 : sp [] H Q E := h
  have bb := b f fd F s [] I.kIn (by rw [List.append_nil]; have := l _ _ _ _ q1; exact this)
  rw [List.append_nil] at bb
  refine PySem.W.callWith_K0 I.kIn F.kp (wpAny_call (codeAny_mono (run_g r hg hr hx I bb .nil q1) fun z s' hz => ?_))
  cases z with
  | error e => exact hz
  | ok fl => cases fl <;> exact hz
end
end Vf

namespace Vf
open PySem PySem.Spec PyProof.Rows L2
/-! ## more rules -/
theorem Dp.noDict {K : PySem.W.Frag} {H : Hp} : ∀ (d : PyData) (v : V), Dp K H v d → d.hasDict = false
  | .none, _, _ => rfl
  | .bool _, _, _ => rfl
  | .int _, _, _ => rfl
  | .str _, _, _ => rfl
  | .list ds, _, h => by
    cases h with
    | lst _ ha => exact DpAllN ds _ ha
  | .tuple ds, _, h => by
    cases h with
    | tup _ ha => exact DpAllN ds _ ha
  | .dict _, _, h => by cases h
where
  DpAllN {K : PySem.W.Frag} {H : Hp} : ∀ (ds : List PyData) (vs : List V), DpAll K H vs ds → PyData.hasDictAll ds = false
  | [], _, _ => rfl
  | d :: ds, _, h => by
    cases h with
    | cons h1 h2 =>
      have e1 := Dp.noDict d _ h1
      have e2 := DpAllN ds _ h2
      simp only [PyData.hasDictAll, e1, e2, Bool.or_self]
section
variable {X : Cx}
/-- repr of a list or a tuple of data -/
def rRepr (K : PySem.W.Frag) : List V → Hp → VK → Prop := fun xs H Q => ∃ (a : Addr) (d : PyData), xs = [.ref a] ∧ Dp K H (.ref a) d ∧ d.showable = true ∧
  d.depth ≤ 40 ∧ d.shown.length ≤ sizeLine ∧ Q (.str d.shown) H
theorem cr_repr (hg : X.A.guards = some []) (hu : X.A.units + 64 < cLine) : CallR X (.builtin "repr") (rRepr X.K) := by
  intro pins s σ H xs us Q I r h
  obtain ⟨a, d, rfl, hd, hs, hdp, hz, q⟩ := h
  have e := Vals.ref1 r
  subst e
  obtain ⟨as, rd⟩ := Dp.reads I d _ (.ref a) hd rfl
  refine repr_of_reads' rd hs (fun z => ?_) hg (by omega) (fun _ _ z => z) (fun h' u tk k => ⟨.str d.shown, H, I.kept k, ⟨_, rfl⟩, q⟩) hz
  rw [Dp.noDict d _ hd] at z
  cases z
/-- math.lcm of two ints -/
def rLcm : List V → Hp → VK → Prop := fun vs H Q => ∃ a b : Int, vs = [.int a, .int b] ∧ a.natAbs < 2 ^ 9000 ∧ b.natAbs < 2 ^ 9000 ∧ Q (.int ((Nat.lcm a.natAbs b.natAbs : Nat) : Int)) H
theorem log_lim {n k : Nat} (h : n < 2 ^ k) (hk : 0 < k) : n.log2 < k := PySem.Flt.log2_lt_of hk h
theorem cr_lcm : CallR X (.builtin "math.lcm") rLcm := by
  intro pins s σ H vs us Q I r h
  obtain ⟨a, b, rfl, ha, hb, q⟩ := h
  obtain ⟨t, u, rfl⟩ := Vals.int2 r
  have h1 : (max 1 a.natAbs).log2 < 9000 := log_lim (Nat.max_lt.mpr ⟨Nat.one_lt_two_pow (by decide), ha⟩) (by decide)
  have h2 : (max a.natAbs b.natAbs).log2 < 9000 := log_lim (Nat.max_lt.mpr ⟨ha, hb⟩) (by decide)
  have e1 : Nat.lcm 1 a.natAbs = a.natAbs := Nat.lcm_one_left _
  have hz : (((Nat.lcm 1 a.natAbs).lcm b.natAbs : Nat) : Int).natAbs.log2 < bitsLine := by
    rw [e1, Int.natAbs_natCast]
    have hl : Nat.lcm a.natAbs b.natAbs ≤ a.natAbs * b.natAbs := by
      rcases Nat.eq_zero_or_pos (a.natAbs * b.natAbs) with z | z
      · have : Nat.lcm a.natAbs b.natAbs = 0 := by unfold Nat.lcm; rw [z]; exact Nat.zero_div _
        omega
      · exact Nat.le_of_dvd z (Nat.lcm_dvd (Nat.dvd_mul_right _ _) (Nat.dvd_mul_left _ _))
    have hm : a.natAbs * b.natAbs < 2 ^ 18000 := by
      have := Nat.mul_lt_mul'' ha hb
      rw [← Nat.pow_add] at this
      exact this
    have : Nat.log2 (Nat.lcm a.natAbs b.natAbs) < 18000 := log_lim (Nat.lt_of_le_of_lt hl hm) (by decide)
    have e : bitsLine = 134217728 := by decide
    omega
  have g := PySem.W.mg_run_lcm a t b u (by omega) (by omega) hz
  rw [e1] at g
  exact call_function_meets PySem.W.MGF.kind_lcm PySem.W.MGF.plain_lcm PySem.W.MGF.entry_lcm (PySem.W.MGF.args_lcm _ _) g.meets ⟨.int _, H, I.tok _, ⟨_, rfl⟩, q⟩

/-- // by any divisor of fewer than 9000 bits -/
def CDivG (_ j : Int) : Prop := j ≠ 0 ∧ j.natAbs < 2 ^ 9000
theorem op_fdivG : OpR X (binaryOp .FloorDiv) (rI CDivG fun i j => .int (i.fdiv j)) :=
  opI fun i j _ _ _ _ _ hc q => floordiv_int hc.1 q (.inl (PyProof.noPylong_of_log2 (log_lim hc.2 (by decide))))
/-- == and != of two ints -/
theorem op_eqZ : OpR X (compareOp .Eq) (rI0 fun i j => .bl (decide (i = j))) := by
  intro pins s σ H x y u v Q I rx ry h
  obtain ⟨i, j, rfl, rfl, q⟩ := h
  refine op_eq pins s σ H _ _ u v Q I rx ry ⟨rfl, ?_⟩
  have e : decide (V.int i = V.int j) = decide (i = j) := by
    by_cases z : i = j
    · subst z; simp
    · simp [z]
  rw [e]
  exact q
theorem op_neZ : OpR X (compareOp .NotEq) (rI0 fun i j => .bl (!decide (i = j))) := by
  intro pins s σ H x y u v Q I rx ry h
  obtain ⟨i, j, rfl, rfl, q⟩ := h
  refine op_ne pins s σ H _ _ u v Q I rx ry ⟨rfl, ?_⟩
  have e : decide (V.int i = V.int j) = decide (i = j) := by
    by_cases z : i = j
    · subst z; simp
    · simp [z]
  rw [e]
  exact q
/-- == and != of two texts -/
theorem op_eqS : OpR X (compareOp .Eq) (fun x y H Q => ∃ i j, x = .str i ∧ y = .str j ∧ Q (.bl (decide (i = j))) H) := by
  intro pins s σ H x y u v Q I rx ry h
  obtain ⟨i, j, rfl, rfl, q⟩ := h
  refine op_eq pins s σ H _ _ u v Q I rx ry ⟨rfl, ?_⟩
  have e : decide (V.str i = V.str j) = decide (i = j) := by
    by_cases z : i = j
    · subst z; simp
    · simp [z]
  rw [e]
  exact q
theorem op_neS : OpR X (compareOp .NotEq) (fun x y H Q => ∃ i j, x = .str i ∧ y = .str j ∧ Q (.bl (!decide (i = j))) H) := by
  intro pins s σ H x y u v Q I rx ry h
  obtain ⟨i, j, rfl, rfl, q⟩ := h
  refine op_ne pins s σ H _ _ u v Q I rx ry ⟨rfl, ?_⟩
  have e : decide (V.str i = V.str j) = decide (i = j) := by
    by_cases z : i = j
    · subst z; simp
    · simp [z]
  rw [e]
  exact q
/-- a module's int -/
theorem pe_gi {x : Str} {i : Int} {pos : Pos} (hm : ∃ t, X.mg x = some (.int i t)) (hg : Gl X x) (hd : (x == ("__debug__" : Str)) = false := by decide) : PE X (.Name x pos) (tC (.int i)) := by
  obtain ⟨t, hm⟩ := hm
  exact pe_glob hg hm ⟨t, rfl⟩ hd
end
/-! ## the rules by the written part K alone, each with a name for its reading -/
def rLenQ (K : PySem.W.Frag) : List V → Hp → VK → Prop := fun xs H Q => ∃ p ys, xs = [.ref p] ∧ (SqL K H p ys ∨ SqT K H p ys) ∧ Q (.int ys.length) H
def rLenStr : List V → Hp → VK → Prop := fun xs H Q => ∃ z, xs = [.str z] ∧ z.length ≤ sizeLine ∧ Q (.int z.length) H
def rListQ (K : PySem.W.Frag) : List V → Hp → VK → Prop := fun xs H Q => ∃ p ys, xs = [.ref p] ∧ (SqL K H p ys ∨ SqT K H p ys) ∧ ∀ l, H l = none → Q (.ref l) (upd H l (.lst ys))
def rTupQ (K : PySem.W.Frag) : List V → Hp → VK → Prop := fun xs H Q => ∃ p ys, xs = [.ref p] ∧ ((SqL K H p ys ∧ ∀ l, H l = none → Q (.ref l) (upd H l (.tup ys))) ∨ (SqT K H p ys ∧ Q (.ref p) H))
def rAbs : List V → Hp → VK → Prop := fun xs H Q => ∃ i, xs = [.int i] ∧ Q (.int (if i < 0 then -i else i)) H
def rMax2 : List V → Hp → VK → Prop := fun xs H Q => ∃ i j, xs = [.int i, .int j] ∧ Q (.int (if j > i then j else i)) H
def rMin2 : List V → Hp → VK → Prop := fun xs H Q => ∃ i j, xs = [.int i, .int j] ∧ Q (.int (if j < i then j else i)) H
def rInt1 : List V → Hp → VK → Prop := fun xs H Q => (∃ i, xs = [.int i] ∧ Q (.int i) H) ∨ ∃ k, xs = [.bl k] ∧ Q (.int (if k then 1 else 0)) H
def rDivmod : List V → Hp → VK → Prop := fun xs H Q => ∃ i j, xs = [.int i, .int j] ∧ CDivP i j ∧ ∀ p, H p = none → Q (.ref p) (upd H p (.tup [.int (i / j), .int (i % j)]))
section
variable {X : Cx} {K : PySem.W.Frag}
theorem c_len (e : X.K = K) : CallR X (.builtin "len") (rLenQ K) := by subst e; exact call_len_seq
theorem c_lenS : CallR X (.builtin "len") rLenStr := call_len_str
theorem c_list (e : X.K = K) : CallR X (.type "list") (rListQ K) := by subst e; exact call_list_of
theorem c_tuple (e : X.K = K) : CallR X (.type "tuple") (rTupQ K) := by subst e; exact call_tuple_of
theorem c_abs : CallR X (.builtin "abs") rAbs := call_abs
theorem c_max2 (h : X.calm = true) : CallR X (.builtin "max") rMax2 := call_max2 h
theorem c_min2 (h : X.calm = true) : CallR X (.builtin "min") rMin2 := call_min2 h
theorem c_int : CallR X (.type "int") rInt1 := call_int1
theorem c_divmod : CallR X (.builtin "divmod") rDivmod := call_divmodW
theorem c_isi (e : X.K = K) : CallR X (.builtin "isinstance") (rIsi K) := by subst e; exact call_isi
theorem c_repr (e : X.K = K) (hg : X.A.guards = some []) (hu : X.A.units + 64 < cLine) : CallR X (.builtin "repr") (rRepr K) := by subst e; exact cr_repr hg hu
theorem c_all (e : X.K = K) (h : X.calm = true) : CallR X (.builtin "all") (rAll K) := by subst e; exact cr_all h
theorem c_any (e : X.K = K) (h : X.calm = true) : CallR X (.builtin "any") (rAny K) := by subst e; exact cr_any h
theorem c_sum (e : X.K = K) (h : X.calm = true) : CallR X (.builtin "sum") (rSum K) := by subst e; exact cr_sum h
theorem c_maxL (e : X.K = K) (h : X.calm = true) : CallR X (.builtin "max") (rMax K) := by subst e; exact cr_max h
theorem c_minL (e : X.K = K) (h : X.calm = true) : CallR X (.builtin "min") (rMin K) := by subst e; exact cr_min h
theorem x_list (e : X.K = K) : IxR X (rIxL K) := by subst e; exact ix_list
theorem x_tup (e : X.K = K) : IxR X (rIxT K) := by subst e; exact ix_tup
theorem o_eqD (e : X.K = K) (hu : X.A.units + 64 < cLine) : OpR X (compareOp .Eq) (rEqD K) := by subst e; exact op_eqD hu
theorem o_neD (e : X.K = K) (hu : X.A.units + 64 < cLine) : OpR X (compareOp .NotEq) (rNeD K) := by subst e; exact op_neD hu
theorem o_in (e : X.K = K) : OpR X (compareOp .In) (rIn K false) := by subst e; exact op_in_seq
theorem o_notIn (e : X.K = K) : OpR X (compareOp .NotIn) (rIn K true) := by subst e; exact op_notIn_seq
theorem o_catT (e : X.K = K) : OpR X (binaryOp .Add) (rCatT K) := by subst e; exact op_catT
theorem s_list (e : X.K = K) : SlR X (rSlL K) := by subst e; exact sl_list
theorem s_tup (e : X.K = K) : SlR X (rSlT K) := by subst e; exact sl_tup
theorem i_list {tg l : Expr} {tl : TE} (e : X.K = K) (hl : PE X l tl) : PI X tg l (iList K tl) := by subst e; exact pi_list hl
theorem i_tup' {tg l : Expr} {tl : TE} (e : X.K = K) (hl : PE X l tl) : PI X tg l (iTup K tl) := by subst e; exact pi_tup hl
theorem g_tup {es : List Expr} {k : Nat} {t : TGs} {n : Nat} {pos : Pos} (e : X.K = K) (hc : X.calm = true) (h : PGs X es t) (hn : (assignEach es X.env).length = n)
    (hst : (assignEach es X.env).findIdx? (·.1) = none) : PG X (.Tuple es k pos) (gTup K n t) := by
  subst e
  exact pg_tup hc h hn hst
end
end Vf

namespace Vf
open PySem PySem.Spec PyProof.Rows L2
/-! ## heaps -/
/-- all but what stands at k is as it was -/
def Kx (k : Addr) (H H' : Hp) : Prop := ∀ b o, b ≠ k → H b = some o → H' b = some o
theorem Kx.refl {k : Addr} (H : Hp) : Kx k H H := fun _ _ _ h => h
theorem Kx.trans {k : Addr} {H H1 H2 : Hp} (a : Kx k H H1) (b : Kx k H1 H2) : Kx k H H2 := fun c o n h => b c o n (a c o n h)
theorem Kx.same {k : Addr} {H H1 H2 : Hp} (a : Kx k H H1) (b : Same H1 H2) : Kx k H H2 := fun c o n h => b c o (a c o n h)
theorem Same.kx {k : Addr} {H H1 H2 : Hp} (a : Same H H1) (b : Kx k H1 H2) : Kx k H H2 := fun c o n h => b c o n (a c o h)
theorem Same.toKx {k : Addr} {H H1 : Hp} (a : Same H H1) : Kx k H H1 := fun c o _ h => a c o h
theorem Same.new {H : Hp} {p : Addr} {o : HO} (h : H p = none) : Same H (upd H p o) := fun a u e => by
  rw [upd_ne (ne_of_none e h)]
  exact e
theorem Kx.upd {H : Hp} {k : Addr} {o : HO} : Kx k H (upd H k o) := fun a u n e => by
  rw [upd_ne n]
  exact e
theorem at_new {H : Hp} {a p : Addr} {o u : HO} (h : H p = none) (e : H a = some u) : upd H p o a = some u := Same.new h a u e
theorem at_ne {H : Hp} {a p : Addr} {o u : HO} (h : a ≠ p) (e : H a = some u) : upd H p o a = some u := by rw [upd_ne h]; exact e
theorem at_same {H H' : Hp} {a : Addr} {u : HO} (h : Same H H') (e : H a = some u) : H' a = some u := h a u e
theorem at_kx {k : Addr} {H H' : Hp} {a : Addr} {u : HO} (h : Kx k H H') (n : a ≠ k) (e : H a = some u) : H' a = some u := h a u n e
theorem Kx.list {K : PySem.W.Frag} {k : Addr} {H H' : Hp} {a : Addr} {xs : List V} (e : Kx k H H') (n : a ≠ k) (h : SqL K H a xs) : SqL K H' a xs := by
  rcases h with (h | ⟨o, h⟩) | h
  · exact Or.inl (Or.inl (e _ _ n h))
  · exact Or.inl (Or.inr ⟨o, e _ _ n h⟩)
  · exact Or.inr h
theorem Kx.tup {K : PySem.W.Frag} {k : Addr} {H H' : Hp} {a : Addr} {xs : List V} (e : Kx k H H') (n : a ≠ k) (h : SqT K H a xs) : SqT K H' a xs := by
  rcases h with (h | ⟨o, h⟩) | h
  · exact Or.inl (Or.inl (e _ _ n h))
  · exact Or.inl (Or.inr ⟨o, e _ _ n h⟩)
  · exact Or.inr h
theorem Same.list {K : PySem.W.Frag} {H H' : Hp} {a : Addr} {xs : List V} (e : Same H H') (h : SqL K H a xs) : SqL K H' a xs := e.seq h
theorem Same.tup {K : PySem.W.Frag} {H H' : Hp} {a : Addr} {xs : List V} (e : Same H H') (h : SqT K H a xs) : SqT K H' a xs := by
  rcases h with (h | ⟨o, h⟩) | h
  · exact Or.inl (Or.inl (e _ _ h))
  · exact Or.inl (Or.inr ⟨o, e _ _ h⟩)
  · exact Or.inr h
theorem new_list {K : PySem.W.Frag} {H : Hp} {a p : Addr} {o : HO} {xs : List V} (h : H p = none) (e : SqL K H a xs) : SqL K (upd H p o) a xs := (Same.new h).seq e
theorem new_tup {K : PySem.W.Frag} {H : Hp} {a p : Addr} {o : HO} {xs : List V} (h : H p = none) (e : SqT K H a xs) : SqT K (upd H p o) a xs := Same.tup (Same.new h) e
theorem ne_list {K : PySem.W.Frag} {H : Hp} {a p : Addr} {o : HO} {xs : List V} (h : a ≠ p) (e : SqL K H a xs) : SqL K (upd H p o) a xs := Kx.list Kx.upd h e
theorem ne_tup {K : PySem.W.Frag} {H : Hp} {a p : Addr} {o : HO} {xs : List V} (h : a ≠ p) (e : SqT K H a xs) : SqT K (upd H p o) a xs := Kx.tup Kx.upd h e

theorem none_up {H : Hp} {p q : Addr} {o : HO} (h : upd H p o q = none) : H q = none := by
  by_cases e : q = p
  · subst e
    rw [upd_same] at h
    cases h
  · rw [upd_ne e] at h
    exact h
theorem none_same {H H' : Hp} {q : Addr} (e : Same H H') (h : H' q = none) : H q = none := e.free h
theorem none_kx {H H' : Hp} {k q : Addr} {o : HO} (e : Kx k H H') (hk : H' k = some o) (h : H' q = none) : H q = none := by
  cases z : H q with
  | none => rfl
  | some u =>
    have n : q ≠ k := fun c => by rw [c, hk] at h; cases h
    rw [e q u n z] at h
    cases h
/-- a new tuple, a new list, handed back -/
def NewT (xs : List V) (H : Hp) (Q : VK) : Prop := ∀ p H', Same H H' → H p = none → H' p = some (.tup xs) → Q (.ref p) H'
def NewL (xs : List V) (H : Hp) (Q : VK) : Prop := ∀ p H', Same H H' → H p = none → H' p = some (.lst xs) → Q (.ref p) H'
/-! ## readings, one step each -/
section
variable {K : PySem.W.Frag} {D : Ends} {σ : L2.St} {H : Hp} {Q : VK} {t u : TS} {te ta tb tc : TE} {tt tt2 : TT} {v x y : V} {i j : Nat} {g : TG} {gs : TGs} {tas : TA}
theorem r_seq (h : t { D with nx := u D } σ H) : tSeq t u D σ H := h
theorem r_asg (h : te σ H fun v H1 => g v σ H1 D.nx) : tAsg te g D σ H := h
theorem r_name {R : L2.St → Hp → Prop} (h : R (σ.set i (some v)) H) : gName i v σ H R := h
theorem r_gtup {R : L2.St → Hp → Prop} {a : Addr} {xs : List V} {n : Nat} (hs : SqT K H a xs) (hn : xs.length = n) (h : gs xs σ H R) : gTup K n gs (.ref a) σ H R := ⟨a, xs, rfl, hs, hn, h⟩
theorem r_gcons {R : L2.St → Hp → Prop} {r : List V} (h : g v σ H fun σ' H' => gs r σ' H' R) : gCons g gs (v :: r) σ H R := ⟨v, r, rfl, h⟩
theorem r_gnil {R : L2.St → Hp → Prop} (h : R σ H) : gNil [] σ H R := ⟨rfl, h⟩
theorem r_gsub {R : L2.St → Hp → Prop} {ts : TSet} (h : ta σ H fun o H1 => tb σ H1 fun i H2 => ts o i v H2 fun H3 => R σ H3) : gSub ta tb ts v σ H R := h
theorem r_setL {R : Hp → Prop} {p : Addr} {k : Int} {xs : List V} (hp : H p = some (.lst xs)) (hj : ixN xs.length k = some j) (h : R (upd H p (.lst (xs.set j v)))) : rSetL (.ref p) (.int k) v H R := ⟨p, xs, k, j, rfl, rfl, hp, hj, h⟩
theorem r_par (h : tas σ H fun vs H1 => ∃ v w, vs = [v, w] ∧ D.nx ((σ.set i (some v)).set j (some w)) H1) : tPar i j tas D σ H := h
theorem r_par3 {l : Nat} (h : tas σ H fun vs H1 => ∃ u v w, vs = [u, v, w] ∧ D.nx (((σ.set i (some u)).set j (some v)).set l (some w)) H1) : tPar3 i j l tas D σ H := h
theorem r_aug {ti : TIp} (e : σ[i]? = some (some x)) (h : te σ H fun y H1 => ti x y H1 fun z H2 => D.nx (σ.set i (some z)) H2) : tAug i te ti D σ H := ⟨x, e, h⟩
theorem r_ip {f : Int → Int → Int} {a b : Int} (h : Q (.int (f a b)) H) : ipI f (.int a) (.int b) H Q := ⟨a, b, rfl, rfl, h⟩
theorem r_drop (h : te σ H fun _ H1 => D.nx σ H1) : tDrop te D σ H := h
theorem r_ret (h : te σ H D.rt) : tRet te D σ H := h
theorem r_retN (h : D.rt .non H) : tRetN D σ H := h
theorem r_if (h : tt σ H fun b H1 => if b = true then t D σ H1 else u D σ H1) : tIfS tt t u D σ H := h
theorem r_next (h : D.nx σ H) : tNext D σ H := h
theorem r_break (h : D.bk σ H) : tBreak D σ H := h
theorem r_cont (h : D.ct σ H) : tCont D σ H := h
theorem r_var (e : σ[i]? = some (some v)) (h : Q v H) : tVar i σ H Q := ⟨v, e, h⟩
theorem r_yes {R : Bool → Hp → Prop} (h : R true H) : tYes σ H R := h
theorem r_c (h : Q v H) : tC v σ H Q := h
theorem r_op {r : R2} (h : ta σ H fun x H1 => tb σ H1 fun y H2 => r x y H2 Q) : tOp r ta tb σ H Q := h
theorem r_un {r : V → Hp → VK → Prop} (h : ta σ H fun x H1 => r x H1 Q) : tUn r ta σ H Q := h
theorem r_rI0 {f : Int → Int → V} {a b : Int} (h : Q (f a b) H) : rI0 f (.int a) (.int b) H Q := ⟨a, b, rfl, rfl, h⟩
theorem r_rU {f : Int → V} {a : Int} (h : Q (f a) H) : rU f (.int a) H Q := ⟨a, rfl, h⟩
theorem r_rI {C : Int → Int → Prop} {f : Int → Int → V} {a b : Int} (c : C a b) (h : Q (f a b) H) : rI C f (.int a) (.int b) H Q := ⟨a, b, rfl, rfl, c, h⟩
theorem r_test {R : Bool → Hp → Prop} (h : te σ H fun x H1 => ∃ k, x = .bl k ∧ R k H1) : tTest te σ H R := h
theorem r_B {R : Bool → Hp → Prop} (h : te σ H fun x H1 => ∃ k, x = .bl k ∧ R k H1) : tB te σ H R := h
theorem r_and {R : Bool → Hp → Prop} (h : tt σ H fun c H1 => if c = true then tt2 σ H1 R else R false H1) : tAnd tt tt2 σ H R := h
theorem r_or {R : Bool → Hp → Prop} (h : tt σ H fun c H1 => if c = true then R true H1 else tt2 σ H1 R) : tOr tt tt2 σ H R := h
theorem r_not {R : Bool → Hp → Prop} (h : tt σ H fun c H1 => R (!c) H1) : tNot tt σ H R := h
theorem r_andV (h : ta σ H fun x H1 => ∃ c, x = .bl c ∧ if c = true then tb σ H1 Q else Q (.bl false) H1) : tAndV ta tb σ H Q := h
theorem r_orV (h : ta σ H fun x H1 => ∃ c, x = .bl c ∧ if c = true then Q (.bl true) H1 else tb σ H1 Q) : tOrV ta tb σ H Q := h
theorem r_notV (h : ta σ H fun x H1 => ∃ c, x = .bl c ∧ Q (.bl (!c)) H1) : tNotV ta σ H Q := h
theorem r_ifE (h : tt σ H fun c H1 => if c = true then ta σ H1 Q else tb σ H1 Q) : tIf tt ta tb σ H Q := h
theorem r_chain {r r' : R2} (h : ta σ H fun x H1 => tb σ H1 fun y H2 => r x y H2 fun z H3 => ∃ k, z = .bl k ∧
  (if k = true then tc σ H3 fun w' H4 => r' y w' H4 Q else Q (.bl false) H3)) : tChain r r' ta tb tc σ H Q := h
theorem r_cons {R : List V → Hp → Prop} (h : ta σ H fun x H1 => tas σ H1 fun xs H2 => R (x :: xs) H2) : tCons ta tas σ H R := h
theorem r_nil {R : List V → Hp → Prop} (h : R [] H) : tNil σ H R := h
theorem r_tup (h : tas σ H fun xs H1 => xs.length ≤ sizeLine ∧ ∀ p, H1 p = none → Q (.ref p) (upd H1 p (.tup xs))) : tTup tas σ H Q := h
theorem r_lst (h : tas σ H fun xs H1 => xs.length ≤ sizeLine ∧ ∀ p, H1 p = none → Q (.ref p) (upd H1 p (.lst xs))) : tLst tas σ H Q := h
theorem r_call {sp : Sp} {E : XK} (h : tas σ H fun vs H1 => sp vs H1 Q E) : tCall sp [] E tas σ H Q := by
  have e : tCall sp [] E tas σ H Q = tas σ H fun vs H1 => sp vs H1 Q E := by
    unfold tCall
    simp only [List.append_nil]
  rw [e]
  exact h
theorem r_callK {sp : Sp} {gV : List V → List V → List V} {E : XK} {tk : TA} (h : tas σ H fun vs H1 => tk σ H1 fun zs H2 => sp (gV vs zs) H2 Q E) : tCallK sp gV E tas tk σ H Q := h
theorem r_cb {r : List V → Hp → VK → Prop} (h : tas σ H fun vs H1 => r vs H1 Q) : tCB r tas σ H Q := h
theorem r_ixL {a : Addr} {xs : List V} {k : Int} (h1 : SqL K H a xs) (h2 : atI xs k = some v) (h : Q v H) : rIxL K (.ref a) (.int k) H Q := ⟨a, xs, k, v, rfl, rfl, h1, h2, h⟩
theorem r_ixT {a : Addr} {xs : List V} {k : Int} (h1 : SqT K H a xs) (h2 : atI xs k = some v) (h : Q v H) : rIxT K (.ref a) (.int k) H Q := ⟨a, xs, k, v, rfl, rfl, h1, h2, h⟩
theorem r_lenL {a : Addr} {xs : List V} (hs : SqL K H a xs) (h : Q (.int xs.length) H) : rLenQ K [.ref a] H Q := ⟨a, xs, rfl, .inl hs, h⟩
theorem r_lenT {a : Addr} {xs : List V} (hs : SqT K H a xs) (h : Q (.int xs.length) H) : rLenQ K [.ref a] H Q := ⟨a, xs, rfl, .inr hs, h⟩
theorem r_tupL {a : Addr} {xs : List V} (hs : SqL K H a xs) (h : ∀ l, H l = none → Q (.ref l) (upd H l (.tup xs))) : rTupQ K [.ref a] H Q := ⟨a, xs, rfl, .inl ⟨hs, h⟩⟩
theorem r_tupT {a : Addr} {xs : List V} (hs : SqT K H a xs) (h : Q (.ref a) H) : rTupQ K [.ref a] H Q := ⟨a, xs, rfl, .inr ⟨hs, h⟩⟩
theorem r_listL {a : Addr} {xs : List V} (hs : SqL K H a xs) (h : ∀ l, H l = none → Q (.ref l) (upd H l (.lst xs))) : rListQ K [.ref a] H Q := ⟨a, xs, rfl, .inl hs, h⟩
theorem r_listT {a : Addr} {xs : List V} (hs : SqT K H a xs) (h : ∀ l, H l = none → Q (.ref l) (upd H l (.lst xs))) : rListQ K [.ref a] H Q := ⟨a, xs, rfl, .inr hs, h⟩
theorem r_abs {i : Int} (h : Q (.int (i.natAbs : Int)) H) : rAbs [.int i] H Q := by
  have e : (if i < 0 then -i else i) = (i.natAbs : Int) := by split <;> omega
  exact ⟨i, rfl, by rw [e]; exact h⟩
theorem r_max2 {i j : Int} (h : Q (.int (max i j)) H) : rMax2 [.int i, .int j] H Q := by
  have e : (if j > i then j else i) = max i j := by split <;> omega
  exact ⟨i, j, rfl, by rw [e]; exact h⟩
theorem r_min2 {i j : Int} (h : Q (.int (min i j)) H) : rMin2 [.int i, .int j] H Q := by
  have e : (if j < i then j else i) = min i j := by split <;> omega
  exact ⟨i, j, rfl, by rw [e]; exact h⟩
theorem r_int1 {i : Int} (h : Q (.int i) H) : rInt1 [.int i] H Q := .inl ⟨i, rfl, h⟩
theorem r_divmod {i j : Int} (c : CDivP i j) (h : ∀ p, H p = none → Q (.ref p) (upd H p (.tup [.int (i / j), .int (i % j)]))) : rDivmod [.int i, .int j] H Q := ⟨i, j, rfl, c, h⟩
theorem r_gcd {a b : Int} (h : Q (.int ((Nat.gcd a.natAbs b.natAbs : Nat) : Int)) H) : rGcd [.int a, .int b] H Q := ⟨a, b, rfl, h⟩
theorem r_lcm {a b : Int} (ha : a.natAbs < 2 ^ 9000) (hb : b.natAbs < 2 ^ 9000) (h : Q (.int ((Nat.lcm a.natAbs b.natAbs : Nat) : Int)) H) : rLcm [.int a, .int b] H Q := ⟨a, b, rfl, ha, hb, h⟩
theorem r_repr {a : Addr} {d : PyData} (hd : Dp K H (.ref a) d) (hs : d.showable = true) (hp : d.depth ≤ 40) (hz : d.shown.length ≤ sizeLine) (h : Q (.str d.shown) H) : rRepr K [.ref a] H Q := ⟨a, d, rfl, hd, hs, hp, hz, h⟩
theorem r_isi {x c : V} {t u : Value} {b : Bool} (h1 : ClsV c u) (h2 : TyX K H x t) (h3 : PySem.W.kitOne K t u = some b) (h : Q (.bl b) H) : rIsi K [x, c] H Q := ⟨x, c, t, u, b, rfl, h1, h2, h3, h⟩
theorem r_all {a : Addr} {bs : List Bool} (hs : SqL K H a (bs.map V.bl)) (h : Q (.bl (bs.all id)) H) : rAll K [.ref a] H Q := ⟨a, bs, rfl, hs, h⟩
theorem r_any {a : Addr} {bs : List Bool} (hs : SqL K H a (bs.map V.bl)) (h : Q (.bl (bs.any id)) H) : rAny K [.ref a] H Q := ⟨a, bs, rfl, hs, h⟩
theorem r_neD {x y : V} {d e : PyData} (h1 : Dp K H x d) (h2 : Dp K H y e) (h3 : SeqAt.shaped d = true) (h4 : SeqAt.shaped e = true) (h : Q (.bl (!PyData.eqv d e)) H) : rNeD K x y H Q := ⟨d, e, h1, h2, h3, h4, h⟩
theorem r_eqD {x y : V} {d e : PyData} (h1 : Dp K H x d) (h2 : Dp K H y e) (h3 : SeqAt.shaped d = true) (h4 : SeqAt.shaped e = true) (h : Q (.bl (PyData.eqv d e)) H) : rEqD K x y H Q := ⟨d, e, h1, h2, h3, h4, h⟩
end
/-- tests that are known, and both ways of one that is not -/
theorem ifd {p A B : Prop} {_i : Decidable p} (h1 : p → A) (h2 : ¬ p → B) : if decide p = true then A else B := by
  by_cases h : p
  · rw [if_pos (decide_eq_true h)]; exact h1 h
  · rw [if_neg (by rw [decide_eq_false h]; exact Bool.false_ne_true)]; exact h2 h
theorem ifnd {p A B : Prop} {_i : Decidable p} (h1 : ¬ p → A) (h2 : p → B) : if (!decide p) = true then A else B := by
  by_cases h : p
  · rw [if_neg (by rw [decide_eq_true h]; decide)]; exact h2 h
  · rw [if_pos (by rw [decide_eq_false h]; decide)]; exact h1 h
theorem ifb {b : Bool} {A B : Prop} (h1 : b = true → A) (h2 : b = false → B) : if b = true then A else B := by
  cases b with
  | true => rw [if_pos rfl]; exact h1 rfl
  | false => rw [if_neg Bool.false_ne_true]; exact h2 rfl
theorem ifT {b : Bool} {A B : Prop} (hb : b = true) (h : A) : if b = true then A else B := by rw [if_pos hb]; exact h
theorem ifF {b : Bool} {A B : Prop} (hb : b = false) (h : B) : if b = true then A else B := by rw [if_neg (by rw [hb]; exact Bool.false_ne_true)]; exact h
theorem ifTT {A B : Prop} (h : A) : if true = true then A else B := by rw [if_pos rfl]; exact h
theorem ifFF {A B : Prop} (h : B) : if false = true then A else B := by rw [if_neg Bool.false_ne_true]; exact h
theorem ifNT {A B : Prop} (h : B) : if (!true) = true then A else B := by rw [if_neg (by decide)]; exact h
theorem ifNF {A B : Prop} (h : A) : if (!false) = true then A else B := by rw [if_pos (by decide)]; exact h
theorem small {n : Nat} (h : n ≤ 100000) : n ≤ sizeLine := Nat.le_trans h (by decide)
/-! ## data -/
theorem DpAll.ints {K : PySem.W.Frag} {H : Hp} : ∀ ns : List Int, DpAll K H (ns.map V.int) (ns.map PyData.int)
  | [] => .nil
  | n :: ns => .cons (.int n) (DpAll.ints ns)

/-! ## isinstance, type by type -/
section
variable {K : PySem.W.Frag} {H : Hp} {Q : VK} {a : Addr} {xs : List V} {i : Int} {b : Bool}
theorem is_int_int (h : Q (.bl true) H) : rIsi K [(.int i), .ty "int"] H Q := r_isi (.ty "int") (.base (.int i)) (kit_ty (by decide +kernel)) h
theorem is_int_bool (h : Q (.bl false) H) : rIsi K [(.int i), .ty "bool"] H Q := r_isi (.ty "bool") (.base (.int i)) (kit_ty (by decide +kernel)) h
theorem is_int_tuple (h : Q (.bl false) H) : rIsi K [(.int i), .ty "tuple"] H Q := r_isi (.ty "tuple") (.base (.int i)) (kit_ty (by decide +kernel)) h
theorem is_int_list (h : Q (.bl false) H) : rIsi K [(.int i), .ty "list"] H Q := r_isi (.ty "list") (.base (.int i)) (kit_ty (by decide +kernel)) h
theorem is_int_str (h : Q (.bl false) H) : rIsi K [(.int i), .ty "str"] H Q := r_isi (.ty "str") (.base (.int i)) (kit_ty (by decide +kernel)) h
theorem is_bool_int (h : Q (.bl true) H) : rIsi K [(.bl b), .ty "int"] H Q := r_isi (.ty "int") (.base (.bl b)) (kit_ty (by decide +kernel)) h
theorem is_bool_bool (h : Q (.bl true) H) : rIsi K [(.bl b), .ty "bool"] H Q := r_isi (.ty "bool") (.base (.bl b)) (kit_ty (by decide +kernel)) h
theorem is_bool_tuple (h : Q (.bl false) H) : rIsi K [(.bl b), .ty "tuple"] H Q := r_isi (.ty "tuple") (.base (.bl b)) (kit_ty (by decide +kernel)) h
theorem is_bool_list (h : Q (.bl false) H) : rIsi K [(.bl b), .ty "list"] H Q := r_isi (.ty "list") (.base (.bl b)) (kit_ty (by decide +kernel)) h
theorem is_bool_str (h : Q (.bl false) H) : rIsi K [(.bl b), .ty "str"] H Q := r_isi (.ty "str") (.base (.bl b)) (kit_ty (by decide +kernel)) h
theorem is_NoneType_int (h : Q (.bl false) H) : rIsi K [.non, .ty "int"] H Q := r_isi (.ty "int") (.base .non) (kit_ty (by decide +kernel)) h
theorem is_NoneType_bool (h : Q (.bl false) H) : rIsi K [.non, .ty "bool"] H Q := r_isi (.ty "bool") (.base .non) (kit_ty (by decide +kernel)) h
theorem is_NoneType_tuple (h : Q (.bl false) H) : rIsi K [.non, .ty "tuple"] H Q := r_isi (.ty "tuple") (.base .non) (kit_ty (by decide +kernel)) h
theorem is_NoneType_list (h : Q (.bl false) H) : rIsi K [.non, .ty "list"] H Q := r_isi (.ty "list") (.base .non) (kit_ty (by decide +kernel)) h
theorem is_NoneType_str (h : Q (.bl false) H) : rIsi K [.non, .ty "str"] H Q := r_isi (.ty "str") (.base .non) (kit_ty (by decide +kernel)) h
theorem is_str_int {z : Str} (h : Q (.bl false) H) : rIsi K [(.str z), .ty "int"] H Q := r_isi (.ty "int") (.base (.str z)) (kit_ty (by decide +kernel)) h
theorem is_str_bool {z : Str} (h : Q (.bl false) H) : rIsi K [(.str z), .ty "bool"] H Q := r_isi (.ty "bool") (.base (.str z)) (kit_ty (by decide +kernel)) h
theorem is_str_tuple {z : Str} (h : Q (.bl false) H) : rIsi K [(.str z), .ty "tuple"] H Q := r_isi (.ty "tuple") (.base (.str z)) (kit_ty (by decide +kernel)) h
theorem is_str_list {z : Str} (h : Q (.bl false) H) : rIsi K [(.str z), .ty "list"] H Q := r_isi (.ty "list") (.base (.str z)) (kit_ty (by decide +kernel)) h
theorem is_str_str {z : Str} (h : Q (.bl true) H) : rIsi K [(.str z), .ty "str"] H Q := r_isi (.ty "str") (.base (.str z)) (kit_ty (by decide +kernel)) h
theorem is_tuple_int (e : H a = some (.tup xs)) (h : Q (.bl false) H) : rIsi K [(.ref a), .ty "int"] H Q := r_isi (.ty "int") (.base (.tup e)) (kit_ty (by decide +kernel)) h
theorem is_tuple_bool (e : H a = some (.tup xs)) (h : Q (.bl false) H) : rIsi K [(.ref a), .ty "bool"] H Q := r_isi (.ty "bool") (.base (.tup e)) (kit_ty (by decide +kernel)) h
theorem is_tuple_tuple (e : H a = some (.tup xs)) (h : Q (.bl true) H) : rIsi K [(.ref a), .ty "tuple"] H Q := r_isi (.ty "tuple") (.base (.tup e)) (kit_ty (by decide +kernel)) h
theorem is_tuple_list (e : H a = some (.tup xs)) (h : Q (.bl false) H) : rIsi K [(.ref a), .ty "list"] H Q := r_isi (.ty "list") (.base (.tup e)) (kit_ty (by decide +kernel)) h
theorem is_tuple_str (e : H a = some (.tup xs)) (h : Q (.bl false) H) : rIsi K [(.ref a), .ty "str"] H Q := r_isi (.ty "str") (.base (.tup e)) (kit_ty (by decide +kernel)) h
theorem is_list_int (e : H a = some (.lst xs)) (h : Q (.bl false) H) : rIsi K [(.ref a), .ty "int"] H Q := r_isi (.ty "int") (.base (.lst e)) (kit_ty (by decide +kernel)) h
theorem is_list_bool (e : H a = some (.lst xs)) (h : Q (.bl false) H) : rIsi K [(.ref a), .ty "bool"] H Q := r_isi (.ty "bool") (.base (.lst e)) (kit_ty (by decide +kernel)) h
theorem is_list_tuple (e : H a = some (.lst xs)) (h : Q (.bl false) H) : rIsi K [(.ref a), .ty "tuple"] H Q := r_isi (.ty "tuple") (.base (.lst e)) (kit_ty (by decide +kernel)) h
theorem is_list_list (e : H a = some (.lst xs)) (h : Q (.bl true) H) : rIsi K [(.ref a), .ty "list"] H Q := r_isi (.ty "list") (.base (.lst e)) (kit_ty (by decide +kernel)) h
theorem is_list_str (e : H a = some (.lst xs)) (h : Q (.bl false) H) : rIsi K [(.ref a), .ty "str"] H Q := r_isi (.ty "str") (.base (.lst e)) (kit_ty (by decide +kernel)) h
end

/-! ## two ways that meet -/
section
variable {D : Ends} {σ : L2.St} {H : Hp} {Q : VK} {tt : TT} {ta tb : TE} {t u : TS}
theorem j_e {te : TE} (Pv : V → Hp → Prop) (hF : ∀ Q' : VK, (∀ v H', Pv v H' → Q' v H') → te σ H Q') (hQ : ∀ v H', Pv v H' → Q v H') : te σ H Q := hF Q hQ
theorem j_if (Pv : V → Hp → Prop) (hF : ∀ Q' : VK, (∀ v H', Pv v H' → Q' v H') → tIf tt ta tb σ H Q') (hQ : ∀ v H', Pv v H' → Q v H') : tIf tt ta tb σ H Q := hF Q hQ
theorem j_s {ts : TS} (M : L2.St → Hp → Prop) (hF : ∀ nx' : L2.St → Hp → Prop, (∀ σ' H', M σ' H' → nx' σ' H') → ts { D with nx := nx' } σ H) (hQ : ∀ σ' H', M σ' H' → D.nx σ' H') : ts D σ H := hF D.nx hQ
end
/-! ## loops -/
section
variable {K : PySem.W.Frag} {D : Ends} {σ : L2.St} {H : Hp} {tt : TT} {tb : TS} {g : TG} {x : V}
abbrev Wp (W : Nat → L2.St → Hp → Prop) (m : Nat) (σ : L2.St) (H : Hp) : Prop := W m σ H
theorem r_while (W : Nat → L2.St → Hp → Prop) (m : Nat) (w0 : W m σ H)
    (hs : ∀ m σ H, W m σ H → tt σ H fun b H1 => if b = true then ∃ N : L2.St → Hp → Prop, (∀ σ' H', N σ' H' → ∃ m', m' < m ∧ Wp W m' σ' H') ∧ tb { D with nx := N, ct := N, bk := D.nx } σ H1 else D.nx σ H1) :
    tWhile tt tb D σ H := ⟨W, ⟨m, w0⟩, hs⟩
theorem r_wb {D : (L2.St → Hp → Prop) → Ends} {W : Nat → L2.St → Hp → Prop} {m : Nat} (h : tb (D fun σ' H' => ∃ m', m' < m ∧ Wp W m' σ' H') σ H) :
    ∃ N : L2.St → Hp → Prop, (∀ σ' H', N σ' H' → ∃ m', m' < m ∧ Wp W m' σ' H') ∧ tb (D N) σ H := ⟨_, fun _ _ h => h, h⟩
theorem tru_int {i : Int} {R : Bool → Prop} (h : R (i != 0)) : ∃ k, TruV K (.int i) H k ∧ R k := ⟨_, rfl, h⟩
theorem tru_list {a : Addr} {xs : List V} {R : Bool → Prop} (hs : SqL K H a xs) (h : R (!xs.isEmpty)) : ∃ k, TruV K (.ref a) H k ∧ R k := ⟨_, .inl ⟨xs, hs, rfl⟩, h⟩
theorem tru_tup {a : Addr} {xs : List V} {R : Bool → Prop} (hs : SqT K H a xs) (h : R (!xs.isEmpty)) : ∃ k, TruV K (.ref a) H k ∧ R k := ⟨_, .inr (.inl ⟨xs, hs, rfl⟩), h⟩
theorem r_for1 {ta : TA} (h : ta σ H fun vs H1 => ∃ j : Int, vs = [.int j] ∧ -(2 ^ 62) ≤ j ∧ j < 2 ^ 62 ∧ tFor (fun _ H2 R => R (Itr 0 j.toNat) H2) g tb D σ H1) : tFor (iRng1 ta) g tb D σ H := h
theorem r_for2 {ta : TA} (h : ta σ H fun vs H1 => ∃ i j : Int, vs = [.int i, .int j] ∧ (-(2 ^ 62) ≤ i ∧ i < 2 ^ 62 ∧ -(2 ^ 62) ≤ j ∧ j < 2 ^ 62) ∧ tFor (fun _ H2 R => R (Itr i (j - i).toNat) H2) g tb D σ H1) : tFor (iRng2 ta) g tb D σ H := h
theorem r_forR {lo : Int} {n : Nat} (Pv : Nat → L2.St → Hp → Prop) (h0 : Pv 0 σ H)
    (hs : ∀ i σ H, i < n → Pv i σ H → g (.int (lo + i)) σ H fun σ2 H2 => tb { D with nx := Pv (i + 1), ct := Pv (i + 1), bk := D.nx } σ2 H2) (hd : ∀ σ H, Pv n σ H → D.nx σ H) :
    tFor (fun _ H2 R => R (Itr lo n) H2) g tb D σ H := for_range Pv h0 hs hd
theorem r_forL {te : TE} (h : te σ H fun x H1 => ∃ a, x = .ref a ∧ (∃ xs, SqL K H1 a xs) ∧ tFor (fun _ H2 R => R (Itl K a) H2) g tb D σ H1) : tFor (iList K te) g tb D σ H := h
theorem r_forT {te : TE} (h : te σ H fun x H1 => ∃ a, x = .ref a ∧ (∃ xs, SqT K H1 a xs) ∧ tFor (fun _ H2 R => R (Itt K a) H2) g tb D σ H1) : tFor (iTup K te) g tb D σ H := h
theorem r_forLs {a : Addr} (xs : List V) (Pv : Nat → L2.St → Hp → Prop) (h0 : Pv 0 σ H) (hl : ∀ i σ H, i ≤ xs.length → Pv i σ H → SqL K H a xs)
    (hs : ∀ i x σ H, xs[i]? = some x → Pv i σ H → g x σ H fun σ2 H2 => tb { D with nx := Pv (i + 1), ct := Pv (i + 1), bk := D.nx } σ2 H2) (hd : ∀ σ H, Pv xs.length σ H → D.nx σ H) :
    tFor (fun _ H2 R => R (Itl K a) H2) g tb D σ H := for_list Pv h0 hl hs hd
theorem r_forTs {a : Addr} (xs : List V) (Pv : Nat → L2.St → Hp → Prop) (h0 : Pv 0 σ H) (hl : ∀ i σ H, i ≤ xs.length → Pv i σ H → SqT K H a xs)
    (hs : ∀ i x σ H, xs[i]? = some x → Pv i σ H → g x σ H fun σ2 H2 => tb { D with nx := Pv (i + 1), ct := Pv (i + 1), bk := D.nx } σ2 H2) (hd : ∀ σ H, Pv xs.length σ H → D.nx σ H) :
    tFor (fun _ H2 R => R (Itt K a) H2) g tb D σ H := for_tup Pv h0 hl hs hd
/-! comprehensions -/
variable {te : TE} {vs : List Nat} {Q : VK}
theorem r_lcR1 {ta : TA} (h : ta σ H fun ws H1 => ∃ j : Int, ws = [.int j] ∧ -(2 ^ 62) ≤ j ∧ j < 2 ^ 62 ∧ tLc (fun _ H2 R => R (Itr 0 j.toNat) H2) g tt te vs σ H1 Q) : tLc (iRng1 ta) g tt te vs σ H Q := h
theorem r_lcR2 {ta : TA} (h : ta σ H fun ws H1 => ∃ i j : Int, ws = [.int i, .int j] ∧ (-(2 ^ 62) ≤ i ∧ i < 2 ^ 62 ∧ -(2 ^ 62) ≤ j ∧ j < 2 ^ 62) ∧ tLc (fun _ H2 R => R (Itr i (j - i).toNat) H2) g tt te vs σ H1 Q) : tLc (iRng2 ta) g tt te vs σ H Q := h
theorem r_lcL {tl : TE} (h : tl σ H fun x H1 => ∃ a, x = .ref a ∧ (∃ xs, SqL K H1 a xs) ∧ tLc (fun _ H2 R => R (Itl K a) H2) g tt te vs σ H1 Q) : tLc (iList K tl) g tt te vs σ H Q := h
theorem r_lcT {tl : TE} (h : tl σ H fun x H1 => ∃ a, x = .ref a ∧ (∃ xs, SqT K H1 a xs) ∧ tLc (fun _ H2 R => R (Itt K a) H2) g tt te vs σ H1 Q) : tLc (iTup K tl) g tt te vs σ H Q := h
theorem r_lcR {lo : Int} {n : Nat} (Pv : Addr → Nat → Hp → Prop) (h0 : ∀ D, H D = none → Pv D 0 (upd H D (.lst [])))
    (hs : ∀ D i H', H D = none → i < n → Pv D i H' → g (.int (lo + i)) (wipe σ vs) H' fun σ2 H2 => wipe σ2 vs = wipe σ vs ∧ tt σ2 H2 fun b H3 =>
      if b = true then te σ2 H3 fun y H4 => ∃ acc, H4 D = some (.lst acc) ∧ acc.length < sizeLine ∧ Pv D (i + 1) (upd H4 D (.lst (acc ++ [y]))) else Pv D (i + 1) H3)
    (hd : ∀ D H', H D = none → Pv D n H' → Q (.ref D) H') : tLc (fun _ H2 R => R (Itr lo n) H2) g tt te vs σ H Q :=
  fun D hD => lc_range (Pv D) (h0 D hD) (fun i H' hi p => hs D i H' hD hi p) (fun H' p => hd D H' hD p)
theorem r_lcLs {a : Addr} (xs : List V) (Pv : Addr → Nat → Hp → Prop) (h0 : ∀ D, H D = none → Pv D 0 (upd H D (.lst []))) (hl : ∀ D i H', H D = none → i ≤ xs.length → Pv D i H' → SqL K H' a xs)
    (hs : ∀ D i x H', H D = none → xs[i]? = some x → Pv D i H' → g x (wipe σ vs) H' fun σ2 H2 => wipe σ2 vs = wipe σ vs ∧ tt σ2 H2 fun b H3 =>
      if b = true then te σ2 H3 fun y H4 => ∃ acc, H4 D = some (.lst acc) ∧ acc.length < sizeLine ∧ Pv D (i + 1) (upd H4 D (.lst (acc ++ [y]))) else Pv D (i + 1) H3)
    (hd : ∀ D H', H D = none → Pv D xs.length H' → Q (.ref D) H') : tLc (fun _ H2 R => R (Itl K a) H2) g tt te vs σ H Q :=
  fun D hD => lc_list (Pv D) (h0 D hD) (fun i H' hi p => hl D i H' hD hi p) (fun i x H' hx p => hs D i x H' hD hx p) (fun H' p => hd D H' hD p)
theorem r_lcTs {a : Addr} (xs : List V) (Pv : Addr → Nat → Hp → Prop) (h0 : ∀ D, H D = none → Pv D 0 (upd H D (.lst []))) (hl : ∀ D i H', H D = none → i ≤ xs.length → Pv D i H' → SqT K H' a xs)
    (hs : ∀ D i x H', H D = none → xs[i]? = some x → Pv D i H' → g x (wipe σ vs) H' fun σ2 H2 => wipe σ2 vs = wipe σ vs ∧ tt σ2 H2 fun b H3 =>
      if b = true then te σ2 H3 fun y H4 => ∃ acc, H4 D = some (.lst acc) ∧ acc.length < sizeLine ∧ Pv D (i + 1) (upd H4 D (.lst (acc ++ [y]))) else Pv D (i + 1) H3)
    (hd : ∀ D H', H D = none → Pv D xs.length H' → Q (.ref D) H') : tLc (fun _ H2 R => R (Itt K a) H2) g tt te vs σ H Q :=
  fun D hD => lc_tup (Pv D) (h0 D hD) (fun i H' hi p => hl D i H' hD hi p) (fun i x H' hx p => hs D i x H' hD hx p) (fun H' p => hd D H' hD p)
end
end Vf

namespace Vf
open PySem PySem.Spec PyProof.Rows L2
/-! ## the law's source of numbers -/
theorem bits_mono {x y : Int} (h : x.natAbs ≤ y.natAbs) : Builtin.Int.intBits x ≤ Builtin.Int.intBits y := by
  by_cases z : y = 0
  · subst z
    have : x = 0 := by omega
    subst this
    exact Nat.le_refl _
  · have e : Builtin.Int.intBits y = y.natAbs.log2 + 1 := by
      unfold Builtin.Int.intBits
      rw [if_neg (by simpa using z)]
    rw [e]
    exact PyProof.Rows.intBits_le (Nat.lt_of_le_of_lt h Nat.lt_log2_self)
structure KegOk (a b c : Int) (n : Nat) : Prop where
  a0 : 0 ≤ a
  ab : Builtin.Int.intBits a ≤ 1048600
  b0 : 0 ≤ b
  bM : b < 2147482801
  c0 : 0 ≤ c
  cn : c ≤ n
def Keg (n : Nat) (k : Addr) (H : Hp) : Prop := ∃ a b c : Int, H k = some (.lst [.int a, .int b, .int c]) ∧ KegOk a b c n
theorem Keg.mono {n m : Nat} {k : Addr} {H : Hp} (h : Keg n k H) (l : n ≤ m) : Keg m k H := by
  obtain ⟨a, b, c, e, o⟩ := h
  exact ⟨a, b, c, e, o.a0, o.ab, o.b0, o.bM, o.c0, by have := o.cn; omega⟩
theorem Keg.same {n : Nat} {k : Addr} {H H' : Hp} (h : Keg n k H) (s : Same H H') : Keg n k H' := by
  obtain ⟨a, b, c, e, o⟩ := h
  exact ⟨a, b, c, s _ _ e, o⟩
theorem Keg.new {n : Nat} {k p : Addr} {H : Hp} {o : HO} (h : Keg n k H) (hp : H p = none) : Keg n k (upd H p o) := h.same (Same.new hp)
theorem Keg.ne {n : Nat} {k p : Addr} {H : Hp} (h : Keg n k H) (hp : H p = none) : p ≠ k := by
  obtain ⟨a, b, c, e, o⟩ := h
  exact (ne_of_none e hp).symm
theorem Keg.none {n : Nat} {k q : Addr} {H H' : Hp} (h : Keg n k H') (e : Kx k H H') (hq : H' q = Option.none) : H q = Option.none := by
  obtain ⟨a, b, c, z, o⟩ := h
  exact none_kx e z hq
def sp_tap : Sp := fun vs H Q _ => ∃ (k : Addr) (u : Int) (n : Nat), vs = [.ref k, .int u] ∧ Keg n k H ∧ n ≤ 2 ^ 60 ∧ 0 < u ∧ u < 2 ^ 62 ∧
  ∀ f H', 0 ≤ f → f < u → Kx k H H' → Keg (n + 1) k H' → Q (.int f) H'
theorem i_tap {k : Addr} {u : Int} {H : Hp} {Q : VK} {E : XK} (n : Nat) (hk : Keg n k H) (hn : n ≤ 2 ^ 60) (h0 : 0 < u) (h1 : u < 2 ^ 62)
    (q : ∀ f H', 0 ≤ f → f < u → Kx k H H' → Keg (n + 1) k H' → Q (.int f) H') : sp_tap [.ref k, .int u] H Q E := ⟨k, u, n, rfl, hk, hn, h0, h1, q⟩
def sp_any (K : PySem.W.Frag) : Sp := fun vs H Q _ => ∃ (k t : Addr) (xs : List V) (n : Nat), vs = [.ref k, .ref t] ∧ Keg n k H ∧ n ≤ 2 ^ 60 ∧ t ≠ k ∧ SqL K H t xs ∧ 0 < xs.length ∧ xs.length ≤ 100000 ∧
  ∀ (i : Nat) (x : V) H', xs[i]? = some x → Kx k H H' → Keg (n + 1) k H' → Q x H'
theorem i_any {K : PySem.W.Frag} {k t : Addr} {H : Hp} {Q : VK} {E : XK} (n : Nat) (xs : List V) (hk : Keg n k H) (hn : n ≤ 2 ^ 60) (ht : t ≠ k) (hs : SqL K H t xs) (h0 : 0 < xs.length) (h1 : xs.length ≤ 100000)
    (q : ∀ (i : Nat) x H', xs[i]? = some x → Kx k H H' → Keg (n + 1) k H' → Q x H') : sp_any K [.ref k, .ref t] H Q E := ⟨k, t, xs, n, rfl, hk, hn, ht, hs, h0, h1, q⟩
/-- the script's ints are of at most 2 ^ 20 bits -/
def Script (ns : List Int) : Prop := ns.length ≤ 63 ∧ ∀ z ∈ ns, Builtin.Int.intBits z ≤ 1048576
def sp_keg (K : PySem.W.Frag) : Sp := fun vs H Q _ => ∃ (c : Addr) (ns : List Int) (j : Nat), vs = [.ref c, .int (j : Int)] ∧ SqL K H c (ns.map V.int) ∧ Script ns ∧ j ≤ 1000 ∧
  ∀ p H', Same H H' → H p = none → Keg 1 p H' → Q (.ref p) H'
theorem i_keg {K : PySem.W.Frag} {c : Addr} {H : Hp} {Q : VK} {E : XK} (ns : List Int) (j : Nat) (hs : SqL K H c (ns.map V.int)) (hn : Script ns) (hj : j ≤ 1000)
    (q : ∀ p H', Same H H' → H p = none → Keg 1 p H' → Q (.ref p) H') : sp_keg K [.ref c, .int (j : Int)] H Q E := ⟨c, ns, j, rfl, hs, hn, hj, q⟩
/-- a product of two ints of so many bits at most -/
theorem bit_mul {i j : Int} {a b : Nat} (ha : Builtin.Int.intBits i ≤ a) (hb : Builtin.Int.intBits j ≤ b) (h : a + b ≤ 134217728) : CMulX i j := by
  unfold CMulX
  omega
theorem bit_of {i : Int} {a : Nat} (h : i.natAbs < 2 ^ a) : Builtin.Int.intBits i ≤ a := PyProof.Rows.intBits_le h
theorem divp_of {i j : Int} (h : 0 < j) (hj : j < 2 ^ 62) : CDivP i j :=
  ⟨h, PyProof.noPylong_of_log2 (Nat.lt_of_lt_of_le (log_lim (k := 62) (by omega) (by decide)) (by decide))⟩
theorem divw_of {i j : Int} (h : 0 < j) (hj : j < 2 ^ 62) : CDivW i j := wide_div (b := 62) h (by omega) (by decide) (by decide)
end Vf

namespace Vf
open PySem PySem.Spec PyProof.Rows L2
/-! ## data: what repr of it is like, and == -/
mutual
/-- no text, no dict; each number of fewer than 1920 bits -/
def tame : PyData → Bool
  | .none | .bool _ => true
  | .int i => decide (i.natAbs.log2 < 1920)
  | .list xs | .tuple xs => tameAll xs
  | _ => false
def tameAll : List PyData → Bool
  | [] => true
  | x :: xs => tame x && tameAll xs
end
mutual
def room : PyData → Nat
  | .list xs | .tuple xs => 4 + roomAll xs
  | _ => 2000
def roomAll : List PyData → Nat
  | [] => 0
  | x :: xs => room x + 2 + roomAll xs
end
theorem from_le : ∀ (ts : List Str) (k : Nat) (acc : Str), (textFrom k acc ts).length ≤ acc.length + piled ts
  | [], _, _ => Nat.le_add_right _ _
  | t :: r, k, acc => by
    refine Nat.le_trans (from_le r (k + 1) _) ?_
    rw [strLen_append, strLen_append, piled_cons]
    have e : (Str.ofString (if k > 0 then ", " else "" : String)).length ≤ 2 := by
      split
      · decide +kernel
      · decide +kernel
    omega
theorem listText_le (ts : List Str) : (listText ts).length ≤ 4 + piled ts := by
  show (textFrom 0 "[" ts ++ "]").length ≤ _
  rw [strLen_append]
  have h := from_le ts 0 "["
  have e1 : ("[" : Str).length = 1 := by decide +kernel
  have e2 : ("]" : Str).length = 1 := by decide +kernel
  omega
theorem tupleText_le (ts : List Str) : (tupleText ts).length ≤ 4 + piled ts := by
  unfold tupleText
  rw [strLen_append, strLen_append]
  have e1 : ("(" : Str).length = 1 := by decide +kernel
  have e2 : (if (ts.length == 1) = true then ",)" else ")" : String) = ",)" ∨ (if (ts.length == 1) = true then ",)" else ")" : String) = ")" := by split <;> simp
  have e3 : (Str.ofString (if (ts.length == 1) = true then ",)" else ")" : String)).length ≤ 2 := by
    rcases e2 with e | e <;> rw [e] <;> decide +kernel
  have e4 : (Str.join ", " ts).length ≤ piled ts := by
    by_cases z : ts = []
    · subst z; decide +kernel
    · have := join_length_add ts z; omega
  show ("(" : Str).length + _ + (Str.ofString _).length ≤ _
  omega
mutual
theorem shown_le : ∀ d : PyData, tame d = true → d.showable = true ∧ d.hasDict = false ∧ (d.shown).length ≤ room d
  | .none, _ => ⟨rfl, rfl, by show ("None" : Str).length ≤ 2000; decide +kernel⟩
  | .bool b, _ => ⟨rfl, rfl, by cases b <;> decide +kernel⟩
  | .int i, h => by
    have h1 : i.natAbs.log2 < 1920 := of_decide_eq_true h
    refine ⟨by simpa [PyData.showable] using h1, rfl, ?_⟩
    have e := int_text_length_le (k := 1920) (by decide) h1
    show (Str.ofString (toString i)).length ≤ 2000
    rw [PySem.ofString_length]
    omega
  | .str _, h => by cases h
  | .dict _, h => by cases h
  | .list xs, h => by
    obtain ⟨a, b, c⟩ := shown_leAll xs h
    refine ⟨a, b, ?_⟩
    have := listText_le (PyData.shownAll xs)
    show (listText (PyData.shownAll xs)).length ≤ 4 + roomAll xs
    omega
  | .tuple xs, h => by
    obtain ⟨a, b, c⟩ := shown_leAll xs h
    refine ⟨a, b, ?_⟩
    have := tupleText_le (PyData.shownAll xs)
    show (tupleText (PyData.shownAll xs)).length ≤ 4 + roomAll xs
    omega
theorem shown_leAll : ∀ ds : List PyData, tameAll ds = true → PyData.showableAll ds = true ∧ PyData.hasDictAll ds = false ∧ piled (PyData.shownAll ds) ≤ roomAll ds
  | [], _ => ⟨rfl, rfl, Nat.le_refl _⟩
  | d :: ds, h => by
    have h2 : (tame d && tameAll ds) = true := h
    rw [Bool.and_eq_true] at h2
    obtain ⟨a, b, c⟩ := shown_le d h2.1
    obtain ⟨a2, b2, c2⟩ := shown_leAll ds h2.2
    refine ⟨by simp [PyData.showableAll, a, a2], by simp [PyData.hasDictAll, b, b2], ?_⟩
    show piled (d.shown :: PyData.shownAll ds) ≤ room d + 2 + roomAll ds
    rw [piled_cons]
    omega
end
theorem tameInts : ∀ ns : List Int, (∀ n ∈ ns, n.natAbs < 2 ^ 1900) → tameAll (ns.map PyData.int) = true
  | [], _ => rfl
  | n :: ns, h => by
    show (tame (.int n) && tameAll (ns.map PyData.int)) = true
    rw [tameInts ns fun m hm => h m (List.mem_cons_of_mem _ hm), Bool.and_true]
    refine decide_eq_true (log_lim (Nat.lt_of_lt_of_le (h n List.mem_cons_self) (Nat.pow_le_pow_right (by decide) (by decide))) (by decide))
theorem roomInts : ∀ ns : List Int, roomAll (ns.map PyData.int) = 2002 * ns.length
  | [] => rfl
  | n :: ns => by
    show 2000 + 2 + roomAll (ns.map PyData.int) = 2002 * (ns.length + 1)
    rw [roomInts ns]; omega
theorem depthInts : ∀ ns : List Int, PyData.depthAll (ns.map PyData.int) = 0
  | [] => rfl
  | n :: ns => by
    show max (PyData.depth (.int n)) (PyData.depthAll (ns.map PyData.int)) = 0
    rw [depthInts ns]; rfl
/-- what repr gives of a list of ints -/
def intsD (ns : List Int) : PyData := .list (ns.map PyData.int)
section
variable {K : PySem.W.Frag} {H : Hp} {Q : VK}
theorem r_reprD {a : Addr} (d : PyData) (hd : Dp K H (.ref a) d) (ht : tame d = true) (hp : d.depth ≤ 40) (hz : room d ≤ 100000) (h : Q (.str d.shown) H) : rRepr K [.ref a] H Q := by
  obtain ⟨h1, _, h2⟩ := shown_le d ht
  exact r_repr hd h1 hp (small (Nat.le_trans h2 hz)) h
theorem Dp.intsD {a : Addr} {ns : List Int} (h : SqL K H a (ns.map V.int)) : Dp K H (.ref a) (intsD ns) := .lst h (DpAll.ints ns)
theorem r_reprI {a : Addr} (ns : List Int) (hs : SqL K H a (ns.map V.int)) (hb : ∀ n ∈ ns, n.natAbs < 2 ^ 1900) (hl : ns.length ≤ 40) (h : Q (.str (intsD ns).shown) H) : rRepr K [.ref a] H Q := by
  refine r_reprD (intsD ns) (Dp.intsD hs) (tameInts ns hb) ?_ ?_ h
  · show PyData.depthAll (ns.map PyData.int) + 1 ≤ 40
    rw [depthInts]; decide
  · show 4 + roomAll (ns.map PyData.int) ≤ 100000
    rw [roomInts]; omega
/-- a list times a number -/
theorem r_rep {a : Addr} {xs : List V} {k : Int} (hl : H a = some (.lst xs)) (h0 : 0 ≤ k) (h1 : k ≤ 1000) (hx : xs.length ≤ 1000) (h : ∀ p, H p = none → Q (.ref p) (upd H p (.lst (List.replicate k.toNat xs).flatten))) : rRep (.ref a) (.int k) H Q := by
  refine ⟨a, k, xs, rfl, rfl, hl, by omega, by omega, ?_, h⟩
  have : xs.length * k.toNat ≤ 1000 * 1000 := Nat.mul_le_mul hx (by omega)
  exact Nat.le_trans this (by decide)
theorem eqvInts : ∀ ns ms : List Int, PyData.eqvAll (ns.map PyData.int) (ms.map PyData.int) = decide (ns = ms)
  | [], [] => rfl
  | [], _ :: _ => rfl
  | _ :: _, [] => rfl
  | n :: ns, m :: ms => by
    show (n == m && PyData.eqvAll (ns.map PyData.int) (ms.map PyData.int)) = _
    rw [eqvInts ns ms]
    by_cases e : n = m
    · subst e
      by_cases e2 : ns = ms
      · subst e2; simp
      · simp [e2]
    · simp [e]
theorem canInts : ∀ ns : List Int, PyData.canLayAll0 (ns.map PyData.int) = true
  | [] => rfl
  | n :: ns => by
    show (PyData.canLay0 (.int n) && PyData.canLayAll0 (ns.map PyData.int)) = true
    rw [canInts ns]; rfl
theorem shapedInts (ns : List Int) : SeqAt.shaped (intsD ns) = true := by
  unfold SeqAt.shaped
  rw [Bool.and_eq_true]
  refine ⟨canInts ns, decide_eq_true ?_⟩
  show PyData.depthAll (ns.map PyData.int) + 1 ≤ 64
  rw [depthInts]; decide
/-- two lists of ints compared -/
theorem r_neI {a b : Addr} (ns ms : List Int) (h1 : SqL K H a (ns.map V.int)) (h2 : SqL K H b (ms.map V.int)) (h : Q (.bl (!decide (ns = ms))) H) : rNeD K (.ref a) (.ref b) H Q := by
  refine r_neD (Dp.intsD h1) (Dp.intsD h2) (shapedInts ns) (shapedInts ms) ?_
  rw [show PyData.eqv (intsD ns) (intsD ms) = decide (ns = ms) from eqvInts ns ms]
  exact h
theorem r_eqI {a b : Addr} (ns ms : List Int) (h1 : SqL K H a (ns.map V.int)) (h2 : SqL K H b (ms.map V.int)) (h : Q (.bl (decide (ns = ms))) H) : rEqD K (.ref a) (.ref b) H Q := by
  refine r_eqD (Dp.intsD h1) (Dp.intsD h2) (shapedInts ns) (shapedInts ms) ?_
  rw [show PyData.eqv (intsD ns) (intsD ms) = decide (ns = ms) from eqvInts ns ms]
  exact h
end
end Vf

namespace Vf
open PySem PySem.Spec PyProof.Rows L2
/-! ## the law's own call, from the promise of its def -/
section
variable {P : Program} {w : World} {K : PySem.W.Frag} {mg mb : Str → Option Value} {k : Nat} {fa a : Addr} {st : Stmt} {x y : Str} {sp : Sp} {s₁ : Shared} {vs : List Value} {ns : List Int}
/-- what the whole call is to come to -/
abbrev Told (s₁ : Shared) (r : Result) (s' : Shared) : Prop :=
  r = .ok (.ret (.bool true)) ∧ OldK s₁.heap s'.heap ∧ s'.os = s₁.os ∧ AllBare s'.gens
theorem law_g (KX : K.In s₁.heap) (hns : s₁.heap.Ns mainGlobals mg) (hb : s₁.heap.Ns builtinsNs mb) (hbb : ∀ z : Str, z ≠ "__name__" → mb z = bootBuiltins z)
    (hlim : s₁.heap.NoLimit) (hg : s₁.gens = #[]) (ha : s₁.heap.get? a = some { cls := .type "list", data := .seq vs.toArray }) (hi : IntsAre vs ns) (hl : ns.length ≤ sizeLine)
    (hr : Room k callerA) (hfa : mg x = some (.ref fa)) (F : ∀ base : Heap, K.In base → base.Ns mainGlobals mg → Ok P w K mg base k x st [y] sp)
    (B : ∀ f fd, L2.Fun K x x st f fd → L2.Binds K fd [y] [])
    (hsp : ∀ H : Hp, L2.Only H → SqL K H a (ns.map V.int) → sp [.ref a] H (fun v _ => v = .bl true) fun _ _ _ => False) :
    codeAny (model P w) callerA (.call (.ref fa) ⟨[.ref a], []⟩) (Told s₁) s₁ := by
  have rv := vals_ints hi
  -- over a heap that tracks the script alone, or nothing
  have run : ∀ H : Hp, L2.Only H → SqL K H a (ns.map V.int) → HOk P w H s₁.heap → (∀ b o, H b = some o → b = a ∧ K.lookup a = none) →
      codeAny (model P w) callerA (.call (.ref fa) ⟨[.ref a], []⟩) (Told s₁) s₁ := by
    intro H hO hS hok only
    -- the base: all that H does not track
    have dictNone : ∀ {b : Addr} {o : Obj} {es : Array DictEntry} {ep : Nat}, s₁.heap.get? b = some o → o.data = .dict es ep → H b = none := by
      intro b o es ep e d
      rcases hz : H b with _ | u
      · rfl
      · obtain ⟨rfl, _⟩ := only b u hz
        rw [ha] at e
        injection e with e
        rw [← e] at d
        exact absurd d (by intro z; injection z)
    have space : ∀ {b : Addr} {m : Str → Option Value}, s₁.heap.Ns b m → (hidT s₁.heap H).Ns b m := by
      rintro b m ⟨o, es, ep, e, d, rest⟩
      exact ⟨o, es, ep, hidT_get e (dictNone e d), d, rest⟩
    have kin : K.In (hidT s₁.heap H) := by
      intro b o e
      refine hidT_get (KX b o e) ?_
      rcases hz : H b with _ | u
      · rfl
      · obtain ⟨rfl, n⟩ := only b u hz
        rw [n] at e
        cases e
    obtain ⟨mc, hc1, hc2⟩ := hlim
    have env : Env0 P w K mg (hidT s₁.heap H) callerA [] s₁ H :=
      { frames := rfl, mod := ⟨kin, space hns, ⟨mb, space hb, hbb⟩, ⟨mc, space hc1, hc2⟩⟩, bs := fun b o e => of_hidT e, bsz := Nat.le_of_eq (hidT_size _ _)
        funs := trivial, frf := fun b z => absurd (show b ∈ ([] : List Addr) from z) List.not_mem_nil, hok := hok, bare := .of_eq hg }
    obtain ⟨⟨f, fd, G, hm, go⟩, _⟩ := F _ kin (space hns)
    have ef : f = fa := by
      rw [hfa] at hm
      injection hm with hm
      injection hm with hm
      exact hm.symm
    subst ef
    have bind := B f fd G s₁ [.ref a] KX rfl
    rw [List.append_nil] at bind
    refine codeAny_mono (go callerA [] s₁ H ⟨[.ref a], []⟩ [.ref a] [.ref a] (fun v _ => v = .bl true) (fun _ _ _ => False) rfl hr env bind (.cons rfl .nil) (hsp H hO hS)) ?_
    intro r s' h
    rcases r with e | fl
    · obtain ⟨_, _, _, _, _, _, _, _, _, _, _, _, z⟩ := h
      exact z.elim
    · rcases fl with _ | _ | _ | u
      · exact False.elim h
      · exact False.elim h
      · exact False.elim h
      · obtain ⟨v, H', os, bare, un, hok', rr, q⟩ := h
        have q2 : v = .bl true := q
        subst q2
        have eu : u = Value.bool true := rr
        subst eu
        refine ⟨rfl, OldK.of_keep (fun b o e => ?_), os, bare⟩
        rcases hz : H b with _ | u
        · exact un.keep b o e hz (fun z => absurd (show b ∈ ([] : List Addr) from z) List.not_mem_nil) List.not_mem_nil
        · rcases hO b with z | ⟨ob, xs, z⟩
          · rw [hz] at z; cases z
          · have e1 := (hok b _ z).1
            have e2 := (hok' b _ (un.frzs b ob _ z)).1
            rw [e] at e1
            rw [e2, e1]
  rcases hk : K.lookup a with _ | o
  · -- the script is no object of the module: it is tracked, as a locked list
    let sc : Obj := { cls := .type "list", data := .seq vs.toArray }
    let H : Hp := fun b => if b = a then some (.frz sc (.lst (ns.map V.int))) else none
    have at_ : H a = some (.frz sc (.lst (ns.map V.int))) := if_pos rfl
    have off : ∀ b, b ≠ a → H b = none := fun b n => if_neg n
    have here : ∀ b o, H b = some o → b = a := fun b o e => by
      by_cases n : b = a
      · exact n
      · rw [off b n] at e; cases e
    refine run H (fun b => ?_) (Or.inl (Or.inr ⟨sc, at_⟩)) (fun b o e => ?_) (fun b o e => ⟨here b o e, hk⟩)
    · by_cases n : b = a
      · subst n; exact Or.inr ⟨_, _, at_⟩
      · exact Or.inl (off b n)
    · have n := here b o e
      subst n
      rw [at_] at e
      injection e with e
      subst e
      exact ⟨ha, by rw [List.length_map]; exact hl, vs, _, rv, ha⟩
  · -- it is one
    have e := KX a o hk
    rw [ha] at e
    injection e with e
    subst e
    refine run (fun _ => none) (fun _ => Or.inl rfl) (Or.inr ⟨_, vs.toArray, _, hk, rfl, rfl, rfl, ?_, ?_⟩) (fun b u z => ?_) (fun b u z => ?_)
    · rw [List.size_toArray, hi.length]; exact hl
    · simpa using rv
    · cases (show (none : Option HO) = some u from z)
    · cases (show (none : Option HO) = some u from z)
end
/-- the end of a law: the promise of its def, with the script's bits told -/
theorem walk_g {l : PySem.W.OpenLaw} {n k : Nat} {q : Program} {loose : List Str} {XP : (Str → Option Value) → Heap → Prop} {YP : World → Heap → Prop} {d : DefRec} {K : Params → PySem.W.Frag} {sp : PySem.W.Frag → Sp} {y : Str} {st : Stmt}
    (hn : l.most = some n) (hn2 : n ≤ sizeLine) (hdf : d.params.defaults = []) (hr : Room k callerA) (hY : ∀ (w : World) (h : Heap), YP w h → (K w.params).In h)
    (F : ∀ (w : World) (mg : Str → Option Value) (h : Heap), (K w.params).In h → h.Ns mainGlobals mg → ∀ base : Heap, (K w.params).In base → base.Ns mainGlobals mg → Ok l.prog w (K w.params) mg base k d.name st [y] (sp (K w.params)))
    (B : ∀ (w : World) f fd, L2.Fun (K w.params) d.name d.name st f fd → L2.Binds (K w.params) fd [y] [])
    (hsp : ∀ (w : World) (H : Hp) (a : Addr) (ns : List Int), ns.length ≤ n → (∀ z ∈ ns, Builtin.Int.intBits z ≤ 1048576) → SqL (K w.params) H a (ns.map V.int) → sp (K w.params) [.ref a] H (fun v _ => v = .bl true) fun _ _ _ => False) :
    PySem.W.WalkO q loose XP YP l.row.toRowW d [] (fun f vs => PySem.call f vs) := by
  refine Att.attach_callB hn hdf fun w s₀ s₁ mg mb fa o pm cd doc a vs ns G Y ho hd hcd hmg hobj hints hlen hbits hg => ?_
  have KX := hY w _ Y
  exact law_g KX G.T.g G.T.b G.T.builtins G.T.nolimit hg hobj hints (Nat.le_trans hlen hn2) hr hmg (F w mg _ KX G.T.g) (B w) fun H hO hS => hsp w H a ns hlen hbits hS
end Vf

namespace Vf
open PySem PySem.Spec PyProof.Rows L2
/-! ## enumerate(t), t a tuple -/
section
open AutoSeq1 (wpAny_loadPart')
/-- what enumerate makes of a tuple: its iterator, then the object that counts -/
def enT (h : Heap) (a : Addr) : Heap := h.push { cls := .type "tuple_iterator", data := .fields #[.ref a, .int 0 0] }
def enE (h : Heap) : Obj := { cls := .type "enumerate", data := .fields #[.none, .bool false, .ref h.objs.size, rawInt 0, .none, .none] }
theorem meets_enT (a : Addr) (items : Array Value) (n : Nat) (dct : Option Addr) (sl : Array (Option Value)) :
    Meets (Builtin.«enumerate.__new__» ⟨[.type "enumerate", .ref a], []⟩)
      (fun _ R s => s.heap.get? a = some { cls := .type "tuple", dict := dct, data := .seq items n, slots := sl } ∧
        R (.ok (.ret (.ref (enT s.heap a).objs.size))) { s with heap := (enT s.heap a).push (enE s.heap) }) :=
  .of_wp fun prog w A R s h => by
    obtain ⟨hp, g, d, tk, os⟩ := s
    obtain ⟨ho, h⟩ := h
    have sub := sub_enumerate
    have tup : Heap.IsTuple (Shared.heap ⟨hp, g, d, tk, os⟩) a items := ⟨_, ho, rfl, n, rfl⟩
    wp_walk using wpAny_loadPart' ho
    refine wpAny_stack_any fun st => wpAny_pure ?_
    split
    · rename_i c _ _ _ _ _
      rcases (c == Value.type "enumerate") with _ | _
      · wp_walk using wpAny_loadPart' ho, wpAny_pyIter_tuple tup
        exact ⟨_, rfl, h⟩
      · wp_walk using wpAny_loadPart' ho, wpAny_pyIter_tuple tup
        exact ⟨_, rfl, h⟩
    · wp_walk using wpAny_loadPart' ho, wpAny_pyIter_tuple tup
      exact ⟨_, rfl, h⟩
end
section
variable {prog : Program} {w : World} {A : Around} {E : Value → Shared → Prop} {s : Shared}
theorem call_enT {a : Addr} {items : Array Value} {Q : Value → Shared → Prop} (tup : s.heap.IsTuple a items)
    (h : ∀ h', IsEnum h' (s.heap.objs.size + 1) s.heap.objs.size 0 .none → h'.IsTupleIter s.heap.objs.size a 0 →
      (∀ b o, s.heap.get? b = some o → h'.get? b = some o) → Q (.ref (s.heap.objs.size + 1)) { s with heap := h' }) :
    wpAny (model prog w) A (call (.type "enumerate") [.ref a]) Q E s := by
  obtain ⟨⟨c, dct, dt, sl⟩, ho, hc, n, hd⟩ := tup
  cases (show c = .type "tuple" from hc)
  cases (show dt = .seq items n from hd)
  have sz : (enT s.heap a).objs.size = s.heap.objs.size + 1 := Heap.size_push ..
  have it0 : (enT s.heap a).get? s.heap.objs.size = some { cls := .type "tuple_iterator", data := .fields #[.ref a, .int 0 0] } := Heap.get?_push_size _ rfl
  have en0 : ((enT s.heap a).push (enE s.heap)).get? (s.heap.objs.size + 1) = some (enE s.heap) := by
    rw [← sz]
    exact Heap.get?_push_size _ rfl
  refine callType_new F.called_enumerate (by decide) (F.typeCall_enumerate_1 _) (F.newCall_enumerate_1 _)
    (fun obj => F.args_object_init_2 obj _) F.entry_enumerate_new (meets_enT a items n dct sl) ⟨ho, ?_⟩
  show _ ∧ _
  rw [sz]
  exact ⟨⟨_, en0, rfl⟩, h _ en0 ⟨_, Heap.get?_push_of_some _ it0, rfl, rfl⟩ fun b o e => Heap.get?_push_of_some _ (Heap.get?_push_of_some _ e)⟩
end
theorem drawsT {prog : Program} {w : World} {A : Around} (hh : A.handled = none) (it a : Addr) (ne : a ≠ it) (items : Array Value) :
    Draws prog w A it [it, a] items.size (fun i v => items[i]? = some v) (fun i h => h.IsTupleIter it a i ∧ h.IsTuple a items) where
  live := fun i h st => by
    obtain ⟨⟨o, ho, _⟩, _⟩ := st
    exact ⟨o, ho⟩
  frame := fun i h h' st k => by
    obtain ⟨⟨o, ho, r⟩, ⟨o2, ho2, r2⟩⟩ := st
    exact ⟨⟨o, k it (by simp) o ho, r⟩, ⟨o2, k a (by simp) o2 ho2, r2⟩⟩
  item := fun i s Q E hi st q => RZ.nextOf_tuple_item st.1 st.2 (x := items[i]) (by simp [hi]) fun h' hit sb =>
    q _ h' s.toks (by simp [hi]) ⟨hit, by
      obtain ⟨o2, ho2, r2⟩ := st.2
      exact ⟨o2, (sb.2 a ne).trans ho2, r2⟩⟩ sb
  done := fun s Q E st q => RZ.nextOf_tuple_end hh st.1 st.2 (by simp) q
/-- the tuple at a, each item in a new pair with its place -/
def ItE (K : PySem.W.Frag) (a : Addr) : It :=
  ⟨fun i H => ∃ (xs : List V) (x : V), SqT K H a xs ∧ xs[i]? = some x,
   fun i H v H' => ∃ T x, v = .ref T ∧ H T = none ∧ H' = upd H T (.tup [.int (i : Nat), x]) ∧ ∀ xs, SqT K H a xs → xs[i]? = some x,
   fun i H => ∃ xs : List V, SqT K H a xs ∧ xs.length ≤ i⟩
def EnAt (a e it : Addr) (i : Nat) (h : Heap) : Prop := (∃ old, IsEnum h e it ((i : Nat) : Int) old) ∧ h.IsTupleIter it a i ∧ e ≠ it ∧ e ≠ a ∧ it ≠ a
theorem turn_enT {P : Program} {w : World} {K : PySem.W.Frag} {elts : List Expr} {kk : Nat} {tpos : Pos} (a e it : Addr) :
    Turn P w K (.Tuple elts kk tpos) (ItE K a) [e, it] e (EnAt a e it) where
  mem := List.mem_cons_self
  obj := fun i h st b hb => by
    obtain ⟨⟨old, he⟩, ⟨o, ho, hc, hd⟩, _⟩ := st
    rcases List.mem_cons.mp hb with rfl | hb
    · exact ⟨_, he, fun v q => nomatch q⟩
    · rw [List.mem_singleton.mp hb]
      exact ⟨o, ho, fun v q => by rw [hd] at q; cases q⟩
  keep := fun i h h' st k => by
    obtain ⟨⟨old, he⟩, ⟨o, ho, r⟩, n⟩ := st
    exact ⟨⟨old, k e (by simp) _ he⟩, ⟨o, k it (by simp) _ ho, r⟩, n⟩
  item := by
    intro X hP hw hK hc i pins s σ H E I hf st hg
    subst hP hw hK
    obtain ⟨⟨old, he⟩, hit, n1, n2, n3⟩ := st
    obtain ⟨xs, x, hq, hx⟩ := hg
    obtain ⟨its, rv, p, hz⟩ := I.tuple hq
    obtain ⟨u, hu, ru⟩ := rv.get hx
    have tup : s.heap.IsTuple a its.toArray := p
    have hel := Heap.lt_size he
    have hil : it < s.heap.objs.size := by
      obtain ⟨_, q, _⟩ := hit
      exact Heap.lt_size q
    have hi : i < its.toArray.size := by
      rw [List.size_toArray]
      exact (List.getElem?_eq_some_iff.mp hu).1
    refine wpAny_pyNext_enum_itemD (drawsT (A := X.A.in1) (I.ok.hd hc) it a n3.symm its.toArray) he ⟨hit, tup⟩ hi n1 (by simp [n1, n2]) fun y h' tk hy ho st' hT hsz hk => ?_
    have eyu : y = u := by
      have h1 : its[i]? = some y := by simpa using hy
      rw [hu] at h1
      exact (Option.some.inj h1).symm
    subst eyu
    refine ⟨_, rfl, wpAny_letOwnedTupleGo_enum (s := { s with heap := h', toks := tk + 1 }) ho fun h'' he' sb => ?_⟩
    have hT2 : h''.get? s.heap.objs.size = some { cls := .type "tuple", data := .seq #[.int i tk, y] } := (sb.2 _ (Nat.ne_of_gt hel)).trans hT
    have new : ObjOk X.prog X.w (upd H s.heap.objs.size (.tup [.int (i : Nat), x])) h'' s.heap.objs.size (.tup [.int (i : Nat), x]) :=
      ⟨by show 2 ≤ sizeLine; decide, [.int i tk, y], .cons ⟨_, rfl⟩ (.cons ru .nil), ⟨_, hT2, rfl, _, rfl⟩⟩
    have stay : ∀ b ob, b ∉ [e, it] → s.heap.get? b = some ob → h''.get? b = some ob := fun b ob hb q =>
      (sb.2 b (fun z => hb (by simp [z]))).trans (hk b ob (fun z => hb (by simp [z])) (fun z => hb (by simp [z])) q)
    have I1 := I.turnedNew (t' := tk + 1) (ch := [e, it]) stay hf (Nat.le_refl _) new
    refine ⟨.ref s.heap.objs.size, _, I1, rfl, ⟨_, x, rfl, I.hok.fresh (Nat.le_refl _), rfl, fun ys hy2 => by rw [I.tuple_inj hy2 hq]; exact hx⟩, ⟨⟨y, ?_⟩, ?_, n1, n2, n3⟩, fun b hb => ?_⟩
    · rw [show ((i + 1 : Nat) : Int) = (i : Int) + 1 by omega]
      exact he'
    · obtain ⟨o, ho2, r⟩ := st'.1
      exact ⟨o, (sb.2 it n1.symm).trans ho2, r⟩
    · have lt : b < s.heap.objs.size := by
        rcases List.mem_cons.mp hb with rfl | hb
        · exact hel
        · rw [List.mem_singleton.mp hb]; exact hil
      rw [upd_ne (Nat.ne_of_lt lt)]
      exact (hf b hb).1
  done := by
    intro X hP hw hK hc i pins s σ H E I hf st hg
    subst hP hw hK
    obtain ⟨⟨old, he⟩, hit, n1, n2, n3⟩ := st
    obtain ⟨xs, hq, hx⟩ := hg
    obtain ⟨its, rv, p, hz⟩ := I.tuple hq
    obtain ⟨f0, f1, f2, f3, f4, f5⟩ := hf it (by simp)
    have tup : s.heap.IsTuple a its.toArray := p
    have hT : s.TypeIs (.ref e) "enumerate" := ⟨_, he, rfl⟩
    have hl := rv.length
    unfold pyNext
    refine wpAny_bind (wpAny_attempt (wpAny_callSpecial?_slot (name := Str.ofString "__next__") hT F.slot_enumerate_next
      (wpAny_call_entry F.slot_enumerate_next hT F.entry_enumerate_next ?_ (F.args_enumerate_next_1 _))))
    show wpAny _ _ (field (.ref e) 2 >>= _) _ _ _
    refine wpAny_bind (wpAny_field he rfl (x := .ref it) rfl ?_)
    refine wpAny_bind (RZ.nextOf_tuple_end (A := X.A.in1) (I.ok.hd hc) hit tup (by simp; omega) fun h' z hb hz2 => ?_)
    obtain ⟨o, ho, hcl⟩ := hz2
    refine wpAny_bind (wpAny_isInstance (T := "StopIteration") (b := true) ⟨o, ho, hcl⟩ isSubtype_stop ?_)
    exact wpAny_pure ⟨rfl, I.turned (t' := s.toks) (fun b o hb2 q => hb b o hb2 q) f0 f1 f3 f4 f5⟩
  self := fun A i s Q E st h => by
    obtain ⟨⟨_, he⟩, _⟩ := st
    exact wpAny_pyIter_enum he h
def iEn (K : PySem.W.Frag) (ta : TA) : TI := fun σ H R => ta σ H fun vs H1 => ∃ a xs, vs = [.ref a] ∧ SqT K H1 a xs ∧ R (ItE K a) H1
theorem i_enT {X : Cx} {K : PySem.W.Frag} {e : Expr} {ta : TA} {p pos tpos : Pos} {elts : List Expr} {kk : Nat} (ek : X.K = K) (hg : Gl X "enumerate") (hm : X.mg "enumerate" = none) (ha : PA X [e] ta)
    (hs : starEach [e] X.env = [(false, eval e X.env)] := by rfl) : PI X (.Tuple elts kk tpos) (.Call (.Name "enumerate" p) [e] [] pos) (iEn K ta) := by
  subst ek
  refine ⟨fun pins s σ H R I h => ?_⟩
  refine Call_ (ld_blt I hg hm boot_enumerate (PyProof.Rows.callWith_type1 (thn (ha.run pos pins s σ H _ I h) fun us s1 ⟨vs, H1, I1, r1, q1⟩ => ?_) hs rfl))
  obtain ⟨a, xs, rfl, hq, q⟩ := q1
  have eu := Vals.ref1 r1
  subst eu
  obtain ⟨its, rv, tup, hz⟩ := I1.tuple hq
  have hal : a < s1.heap.objs.size := tup.lt
  refine call_enT tup fun h' he hit hk => wpAny_pyIter_enum he ?_
  refine ⟨s1.heap.objs.size + 1, [s1.heap.objs.size + 1, s1.heap.objs.size], EnAt a (s1.heap.objs.size + 1) s1.heap.objs.size, _, H1, rfl, I1.kept (t' := s1.toks) hk, turn_enT a _ _,
    ⟨⟨.none, he⟩, hit, Nat.succ_ne_self _, Nat.ne_of_gt (Nat.lt_succ_of_lt hal), Nat.ne_of_gt hal⟩, fun b hb => ?_, q⟩
  have le : s1.heap.objs.size ≤ b := by
    rcases List.mem_cons.mp hb with rfl | hb
    · exact Nat.le_succ _
    · rw [List.mem_singleton.mp hb]; exact Nat.le_refl _
  exact I1.fpOk le (I1.hok.fresh le)
/-- slices -/
theorem r_slL {K : PySem.W.Frag} {H : Hp} {Q : VK} {a : Addr} {xs : List V} {lo hi : Option Int} (hs : SqL K H a xs) (h : ∀ p, H p = none → Q (.ref p) (upd H p (.lst (cutV xs lo hi)))) : rSlL K (.ref a) lo hi H Q := ⟨a, xs, rfl, hs, h⟩
theorem r_sl {r : V → Option Int → Option Int → Hp → VK → Prop} {te : TE} {tl th : TO} {σ : L2.St} {H : Hp} {Q : VK} (h : te σ H fun x H1 => tl σ H1 fun l H2 => th σ H2 fun u H3 => r x l u H3 Q) : tSl r te tl th σ H Q := h
theorem r_noPart {σ : L2.St} {H : Hp} {R : Option Int → Hp → Prop} (h : R none H) : tNoPart σ H R := h
theorem r_part {t : TE} {σ : L2.St} {H : Hp} {R : Option Int → Hp → Prop} (h : t σ H fun x H1 => ∃ i, x = .int i ∧ R (some i) H1) : tPart t σ H R := h
theorem cut_to (xs : List V) (n : Nat) : cutV xs none (some (n : Int)) = xs.take n := by
  unfold cutV
  rw [HT.sIx_none, HT.sIx_nat, List.drop_zero, Nat.sub_zero]
  rcases Nat.le_total n xs.length with h | h
  · rw [Nat.min_eq_left h]
  · rw [Nat.min_eq_right h, List.take_length, List.take_of_length_le h]
/-- a walk of a tuple with its places -/
theorem r_forEn {K : PySem.W.Frag} {g : TG} {tb : TS} {D : Ends} {σ : L2.St} {H : Hp} {a : Addr} (xs : List V) (Pv : Nat → L2.St → Hp → Prop) (h0 : Pv 0 σ H) (hl : ∀ i σ H, i ≤ xs.length → Pv i σ H → SqT K H a xs)
    (hs : ∀ i x σ H T, xs[i]? = some x → Pv i σ H → H T = none → g (.ref T) σ (upd H T (.tup [.int (i : Nat), x])) fun σ2 H2 => tb { D with nx := Pv (i + 1), ct := Pv (i + 1), bk := D.nx } σ2 H2)
    (hd : ∀ σ H, Pv xs.length σ H → D.nx σ H) : tFor (fun _ H2 R => R (ItE K a) H2) g tb D σ H := by
  refine ⟨fun i m σ H => m = xs.length - i ∧ i ≤ xs.length ∧ Pv i σ H, ⟨xs.length, by omega, Nat.zero_le _, h0⟩, ?_⟩
  rintro i m σ H ⟨rfl, hi, p⟩
  have q := hl i σ H hi p
  by_cases lt : i < xs.length
  · refine Or.inr ⟨⟨xs, xs[i], q, by simp [lt]⟩, Pv (i + 1), fun σ' H' p' => ⟨xs.length - (i + 1), by omega, rfl, lt, p'⟩, fun x H' y => ?_⟩
    obtain ⟨T, z, rfl, nT, rfl, fz⟩ := y
    exact hs i z σ H T (fz xs q) p nT
  · have e : i = xs.length := by omega
    subst e
    exact Or.inl ⟨⟨xs, q, Nat.le_refl _⟩, hd σ H p⟩
theorem r_forE {K : PySem.W.Frag} {g : TG} {tb : TS} {D : Ends} {σ : L2.St} {H : Hp} {ta : TA} (h : ta σ H fun vs H1 => ∃ a xs, vs = [.ref a] ∧ SqT K H1 a xs ∧ tFor (fun _ H2 R => R (ItE K a) H2) g tb D σ H1) : tFor (iEn K ta) g tb D σ H := h
end Vf

namespace Vf
/-! ## the greatest common divisor as a sum of both -/
/-- behind the first turn: both rests have one sign s, the factors of the first number go up and down by turns -/
def Bl (y u nu l r : Int) : Prop := ∃ (s e : Int) (p q a b : Nat), (s = 1 ∨ s = -1) ∧ (e = 1 ∨ e = -1) ∧ l = s * a ∧ r = s * b ∧ u = e * p ∧ nu = -(e * q) ∧ p * b + q * a = y.natAbs ∧ b < a ∧ p ≤ y.natAbs ∧ a ≤ y.natAbs
structure Bz (x y u v nu nv l r : Int) : Prop where
  e1 : u * x + v * y = l
  e2 : nu * x + nv * y = r
  g : Nat.gcd l.natAbs r.natAbs = Nat.gcd x.natAbs y.natAbs
  st : (u = 1 ∧ v = 0 ∧ nu = 0 ∧ nv = 1 ∧ l = x ∧ r = y) ∨ (y ≠ 0 ∧ Bl y u nu l r)
theorem Bz.first (x y : Int) : Bz x y 1 0 0 1 x y := ⟨by omega, by omega, rfl, .inl ⟨rfl, rfl, rfl, rfl, rfl, rfl⟩⟩
theorem nat_gcd_sub (l r t : Int) : Nat.gcd r.natAbs (l - t * r).natAbs = Nat.gcd l.natAbs r.natAbs := by
  have h : Int.gcd r (l - t * r) = Int.gcd r l := Int.gcd_sub_mul_right_right r l t
  rw [show Nat.gcd r.natAbs (l - t * r).natAbs = Int.gcd r (l - t * r) from rfl, h, Int.gcd_comm]
  rfl
theorem sgn_abs {s : Int} (h : s = 1 ∨ s = -1) (n : Nat) : (s * n).natAbs = n := by
  rcases h with h | h <;> subst h <;> omega
theorem fmod_neg (l r : Int) (h : r < 0) : l.fmod r ≤ 0 ∧ r < l.fmod r := by
  have e := Int.neg_fmod_neg (-l) (-r)
  rw [Int.neg_neg, Int.neg_neg] at e
  have h1 := Int.fmod_nonneg_of_pos (-l) (show 0 < -r by omega)
  have h2 := Int.fmod_lt_of_pos (-l) (show 0 < -r by omega)
  omega
theorem Bl.step {y u nu l r : Int} (h : Bl y u nu l r) (hr : r ≠ 0) : Bl y nu (u - l.fdiv r * nu) r (l - l.fdiv r * r) := by
  obtain ⟨s, e, p, q, a, b, hs, he, hl, hrr, hu, hnu, hy, hab, hp, ha⟩ := h
  have hb : 0 < b := by
    rcases Nat.eq_zero_or_pos b with z | z
    · subst z
      exact absurd (by rw [hrr]; simp) hr
    · exact z
  have ht : l.fdiv r = ((a / b : Nat) : Int) := by
    rw [hl, hrr]
    rcases hs with z | z <;> subst z
    · rw [Int.one_mul, Int.one_mul, Int.fdiv_eq_ediv_of_nonneg _ (by omega)]
      rfl
    · rw [Int.neg_mul, Int.neg_mul, Int.one_mul, Int.one_mul, Int.neg_fdiv_neg, Int.fdiv_eq_ediv_of_nonneg _ (by omega)]
      rfl
  have hd := Nat.div_add_mod a b
  have hm := Nat.mod_lt a hb
  rw [ht]
  generalize a / b = d at *
  generalize a % b = m at *
  have hd' : (b : Int) * d + m = a := by rw [← hd, Int.natCast_add, Int.natCast_mul]
  refine ⟨s, -e, q, p + d * q, b, m, hs, by omega, hrr, ?_, ?_, ?_, ?_, hm, ?_, by omega⟩
  · rw [hl, hrr, ← hd']
    grind
  · rw [hnu]; grind
  · rw [hu, hnu, Int.natCast_add, Int.natCast_mul]; grind
  · rw [← hy, ← hd]; grind
  · rw [← hy]
    have : q * 1 ≤ q * a := Nat.mul_le_mul_left q (by omega)
    omega
theorem Bz.step {x y u v nu nv l r : Int} (h : Bz x y u v nu nv l r) (hr : r ≠ 0) :
    Bz x y nu nv (u - l.fdiv r * nu) (v - l.fdiv r * nv) r (l - l.fdiv r * r) ∧ (l - l.fdiv r * r).natAbs < r.natAbs := by
  have key : l - l.fdiv r * r = l.fmod r := by rw [Int.fmod_def, Int.mul_comm]
  have lt : (l - l.fdiv r * r).natAbs < r.natAbs := by
    rw [key]
    rcases Int.lt_or_gt_of_ne hr with z | z
    · have h1 := fmod_neg l r z
      omega
    · have h1 := Int.fmod_nonneg_of_pos l z
      have h2 := Int.fmod_lt_of_pos l z
      omega
  refine ⟨⟨h.e2, ?_, ?_, .inr ?_⟩, lt⟩
  · have h1 := h.e1
    have h2 := h.e2
    grind
  · rw [nat_gcd_sub]; exact h.g
  · rcases h.st with ⟨e1, e2, e3, e4, e5, e6⟩ | ⟨hy, b⟩
    · subst e1 e2 e3 e4 e5 e6
      refine ⟨hr, ?_⟩
      rcases Int.lt_or_gt_of_ne hr with z | z
      · have h1 := (fmod_neg l r z).1
        refine ⟨-1, -1, 0, 1, r.natAbs, (l - l.fdiv r * r).natAbs, .inr rfl, .inr rfl, by omega, by omega, by omega, by omega, by omega, lt, by omega, by omega⟩
      · have h1 := Int.fmod_nonneg_of_pos l z
        refine ⟨1, -1, 0, 1, r.natAbs, (l - l.fdiv r * r).natAbs, .inl rfl, .inr rfl, by omega, by omega, by omega, by omega, by omega, lt, by omega, by omega⟩
    · exact ⟨hy, b.step hr⟩
theorem abs_of_mul {v y : Int} {B : Nat} (hy : y ≠ 0) (h : (v * y).natAbs ≤ B) : v.natAbs ≤ B := by
  rw [Int.natAbs_mul] at h
  exact Nat.le_trans (Nat.le_mul_of_pos_right _ (by omega)) h
theorem Bz.bounds {x y u v nu nv l r : Int} {B : Nat} (h : Bz x y u v nu nv l r) (hx : x.natAbs ≤ B) (hy : y.natAbs ≤ B) (hB : 1 ≤ B) :
    u.natAbs ≤ B ∧ nu.natAbs ≤ B ∧ l.natAbs ≤ B ∧ r.natAbs ≤ B ∧ v.natAbs ≤ B + B * B ∧ nv.natAbs ≤ B + B * B := by
  rcases h.st with ⟨e1, e2, e3, e4, e5, e6⟩ | ⟨h0, s, e, p, q, a, b, hs, he, hl, hrr, hu, hnu, hyy, hab, hp, ha⟩
  · subst e1 e2 e3 e4 e5 e6
    refine ⟨by omega, by omega, hx, hy, by omega, by omega⟩
  · have q1 : q ≤ y.natAbs := by
      rw [← hyy]
      have : q * 1 ≤ q * a := Nat.mul_le_mul_left q (by omega)
      omega
    have hub : u.natAbs ≤ B := by rw [hu, sgn_abs he]; omega
    have hnub : nu.natAbs ≤ B := by rw [hnu, Int.natAbs_neg, sgn_abs he]; omega
    have ra : r.natAbs = b := by rw [hrr, sgn_abs hs]
    have la : l.natAbs = a := by rw [hl, sgn_abs hs]
    have mb : ∀ (f : Int), f.natAbs ≤ B → (f * x).natAbs ≤ B * B := fun f hf => by
      rw [Int.natAbs_mul]; exact Nat.mul_le_mul hf hx
    have m1 := mb u hub
    have m2 := mb nu hnub
    have e1 := h.e1
    have e2 := h.e2
    refine ⟨hub, hnub, by omega, by omega, abs_of_mul h0 (by omega), abs_of_mul h0 (by omega)⟩
end Vf

namespace Vf
/-! ## two rests made one -/
theorem emod_unique {x r n q : Int} (h : x = r + n * q) (h0 : 0 ≤ r) (h1 : r < n) : x % n = r := by
  rw [h, Int.add_mul_emod_self_left]
  exact Int.emod_eq_of_lt h0 h1
/-- u is, by the step, what turns b / g back -/
theorem merge_math {x b c g bt ct u w : Int} (hb : 0 < b) (hc : 0 < c) (hg : 0 < g) (eb : b = g * bt) (ec : c = g * ct) (hu : u * bt = 1 + ct * w) :
    (x % c - x % b) % g = 0 ∧ x % b + b * (((x % c - x % b) / g * (u % ct)) % ct) = x % (b * ct) := by
  have hct : 0 < ct := by
    rcases Int.lt_trichotomy ct 0 with z | z | z
    · have := Int.mul_neg_of_pos_of_neg hg z; omega
    · subst z; omega
    · exact z
  have d1 := Int.emod_add_mul_ediv x b
  have d2 := Int.emod_add_mul_ediv x c
  generalize hr : x % b = r at *
  generalize hs : x % c = s at *
  generalize x / b = q at *
  generalize x / c = v at *
  have hr0 : 0 ≤ r := by rw [← hr]; exact Int.emod_nonneg _ (by omega)
  have hrb : r < b := by rw [← hr]; exact Int.emod_lt_of_pos _ hb
  -- the difference of the rests is g times d
  have hd : s - r = g * (bt * q - ct * v) := by
    subst eb ec
    have h1 : g * (bt * q - ct * v) = g * bt * q - g * ct * v := by grind
    rw [h1]
    omega
  have e0 : (s - r) % g = 0 := by rw [hd]; exact Int.mul_emod_right g _
  refine ⟨e0, ?_⟩
  have e1 : (s - r) / g = bt * q - ct * v := by rw [hd]; exact Int.mul_ediv_cancel_left _ (by omega)
  rw [e1]
  -- times is q, by the step
  have e2 : ((bt * q - ct * v) * (u % ct)) % ct = q % ct := by
    rw [Int.mul_emod, Int.emod_emod_of_dvd _ (Int.dvd_refl ct), ← Int.mul_emod]
    have : (bt * q - ct * v) * u = q + ct * (w * q - v * u) := by grind
    rw [this, Int.add_mul_emod_self_left]
  rw [e2]
  have dq := Int.emod_add_mul_ediv q ct
  have t0 := Int.emod_nonneg q (show ct ≠ 0 by omega)
  have t1 := Int.emod_lt_of_pos q hct
  generalize q % ct = t at *
  generalize q / ct = k at *
  refine (emod_unique (q := k) ?_ ?_ ?_).symm
  · rw [← d1, ← dq]; grind
  · have := Int.mul_nonneg (show 0 ≤ b by omega) t0
    omega
  · have h2 : b * (t + 1) ≤ b * ct := Int.mul_le_mul_of_nonneg_left (by omega) (by omega)
    rw [Int.mul_add, Int.mul_one] at h2
    omega
/-- least common multiples of some bases -/
def lcmAll (fs : List (Int × Int)) : Nat := fs.foldl (fun m p => Nat.lcm m p.2.natAbs) 1
theorem lcmAll_append (fs gs : List (Int × Int)) : lcmAll (fs ++ gs) = gs.foldl (fun m p => Nat.lcm m p.2.natAbs) (lcmAll fs) := by
  unfold lcmAll
  rw [List.foldl_append]
theorem lcmAll_snoc (fs : List (Int × Int)) (p : Int × Int) : lcmAll (fs ++ [p]) = Nat.lcm (lcmAll fs) p.2.natAbs := lcmAll_append fs [p]
/-- facts that are right: a base from 1 on, a rest by it -/
def Fact (p : Int × Int) : Prop := 1 ≤ p.2 ∧ p.2 ≤ 10 ^ 30 ∧ 0 ≤ p.1 ∧ p.1 < p.2
theorem lcmAll_pos : ∀ (fs : List (Int × Int)) (m : Nat), (∀ p ∈ fs, Fact p) → 0 < m → 0 < fs.foldl (fun m p => Nat.lcm m p.2.natAbs) m
  | [], _, _, h => h
  | p :: fs, m, hf, h => by
    have hp := hf p List.mem_cons_self
    exact lcmAll_pos fs _ (fun q hq => hf q (List.mem_cons_of_mem _ hq)) (Nat.lcm_pos h (by have := hp.1; omega))
theorem lcm_le_mul (a b : Nat) : Nat.lcm a b ≤ a * b := Nat.div_le_self _ _
theorem lcmAll_le : ∀ (fs : List (Int × Int)) (m e : Nat), (∀ p ∈ fs, Fact p) → m ≤ 2 ^ e → fs.foldl (fun m p => Nat.lcm m p.2.natAbs) m ≤ 2 ^ (e + 100 * fs.length)
  | [], _, _, _, h => h
  | p :: fs, m, e, hf, h => by
    have hp := hf p List.mem_cons_self
    have h2 : p.2.natAbs ≤ 2 ^ 100 := by
      obtain ⟨h1, h2, _⟩ := hp
      omega
    have h3 : Nat.lcm m p.2.natAbs ≤ 2 ^ (e + 100) := by
      rw [Nat.pow_add]
      exact Nat.le_trans (lcm_le_mul _ _) (Nat.mul_le_mul h h2)
    have := lcmAll_le fs _ (e + 100) (fun q hq => hf q (List.mem_cons_of_mem _ hq)) h3
    have e1 : e + 100 + 100 * fs.length = e + 100 * (p :: fs).length := by rw [List.length_cons]; omega
    rw [e1] at this
    exact this
theorem dvd_lcmAll : ∀ (fs : List (Int × Int)) (m : Nat), m ∣ fs.foldl (fun m p => Nat.lcm m p.2.natAbs) m ∧ ∀ p ∈ fs, p.2.natAbs ∣ fs.foldl (fun m p => Nat.lcm m p.2.natAbs) m
  | [], m => ⟨Nat.dvd_refl m, fun _ h => nomatch h⟩
  | p :: fs, m => by
    obtain ⟨h1, h2⟩ := dvd_lcmAll fs (Nat.lcm m p.2.natAbs)
    refine ⟨Nat.dvd_trans (Nat.dvd_lcm_left _ _) h1, fun q hq => ?_⟩
    rcases List.mem_cons.mp hq with rfl | hq
    · exact Nat.dvd_trans (Nat.dvd_lcm_right _ _) h1
    · exact h2 q hq
theorem lcmAll_dvd : ∀ (fs : List (Int × Int)) (m d : Nat), m ∣ d → (∀ p ∈ fs, p.2.natAbs ∣ d) → fs.foldl (fun m p => Nat.lcm m p.2.natAbs) m ∣ d
  | [], _, _, h, _ => h
  | p :: fs, m, d, h, hf => lcmAll_dvd fs _ d (Nat.lcm_dvd h (hf p List.mem_cons_self)) fun q hq => hf q (List.mem_cons_of_mem _ hq)
/-- a number fits some facts -/
def Fits (x : Int) (fs : List (Int × Int)) : Prop := ∀ p ∈ fs, x % p.2 = p.1
/-- whoever fits the facts that x fits leaves the rest of x by their multiple -/
theorem fits_iff {x y : Int} {fs : List (Int × Int)} (hf : ∀ p ∈ fs, Fact p) (hx : Fits x fs) : Fits y fs ↔ (lcmAll fs : Int) ∣ y - x := by
  constructor
  · intro hy
    have : lcmAll fs ∣ (y - x).natAbs := by
      refine lcmAll_dvd fs 1 _ (Nat.one_dvd _) fun p hp => ?_
      have h := Int.emod_emod_of_dvd (y - x) (Int.dvd_refl p.2)
      have e : y % p.2 = x % p.2 := by rw [hx p hp, hy p hp]
      have d : p.2 ∣ y - x := Int.dvd_of_emod_eq_zero (Int.emod_eq_emod_iff_emod_sub_eq_zero.mp e)
      exact Int.natAbs_dvd_natAbs.mpr d
    exact Int.dvd_natAbs.mp (Int.natCast_dvd_natCast.mpr this)
  · intro h p hp
    rw [← hx p hp]
    refine Int.emod_eq_emod_iff_emod_sub_eq_zero.mpr (Int.emod_eq_zero_of_dvd ?_)
    have d := (dvd_lcmAll fs 1).2 p hp
    have d2 : (p.2.natAbs : Int) ∣ (lcmAll fs : Int) := Int.natCast_dvd_natCast.mpr d
    have e : (p.2.natAbs : Int) = p.2 := by have := (hf p hp).1; omega
    rw [e] at d2
    exact Int.dvd_trans d2 h
end Vf

namespace Vf
open PySem PySem.Spec PyProof.Rows L2
/-! ## tuples stay, whatever a list does -/
theorem Kx.tupI {K : PySem.W.Frag} {k : Addr} {H H' : Hp} {l : List V} {a : Addr} {xs : List V} (e : Kx k H H') (hk : H k = some (.lst l)) (h : SqT K H a xs) : SqT K H' a xs := by
  rcases h with (h | ⟨o, h⟩) | h
  · exact Or.inl (Or.inl (e _ _ (ne_of h hk (by intro z; cases z)) h))
  · exact Or.inl (Or.inr ⟨o, e _ _ (ne_of h hk (by intro z; cases z)) h⟩)
  · exact Or.inr h
/-- what keeps all tuples -/
def Tt (H H' : Hp) : Prop := ∀ (K : PySem.W.Frag) a xs, SqT K H a xs → SqT K H' a xs
theorem Tt.refl (H : Hp) : Tt H H := fun _ _ _ h => h
theorem Tt.trans {H H1 H2 : Hp} (a : Tt H H1) (b : Tt H1 H2) : Tt H H2 := fun K x xs h => b K x xs (a K x xs h)
theorem Same.tt {H H' : Hp} (s : Same H H') : Tt H H' := fun _ _ _ h => Same.tup s h
theorem Kx.tt {k : Addr} {H H' : Hp} {l : List V} (e : Kx k H H') (hk : H k = some (.lst l)) : Tt H H' := fun _ _ _ h => e.tupI hk h
theorem new_tt {H : Hp} {p : Addr} {o : HO} (h : H p = none) : Tt H (upd H p o) := Same.tt (Same.new h)
theorem upd_tt {H : Hp} {k : Addr} {l : List V} {o : HO} (hk : H k = some (.lst l)) : Tt H (upd H k o) := Kx.tt Kx.upd hk
/-! ## pairs of ints, tuples of them -/
def PairAt (K : PySem.W.Frag) (H : Hp) (v : V) (p : Int × Int) : Prop := ∃ t, v = .ref t ∧ SqT K H t [.int p.1, .int p.2]
def PairsAt (K : PySem.W.Frag) (H : Hp) (vs : List V) (fs : List (Int × Int)) : Prop := Paired (PairAt K H) vs fs
def FactsAt (K : PySem.W.Frag) (H : Hp) (a : Addr) (fs : List (Int × Int)) : Prop := ∃ vs, SqT K H a vs ∧ PairsAt K H vs fs
theorem PairAt.tt {K : PySem.W.Frag} {H H' : Hp} {v : V} {p : Int × Int} (h : PairAt K H v p) (e : Tt H H') : PairAt K H' v p := by
  obtain ⟨t, rfl, s⟩ := h
  exact ⟨t, rfl, e K t _ s⟩
theorem PairsAt.tt {K : PySem.W.Frag} {H H' : Hp} (e : Tt H H') : ∀ {vs : List V} {fs : List (Int × Int)}, PairsAt K H vs fs → PairsAt K H' vs fs
  | _, _, .nil => .nil
  | _, _, .cons r t => .cons (r.tt e) (PairsAt.tt e t)
theorem FactsAt.tt {K : PySem.W.Frag} {H H' : Hp} {a : Addr} {fs : List (Int × Int)} (h : FactsAt K H a fs) (e : Tt H H') : FactsAt K H' a fs := by
  obtain ⟨vs, s, p⟩ := h
  exact ⟨vs, e K a _ s, PairsAt.tt e p⟩
theorem PairsAt.length {K : PySem.W.Frag} {H : Hp} {vs : List V} {fs : List (Int × Int)} (h : PairsAt K H vs fs) : vs.length = fs.length := Paired.length h
theorem PairsAt.get {K : PySem.W.Frag} {H : Hp} : ∀ {vs : List V} {fs : List (Int × Int)} {i : Nat} {x : V}, PairsAt K H vs fs → vs[i]? = some x → ∃ p, fs[i]? = some p ∧ PairAt K H x p
  | _, _, _, _, .nil, e => by simp at e
  | _, _, 0, x, .cons (b := q) r _, e => by
    simp at e
    subst e
    exact ⟨q, rfl, r⟩
  | _, _, i + 1, x, .cons _ t, e => by
    obtain ⟨p, h1, h2⟩ := PairsAt.get (i := i) (x := x) t (by simpa using e)
    exact ⟨p, by simpa using h1, h2⟩
theorem PairsAt.at {K : PySem.W.Frag} {H : Hp} {vs : List V} {fs : List (Int × Int)} {i : Nat} {p : Int × Int} (h : PairsAt K H vs fs) (e : fs[i]? = some p) : ∃ x, vs[i]? = some x ∧ PairAt K H x p := by
  have hl := h.length
  have hi : i < vs.length := by
    rw [hl]
    exact (List.getElem?_eq_some_iff.mp e).1
  obtain ⟨q, h1, h2⟩ := h.get (List.getElem?_eq_getElem hi)
  rw [e] at h1
  cases h1
  exact ⟨_, List.getElem?_eq_getElem hi, h2⟩
theorem PairsAt.append {K : PySem.W.Frag} {H : Hp} : ∀ {vs ws : List V} {fs gs : List (Int × Int)}, PairsAt K H vs fs → PairsAt K H ws gs → PairsAt K H (vs ++ ws) (fs ++ gs)
  | _, _, _, _, .nil, s => s
  | _, _, _, _, .cons r t, s => .cons r (PairsAt.append t s)
/-- facts that are right, at most forty -/
def Facts (fs : List (Int × Int)) : Prop := fs.length ≤ 40 ∧ ∀ p ∈ fs, Fact p
theorem Facts.at {fs : List (Int × Int)} (h : Facts fs) {i : Nat} {p : Int × Int} (e : fs[i]? = some p) : Fact p := h.2 p (List.mem_of_getElem? e)
theorem Facts.lcm_pos {fs : List (Int × Int)} (h : Facts fs) : 0 < lcmAll fs := lcmAll_pos fs 1 h.2 (by decide)
theorem Facts.lcm_bits {fs : List (Int × Int)} (h : Facts fs) : lcmAll fs ≤ 2 ^ (100 * fs.length) := by
  have := lcmAll_le fs 1 0 h.2 (Nat.le_refl 1)
  rwa [Nat.zero_add] at this
/-- a number of so many bits that all can be reckoned with it -/
def Bt (n : Nat) (i : Int) : Prop := Builtin.Int.intBits i ≤ n
theorem Bt.mul {a b : Nat} {i j : Int} (h1 : Bt a i) (h2 : Bt b j) (h : a + b ≤ 100000000) : CMulX i j := by
  unfold Bt at h1 h2
  unfold CMulX
  omega
theorem Bt.of {a : Nat} {i : Int} (h : i.natAbs < 2 ^ a) : Bt a i := bit_of h
theorem Bt.mono {a b : Nat} {i : Int} (h : Bt a i) (l : a ≤ b) : Bt b i := Nat.le_trans h l
theorem pow_lt_of_le {a b n : Nat} (h : n ≤ 2 ^ a) (l : a < b) : n < 2 ^ b := Nat.lt_of_le_of_lt h (Nat.pow_lt_pow_right (by decide) l)
theorem Bt.le {a : Nat} {i : Int} (h : i.natAbs ≤ 2 ^ a) : Bt (a + 1) i := Bt.of (pow_lt_of_le h (Nat.lt_succ_self a))
/-! ## the law's jug -/
def Jug (n : Nat) (k : Addr) (H : Hp) : Prop := ∃ a b c : Int, H k = some (.lst [.int b, .int a, .int c]) ∧ KegOk a b c n
theorem Jug.mono {n m : Nat} {k : Addr} {H : Hp} (h : Jug n k H) (l : n ≤ m) : Jug m k H := by
  obtain ⟨a, b, c, e, o⟩ := h
  exact ⟨a, b, c, e, o.a0, o.ab, o.b0, o.bM, o.c0, by have := o.cn; omega⟩
theorem Jug.same {n : Nat} {k : Addr} {H H' : Hp} (h : Jug n k H) (s : Same H H') : Jug n k H' := by
  obtain ⟨a, b, c, e, o⟩ := h
  exact ⟨a, b, c, s _ _ e, o⟩
theorem Jug.new {n : Nat} {k p : Addr} {H : Hp} {o : HO} (h : Jug n k H) (hp : H p = none) : Jug n k (upd H p o) := h.same (Same.new hp)
theorem Jug.ne {n : Nat} {k p : Addr} {H : Hp} (h : Jug n k H) (hp : H p = none) : p ≠ k := by
  obtain ⟨a, b, c, e, o⟩ := h
  exact (ne_of_none e hp).symm
theorem Jug.tt {n : Nat} {k : Addr} {H H' : Hp} (h : Jug n k H) (e : Kx k H H') : Tt H H' := by
  obtain ⟨a, b, c, z, o⟩ := h
  exact e.tt z
theorem Jug.kx {n m : Nat} {k j : Addr} {H H' : Hp} (h : Jug n k H) (e : Kx j H H') (ne : k ≠ j) : Jug n k H' := by
  obtain ⟨a, b, c, z, o⟩ := h
  exact ⟨a, b, c, e _ _ ne z, o⟩
def sp_pour : Sp := fun vs H Q _ => ∃ (k : Addr) (u : Int) (n : Nat), vs = [.ref k, .int u] ∧ Jug n k H ∧ n ≤ 2 ^ 60 ∧ 0 < u ∧ u < 2 ^ 62 ∧
  ∀ f H', 0 ≤ f → f < u → Kx k H H' → Jug (n + 1) k H' → Q (.int f) H'
theorem i_pour {k : Addr} {u : Int} {H : Hp} {Q : VK} {E : XK} (n : Nat) (hk : Jug n k H) (hn : n ≤ 2 ^ 60) (h0 : 0 < u) (h1 : u < 2 ^ 62)
    (q : ∀ f H', 0 ≤ f → f < u → Kx k H H' → Jug (n + 1) k H' → Q (.int f) H') : sp_pour [.ref k, .int u] H Q E := ⟨k, u, n, rfl, hk, hn, h0, h1, q⟩
def sp_one_of (K : PySem.W.Frag) : Sp := fun vs H Q _ => ∃ (k t : Addr) (xs : List V) (n : Nat), vs = [.ref k, .ref t] ∧ Jug n k H ∧ n ≤ 2 ^ 60 ∧ t ≠ k ∧ SqL K H t xs ∧ 0 < xs.length ∧ xs.length ≤ 100000 ∧
  ∀ (i : Nat) (x : V) H', xs[i]? = some x → Kx k H H' → Jug (n + 1) k H' → Q x H'
theorem i_one_of {K : PySem.W.Frag} {k t : Addr} {H : Hp} {Q : VK} {E : XK} (n : Nat) (xs : List V) (hk : Jug n k H) (hn : n ≤ 2 ^ 60) (ht : t ≠ k) (hs : SqL K H t xs) (h0 : 0 < xs.length) (h1 : xs.length ≤ 100000)
    (q : ∀ (i : Nat) x H', xs[i]? = some x → Kx k H H' → Jug (n + 1) k H' → Q x H') : sp_one_of K [.ref k, .ref t] H Q E := ⟨k, t, xs, n, rfl, hk, hn, ht, hs, h0, h1, q⟩
def sp_jug (K : PySem.W.Frag) : Sp := fun vs H Q _ => ∃ (c : Addr) (ns : List Int) (j : Nat), vs = [.ref c, .int (j : Int)] ∧ SqL K H c (ns.map V.int) ∧ Script ns ∧ j ≤ 1000 ∧
  ∀ p H', Same H H' → H p = none → Jug 1 p H' → Q (.ref p) H'
theorem i_jug {K : PySem.W.Frag} {c : Addr} {H : Hp} {Q : VK} {E : XK} (ns : List Int) (j : Nat) (hs : SqL K H c (ns.map V.int)) (hn : Script ns) (hj : j ≤ 1000)
    (q : ∀ p H', Same H H' → H p = none → Jug 1 p H' → Q (.ref p) H') : sp_jug K [.ref c, .int (j : Int)] H Q E := ⟨c, ns, j, rfl, hs, hn, hj, q⟩
def sp_great : Sp := fun vs H Q _ => ∃ (k : Addr) (u : Int) (n : Nat), vs = [.ref k, .int u] ∧ Jug n k H ∧ n ≤ 2 ^ 59 ∧ 0 < u ∧
  ∀ f H', 0 ≤ f → f < u → f < 10 ^ 37 → Kx k H H' → Jug (n + 10) k H' → Q (.int f) H'
theorem i_great {k : Addr} {u : Int} {H : Hp} {Q : VK} {E : XK} (n : Nat) (hk : Jug n k H) (hn : n ≤ 2 ^ 59) (h0 : 0 < u)
    (q : ∀ f H', 0 ≤ f → f < u → f < 10 ^ 37 → Kx k H H' → Jug (n + 10) k H' → Q (.int f) H') : sp_great [.ref k, .int u] H Q E := ⟨k, u, n, rfl, hk, hn, h0, q⟩
end Vf

namespace Vf
open PySem PySem.Spec PyProof.Rows L2
/-! ## two walks in one comprehension -/
/-- the inner walk: item by item, then Nx -/
def Inn (D : Addr) (J1 : It) (g1 : TG) (tt1 : TT) (te : TE) (vs1 : List Nat) (σ2 : L2.St) (H4 : Hp) (Nx : Hp → Prop) : Prop :=
  ∃ W1 : Nat → Nat → Hp → Prop, (∃ m, W1 0 m H4) ∧ ∀ j k H, W1 j k H →
      (J1.stop j H ∧ Nx H) ∨ (J1.go j H ∧ ∃ Nx1 : Hp → Prop, (∀ H', Nx1 H' → ∃ k', k' < k ∧ W1 (j + 1) k' H') ∧ ∀ x H', J1.yld j H x H' → g1 x (wipe σ2 vs1) H' fun σ3 H5 => wipe σ3 vs1 = wipe σ2 vs1 ∧ tt1 σ3 H5 fun b H6 =>
        if b = true then te σ3 H6 fun y H7 => ∃ acc, H7 D = some (.lst acc) ∧ acc.length < sizeLine ∧ Nx1 (upd H7 D (.lst (acc ++ [y]))) else Nx1 H6)
theorem inn_range {D : Addr} {g1 : TG} {tt1 : TT} {te : TE} {vs1 : List Nat} {σ2 : L2.St} {H4 : Hp} {Nx : Hp → Prop} {lo : Int} {n : Nat} (Pv : Nat → Hp → Prop) (h0 : Pv 0 H4)
    (hs : ∀ j H, j < n → Pv j H → g1 (.int (lo + j)) (wipe σ2 vs1) H fun σ3 H5 => wipe σ3 vs1 = wipe σ2 vs1 ∧ tt1 σ3 H5 fun b H6 =>
        if b = true then te σ3 H6 fun y H7 => ∃ acc, H7 D = some (.lst acc) ∧ acc.length < sizeLine ∧ Pv (j + 1) (upd H7 D (.lst (acc ++ [y]))) else Pv (j + 1) H6)
    (hd : ∀ H, Pv n H → Nx H) : Inn D (Itr lo n) g1 tt1 te vs1 σ2 H4 Nx := by
  refine ⟨fun i m H => m = n - i ∧ i ≤ n ∧ Pv i H, ⟨n, by omega, Nat.zero_le _, h0⟩, ?_⟩
  rintro i m H ⟨rfl, hi, p⟩
  by_cases lt : i < n
  · refine Or.inr ⟨lt, Pv (i + 1), fun H' p' => ⟨n - (i + 1), by omega, rfl, lt, p'⟩, fun x H' y => ?_⟩
    obtain ⟨e, y⟩ := y
    subst e y
    exact hs i _ lt p
  · have e : i = n := by omega
    subst e
    exact Or.inl ⟨Nat.le_refl _, hd H p⟩
section
variable {σ : L2.St} {H : Hp} {Q : VK} {g g1 : TG} {tt tt1 : TT} {te : TE} {vs vs1 : List Nat} {wi1 : TI}
theorem r_lc2R {lo : Int} {n : Nat} (Pv : Addr → Nat → Hp → Prop) (h0 : ∀ D, H D = none → Pv D 0 (upd H D (.lst [])))
    (hs : ∀ D i H', H D = none → i < n → Pv D i H' → g (.int (lo + i)) (wipe σ vs) H' fun σ2 H2 => wipe σ2 vs = wipe σ vs ∧ tt σ2 H2 fun b H3 =>
      if b = true then wi1 σ2 H3 fun J1 H4 => Inn D J1 g1 tt1 te vs1 σ2 H4 (Pv D (i + 1)) else Pv D (i + 1) H3)
    (hd : ∀ D H', H D = none → Pv D n H' → Q (.ref D) H') : tLc2 (fun _ H2 R => R (Itr lo n) H2) g tt wi1 g1 tt1 te vs vs1 σ H Q := by
  refine fun D hD => ⟨fun i m H => m = n - i ∧ i ≤ n ∧ Pv D i H, ⟨n, by omega, Nat.zero_le _, h0 D hD⟩, ?_⟩
  rintro i m H' ⟨rfl, hi, p⟩
  by_cases lt : i < n
  · refine Or.inr ⟨lt, Pv D (i + 1), fun H' p' => ⟨n - (i + 1), by omega, rfl, lt, p'⟩, fun x H' y => ?_⟩
    obtain ⟨e, y⟩ := y
    subst e y
    exact hs D i _ hD lt p
  · have e : i = n := by omega
    subst e
    exact Or.inl ⟨Nat.le_refl _, hd D H' hD p⟩
theorem r_lc2R1 {ta : TA} (h : ta σ H fun ws H1 => ∃ j : Int, ws = [.int j] ∧ -(2 ^ 62) ≤ j ∧ j < 2 ^ 62 ∧ tLc2 (fun _ H2 R => R (Itr 0 j.toNat) H2) g tt wi1 g1 tt1 te vs vs1 σ H1 Q) : tLc2 (iRng1 ta) g tt wi1 g1 tt1 te vs vs1 σ H Q := h
theorem r_w2 {ta : TA} {R : It → Hp → Prop} (h : ta σ H fun ws H1 => ∃ i j : Int, ws = [.int i, .int j] ∧ (-(2 ^ 62) ≤ i ∧ i < 2 ^ 62 ∧ -(2 ^ 62) ≤ j ∧ j < 2 ^ 62) ∧ R (Itr i (j - i).toNat) H1) : iRng2 ta σ H R := h
end
theorem is_T_T {K : PySem.W.Frag} {H : Hp} {Q : VK} {a : Addr} {xs : List V} (hs : SqT K H a xs) (h : Q (.bl true) H) : rIsi K [.ref a, .ty "tuple"] H Q := by
  have t : TyX K H (.ref a) (.type "tuple") := by
    rcases hs with (e | ⟨o, e⟩) | ⟨o, _, _, e, c, _⟩
    · exact .base (.tup e)
    · exact .fTuple e
    · exact .kTuple e c
  exact r_isi (.ty "tuple") t (kit_ty (by decide +kernel)) h
theorem r_bm {K : PySem.W.Frag} {T : String} {r : V → List V → Hp → VK → Prop} {to : TE} {t : TA} {σ : L2.St} {H : Hp} {Q : VK} (h : to σ H fun x H1 => tyV K T x H1 ∧ t σ H1 fun xs H2 => r x xs H2 Q) : tBM K T r to t σ H Q := h
theorem r_app {H : Hp} {Q : VK} {l : Addr} {xs : List V} {y : V} (e : H l = some (.lst xs)) (hz : xs.length ≤ 100000) (h : Q .non (upd H l (.lst (xs ++ [y])))) : rAppend (.ref l) [y] H Q :=
  ⟨l, xs, y, rfl, rfl, e, Nat.lt_of_le_of_lt hz (by decide), h⟩
/-! ## how great all that is reckoned can get -/
def Bq : Nat := 2 ^ 4001
theorem Bq_one : 1 ≤ Bq := by decide +kernel
theorem Bq_two : 2 * Bq < 2 ^ 4003 := by decide +kernel
theorem Bq_sq : Bq + Bq * Bq < 2 ^ 8010 := by decide +kernel
theorem Bq_lt : Bq < 2 ^ 4003 := by decide +kernel
theorem Bq_90 : Bq < 2 ^ 9000 := by decide +kernel
theorem Facts.lcm_Bq {fs : List (Int × Int)} (h : ∀ p ∈ fs, Fact p) (hl : fs.length ≤ 40) : lcmAll fs ≤ Bq := by
  refine Nat.le_trans (Facts.lcm_bits ⟨hl, h⟩) (Nat.pow_le_pow_right (by decide) ?_)
  omega
theorem Bq_div {i j : Int} (h0 : 0 < j) (h : j.natAbs ≤ Bq) : CDivW i j := wide_div (b := 4003) h0 (Nat.lt_of_le_of_lt h Bq_lt) (by decide) (by decide)
theorem Bq_bits {i : Int} (h : i.natAbs ≤ Bq) : Builtin.Int.intBits i ≤ 4003 := bit_of (Nat.lt_of_le_of_lt h Bq_lt)
theorem lcmAll_small : ∀ (fs : List (Int × Int)) (m e : Nat), (∀ p ∈ fs, p.2.natAbs ≤ 2 ^ 6) → m ≤ 2 ^ e → fs.foldl (fun m p => Nat.lcm m p.2.natAbs) m ≤ 2 ^ (e + 6 * fs.length)
  | [], _, _, _, h => h
  | p :: fs, m, e, hf, h => by
    have h3 : Nat.lcm m p.2.natAbs ≤ 2 ^ (e + 6) := by
      rw [Nat.pow_add]
      exact Nat.le_trans (lcm_le_mul _ _) (Nat.mul_le_mul h (hf p List.mem_cons_self))
    have := lcmAll_small fs _ (e + 6) (fun q hq => hf q (List.mem_cons_of_mem _ hq)) h3
    have e1 : e + 6 + 6 * fs.length = e + 6 * (p :: fs).length := by rw [List.length_cons]; omega
    rw [e1] at this
    exact this
/-- drawn facts: at most four, of small bases -/
def Drawn (fs : List (Int × Int)) : Prop := fs.length ≤ 4 ∧ ∀ p ∈ fs, 1 ≤ p.2 ∧ p.2 ≤ 36 ∧ 0 ≤ p.1 ∧ p.1 < p.2
theorem Drawn.facts {fs : List (Int × Int)} (h : Drawn fs) : Facts fs := by
  refine ⟨by have := h.1; omega, fun p hp => ?_⟩
  obtain ⟨h1, h2, h3, h4⟩ := h.2 p hp
  exact ⟨h1, by omega, h3, h4⟩
theorem Drawn.lcm {fs : List (Int × Int)} (h : Drawn fs) : lcmAll fs ≤ 2 ^ 24 := by
  have := lcmAll_small fs 1 0 (fun p hp => by have := h.2 p hp; omega) (Nat.le_refl 1)
  refine Nat.le_trans this (Nat.pow_le_pow_right (by decide) ?_)
  have := h.1
  omega
end Vf

namespace Vf
open PySem PySem.Spec PyProof.Rows L2
/-! ## zip(t, u) of two tuples, each pair under one name -/
/-- a zip in any state: what it gave out last, whether it knows that this lives -/
def Zst (h : Heap) (u TI TO : Addr) (f0 f1 : Value) : Prop := h.get? u = some ⟨.type "zip", none, .fields #[f0, f1, .bool false, .ref TI, .ref TO], #[]⟩
def Out (f0 : Value) : Prop := f0 = .none ∨ ∃ T : Nat, f0 = rawInt (T : Int)
def Flag (f1 : Value) : Prop := ∃ b, f1 = .bool b
section
variable {prog : Program} {w : World} {A : Around} {E : Value → Shared → Prop} {s : Shared}
theorem alive_any {a : Addr} {Q : Option Obj → Shared → Prop} (h : Q (s.heap.get? a) s) : wpAny (model prog w) A (loadIfAlive a) Q E s := fun _ _ _ => h
theorem z_free {u TI TO : Addr} {f0 f1 : Value} {Q : Bool → Shared → Prop} (o0 : Out f0) (o1 : Flag f1) (zz : Zst s.heap u TI TO f0 f1) (h1 : Q true s)
    (h2 : ∀ h' g1, Flag g1 → Zst h' u TI TO f0 g1 → Heap.SameBut u s.heap h' → Q false { s with heap := h' }) : wpAny (model prog w) A (Builtin.SmallTypes.ownedTupleIsFree (.ref u)) Q E s := by
  unfold Builtin.SmallTypes.ownedTupleIsFree
  refine wpAny_bind (wpAny_field (x := f0) zz rfl rfl ?_)
  rcases o0 with e | ⟨T, e⟩
  · subst e
    exact wpAny_pure h1
  · subst e
    show wpAny _ _ (loadIfAlive _ >>= _) _ _ _
    refine wpAny_bind (alive_any ?_)
    cases s.heap.get? (T : Int).toNat with
    | none => exact wpAny_pure h1
    | some o =>
      obtain ⟨b, e⟩ := o1
      subst e
      show wpAny _ _ (field (.ref u) 1 >>= _) _ _ _
      refine wpAny_bind (wpAny_field (x := .bool b) zz rfl rfl ?_)
      cases b with
      | true => exact wpAny_pure (h2 s.heap _ ⟨true, rfl⟩ zz (Heap.SameBut.refl _ _))
      | false =>
        exact wpAny_bind (wpAny_setField_rec zz (by simp) fun h' z' sb => wpAny_pure (h2 h' _ ⟨true, rfl⟩ z' sb))
/-- what a turn leaves -/
def ZNext (s : Shared) (u TI TO i1 i2 l1 l2 : Addr) (k1 k2 : Nat) (x y : Value) (h' : Heap) : Prop :=
  (∃ g0 g1, Out g0 ∧ Flag g1 ∧ Zst h' u TI TO g0 g1) ∧ (∃ a b, IsPair h' TO a b) ∧ h'.IsTupleIter i1 l1 (k1 + 1) ∧ h'.IsTupleIter i2 l2 (k2 + 1) ∧ IsPair h' s.heap.objs.size x y ∧ h'.objs.size = s.heap.objs.size + 1 ∧
    ∀ c o, c ≠ u → c ≠ TO → c ≠ i1 → c ≠ i2 → s.heap.get? c = some o → h'.get? c = some o
theorem zn_item {u TI TO i1 i2 l1 l2 : Addr} {f0 f1 : Value} {k1 k2 : Nat} {xs ys : Array Value} {x y a b : Value} {Q : Value → Shared → Prop} (D : ZipApart u TI TO i1 i2 l1 l2) (o0 : Out f0) (o1 : Flag f1)
    (zz : Zst s.heap u TI TO f0 f1) (ti : IsPair s.heap TI (.ref i1) (.ref i2)) (to : IsPair s.heap TO a b) (h1 : s.heap.IsTupleIter i1 l1 k1) (h2 : s.heap.IsTupleIter i2 l2 k2)
    (t1 : s.heap.IsTuple l1 xs) (t2 : s.heap.IsTuple l2 ys) (ex : xs[k1]? = some x) (ey : ys[k2]? = some y) (q : ∀ h', ZNext s u TI TO i1 i2 l1 l2 k1 k2 x y h' → Q (.ref s.heap.objs.size) { s with heap := h' }) :
    wpAny (model prog w) A (Builtin.«zip.__next__» ⟨[.ref u], []⟩) (fun r s' => ∃ v, r = .done (.ret v) ∧ Q v s') E s := by
  show wpAny _ _ (field (.ref u) 2 >>= _) _ _ _
  refine wpAny_bind (wpAny_field (x := .bool false) zz rfl rfl ?_)
  show wpAny _ _ (field (.ref u) 3 >>= _) _ _ _
  refine wpAny_bind (wpAny_field (x := .ref TI) zz rfl rfl ?_)
  refine wpAny_bind (wpAny_seqItems ti rfl ?_)
  show wpAny _ _ (Builtin.SmallTypes.ownedTupleIsFree (.ref u) >>= _) _ _ _
  refine wpAny_bind (z_free o0 o1 zz ?_ fun m1 g1 og zm sb1 => ?_)
  · simp only [if_true]
    refine wpAny_bind <| wpAny_rule ?_
    refine wpAny_bind (wpAny_field (x := .ref TO) zz rfl rfl ?_)
    refine wpAny_bind (wpAny_setField_rec zz (by simp) fun m1 zm sb1 => ?_)
    replace zm : Zst m1 u TI TO .ellipsis f1 := zm
    refine wpAny_bind ?_
    rw [List.zipIdx_cons, List.zipIdx_cons, List.zipIdx_nil]
    simp only [List.forIn_cons, List.forIn_nil]
    refine wpAny_bind <| wpAny_bind <| wpAny_onRaise ?_
    show wpAny _ _ (Builtin.SmallTypes.nextOf (Value.ref i1) >>= _) _ _ _
    refine wpAny_bind (RZ.nextOf_tuple_item (h1.extBut sb1.extBut D.i1z) (t1.extBut sb1.extBut D.l1z) ex fun m2 n1 sb2 => wpAny_pure ?_)
    have to2 : IsPair m2 TO a b := sb2.extBut _ _ D.TOi1 (sb1.extBut _ _ D.TOz to)
    refine wpAny_bind (wpAny_seqItems to2 rfl ?_)
    refine wpAny_bind (wpAny_updateSeq_pair to2 fun m3 to3 sb3 => ?_)
    replace to3 : IsPair m3 TO x b := to3
    refine wpAny_bind <| wpAny_letGo <| wpAny_pure ?_
    refine wpAny_bind <| wpAny_bind <| wpAny_onRaise ?_
    show wpAny _ _ (Builtin.SmallTypes.nextOf (Value.ref i2) >>= _) _ _ _
    have p2 : m3.IsTupleIter i2 l2 k2 := ((h2.extBut sb1.extBut D.i2z).extBut sb2.extBut D.i12.symm).extBut sb3.extBut D.TOi2.symm
    have q2 : m3.IsTuple l2 ys := ((t2.extBut sb1.extBut D.l2z).extBut sb2.extBut D.l2i1).extBut sb3.extBut D.l2TO
    refine wpAny_bind (RZ.nextOf_tuple_item p2 q2 ey fun m4 n2 sb4 => wpAny_pure ?_)
    have to4 : IsPair m4 TO x b := sb4.extBut _ _ D.TOi2 to3
    refine wpAny_bind (wpAny_seqItems to4 rfl ?_)
    refine wpAny_bind (wpAny_updateSeq_pair to4 fun m5 to5 sb5 => ?_)
    replace to5 : IsPair m5 TO x y := to5
    refine wpAny_bind <| wpAny_letGo <| wpAny_pure <| wpAny_pure ?_
    refine wpAny_bind (wpAny_seqItems to5 rfl ?_)
    refine wpAny_bind <| wpAny_newTuple ?_
    have sz : m5.objs.size = s.heap.objs.size := by rw [sb5.1, sb4.1, sb3.1, sb2.1, sb1.1]
    have z5 : Zst m5 u TI TO .ellipsis f1 := sb5.extBut _ _ D.TOz.symm (sb4.extBut _ _ D.i2z.symm (sb3.extBut _ _ D.TOz.symm (sb2.extBut _ _ D.i1z.symm zm)))
    have k5 : ∀ c o, c ≠ u → c ≠ TO → c ≠ i1 → c ≠ i2 → s.heap.get? c = some o → m5.get? c = some o := fun c o c1 c2 c3 c4 e => sb5.extBut _ _ c2 (sb4.extBut _ _ c4 (sb3.extBut _ _ c2 (sb2.extBut _ _ c3 (sb1.extBut _ _ c1 e))))
    have r1 : m5.IsTupleIter i1 l1 (k1 + 1) := ((n1.extBut sb3.extBut D.TOi1.symm).extBut sb4.extBut D.i12).extBut sb5.extBut D.TOi1.symm
    have r2 : m5.IsTupleIter i2 l2 (k2 + 1) := n2.extBut sb5.extBut D.TOi2.symm
    have ul : u < m5.objs.size := Heap.lt_size z5
    show wpAny _ _ (Builtin.SmallTypes.ownedTupleHandOut (.ref u) (.ref m5.objs.size) >>= _) _ _ _
    refine wpAny_bind ?_
    unfold Builtin.SmallTypes.ownedTupleHandOut
    have z6 : Zst (m5.push { cls := .type "tuple", data := .seq #[x, y] }) u TI TO .ellipsis f1 := Heap.get?_push_of_some _ z5
    refine wpAny_bind (wpAny_setField_rec z6 (by simp) fun m7 z7 sb7 => ?_)
    replace z7 : Zst m7 u TI TO (rawInt m5.objs.size) f1 := z7
    refine wpAny_setField_rec z7 (by simp) fun m8 z8 sb8 => ?_
    replace z8 : Zst m8 u TI TO (rawInt m5.objs.size) (.bool false) := z8
    have up : ∀ c o, c ≠ u → m5.get? c = some o → m8.get? c = some o := fun c o c1 e => sb8.extBut _ _ c1 (sb7.extBut _ _ c1 (Heap.get?_push_of_some _ e))
    have np : IsPair m8 m5.objs.size x y := sb8.extBut _ _ (Nat.ne_of_gt ul) (sb7.extBut _ _ (Nat.ne_of_gt ul) (Heap.get?_push_size _ rfl))
    have sz8 : m8.objs.size = m5.objs.size + 1 := by rw [sb8.1, sb7.1, Heap.size_push]
    refine wpAny_pure ⟨_, rfl, ?_⟩
    show Q (.ref m5.objs.size) _
    rw [sz] at z8 np sz8 ⊢
    exact q m8 ⟨⟨_, _, .inr ⟨_, rfl⟩, ⟨_, rfl⟩, z8⟩, ⟨x, y, up _ _ D.TOz to5⟩, r1.at fun o e => up _ o D.i1z e, r2.at fun o e => up _ o D.i2z e, np, sz8, fun c o c1 c2 c3 c4 e => up c o c1 (k5 c o c1 c2 c3 c4 e)⟩
  · simp only [Bool.false_eq_true, if_false]
    refine wpAny_bind ?_
    rw [← Array.forIn_toList]
    simp only [List.forIn_cons, List.forIn_nil]
    refine wpAny_bind <| wpAny_bind <| wpAny_holding ?_
    show wpAny _ _ (Builtin.SmallTypes.nextOf (Value.ref i1) >>= _) _ _ _
    refine wpAny_bind (RZ.nextOf_tuple_item (s := { s with heap := m1 }) (h1.extBut sb1.extBut D.i1z) (t1.extBut sb1.extBut D.l1z) ex fun m2 n1 sb2 => wpAny_pure ?_)
    refine wpAny_pure ?_
    refine wpAny_bind <| wpAny_bind <| wpAny_holding ?_
    show wpAny _ _ (Builtin.SmallTypes.nextOf (Value.ref i2) >>= _) _ _ _
    refine wpAny_bind (RZ.nextOf_tuple_item (s := { s with heap := m2 }) ((h2.extBut sb1.extBut D.i2z).extBut sb2.extBut D.i12.symm) ((t2.extBut sb1.extBut D.l2z).extBut sb2.extBut D.l2i1) ey fun m3 n2 sb3 => wpAny_pure ?_)
    refine wpAny_pure <| wpAny_pure ?_
    show wpAny _ _ (newTuple [x, y] >>= _) _ _ _
    refine wpAny_bind <| wpAny_newTuple ?_
    have sz : m3.objs.size = s.heap.objs.size := by rw [sb3.1, sb2.1, sb1.1]
    have z3 : Zst m3 u TI TO f0 g1 := sb3.extBut _ _ D.i2z.symm (sb2.extBut _ _ D.i1z.symm zm)
    have k3 : ∀ c o, c ≠ u → c ≠ i1 → c ≠ i2 → s.heap.get? c = some o → m3.get? c = some o := fun c o c1 c2 c3 e => sb3.extBut _ _ c3 (sb2.extBut _ _ c2 (sb1.extBut _ _ c1 e))
    have r1 : m3.IsTupleIter i1 l1 (k1 + 1) := n1.extBut sb3.extBut D.i12
    refine wpAny_pure ⟨_, rfl, ?_⟩
    show Q (.ref m3.objs.size) _
    have np : IsPair (m3.push { cls := .type "tuple", data := .seq #[x, y] }) m3.objs.size x y := Heap.get?_push_size _ rfl
    have sz4 : (m3.push { cls := .type "tuple", data := .seq #[x, y] }).objs.size = m3.objs.size + 1 := Heap.size_push ..
    rw [sz] at np sz4 ⊢
    exact q _ ⟨⟨_, _, o0, og, Heap.get?_push_of_some _ z3⟩, ⟨a, b, Heap.get?_push_of_some _ (k3 _ _ D.TOz D.TOi1 D.TOi2 to)⟩, r1.at fun o e => Heap.get?_push_of_some _ e, n2.at fun o e => Heap.get?_push_of_some _ e, np, sz4,
      fun c o c1 _ c3 c4 e => Heap.get?_push_of_some _ (k3 c o c1 c3 c4 e)⟩
/-- what the end leaves -/
def ZEnd (s : Shared) (u TO i1 i2 : Addr) (h' : Heap) : Prop := ∀ c o, c ≠ u → c ≠ TO → c ≠ i1 → c ≠ i2 → s.heap.get? c = some o → h'.get? c = some o
theorem zn_end {u TI TO i1 i2 l1 l2 : Addr} {f0 f1 : Value} {k1 k2 : Nat} {xs ys : Array Value} {a b : Value} {Q : Fin → Shared → Prop} (hh : A.handled = none) (D : ZipApart u TI TO i1 i2 l1 l2) (o0 : Out f0) (o1 : Flag f1)
    (zz : Zst s.heap u TI TO f0 f1) (ti : IsPair s.heap TI (.ref i1) (.ref i2)) (to : IsPair s.heap TO a b) (h1 : s.heap.IsTupleIter i1 l1 k1) (h2 : s.heap.IsTupleIter i2 l2 k2)
    (t1 : s.heap.IsTuple l1 xs) (t2 : s.heap.IsTuple l2 ys) (no : xs[k1]? = none ∨ ys[k2]? = none) (q : ∀ h' e, ZEnd s u TO i1 i2 h' → (∃ o, h'.get? e = some o ∧ o.cls = .type "StopIteration") → E (.ref e) { s with heap := h' }) :
    wpAny (model prog w) A (Builtin.«zip.__next__» ⟨[.ref u], []⟩) Q E s := by
  show wpAny _ _ (field (.ref u) 2 >>= _) _ _ _
  refine wpAny_bind (wpAny_field (x := .bool false) zz rfl rfl ?_)
  show wpAny _ _ (field (.ref u) 3 >>= _) _ _ _
  refine wpAny_bind (wpAny_field (x := .ref TI) zz rfl rfl ?_)
  refine wpAny_bind (wpAny_seqItems ti rfl ?_)
  show wpAny _ _ (Builtin.SmallTypes.ownedTupleIsFree (.ref u) >>= _) _ _ _
  refine wpAny_bind (z_free o0 o1 zz ?_ fun m1 g1 og zm sb1 => ?_)
  · simp only [if_true]
    refine wpAny_bind <| wpAny_rule ?_
    refine wpAny_bind (wpAny_field (x := .ref TO) zz rfl rfl ?_)
    refine wpAny_bind (wpAny_setField_rec zz (by simp) fun m1 zm sb1 => ?_)
    replace zm : Zst m1 u TI TO .ellipsis f1 := zm
    refine wpAny_bind ?_
    rw [List.zipIdx_cons, List.zipIdx_cons, List.zipIdx_nil]
    simp only [List.forIn_cons, List.forIn_nil]
    refine wpAny_bind <| wpAny_bind <| wpAny_onRaise ?_
    show wpAny _ _ (Builtin.SmallTypes.nextOf (Value.ref i1) >>= _) _ _ _
    cases ex : xs[k1]? with
    | none =>
      refine wpAny_bind (RZ.nextOf_tuple_end hh (h1.extBut sb1.extBut D.i1z) (t1.extBut sb1.extBut D.l1z) ex fun m2 e sb2 se => ?_)
      obtain ⟨oe, e1, e2⟩ := se
      have z2 : Zst m2 u TI TO .ellipsis f1 := sb2 _ _ D.i1z.symm zm
      have ne : e ≠ u := fun eq => by
        subst eq
        rw [show m2.get? e = _ from z2] at e1
        cases e1
        simp at e2
      exact wpAny_setField_rec z2 (by simp) fun m3 _ sb3 => q m3 e (fun c o c1 _ c3 _ eq => sb3.extBut _ _ c1 (sb2 _ _ c3 (sb1.extBut _ _ c1 eq))) ⟨oe, sb3.extBut _ _ ne e1, e2⟩
    | some x =>
      have ey : ys[k2]? = none := by
        rcases no with n | n
        · rw [ex] at n; cases n
        · exact n
      refine wpAny_bind (RZ.nextOf_tuple_item (h1.extBut sb1.extBut D.i1z) (t1.extBut sb1.extBut D.l1z) ex fun m2 n1 sb2 => wpAny_pure ?_)
      have to2 : IsPair m2 TO a b := sb2.extBut _ _ D.TOi1 (sb1.extBut _ _ D.TOz to)
      refine wpAny_bind (wpAny_seqItems to2 rfl ?_)
      refine wpAny_bind (wpAny_updateSeq_pair to2 fun m3 to3 sb3 => ?_)
      refine wpAny_bind <| wpAny_letGo <| wpAny_pure ?_
      refine wpAny_bind <| wpAny_bind <| wpAny_onRaise ?_
      show wpAny _ _ (Builtin.SmallTypes.nextOf (Value.ref i2) >>= _) _ _ _
      have p2 : m3.IsTupleIter i2 l2 k2 := ((h2.extBut sb1.extBut D.i2z).extBut sb2.extBut D.i12.symm).extBut sb3.extBut D.TOi2.symm
      have q2 : m3.IsTuple l2 ys := ((t2.extBut sb1.extBut D.l2z).extBut sb2.extBut D.l2i1).extBut sb3.extBut D.l2TO
      refine wpAny_bind (RZ.nextOf_tuple_end hh p2 q2 ey fun m4 e sb4 se => ?_)
      obtain ⟨oe, e1, e2⟩ := se
      have z4 : Zst m4 u TI TO .ellipsis f1 := sb4 _ _ D.i2z.symm (sb3.extBut _ _ D.TOz.symm (sb2.extBut _ _ D.i1z.symm zm))
      have ne : e ≠ u := fun eq => by
        subst eq
        rw [show m4.get? e = _ from z4] at e1
        cases e1
        simp at e2
      exact wpAny_setField_rec z4 (by simp) fun m5 _ sb5 => q m5 e (fun c o c1 c2 c3 c4 eq => sb5.extBut _ _ c1 (sb4 _ _ c4 (sb3.extBut _ _ c2 (sb2.extBut _ _ c3 (sb1.extBut _ _ c1 eq))))) ⟨oe, sb5.extBut _ _ ne e1, e2⟩
  · simp only [Bool.false_eq_true, if_false]
    refine wpAny_bind ?_
    rw [← Array.forIn_toList]
    simp only [List.forIn_cons, List.forIn_nil]
    refine wpAny_bind <| wpAny_bind <| wpAny_holding ?_
    show wpAny _ _ (Builtin.SmallTypes.nextOf (Value.ref i1) >>= _) _ _ _
    cases ex : xs[k1]? with
    | none =>
      exact wpAny_bind (RZ.nextOf_tuple_end (s := { s with heap := m1 }) hh (h1.extBut sb1.extBut D.i1z) (t1.extBut sb1.extBut D.l1z) ex fun m2 e sb2 se => q m2 e (fun c o c1 _ c3 _ eq => sb2 _ _ c3 (sb1.extBut _ _ c1 eq)) se)
    | some x =>
      have ey : ys[k2]? = none := by
        rcases no with n | n
        · rw [ex] at n; cases n
        · exact n
      refine wpAny_bind (RZ.nextOf_tuple_item (s := { s with heap := m1 }) (h1.extBut sb1.extBut D.i1z) (t1.extBut sb1.extBut D.l1z) ex fun m2 n1 sb2 => wpAny_pure ?_)
      refine wpAny_pure ?_
      refine wpAny_bind <| wpAny_bind <| wpAny_holding ?_
      show wpAny _ _ (Builtin.SmallTypes.nextOf (Value.ref i2) >>= _) _ _ _
      exact wpAny_bind (RZ.nextOf_tuple_end (s := { s with heap := m2 }) hh ((h2.extBut sb1.extBut D.i2z).extBut sb2.extBut D.i12.symm) ((t2.extBut sb1.extBut D.l2z).extBut sb2.extBut D.l2i1) ey
        fun m3 e sb3 se => q m3 e (fun c o c1 _ c3 c4 eq => sb3 _ _ c4 (sb2.extBut _ _ c3 (sb1.extBut _ _ c1 eq))) se)
theorem zp_item {u TI TO i1 i2 l1 l2 : Addr} {f0 f1 : Value} {k1 k2 : Nat} {xs ys : Array Value} {x y a b : Value} {Q : Option Value → Shared → Prop} (D : ZipApart u TI TO i1 i2 l1 l2) (o0 : Out f0) (o1 : Flag f1)
    (zz : Zst s.heap u TI TO f0 f1) (ti : IsPair s.heap TI (.ref i1) (.ref i2)) (to : IsPair s.heap TO a b) (h1 : s.heap.IsTupleIter i1 l1 k1) (h2 : s.heap.IsTupleIter i2 l2 k2)
    (t1 : s.heap.IsTuple l1 xs) (t2 : s.heap.IsTuple l2 ys) (ex : xs[k1]? = some x) (ey : ys[k2]? = some y) (q : ∀ h', ZNext s u TI TO i1 i2 l1 l2 k1 k2 x y h' → Q (some (.ref s.heap.objs.size)) { s with heap := h' }) :
    wpAny (model prog w) A (pyNext (.ref u)) Q E s := by
  have ty : s.TypeIs (.ref u) "zip" := ⟨_, zz, rfl⟩
  unfold pyNext
  refine wpAny_bind <| wpAny_attempt <| wpAny_callSpecial?_slot (name := Str.ofString "__next__") ty F.slot_zip_next ?_
  exact wpAny_call_entry F.slot_zip_next ty F.entry_zip_next (zn_item D o0 o1 zz ti to h1 h2 t1 t2 ex ey fun h' z => wpAny_pure (q h' z)) (F.args_zip_next_1 _)
theorem zp_end {u TI TO i1 i2 l1 l2 : Addr} {f0 f1 : Value} {k1 k2 : Nat} {xs ys : Array Value} {a b : Value} {Q : Option Value → Shared → Prop} (hh : A.handled = none) (D : ZipApart u TI TO i1 i2 l1 l2) (o0 : Out f0) (o1 : Flag f1)
    (zz : Zst s.heap u TI TO f0 f1) (ti : IsPair s.heap TI (.ref i1) (.ref i2)) (to : IsPair s.heap TO a b) (h1 : s.heap.IsTupleIter i1 l1 k1) (h2 : s.heap.IsTupleIter i2 l2 k2)
    (t1 : s.heap.IsTuple l1 xs) (t2 : s.heap.IsTuple l2 ys) (no : xs[k1]? = none ∨ ys[k2]? = none) (q : ∀ h', ZEnd s u TO i1 i2 h' → Q none { s with heap := h' }) :
    wpAny (model prog w) A (pyNext (.ref u)) Q E s := by
  have ty : s.TypeIs (.ref u) "zip" := ⟨_, zz, rfl⟩
  unfold pyNext
  refine wpAny_bind <| wpAny_attempt <| wpAny_callSpecial?_slot (name := Str.ofString "__next__") ty F.slot_zip_next ?_
  refine wpAny_call_entry F.slot_zip_next ty F.entry_zip_next (zn_end hh D o0 o1 zz ti to h1 h2 t1 t2 no fun h' e z se => ?_) (F.args_zip_next_1 _)
  obtain ⟨oe, e1, e2⟩ := se
  refine wpAny_bind (wpAny_isInstance (b := true) (T := "StopIteration") ⟨oe, e1, e2⟩ isSubtype_stop ?_)
  exact wpAny_pure (q _ z)
end
end Vf

namespace Vf
open PySem PySem.Spec PyProof.Rows L2
theorem z_iter {prog : Program} {w : World} {A : Around} {E : Value → Shared → Prop} {s : Shared} {u TI TO : Addr} {f0 f1 : Value} {Q : Value → Shared → Prop} (zz : Zst s.heap u TI TO f0 f1) (q : Q (.ref u) s) : wpAny (model prog w) A (pyIter (.ref u)) Q E s := by
  have ty : s.TypeIs (.ref u) "zip" := ⟨_, zz, rfl⟩
  refine wpAny_pyIter_slot ty F.slot_zip_iter (wpAny_call_entry F.slot_zip_iter ty F.entry_zip_iter ?_ (F.args_zip_iter_1 _))
  show wpAny _ _ (ret (Value.ref u)) _ _ s
  exact wpAny_pure ⟨_, rfl, "zip", _, ty, F.slot_zip_next.lookup, q⟩
def ZTn (u TI TO i1 i2 a b : Addr) (i : Nat) (h : Heap) : Prop :=
  (∃ f0 f1, Out f0 ∧ Flag f1 ∧ Zst h u TI TO f0 f1) ∧ IsPair h TI (.ref i1) (.ref i2) ∧ (∃ x y, IsPair h TO x y) ∧ h.IsTupleIter i1 a i ∧ h.IsTupleIter i2 b i
theorem turn_zipN {P : Program} {w : World} {K : PySem.W.Frag} {nm : Str} {npos : Pos} {a b u TI TO i1 i2 : Addr} (D : ZipApart u TI TO i1 i2 a b) :
    Turn P w K (.Name nm npos) (RZ.ItzT K a b) [u, TI, TO, i1, i2] u (ZTn u TI TO i1 i2 a b) where
  mem := List.mem_cons_self
  obj := fun i h st c hc => by
    obtain ⟨⟨f0, f1, _, _, zz⟩, ti, ⟨x, y, to⟩, ⟨o1, e1, _, d1⟩, ⟨o2, e2, _, d2⟩⟩ := st
    simp only [List.mem_cons, List.not_mem_nil, or_false] at hc
    rcases hc with e | e | e | e | e
    · subst e; exact ⟨_, zz, fun v q => nomatch q⟩
    · subst e; exact ⟨_, ti, fun v q => nomatch q⟩
    · subst e; exact ⟨_, to, fun v q => nomatch q⟩
    · subst e; exact ⟨o1, e1, fun v q => by rw [d1] at q; cases q⟩
    · subst e; exact ⟨o2, e2, fun v q => by rw [d2] at q; cases q⟩
  keep := fun i h h' st k => by
    obtain ⟨⟨f0, f1, p0, p1, zz⟩, ti, ⟨x, y, to⟩, h1, h2⟩ := st
    exact ⟨⟨f0, f1, p0, p1, k u (by simp) _ zz⟩, k TI (by simp) _ ti, ⟨x, y, k TO (by simp) _ to⟩, h1.at fun o q => k i1 (by simp) o q, h2.at fun o q => k i2 (by simp) o q⟩
  item := by
    intro X hP hw hK hc i pins s σ H E I hf st hg
    subst hP hw hK
    obtain ⟨⟨f0, f1, p0, p1, zz⟩, ti, ⟨x0, y0, to⟩, h1, h2⟩ := st
    obtain ⟨xs, ys, x, y, qx, qy, ex, ey⟩ := hg
    obtain ⟨its, rv, tp, _⟩ := I.tuple qx
    obtain ⟨its2, rv2, tp2, _⟩ := I.tuple qy
    obtain ⟨v1, g1, w1⟩ := rv.get ex
    obtain ⟨v2, g2, w2⟩ := rv2.get ey
    have b0 : u < s.heap.objs.size := Heap.lt_size zz
    have bI : TI < s.heap.objs.size := Heap.lt_size ti
    have bO : TO < s.heap.objs.size := Heap.lt_size to
    have b1 : i1 < s.heap.objs.size := by
      obtain ⟨_, q, _⟩ := h1
      exact Heap.lt_size q
    have b2 : i2 < s.heap.objs.size := by
      obtain ⟨_, q, _⟩ := h2
      exact Heap.lt_size q
    refine zp_item D p0 p1 zz ti to h1 h2 tp tp2 (x := v1) (y := v2) (by simpa using g1) (by simpa using g2) fun m zn => ?_
    obtain ⟨z', ⟨ta, tb, to'⟩, n1, n2, np, sz, kp⟩ := zn
    refine ⟨_, rfl, ?_⟩
    unfold letOwnedTupleGo
    refine wpAny_pure ?_
    have fresh : ObjOk X.prog X.w (upd H s.heap.objs.size (.tup [x, y])) m s.heap.objs.size (.tup [x, y]) :=
      ⟨by show 2 ≤ sizeLine; decide, [v1, v2], .cons w1 (.cons w2 .nil), ⟨_, np, rfl, _, rfl⟩⟩
    have stay : ∀ c o, c ∉ [u, TI, TO, i1, i2] → s.heap.get? c = some o → m.get? c = some o := fun c o hb q => kp c o (fun e => hb (by simp [e])) (fun e => hb (by simp [e])) (fun e => hb (by simp [e])) (fun e => hb (by simp [e])) q
    have I1 := I.turnedNew (t' := s.toks) (ch := [u, TI, TO, i1, i2]) stay hf (Nat.le_refl _) fresh
    refine ⟨.ref s.heap.objs.size, _, I1, rfl, ⟨_, x, y, rfl, I.hok.fresh (Nat.le_refl _), rfl, fun l hl => by rw [I.tuple_inj hl qx]; exact ex, fun l hl => by rw [I.tuple_inj hl qy]; exact ey⟩,
      ⟨z', kp _ _ D.TIz D.TITO D.TIi1 D.TIi2 ti, ⟨ta, tb, to'⟩, n1, n2⟩, fun c hcm => ?_⟩
    have lt : c < s.heap.objs.size := by
      have hcm2 := hcm
      simp only [List.mem_cons, List.not_mem_nil, or_false] at hcm2
      rcases hcm2 with e | e | e | e | e <;> (subst e; assumption)
    rw [upd_ne (Nat.ne_of_lt lt)]
    exact (hf c hcm).1
  done := by
    intro X hP hw hK hc i pins s σ H E I hf st hg
    subst hP hw hK
    obtain ⟨⟨f0, f1, p0, p1, zz⟩, ti, ⟨x0, y0, to⟩, h1, h2⟩ := st
    obtain ⟨xs, ys, qx, qy, en⟩ := hg
    obtain ⟨its, rv, tp, _⟩ := I.tuple qx
    obtain ⟨its2, rv2, tp2, _⟩ := I.tuple qy
    have l1 := rv.length
    have l2 := rv2.length
    have no : its.toArray[i]? = none ∨ its2.toArray[i]? = none := by
      rcases en with q | q
      · exact .inl (by simp; omega)
      · exact .inr (by simp; omega)
    refine zp_end (I.ok.hd hc) D p0 p1 zz ti to h1 h2 tp tp2 no fun m ze => ⟨rfl, ?_⟩
    exact I.turnedL (t' := s.toks) (ch := [u, TI, TO, i1, i2]) (fun c o hb q => ze c o (fun e => hb (by simp [e])) (fun e => hb (by simp [e])) (fun e => hb (by simp [e])) (fun e => hb (by simp [e])) q) hf
  self := fun A i s Q E st h => by
    obtain ⟨⟨f0, f1, _, _, zz⟩, _⟩ := st
    exact z_iter zz h
/-- zip(t, u) of tuples -/
def iZn (K : PySem.W.Frag) (ta : TA) : TI := fun σ H R => ta σ H fun vs H1 => ∃ a b xs ys, vs = [.ref a, .ref b] ∧ SqT K H1 a xs ∧ SqT K H1 b ys ∧ R (RZ.ItzT K a b) H1
theorem i_zipN {X : Cx} {K : PySem.W.Frag} {e e2 : Expr} {ta : TA} {p pos npos : Pos} {nm : Str} (ek : X.K = K) (hg : Gl X "zip") (hm : X.mg "zip" = none) (ha : PA X [e, e2] ta)
    (hs : starEach [e, e2] X.env = (false, eval e X.env) :: starEach [e2] X.env := by rfl) (hp : (backTo pos (starEach [e2] X.env)).any (·.1) = false := by rfl) :
    PI X (.Name nm npos) (.Call (.Name "zip" p) [e, e2] [] pos) (iZn K ta) := by
  subst ek
  refine ⟨fun pins s σ H R I h => ?_⟩
  refine Call_ (ld_blt I hg hm PyProof.Rows.boot_zip (PyProof.Rows.callWith_type1 (thn (ha.run pos pins s σ H _ I h) fun us s1 ⟨vs, H1, I1, r1, q1⟩ => ?_) hs hp))
  obtain ⟨a, b, xs, ys, rfl, qx, qy, q⟩ := q1
  obtain ⟨ua, ub, rfl, ra, rb⟩ : ∃ ua ub, us = [ua, ub] ∧ RelV (.ref a) ua ∧ RelV (.ref b) ub := by
    cases r1 with
    | cons r rr =>
      cases rr with
      | cons r' rr =>
        cases rr
        exact ⟨_, _, rfl, r, r'⟩
  cases ra
  cases rb
  obtain ⟨its, rv, tp, _⟩ := I1.tuple qx
  obtain ⟨its2, rv2, tp2, _⟩ := I1.tuple qy
  have la : a < s1.heap.objs.size := tp.lt
  have lb : b < s1.heap.objs.size := tp2.lt
  refine RZ.call_zipT tp tp2 fun m hz hTI hTO n1 n2 hsz hk => z_iter (f0 := .none) (f1 := .bool false) hz ?_
  refine ⟨s1.heap.objs.size + 4, [s1.heap.objs.size + 4, s1.heap.objs.size + 2, s1.heap.objs.size + 3, s1.heap.objs.size, s1.heap.objs.size + 1], _, _, H1, rfl, I1.kept (t' := s1.toks) hk,
    turn_zipN (PySem.W.ktu_apart s1.heap.objs.size a b la lb), ⟨⟨.none, .bool false, .inl rfl, ⟨false, rfl⟩, hz⟩, hTI, ⟨_, _, hTO⟩, n1, n2⟩, fun c hcm => ?_, q⟩
  have le : s1.heap.objs.size ≤ c := by
    simp only [List.mem_cons, List.not_mem_nil, or_false] at hcm
    rcases hcm with e | e | e | e | e <;> subst e
    · exact Nat.le_add_right _ _
    · exact Nat.le_add_right _ _
    · exact Nat.le_add_right _ _
    · exact Nat.le_refl _
    · exact Nat.le_add_right _ _
  exact I1.fpOk le (I1.hok.fresh le)
/-- a walk of two tuples, pair by pair -/
theorem r_forZ {K : PySem.W.Frag} {g : TG} {tb : TS} {D : Ends} {σ : L2.St} {H : Hp} {a b : Addr} (xs ys : List V) (n : Nat) (hx : xs.length = n) (hy : ys.length = n) (Pv : Nat → L2.St → Hp → Prop) (h0 : Pv 0 σ H)
    (hl : ∀ i σ H, i ≤ n → Pv i σ H → SqT K H a xs ∧ SqT K H b ys)
    (hs : ∀ i x y σ H T, xs[i]? = some x → ys[i]? = some y → Pv i σ H → H T = none → g (.ref T) σ (upd H T (.tup [x, y])) fun σ2 H2 => tb { D with nx := Pv (i + 1), ct := Pv (i + 1), bk := D.nx } σ2 H2)
    (hd : ∀ σ H, Pv n σ H → D.nx σ H) : tFor (fun _ H2 R => R (RZ.ItzT K a b) H2) g tb D σ H := by
  refine ⟨fun i m σ H => m = n - i ∧ i ≤ n ∧ Pv i σ H, ⟨n, by omega, Nat.zero_le _, h0⟩, ?_⟩
  rintro i m σ H ⟨rfl, hi, p⟩
  obtain ⟨qx, qy⟩ := hl i σ H hi p
  by_cases lt : i < n
  · have ix : i < xs.length := by omega
    have iy : i < ys.length := by omega
    refine Or.inr ⟨⟨xs, ys, xs[i], ys[i], qx, qy, by simp [ix], by simp [iy]⟩, Pv (i + 1), fun σ' H' p' => ⟨n - (i + 1), by omega, rfl, lt, p'⟩, fun v H' yy => ?_⟩
    obtain ⟨T, x, y, rfl, nT, rfl, f1, f2⟩ := yy
    exact hs i x y σ H T (f1 xs qx) (f2 ys qy) p nT
  · have e : i = n := by omega
    subst e
    exact Or.inl ⟨⟨xs, ys, qx, qy, .inl (by omega)⟩, hd σ H p⟩
theorem r_forZn {K : PySem.W.Frag} {g : TG} {tb : TS} {D : Ends} {σ : L2.St} {H : Hp} {ta : TA} (h : ta σ H fun vs H1 => ∃ a b xs ys, vs = [.ref a, .ref b] ∧ SqT K H1 a xs ∧ SqT K H1 b ys ∧ tFor (fun _ H2 R => R (RZ.ItzT K a b) H2) g tb D σ H1) :
    tFor (iZn K ta) g tb D σ H := h
end Vf

namespace Vf
open PySem PySem.Spec PyProof.Rows L2
/-! ## *= and //= of ints -/
def ipC (C : Int → Int → Prop) (f : Int → Int → Int) : TIp := fun x y H Q => ∃ i j, x = .int i ∧ y = .int j ∧ C i j ∧ Q (.int (f i j)) H
theorem r_ipC {C : Int → Int → Prop} {f : Int → Int → Int} {i j : Int} {H : Hp} {Q : VK} (c : C i j) (q : Q (.int (f i j)) H) : ipC C f (.int i) (.int j) H Q := ⟨i, j, rfl, rfl, c, q⟩
section
variable {X : Cx}
theorem ip_mulX : PIp X .Mult (ipC CMulX fun i j => i * j) := by
  intro pins s σ H x y v u Q I rx ry h
  obtain ⟨i, j, rfl, rfl, c, q⟩ := h
  obtain ⟨t1, rfl⟩ := rx
  obtain ⟨t2, rfl⟩ := ry
  exact PySem.AutoIntOps.imul_0 ⟨.int _, H, I.tok _, ⟨_, rfl⟩, q⟩ c.ok
theorem ip_fdivW : PIp X .FloorDiv (ipC CDivW fun i j => i / j) := by
  intro pins s σ H x y v u Q I rx ry h
  obtain ⟨i, j, rfl, rfl, c, q⟩ := h
  obtain ⟨t1, rfl⟩ := rx
  obtain ⟨t2, rfl⟩ := ry
  have j0 : (0 : Int) < j := c.1
  refine PySem.AutoIntOps.ifloordiv_1 (by simp; omega) (by rw [PyProof.noPylong_of_log2 c.2]; decide) ?_
  rw [Int.fdiv_eq_ediv_of_nonneg i (by omega)]
  exact ⟨.int _, H, I.tok _, ⟨_, rfl⟩, q⟩
end
/-! ## zip under two names -/
theorem r_forZa {K : PySem.W.Frag} {g : TG} {tb : TS} {D : Ends} {σ : L2.St} {H : Hp} {ta : TA} (h : ta σ H fun vs H1 => ∃ a b xs ys, vs = [.ref a, .ref b] ∧ ((SqL K H1 a xs ∧ SqL K H1 b ys ∧ tFor (fun _ H2 R => R (Itz K a b) H2) g tb D σ H1) ∨
    (SqT K H1 a xs ∧ SqT K H1 b ys ∧ tFor (fun _ H2 R => R (RZ.ItzT K a b) H2) g tb D σ H1))) : tFor (RZ.iZipA K ta) g tb D σ H := h
end Vf

namespace Vf
open PySem PySem.Spec PyProof.Rows L2
/-! ## tuples of ints, compared and shown -/
section
variable {K : PySem.W.Frag} {H : Hp} {Q : VK}
def tupD (ns : List Int) : PyData := .tuple (ns.map PyData.int)
theorem Dp.tupD {a : Addr} {ns : List Int} (h : SqT K H a (ns.map V.int)) : Dp K H (.ref a) (tupD ns) := .tup h (DpAll.ints ns)
theorem shapedTup (ns : List Int) : SeqAt.shaped (tupD ns) = true := by
  unfold SeqAt.shaped
  rw [Bool.and_eq_true]
  refine ⟨canInts ns, decide_eq_true ?_⟩
  show PyData.depthAll (ns.map PyData.int) + 1 ≤ 64
  rw [depthInts]; decide
theorem r_neT {a b : Addr} (ns ms : List Int) (h1 : SqT K H a (ns.map V.int)) (h2 : SqT K H b (ms.map V.int)) (h : Q (.bl (!decide (ns = ms))) H) : rNeD K (.ref a) (.ref b) H Q := by
  refine r_neD (Dp.tupD h1) (Dp.tupD h2) (shapedTup ns) (shapedTup ms) ?_
  rw [show PyData.eqv (tupD ns) (tupD ms) = decide (ns = ms) from eqvInts ns ms]
  exact h
def twoD (ns ms : List Int) : PyData := .list [tupD ns, tupD ms]
theorem r_reprTT {a t1 t2 : Addr} (ns ms : List Int) (hs : SqL K H a [.ref t1, .ref t2]) (h1 : SqT K H t1 (ns.map V.int)) (h2 : SqT K H t2 (ms.map V.int)) (b1 : ∀ n ∈ ns, n.natAbs < 2 ^ 1900) (b2 : ∀ n ∈ ms, n.natAbs < 2 ^ 1900)
    (l1 : ns.length ≤ 20) (l2 : ms.length ≤ 20) (h : Q (.str (twoD ns ms).shown) H) : rRepr K [.ref a] H Q := by
  refine r_reprD (twoD ns ms) (Dp.lst hs (.cons (Dp.tupD h1) (.cons (Dp.tupD h2) .nil))) ?_ ?_ ?_ h
  · show (tameAll (ns.map PyData.int) && (tameAll (ms.map PyData.int) && true)) = true
    rw [tameInts ns b1, tameInts ms b2]
    rfl
  · show max (PyData.depthAll (ns.map PyData.int) + 1) (max (PyData.depthAll (ms.map PyData.int) + 1) 0) + 1 ≤ 40
    rw [depthInts, depthInts]
    decide
  · show 4 + ((4 + roomAll (ns.map PyData.int)) + 2 + ((4 + roomAll (ms.map PyData.int)) + 2 + 0)) ≤ 100000
    rw [roomInts, roomInts]
    omega
end
end Vf

namespace Vf
open PySem PySem.Spec PyProof.Rows L2
/-! ## zip of three tuples -/
/-- the tuples at a, b, c, item by item in new triples -/
def ItT3 (K : PySem.W.Frag) (a b c : Addr) : It :=
  ⟨fun i H => ∃ (xs ys zs : List V), (SqT K H a xs ∧ SqT K H b ys ∧ SqT K H c zs) ∧ i < xs.length ∧ i < ys.length ∧ i < zs.length,
   fun i H v H' => ∃ T x y z, v = .ref T ∧ H T = none ∧ H' = upd H T (.tup [x, y, z]) ∧ (∀ xs, SqT K H a xs → xs[i]? = some x) ∧ (∀ ys, SqT K H b ys → ys[i]? = some y) ∧ ∀ zs, SqT K H c zs → zs[i]? = some z,
   fun i H => ∃ (xs ys zs : List V), (SqT K H a xs ∧ SqT K H b ys ∧ SqT K H c zs) ∧ (i ≤ xs.length ∧ i ≤ ys.length ∧ i ≤ zs.length) ∧ (i = xs.length ∨ i = ys.length ∨ i = zs.length)⟩
/-- the cells of it -/
structure Six (u TI TO i1 i2 i3 a b c : Addr) : Prop where
  ap : u ≠ TI ∧ u ≠ TO ∧ u ≠ i1 ∧ u ≠ i2 ∧ u ≠ i3 ∧ TI ≠ TO ∧ TI ≠ i1 ∧ TI ≠ i2 ∧ TI ≠ i3 ∧ TO ≠ i1 ∧ TO ≠ i2 ∧ TO ≠ i3 ∧ i1 ≠ i2 ∧ i1 ≠ i3 ∧ i2 ≠ i3
  a0 : a ≠ u ∧ a ≠ TI ∧ a ≠ TO ∧ a ≠ i1 ∧ a ≠ i2 ∧ a ≠ i3
  b0 : b ≠ u ∧ b ≠ TI ∧ b ≠ TO ∧ b ≠ i1 ∧ b ≠ i2 ∧ b ≠ i3
  c0 : c ≠ u ∧ c ≠ TI ∧ c ≠ TO ∧ c ≠ i1 ∧ c ≠ i2 ∧ c ≠ i3
theorem Six.sep {u TI TO i1 i2 i3 a b c : Addr} (S : Six u TI TO i1 i2 i3 a b c) : ZipSep3 u TI TO i1 i2 i3 [i1, a] [i2, b] [i3, c] := by
  obtain ⟨⟨s1, s2, s3, s4, s5, s6, s7, s8, s9, s10, s11, s12, s13, s14, s15⟩, ⟨a1, a2, a3, a4, a5, a6⟩, ⟨b1, b2, b3, b4, b5, b6⟩, ⟨c1, c2, c3, c4, c5, c6⟩⟩ := S
  constructor <;> simp [*, Ne.symm s1, Ne.symm s2, Ne.symm s3, Ne.symm s6, Ne.symm a1, Ne.symm a3, Ne.symm a4, Ne.symm a5, Ne.symm a6, Ne.symm b1, Ne.symm b3, Ne.symm b4, Ne.symm b5, Ne.symm b6, Ne.symm c1, Ne.symm c3, Ne.symm c4, Ne.symm c5, Ne.symm c6, Ne.symm s13, Ne.symm s14, Ne.symm s15]
def Z3At (u TI TO i1 i2 i3 a b c : Addr) (i : Nat) (h : Heap) : Prop :=
  IsZip h u TI TO .none ∧ IsTupOf3 h TI (.ref i1) (.ref i2) (.ref i3) ∧ (∃ x y z, IsTupOf3 h TO x y z) ∧ h.IsTupleIter i1 a i ∧ h.IsTupleIter i2 b i ∧ h.IsTupleIter i3 c i
theorem turn_zip3 {P : Program} {w : World} {K : PySem.W.Frag} {elts : List Expr} {kk : Nat} {tpos : Pos} {u TI TO i1 i2 i3 a b c : Addr} (S : Six u TI TO i1 i2 i3 a b c) :
    Turn P w K (.Tuple elts kk tpos) (ItT3 K a b c) [u, TI, TO, i1, i2, i3] u (Z3At u TI TO i1 i2 i3 a b c) where
  mem := List.mem_cons_self
  obj := fun i h st d hd => by
    obtain ⟨zz, ti, ⟨x, y, z, to⟩, ⟨o1, e1, _, d1⟩, ⟨o2, e2, _, d2⟩, ⟨o3, e3, _, d3⟩⟩ := st
    simp only [List.mem_cons, List.not_mem_nil, or_false] at hd
    rcases hd with e | e | e | e | e | e
    · subst e; exact ⟨_, zz, fun v q => nomatch q⟩
    · subst e; exact ⟨_, ti, fun v q => nomatch q⟩
    · subst e; exact ⟨_, to, fun v q => nomatch q⟩
    · subst e; exact ⟨o1, e1, fun v q => by rw [d1] at q; cases q⟩
    · subst e; exact ⟨o2, e2, fun v q => by rw [d2] at q; cases q⟩
    · subst e; exact ⟨o3, e3, fun v q => by rw [d3] at q; cases q⟩
  keep := fun i h h' st k => by
    obtain ⟨zz, ti, ⟨x, y, z, to⟩, h1, h2, h3⟩ := st
    exact ⟨k u (by simp) _ zz, k TI (by simp) _ ti, ⟨x, y, z, k TO (by simp) _ to⟩, h1.at fun o q => k i1 (by simp) o q, h2.at fun o q => k i2 (by simp) o q, h3.at fun o q => k i3 (by simp) o q⟩
  item := by
    intro X hP hw hK hc i pins s σ H E I hf st hg
    subst hP hw hK
    obtain ⟨zz, ti, ⟨x0, y0, z0, to⟩, h1, h2, h3⟩ := st
    obtain ⟨xs, ys, zs, ⟨qx, qy, qz⟩, lx, ly, lz⟩ := hg
    obtain ⟨v1, r1, t1, _⟩ := I.tuple qx
    obtain ⟨v2, r2, t2, _⟩ := I.tuple qy
    obtain ⟨v3, r3, t3, _⟩ := I.tuple qz
    obtain ⟨y1, g1, w1⟩ := r1.get (List.getElem?_eq_getElem lx)
    obtain ⟨y2, g2, w2⟩ := r2.get (List.getElem?_eq_getElem ly)
    obtain ⟨y3, g3, w3⟩ := r3.get (List.getElem?_eq_getElem lz)
    have n1 := r1.length
    have n2 := r2.length
    have n3 := r3.length
    have hd := I.ok.hd hc
    have b0 : u < s.heap.objs.size := Heap.lt_size zz
    have bI : TI < s.heap.objs.size := Heap.lt_size ti
    have bO : TO < s.heap.objs.size := Heap.lt_size to
    have b1 : i1 < s.heap.objs.size := by
      obtain ⟨_, q, _⟩ := h1
      exact Heap.lt_size q
    have b2 : i2 < s.heap.objs.size := by
      obtain ⟨_, q, _⟩ := h2
      exact Heap.lt_size q
    have b3 : i3 < s.heap.objs.size := by
      obtain ⟨_, q, _⟩ := h3
      exact Heap.lt_size q
    refine wpAny_pyNext_zipD3_item S.sep (drawsT (A := X.A.in1) hd i1 a S.a0.2.2.2.1 v1.toArray) (drawsT (A := X.A.in1) hd i2 b S.b0.2.2.2.2.1 v2.toArray) (drawsT (A := X.A.in1) hd i3 c S.c0.2.2.2.2.2 v3.toArray)
      zz ti to ⟨h1, t1⟩ ⟨h2, t2⟩ ⟨h3, t3⟩ (by simp; omega) (by simp; omega) (by simp; omega) fun x1 x2 x3 m tk p1 p2 p3 zz' to' st1 st2 st3 np sz kp => ?_
    obtain rfl : y1 = x1 := by
      have : v1[i]? = some x1 := by simpa using p1
      rw [g1] at this
      exact Option.some.inj this
    obtain rfl : y2 = x2 := by
      have : v2[i]? = some x2 := by simpa using p2
      rw [g2] at this
      exact Option.some.inj this
    obtain rfl : y3 = x3 := by
      have : v3[i]? = some x3 := by simpa using p3
      rw [g3] at this
      exact Option.some.inj this
    refine ⟨_, rfl, wpAny_letOwnedTupleGo_zip (s := { s with heap := m, toks := tk }) zz' fun m2 zz2 sb => ?_⟩
    have np2 : IsTupOf3 m2 s.heap.objs.size y1 y2 y3 := (sb.2 _ (Nat.ne_of_gt b0)).trans np
    have fresh : ObjOk X.prog X.w (upd H s.heap.objs.size (.tup [xs[i], ys[i], zs[i]])) m2 s.heap.objs.size (.tup [xs[i], ys[i], zs[i]]) :=
      ⟨by show 3 ≤ sizeLine; decide, [y1, y2, y3], .cons w1 (.cons w2 (.cons w3 .nil)), ⟨_, np2, rfl, _, rfl⟩⟩
    have stay : ∀ d o, d ∉ [u, TI, TO, i1, i2, i3] → s.heap.get? d = some o → m2.get? d = some o := fun d o hb q =>
      (sb.2 d (fun e => hb (by simp [e]))).trans (kp d o (fun e => hb (by simp [e])) (fun e => hb (by simp [e])) (fun e => hb (by simp [e])) (fun e => hb (by simp [e])) (fun e => hb (by simp [e])) q)
    have I1 := I.turnedNew (t' := tk) (ch := [u, TI, TO, i1, i2, i3]) stay hf (Nat.le_refl _) fresh
    obtain ⟨⟨s1, s2, s3, s4, s5, s6, s7, s8, s9, s10, s11, s12, s13, s14, s15⟩, _, _, _⟩ := S
    refine ⟨.ref s.heap.objs.size, _, I1, rfl, ⟨_, xs[i], ys[i], zs[i], rfl, I.hok.fresh (Nat.le_refl _), rfl, fun l hl => by rw [I.tuple_inj hl qx]; exact List.getElem?_eq_getElem lx, fun l hl => by rw [I.tuple_inj hl qy]; exact List.getElem?_eq_getElem ly,
      fun l hl => by rw [I.tuple_inj hl qz]; exact List.getElem?_eq_getElem lz⟩, ⟨zz2, (sb.2 _ (Ne.symm s1)).trans (kp _ _ (Ne.symm s1) s6 s7 s8 s9 ti), ⟨_, _, _, (sb.2 _ (Ne.symm s2)).trans to'⟩, st1.1.at fun o q => (sb.2 _ (Ne.symm s3)).trans q, st2.1.at fun o q => (sb.2 _ (Ne.symm s4)).trans q,
      st3.1.at fun o q => (sb.2 _ (Ne.symm s5)).trans q⟩, fun d hdm => ?_⟩
    have lt : d < s.heap.objs.size := by
      have h2 := hdm
      simp only [List.mem_cons, List.not_mem_nil, or_false] at h2
      rcases h2 with e | e | e | e | e | e <;> (subst e; assumption)
    rw [upd_ne (Nat.ne_of_lt lt)]
    exact (hf d hdm).1
  done := by
    intro X hP hw hK hc i pins s σ H E I hf st hg
    subst hP hw hK
    obtain ⟨zz, ti, ⟨x0, y0, z0, to⟩, h1, h2, h3⟩ := st
    obtain ⟨xs, ys, zs, ⟨qx, qy, qz⟩, ⟨lx, ly, lz⟩, en⟩ := hg
    obtain ⟨v1, r1, t1, _⟩ := I.tuple qx
    obtain ⟨v2, r2, t2, _⟩ := I.tuple qy
    obtain ⟨v3, r3, t3, _⟩ := I.tuple qz
    have n1 := r1.length
    have n2 := r2.length
    have n3 := r3.length
    have hd := I.ok.hd hc
    refine wpAny_pyNext_zipD3_end S.sep (drawsT (A := X.A.in1) hd i1 a S.a0.2.2.2.1 v1.toArray) (drawsT (A := X.A.in1) hd i2 b S.b0.2.2.2.2.1 v2.toArray) (drawsT (A := X.A.in1) hd i3 c S.c0.2.2.2.2.2 v3.toArray)
      zz ti to ⟨h1, t1⟩ ⟨h2, t2⟩ ⟨h3, t3⟩ (by simp; omega) (by simp; omega) (by simp; omega) (by simp; omega) fun m tk kp => ⟨rfl, ?_⟩
    exact I.turnedL (t' := tk) (ch := [u, TI, TO, i1, i2, i3]) (fun d o hb q => kp d o (fun e => hb (by simp [e])) (fun e => hb (by simp [e])) (fun e => hb (by simp [e])) (fun e => hb (by simp [e])) (fun e => hb (by simp [e])) q) hf
  self := fun A i s Q E st h => wpAny_pyIter_zip st.1 h
end Vf

namespace Vf
open PySem PySem.Spec PyProof.Rows L2
/-! ## zip of three tuples: the rule, and a comprehension over it -/
def iZ3 (K : PySem.W.Frag) (ta : TA) : TI := fun σ H R => ta σ H fun vs H1 => ∃ a b c xs ys zs, vs = [.ref a, .ref b, .ref c] ∧ (SqT K H1 a xs ∧ SqT K H1 b ys ∧ SqT K H1 c zs) ∧ R (ItT3 K a b c) H1
theorem six_new (n a b c : Nat) (ha : a < n) (hb : b < n) (hc : c < n) : Six (n + 5) (n + 3) (n + 4) n (n + 1) (n + 2) a b c := by
  refine ⟨⟨?_, ?_, ?_, ?_, ?_, ?_, ?_, ?_, ?_, ?_, ?_, ?_, ?_, ?_, ?_⟩, ⟨?_, ?_, ?_, ?_, ?_, ?_⟩, ⟨?_, ?_, ?_, ?_, ?_, ?_⟩, ⟨?_, ?_, ?_, ?_, ?_, ?_⟩⟩ <;> (show _ ≠ _; intro e; have e2 : (_ : Nat) = _ := e; omega)
theorem i_zip3 {X : Cx} {K : PySem.W.Frag} {e1 e2 e3 : Expr} {ta : TA} {p pos tpos : Pos} {elts : List Expr} {kk : Nat} (ek : X.K = K) (hg : Gl X "zip") (hm : X.mg "zip" = none) (ha : PA X [e1, e2, e3] ta)
    (hs : starEach [e1, e2, e3] X.env = (false, eval e1 X.env) :: starEach [e2, e3] X.env := by rfl) (hp : (backTo pos (starEach [e2, e3] X.env)).any (·.1) = false := by rfl) :
    PI X (.Tuple elts kk tpos) (.Call (.Name "zip" p) [e1, e2, e3] [] pos) (iZ3 K ta) := by
  subst ek
  refine ⟨fun pins s σ H R I h => ?_⟩
  refine Call_ (ld_blt I hg hm PyProof.Rows.boot_zip (PyProof.Rows.callWith_type1 (thn (ha.run pos pins s σ H _ I h) fun us s1 ⟨vs, H1, I1, r1, q1⟩ => ?_) hs hp))
  obtain ⟨a, b, c, xs, ys, zs, rfl, ⟨qx, qy, qz⟩, q⟩ := q1
  obtain ⟨ua, ub, uc, rfl, ra, rb, rc⟩ : ∃ ua ub uc, us = [ua, ub, uc] ∧ RelV (.ref a) ua ∧ RelV (.ref b) ub ∧ RelV (.ref c) uc := by
    cases r1 with
    | cons r rr =>
      cases rr with
      | cons r' rr =>
        cases rr with
        | cons r'' rr =>
          cases rr
          exact ⟨_, _, _, rfl, r, r', r''⟩
  cases ra
  cases rb
  cases rc
  obtain ⟨v1, _, t1, _⟩ := I1.tuple qx
  obtain ⟨v2, _, t2, _⟩ := I1.tuple qy
  obtain ⟨v3, _, t3, _⟩ := I1.tuple qz
  have la : a < s1.heap.objs.size := t1.lt
  have lb : b < s1.heap.objs.size := t2.lt
  have lc : c < s1.heap.objs.size := t3.lt
  refine zip_begins3 (begins_tuple a v1.toArray) (begins_tuple b v2.toArray) (begins_tuple c v3.toArray) t1 t2 t3 fun m hz hTI hTO g1 g2 g3 hsz hk => wpAny_pyIter_zip hz ?_
  refine ⟨s1.heap.objs.size + 5, [s1.heap.objs.size + 5, s1.heap.objs.size + 3, s1.heap.objs.size + 4, s1.heap.objs.size, s1.heap.objs.size + 1, s1.heap.objs.size + 2], _, _, H1, rfl, I1.kept (t' := s1.toks) hk,
    turn_zip3 (six_new s1.heap.objs.size a b c la lb lc), ⟨hz, hTI, ⟨_, _, _, hTO⟩, ⟨_, g1, rfl, rfl⟩, ⟨_, g2, rfl, rfl⟩, ⟨_, g3, rfl, rfl⟩⟩, fun d hd => ?_, q⟩
  have le : s1.heap.objs.size ≤ d := by
    simp only [List.mem_cons, List.not_mem_nil, or_false] at hd
    rcases hd with e | e | e | e | e | e <;> subst e
    · exact Nat.le_add_right _ _
    · exact Nat.le_add_right _ _
    · exact Nat.le_add_right _ _
    · exact Nat.le_refl _
    · exact Nat.le_add_right _ _
    · exact Nat.le_add_right _ _
  exact I1.fpOk le (I1.hok.fresh le)
section
variable {K : PySem.W.Frag} {σ : L2.St} {H : Hp} {Q : VK} {g : TG} {tt : TT} {te : TE} {vs : List Nat}
theorem r_lcZ3i {ta : TA} (h : ta σ H fun ws H1 => ∃ a b c xs ys zs, ws = [.ref a, .ref b, .ref c] ∧ (SqT K H1 a xs ∧ SqT K H1 b ys ∧ SqT K H1 c zs) ∧ tLc (fun _ H2 R => R (ItT3 K a b c) H2) g tt te vs σ H1 Q) : tLc (iZ3 K ta) g tt te vs σ H Q := h
theorem r_lcZ3 {a b c : Addr} (xs ys zs : List V) (n : Nat) (nx : xs.length = n) (ny : ys.length = n) (nz : zs.length = n) (Pv : Addr → Nat → Hp → Prop) (h0 : ∀ D, H D = none → Pv D 0 (upd H D (.lst [])))
    (hl : ∀ D i H', H D = none → i ≤ n → Pv D i H' → SqT K H' a xs ∧ SqT K H' b ys ∧ SqT K H' c zs)
    (hs : ∀ D i x y z H' T, H D = none → xs[i]? = some x → ys[i]? = some y → zs[i]? = some z → Pv D i H' → H' T = none → g (.ref T) (wipe σ vs) (upd H' T (.tup [x, y, z])) fun σ2 H2 => wipe σ2 vs = wipe σ vs ∧ tt σ2 H2 fun b H3 =>
      if b = true then te σ2 H3 fun y H4 => ∃ acc, H4 D = some (.lst acc) ∧ acc.length < sizeLine ∧ Pv D (i + 1) (upd H4 D (.lst (acc ++ [y]))) else Pv D (i + 1) H3)
    (hd : ∀ D H', H D = none → Pv D n H' → Q (.ref D) H') : tLc (fun _ H2 R => R (ItT3 K a b c) H2) g tt te vs σ H Q := by
  refine fun D hD => ⟨fun i m H => m = n - i ∧ i ≤ n ∧ Pv D i H, ⟨n, by omega, Nat.zero_le _, h0 D hD⟩, ?_⟩
  rintro i m H' ⟨rfl, hi, p⟩
  obtain ⟨qx, qy, qz⟩ := hl D i H' hD hi p
  by_cases lt : i < n
  · refine Or.inr ⟨⟨xs, ys, zs, ⟨qx, qy, qz⟩, by omega, by omega, by omega⟩, Pv D (i + 1), fun H' p' => ⟨n - (i + 1), by omega, rfl, lt, p'⟩, fun v H'' yy => ?_⟩
    obtain ⟨T, x, y, z, rfl, nT, rfl, f1, f2, f3⟩ := yy
    exact hs D i x y z H' T hD (f1 xs qx) (f2 ys qy) (f3 zs qz) p nT
  · have e : i = n := by omega
    subst e
    exact Or.inl ⟨⟨xs, ys, zs, ⟨qx, qy, qz⟩, ⟨by omega, by omega, by omega⟩, .inl (by omega)⟩, hd D H' hD p⟩
end
end Vf

namespace Vf
open PySem PySem.Spec PyProof.Rows L2
/-! ## defs as values: named in a list, called by a name of the caller's -/
/-- a def at an address, with its promise -/
def OkL (P : Program) (w : World) (K : PySem.W.Frag) (mg : Str → Option Value) (base : Heap) (k : Nat) (f : Addr) (sp : Sp) : Prop :=
  ∃ (x : Str) (st : Stmt) (ps : List Str) (fd : FuncData), L2.Fun K x x st f fd ∧ L2.Binds K fd ps [] ∧
    (∀ (A : Around) (outer : List Env) (s : Shared) (H : Hp) (args : Args) (us : List Value) (vs : List V) (Q : VK) (E : XK),
      A.guards = some [] → Room k A → Env0 P w K mg base A outer s H → BindsTo s fd args (ps.zip us) → Vals vs us → sp vs H Q E →
        codeAny (model P w) A (.call (.ref f) args) (CR (CX P w) outer P w H s Q E) s) ∧
    ∀ vs H Q E, sp vs H Q E → vs.length = ps.length
section
variable {P : Program} {w : World} {K : PySem.W.Frag} {mg : Str → Option Value} {base : Heap} {k j : Nat} {x : Str} {st : Stmt} {ps : List Str} {sp : Sp}
theorem Ok.val (G : Ok P w K mg base k x st ps sp) (b : ∀ f fd, L2.Fun K x x st f fd → L2.Binds K fd ps []) : ∃ f, mg x = some (.ref f) ∧ OkL P w K mg base k f sp := by
  obtain ⟨⟨f, fd, F, hm, r⟩, l⟩ := G
  exact ⟨f, hm, x, st, ps, fd, F, b f fd F, r, l⟩
end
section
variable {X : Cx} {k i : Nat} {E : XK} {x : Str} {p pos : Pos} {e : Expr} {es : List Expr} {t : TA}
/-- the slot holds one of some defs -/
def tCallH (i : Nat) (S : Addr → Sp → Prop) (E : XK) (t : TA) : TE := fun σ H Q => ∃ f sp, σ[i]? = some (some (.ref f)) ∧ S f sp ∧ t σ H fun vs H1 => sp vs H1 Q E
theorem pe_gl {S : Addr → Sp → Prop} (A : ∀ f sp, S f sp → OkL X.prog X.w X.K X.mg X.base k f sp) (hg : X.A.guards = some []) (hr : Room k X.A) (hx : Passes (CX X.prog X.w) X E)
    (hN : X.N[i]? = some x) (hv : Vis X.env.scope x) (ha : PA X (e :: es) t)
    (hdb : (x == ("__debug__" : Str)) = false := by decide) (hcd : (x == ("__classdict__" : Str)) = false := by decide)
    (he : starEach (e :: es) X.env = (false, eval e X.env) :: starEach es X.env := by rfl)
    (hpl : (backTo pos (starEach es X.env)).any (·.1) = false := by rfl) :
    PE X (.Call (.Name x p) (e :: es) [] pos) (tCallH i S E t) := by
  refine ⟨fun pins s σ H Q I h => ?_⟩
  obtain ⟨f, sp, hs, hS, ht⟩ := h
  obtain ⟨_, _, ps, fd, F, hb, r, l⟩ := A f sp hS
  refine wpAny_Call_Name_kw (thn ((pe_var (pos := p) hN hv hdb hcd).run pins s σ H (fun v H1 => v = .ref f ∧ H1 = H) I ⟨.ref f, hs, rfl, rfl⟩) fun u s1 ⟨v, H1, I1, r1, q1⟩ => ?_)
  obtain ⟨rfl, rfl⟩ := q1
  cases r1
  refine PySem.W.callWith_K (h₀ := X.base) I.ok.mod.kin F.kp
    (thn (ha.run pos pins s1 σ _ _ I1 ht) fun us s2 ⟨vs, H2, I2, r2, q⟩ => ⟨I2.kIn, ?_⟩) he hpl
  have hl : us.length = ps.length := by rw [← r2.length]; exact l _ _ _ _ q
  have bb := hb s2 us I2.kIn (by rw [List.append_nil]; exact hl)
  rw [List.append_nil] at bb
  refine wpAny_call (codeAny_mono (run_g r hg hr hx I2 bb r2 q) fun z s' hz => ?_)
  cases z with
  | error e => exact hz
  | ok fl => cases fl <;> exact hz
/-- the name of a def, as a value -/
theorem pe_gd {f : Addr} {pos : Pos} (gl : Gl X x) (hm : X.mg x = some (.ref f)) (hd : (x == ("__debug__" : Str)) = false := by decide) : PE X (.Name x pos) (tC (.ref f)) :=
  pe_glob gl hm rfl hd
end
theorem r_callH {i : Nat} {S : Addr → Sp → Prop} {E : XK} {t : TA} {σ : L2.St} {H : Hp} {Q : VK} (f : Addr) (sp : Sp) (h1 : σ[i]? = some (some (.ref f))) (h2 : S f sp) (h : t σ H fun vs H1 => sp vs H1 Q E) : tCallH i S E t σ H Q := ⟨f, sp, h1, h2, h⟩
end Vf

namespace Vf
open PySem PySem.Spec PyProof.Rows L2
/-! ## lists of rows -/
section
variable {K : PySem.W.Frag} {H H' : Hp} {Q : VK}
/-- a list of refs to tuples of ints -/
def RowsAt (K : PySem.W.Frag) (H : Hp) (vs : List V) (nss : List (List Int)) : Prop := Paired (fun v ns => ∃ p, v = V.ref p ∧ SqT K H p (ns.map V.int)) vs nss
theorem RowsAt.mono {vs : List V} {nss : List (List Int)} (h : RowsAt K H vs nss) (s : ∀ p xs, SqT K H p xs → SqT K H' p xs) : RowsAt K H' vs nss := by
  induction h with
  | nil => exact .nil
  | cons h1 h2 ih =>
    obtain ⟨p, e, t⟩ := h1
    exact .cons ⟨p, e, s p _ t⟩ ih
theorem RowsAt.same {vs : List V} {nss : List (List Int)} (h : RowsAt K H vs nss) (s : Same H H') : RowsAt K H' vs nss := h.mono fun _ _ t => Same.tup s t
theorem RowsAt.snoc {vs : List V} {nss : List (List Int)} {p : Addr} {ns : List Int} (h : RowsAt K H vs nss) (t : SqT K H p (ns.map V.int)) : RowsAt K H (vs ++ [.ref p]) (nss ++ [ns]) := by
  induction h with
  | nil => exact .cons ⟨p, rfl, t⟩ .nil
  | cons h1 h2 ih => exact .cons h1 ih
theorem RowsAt.len {vs : List V} {nss : List (List Int)} (h : RowsAt K H vs nss) : vs.length = nss.length := Paired.length h
theorem RowsAt.dp {vs : List V} {nss : List (List Int)} (h : RowsAt K H vs nss) : DpAll K H vs (nss.map tupD) := by
  induction h with
  | nil => exact .nil
  | cons h1 h2 ih =>
    obtain ⟨p, e, t⟩ := h1
    rw [e]
    exact .cons (Dp.tupD t) ih
def linesD (nss : List (List Int)) : PyData := .list (nss.map tupD)
theorem tameLines : ∀ nss : List (List Int), (∀ ns ∈ nss, ∀ n ∈ ns, n.natAbs < 2 ^ 1900) → tameAll (nss.map tupD) = true
  | [], _ => rfl
  | ns :: nss, h => by
    show (tameAll (ns.map PyData.int) && tameAll (nss.map tupD)) = true
    rw [tameInts ns (h ns List.mem_cons_self), tameLines nss (fun m hm => h m (List.mem_cons_of_mem _ hm))]
    rfl
theorem roomLines : ∀ nss : List (List Int), (∀ ns ∈ nss, ns.length ≤ 12) → roomAll (nss.map tupD) ≤ 24030 * nss.length
  | [], _ => Nat.le_refl _
  | ns :: nss, h => by
    have h1 := h ns List.mem_cons_self
    have h2 := roomLines nss (fun m hm => h m (List.mem_cons_of_mem _ hm))
    show (4 + roomAll (ns.map PyData.int)) + 2 + roomAll (nss.map tupD) ≤ 24030 * (nss.length + 1)
    rw [roomInts]
    omega
theorem depthLines : ∀ nss : List (List Int), PyData.depthAll (nss.map tupD) ≤ 1
  | [] => Nat.zero_le _
  | ns :: nss => by
    have h2 := depthLines nss
    show max (PyData.depthAll (ns.map PyData.int) + 1) (PyData.depthAll (nss.map tupD)) ≤ 1
    rw [depthInts]
    omega
theorem r_reprTs {a : Addr} {vs : List V} (nss : List (List Int)) (hs : SqL K H a vs) (R : RowsAt K H vs nss) (b : ∀ ns ∈ nss, ∀ n ∈ ns, n.natAbs < 2 ^ 1900) (l1 : nss.length ≤ 4) (l2 : ∀ ns ∈ nss, ns.length ≤ 12)
    (h : Q (.str (linesD nss).shown) H) : rRepr K [.ref a] H Q := by
  refine r_reprD (linesD nss) (Dp.lst hs R.dp) ?_ ?_ ?_ h
  · exact tameLines nss b
  · have := depthLines nss
    show PyData.depthAll (nss.map tupD) + 1 ≤ 40
    omega
  · have := roomLines nss l2
    show 4 + roomAll (nss.map tupD) ≤ 100000
    omega
end
end Vf

namespace Vf
/-! ## sums of powers: lists of ints, lowest first -/
def pval : List Int → Int → Int
  | [], _ => 0
  | c :: t, x => c + x * pval t x
def l1 : List Int → Nat
  | [] => 0
  | c :: t => c.natAbs + l1 t
theorem pval_append : ∀ (p q : List Int) (x : Int), pval (p ++ q) x = pval p x + x ^ p.length * pval q x
  | [], q, x => by simp [pval]
  | c :: p, q, x => by
    have h := pval_append p q x
    simp only [List.cons_append, pval, List.length_cons, h, Int.pow_succ]
    grind
theorem l1_append : ∀ (p q : List Int), l1 (p ++ q) = l1 p + l1 q
  | [], q => by simp [l1]
  | c :: p, q => by
    have h := l1_append p q
    simp only [List.cons_append, l1, h]
    omega
theorem pval_zeros : ∀ (n : Nat) (x : Int), pval (List.replicate n 0) x = 0
  | 0, _ => rfl
  | n + 1, x => by
    rw [List.replicate_succ, pval, pval_zeros n x]
    simp
theorem l1_zeros : ∀ (n : Nat), l1 (List.replicate n 0) = 0
  | 0 => rfl
  | n + 1 => by
    rw [List.replicate_succ, l1, l1_zeros n]
    rfl
theorem pval_set : ∀ {p : List Int} {i : Nat} {c v x : Int}, p[i]? = some c → pval (p.set i (c + v)) x = pval p x + v * x ^ i
  | [], i, c, v, x, h => by simp at h
  | a :: p, 0, c, v, x, h => by
    have e : a = c := by simpa using h
    subst e
    simp only [List.set_cons_zero, pval, Int.pow_zero]
    grind
  | a :: p, i + 1, c, v, x, h => by
    have h2 : p[i]? = some c := by simpa using h
    have ih := pval_set (v := v) (x := x) h2
    simp only [List.set_cons_succ, pval, ih, Int.pow_succ]
    grind
theorem l1_set : ∀ {p : List Int} {i : Nat} {c v : Int}, p[i]? = some c → l1 (p.set i (c + v)) ≤ l1 p + v.natAbs
  | [], i, c, v, h => by simp at h
  | a :: p, 0, c, v, h => by
    have e : a = c := by simpa using h
    subst e
    simp only [List.set_cons_zero, l1]
    omega
  | a :: p, i + 1, c, v, h => by
    have h2 : p[i]? = some c := by simpa using h
    have ih := l1_set (v := v) h2
    simp only [List.set_cons_succ, l1]
    omega
theorem take_nx {α : Type} {p : List α} {i : Nat} {c : α} (h : p[i]? = some c) : p.take (i + 1) = p.take i ++ [c] := by
  rw [List.take_add_one, h]
  rfl
theorem len_tk {p : List Int} {i : Nat} {c : Int} (h : p[i]? = some c) : (p.take i).length = i := by
  have := (List.getElem?_eq_some_iff.mp h).1
  rw [List.length_take]
  omega
theorem pval_take {p : List Int} {i : Nat} {c x : Int} (h : p[i]? = some c) : pval (p.take (i + 1)) x = pval (p.take i) x + c * x ^ i := by
  rw [take_nx h, pval_append, len_tk h]
  simp only [pval]
  grind
theorem l1_take {p : List Int} {i : Nat} {c : Int} (h : p[i]? = some c) : l1 (p.take (i + 1)) = l1 (p.take i) + c.natAbs := by
  rw [take_nx h, l1_append]
  simp only [l1]
  omega
theorem l1_take_le : ∀ (p : List Int) (i : Nat), l1 (p.take i) ≤ l1 p
  | [], i => by simp [l1]
  | a :: p, 0 => by simp [l1]
  | a :: p, i + 1 => by
    have := l1_take_le p i
    simp only [List.take_succ_cons, l1]
    omega
theorem drop_at {α : Type} {p : List α} {i : Nat} {c : α} (h : p[i]? = some c) : p.drop i = c :: p.drop (i + 1) := by
  have hl := (List.getElem?_eq_some_iff.mp h)
  obtain ⟨h1, h2⟩ := hl
  rw [List.drop_eq_getElem_cons h1, h2]
theorem pval_drop {p : List Int} {i : Nat} {c x : Int} (h : p[i]? = some c) : pval (p.drop i) x = c + x * pval (p.drop (i + 1)) x := by
  rw [drop_at h]
  rfl
theorem l1_drop {p : List Int} {i : Nat} {c : Int} (h : p[i]? = some c) : l1 (p.drop i) = c.natAbs + l1 (p.drop (i + 1)) := by
  rw [drop_at h]
  rfl
theorem l1_drop_le : ∀ (p : List Int) (i : Nat), l1 (p.drop i) ≤ l1 p
  | [], i => by simp [l1]
  | a :: p, 0 => Nat.le_refl _
  | a :: p, i + 1 => by
    have := l1_drop_le p i
    simp only [List.drop_succ_cons, l1]
    omega
theorem l1_mem : ∀ {p : List Int} {c : Int}, c ∈ p → c.natAbs ≤ l1 p
  | a :: p, c, h => by
    simp only [l1]
    rcases List.mem_cons.mp h with e | e
    · subst e; omega
    · have := l1_mem e; omega
theorem pval_le : ∀ (p : List Int) (x : Int) (X : Nat), 1 ≤ X → x.natAbs ≤ X → (pval p x).natAbs ≤ l1 p * X ^ p.length
  | [], x, X, _, _ => by simp [pval, l1]
  | c :: p, x, X, h1, hx => by
    have ih := pval_le p x X h1 hx
    simp only [pval, l1, List.length_cons]
    have e1 : (c + x * pval p x).natAbs ≤ c.natAbs + x.natAbs * (pval p x).natAbs := by
      have := Int.natAbs_add_le c (x * pval p x)
      rw [Int.natAbs_mul] at this
      exact this
    have e2 : x.natAbs * (pval p x).natAbs ≤ X * (l1 p * X ^ p.length) := Nat.mul_le_mul hx ih
    have e3 : X * (l1 p * X ^ p.length) = l1 p * X ^ (p.length + 1) := by rw [Nat.pow_succ]; grind
    have e4 : c.natAbs ≤ c.natAbs * X ^ (p.length + 1) := Nat.le_mul_of_pos_right _ (Nat.pow_pos h1)
    rw [Nat.add_mul]
    omega
/-- no number but 0 is divided by all -/
theorem no_div {d : Int} (h : ∀ x : Int, x ≠ 0 → x ∣ d) : d = 0 := by
  rcases Int.lt_trichotomy d 0 with c | c | c
  · have h1 := h (d - 1) (by omega)
    have := Int.le_of_dvd (show 0 < -d by omega) (Int.dvd_neg.mpr ((Int.neg_dvd).mpr h1))
    omega
  · exact c
  · have := Int.le_of_dvd c (h (d + 1) (by omega))
    omega
theorem pval_none : ∀ {p : List Int}, (∀ x : Int, x ≠ 0 → pval p x = 0) → ∀ c ∈ p, c = 0
  | [], _, _, h => by simp at h
  | a :: p, h, c, hc => by
    have ha : a = 0 := no_div fun x hx => by
      have := h x hx
      rw [pval] at this
      exact ⟨-pval p x, by grind⟩
    subst ha
    rcases List.mem_cons.mp hc with e | e
    · exact e
    · refine pval_none (p := p) (fun x hx => ?_) c e
      have := h x hx
      rw [pval, Int.zero_add] at this
      rcases Int.mul_eq_zero.mp this with z | z
      · exact absurd z hx
      · exact z
def psub : List Int → List Int → List Int
  | [], q => q.map fun c => -c
  | p, [] => p
  | a :: p, b :: q => (a - b) :: psub p q
theorem pval_neg : ∀ (q : List Int) (x : Int), pval (q.map fun c => -c) x = -pval q x
  | [], _ => rfl
  | c :: q, x => by
    simp only [List.map_cons, pval, pval_neg q x]
    grind
theorem pval_sub : ∀ (p q : List Int) (x : Int), pval (psub p q) x = pval p x - pval q x
  | [], q, x => by
    have e : psub [] q = q.map fun c => -c := by cases q <;> rfl
    rw [e, pval_neg]
    simp [pval]
  | a :: p, [], x => by simp [psub, pval]
  | a :: p, b :: q, x => by
    simp only [psub, pval, pval_sub p q x]
    grind
theorem psub_all : ∀ (p q : List Int), (∀ c ∈ psub p q, c = 0) → ∀ i, p.getD i 0 = q.getD i 0
  | [], q, h, i => by
    have e : psub [] q = q.map fun c => -c := by cases q <;> rfl
    rw [e] at h
    rw [List.getD_eq_getElem?_getD, List.getD_eq_getElem?_getD]
    cases hq : q[i]? with
    | none => rfl
    | some c =>
      have := h (-c) (List.mem_map.mpr ⟨c, List.mem_of_getElem? hq, rfl⟩)
      have : c = 0 := by omega
      subst this
      rfl
  | a :: p, [], h, i => by
    have h : ∀ c ∈ a :: p, c = 0 := h
    rw [List.getD_eq_getElem?_getD, List.getD_eq_getElem?_getD]
    cases hq : (a :: p)[i]? with
    | none => rfl
    | some c =>
      have := h c (List.mem_of_getElem? hq)
      subst this
      rfl
  | a :: p, b :: q, h, i => by
    have h0 : a - b = 0 := h (a - b) List.mem_cons_self
    have h1 := psub_all p q (fun c hc => h c (List.mem_cons_of_mem _ hc))
    cases i with
    | zero =>
      show a = b
      omega
    | succ i => exact h1 i
/-- without needless 0s at its end -/
def Canon (p : List Int) : Prop := p ≠ [] ∧ (p.length = 1 ∨ p.getD (p.length - 1) 0 ≠ 0)
theorem Canon.len {p : List Int} (h : Canon p) : 1 ≤ p.length := by
  cases p with
  | nil => exact absurd rfl h.1
  | cons a p => simp
theorem getD_out {p : List Int} {i : Nat} (h : p.length ≤ i) : p.getD i 0 = 0 := by
  rw [List.getD_eq_getElem?_getD, List.getElem?_eq_none h]
  rfl
theorem Canon.eq {p q : List Int} (hp : Canon p) (hq : Canon q) (h : ∀ x, pval p x = pval q x) : p = q := by
  have e := psub_all p q (pval_none fun x _ => by rw [pval_sub, h x]; omega)
  have lp := hp.len
  have lq := hq.len
  have el : p.length = q.length := by
    rcases Nat.lt_trichotomy p.length q.length with c | c | c
    · rcases hq.2 with z | z
      · omega
      · exact absurd ((e (q.length - 1)).symm.trans (getD_out (by omega))) z
    · exact c
    · rcases hp.2 with z | z
      · omega
      · exact absurd ((e (p.length - 1)).trans (getD_out (by omega))) z
  refine List.ext_getElem el fun i h1 h2 => ?_
  have := e i
  rw [List.getD_eq_getElem?_getD, List.getD_eq_getElem?_getD, List.getElem?_eq_getElem h1, List.getElem?_eq_getElem h2] at this
  exact this
theorem Canon.one (c : Int) : Canon [c] := ⟨by simp, .inl rfl⟩
theorem Canon.zero {p : List Int} (hp : Canon p) (h : ∀ x, pval p x = 0) : p = [0] := hp.eq (Canon.one 0) fun x => by rw [h x]; simp [pval]
/-- a sum, as a function, with bounds of its size and its degree -/
structure IsP (p : List Int) (f : Int → Int) (B d : Nat) : Prop where
  cn : Canon p
  v : ∀ x, pval p x = f x
  b : l1 p ≤ B
  l : p.length ≤ d + 1
theorem IsP.mono {p : List Int} {f : Int → Int} {B B' d d' : Nat} (h : IsP p f B d) (hb : B ≤ B') (hd : d ≤ d') : IsP p f B' d' := ⟨h.cn, h.v, Nat.le_trans h.b hb, by have := h.l; omega⟩
theorem IsP.eq {p q : List Int} {f g : Int → Int} {B B' d d' : Nat} (h : IsP p f B d) (h' : IsP q g B' d') (e : ∀ x, f x = g x) : p = q := h.cn.eq h'.cn fun x => by rw [h.v, h'.v, e]
theorem IsP.as {p : List Int} {f g : Int → Int} {B d : Nat} (h : IsP p f B d) (e : ∀ x, f x = g x) : IsP p g B d := ⟨h.cn, fun x => by rw [h.v, e], h.b, h.l⟩
/-- how a sum leans -/
def Dv (f g : Int → Int) : Prop := ∀ x h : Int, ∃ k : Int, f (x + h) = f x + h * g x + h * h * k
theorem Dv.uniq {f g g' : Int → Int} (a : Dv f g) (b : Dv f g') (x : Int) : g x = g' x := by
  have : g x - g' x = 0 := no_div fun h hh => by
    obtain ⟨k, e⟩ := a x h
    obtain ⟨k', e'⟩ := b x h
    refine ⟨k' - k, ?_⟩
    have : h * (g x - g' x - h * (k' - k)) = 0 := by grind
    rcases Int.mul_eq_zero.mp this with z | z
    · exact absurd z hh
    · omega
  omega
theorem Dv.add {f g f' g' : Int → Int} (a : Dv f f') (b : Dv g g') : Dv (fun x => f x + g x) (fun x => f' x + g' x) := fun x h => by
  obtain ⟨k, e⟩ := a x h
  obtain ⟨k', e'⟩ := b x h
  exact ⟨k + k', by simp only [e, e']; grind⟩
theorem Dv.mul {f g f' g' : Int → Int} (a : Dv f f') (b : Dv g g') : Dv (fun x => f x * g x) (fun x => f' x * g x + f x * g' x) := fun x h => by
  obtain ⟨k, e⟩ := a x h
  obtain ⟨k', e'⟩ := b x h
  exact ⟨f' x * g' x + f x * k' + k * g x + h * (f' x * k' + k * g' x) + h * h * k * k', by simp only [e, e']; grind⟩
theorem Dv.comp {f g f' g' : Int → Int} (a : Dv f f') (b : Dv g g') : Dv (fun x => f (g x)) (fun x => f' (g x) * g' x) := fun x h => by
  obtain ⟨k', e'⟩ := b x h
  obtain ⟨k, e⟩ := a (g x) (h * g' x + h * h * k')
  refine ⟨k' * f' (g x) + (g' x + h * k') * (g' x + h * k') * k, ?_⟩
  show f (g (x + h)) = _
  rw [e', show g x + h * g' x + h * h * k' = g x + (h * g' x + h * h * k') by omega, e]
  grind
theorem Dv.const (c : Int) : Dv (fun _ => c) (fun _ => 0) := fun x h => ⟨0, by grind⟩
theorem Dv.pow : ∀ (c : Int) (n : Nat), Dv (fun x => c * x ^ (n + 1)) (fun x => ((n + 1 : Nat) : Int) * c * x ^ n)
  | c, 0 => fun x h => ⟨0, by grind⟩
  | c, n + 1 => fun x h => by
    obtain ⟨k, e⟩ := Dv.pow c n x h
    have e : c * (x + h) ^ (n + 1) = c * x ^ (n + 1) + h * (((n + 1 : Nat) : Int) * c * x ^ n) + h * h * k := e
    refine ⟨((n + 1 : Nat) : Int) * c * x ^ n + (x + h) * k, ?_⟩
    show c * (x + h) ^ (n + 1 + 1) = c * x ^ (n + 1 + 1) + h * (((n + 1 + 1 : Nat) : Int) * c * x ^ (n + 1)) + h * h * (((n + 1 : Nat) : Int) * c * x ^ n + (x + h) * k)
    rw [Int.pow_succ (x + h), ← Int.mul_assoc, e, Int.pow_succ x (n + 1)]
    have e2 : x ^ (n + 1) = x ^ n * x := Int.pow_succ ..
    rw [e2]
    have e3 : ((n + 1 + 1 : Nat) : Int) = ((n + 1 : Nat) : Int) + 1 := rfl
    rw [e3]
    grind
theorem Dv.as {f f' g g' : Int → Int} (a : Dv f g) (e : ∀ x, f x = f' x) (e' : ∀ x, g x = g' x) : Dv f' g' := fun x h => by
  obtain ⟨k, z⟩ := a x h
  exact ⟨k, by rw [← e, ← e, ← e', z]⟩
/-- the slope's coefficients -/
def psl (p : List Int) (n : Nat) : List Int := (List.range n).map fun i : Nat => ((i + 1 : Nat) : Int) * p.getD (i + 1) 0
theorem psl_len (p : List Int) (n : Nat) : (psl p n).length = n := by simp [psl]
theorem psl_succ (p : List Int) (n : Nat) : psl p (n + 1) = psl p n ++ [((n + 1 : Nat) : Int) * p.getD (n + 1) 0] := by
  unfold psl
  rw [List.range_succ, List.map_append]
  rfl
theorem psl_dv (p : List Int) : ∀ n, n + 1 ≤ p.length → Dv (pval (p.take (n + 1))) (pval (psl p n))
  | 0, h => by
    obtain ⟨c, hc⟩ : ∃ c, p[0]? = some c := ⟨_, List.getElem?_eq_getElem (by omega)⟩
    refine (Dv.const c).as (fun x => ?_) (fun x => rfl)
    rw [take_nx hc]
    simp [pval]
  | n + 1, h => by
    obtain ⟨c, hc⟩ : ∃ c, p[n + 1]? = some c := ⟨_, List.getElem?_eq_getElem (by omega)⟩
    have ih := psl_dv p n (by omega)
    refine (ih.add (Dv.pow c n)).as (fun x => (pval_take hc).symm) (fun x => ?_)
    rw [psl_succ, pval_append, psl_len, List.getD_eq_getElem?_getD, hc]
    simp only [pval, Option.getD_some]
    grind
theorem psl_l1 (p : List Int) : ∀ n, n + 1 ≤ p.length → l1 (psl p n) ≤ n * l1 (p.take (n + 1))
  | 0, h => by simp [psl, l1]
  | n + 1, h => by
    obtain ⟨c, hc⟩ : ∃ c, p[n + 1]? = some c := ⟨_, List.getElem?_eq_getElem (by omega)⟩
    have ih := psl_l1 p n (by omega)
    rw [psl_succ, l1_append, l1_take hc, List.getD_eq_getElem?_getD, hc]
    simp only [l1, Option.getD_some]
    rw [Int.natAbs_mul, Int.natAbs_natCast, Nat.mul_add]
    have : n * l1 (p.take (n + 1)) ≤ (n + 1) * l1 (p.take (n + 1)) := Nat.mul_le_mul_right _ (by omega)
    omega
theorem IsP.slope {p : List Int} {f : Int → Int} {B d : Nat} (h : IsP p f B d) (hl : 2 ≤ p.length) : ∃ f', Dv f f' ∧ IsP (psl p (p.length - 1)) f' (d * B) (d - 1) := by
  have hd := h.l
  have hv := psl_dv p (p.length - 1) (by omega)
  have hb := psl_l1 p (p.length - 1) (by omega)
  rw [show p.length - 1 + 1 = p.length by omega, List.take_length] at hv hb
  refine ⟨_, hv.as h.v (fun _ => rfl), ⟨⟨fun e => ?_, .inr ?_⟩, fun _ => rfl, ?_, ?_⟩⟩
  · have := psl_len p (p.length - 1)
    rw [e] at this
    simp at this
    omega
  · rw [psl_len]
    have e : p.length - 1 = (p.length - 1 - 1) + 1 := by omega
    rw [List.getD_eq_getElem?_getD]
    unfold psl
    rw [List.getElem?_map, List.getElem?_range (by omega)]
    show ((p.length - 1 - 1 + 1 : Nat) : Int) * p.getD (p.length - 1 - 1 + 1) 0 ≠ 0
    rw [← e]
    rcases h.cn.2 with z | z
    · omega
    · exact Int.mul_ne_zero (by omega) z
  · refine Nat.le_trans hb (Nat.mul_le_mul (by omega) h.b)
  · rw [psl_len]; omega
end Vf

namespace Vf
open PySem PySem.Spec PyProof.Rows L2
/-! ## t[::-1], t a tuple -/
section
variable {prog : Program} {w : World} {A : Around} {E : Value → Shared → Prop} {s : Shared}
theorem adj_rev (n : Nat) : Builtin.Slice.sliceAdjust none none (-1) (n : Int) = ((n : Int) - 1, -1) := rfl
theorem plc_rev (n : Nat) : Builtin.Slice.slicePlaces ((n : Int) - 1) (-1) (-1) = n := by
  show (if (-1 : Int) > 0 then _ else (if (n : Int) - 1 > -1 then ((n : Int) - 1 - (-1) - 1) / (-(-1)) + 1 else 0)).toNat = n
  rw [if_neg (by decide)]
  split
  · rw [show (-(-1) : Int) = 1 from rfl, Int.ediv_one]
    omega
  · show (0 : Int).toNat = n
    have : n = 0 := by omega
    rw [this]
    rfl
theorem fm_some {α β : Type} {f : α → Option β} {g : α → β} : ∀ (l : List α), (∀ a ∈ l, f a = some (g a)) → l.filterMap f = l.map g
  | [], _ => rfl
  | a :: l, h => by
    rw [List.filterMap_cons, h a List.mem_cons_self, List.map_cons, fm_some l fun b hb => h b (List.mem_cons_of_mem _ hb)]
theorem pick_rev (xs : List Value) : ((List.range xs.length).filterMap fun m : Nat => xs.toArray[(((xs.length : Nat) : Int) - 1 + (m : Int) * -1).toNat]?) = xs.reverse := by
  have e1 : ∀ m ∈ List.range xs.length, xs.toArray[(((xs.length : Nat) : Int) - 1 + (m : Int) * -1).toNat]? = some (xs.reverse.getD m .none) := fun m hm => by
    have lt := List.mem_range.mp hm
    rw [show (((xs.length : Nat) : Int) - 1 + (m : Int) * -1).toNat = xs.length - 1 - m by omega, List.getElem?_toArray, List.getD_eq_getElem?_getD, List.getElem?_reverse lt, List.getElem?_eq_getElem (by omega)]
    rfl
  have e2 : ((List.range xs.length).filterMap fun m : Nat => xs.toArray[(((xs.length : Nat) : Int) - 1 + (m : Int) * -1).toNat]?) = (List.range xs.length).map fun m => xs.reverse.getD m .none := by
    exact fm_some _ e1
  rw [e2]
  refine List.ext_getElem (by simp) fun i h1 h2 => ?_
  rw [List.getElem_map, List.getElem_range, List.getD_eq_getElem?_getD, List.getElem?_eq_getElem h2]
  rfl
theorem applied_rev {sl : Addr} {t : Tok} {n : Nat} {Q : Int × Int × Nat → Shared → Prop} (hs : s.heap.IsSliceOf sl .none .none (.int (-1) t))
    (h : Q ((n : Int) - 1, -1, n) s) : wpAny (model prog w) A (Builtin.Slice.sliceApplied (.ref sl) (pure (n : Int))) Q E s := by
  obtain ⟨o, ho, hc, hd⟩ := id hs
  unfold Builtin.Slice.sliceApplied Builtin.Slice.sliceFields
  refine wpAny_bind (wpAny_bind (wpAny_field ho hd (x := .none) rfl
    (wpAny_bind (wpAny_field ho hd (x := .none) rfl (wpAny_bind (wpAny_field ho hd (x := .int (-1) t) rfl (wpAny_pure ?_)))))))
  refine wpAny_bind (slicePart_int ?_)
  show wpAny _ _ (if ((-1 : Int) == 0) = true then _ else _) _ _ s
  rw [if_neg (by decide)]
  refine wpAny_bind (slicePart_none (wpAny_bind (slicePart_none (wpAny_bind (wpAny_pure ?_)))))
  show wpAny _ _ (match Builtin.Slice.sliceAdjust none none (-1) (n : Int) with | (lo, hi) => pure (lo, (-1 : Int), Builtin.Slice.slicePlaces lo hi (-1))) _ _ s
  rw [adj_rev]
  show wpAny _ _ (pure ((n : Int) - 1, (-1 : Int), Builtin.Slice.slicePlaces ((n : Int) - 1) (-1) (-1))) _ _ s
  rw [plc_rev]
  exact wpAny_pure h
theorem item_rev {t sl : Addr} {its : List Value} {tk : Tok} {Q : Value → Shared → Prop} (ht : IsTup s.heap t its.toArray) (hs : s.heap.IsSliceOf sl .none .none (.int (-1) tk))
    (h : Q (.ref s.heap.objs.size) { s with heap := s.heap.push { cls := .type "tuple", data := .seq its.reverse.toArray } })
    (hz : its.length ≤ sizeLine) : wpAny (model prog w) A (getItem (.ref t) (.ref sl)) Q E s := by
  have ok : sizeOk (.seq its.reverse.toArray) := by
    show its.reverse.toArray.size ≤ sizeLine
    rw [List.size_toArray, List.length_reverse]
    exact hz
  obtain ⟨os, hos, hcs, hds⟩ := id hs
  have ty : s.TypeIs (.ref sl) "slice" := ⟨os, hos, hcs⟩
  unfold getItem
  try with_reducible refine wpAny_holding ?_
  first | refine wpAny_bind (wpAny_pure ?_) | skip
  refine wpAny_bind (wpAny_sequenceKey ht.typeIs (by decide) ?_)
  refine wpAny_bind (wpAny_callSpecial?_slot (name := Str.ofString "__getitem__") ht.typeIs
    PyProof.Rows.slot_tuple_getitem (wpAny_call_entry PyProof.Rows.slot_tuple_getitem
      ht.typeIs entry_tuple_getitem ?_ (args_tuple_getitem _ _)))
  show wpAny _ _ (Builtin.Tuple.tupleItemsOf (.ref t) >>= _) _ _ s
  refine wpAny_bind (tupleItemsOf_ ht ?_)
  refine wpAny_bind (wpAny_typeOf ty ?_)
  rw [if_pos (by decide)]
  rw [List.size_toArray]
  refine wpAny_bind (applied_rev hs ?_)
  have no : ¬ (((((its.length : Nat) : Int) - 1 == 0) && ((-1 : Int) == 1) && (its.length == its.length)) = true) := by
    rw [Bool.and_eq_true, Bool.and_eq_true]
    exact fun q => absurd q.1.2 (by decide)
  show wpAny _ _ (if ((((its.length : Nat) : Int) - 1 == 0) && ((-1 : Int) == 1) && (its.length == its.length)) = true then _ else _) _ _ s
  rw [if_neg no, pick_rev]
  first
    | exact wpAny_bind (m := Builtin.Tuple.tupleExact _) (wpAny_newObj_type (wpAny_pure ⟨_, rfl, wpAny_pure h⟩) ok)
    | exact wpAny_bind (m := Builtin.Tuple.tupleExact _) (wpAny_newObj_type (wpAny_bind (wpAny_pure (wpAny_pure ⟨_, rfl, wpAny_pure h⟩))) ok)
    | exact wpAny_bind (wpAny_bind (m := Builtin.Tuple.tupleExact _) (wpAny_newObj_type (wpAny_pure (wpAny_pure ⟨_, rfl, wpAny_pure h⟩)) ok))
    | exact wpAny_bind (wpAny_bind (m := Builtin.Tuple.tupleExact _) (wpAny_newObj_type (wpAny_pure ⟨_, rfl, wpAny_pure h⟩) ok))
end
def tRevT (K : PySem.W.Frag) (te : TE) : TE := fun σ H Q => te σ H fun x H1 => ∃ a xs, x = .ref a ∧ SqT K H1 a xs ∧ ∀ p, H1 p = none → Q (.ref p) (upd H1 p (.tup xs.reverse))
theorem pe_revT {X : Cx} {K : PySem.W.Frag} {e : Expr} {te : TE} {k : Nat} {p1 p2 p3 pos : Pos} (ek : X.K = K) (he : PE X e te) :
    PE X (.Subscript e (.Slice none none (some (.UnaryOp .USub (.Constant (.int 1) k p1) p2)) p3) pos) (tRevT K te) := by
  subst ek
  refine ⟨fun pins s σ H Q I h => ?_⟩
  refine Subscript_ (thn (he.run pins s σ H _ I h) fun v s1 ⟨x, H1, I1, r1, q1⟩ => ?_)
  obtain ⟨a, xs, rfl, hx, q⟩ := q1
  cases r1
  have st : PO X (some (.UnaryOp .USub (.Constant (.int 1) k p1) p2))
      (tPart (tUn (rU fun i => .int (-i)) (tC (.int 1)))) := po_some (pe_un un_neg pe_int)
  refine wpAny_Slice (thn (po_none.run pins s1 σ H1
    (fun o H2 => o = none ∧ H2 = H1) I1 ⟨rfl, rfl⟩) fun vl s2 ⟨l, H2, I2, pl, el, e2⟩ => ?_)
  subst el e2
  refine thn (po_none.run pins s2 σ H2
    (fun o H3 => o = none ∧ H3 = H2) I2 ⟨rfl, rfl⟩) fun vu s3 ⟨u, H3, I3, pu, eu, e3⟩ => ?_
  subst eu e3
  refine thn (st.run pins s3 σ H3
    (fun o H4 => o = some (-1) ∧ H4 = H3) I3 ⟨1, rfl, -1, rfl, rfl, rfl⟩) fun vs s4 ⟨o, H4, I4, ps, eo, e4⟩ => ?_
  subst eo e4
  cases pl
  cases pu
  cases ps with
  | int _ tk =>
  have I5 : Inv X pins σ H4 { s4 with heap := s4.heap.push { cls := .type "slice", data := .fields #[.none, .none, .int (-1) tk] } } :=
    I4.kept (t' := s4.toks) fun b ob q => Heap.get?_push_of_some _ q
  obtain ⟨its, r, ht, hz⟩ := I5.tuple hx
  have hl := r.length
  show wpAny (model X.prog X.w) X.A (subscriptTail e _ (.ref a) (.ref s4.heap.objs.size)) (EP X pins σ Q) X.xe _
  refine tail_any (ops := [.ref a, .ref s4.heap.objs.size]) ht.typeIs PyProof.Rows.slot_tuple_getitem.lookup ?_ (by with_unfolding_all rfl)
  refine item_rev ht (Heap.IsSliceOf.new _ _ _ _) ?_ (by rw [← hl]; exact hz)
  refine ⟨.ref _, _, I5.laid (t' := s4.toks) (o := .tup xs.reverse)
    (fun b ob q => Heap.get?_push_of_some _ q) (Nat.le_refl _) ?_, rfl, q _ (I5.hok.fresh (Nat.le_refl _))⟩
  exact ⟨by rw [List.length_reverse]; exact hz, its.reverse, r.reverse, IsTup.new _ _⟩
theorem r_revT {K : PySem.W.Frag} {te : TE} {σ : L2.St} {H : Hp} {Q : VK} (h : te σ H fun x H1 => ∃ a xs, x = .ref a ∧ SqT K H1 a xs ∧ ∀ p, H1 p = none → Q (.ref p) (upd H1 p (.tup xs.reverse))) : tRevT K te σ H Q := h
/-! ## reversed(t) -/
theorem i_rev {X : Cx} {K : PySem.W.Frag} {tg e : Expr} {te : TE} {p pos : Pos} (ek : X.K = K) (hg : Gl X "reversed") (hm : X.mg "reversed" = none) (he : PE X e te)
    (hs : starEach [e] X.env = (false, eval e X.env) :: starEach [] X.env := by rfl) : PI X tg (.Call (.Name "reversed" p) [e] [] pos) (RT.iRevA K te) := by
  subst ek
  exact RT.pi_revA hg hm he hs
theorem r_forRv {K : PySem.W.Frag} {g : TG} {tb : TS} {D : Ends} {σ : L2.St} {H : Hp} {te : TE} (h : te σ H fun v H1 => ∃ (a : Addr) (xs : List V), v = .ref a ∧ SqT K H1 a xs ∧ tFor (fun _ H2 R => R (RT.ItvT K a xs.length) H2) g tb D σ H1)
    (mono : ∀ (R R' : VK), (∀ v H1, R v H1 → R' v H1) → te σ H R → te σ H R') : tFor (RT.iRevA K te) g tb D σ H :=
  mono _ _ (fun v H1 ⟨a, xs, e, sv, r⟩ => ⟨a, xs, e, .inr ⟨sv, r⟩⟩) h
theorem mono_var {i : Nat} {σ : L2.St} {H : Hp} (R R' : VK) (h : ∀ v H1, R v H1 → R' v H1) (q : tVar i σ H R) : tVar i σ H R' := by
  obtain ⟨v, e, r⟩ := q
  exact ⟨v, e, h _ _ r⟩
theorem r_forRvV {K : PySem.W.Frag} {g : TG} {tb : TS} {D : Ends} {σ : L2.St} {H : Hp} {i : Nat} {a : Addr} (xs : List V) (e : σ[i]? = some (some (.ref a))) (sv : SqT K H a xs) (Pv : Nat → L2.St → Hp → Prop) (h0 : Pv 0 σ H)
    (hl : ∀ i σ H, Pv i σ H → SqT K H a xs)
    (hs : ∀ (i : Nat) (x : V) (σ : L2.St) (H : Hp), i < xs.length → xs[xs.length - 1 - i]? = some x → Pv i σ H → g x σ H fun σ2 H2 => tb { D with nx := Pv (i + 1), ct := Pv (i + 1), bk := D.nx } σ2 H2)
    (hd : ∀ σ H, Pv xs.length σ H → D.nx σ H) : tFor (RT.iRevA K (tVar i)) g tb D σ H :=
  r_forRv ⟨.ref a, e, a, xs, rfl, sv, RT.for_ItvT Pv h0 hl hs hd⟩ mono_var
/-! ## xs[i] += e -/
def rGetL (K : PySem.W.Frag) : V → V → Hp → VK → Prop := fun o i H Q => ∃ (p : Addr) (xs : List V) (k : Nat) (z : V), o = .ref p ∧ i = .int (k : Int) ∧ SqL K H p xs ∧ xs[k]? = some z ∧ Q z H
theorem get_list {X : Cx} {K : PySem.W.Frag} (ek : X.K = K) : PGet X (rGetL K) := by
  subst ek
  intro pins s σ H o i ov iv Q I ro ri h
  obtain ⟨p, xs, k, z, rfl, rfl, hq, he, q⟩ := h
  cases ro
  obtain ⟨t, rfl⟩ := ri
  obtain ⟨its, r, pl, hz⟩ := I.list hq
  obtain ⟨w, ew, rw'⟩ := r.get he
  have hn := line63
  have hk := (List.getElem?_eq_some_iff.mp he).1
  have hl := r.length
  refine PySem.wpAny_getItem_list pl.isList (by omega) (by omega) ?_ ⟨z, H, I, rw', q⟩
  rw [Int.toNat_natCast]
  simpa using ew
theorem r_getL {K : PySem.W.Frag} {H : Hp} {Q : VK} {p : Addr} {k : Nat} {z : V} (xs : List V) (h1 : SqL K H p xs) (h2 : xs[k]? = some z) (h : Q z H) : rGetL K (.ref p) (.int (k : Int)) H Q := ⟨p, xs, k, z, rfl, rfl, h1, h2, h⟩
theorem r_augS {to ti te : TE} {tget : V → V → Hp → VK → Prop} {tip : TIp} {tset : TSet} {D : Ends} {σ : L2.St} {H : Hp}
    (h : to σ H fun o H1 => ti σ H1 fun i H2 => tget o i H2 fun x H3 => te σ H3 fun y H4 => tip x y H4 fun z H5 => tset o i z H5 fun H6 => D.nx σ H6) : tAugS to ti te tget tip tset D σ H := h
/-! ## xs.pop() -/
theorem r_popL {H : Hp} {Q : VK} {l : Addr} (xs : List V) (y : V) (h1 : H l = some (.lst (xs ++ [y]))) (h : Q y (upd H l (.lst xs))) : rPop (.ref l) [] H Q :=
  ⟨l, _, y, rfl, rfl, h1, by simp, by rw [List.dropLast_concat]; exact h⟩
end Vf

namespace Vf
open PySem PySem.Spec PyProof.Rows L2
/-! ## the law's cask -/
def Cask (n : Nat) (k : Addr) (H : Hp) : Prop := ∃ a b c : Int, H k = some (.lst [.int b, .int c, .int a]) ∧ KegOk a b c (17 + 11 * n)
theorem Cask.mono {n m : Nat} {k : Addr} {H : Hp} (h : Cask n k H) (l : n ≤ m) : Cask m k H := by
  obtain ⟨a, b, c, e, o⟩ := h
  exact ⟨a, b, c, e, o.a0, o.ab, o.b0, o.bM, o.c0, by have := o.cn; omega⟩
theorem Cask.same {n : Nat} {k : Addr} {H H' : Hp} (h : Cask n k H) (s : Same H H') : Cask n k H' := by
  obtain ⟨a, b, c, e, o⟩ := h
  exact ⟨a, b, c, s _ _ e, o⟩
theorem Cask.new {n : Nat} {k p : Addr} {H : Hp} {o : HO} (h : Cask n k H) (hp : H p = none) : Cask n k (upd H p o) := h.same (Same.new hp)
theorem Cask.ne {n : Nat} {k p : Addr} {H : Hp} (h : Cask n k H) (hp : H p = none) : p ≠ k := by
  obtain ⟨a, b, c, e, o⟩ := h
  exact (ne_of_none e hp).symm
theorem Cask.tt {n : Nat} {k : Addr} {H H' : Hp} (h : Cask n k H) (e : Kx k H H') : Tt H H' := by
  obtain ⟨a, b, c, z, o⟩ := h
  exact e.tt z
theorem Cask.kx {n m : Nat} {k j : Addr} {H H' : Hp} (h : Cask n k H) (e : Kx j H H') (ne : k ≠ j) : Cask n k H' := by
  obtain ⟨a, b, c, z, o⟩ := h
  exact ⟨a, b, c, e _ _ ne z, o⟩
def sp_ctap : Sp := fun vs H Q _ => ∃ (k : Addr) (u : Int) (n : Nat), vs = [.ref k, .int u] ∧ Cask n k H ∧ n ≤ 2 ^ 60 ∧ 0 < u ∧ u < 2 ^ 62 ∧
  ∀ f H', 0 ≤ f → f < u → Kx k H H' → Cask (n + 1) k H' → Q (.int f) H'
theorem i_ctap {k : Addr} {u : Int} {H : Hp} {Q : VK} {E : XK} (n : Nat) (hk : Cask n k H) (hn : n ≤ 2 ^ 60) (h0 : 0 < u) (h1 : u < 2 ^ 62)
    (q : ∀ f H', 0 ≤ f → f < u → Kx k H H' → Cask (n + 1) k H' → Q (.int f) H') : sp_ctap [.ref k, .int u] H Q E := ⟨k, u, n, rfl, hk, hn, h0, h1, q⟩
def sp_cof (K : PySem.W.Frag) : Sp := fun vs H Q _ => ∃ (k t : Addr) (xs : List V) (n : Nat), vs = [.ref k, .ref t] ∧ Cask n k H ∧ n ≤ 2 ^ 60 ∧ t ≠ k ∧ SqL K H t xs ∧ 0 < xs.length ∧ xs.length ≤ 100000 ∧
  ∀ (i : Nat) (x : V) H', xs[i]? = some x → Kx k H H' → Cask (n + 1) k H' → Q x H'
theorem i_cof {K : PySem.W.Frag} {k t : Addr} {H : Hp} {Q : VK} {E : XK} (n : Nat) (xs : List V) (hk : Cask n k H) (hn : n ≤ 2 ^ 60) (ht : t ≠ k) (hs : SqL K H t xs) (h0 : 0 < xs.length) (h1 : xs.length ≤ 100000)
    (q : ∀ (i : Nat) x H', xs[i]? = some x → Kx k H H' → Cask (n + 1) k H' → Q x H') : sp_cof K [.ref k, .ref t] H Q E := ⟨k, t, xs, n, rfl, hk, hn, ht, hs, h0, h1, q⟩
def sp_cask (K : PySem.W.Frag) : Sp := fun vs H Q _ => ∃ (c : Addr) (ns : List Int) (j : Nat), vs = [.ref c, .int (j : Int)] ∧ SqL K H c (ns.map V.int) ∧ Script ns ∧ j ≤ 1000 ∧
  ∀ p H', Same H H' → H p = none → Cask 0 p H' → Q (.ref p) H'
theorem i_cask {K : PySem.W.Frag} {c : Addr} {H : Hp} {Q : VK} {E : XK} (ns : List Int) (j : Nat) (hs : SqL K H c (ns.map V.int)) (hn : Script ns) (hj : j ≤ 1000)
    (q : ∀ p H', Same H H' → H p = none → Cask 0 p H' → Q (.ref p) H') : sp_cask K [.ref c, .int (j : Int)] H Q E := ⟨c, ns, j, rfl, hs, hn, hj, q⟩
theorem Cask.none {n : Nat} {k q : Addr} {H H' : Hp} (h : Cask n k H') (e : Kx k H H') (hq : H' q = Option.none) : H q = Option.none := by
  obtain ⟨a, b, c, z, o⟩ := h
  exact none_kx e z hq
theorem r_bm0 {K : PySem.W.Frag} {T : String} {r : V → List V → Hp → VK → Prop} {to : TE} {σ : L2.St} {H : Hp} {Q : VK} (h : to σ H fun x H1 => tyV K T x H1 ∧ r x [] H1 Q) : tBM0 K T r to σ H Q := h
end Vf

namespace Vf
/-! ## sums by their steps -/
def nval : List Int → Int → Int → Int
  | [], _, _ => 0
  | s :: t, j, x => s + (x - j) * nval t (j + 1) x
def lb : List Int → Nat → Nat
  | [], _ => 0
  | s :: t, j => s.natAbs + (1 + j) * lb t (j + 1)
theorem lb_le (S : Nat) : ∀ (s : List Int) (j : Nat), (∀ c ∈ s, c.natAbs ≤ S) → j + s.length ≤ 19 → lb s j ≤ S * 20 ^ s.length
  | [], _, _, _ => Nat.zero_le _
  | c :: t, j, h, hl => by
    rw [List.length_cons] at hl
    have h1 := h c List.mem_cons_self
    have h2 := lb_le S t (j + 1) (fun d hd => h d (List.mem_cons_of_mem _ hd)) (by omega)
    have h3 : (1 + j) * lb t (j + 1) ≤ 19 * (S * 20 ^ t.length) := Nat.mul_le_mul (by omega) h2
    have h4 : S ≤ S * 20 ^ t.length := Nat.le_mul_of_pos_right _ (Nat.pow_pos (by decide))
    rw [lb, List.length_cons, Nat.pow_succ, ← Nat.mul_assoc]
    omega
theorem nval_zeros (n : Nat) : ∀ (s : List Int) (j x : Int), nval (s ++ List.replicate n 0) j x = nval s j x
  | [], j, x => by
    rw [List.nil_append]
    induction n generalizing j with
    | zero => rfl
    | succ n ih =>
      show 0 + (x - j) * nval (List.replicate n 0) (j + 1) x = 0
      rw [ih]
      simp [nval]
  | c :: s, j, x => by
    rw [List.cons_append, nval, nval, nval_zeros n s (j + 1) x]
theorem far_div {d : Int} (N : Int) (h : ∀ y : Int, N < y → 0 < y → y ∣ d) : d = 0 := by
  have h1 := h (max N 0 + d.natAbs + 1) (by omega) (by omega)
  rcases Int.lt_trichotomy d 0 with c | c | c
  · have := Int.le_of_dvd (show 0 < -d by omega) (Int.dvd_neg.mpr h1)
    omega
  · exact c
  · have := Int.le_of_dvd c h1
    omega
theorem nval_none : ∀ {s : List Int} {j : Int} (N : Int), (∀ x : Int, N < x → nval s j x = 0) → ∀ c ∈ s, c = 0
  | [], _, _, _, _, h => by simp at h
  | a :: s, j, N, h, c, hc => by
    have ha : a = 0 := far_div (N - j) fun y h1 h2 => by
      have := h (y + j) (by omega)
      rw [nval, show y + j - j = y by omega] at this
      exact ⟨-nval s (j + 1) (y + j), by rw [Int.mul_neg]; omega⟩
    subst ha
    rcases List.mem_cons.mp hc with e | e
    · exact e
    · refine nval_none (s := s) (j := j + 1) (max N j) (fun x hx => ?_) c e
      have := h x (by omega)
      rw [nval, Int.zero_add] at this
      rcases Int.mul_eq_zero.mp this with z | z
      · omega
      · exact z
def nsub : List Int → List Int → List Int
  | a :: p, b :: q => (a - b) :: nsub p q
  | _, _ => []
theorem nval_sub : ∀ (p q : List Int) (j x : Int), p.length = q.length → nval (nsub p q) j x = nval p j x - nval q j x
  | [], [], j, x, _ => by simp [nsub, nval]
  | [], b :: q, j, x, h => by simp at h
  | a :: p, [], j, x, h => by simp at h
  | a :: p, b :: q, j, x, h => by
    have h1 := nval_sub p q (j + 1) x (by simpa using h)
    simp only [nsub, nval, h1]
    grind
theorem nsub_all : ∀ (p q : List Int), p.length = q.length → (∀ c ∈ nsub p q, c = 0) → p = q
  | [], [], _, _ => rfl
  | [], b :: q, h, _ => by simp at h
  | a :: p, [], h, _ => by simp at h
  | a :: p, b :: q, h, hz => by
    have h1 := nsub_all p q (by simpa using h) (fun c hc => hz c (List.mem_cons_of_mem _ hc))
    have h2 := hz (a - b) List.mem_cons_self
    rw [h1, show a = b by omega]
theorem nval_inj {p q : List Int} (hl : p.length = q.length) (h : ∀ x, nval p 0 x = nval q 0 x) : p = q :=
  nsub_all p q hl (nval_none (j := 0) 0 fun x _ => by rw [nval_sub p q 0 x hl, h x]; omega)
/-- the first r of a list as steps, the rest as coefficients -/
def mval : Nat → List Int → Int → Int → Int
  | 0, l, _, x => pval l x
  | _ + 1, [], _, _ => 0
  | r + 1, s :: t, j, x => s + (x - j) * mval r t (j + 1) x
theorem mval_all : ∀ (r : Nat) (l : List Int) (j x : Int), l.length ≤ r → mval r l j x = nval l j x
  | 0, l, j, x, h => by
    have : l = [] := List.eq_nil_of_length_eq_zero (by omega)
    subst this
    rfl
  | r + 1, [], j, x, h => rfl
  | r + 1, s :: t, j, x, h => by
    rw [mval, nval, mval_all r t (j + 1) x (by simpa using h)]
/-- one stage: the rest divided by x less the next number -/
theorem mval_stage : ∀ (r : Nat) (l l' : List Int) (j : Int) (x : Int), l'.length = l.length → r < l.length → l'.take r = l.take r →
    pval (l.drop r) x = l'.getD r 0 + (x - (j + r)) * pval (l'.drop (r + 1)) x → mval r l j x = mval (r + 1) l' j x
  | 0, l, l', j, x, hl, hr, ht, h => by
    match l', hl, h with
    | [], hl, _ => simp at hl; omega
    | s :: t, _, h =>
      rw [mval, mval, mval]
      rw [List.drop_zero] at h
      rw [h]
      simp
  | r + 1, l, l', j, x, hl, hr, ht, h => by
    match l, l', hl, hr, ht, h with
    | [], _, _, hr, _, _ => simp at hr
    | a :: l, [], hl, _, _, _ => simp at hl
    | a :: l, b :: l', hl, hr, ht, h =>
      rw [List.take_succ_cons, List.take_succ_cons] at ht
      obtain ⟨e1, e2⟩ := List.cons.inj ht
      have ih := mval_stage r l l' (j + 1) x (by simpa using hl) (by simpa using hr) e2 (by
        have h2 : pval (l.drop r) x = l'.getD r 0 + (x - (j + ((r + 1 : Nat) : Int))) * pval (l'.drop (r + 1)) x := h
        rw [show (j + 1 + (r : Int)) = j + ((r + 1 : Nat) : Int) by omega]
        exact h2)
      rw [mval, ih, ← e1]
      rfl
theorem mval_one (l : List Int) (x : Int) (h : l ≠ []) : mval 1 l 0 x = pval l x := by
  match l, h with
  | s :: t, _ => rw [mval, mval, pval, Int.sub_zero]
/-- how great steps of seven coefficients can be -/
def row : Nat → List Nat
  | 0 => [1, 1, 1, 1, 1, 1, 1]
  | 1 => [1, 6, 5, 4, 3, 2, 1]
  | 2 => [1, 6, 57, 26, 11, 4, 1]
  | 3 => [1, 6, 57, 122, 32, 7, 1]
  | 4 => [1, 6, 57, 122, 76, 11, 1]
  | 5 => [1, 6, 57, 122, 76, 16, 1]
  | _ => [1, 6, 57, 122, 76, 16, 1]
theorem row_ok : ∀ n < 6, ∀ i < 7, (row (n + 1)).getD i 0 = if i < n + 1 then (row n).getD i 0 else (row n).getD i 0 + (n + 1) * (row (n + 1)).getD (i + 1) 0 := by decide
theorem row_top : ∀ n < 7, ∀ i < 7, (row n).getD i 0 ≤ 122 := by decide
theorem row_up : ∀ n < 6, ∀ i < 7, (row n).getD i 0 ≤ (row (n + 1)).getD i 0 := by decide
end Vf

namespace Vf
open PySem PySem.Spec PyProof.Rows L2
/-! ## ranges downwards -/
section
variable {K : PySem.W.Frag} {g : TG} {tb : TS} {D : Ends} {σ : L2.St} {H : Hp}
theorem r_for3 {ta : TA} (h : ta σ H fun vs H1 => ∃ (i j c : Int) (n : Nat), vs = [.int i, .int j, .int c] ∧ RgC i j c n ∧ tFor (fun _ H2 R => R (Itc i c n) H2) g tb D σ H1) : tFor (iRng3 ta) g tb D σ H := h
theorem r_forC {lo c : Int} {n : Nat} (Pv : Nat → L2.St → Hp → Prop) (h0 : Pv 0 σ H)
    (hs : ∀ i σ H, i < n → Pv i σ H → g (.int (lo + (i : Nat) * c)) σ H fun σ2 H2 => tb { D with nx := Pv (i + 1), ct := Pv (i + 1), bk := D.nx } σ2 H2)
    (hd : ∀ σ H, Pv n σ H → D.nx σ H) : tFor (fun _ H2 R => R (Itc lo c n) H2) g tb D σ H := for_rangeC Pv h0 hs hd
end
end Vf

namespace Vf
open PySem PySem.Spec PyProof.Rows L2
/-! ## zip of a tuple and a list -/
def ItTL (K : PySem.W.Frag) (a b : Addr) : It :=
  ⟨fun i H => ∃ (xs ys : List V), (SqT K H a xs ∧ SqL K H b ys) ∧ i < xs.length ∧ i < ys.length,
   fun i H v H' => ∃ T x y, v = .ref T ∧ H T = none ∧ H' = upd H T (.tup [x, y]) ∧ (∀ xs, SqT K H a xs → xs[i]? = some x) ∧ ∀ ys, SqL K H b ys → ys[i]? = some y,
   fun i H => ∃ (xs ys : List V), (SqT K H a xs ∧ SqL K H b ys) ∧ (i ≤ xs.length ∧ i ≤ ys.length) ∧ (i = xs.length ∨ i = ys.length)⟩
structure Five (u TI TO i1 i2 a b : Addr) : Prop where
  ap : u ≠ TI ∧ u ≠ TO ∧ u ≠ i1 ∧ u ≠ i2 ∧ TI ≠ TO ∧ TI ≠ i1 ∧ TI ≠ i2 ∧ TO ≠ i1 ∧ TO ≠ i2 ∧ i1 ≠ i2
  a0 : a ≠ u ∧ a ≠ TI ∧ a ≠ TO ∧ a ≠ i1 ∧ a ≠ i2
  b0 : b ≠ u ∧ b ≠ TI ∧ b ≠ TO ∧ b ≠ i1 ∧ b ≠ i2
theorem Five.sep {u TI TO i1 i2 a b : Addr} (S : Five u TI TO i1 i2 a b) : ZipSep2 u TI TO i1 i2 [i1, a] [i2, b] := by
  obtain ⟨⟨s1, s2, s3, s4, s5, s6, s7, s8, s9, s10⟩, ⟨a1, a2, a3, a4, a5⟩, ⟨b1, b2, b3, b4, b5⟩⟩ := S
  constructor <;> simp [*, Ne.symm s1, Ne.symm s2, Ne.symm s3, Ne.symm s4, Ne.symm s5, Ne.symm s8, Ne.symm s9, Ne.symm s10, Ne.symm a1, Ne.symm a3, Ne.symm a4, Ne.symm a5, Ne.symm b1, Ne.symm b3, Ne.symm b4, Ne.symm b5]
def ZTL (u TI TO i1 i2 a b : Addr) (i : Nat) (h : Heap) : Prop :=
  IsZip h u TI TO .none ∧ IsTupOf2 h TI (.ref i1) (.ref i2) ∧ (∃ x y, IsTupOf2 h TO x y) ∧ h.IsTupleIter i1 a i ∧ h.IsListIter i2 b i
theorem turn_zipTL {P : Program} {w : World} {K : PySem.W.Frag} {elts : List Expr} {kk : Nat} {tpos : Pos} {u TI TO i1 i2 a b : Addr} (S : Five u TI TO i1 i2 a b) :
    Turn P w K (.Tuple elts kk tpos) (ItTL K a b) [u, TI, TO, i1, i2] u (ZTL u TI TO i1 i2 a b) where
  mem := List.mem_cons_self
  obj := fun i h st d hd => by
    obtain ⟨zz, ti, ⟨x, y, to⟩, ⟨o1, e1, _, d1⟩, ⟨o2, e2, _, d2⟩⟩ := st
    simp only [List.mem_cons, List.not_mem_nil, or_false] at hd
    rcases hd with e | e | e | e | e
    · subst e; exact ⟨_, zz, fun v q => nomatch q⟩
    · subst e; exact ⟨_, ti, fun v q => nomatch q⟩
    · subst e; exact ⟨_, to, fun v q => nomatch q⟩
    · subst e; exact ⟨o1, e1, fun v q => by rw [d1] at q; cases q⟩
    · subst e; exact ⟨o2, e2, fun v q => by rw [d2] at q; cases q⟩
  keep := fun i h h' st k => by
    obtain ⟨zz, ti, ⟨x, y, to⟩, h1, h2⟩ := st
    exact ⟨k u (by simp) _ zz, k TI (by simp) _ ti, ⟨x, y, k TO (by simp) _ to⟩, h1.at fun o q => k i1 (by simp) o q, h2.at fun o q => k i2 (by simp) o q⟩
  item := by
    intro X hP hw hK hc i pins s σ H E I hf st hg
    subst hP hw hK
    obtain ⟨zz, ti, ⟨x0, y0, to⟩, h1, h2⟩ := st
    obtain ⟨xs, ys, ⟨qx, qy⟩, lx, ly⟩ := hg
    obtain ⟨v1, r1, t1, _⟩ := I.tuple qx
    obtain ⟨v2, r2, t2, _⟩ := I.list qy
    obtain ⟨y1, g1, w1⟩ := r1.get (List.getElem?_eq_getElem lx)
    obtain ⟨y2, g2, w2⟩ := r2.get (List.getElem?_eq_getElem ly)
    have n1 := r1.length
    have n2 := r2.length
    have hd := I.ok.hd hc
    have b0 : u < s.heap.objs.size := Heap.lt_size zz
    have bI : TI < s.heap.objs.size := Heap.lt_size ti
    have bO : TO < s.heap.objs.size := Heap.lt_size to
    have b1 : i1 < s.heap.objs.size := by
      obtain ⟨_, q, _⟩ := h1
      exact Heap.lt_size q
    have b2 : i2 < s.heap.objs.size := by
      obtain ⟨_, q, _⟩ := h2
      exact Heap.lt_size q
    refine wpAny_pyNext_zipD2_item S.sep (drawsT (A := X.A.in1) hd i1 a S.a0.2.2.2.1 v1.toArray) (Draws.list (A := X.A.in1) hd i2 b S.b0.2.2.2.2 v2.toArray)
      zz ti to ⟨h1, t1⟩ ⟨h2, t2.isList⟩ (by simp; omega) (by simp; omega) fun x1 x2 m tk p1 p2 zz' to' st1 st2 np sz kp => ?_
    obtain rfl : y1 = x1 := by
      have : v1[i]? = some x1 := by simpa using p1
      rw [g1] at this
      exact Option.some.inj this
    obtain rfl : y2 = x2 := by
      have : v2[i]? = some x2 := by simpa using p2
      rw [g2] at this
      exact Option.some.inj this
    refine ⟨_, rfl, wpAny_letOwnedTupleGo_zip (s := { s with heap := m, toks := tk }) zz' fun m2 zz2 sb => ?_⟩
    have np2 : IsTupOf2 m2 s.heap.objs.size y1 y2 := (sb.2 _ (Nat.ne_of_gt b0)).trans np
    have fresh : ObjOk X.prog X.w (upd H s.heap.objs.size (.tup [xs[i], ys[i]])) m2 s.heap.objs.size (.tup [xs[i], ys[i]]) :=
      ⟨by show 2 ≤ sizeLine; decide, [y1, y2], .cons w1 (.cons w2 .nil), ⟨_, np2, rfl, _, rfl⟩⟩
    have stay : ∀ d o, d ∉ [u, TI, TO, i1, i2] → s.heap.get? d = some o → m2.get? d = some o := fun d o hb q =>
      (sb.2 d (fun e => hb (by simp [e]))).trans (kp d o (fun e => hb (by simp [e])) (fun e => hb (by simp [e])) (fun e => hb (by simp [e])) (fun e => hb (by simp [e])) q)
    have I1 := I.turnedNew (t' := tk) (ch := [u, TI, TO, i1, i2]) stay hf (Nat.le_refl _) fresh
    obtain ⟨⟨s1, s2, s3, s4, s5, s6, s7, s8, s9, s10⟩, _, _⟩ := S
    refine ⟨.ref s.heap.objs.size, _, I1, rfl, ⟨_, xs[i], ys[i], rfl, I.hok.fresh (Nat.le_refl _), rfl, fun l hl => by rw [I.tuple_inj hl qx]; exact List.getElem?_eq_getElem lx, fun l hl => by rw [I.list_inj hl qy]; exact List.getElem?_eq_getElem ly⟩,
      ⟨zz2, (sb.2 _ (Ne.symm s1)).trans (kp _ _ (Ne.symm s1) s5 s6 s7 ti), ⟨_, _, (sb.2 _ (Ne.symm s2)).trans to'⟩, st1.1.at fun o q => (sb.2 _ (Ne.symm s3)).trans q, st2.1.at fun o q => (sb.2 _ (Ne.symm s4)).trans q⟩, fun d hdm => ?_⟩
    have lt : d < s.heap.objs.size := by
      have h2 := hdm
      simp only [List.mem_cons, List.not_mem_nil, or_false] at h2
      rcases h2 with e | e | e | e | e <;> (subst e; assumption)
    rw [upd_ne (Nat.ne_of_lt lt)]
    exact (hf d hdm).1
  done := by
    intro X hP hw hK hc i pins s σ H E I hf st hg
    subst hP hw hK
    obtain ⟨zz, ti, ⟨x0, y0, to⟩, h1, h2⟩ := st
    obtain ⟨xs, ys, ⟨qx, qy⟩, ⟨lx, ly⟩, en⟩ := hg
    obtain ⟨v1, r1, t1, _⟩ := I.tuple qx
    obtain ⟨v2, r2, t2, _⟩ := I.list qy
    have n1 := r1.length
    have n2 := r2.length
    have hd := I.ok.hd hc
    refine wpAny_pyNext_zipD2_end S.sep (drawsT (A := X.A.in1) hd i1 a S.a0.2.2.2.1 v1.toArray) (Draws.list (A := X.A.in1) hd i2 b S.b0.2.2.2.2 v2.toArray)
      zz ti to ⟨h1, t1⟩ ⟨h2, t2.isList⟩ (by simp; omega) (by simp; omega) (by simp; omega) fun m tk kp => ⟨rfl, ?_⟩
    exact I.turnedL (t' := tk) (ch := [u, TI, TO, i1, i2]) (fun d o hb q => kp d o (fun e => hb (by simp [e])) (fun e => hb (by simp [e])) (fun e => hb (by simp [e])) (fun e => hb (by simp [e])) q) hf
  self := fun A i s Q E st h => wpAny_pyIter_zip st.1 h
def iZTL (K : PySem.W.Frag) (ta : TA) : TI := fun σ H R => ta σ H fun vs H1 => ∃ a b xs ys, vs = [.ref a, .ref b] ∧ (SqT K H1 a xs ∧ SqL K H1 b ys) ∧ R (ItTL K a b) H1
theorem five_new (n a b : Nat) (ha : a < n) (hb : b < n) : Five (n + 4) (n + 2) (n + 3) n (n + 1) a b := by
  refine ⟨⟨?_, ?_, ?_, ?_, ?_, ?_, ?_, ?_, ?_, ?_⟩, ⟨?_, ?_, ?_, ?_, ?_⟩, ⟨?_, ?_, ?_, ?_, ?_⟩⟩ <;> (show _ ≠ _; intro e; have e2 : (_ : Nat) = _ := e; omega)
theorem i_zipTL {X : Cx} {K : PySem.W.Frag} {e1 e2 : Expr} {ta : TA} {p pos tpos : Pos} {elts : List Expr} {kk : Nat} (ek : X.K = K) (hg : Gl X "zip") (hm : X.mg "zip" = none) (ha : PA X [e1, e2] ta)
    (hs : starEach [e1, e2] X.env = (false, eval e1 X.env) :: starEach [e2] X.env := by rfl) (hp : (backTo pos (starEach [e2] X.env)).any (·.1) = false := by rfl) :
    PI X (.Tuple elts kk tpos) (.Call (.Name "zip" p) [e1, e2] [] pos) (iZTL K ta) := by
  subst ek
  refine ⟨fun pins s σ H R I h => ?_⟩
  refine Call_ (ld_blt I hg hm PyProof.Rows.boot_zip (PyProof.Rows.callWith_type1 (thn (ha.run pos pins s σ H _ I h) fun us s1 ⟨vs, H1, I1, r1, q1⟩ => ?_) hs hp))
  obtain ⟨a, b, xs, ys, rfl, ⟨qx, qy⟩, q⟩ := q1
  obtain ⟨ua, ub, rfl, ra, rb⟩ : ∃ ua ub, us = [ua, ub] ∧ RelV (.ref a) ua ∧ RelV (.ref b) ub := by
    cases r1 with
    | cons r rr =>
      cases rr with
      | cons r' rr =>
        cases rr
        exact ⟨_, _, rfl, r, r'⟩
  cases ra
  cases rb
  obtain ⟨v1, _, t1, _⟩ := I1.tuple qx
  obtain ⟨v2, _, t2, _⟩ := I1.list qy
  have la : a < s1.heap.objs.size := t1.lt
  have lb : b < s1.heap.objs.size := by
    obtain ⟨o, ho, _⟩ := t2.isList
    exact Heap.lt_size ho
  refine zip_begins2 (begins_tuple a v1.toArray) (begins_list b v2.toArray) t1 t2.isList fun m hz hTI hTO g1 g2 hsz hk => wpAny_pyIter_zip hz ?_
  refine ⟨s1.heap.objs.size + 4, [s1.heap.objs.size + 4, s1.heap.objs.size + 2, s1.heap.objs.size + 3, s1.heap.objs.size, s1.heap.objs.size + 1], _, _, H1, rfl, I1.kept (t' := s1.toks) hk,
    turn_zipTL (five_new s1.heap.objs.size a b la lb), ⟨hz, hTI, ⟨_, _, hTO⟩, ⟨_, g1, rfl, rfl⟩, ⟨_, g2, rfl, rfl⟩⟩, fun d hd => ?_, q⟩
  have le : s1.heap.objs.size ≤ d := by
    simp only [List.mem_cons, List.not_mem_nil, or_false] at hd
    rcases hd with e | e | e | e | e <;> subst e
    · exact Nat.le_add_right _ _
    · exact Nat.le_add_right _ _
    · exact Nat.le_add_right _ _
    · exact Nat.le_refl _
    · exact Nat.le_add_right _ _
  exact I1.fpOk le (I1.hok.fresh le)
section
variable {K : PySem.W.Frag} {σ : L2.St} {H : Hp} {Q : VK} {g : TG} {tt : TT} {te : TE} {vs : List Nat}
theorem r_lcTLi {ta : TA} (h : ta σ H fun ws H1 => ∃ a b xs ys, ws = [.ref a, .ref b] ∧ (SqT K H1 a xs ∧ SqL K H1 b ys) ∧ tLc (fun _ H2 R => R (ItTL K a b) H2) g tt te vs σ H1 Q) : tLc (iZTL K ta) g tt te vs σ H Q := h
theorem r_lcTL {a b : Addr} (xs ys : List V) (n : Nat) (nx : xs.length = n) (ny : ys.length = n) (Pv : Addr → Nat → Hp → Prop) (h0 : ∀ D, H D = none → Pv D 0 (upd H D (.lst [])))
    (hl : ∀ D i H', H D = none → i ≤ n → Pv D i H' → SqT K H' a xs ∧ SqL K H' b ys)
    (hs : ∀ D i x y H' T, H D = none → xs[i]? = some x → ys[i]? = some y → Pv D i H' → H' T = none → g (.ref T) (wipe σ vs) (upd H' T (.tup [x, y])) fun σ2 H2 => wipe σ2 vs = wipe σ vs ∧ tt σ2 H2 fun b H3 =>
      if b = true then te σ2 H3 fun y H4 => ∃ acc, H4 D = some (.lst acc) ∧ acc.length < sizeLine ∧ Pv D (i + 1) (upd H4 D (.lst (acc ++ [y]))) else Pv D (i + 1) H3)
    (hd : ∀ D H', H D = none → Pv D n H' → Q (.ref D) H') : tLc (fun _ H2 R => R (ItTL K a b) H2) g tt te vs σ H Q := by
  refine fun D hD => ⟨fun i m H => m = n - i ∧ i ≤ n ∧ Pv D i H, ⟨n, by omega, Nat.zero_le _, h0 D hD⟩, ?_⟩
  rintro i m H' ⟨rfl, hi, p⟩
  obtain ⟨qx, qy⟩ := hl D i H' hD hi p
  by_cases lt : i < n
  · refine Or.inr ⟨⟨xs, ys, ⟨qx, qy⟩, by omega, by omega⟩, Pv D (i + 1), fun H' p' => ⟨n - (i + 1), by omega, rfl, lt, p'⟩, fun v H'' yy => ?_⟩
    obtain ⟨T, x, y, rfl, nT, rfl, f1, f2⟩ := yy
    exact hs D i x y H' T hD (f1 xs qx) (f2 ys qy) p nT
  · have e : i = n := by omega
    subst e
    exact Or.inl ⟨⟨xs, ys, ⟨qx, qy⟩, ⟨by omega, by omega⟩, .inl (by omega)⟩, hd D H' hD p⟩
end
/-- an item of a list or a tuple -/
theorem x_seq {X : Cx} {K : PySem.W.Frag} (e : X.K = K) : IxR X (rIx K) := by subst e; exact ix_seq
/-- a walk of a list with its places -/
theorem r_forEnL {K : PySem.W.Frag} {g : TG} {tb : TS} {D : Ends} {σ : L2.St} {H : Hp} {a : Addr} (xs : List V) (Pv : Nat → L2.St → Hp → Prop) (h0 : Pv 0 σ H) (hl : ∀ i σ H, i ≤ xs.length → Pv i σ H → SqL K H a xs)
    (hs : ∀ i x σ H T, xs[i]? = some x → Pv i σ H → H T = none → g (.ref T) σ (upd H T (.tup [.int (i : Nat), x])) fun σ2 H2 => tb { D with nx := Pv (i + 1), ct := Pv (i + 1), bk := D.nx } σ2 H2)
    (hd : ∀ σ H, Pv xs.length σ H → D.nx σ H) : tFor (fun _ H2 R => R (Ite K a) H2) g tb D σ H := by
  refine ⟨fun i m σ H => m = xs.length - i ∧ i ≤ xs.length ∧ Pv i σ H, ⟨xs.length, by omega, Nat.zero_le _, h0⟩, ?_⟩
  rintro i m σ H ⟨rfl, hi, p⟩
  have q := hl i σ H hi p
  by_cases lt : i < xs.length
  · refine Or.inr ⟨⟨xs, xs[i], q, by simp [lt]⟩, Pv (i + 1), fun σ' H' p' => ⟨xs.length - (i + 1), by omega, rfl, lt, p'⟩, fun x H' y => ?_⟩
    obtain ⟨T, z, rfl, nT, rfl, fz⟩ := y
    exact hs i z σ H T (fz xs q) p nT
  · have e : i = xs.length := by omega
    subst e
    exact Or.inl ⟨⟨xs, q, Nat.le_refl _⟩, hd σ H p⟩
theorem r_forEi {K : PySem.W.Frag} {g : TG} {tb : TS} {D : Ends} {σ : L2.St} {H : Hp} {ta : TA} (h : ta σ H fun vs H1 => ∃ a xs, vs = [.ref a] ∧ SqL K H1 a xs ∧ tFor (fun _ H2 R => R (Ite K a) H2) g tb D σ H1) : tFor (iEnum K ta) g tb D σ H := h
/-- a list or a tuple -/
def SqS (K : PySem.W.Frag) (H : Hp) (a : Addr) (xs : List V) : Prop := SqT K H a xs ∨ SqL K H a xs
theorem r_ixS {K : PySem.W.Frag} {H : Hp} {Q : VK} {a : Addr} {xs : List V} {k : Int} {v : V} (h1 : SqS K H a xs) (h2 : atI xs k = some v) (h : Q v H) : rIx K (.ref a) (.int k) H Q := by
  rcases h1 with h1 | h1
  · exact .inr (.inl (r_ixT h1 h2 h))
  · exact .inl (r_ixL h1 h2 h)
theorem tru_seq {K : PySem.W.Frag} {H : Hp} {a : Addr} {xs : List V} {R : Bool → Prop} (hs : SqS K H a xs) (h : R (!xs.isEmpty)) : ∃ k, TruV K (.ref a) H k ∧ R k := by
  rcases hs with h1 | h1
  · exact tru_tup h1 h
  · exact tru_list h1 h
theorem r_lenS {K : PySem.W.Frag} {H : Hp} {Q : VK} {a : Addr} {xs : List V} (hs : SqS K H a xs) (h : Q (.int xs.length) H) : rLenQ K [.ref a] H Q := by
  rcases hs with h1 | h1
  · exact r_lenT h1 h
  · exact r_lenL h1 h
end Vf

namespace Vf
open PySem PySem.Spec PyProof.Rows L2
/-! ## t + u and slices of tuples, of any length -/
section
variable {X : Cx} {K : PySem.W.Frag}
theorem o_catA (e : X.K = K) : OpR X (binaryOp .Add) (rCatA K) := by subst e; exact op_catA
theorem s_tupA (e : X.K = K) : SlR X (rSlA K) := by subst e; exact sl_tupA
end
section
variable {K : PySem.W.Frag} {H : Hp} {Q : VK}
theorem r_catA {a b : Addr} {xs ys : List V} (h1 : SqT K H a xs) (h2 : SqT K H b ys) (hl : xs.length + ys.length ≤ 1000) (h : ∀ p H', Same H H' → SqT K H' p (xs ++ ys) → Q (.ref p) H') : rCatA K (.ref a) (.ref b) H Q := by
  refine ⟨a, b, xs, ys, rfl, rfl, h1, h2, small (Nat.le_trans hl (by decide)), fun e => ?_, fun _ e => ?_, fun _ _ p hp => ?_⟩
  · subst e
    exact h b H (Same.refl _) h2
  · subst e
    exact h a H (Same.refl _) (by rw [List.append_nil]; exact h1)
  · exact h p _ (Same.new hp) (SqT.of upd_same)
theorem r_slA {a : Addr} {xs : List V} {lo hi : Option Int} (h1 : SqT K H a xs) (h : ∀ p H', Same H H' → SqT K H' p (cutV xs lo hi) → Q (.ref p) H') : rSlA K (.ref a) lo hi H Q := by
  refine ⟨a, xs, rfl, h1, fun e => ?_, fun _ p hp => ?_⟩
  · have : cutV xs lo hi = xs := by
      unfold cutV
      rw [e.1, e.2, Nat.sub_zero, List.drop_zero, List.take_length]
    exact h a H (Same.refl _) (by rw [this]; exact h1)
  · exact h p _ (Same.new hp) (SqT.of upd_same)
theorem r_eqT {a b : Addr} (ns ms : List Int) (h1 : SqT K H a (ns.map V.int)) (h2 : SqT K H b (ms.map V.int)) (h : Q (.bl (decide (ns = ms))) H) : rEqD K (.ref a) (.ref b) H Q := by
  refine r_eqD (Dp.tupD h1) (Dp.tupD h2) (shapedTup ns) (shapedTup ms) ?_
  rw [show PyData.eqv (tupD ns) (tupD ms) = decide (ns = ms) from eqvInts ns ms]
  exact h
end
end Vf

namespace Vf
open PySem PySem.Spec PyProof.Rows L2
/-! ## how many unlike integers a list holds: by a set, by a dict's keys -/
theorem met_len (f : Nat → Int) : ∀ i, (firstMet f i).length ≤ i ∧ ((firstMet f i).length = i ↔ ∀ a < i, ∀ b < i, f a = f b → a = b)
  | 0 => ⟨Nat.le_refl _, ⟨fun _ a ha => absurd ha (by omega), fun _ => rfl⟩⟩
  | i + 1 => by
    obtain ⟨h1, h2⟩ := met_len f i
    rw [firstMet_succ, step_length]
    have hm : (firstMet f i).any (· == f i) = true ↔ ∃ a < i, f a = f i := by
      rw [firstMet_any]
      simp
    by_cases c : (firstMet f i).any (· == f i) = true
    · rw [if_pos c]
      refine ⟨by omega, fun e => absurd e (by omega), fun e => ?_⟩
      obtain ⟨a, ha, ea⟩ := hm.mp c
      have := e a (by omega) i (by omega) ea
      omega
    · rw [if_neg c]
      refine ⟨by omega, fun e a ha b hb eab => ?_, fun e => ?_⟩
      · have e1 := h2.mp (by omega)
        by_cases ca : a = i
        · by_cases cb : b = i
          · omega
          · rw [ca] at eab
            exact absurd (hm.mpr ⟨b, by omega, eab.symm⟩) c
        · by_cases cb : b = i
          · rw [cb] at eab
            exact absurd (hm.mpr ⟨a, by omega, eab⟩) c
          · exact e1 a (by omega) b (by omega) eab
      · have := h2.mpr fun a ha b hb => e a (by omega) b (by omega)
        omega
def rSetLi (K : PySem.W.Frag) : List V → Hp → VK → Prop := fun xs H Q => ∃ (l : Addr) (ns : List Int), xs = [.ref l] ∧ SqL K H l (ns.map V.int) ∧ ns.length ≤ 4000 ∧
  ∀ p S c, H p = none → c ≤ ns.length → (c = ns.length ↔ ∀ a < ns.length, ∀ b < ns.length, ns.getD a 0 = ns.getD b 0 → a = b) → Q (.ref p) (upd H p (.set S c))
def rLenSe : List V → Hp → VK → Prop := fun xs H Q => ∃ (a : Addr) (S : Int → Bool) (c : Nat), xs = [.ref a] ∧ H a = some (.set S c) ∧ c ≤ 5000 ∧ Q (.int (c : Int)) H
def rLenDk : List V → Hp → VK → Prop := fun xs H Q => ∃ a kvs, xs = [V.ref a] ∧ H a = some (.dK kvs) ∧ Q (.int kvs.length) H
section
variable {X : Cx} {K : PySem.W.Frag}
theorem cr_setLi (hc : X.calm = true) : CallR X (.type "set") (rSetLi X.K) := by
  intro pins s σ H xs us Q I r h
  obtain ⟨l, ns, rfl, hs, hl, q⟩ := h
  obtain ⟨u, rfl, ru⟩ := vals1 r
  cases ru
  obtain ⟨its, rv, pl, hz⟩ := I.list hs
  have hlen : its.toArray.size = ns.length := by rw [List.size_toArray, ← rv.length, List.length_map]
  refine call_set_list (I.ok.hd hc) pl.isList (ns := ns) (by simpa using RZ.intsAre_vals rv) (by rw [hlen]; unfold scanBound; omega) fun h' tk hS hk => ?_
  obtain ⟨m1, m2⟩ := met_len (fun i => ns.getD i 0) its.toArray.size
  refine ⟨.ref s.heap.objs.size, _, I.laid (t' := tk) (o := .set _ _) (fun b u e => hk b u (Heap.lt_size e) e) (Nat.le_refl _) hS, rfl, q _ _ _ (I.hok.fresh (Nat.le_refl _)) (by rw [← hlen]; exact m1) ?_⟩
  rw [← hlen]
  exact m2
theorem cr_lenSe : CallR X (.builtin "len") rLenSe := by
  intro pins s σ H xs us Q I r h
  obtain ⟨a, S, c, rfl, ha, hc, q⟩ := h
  obtain ⟨u, rfl, ru⟩ := vals1 r
  cases ru
  obtain ⟨o, es, ep, t, ho, hex, hd, _, _, _, hf, hn⟩ := I.hok a _ ha
  exact call_len_set ho hex hd hf (by rw [hn]; omega) ⟨.int c, H, I.tok _, ⟨_, by rw [hn]⟩, q⟩
theorem cr_lenDk : CallR X (.builtin "len") rLenDk := call_lenD
theorem c_setLi (e : X.K = K) (hc : X.calm = true) : CallR X (.type "set") (rSetLi K) := by subst e; exact cr_setLi hc
end
section
variable {K : PySem.W.Frag} {H : Hp} {Q : VK}
theorem r_setLi {l : Addr} (ns : List Int) (h1 : SqL K H l (ns.map V.int)) (h2 : ns.length ≤ 4000) (h : ∀ p S c, H p = none → c ≤ ns.length → (c = ns.length ↔ ∀ a < ns.length, ∀ b < ns.length, ns.getD a 0 = ns.getD b 0 → a = b) → Q (.ref p) (upd H p (.set S c))) : rSetLi K [.ref l] H Q := ⟨l, ns, rfl, h1, h2, h⟩
theorem r_lenSe {a : Addr} {S : Int → Bool} {c : Nat} (h : H a = some (.set S c)) (hc : c ≤ 5000) (q : Q (.int (c : Int)) H) : rLenSe [.ref a] H Q := ⟨a, S, c, rfl, h, hc, q⟩
theorem r_lenDk {a : Addr} {kvs : List (Key × V)} (h : H a = some (.dK kvs)) (q : Q (.int kvs.length) H) : rLenDk [.ref a] H Q := ⟨a, kvs, rfl, h, q⟩
end
/-! ## x = {k: v for ..} -/
section
variable {X : Cx}
theorem sw_dict {kx vx : Expr} {gs : List Comprehension} {scope : Scope} {pos py : Pos} {y : Str} {l : Nat} {env : Env} (h1 : env.scope.kind = .function) (h2 : env.scope.names.lookup y = some .local) (h3 : (py.line == pos.line) = true)
    (h4 : (scope.names.any fun (n, k) => n == y && (k == .local || k == .cell)) = false) : swapsWith (.DictComp kx vx gs scope pos) (some (.Name y py)) l env = pure true := by
  have a : env.kindOf y = some .local := h2
  have b : env.blockKind = .function := by
    unfold Env.blockKind
    rw [h1]
    rfl
  unfold swapsWith
  simp only [a, b, h4, Expr.pos, h3]
  rfl
theorem ps_setDc {i : Nat} {y : Str} {py : Pos} {kx vx tg iter : Expr} {ifs : List Expr} {scope : Scope} {own : List (Str × Nat)} {pos spos : Pos} {wi : TI} {g : TG} {tt : TT} {tk tv : TE} (calm : X.calm = true) (nd : X.N.Nodup) (at_i : X.N[i]? = some y) (loc : X.env.scope.names.lookup y = some .local)
    (sw : swapsWith (.DictComp kx vx [⟨tg, iter, ifs, 0⟩] scope pos) (some (.Name y py)) spos.line X.env = pure true) (it : PI X tg iter wi) (blk : BlkOk X.N X.env.scope scope own)
    (pg : ∀ (s : Shared) (H : Hp) (C : Addr) (cl : List (Str × Addr)) (fp : List Addr), PG (X.blk s H scope (compEnvC scope cl C X.env) fp) tg g) (pt : ∀ (s : Shared) (H : Hp) (C : Addr) (cl : List (Str × Addr)) (fp : List Addr), PTs (X.blk s H scope (compEnvC scope cl C X.env) fp) ifs tt)
    (pk : ∀ (s : Shared) (H : Hp) (C : Addr) (cl : List (Str × Addr)) (fp : List Addr), PE (X.blk s H scope (compEnvC scope cl C X.env) fp) kx tk) (pv' : ∀ (s : Shared) (H : Hp) (C : Addr) (cl : List (Str × Addr)) (fp : List Addr), PE (X.blk s H scope (compEnvC scope cl C X.env) fp) vx tv)
    (fold : ∀ x, foldedSetIterable iter X.env x = pure x := by intro _; rfl) :
    PS X (.Assign [.Name y py] (.DictComp kx vx [⟨tg, iter, ifs, 0⟩] scope pos) spos) (tAsg (tDc wi g tt tk tv (own.map (·.2))) (gName i)) := by
  refine ⟨fun pins s σ H D I h => ?_⟩
  rw [exec_Assign_Name_used _ _ _ _ sw]
  refine wpAny_bind (wpAny_standAt (wpAny_bind ?_))
  show wpAny _ X.A (do let _ ← comprehension (.DictComp kx vx [⟨tg, iter, ifs, 0⟩] scope pos) scope X.env (firstIterPos [⟨tg, iter, ifs, 0⟩] pos) newDict false (eval iter X.env) (some (assign (.Name y py) X.env))) _ _ s
  have dc := dc_core (pos := pos) (Qf := fun _ s' => SP X pins D .next s') (Q := fun x H1 => gName i x σ H1 D.nx) (use := some (assign (.Name y py) X.env)) (pos' := firstIterPos [⟨tg, iter, ifs, 0⟩] pos) calm nd I it blk pg pt pk pv' fold h
  refine wpAny_bind (thn (dc fun L C s' m H' J q hn fp => ?_) fun _ s' hq => wpAny_pure (wpAny_pure hq))
  show wpAny _ _ (assign (.Name y py) X.env (.ref L)) _ _ _
  refine wpAny_assign_Name (store_ok2 (v := V.ref L) J nd at_i (.inl loc) rfl (fun s2 J2 hst => ?_) (.inr loc))
  obtain ⟨a, sb, ha⟩ := hst
  obtain ⟨g0, g1, g2, g3, g4, g5⟩ := fp
  have ne : C ≠ a := ha.elim (fun z => z ▸ g1) (fun z e => g4 y a z e.symm)
  exact ⟨m, hn.sameBut sb ne, fun h3 sb3 => ⟨_, H', J2.turned (t' := s2.toks) (fun b o hb e => (sb3.2 b hb).trans e) g0 g1 g3 g4 g5, q⟩⟩
end
end Vf

namespace Vf
open PySem PySem.Spec PyProof.Rows L2
/-! ## an own exception class over any built-in one, its fields stored by its __init__ -/
structure EC (K : PySem.W.Frag) (C : Addr) (tail : List Value) (nid : String) : Prop where
  cl : ∃ nm q N bs bm sn sub ab col dd k0 k1 k2 k3 k5,
    K.lookup C = some (excClassObj nm q C N bs bm true sn sub ab col dd k0 k1 k2 k3 k5 nid) ∧ PySem.W.excTail tail bm = true
  st : PySem.W.findIn K (.ref C) "__setattr__" = some (some (.builtin "object.__setattr__"))
  xf : XfC K C
  tt : PySem.W.typeIn K (.ref C) = some (.type "type")
  kk : PySem.W.keepIn K (.ref C) = true
theorem EC.over {K : PySem.W.Frag} {C : Addr} {tail : List Value} {nid : String} (T : EC K C tail nid) : PySem.W.excOver K C tail = true := by
  obtain ⟨nm, q, N, bs, bm, sn, sub, ab, col, dd, k0, k1, k2, k3, k5, hC, hb⟩ := T.cl
  unfold PySem.W.excOver PySem.W.clsIn
  rw [hC]
  show ((C == C) && PySem.W.excTail tail bm) = true
  rw [hb, beq_self_eq_true, Bool.and_self]
theorem taker_none {K : PySem.W.Frag} {C : Addr} {f : Str} (h : PySem.W.findIn K (.ref C) f = some none) : PySem.W.takerIn K C f = some none := by
  unfold PySem.W.takerIn
  rw [h] <;> rfl
/-- what of the built-in base the stores want -/
abbrev SFa (B : String) (tail : List Value) := StoreFacts B tail "object.__setattr__" "object"
section
variable {X : Cx} {pins : List (Addr × Obj)} {σ : L2.St} {H : Hp} {s : Shared} {a C dx : Addr} {f : Str} {y : V} {u : Value} {fs : List (Str × V)}
variable {Q : Unit → Shared → Prop} {E : Value → Shared → Prop} {A : Around} {B nid iid : String} {tail : List Value}
/-- self.f = y on an exception without a dict -/
theorem est_new (T : EC X.K C tail nid) (SF : SFa B tail) (I : Inv X pins σ H s) (e : H a = some (exo a C none)) (hno : PySem.W.findIn X.K (.ref C) f = some none) (ry : RelV y u)
    (h : ∀ dx s', H dx = none → dx ≠ a → Inv X pins σ (upd (upd H dx (exd dx [(f, y)])) a (exo a C (some dx))) s' → Q () s') :
    wpAny (model X.prog X.w) A (setAttr (.ref a) f u) Q E s := by
  obtain ⟨t1, ho⟩ := exo_at I.hok e
  obtain ⟨hp, g, d, t, os⟩ := s
  have hx : hp.get? a = some (PySem.W.excObj C t1 none .none) := ho
  refine PySem.W.set_plain (od := none) I.kIn ⟨hx, rfl, rfl, trivial⟩ T.st ?_
  refine PySem.W.osa_openX (od := none) (r := none) SF I.kIn ⟨hx, rfl, rfl, trivial⟩ T.over (taker_none hno) fun b => ?_
  obtain ⟨cd, hc, hd'⟩ := PySem.W.any_some T.xf.hdC
  have ltA : a < hp.objs.size := Heap.lt_size hx
  refine wpAny_bind (wpAny_pure (wpAny_bind (PySem.W.instanceDict_exc hx (PySem.W.looks_clsIn I.kIn hc) hd' ?_)))
  show wpAny _ _ (Builtin.ObjectAttr.storeInDict hp.objs.size (.str f _) f u) _ _ _
  have nax : a ≠ hp.objs.size := Nat.ne_of_lt ltA
  have xN : ((hp.push (PySem.W.dictOf [] 0)).update a fun o => { o with dict := some hp.objs.size }).get? a = some (PySem.W.excObj C t1 (some hp.objs.size) .none) :=
    Heap.get?_update_self _ (Heap.get?_push_of_some _ hx) rfl
  refine PySem.HandSPX.store_in_new ⟨PySem.W.dictOf [] 0, #[], _, (Heap.get?_update_ne _ _ _ _ nax.symm).trans (Heap.get?_push_at rfl rfl), rfl, fun e he => absurd he (by simp), fun _ => rfl⟩ fun h' tk' hn sb => ?_
  have k : ∀ b o, b ≠ a → hp.get? b = some o → h'.get? b = some o := fun b o hb ob =>
    (sb.2 b (Nat.ne_of_lt (Heap.lt_size ob))).trans ((Heap.get?_update_ne _ _ _ _ hb).trans (Heap.get?_push_of_some _ ob))
  have xE : h'.get? a = some (PySem.W.excObj C t1 (some hp.objs.size) .none) := (sb.2 a nax).trans xN
  have hnd : H hp.objs.size = none := I.hok.fresh (Nat.le_refl _)
  have nD : ∀ {b : Addr} {o : Obj}, hp.get? b = some o → b ≠ hp.objs.size := fun {b o} q => Nat.ne_of_lt (Heap.lt_size q)
  have nA : ∀ {b : Addr}, H b = none → b ≠ a := fun {b} n z => by
    rw [z, e] at n
    cases n
  have oT : ∀ {b : Addr} {o : HO}, H b = some o → exo a C none ≠ o → upd (upd H hp.objs.size (exd hp.objs.size [(f, y)])) a (exo a C (some hp.objs.size)) b = some o := fun {b o} q ne => by
    rw [upd_ne (L2.at_ne e q ne), upd_ne (ne_of_none q hnd)]
    exact q
  have U : Un X.fs [] H (upd (upd H hp.objs.size (exd hp.objs.size [(f, y)])) a (exo a C (some hp.objs.size))) hp h' := by
    refine ⟨fun b o q n _ _ => k b o (nA n) q, fun b o q n _ _ => ⟨o.slots, k b o (nA n) q⟩, fun b o q n _ => ?_, fun b o q _ => ?_, fun b xs q => oT q exo_tup, fun b o v q => oT q exo_frz, fun b ps q => ⟨#[], ?_⟩⟩
    · rw [upd_ne (nA n), upd_ne (nD q)]
      exact n
    · by_cases hb : b = a
      · rw [hb]
        exact ⟨_, xE⟩
      · exact ⟨o, k b o hb q⟩
    · rw [oT q exo_tbl, Array.append_empty]
  refine h hp.objs.size _ hnd nax.symm (I.un (t' := tk') U fun b o q => ?_)
  by_cases hb : b = a
  · rw [hb, upd_same] at q
    cases q
    rw [hb]
    exact exo_ok xE
  · rw [upd_ne hb] at q
    by_cases hd : b = hp.objs.size
    · rw [hd, upd_same] at q
      cases q
      rw [hd]
      exact exd_ok hn (relO_put (fs := []) ry fun g => True.intro)
    · rw [upd_ne hd] at q
      refine (I.hok b o q).stay (fun c v hc z => k c v ?_ z) (fun c hc => oT hc exo_own) fun c xs hc => oT hc exo_tup
      rcases hc with hc | hc
      · rw [hc]
        exact hb
      · exact L2.at_ne e hc exo_own
/-- a further one -/
theorem est_old (T : EC X.K C tail nid) (SF : SFa B tail) (I : Inv X pins σ H s) (e : H a = some (exo a C (some dx))) (ed : H dx = some (exd dx fs)) (hl : fs.length ≤ 900)
    (hno : PySem.W.findIn X.K (.ref C) f = some none) (ry : RelV y u) (h : ∀ s', Inv X pins σ (upd H dx (exd dx ((f, y) :: fs))) s' → Q () s') :
    wpAny (model X.prog X.w) A (setAttr (.ref a) f u) Q E s := by
  obtain ⟨t1, ho⟩ := exo_at I.hok e
  obtain ⟨mA, hns, rel⟩ := exd_at I.hok ed
  have hw := within_of rel
  obtain ⟨hp, g, d, t, os⟩ := s
  obtain ⟨oD, _, _, hoD, _, _⟩ := hns.count hw
  have hx : hp.get? a = some (PySem.W.excObj C t1 (some dx) .none) := ho
  refine PySem.W.set_plain (od := some oD) I.kIn ⟨hx, rfl, rfl, hoD⟩ T.st ?_
  refine PySem.W.osa_openX (od := some oD) (r := none) SF I.kIn ⟨hx, rfl, rfl, hoD⟩ T.over (taker_none hno) fun b => ?_
  obtain ⟨cd, hc, hd'⟩ := PySem.W.any_some T.xf.hdC
  refine wpAny_bind (wpAny_pure (wpAny_bind (wpAny_bind (wpAny_loadPart hx (wpAny_bind ((PySem.W.looks_clsIn I.kIn hc).at ?_))))))
  rw [hd']
  refine wpAny_pure (a := some dx) ?_
  refine PySem.OEX.store_in_old hns hw (by rw [List.length_map]; omega) fun h' tk' hn sb => ?_
  have there : ∃ o, h'.get? dx = some o := by
    obtain ⟨o, _, _, e', _⟩ := hn
    exact ⟨o, e'⟩
  exact h _ (I.write (t' := tk') (x := dx) (e := dx) (o := exd dx ((f, y) :: fs)) (by rw [ed]; exact True.intro) (.inl rfl) (fun b o hb ob => (sb.2 b hb).trans ob) there (exd_ok hn (relO_put ry rel)))
end
/-- what the making of an exception at C asks of its arguments -/
def MkB (C : Addr) (sp : Sp) (vs : List V) (H1 : Hp) (Q : XK) : Prop := vs.length ≤ 1000 ∧ ∀ a, H1 a = none → sp (.ref a :: vs) (upd H1 a (exo a C none))
  (fun v H2 => v = .non ∧ ∃ (d : Addr) (fs : List (Str × V)), H2 a = some (exo a C (some d)) ∧ H2 d = some (exd d fs) ∧ H1 d = none ∧ Q (.ref C) (some d) (upd (del H2 a) d (.xd fs)))
  (fun _ _ _ => False)
/-- self.f = e, in the __init__ of the class at C -/
def tEst (C : Addr) (f : Str) (to te : TE) : TS := fun D σ H => te σ H fun y H1 => to σ H1 fun x H2 => ∃ a : Addr, x = .ref a ∧
  ((H2 a = some (exo a C none) ∧ ∀ dx, H2 dx = none → dx ≠ a → D.nx σ (upd (upd H2 dx (exd dx [(f, y)])) a (exo a C (some dx)))) ∨
    ∃ (dx : Addr) (fs : List (Str × V)), H2 a = some (exo a C (some dx)) ∧ H2 dx = some (exd dx fs) ∧ fs.length ≤ 900 ∧ D.nx σ (upd H2 dx (exd dx ((f, y) :: fs))))
section
variable {X : Cx} {o e : Expr} {es : List Expr} {to te : TE} {ta : TA} {f : Str} {p p' p1 p2 pos : Pos} {C : Addr} {B nid iid : String} {tail : List Value}
theorem ps_est (T : EC X.K C tail nid) (SF : SFa B tail) (hno : PySem.W.findIn X.K (.ref C) f = some none) (ho : PE X o to) (he : PE X e te)
    (hs : swapsWith e (some (.Attribute o f p')) pos.line X.env = pure false := by rfl) : PS X (.Assign [.Attribute o f p'] e pos) (tEst C f to te) := by
  refine ⟨fun pins s σ H D I h => ?_⟩
  refine plainObj_wpAny_Assign_Attribute (thn (he.run pins s σ H _ I h) fun v s1 ⟨y, H1, I1, r1, q1⟩ => ?_) hs
  refine thn (ho.run pins s1 σ H1 _ I1 q1) fun u s2 ⟨x, H2, I2, r2, a, ex, q⟩ => ?_
  subst ex
  obtain rfl : u = Value.ref a := r2
  rcases q with ⟨ea, q⟩ | ⟨dx, fs, ea, ed, hl, q⟩
  · exact est_new T SF I2 ea hno r1 fun dx s' n ne J => ⟨σ, _, J, q dx n ne⟩
  · exact est_old T SF I2 ea ed hl hno r1 fun s' J => ⟨σ, _, J, q⟩
/-- C(e, ..): an exception is made, its __init__ being known -/
theorem pmk_ec {CX : CXT} {x : Str} {fI : Addr} {k : Nat} {fd : FuncData} {ps : List Str} {sp : Sp} (T : EC X.K C tail nid) (EB : ExcBaseFacts B nid iid tail)
    (iC : PySem.W.findIn X.K (.ref C) "__init__" = some (some (.ref fI))) (tI : PySem.W.typeIn X.K (.ref fI) = some (.type "function"))
    (F1 : FnOk X.prog X.w X.K X.mg X.base CX k fI fd ps sp) (hr : Room (k + 1) X.A) (hb : Binds X.K fd ps []) (hx : Passes CX X (fun _ _ _ => False)) (hg : Gl X x) (hm : X.mg x = some (.ref C)) (ha : PA X (e :: es) ta)
    (hdb : (x == ("__debug__" : Str)) = false := by decide) (he : starEach (e :: es) X.env = (false, eval e X.env) :: starEach es X.env := by rfl)
    (hpl : (backTo pos (starEach es X.env)).any (·.1) = false := by rfl) {R : List V → Hp → XK → Prop} (hR : ∀ vs H1 Q, R vs H1 Q → MkB C sp vs H1 Q) :
    PMk X (.Call (.Name x p) (e :: es) [] pos) (fun σ H Q => ta σ H fun vs H1 => R vs H1 Q) := by
  intro pins s σ H Q I h
  obtain ⟨nm, q, N, bs, bm, sn, sub, ab, col, dd, k0, k1, k2, k3, k5, hC, hbm⟩ := T.cl
  refine wpAny_Call_Name_kw (ld_glob I hg hm ?_ hdb)
  refine PySem.W.callWith_K (h₀ := X.base) I.ok.mod.kin T.kk (thn (ha.run pos pins s σ H _ I h) fun us s1 ⟨vs, H1, I1, r1, qR⟩ => ⟨I1.kIn, ?_⟩) he hpl
  obtain ⟨hz, q1⟩ := hR _ _ _ qR
  show wpAny _ _ (call (.ref C) us) _ _ _
  obtain ⟨hp, g, dr, tk, os⟩ := s1
  have hsz : hp.objs.size ≤ hp.objs.size + 1 := Nat.le_succ _
  have hq := q1 _ (I1.hok.fresh hsz)
  have up : ∀ b o, hp.get? b = some o → ((hp.push (PySem.W.kdv_tup us)).push (PySem.HandSPX.excO C hp.objs.size)).get? b = some o :=
    fun b o e => Heap.get?_push_of_some _ (Heap.get?_push_of_some _ e)
  have hget : ((hp.push (PySem.W.kdv_tup us)).push (PySem.HandSPX.excO C hp.objs.size)).get? (hp.objs.size + 1) = some (PySem.HandSPX.excO C hp.objs.size) := by heap_get
  have I2 := I1.laid (t' := tk) (a := hp.objs.size + 1) (o := exo (hp.objs.size + 1) C none) (h' := (hp.push (PySem.W.kdv_tup us)).push (PySem.HandSPX.excO C hp.objs.size)) up hsz (exo_ok hget)
  have r2 : Vals (V.ref (hp.objs.size + 1) :: vs) (Value.ref (hp.objs.size + 1) :: us) := .cons rfl r1
  have hl : (Value.ref (hp.objs.size + 1) :: us).length = ps.length := r2.length.symm.trans (F1.len _ _ _ _ hq)
  have hb' := hb _ (Value.ref (hp.objs.size + 1) :: us) I2.kIn (by rw [List.append_nil]; exact hl)
  rw [List.append_nil] at hb'
  have hus : us.length ≤ sizeLine := by
    rw [← Paired.length r1, sizeLine_eq]
    omega
  refine wpAny_call (PySem.HandSPX.call_own EB (fun Y => PySem.W.excTail_contains Y bm hbm) (I1.kIn _ _ hC) (PySem.W.looks_findIn I1.kIn iC) (fun self => PySem.W.bind_fn I1.kIn self tI) hus ?_)
  refine codeAny_mono (F1.run _ X.stack _ _ _ _ _ _ (fun _ _ _ => False) (hr.make C us []) (I2.env0.make C us []) hb' r2 hq) fun r s' z => ?_
  cases r with
  | error er => exact hx pins σ _ _ er s' I2 z
  | ok fl =>
    cases fl with
    | next => exact False.elim z
    | brk => exact False.elim z
    | cont => exact False.elim z
    | ret u =>
      obtain ⟨v, H2, os2, bare2, un2, hok2, rv, ev, d, fs, ea, ed, hd1, q2⟩ := z
      subst ev
      obtain ⟨h2, g2, d2, t2, os'⟩ := s'
      exact ⟨rv, mk_end (raises_own T.xf.exC T.tt) I1 hsz up un2 hok2 os2 bare2 ea ed hd1 q2⟩
end
/-- where the class stands that the module calls so -/
def cA (mg : Str → Option Value) (x : Str) : Addr := match mg x with
  | some (.ref a) => a
  | _ => 0
theorem cA_eq {mg : Str → Option Value} {x : Str} {a : Addr} (h : mg x = some (.ref a)) : cA mg x = a := by
  unfold cA
  rw [h]
/-! ## __init__ with one field, with two -/
def spI1 (C : Addr) (f : Str) : Sp := fun vs H Q _ => ∃ (a : Addr) (v : V), vs = [.ref a, v] ∧ H a = some (exo a C none) ∧
  ∀ dx, H dx = none → dx ≠ a → Q .non (upd (upd H dx (exd dx [(f, v)])) a (exo a C (some dx)))
def spI2 (C : Addr) (f g : Str) : Sp := fun vs H Q _ => ∃ (a : Addr) (v w : V), vs = [.ref a, v, w] ∧ H a = some (exo a C none) ∧
  ∀ dx, H dx = none → dx ≠ a → Q .non (upd (upd (upd H dx (exd dx [(f, v)])) a (exo a C (some dx))) dx (exd dx [(g, w), (f, v)]))
/-- C(e) of one field; C(e, e') of two: the exception's dict stands at a new place -/
def tMk1 (C : Addr) (f : Str) (ta : TA) : L2.St → Hp → XK → Prop := fun σ H Q => ta σ H fun vs H1 => ∃ v, vs = [v] ∧ ∀ d, H1 d = none → Q (.ref C) (some d) (upd H1 d (.xd [(f, v)]))
def tMk2 (C : Addr) (f g : Str) (ta : TA) : L2.St → Hp → XK → Prop := fun σ H Q => ta σ H fun vs H1 => ∃ v w, vs = [v, w] ∧ ∀ d, H1 d = none → Q (.ref C) (some d) (upd H1 d (.xd [(g, w), (f, v)]))
theorem mk1_of {C : Addr} {f : Str} (vs : List V) (H1 : Hp) (Q : XK) : (∃ v, vs = [v] ∧ ∀ d, H1 d = none → Q (.ref C) (some d) (upd H1 d (.xd [(f, v)]))) → MkB C (spI1 C f) vs H1 Q := by
  rintro ⟨v, rfl, q⟩
  refine ⟨Nat.le_of_ble_eq_true rfl, fun a ha => ⟨a, v, rfl, upd_same, fun dx hd ne => ⟨rfl, dx, [(f, v)], upd_same, ?_, ?_, ?_⟩⟩⟩
  · rw [upd_ne ne, upd_same]
  · rw [upd_ne ne] at hd
    exact hd
  · have z := q dx (by rw [upd_ne ne] at hd; exact hd)
    have e : upd (del (upd (upd (upd H1 a (exo a C none)) dx (exd dx [(f, v)])) a (exo a C (some dx))) a) dx (.xd [(f, v)]) = upd H1 dx (.xd [(f, v)]) := by
      funext b
      by_cases h1 : b = dx
      · rw [h1, upd_same, upd_same]
      · rw [upd_ne h1, upd_ne h1]
        by_cases h2 : b = a
        · rw [h2, del_same, ha]
        · rw [del_ne h2, upd_ne h2, upd_ne h1, upd_ne h2]
    rw [e]
    exact z
theorem mk2_of {C : Addr} {f g : Str} (vs : List V) (H1 : Hp) (Q : XK) : (∃ v w, vs = [v, w] ∧ ∀ d, H1 d = none → Q (.ref C) (some d) (upd H1 d (.xd [(g, w), (f, v)]))) → MkB C (spI2 C f g) vs H1 Q := by
  rintro ⟨v, w, rfl, q⟩
  refine ⟨Nat.le_of_ble_eq_true rfl, fun a ha => ⟨a, v, w, rfl, upd_same, fun dx hd ne => ⟨rfl, dx, [(g, w), (f, v)], ?_, upd_same, ?_, ?_⟩⟩⟩
  · rw [upd_ne ne.symm, upd_same]
  · rw [upd_ne ne] at hd
    exact hd
  · have z := q dx (by rw [upd_ne ne] at hd; exact hd)
    have e : upd (del (upd (upd (upd (upd H1 a (exo a C none)) dx (exd dx [(f, v)])) a (exo a C (some dx))) dx (exd dx [(g, w), (f, v)])) a) dx (.xd [(g, w), (f, v)]) = upd H1 dx (.xd [(g, w), (f, v)]) := by
      funext b
      by_cases h1 : b = dx
      · rw [h1, upd_same, upd_same]
      · rw [upd_ne h1, upd_ne h1]
        by_cases h2 : b = a
        · rw [h2, del_same, ha]
        · rw [del_ne h2, upd_ne h1, upd_ne h2, upd_ne h1, upd_ne h2]
    rw [e]
    exact z
/-! ## calls of defs that may raise, by the caller's slots -/
def tCallW (sp : Sp) (W : WX) (t : TA) : TE := fun σ H Q => t σ H fun vs H1 => sp vs H1 Q fun cls d H' => W cls d σ H'
def tCallKW (sp : Sp) (gV : List V → List V → List V) (W : WX) (t tk : TA) : TE := fun σ H Q => t σ H fun vs H1 => tk σ H1 fun zs H2 => sp (gV vs zs) H2 Q fun cls d H' => W cls d σ H'
section
variable {X : Cx} {k : Nat} {ps ks : List Str} {sp : Sp} {W : WX} {x : Str} {st : Stmt} {p pos : Pos} {e : Expr} {es : List Expr} {kws : List Keyword} {t tq : TA}
theorem run_gS {pins : List (Addr × Obj)} {σ : L2.St} {H : Hp} {s : Shared} {Q : VK} {us : List Value} {vs : List V} {f : Addr} {fd : FuncData} {args : Args}
    (r : ∀ (A : Around) (outer : List Env) (s : Shared) (H : Hp) (args : Args) (us : List Value) (vs : List V) (Q : VK) (E : XK),
      A.guards = some [] → Room k A → Env0 X.prog X.w X.K X.mg X.base A outer s H → BindsTo s fd args (ps.zip us) → Vals vs us → sp vs H Q E →
        codeAny (model X.prog X.w) A (.call (.ref f) args) (CR (CX X.prog X.w) outer X.prog X.w H s Q E) s)
    (hg : X.A.guards = some []) (hr : Room k X.A) (tk : Takes X W) (I : Inv X pins σ H s) (hb : BindsTo s fd args (ps.zip us)) (hv : Vals vs us)
    (h : sp vs H Q fun cls d H' => W cls d σ H') :
    codeAny (model X.prog X.w) X.A (.call (.ref f) args)
      (fun r s' => match r with | .error e => X.xe e s' | .ok (.ret u) => EP X pins σ Q u s' | .ok _ => False) s := by
  refine codeAny_mono (r X.A X.stack s H args us vs Q _ hg hr I.env0 hb hv h) fun r s' hq => ?_
  cases r with
  | error e => exact tk _ _ (XE.of_call I (fun _ _ _ z => z) hq)
  | ok fl =>
    cases fl with
    | ret u => exact I.after hq
    | next => exact hq
    | brk => exact hq
    | cont => exact hq
theorem pe_gS (G : Ok X.prog X.w X.K X.mg X.base k x st ps sp) (b : ∀ f fd, L2.Fun X.K x x st f fd → L2.Binds X.K fd ps [])
    (hg : X.A.guards = some []) (hr : Room k X.A) (tk : Takes X W) (gl : Gl X x) (ha : PA X (e :: es) t)
    (hdb : (x == ("__debug__" : Str)) = false := by decide)
    (he : starEach (e :: es) X.env = (false, eval e X.env) :: starEach es X.env := by rfl)
    (hpl : (backTo pos (starEach es X.env)).any (·.1) = false := by rfl) :
    PE X (.Call (.Name x p) (e :: es) [] pos) (tCallW sp W t) := by
  obtain ⟨⟨f, fd, F, hm, r⟩, l⟩ := G
  refine ⟨fun pins s σ H Q I h => wpAny_Call_Name_kw (ld_glob I gl hm ?_ hdb)⟩
  refine PySem.W.callWith_K (h₀ := X.base) I.ok.mod.kin F.kp (thn (ha.run pos pins s σ H _ I h) fun us s1 ⟨vs, H1, I1, r1, q1⟩ => ⟨I1.kIn, ?_⟩) he hpl
  have hl : us.length = ps.length := r1.length.symm.trans (l _ _ _ _ q1)
  have bb := b f fd F s1 us I1.kIn (by rw [List.append_nil]; exact hl)
  rw [List.append_nil] at bb
  refine wpAny_call (codeAny_mono (run_gS r hg hr tk I1 bb r1 q1) fun z s' hz => ?_)
  rcases z with e | fl
  · exact hz
  · cases fl <;> exact hz
theorem pe_gkS0 {gf : List Value → List Value → List Value} {gV : List V → List V → List V} (G : Ok X.prog X.w X.K X.mg X.base k x st ps sp)
    (b : ∀ f fd, L2.Fun X.K x x st f fd → KBinds X.K fd ps ks gf gV)
    (hg : X.A.guards = some []) (hr : Room k X.A) (tk : Takes X W) (gl : Gl X x) (hkw : PK X kws tq)
    (hall : (backToKw pos (keywordEach kws X.env)).all (·.1.isSome) = true := by rfl)
    (hks : (backToKw pos (keywordEach kws X.env)).filterMap (·.1) = ks := by rfl) (hdb : (x == ("__debug__" : Str)) = false := by decide)
    (hpl : ((backTo pos (starEach [] X.env)).any (·.1) || (backToKw pos (keywordEach kws X.env)).any (·.1.isNone)) = false := by rfl) :
    PE X (.Call (.Name x p) [] kws pos) (tCallKW sp gV W tNil tq) := by
  obtain ⟨⟨f, fd, F, hm, r⟩, l⟩ := G
  refine ⟨fun pins s σ H Q I h => wpAny_Call_Name_kw (ld_glob I gl hm ?_ hdb)⟩
  refine PySem.W.callWith_KW0 (h₀ := X.base) I.ok.mod.kin F.kp hall (thn (hkw.run pos pins s σ H _ I h) fun ws s2 ⟨zs, H2, I2, rz, q2⟩ => ⟨I2.kIn, ?_⟩) hpl
  rw [hks]
  have B := b f fd F
  have r2 := B.rel .nil rz
  refine wpAny_call (codeAny_mono (run_gS r hg hr tk I2 (B.to s2 [] ws I2.kIn (r2.length.symm.trans (l _ _ _ _ q2))) r2 q2) fun z s' hz => ?_)
  rcases z with e | fl
  · exact hz
  · cases fl <;> exact hz
theorem pe_gkS {gf : List Value → List Value → List Value} {gV : List V → List V → List V} (G : Ok X.prog X.w X.K X.mg X.base k x st ps sp)
    (b : ∀ f fd, L2.Fun X.K x x st f fd → KBinds X.K fd ps ks gf gV)
    (hg : X.A.guards = some []) (hr : Room k X.A) (tk : Takes X W) (gl : Gl X x) (ha : PA X (e :: es) t) (hkw : PK X kws tq)
    (hall : (backToKw pos (keywordEach kws X.env)).all (·.1.isSome) = true := by rfl)
    (hks : (backToKw pos (keywordEach kws X.env)).filterMap (·.1) = ks := by rfl) (hdb : (x == ("__debug__" : Str)) = false := by decide)
    (he : starEach (e :: es) X.env = (false, eval e X.env) :: starEach es X.env := by rfl)
    (hpl : ((backTo pos (starEach (e :: es) X.env)).any (·.1) || (backToKw pos (keywordEach kws X.env)).any (·.1.isNone)) = false := by rfl) :
    PE X (.Call (.Name x p) (e :: es) kws pos) (tCallKW sp gV W t tq) := by
  obtain ⟨⟨f, fd, F, hm, r⟩, l⟩ := G
  refine ⟨fun pins s σ H Q I h => wpAny_Call_Name_kw (ld_glob I gl hm ?_ hdb)⟩
  refine PySem.W.callWith_KW (h₀ := X.base) I.ok.mod.kin F.kp hall (thn (ha.run pos pins s σ H _ I h) fun us s1 ⟨vs, H1, I1, r1, q⟩ => ?_) hpl he
  refine thn (hkw.run pos pins s1 σ H1 _ I1 q) fun ws s2 ⟨zs, H2, I2, rz, q2⟩ => ⟨I2.kIn, ?_⟩
  rw [hks]
  have B := b f fd F
  have r2 := B.rel r1 rz
  refine wpAny_call (codeAny_mono (run_gS r hg hr tk I2 (B.to s2 us ws I2.kIn (r2.length.symm.trans (l _ _ _ _ q2))) r2 q2) fun z s' hz => ?_)
  rcases z with e | fl
  · exact hz
  · cases fl <;> exact hz
end
section
variable {sp : Sp} {W : WX} {t tq : TA} {gV : List V → List V → List V} {σ : L2.St} {H : Hp} {Q : VK} {a C : Addr} {cls : Value} {d : Option Addr} {f : Str} {te : TE}
theorem r_callW (h : t σ H fun vs H1 => sp vs H1 Q fun cls d H' => W cls d σ H') : tCallW sp W t σ H Q := h
theorem r_callKW (h : t σ H fun vs H1 => tq σ H1 fun zs H2 => sp (gV vs zs) H2 Q fun cls d H' => W cls d σ H') : tCallKW sp gV W t tq σ H Q := h
theorem r_xf (h : te σ H fun x H1 => x = .ref a ∧ cls = .ref C ∧ ∃ (dd : Addr) (fs : List (Str × V)) (v : V), d = some dd ∧ H1 dd = some (.xd fs) ∧ fs.lookup f = some v ∧ Q v H1) :
    tXf a cls d C f te σ H Q := h
/-- the clause 'except x as n' takes it; it goes by -/
theorem w_as {K : PySem.W.Frag} {c : Value} {i : Nat} {ts : Addr → Value → Option Addr → TS} {Wout : WX} {D : Ends} (h1 : PySem.W.exmOne K cls c = some true)
    (h : ∀ a, H a = none → ts a cls d { nx := fun σ' H' => D.nx (σ'.set i none) H', rt := D.rt, bk := fun σ' H' => D.bk (σ'.set i none) H', ct := fun σ' H' => D.ct (σ'.set i none) H' } (σ.set i (some (.ref a))) H) :
    wAs K c i ts Wout D cls d σ H := ⟨true, h1, fun _ a ha => h a ha, fun z => Bool.noConfusion z⟩
theorem w_by {K : PySem.W.Frag} {c : Value} {i : Nat} {ts : Addr → Value → Option Addr → TS} {Wout : WX} {D : Ends} (h1 : PySem.W.exmOne K cls c = some false) (h : Wout cls d σ H) :
    wAs K c i ts Wout D cls d σ H := ⟨false, h1, fun z => Bool.noConfusion z, fun _ => h⟩
end
/-- whether an except clause takes an exception of an own class -/
theorem exm_cls {K : PySem.W.Frag} {C D : Addr} {b : Bool} (h1 : PySem.W.subIn K (.ref D) (.type "BaseException") = some true) (h2 : PySem.W.hasDictIn K D = true)
    (h3 : PySem.W.typeIn K (.ref D) = some (.type "type")) (h4 : PySem.W.subIn K (.ref C) (.ref D) = some b) : PySem.W.exmOne K (.ref C) (.ref D) = some b := by
  obtain ⟨cd, hc, _⟩ := PySem.W.any_some h2
  unfold PySem.W.exmOne
  rw [if_pos (by rw [h1]; decide)]
  unfold PySem.W.kitCls
  dsimp only
  rw [if_pos (by rw [h3, hc] <;> rfl)]
  exact h4
/-! ## is None, is not None -/
theorem r_isn_ref {p : Addr} {R : Bool → Prop} (h : R false) : V.non = V.non ∧ ∃ k, V.bl (decide (V.ref p = V.non)) = V.bl k ∧ R k := ⟨rfl, _, rfl, by rw [show decide (V.ref p = V.non) = false by simp]; exact h⟩
theorem r_nn_ref {p : Addr} {R : Bool → Prop} (h : R true) : V.non = V.non ∧ ∃ k, V.bl (!decide (V.ref p = V.non)) = V.bl k ∧ R k := ⟨rfl, _, rfl, by rw [show (!decide (V.ref p = V.non)) = true by simp]; exact h⟩
theorem r_isn_int {i : Int} {R : Bool → Prop} (h : R false) : V.non = V.non ∧ ∃ k, V.bl (decide (V.int i = V.non)) = V.bl k ∧ R k := ⟨rfl, _, rfl, by rw [show decide (V.int i = V.non) = false by simp]; exact h⟩
theorem r_nn_int {i : Int} {R : Bool → Prop} (h : R true) : V.non = V.non ∧ ∃ k, V.bl (!decide (V.int i = V.non)) = V.bl k ∧ R k := ⟨rfl, _, rfl, by rw [show (!decide (V.int i = V.non)) = true by simp]; exact h⟩
theorem r_isn_non {R : Bool → Prop} (h : R true) : V.non = V.non ∧ ∃ k, V.bl (decide (V.non = V.non)) = V.bl k ∧ R k := ⟨rfl, _, rfl, by rw [show decide (V.non = V.non) = true by simp]; exact h⟩
theorem r_nn_non {R : Bool → Prop} (h : R false) : V.non = V.non ∧ ∃ k, V.bl (!decide (V.non = V.non)) = V.bl k ∧ R k := ⟨rfl, _, rfl, by rw [show (!decide (V.non = V.non)) = false by simp]; exact h⟩
/-! ## lists put together -/
theorem r_cat {l b : Addr} {xs zs : List V} {H : Hp} {Q : VK} (h1 : H l = some (.lst xs)) (h2 : H b = some (.lst zs)) (hz : xs.length + zs.length ≤ 100000) (h : ∀ p, H p = none → Q (.ref p) (upd H p (.lst (xs ++ zs)))) :
    rCat (.ref l) (.ref b) H Q := ⟨l, b, xs, zs, rfl, rfl, h1, h2, small hz, h⟩
/-! ## >>= 1, signs of a text -/
def ipH : TIp := fun x y H Q => ∃ i : Int, x = .int i ∧ y = .int 1 ∧ Q (.int (i / 2)) H
theorem ip_half {X : Cx} : PIp X .RShift ipH := fun pins s σ H x y v u Q I rx ry h => iop_halfI pins s σ H x y v u Q I rx ry h
theorem r_half {i : Int} {H : Hp} {Q : VK} (h : Q (.int (i / 2)) H) : ipH (.int i) (.int 1) H Q := ⟨i, rfl, rfl, h⟩
def rOdd : V → V → Hp → VK → Prop := fun x y H Q => ∃ n : Nat, x = .int (n : Int) ∧ y = .int 1 ∧ Q (.int ((n % 2 : Nat) : Int)) H
theorem r_odd {n : Nat} {H : Hp} {Q : VK} (h : Q (.int ((n % 2 : Nat) : Int)) H) : ∃ m : Nat, (V.int (n : Int)) = .int (m : Int) ∧ V.int 1 = .int 1 ∧ Q (.int ((m % 2 : Nat) : Int)) H := ⟨n, rfl, rfl, h⟩
theorem r_forStr {g : TG} {tb : TS} {D : Ends} {σ : L2.St} {H : Hp} {te : TE} (h : te σ H fun v H1 => ∃ x, v = .str x ∧ tFor (fun _ H2 R => R (Its x) H2) g tb D σ H1) : tFor (iStr te) g tb D σ H := h
theorem r_forSs {x : Str} {g : TG} {tb : TS} {D : Ends} {σ : L2.St} {H : Hp} (Pv : Nat → L2.St → Hp → Prop) (h0 : Pv 0 σ H)
    (hs : ∀ i c σ H, x.cps[i]? = some c → Pv i σ H → g (.str ⟨#[c]⟩) σ H fun σ2 H2 => tb { D with nx := Pv (i + 1), ct := Pv (i + 1), bk := D.nx } σ2 H2) (hd : ∀ σ H, Pv x.cps.size σ H → D.nx σ H) :
    tFor (fun _ H2 R => R (Its x) H2) g tb D σ H := by
  refine ⟨fun i l σ H => i + l = x.cps.size ∧ Pv i σ H, ⟨x.cps.size, Nat.zero_add _, h0⟩, ?_⟩
  rintro i l σ H ⟨e, p⟩
  by_cases c : i < x.cps.size
  · refine .inr ⟨c, Pv (i + 1), fun σ' H' p' => ⟨l - 1, by omega, by omega, p'⟩, ?_⟩
    rintro y H' ⟨eH, c0, hc, ey⟩
    subst eH
    subst ey
    exact hs i c0 σ _ hc p
  · have z : i = x.cps.size := by omega
    subst z
    exact .inl ⟨Nat.le_refl _, hd σ H p⟩
end Vf

namespace Vf
open PySem PySem.Spec PyProof.Rows L2
/-! ## the decimal signs of a number, read one by one -/
def sgn (k : Nat) : Str := PySem.Str.ofString (toString ((k : Nat) : Int))
/-- what the first signs tell -/
def dv (k i : Nat) : Nat := NumText.digitsVal ((sgn k).cps.toList.take i)
theorem sgn_list (k : Nat) : (sgn k).cps.toList = (Nat.toDigits 10 k).map Char.toNat := PySem.W.KIN.signs_num k
theorem dv_zero (k : Nat) : dv k 0 = 0 := rfl
theorem dv_all (k : Nat) : dv k (sgn k).cps.size = k := by
  unfold dv
  rw [List.take_of_length_le (by rw [Array.length_toList]; exact Nat.le_refl _), sgn_list]
  exact PySem.W.KIN.val_back k
theorem sgn_digit {k i c : Nat} (h : (sgn k).cps[i]? = some c) : 48 ≤ c ∧ c ≤ 57 := by
  have m : c ∈ (sgn k).cps.toList := Array.mem_toList_iff.mpr (Array.mem_of_getElem? h)
  rw [sgn_list] at m
  obtain ⟨ch, hch, e⟩ := List.mem_map.mp m
  have r := PyProof.Rows.digit_range (Nat.isDigit_of_mem_toDigits (by decide) (by decide) hch)
  rw [← e]
  exact r
theorem dv_next {k i c : Nat} (h : (sgn k).cps[i]? = some c) : dv k (i + 1) = dv k i * 10 + (c - 48) := by
  have h' : (sgn k).cps.toList[i]? = some c := by rw [Array.getElem?_toList]; exact h
  unfold dv
  rw [List.take_add_one, h']
  exact PySem.NumText.digitsVal_snoc _ _
theorem one_sign {c : Nat} (h1 : 48 ≤ c) (h2 : c ≤ 57) : PySem.intText? (⟨#[c]⟩ : Str) = some (((c - 48 : Nat) : Nat) : Int) := by
  have e := PySem.intText_digits (x := (⟨#[c]⟩ : Str)) (fun d hd => by
    have : d = c := by simpa using hd
    subst this
    exact ⟨h1, h2⟩) (by simp) (show 1 ≤ 4300 by decide)
  rw [e]
  congr 2
  show 0 * 10 + (c - 48) = c - 48
  omega
theorem r_intS {c : Nat} {H : Hp} {Q : VK} (h1 : 48 ≤ c) (h2 : c ≤ 57) (h : Q (.int ((c - 48 : Nat) : Int)) H) :
    ∃ a n, [V.str ⟨#[c]⟩] = [V.str a] ∧ PySem.intText? a = some n ∧ a.length ≤ 640 ∧ Q (.int n) H := ⟨_, _, rfl, one_sign h1 h2, (by decide : 1 ≤ 640), h⟩
theorem r_strI {k : Nat} {H : Hp} {Q : VK} (hk : k.log2 < 1920) (h : Q (.str (sgn k)) H) : ∃ i : Int, [V.int (k : Int)] = [V.int i] ∧ i.natAbs.log2 < 1920 ∧ Q (.str (toString i)) H := ⟨_, rfl, hk, h⟩
end Vf

namespace Vf
open PySem PySem.Spec PyProof.Rows L2 LamX
/-! ## a lambda without parameters handed to a def of the text, where repr may be used -/
section
variable {X : Cx} {pins : List (Addr × Obj)} {σ : L2.St} {H : Hp} {s s1 : Shared}
/-- the context of the def at g, entered from X at s -/
abbrev gcx (X : Cx) (Ng : List Str) (x : Str) (st : Stmt) (g : Addr) (cdg : Value) (s : Shared) (H : Hp) (E : XK) : Cx :=
  cxOf (CX X.prog X.w) X.prog X.w X.K X.mg X.base Ng x (defScope st) g cdg X.A X.stack s H E
/-- x(), in the def that got the lambda -/
theorem pe_actG {Eg : XK} {Ng : List Str} {x : Str} {st : Stmt} {g f c' : Addr} {cdg pm ctv : Value} {params : Arguments} {body : Expr} {scope : Scope} {k i : Nat} {a : Str} {pn : List (Addr × Obj)} {xe : Value → Shared → Prop} {W : WX} {tb : XK → TE} {p1 p2 : Pos}
    (I : Inv X pins σ H s) (L : LamS X.env.scope scope) (hf : s.heap.get? f = some (PySem.W.kla_obj "<lambda>" (X.env.qual ++ "<lambda>") params body scope (cloFrom X.env.cells scope.names []) pm c' ctv)) (hfn : H f = none) (hfr : f ∉ frs X.stack)
    (hbind : bindArgs (PySem.W.kla_fn "<lambda>" (X.env.qual ++ "<lambda>") params body scope (cloFrom X.env.cells scope.names []) pm (.ref c') ctv) ⟨[], []⟩ = pure [])
    (tk : Takes ((gcx X Ng x st g cdg s H Eg).tr pn xe) W) (hgA : X.A.guards = some []) (hr : Room (k + 1) (X.A.deeper (envOfC x (defScope st) s.heap.objs.size g cdg)))
    (hbody : ∀ (A : Around) (outer : List Env) (s : Shared) (H : Hp) (E : XK), (A.deeper (lamEnv X scope s.heap.objs.size f c')).guards = some [] → Room k (A.deeper (lamEnv X scope s.heap.objs.size f c')) → PE (lamCx X A outer s H E scope f c') body (tb E))
    (hN : Ng[i]? = some a) (hv : Vis (defScope st) a) (hd : (a == ("__debug__" : Str)) = false := by decide) (hcd : (a == ("__classdict__" : Str)) = false := by decide) :
    PE ((gcx X Ng x st g cdg s H Eg).tr pn xe) (.Call (.Name a p1) [] [] p2) (fun σZ HZ Q => σZ[i]? = some (some (.ref f)) ∧ HZ c' = some (CodeO c' (X.env.qual ++ "<lambda>")) ∧ tb (fun cls d H' => W cls d σZ H') σ HZ Q) := by
  refine ⟨fun pinsZ sZ σZ HZ Q IZ h => ?_⟩
  obtain ⟨hs, hc, ht⟩ := h
  have named := (pe_var (X := (gcx X Ng x st g cdg s H Eg).tr pn xe) (pos := p1) (i := i) hN hv hd hcd).run pinsZ sZ σZ HZ (fun v H1 => v = .ref f ∧ H1 = HZ) IZ ⟨.ref f, hs, rfl, rfl⟩
  refine wpAny_Call_Name_kw (thn named fun u s1 ⟨v, H1, I1, r1, ev, eH⟩ => ?_)
  subst ev
  subst eH
  obtain rfl : u = Value.ref f := r1
  have of1 := I1.base.keep f _ hf hfn hfr (fun z => nomatch (show f ∈ ([] : List Addr) from z))
  refine PySem.W.callWith_F0 ⟨_, _, _, _, of1⟩ ?_
  have un : Un (frs X.stack) [] H H1 s.heap s1.heap := I1.base
  obtain ⟨⟨oc, vs, t, hoc, hdc, hvc⟩, _, _⟩ := I1.hok c' _ hc
  have rc : codeAny (model X.prog X.w) (X.A.deeper (envOfC x (defScope st) s.heap.objs.size g cdg)) (.call (.ref f) ⟨[], []⟩)
      (CR (CX X.prog X.w) (envOfC x (defScope st) s.heap.objs.size g cdg :: X.stack) X.prog X.w H1 s1 Q fun cls d H' => W cls d σZ H') s1 := by
    refine PySem.W.kla_callFunE hr.depth of1 rfl L.co L.gen rfl ⟨c', oc, vs, t, rfl, hoc, hdc, hvc⟩ ?_
    rw [hbind]
    refine wpAny_pure (wpAny_newFunctionEnv (fun y hy => (L.own y hy).2) (fun y hy => absurd hy (by simp)) (fun h₁ hns hsb => ⟨I1.nolimit.fresh _ hsb, ?_⟩) L.kind)
    show codeAny _ _ (.expr body (lamEnv X scope s1.heap.objs.size f c')) _ _
    have kp : ∀ b o, s1.heap.get? b = some o → h₁.get? b = some o := fun b o e => hsb.extBut b o (Nat.ne_of_lt (Heap.lt_size e)) (Heap.get?_push_of_some _ e)
    have J := lam_start2 (E := fun cls d H' => W cls d σZ H') (f := f) (c' := c') (tk := s1.toks + ([] : List (Str × Value)).length) I L I1.env0 hr.hd un hns kp
    refine PySem.W.kla_codeExpr (wpAny_mono ((hbody (X.A.deeper (envOfC x (defScope st) s.heap.objs.size g cdg)) _ s1 H1 _ hgA (hr.deeper _)).run [] _ _ H1 Q J ht) (fun v s' hq => ?_) fun e s' hq => hq)
    obtain ⟨w', H', J', rv, q⟩ := hq
    exact ⟨w', H', J'.os, J'.bare, J'.base, J'.hok, rv, q⟩
  refine wpAny_call (codeAny_mono rc fun r s' hq => ?_)
  rcases r with e | fl
  · exact tk _ _ (XE.of_call I1 (fun _ _ _ z => z) hq)
  · rcases fl with _ | _ | _ | u
    · exact False.elim hq
    · exact False.elim hq
    · exact False.elim hq
    · exact I1.after hq
end
/-- the def x that calls what it got (by the name a): TT is what it makes of the lambda's reading -/
def Gives (X : Cx) (k : Nat) (Ng : List Str) (x : Str) (st : Stmt) (a : Str) (q : Str) (TT : (XK → Hp → VK → Prop) → Hp → VK → Prop) : Prop :=
  ∀ (g : Addr) (cdg : Value) (f c' : Addr) (s : Shared) (H : Hp) (Q : VK) (tl : XK → Hp → VK → Prop), (X.A.deeper (envOfC x (defScope st) s.heap.objs.size g cdg)).guards = some [] → Room (k + 1) (X.A.deeper (envOfC x (defScope st) s.heap.objs.size g cdg)) →
    (∀ (W : WX) (pn : List (Addr × Obj)) (xe : Value → Shared → Prop) (p1 p2 : Pos), Takes ((gcx X Ng x st g cdg s H E0).tr pn xe) W →
      PE ((gcx X Ng x st g cdg s H E0).tr pn xe) (.Call (.Name a p1) [] [] p2) (fun σZ HZ Q => σZ[0]? = some (some (.ref f)) ∧ HZ c' = some (CodeO c' q) ∧ tl (fun cls d H' => W cls d σZ H') HZ Q)) →
    H c' = some (CodeO c' q) → TT tl H Q → ∃ t, PSs (gcx X Ng x st g cdg s H E0) (defBody st) t ∧ t { nx := fun _ H' => Q .non H', rt := Q } (L2.start Ng [.ref f]) H
section
variable {X : Cx}
/-- x(lambda: body) -/
theorem pe_lamG {T : List (Addr × Str)} {TT : (XK → Hp → VK → Prop) → Hp → VK → Prop} {x a : Str} {st : Stmt} {c P : Addr} {k : Nat} {Ng : List Str} {params : Arguments} {body : Expr} {scope : Scope} {t : XK → TE} {p lpos pos : Pos}
    (hA : At X.K X.mg x st) (hb : ∀ f fd, L2.Fun X.K x x st f fd → L2.Binds X.K fd [a] []) (Sg : FnScope Ng [a] (defScope st)) (hNg : Ng[0]? = some a) (hva : Vis (defScope st) a)
    (hgA : X.A.guards = some []) (hr : Room (k + 2) X.A) (hg : Gl X x) (hG : Gives X k Ng x st a (X.env.qual ++ "<lambda>") TT)
    (TB : TabB X.base X.mg c P) (hcode : X.env.code = .ref c) (hmT : (P, X.env.qual ++ "<lambda>") ∈ T) (hu : ∀ p ∈ T, p.1 = P → p.2 = X.env.qual ++ "<lambda>") (L : LamS X.env.scope scope) (hdef : defaultsOf params X.env = ([], []))
    (hbind : ∀ (q : Str) (cl : List (Str × Addr)) (pm cv ctv : Value), bindArgs (PySem.W.kla_fn "<lambda>" q params body scope cl pm cv ctv) ⟨[], []⟩ = pure [])
    (hbody : ∀ (A : Around) (outer : List Env) (s : Shared) (H : Hp) (E : XK) (f c' : Addr), (A.deeper (lamEnv X scope s.heap.objs.size f c')).guards = some [] → Room k (A.deeper (lamEnv X scope s.heap.objs.size f c')) → PE (lamCx X A outer s H E scope f c') body (t E))
    (hdb : (x == ("__debug__" : Str)) = false := by decide) (hd : (a == ("__debug__" : Str)) = false := by decide) (hcd : (a == ("__classdict__" : Str)) = false := by decide) :
    PE X (.Call (.Name x p) [.Lambda params body scope lpos] [] pos) (tLam T TT t) := by
  obtain ⟨g, fd, F, hm⟩ := hA
  refine ⟨fun pins s σ H Q I ⟨hT, h⟩ => ?_⟩
  refine wpAny_Call_Name_kw (ld_glob I hg hm ?_ hdb)
  refine PySem.W.callWith_K (h₀ := X.base) I.ok.mod.kin F.kp ?_ (by rfl) (by rfl)
  show wpAny _ _ (spliced ((false, eval (.Lambda params body scope lpos) X.env) :: backTo pos (starEach [] X.env))) _ _ s
  refine Calls.spliced_cons (lam_make2 I TB hcode hmT hu hT hdef (L.has I.ok) fun f c' pm' ctv H1 s' I1 eN T1 hf hfn hfr hco => ?_)
  refine Calls.spliced_nil ⟨I1.kIn, ?_⟩
  have bd := hb g fd F s' [.ref f] I1.kIn rfl
  obtain ⟨oc, od, kV, doc, pm, an, cdv, ct, osl, efd, lk, hcg⟩ := F.ex
  subst efd
  have rc : codeAny (model X.prog X.w) X.A (.call (.ref g) ⟨[.ref f], []⟩) (CR (CX X.prog X.w) X.stack X.prog X.w H1 s' Q E0) s' := by
    refine run_ofS (N := Ng) (ps := [a]) (us := [.ref f]) (vs := [.ref f]) (k := k + 1) lk hcg Sg hr I1.env0 bd (.cons rfl .nil) rfl fun hr' => ?_
    exact hG g cdv f c' s' H1 Q (fun E H' Q' => t E σ H' Q') hgA hr' (fun W pn xe p1 p2 tk => pe_actG (i := 0) I1 L hf hfn hfr (hbind _ _ _ _ _) tk hgA hr' (fun A outer s H E hga hr2 => hbody A outer s H E f c' hga hr2) hNg hva hd hcd) hco (h H1 eN T1)
  refine wpAny_call (codeAny_mono rc fun r s2 hq => ?_)
  rcases r with e | fl
  · obtain ⟨_, _, _, _, _, _, _, _, _, _, _, _, z⟩ := hq
    exact z.elim
  · rcases fl with _ | _ | _ | u
    · exact False.elim hq
    · exact False.elim hq
    · exact False.elim hq
    · exact I1.after hq
end
/-- a def whose code object is known -/
def AtC (K : PySem.W.Frag) (mg : Str → Option Value) (x : Str) (st : Stmt) (c : Addr) : Prop :=
  ∃ (f : Addr) (oc : Value) (od : Option Addr) (kV doc pm : Value) (an : Option Addr) (ct : Value) (osl : Array (Option Value)),
    K.lookup f = some ⟨oc, od, .func (PySem.W.fnOf x x (defArgs st) (defBody st) (defScope st) .none kV doc pm an (.ref c) ct), osl⟩ ∧ PySem.W.codeIn K (.ref c) x = true ∧ PySem.W.keepIn K (.ref f) = true ∧ mg x = some (.ref f)
/-- where the code object and its table stand -/
def tabP (K : PySem.W.Frag) (x : Str) : Addr × Addr := (PySem.W.tabIn K x).getD (0, 0)
theorem tabP_eq {K : PySem.W.Frag} {x : Str} {p : Addr × Addr} (h : PySem.W.tabIn K x = some p) : tabP K x = p := by
  unfold tabP
  rw [h]
  rfl
section
variable {P : Program} {w : World} {K : PySem.W.Frag} {mg : Str → Option Value} {base : Heap} {k : Nat} {x : Str} {st : Stmt} {ps N : List Str} {sp : Sp} {c : Addr}
theorem AtC.ok (a : AtC K mg x st c) (S : FnScope N ps (defScope st)) (len : ∀ vs H Q E, sp vs H Q E → vs.length = ps.length)
    (hbody : ∀ (f : Addr) (A : Around) (outer : List Env) (s : Shared) (H : Hp) (vs : List V) (Q : VK) (E : XK),
      (A.deeper (envOfC x (defScope st) s.heap.objs.size f (.ref c))).guards = some [] → Room k (A.deeper (envOfC x (defScope st) s.heap.objs.size f (.ref c))) → sp vs H Q E →
      ∃ t, PSs (cxOf (CX P w) P w K mg base N x (defScope st) f (.ref c) A outer s H E) (defBody st) t ∧ t { nx := fun _ H' => Q .non H', rt := Q } (L2.start N vs) H) : Ok P w K mg base (k + 1) x st ps sp := by
  obtain ⟨f, oc, od, kV, doc, pm, an, ct, osl, lk, hcd, kp, hm⟩ := a
  refine ⟨⟨f, _, fun_mk lk hcd kp, hm, fun A outer s H args us vs Q E hg hr e0 hb r hsp => ?_⟩, len⟩
  exact run_ofS lk hcd S hr e0 hb r (len _ _ _ _ hsp) fun hr' => hbody f A outer s H vs Q E hg hr' hsp
end
end Vf
namespace Vf
open PySem PySem.Spec PyProof.Rows L2 LamX
/-! ## the law's own call where its defs make lambdas: cs are their code objects with the tables -/
section
variable {P : Program} {w : World} {K : PySem.W.Frag} {mg mb : Str → Option Value} {k : Nat} {fa a : Addr} {st : Stmt} {x y : Str} {sp : Sp} {s₁ : Shared} {vs : List Value} {ns : List Int} {cs : List (Addr × Addr)}
structure TabIn (cs : List (Addr × Addr)) (K : PySem.W.Frag) (mg : Str → Option Value) (h : Heap) : Prop where
  tab : ∀ p ∈ cs, h.get? p.2 = some { cls := .none, data := .fields #[] }
  non : ∀ p ∈ cs, K.lookup p.2 = none
  code : ∀ p ∈ cs, PySem.W.CodeHd h p.1 p.2
  bm : ∃ (bm : Addr) (ob : Obj), mg "__builtins__" = some (.ref bm) ∧ bm ≠ builtinsNs ∧ h.get? bm = some ob ∧ ob.cls = .type "module" ∧ ob.dict = some builtinsNs ∧ ob.data = .plain
theorem TabIn.at {h : Heap} (C : TabIn cs K mg h) {b : Addr} (hb : b ∈ cs.map (·.2)) : h.get? b = some { cls := .none, data := .fields #[] } := by
  obtain ⟨p, hp, rfl⟩ := List.mem_map.mp hb
  exact C.tab p hp
/-- what a heap that hides the tables and the script keeps of the tables -/
theorem TabIn.base {h : Heap} {H : Hp} (C : TabIn cs K mg h) (hns : h.Ns mainGlobals mg) (off : ∀ {b : Addr} {o : Obj}, h.get? b = some o → (∀ us n, o.data ≠ .seq us n) → o.data ≠ .fields #[] → H b = none) :
    ∀ p ∈ cs, TabB (hidT h H) mg p.1 p.2 := fun p hp => by
  have hT := C.tab p hp
  obtain ⟨oG, es, ep, eG, dG, rG⟩ := hns
  have nG : mainGlobals ≠ p.2 := fun z => by
    rw [z, hT] at eG
    cases eG
    cases dG
  refine ⟨?_, ?_, nG⟩
  · obtain ⟨o, us, file, tf, flags, tg, inF, text, tt, e1, r1, r2, r3, rest⟩ := C.code p hp
    refine ⟨o, us, file, tf, flags, tg, inF, text, tt, hidT_get e1 (off e1 (fun vs n z => ?_) fun z => ?_), r1, r2, r3, rest⟩
    · rw [r2] at z; cases z
    · rw [r2] at z; cases z; simp at r3
  · obtain ⟨bm, ob, b1, b2, b3, b4, b5, b6⟩ := C.bm
    have n1 : bm ≠ mainGlobals := fun z => by
      rw [z, eG] at b3
      cases b3
      rw [dG] at b6
      cases b6
    have n2 : bm ≠ p.2 := fun z => by
      rw [z, hT] at b3
      cases b3
      cases b6
    refine ⟨bm, ob, b1, b2, n1, n2, hidT_get b3 (off b3 (fun vs n z => ?_) fun z => ?_), b4, b5, b6⟩
    · rw [b6] at z; cases z
    · rw [b6] at z; cases z
theorem law_gT (KX : K.In s₁.heap) (hns : s₁.heap.Ns mainGlobals mg) (hb : s₁.heap.Ns builtinsNs mb) (hbb : ∀ z : Str, z ≠ "__name__" → mb z = bootBuiltins z)
    (hlim : s₁.heap.NoLimit) (hg : s₁.gens = #[]) (C : TabIn cs K mg s₁.heap) (ha : s₁.heap.get? a = some { cls := .type "list", data := .seq vs.toArray }) (hi : IntsAre vs ns) (hl : ns.length ≤ sizeLine)
    (hr : Room k callerA) (hfa : mg x = some (.ref fa)) (F : ∀ base : Heap, K.In base → base.Ns mainGlobals mg → (∀ p ∈ cs, TabB base mg p.1 p.2) → Ok P w K mg base k x st [y] sp)
    (B : ∀ f fd, L2.Fun K x x st f fd → L2.Binds K fd [y] [])
    (hsp : ∀ H : Hp, (∀ p ∈ cs, H p.2 = some (.tbl #[])) → SqL K H a (ns.map V.int) → sp [.ref a] H (fun v _ => v = .bl true) fun _ _ _ => False) :
    codeAny (model P w) callerA (.call (.ref fa) ⟨[.ref a], []⟩) (Told s₁) s₁ := by
  have rv := vals_ints hi
  have aT : a ∉ cs.map (·.2) := fun z => by
    have q := C.at z
    rw [ha] at q
    cases q
  -- over a heap that tracks the tables, and the script perhaps
  have run : ∀ H : Hp, (∀ p ∈ cs, H p.2 = some (.tbl #[])) → (∀ b, b ∉ cs.map (·.2) → b ≠ a → H b = none) → (H a = none ∨ (K.lookup a = none ∧ ∃ o xs, H a = some (.frz o (.lst xs)))) → SqL K H a (ns.map V.int) → HOk P w H s₁.heap →
      codeAny (model P w) callerA (.call (.ref fa) ⟨[.ref a], []⟩) (Told s₁) s₁ := by
    intro H hT hO hA hS hok
    have off : ∀ {b : Addr} {o : Obj}, s₁.heap.get? b = some o → (∀ us n, o.data ≠ .seq us n) → o.data ≠ .fields #[] → H b = none := by
      intro b o e h1 h2
      refine hO b (fun z => ?_) fun z => ?_
      · rw [C.at z] at e
        cases e
        exact h2 rfl
      · rw [z, ha] at e
        cases e
        exact h1 _ _ rfl
    have space : ∀ {b : Addr} {m : Str → Option Value}, s₁.heap.Ns b m → (hidT s₁.heap H).Ns b m := by
      rintro b m ⟨o, es, ep, e, d, rest⟩
      refine ⟨o, es, ep, hidT_get e (off e (fun us n z => ?_) fun z => ?_), d, rest⟩
      · rw [d] at z; cases z
      · rw [d] at z; cases z
    have kin : K.In (hidT s₁.heap H) := by
      intro b o e
      refine hidT_get (KX b o e) ?_
      by_cases z : b ∈ cs.map (·.2)
      · obtain ⟨p, hp, rfl⟩ := List.mem_map.mp z
        rw [C.non p hp] at e
        cases e
      · by_cases z2 : b = a
        · rcases hA with n | ⟨n, _⟩
          · rw [z2]; exact n
          · rw [z2, n] at e
            cases e
        · exact hO b z z2
    obtain ⟨mc, hc1, hc2⟩ := hlim
    have env : Env0 P w K mg (hidT s₁.heap H) callerA [] s₁ H :=
      { frames := rfl, mod := ⟨kin, space hns, ⟨mb, space hb, hbb⟩, ⟨mc, space hc1, hc2⟩⟩, bs := fun b o e => of_hidT e, bsz := Nat.le_of_eq (hidT_size _ _)
        funs := trivial, frf := fun b z => absurd (show b ∈ ([] : List Addr) from z) List.not_mem_nil, hok := hok, bare := .of_eq hg }
    obtain ⟨⟨f, fd, G, hm, go⟩, _⟩ := F _ kin (space hns) (C.base hns off)
    have ef : f = fa := by
      rw [hfa] at hm
      injection hm with hm
      injection hm with hm
      exact hm.symm
    subst ef
    have bind := B f fd G s₁ [.ref a] KX rfl
    rw [List.append_nil] at bind
    refine codeAny_mono (go callerA [] s₁ H ⟨[.ref a], []⟩ [.ref a] [.ref a] (fun v _ => v = .bl true) (fun _ _ _ => False) rfl hr env bind (.cons rfl .nil) (hsp H hT hS)) ?_
    intro r s' h
    rcases r with e | fl
    · obtain ⟨_, _, _, _, _, _, _, _, _, _, _, _, z⟩ := h
      exact z.elim
    · rcases fl with _ | _ | _ | u
      · exact False.elim h
      · exact False.elim h
      · exact False.elim h
      · obtain ⟨v, H', os, bare, un, hok', rr, q⟩ := h
        have q2 : v = .bl true := q
        subst q2
        have eu : u = Value.bool true := rr
        subst eu
        have same_ : ∀ b o, b ∉ cs.map (·.2) → s₁.heap.get? b = some o → s'.heap.get? b = some o := by
          intro b o nb e
          rcases hz : H b with _ | u
          · exact un.keep b o e hz (fun z => absurd (show b ∈ ([] : List Addr) from z) List.not_mem_nil) List.not_mem_nil
          · by_cases z : b = a
            · subst z
              rcases hA with n | ⟨_, ob, xs, n⟩
              · rw [hz] at n; cases n
              · have e1 := (hok b _ n).1
                have e2 := (hok' b _ (un.frzs b ob _ n)).1
                rw [e] at e1
                rw [e2, e1]
            · rw [hO b nb z] at hz
              cases hz
        have grown : ∀ b, b ∈ cs.map (·.2) → ∃ more : Array Value, s'.heap.get? b = some { cls := .none, data := .fields more } := by
          intro b hb
          obtain ⟨p, hp, rfl⟩ := List.mem_map.mp hb
          obtain ⟨more, z⟩ := un.tbls p.2 #[] (hT p hp)
          exact ⟨_, hok' p.2 _ z⟩
        refine ⟨rfl, ⟨fun b o e => ?_, fun b o e => ?_⟩, os, bare⟩
        · by_cases hb : b ∈ cs.map (·.2)
          · obtain ⟨more, hm⟩ := grown b hb
            rw [C.at hb] at e
            cases e
            obtain ⟨p, hp, rfl⟩ := List.mem_map.mp hb
            exact .inr (.inl ⟨((C.code p hp).tab (C.tab p hp)).isCodeTable, rfl, #[], more, rfl, by rw [Array.empty_append]; exact hm⟩)
          · exact .inl (same_ b o hb e)
        · by_cases hb : b ∈ cs.map (·.2)
          · obtain ⟨more, hm⟩ := grown b hb
            exact ⟨_, hm⟩
          · exact ⟨o, same_ b o hb e⟩
  let H0 : Hp := fun b => if b ∈ cs.map (·.2) then some (.tbl #[]) else none
  have at0 : ∀ b, b ∈ cs.map (·.2) → H0 b = some (.tbl #[]) := fun b h => if_pos h
  have no0 : ∀ b, b ∉ cs.map (·.2) → H0 b = none := fun b h => if_neg h
  have mem : ∀ p ∈ cs, p.2 ∈ cs.map (·.2) := fun p hp => List.mem_map.mpr ⟨p, hp, rfl⟩
  rcases hk : K.lookup a with _ | o
  · -- the script is tracked, locked
    let sc : Obj := { cls := .type "list", data := .seq vs.toArray }
    have atA : upd H0 a (.frz sc (.lst (ns.map V.int))) a = some (.frz sc (.lst (ns.map V.int))) := upd_same
    refine run (upd H0 a (.frz sc (.lst (ns.map V.int)))) (fun p hp => ?_) (fun b h1 h2 => by rw [upd_ne h2]; exact no0 b h1) (.inr ⟨hk, _, _, atA⟩) (Or.inl (Or.inr ⟨sc, atA⟩)) (fun b o e => ?_)
    · rw [upd_ne (fun z => aT (by rw [← z]; exact mem p hp))]
      exact at0 _ (mem p hp)
    · by_cases n : b = a
      · subst n
        rw [atA] at e
        injection e with e
        subst e
        exact ⟨ha, by rw [List.length_map]; exact hl, vs, _, rv, ha⟩
      · rw [upd_ne n] at e
        by_cases z : b ∈ cs.map (·.2)
        · rw [at0 b z] at e
          injection e with e
          subst e
          exact C.at z
        · rw [no0 b z] at e
          cases e
  · -- it is an object of the module
    have e := KX a o hk
    rw [ha] at e
    injection e with e
    subst e
    refine run H0 (fun p hp => at0 _ (mem p hp)) (fun b h1 _ => no0 b h1) (.inl (no0 a aT)) (Or.inr ⟨_, vs.toArray, _, hk, rfl, rfl, rfl, ?_, ?_⟩) (fun b u z => ?_)
    · rw [List.size_toArray, hi.length]; exact hl
    · simpa using rv
    · by_cases h : b ∈ cs.map (·.2)
      · rw [at0 b h] at z
        injection z with z
        subst z
        exact C.at h
      · rw [no0 b h] at z
        cases z
end
/-- the end of such a law: for each def that makes lambdas its code object and its table, read off the written part -/
theorem walk_gT {l : PySem.W.OpenLaw} {n k : Nat} {q : Program} {loose : List Str} {XP : (Str → Option Value) → Heap → Prop} {YP : World → Heap → Prop} {d : DefRec} {K : Params → PySem.W.Frag} {sp : PySem.W.Frag → List (Addr × Addr) → Sp} {y : Str} {st : Stmt}
    (cs : List (Str × DefRec × Addr × Addr))
    (hn : l.most = some n) (hn2 : n ≤ sizeLine) (hdf : d.params.defaults = []) (hr : Room k callerA) (hY : ∀ (w : World) (h : Heap), YP w h → (K w.params).In h)
    (hrec : ∀ c ∈ cs, (recsOf q).find? (fun e => e.name == c.1) = some c.2.1) (htab : ∀ w : World, ∀ c ∈ cs, PySem.W.tabIn (K w.params) c.1 = some c.2.2) (hnon : ∀ w : World, ∀ c ∈ cs, (K w.params).lookup c.2.2.2 = none)
    (F : ∀ (w : World) (mg : Str → Option Value) (h : Heap), (K w.params).In h → h.Ns mainGlobals mg → ∀ base : Heap, (K w.params).In base → base.Ns mainGlobals mg → (∀ c ∈ cs, TabB base mg c.2.2.1 c.2.2.2) →
      Ok l.prog w (K w.params) mg base k d.name st [y] (sp (K w.params) (cs.map (·.2.2))))
    (B : ∀ (w : World) f fd, L2.Fun (K w.params) d.name d.name st f fd → L2.Binds (K w.params) fd [y] [])
    (hsp : ∀ (w : World) (H : Hp) (a : Addr) (ns : List Int), ns.length ≤ n → (∀ z ∈ ns, Builtin.Int.intBits z ≤ 1048576) → (∀ c ∈ cs, H c.2.2.2 = some (.tbl #[])) → SqL (K w.params) H a (ns.map V.int) →
      sp (K w.params) (cs.map (·.2.2)) [.ref a] H (fun v _ => v = .bl true) fun _ _ _ => False) :
    PySem.W.WalkO q loose XP YP l.row.toRowW d [] (fun f vs => PySem.call f vs) := by
  refine Att.attach_callB hn hdf fun w s₀ s₁ mg mb fa o pm cd doc a vs ns G Y ho hd hcd hmg hobj hints hlen hbits hg => ?_
  have KX := hY w _ Y
  have C : TabIn (cs.map (·.2.2)) (K w.params) mg s₁.heap := by
    refine ⟨fun p hp => ?_, fun p hp => ?_, fun p hp => ?_, G.T.bmain⟩
    · obtain ⟨c, hc, rfl⟩ := List.mem_map.mp hp
      exact (PySem.W.tab_of G.T KX (hrec c hc) (htab w c hc)).2
    · obtain ⟨c, hc, rfl⟩ := List.mem_map.mp hp
      exact hnon w c hc
    · obtain ⟨c, hc, rfl⟩ := List.mem_map.mp hp
      exact (PySem.W.tab_of G.T KX (hrec c hc) (htab w c hc)).1
  refine law_gT KX G.T.g G.T.b G.T.builtins G.T.nolimit hg C hobj hints (Nat.le_trans hlen hn2) hr hmg (fun base kb gb tb => F w mg _ KX G.T.g base kb gb fun c hc => tb _ (List.mem_map.mpr ⟨c, hc, rfl⟩)) (B w) fun H hH hS => ?_
  exact hsp w H a ns hlen hbits (fun c hc => hH _ (List.mem_map.mpr ⟨c, hc, rfl⟩)) hS
end Vf
namespace Vf
open PySem PySem.Spec PyProof.Rows L2 LamX
theorem tabIn_of {K : PySem.W.Frag} {x qn : Str} {f c P : Addr} {oc oc2 dV kV doc pm ct : Value} {od od2 an : Option Addr} {sl sl2 : Array (Option Value)} {vs : Array Value} {ar : Arguments} {bd : List Stmt} {sc : Scope}
    (a : PySem.W.nsIn K mainGlobals x = some (some (.ref f))) (l : K.lookup f = some ⟨oc, od, .func (PySem.W.fnOf x qn ar bd sc dV kV doc pm an (.ref c) ct), sl⟩)
    (y : K.lookup c = some ⟨oc2, od2, .fields vs, sl2⟩) (z : (vs[11]? : Option Value) = some (.ref P)) : PySem.W.tabIn K x = some (c, P) := by
  unfold PySem.W.tabIn
  rw [a]
  dsimp only
  rw [l]
  dsimp only [PySem.W.fnOf]
  rw [y]
  dsimp only
  rw [z]
/-! ## a list or a tuple walked -/
def iSeq (K : PySem.W.Frag) (te : TE) : TI := fun σ H R => te σ H fun x H1 => ∃ a, x = .ref a ∧ (((∃ xs, SqL K H1 a xs) ∧ R (Itl K a) H1) ∨ ((∃ xs, SqT K H1 a xs) ∧ R (Itt K a) H1))
section
variable {X : Cx} {K : PySem.W.Frag} {tg l : Expr} {tl : TE}
theorem pi_seq (hl : PE X l tl) : PI X tg l (iSeq X.K tl) := by
  refine ⟨fun pins s σ H R I h => thn (hl.run pins s σ H _ I h) fun v s1 ⟨x, H1, I1, r1, a, e, q⟩ => ?_⟩
  subst e
  cases r1
  have fp : ∀ b ∈ [s1.heap.objs.size], FpOk X pins H1 b := fun b hb => by
    rw [List.mem_singleton.mp hb]
    exact I1.fpOk (Nat.le_refl _) (I1.hok.fresh (Nat.le_refl _))
  rcases q with ⟨⟨xs, hq⟩, q⟩ | ⟨⟨xs, hq⟩, q⟩
  · obtain ⟨its, rv, pl, _⟩ := I1.list hq
    exact wpAny_pyIter_list pl.isList ⟨_, [s1.heap.objs.size], _, _, H1, rfl, I1.kept (t' := s1.toks) fun b o e => Heap.get?_push_of_some _ e, turn_list a _, ⟨_, Heap.get?_push_size _ rfl, rfl, rfl⟩, fp, q⟩
  · obtain ⟨its, rv, pt, _⟩ := I1.tuple hq
    exact wpAny_pyIter_tuple (show s1.heap.IsTuple a its.toArray from pt) ⟨_, [s1.heap.objs.size], _, _, H1, rfl, I1.kept (t' := s1.toks) fun b o e => Heap.get?_push_of_some _ e, turn_tuple a _, ⟨_, Heap.get?_push_size _ rfl, rfl, rfl⟩, fp, q⟩
theorem i_seq (e : X.K = K) (hl : PE X l tl) : PI X tg l (iSeq K tl) := by subst e; exact pi_seq hl
end
section
variable {K : PySem.W.Frag} {σ : L2.St} {H : Hp} {D : Ends} {g : TG} {tb : TS} {te tl : TE} {tt : TT} {vs : List Nat} {Q : VK}
theorem r_forQ (h : tl σ H fun x H1 => ∃ a, x = .ref a ∧ (((∃ xs, SqL K H1 a xs) ∧ tFor (fun _ H2 R => R (Itl K a) H2) g tb D σ H1) ∨ ((∃ xs, SqT K H1 a xs) ∧ tFor (fun _ H2 R => R (Itt K a) H2) g tb D σ H1))) : tFor (iSeq K tl) g tb D σ H := h
theorem r_lcQ (h : tl σ H fun x H1 => ∃ a, x = .ref a ∧ (((∃ xs, SqL K H1 a xs) ∧ tLc (fun _ H2 R => R (Itl K a) H2) g tt te vs σ H1 Q) ∨ ((∃ xs, SqT K H1 a xs) ∧ tLc (fun _ H2 R => R (Itt K a) H2) g tt te vs σ H1 Q))) : tLc (iSeq K tl) g tt te vs σ H Q := h
end
/-- a list or a tuple stands at a -/
def Sq (K : PySem.W.Frag) (H : Hp) (a : Addr) (xs : List V) : Prop := SqL K H a xs ∨ SqT K H a xs
theorem Sq.same {K : PySem.W.Frag} {H H' : Hp} {a : Addr} {xs : List V} (h : Sq K H a xs) (s : Same H H') : Sq K H' a xs := by
  rcases h with h | h
  · exact .inl (Same.list s h)
  · exact .inr (Same.tup s h)
section
variable {K : PySem.W.Frag} {σ : L2.St} {H : Hp} {D : Ends} {g : TG} {tb : TS} {te tl : TE} {tt : TT} {vs : List Nat} {Q : VK} {a : Addr}
theorem r_forQs (xs : List V) (hq : Sq K H a xs) (Pv : Nat → L2.St → Hp → Prop) (h0 : Pv 0 σ H) (hl : ∀ i σ H', i ≤ xs.length → Pv i σ H' → Same H H')
    (hs : ∀ i x σ H', xs[i]? = some x → Pv i σ H' → g x σ H' fun σ2 H2 => tb { D with nx := Pv (i + 1), ct := Pv (i + 1), bk := D.nx } σ2 H2) (hd : ∀ σ H', Pv xs.length σ H' → D.nx σ H') :
    ((∃ xs, SqL K H a xs) ∧ tFor (fun _ H2 R => R (Itl K a) H2) g tb D σ H) ∨ ((∃ xs, SqT K H a xs) ∧ tFor (fun _ H2 R => R (Itt K a) H2) g tb D σ H) := by
  rcases hq with hq | hq
  · exact .inl ⟨⟨_, hq⟩, r_forLs xs Pv h0 (fun i σ H' hi p => Same.list (hl i σ H' hi p) hq) hs hd⟩
  · exact .inr ⟨⟨_, hq⟩, r_forTs xs Pv h0 (fun i σ H' hi p => Same.tup (hl i σ H' hi p) hq) hs hd⟩
theorem r_lcQs (xs : List V) (hq : Sq K H a xs) (Pv : Addr → Nat → Hp → Prop) (h0 : ∀ D, H D = none → Pv D 0 (upd H D (.lst []))) (hl : ∀ D i H', H D = none → i ≤ xs.length → Pv D i H' → Same H H')
    (hs : ∀ D i x H', H D = none → xs[i]? = some x → Pv D i H' → g x (wipe σ vs) H' fun σ2 H2 => wipe σ2 vs = wipe σ vs ∧ tt σ2 H2 fun b H3 =>
      if b = true then te σ2 H3 fun y H4 => ∃ acc, H4 D = some (.lst acc) ∧ acc.length < sizeLine ∧ Pv D (i + 1) (upd H4 D (.lst (acc ++ [y]))) else Pv D (i + 1) H3)
    (hd : ∀ D H', H D = none → Pv D xs.length H' → Q (.ref D) H') :
    ((∃ xs, SqL K H a xs) ∧ tLc (fun _ H2 R => R (Itl K a) H2) g tt te vs σ H Q) ∨ ((∃ xs, SqT K H a xs) ∧ tLc (fun _ H2 R => R (Itt K a) H2) g tt te vs σ H Q) := by
  rcases hq with hq | hq
  · exact .inl ⟨⟨_, hq⟩, r_lcLs xs Pv h0 (fun D i H' hD hi p => Same.list (hl D i H' hD hi p) hq) hs hd⟩
  · exact .inr ⟨⟨_, hq⟩, r_lcTs xs Pv h0 (fun D i H' hD hi p => Same.tup (hl D i H' hD hi p) hq) hs hd⟩
end
/-- where the lambdas of a def bear their name -/
def lamQ (x : Str) : Str := x ++ ".<locals>." ++ "<lambda>"
end Vf

namespace Vf
open PySem PySem.Spec PyProof.Rows L2
/-! ## list(zip(t, u)) of two tuples -/
theorem zip_len0 : typeLookup (.type "zip") "__len__" = pure none := am_miss_of_fast (by decide +kernel)
theorem zip_hint0 : typeLookup (.type "zip") "__length_hint__" = pure none := am_miss_of_fast (by decide +kernel)
/-- the pairs laid so far, all above S -/
structure PrsL (S : Nat) (xs ys : List Value) (h : Heap) (ad : List Nat) : Prop where
  inc : ad.Pairwise (· < ·)
  big : ∀ p : Nat, p ∈ ad → S < p
  prs : ∀ (j : Nat) (p : Nat), ad[j]? = some p → ∃ x y, xs[j]? = some x ∧ ys[j]? = some y ∧ IsPair h p x y
theorem PrsL.lt {S : Nat} {xs ys : List Value} {h : Heap} {ad : List Nat} (g : PrsL S xs ys h ad) {p : Nat} (hp : p ∈ ad) : p < h.objs.size := by
  obtain ⟨j, hj⟩ := List.mem_iff_getElem?.mp hp
  obtain ⟨x, y, _, _, e⟩ := g.prs j p hj
  exact Heap.lt_size e
theorem PrsL.stay {S : Nat} {xs ys : List Value} {h h' : Heap} {ad : List Nat} (g : PrsL S xs ys h ad) (k : ∀ (c : Nat) o, S < c → h.get? c = some o → h'.get? c = some o) : PrsL S xs ys h' ad :=
  ⟨g.inc, g.big, fun j p hj => by
    obtain ⟨x, y, e1, e2, e3⟩ := g.prs j p hj
    exact ⟨x, y, e1, e2, k _ _ (g.big p (List.mem_of_getElem? hj)) e3⟩⟩
theorem PrsL.snoc {S : Nat} {xs ys : List Value} {h : Heap} {ad : List Nat} {x y : Value} {q : Nat} (g : PrsL S xs ys h ad) (ex : xs[ad.length]? = some x) (ey : ys[ad.length]? = some y) (e : IsPair h q x y) (l1 : S < q) (l2 : ∀ p : Nat, p ∈ ad → p < q) : PrsL S xs ys h (ad ++ [q]) := by
  refine ⟨List.pairwise_append.mpr ⟨g.inc, List.pairwise_singleton _ _, fun a ha b hb => ?_⟩, fun p hp => ?_, fun j p hj => ?_⟩
  · rw [List.mem_singleton.mp hb]
    exact l2 a ha
  · rcases List.mem_append.mp hp with hp | hp
    · exact g.big p hp
    · rw [List.mem_singleton.mp hp]
      exact l1
  · by_cases c : j < ad.length
    · rw [List.getElem?_append_left c] at hj
      exact g.prs j p hj
    · by_cases c2 : j = ad.length
      · subst c2
        have z : q = p := by simpa using hj
        subst z
        exact ⟨x, y, ex, ey, e⟩
      · have z : (ad ++ [q])[j]? = none := List.getElem?_eq_none (by rw [List.length_append, List.length_singleton]; omega)
        rw [z] at hj
        cases hj
abbrev lsO (acc : Array Value) (c : Nat) : Obj := { cls := .type "list", dict := none, data := .seq acc c, slots := #[] }
section
variable {prog : Program} {w : World} {A : Around} {s : Shared} {R : Result → Shared → Prop} {u TI TO i1 i2 a b S : Nat} {xs ys : List Value}
theorem ZTn.stay {i : Nat} {h h' : Heap} (st : ZTn u TI TO i1 i2 a b i h) (k : ∀ (c : Nat) o, (c = u ∨ c = TI ∨ c = TO ∨ c = i1 ∨ c = i2) → h.get? c = some o → h'.get? c = some o) : ZTn u TI TO i1 i2 a b i h' := by
  obtain ⟨⟨f0, f1, p0, p1, zz⟩, ti, ⟨x, y, to⟩, h1, h2⟩ := st
  exact ⟨⟨f0, f1, p0, p1, k u _ (by simp) zz⟩, k TI _ (by simp) ti, ⟨x, y, k TO _ (by simp) to⟩, h1.at fun o q => k i1 o (by simp) q, h2.at fun o q => k i2 o (by simp) q⟩
theorem zl_loop (hh : A.handled = none) (D : ZipApart u TI TO i1 i2 a b) (lu : u < S) (lI : TI < S) (lO : TO < S) (l1 : i1 < S) (l2 : i2 < S) (la : a < S) (lb : b < S) (res : Value) {h₁ : Heap} {n : Nat} (en : n = min xs.length ys.length) (hn : n ≤ sizeLine)
    (hR : ∀ h' tk acc c ad, (∀ (d : Nat) o, d < S → d ≠ u → d ≠ TO → d ≠ i1 → d ≠ i2 → h₁.get? d = some o → h'.get? d = some o) → h'.get? S = some (lsO acc c) → ad.length = n → PrsL S xs ys h' ad → acc.toList = ad.map Value.ref → R (.ok (.ret res)) { s with heap := h', toks := tk }) :
    ∀ (k i : Nat) (h : Heap) (tk c : Nat) (acc : Array Value) (ad : List Nat), n - i = k → i ≤ n → ZTn u TI TO i1 i2 a b i h → h.IsTuple a xs.toArray → h.IsTuple b ys.toArray → (∀ (d : Nat) o, d < S → d ≠ u → d ≠ TO → d ≠ i1 → d ≠ i2 → h₁.get? d = some o → h.get? d = some o) →
      h.get? S = some (lsO acc c) → acc.toList = ad.map Value.ref → ad.length = i → PrsL S xs ys h ad → codeAny (model prog w) A (.builtin "list.extend.loop" ⟨[.ref S, .ref u, res], []⟩) R { s with heap := h, toks := tk } := by
  have hne : ∀ d : Nat, S ≤ d → d ≠ u ∧ d ≠ TO ∧ d ≠ i1 ∧ d ≠ i2 := fun d h => ⟨Nat.ne_of_gt (Nat.lt_of_lt_of_le lu h), Nat.ne_of_gt (Nat.lt_of_lt_of_le lO h), Nat.ne_of_gt (Nat.lt_of_lt_of_le l1 h), Nat.ne_of_gt (Nat.lt_of_lt_of_le l2 h)⟩
  have aS := hne S (Nat.le_refl _)
  intro k
  induction k with
  | zero =>
    intro i h tk c acc ad hk hi st ta tb kp hS ha hl G
    have hin : i = n := by omega
    obtain ⟨⟨f0, f1, p0, p1, zz⟩, ti, ⟨x0, y0, to⟩, t1, t2⟩ := st
    have no : xs.toArray[i]? = none ∨ ys.toArray[i]? = none := by
      by_cases c : xs.length ≤ ys.length
      · exact .inl (by simp; omega)
      · exact .inr (by simp; omega)
    refine codeAny_builtin PySem.F.entry_extend_loop ?_
    rw [Around.under_plainId PySem.F.plain_extend_loop _]
    show wpAny _ _ (pyNext (.ref u) >>= _) _ _ _
    refine wpAny_bind (zp_end (s := { s with heap := h, toks := tk }) (A := A.in1) hh D p0 p1 zz ti to t1 t2 ta tb no fun h' ze => wpAny_pure ?_)
    exact hR h' tk acc c ad (fun d o c0 c1 c2 c3 c4 e => ze d o c1 c2 c3 c4 (kp d o c0 c1 c2 c3 c4 e)) (ze S _ aS.1 aS.2.1 aS.2.2.1 aS.2.2.2 hS) (by omega) (G.stay fun d o ld e => let z := hne d (Nat.le_of_lt ld); ze d o z.1 z.2.1 z.2.2.1 z.2.2.2 e) ha
  | succ k ih =>
    intro i h tk c acc ad hk hi st ta tb kp hS ha hl G
    obtain ⟨⟨f0, f1, p0, p1, zz⟩, ti, ⟨x0, y0, to⟩, t1, t2⟩ := st
    have ix : i < xs.length := by omega
    have iy : i < ys.length := by omega
    have sz : acc.size = i := by rw [← Array.length_toList, ha, List.length_map, hl]
    refine codeAny_builtin PySem.F.entry_extend_loop ?_
    rw [Around.under_plainId PySem.F.plain_extend_loop _]
    show wpAny _ _ (pyNext (.ref u) >>= _) _ _ _
    refine wpAny_bind (zp_item (s := { s with heap := h, toks := tk }) (x := xs[i]) (y := ys[i]) D p0 p1 zz ti to t1 t2 ta tb (by simp [ix]) (by simp [iy]) fun h' zn => ?_)
    obtain ⟨z', ⟨tx, ty, to'⟩, n1, n2, np, sz', kp'⟩ := zn
    dsimp only at np sz' kp' ⊢
    have lS : S < h.objs.size := Heap.lt_size hS
    have hS' := kp' S _ aS.1 aS.2.1 aS.2.2.1 aS.2.2.2 hS
    have up : ∀ (d : Nat) o, d ≠ S → h'.get? d = some o → (h'.update S (Obj.mapSeq (·.push (Value.ref h.objs.size)))).get? d = some o := fun d o ne e => (Heap.get?_update_other _ _ (Ne.symm ne)).trans e
    show wpAny _ _ (updateSeq S (·.push (Value.ref h.objs.size)) >>= _) _ _ _
    refine wpAny_bind (wpAny_updateSeq hS' rfl (wpAny_pure ⟨plainId_quiet PySem.F.plain_extend_loop _, ?_⟩) (by rw [sz]; omega) (by show (acc.push (Value.ref h.objs.size)).size ≤ sizeLine + 1; rw [Array.size_push, sz]; omega))
    refine ih (i + 1) _ tk _ (acc.push (Value.ref h.objs.size)) (ad ++ [h.objs.size]) (by omega) (by omega) ?_ ?_ ?_ (fun d o c0 c1 c2 c3 c4 e => up d o (Nat.ne_of_lt c0) (kp' d o c1 c2 c3 c4 (kp d o c0 c1 c2 c3 c4 e))) (Heap.get?_update_self _ hS' rfl) (by rw [Array.toList_push, ha, List.map_append]; rfl) (by rw [List.length_append, hl]; rfl) ?_
    · exact ZTn.stay ⟨z', kp' TI _ D.TIz D.TITO D.TIi1 D.TIi2 ti, ⟨tx, ty, to'⟩, n1, n2⟩ fun d o c e => up d o (by rcases c with c | c | c | c | c <;> (subst c; exact Nat.ne_of_lt (by assumption))) e
    · exact (ta.at fun o e => up a o (Nat.ne_of_lt la) (kp' a o D.l1z D.l1TO D.l1i1 D.l1i2 e))
    · exact (tb.at fun o e => up b o (Nat.ne_of_lt lb) (kp' b o D.l2z D.l2TO D.l2i1 D.l2i2 e))
    · exact ((G.stay fun d o ld e => let z := hne d (Nat.le_of_lt ld); kp' d o z.1 z.2.1 z.2.2.1 z.2.2.2 e).stay fun d o ld e => up d o (Nat.ne_of_gt ld) e).snoc (by rw [hl]; simp [ix]) (by rw [hl]; simp [iy]) (up _ _ (Nat.ne_of_gt lS) np) lS fun p hp => G.lt hp
theorem zl_call {E : Value → Shared → Prop} {Q : Value → Shared → Prop} (hh : A.handled = none) (D : ZipApart u TI TO i1 i2 a b) {i : Nat} (e0 : i = 0) (st : ZTn u TI TO i1 i2 a b i s.heap) (ta : s.heap.IsTuple a xs.toArray) (tb : s.heap.IsTuple b ys.toArray) (hn : min xs.length ys.length ≤ sizeLine)
    (hQ : ∀ h' tk acc c ad, (∀ (d : Nat) o, d ≠ u → d ≠ TO → d ≠ i1 → d ≠ i2 → s.heap.get? d = some o → h'.get? d = some o) → h'.get? s.heap.objs.size = some (lsO acc c) → ad.length = min xs.length ys.length → PrsL s.heap.objs.size xs ys h' ad → acc.toList = ad.map Value.ref → Q (.ref s.heap.objs.size) { s with heap := h', toks := tk }) :
    wpAny (model prog w) A (call (.type "list") [.ref u]) Q E s := by
  subst e0
  obtain ⟨⟨f0, f1, p0, p1, zz⟩, ti, ⟨x0, y0, to⟩, t1, t2⟩ := id st
  generalize eS : s.heap.objs.size = S at *
  have lu : u < S := eS ▸ Heap.lt_size zz
  have lI : TI < S := eS ▸ Heap.lt_size ti
  have lO : TO < S := eS ▸ Heap.lt_size to
  have k1 : i1 < S := by
    obtain ⟨_, q, _⟩ := t1
    exact eS ▸ Heap.lt_size q
  have k2 : i2 < S := by
    obtain ⟨_, q, _⟩ := t2
    exact eS ▸ Heap.lt_size q
  have la : a < S := by
    obtain ⟨_, q, _⟩ := ta
    exact eS ▸ Heap.lt_size q
  have lb : b < S := by
    obtain ⟨_, q, _⟩ := tb
    exact eS ▸ Heap.lt_size q
  refine callType_codes (Q₁ := fun obj s1 => obj = .ref S ∧ s1 = { s with heap := s.heap.push (lsO #[] 0) }) PySem.F.called_list (PySem.F.typeCall_list_1 _) PySem.F.entry_list_init (by rw [← eS]; exact code_list_new _ ⟨rfl, rfl⟩) fun obj s1 g1 => ?_
  obtain ⟨rfl, rfl⟩ := g1
  have hS : (s.heap.push (lsO #[] 0)).get? S = some (lsO #[] 0) := eS ▸ Heap.get?_push_size _ rfl
  refine ⟨⟨_, hS, rfl⟩, PySem.F.args_list_init_2 _ _, ?_⟩
  show wpAny _ _ (do let old ← Builtin.List.listItems (.ref S); Builtin.List.listUpdate (.ref S) (fun _ => #[]); letGo old.toList.reverse; Builtin.List.listExtendWith (.ref S) (.ref u) .none) _ _ _
  refine wpAny_bind ?_
  unfold Builtin.List.listItems
  refine wpAny_bind (wpAny_seqItems hS rfl (wpAny_pure ?_))
  show wpAny _ _ (updateSeq S (fun _ => #[]) >>= fun _ => letGo (#[] : Array Value).toList.reverse >>= fun _ => Builtin.List.listExtendWith (.ref S) (.ref u) .none) _ _ _
  refine wpAny_bind (wpAny_updateSeq hS rfl ?_)
  have hS2 := Heap.get?_update_self (Obj.mapSeq (fun _ => (#[] : Array Value))) hS rfl
  refine wpAny_bind (wpAny_letGo ?_)
  unfold Builtin.List.listExtendWith
  have up : ∀ (h : Heap) (f : Obj → Obj), (∀ (d : Nat) o, s.heap.get? d = some o → h.get? d = some o) → ∀ (d : Nat) o, s.heap.get? d = some o → (h.update S f).get? d = some o := fun h f q d o e =>
    (Heap.get?_update_other _ _ (Ne.symm (Nat.ne_of_lt (eS ▸ Heap.lt_size e)))).trans (q d o e)
  have g1 : ∀ (d : Nat) o, s.heap.get? d = some o → (s.heap.push (lsO #[] 0)).get? d = some o := fun d o e => Heap.get?_push_of_some _ e
  have g2 := up _ (Obj.mapSeq (fun _ => (#[] : Array Value))) g1
  have ty : ∀ {s' : Shared}, (∀ (d : Nat) o, s.heap.get? d = some o → s'.heap.get? d = some o) → s'.TypeIs (.ref u) "zip" := fun q => ⟨_, q _ _ zz, rfl⟩
  refine wpAny_bind (wpAny_typeOf (ty g2) ?_)
  have n1 : Builtin.List.listSameRef (.ref S) (.ref u) = false := by simp only [Builtin.List.listSameRef]; exact beq_false_of_ne (Nat.ne_of_gt lu)
  have n2 : (Value.type "zip" == Value.type "list") = false := by decide
  have n3 : (Value.type "zip" == Value.type "tuple") = false := by decide
  simp only [n1, n2, n3, Bool.or_false, Bool.false_eq_true, if_false]
  refine wpAny_bind (z_iter (f0 := f0) (f1 := f1) (TI := TI) (TO := TO) (g2 _ _ zz) ?_)
  refine wpAny_bind (wpAny_holding ?_)
  unfold Builtin.List.listLengthHint
  refine wpAny_bind (wpAny_specialOf (ty g2) zip_len0 ?_)
  show wpAny _ _ (specialOf (Value.ref u) (Str.ofString "__length_hint__") >>= _) _ _ _
  refine wpAny_bind (wpAny_specialOf (ty g2) zip_hint0 ?_)
  refine wpAny_pure ?_
  show wpAny _ _ (rule "list.extend.makes-room" >>= fun _ => Builtin.List.listTouch (.ref S) >>= fun _ => again (.builtin "list.extend.loop" ⟨[.ref S, .ref u, .none], []⟩)) _ _ _
  refine wpAny_bind (wpAny_rule ?_)
  refine wpAny_bind ?_
  show wpAny _ _ (updateSeq S (·.push .none) >>= fun _ => updateSeq S (·.pop)) _ _ _
  refine wpAny_bind (wpAny_updateSeq hS2 rfl ?_)
  have hS3 := Heap.get?_update_self (Obj.mapSeq (·.push Value.none)) hS2 rfl
  refine wpAny_updateSeq (hz := by seq_fits) hS3 rfl ?_
  have hS4 := Heap.get?_update_self (Obj.mapSeq (·.pop)) hS3 rfl
  have g4 := up _ (Obj.mapSeq (·.pop)) (up _ (Obj.mapSeq (·.push Value.none)) g2)
  refine wpAny_pure ⟨plainId_quiet PySem.F.plain_extend_loop _, ?_⟩
  refine zl_loop (s := s) (h₁ := s.heap) (A := A.in1) hh D lu lI lO k1 k2 la lb .none rfl hn (fun h' tk acc c ad kp e1 e2 e3 e4 => ⟨rfl, hQ h' tk acc c ad (fun d o c1 c2 c3 c4 e => kp d o (eS ▸ Heap.lt_size e) c1 c2 c3 c4 e) e1 e2 e3 e4⟩)
    _ 0 _ _ _ #[] [] rfl (Nat.zero_le _) (ZTn.stay st fun d o _ e => g4 d o e) (ta.at fun o e => g4 a o e) (tb.at fun o e => g4 b o e) (fun d o _ _ _ _ _ e => g4 d o e) hS4 rfl rfl ⟨List.Pairwise.nil, (fun _ z => nomatch z), (fun j p z => by simp at z)⟩
end
section
variable {X : Cx} {pins : List (Addr × Obj)} {σ : L2.St} {H H' : Hp} {s : Shared} {h' : Heap}
/-- several new objects are laid at once -/
theorem laidN {t' : Nat} (I : Inv X pins σ H s) (k : ∀ b o, s.heap.get? b = some o → h'.get? b = some o) (old : ∀ b, b < s.heap.objs.size → H' b = H b)
    (new : ∀ b u, s.heap.objs.size ≤ b → H' b = some u → ObjOk X.prog X.w H' h' b u) : Inv X pins σ H' { s with heap := h', toks := t' } := by
  have same : ∀ b u, H b = some u → H' b = some u := fun b u e => (old b (I.hok.lt e)).trans e
  refine I.step (g' := s.gens) (d' := s.drawn) (ch := []) (fun b hb => nomatch hb) (fun b o _ _ _ e _ => k b o e) (fun b o _ _ _ e _ => ⟨o.slots, k b o e⟩)
    (fun b o _ e n => (old b (Heap.lt_size e)).trans n) (fun b o _ e => ⟨o, k b o e⟩) (fun b _ e => same b _ e) (fun b _ _ e => same b _ e) (fun b ps e => ⟨#[], by rw [same b _ e]; simp⟩) (fun m hm => ?_) (fun b u e => ?_) I.bare
  · obtain ⟨o, es, ep, ho, r⟩ := hm
    exact ⟨o, es, ep, k _ o ho, r⟩
  · by_cases c : b < s.heap.objs.size
    · rw [old b c] at e
      exact (I.hok b u e).stay (fun d v _ q => k d v q) (fun d q => same d _ q) fun d _ q => same d _ q
    · exact new b u (Nat.le_of_not_lt c) e
end
end Vf
namespace Vf
open PySem PySem.Spec PyProof.Rows L2
/-- what lies at the pairs' places -/
def tblP (ad : List Nat) (xs ys : List V) (q : Nat) : Option HO := ((ad.zip (xs.zip ys)).find? fun e => e.1 == q).map fun e => HO.tup [e.2.1, e.2.2]
theorem tblP_some {ad : List Nat} {xs ys : List V} {q : Nat} {o : HO} (h : tblP ad xs ys q = some o) : ∃ (j : Nat) (x y : V), ad[j]? = some q ∧ xs[j]? = some x ∧ ys[j]? = some y ∧ o = .tup [x, y] := by
  unfold tblP at h
  obtain ⟨e, he, rfl⟩ := Option.map_eq_some_iff.mp h
  have h1 := List.find?_some he
  have h2 := List.mem_of_find?_eq_some he
  obtain ⟨j, hj⟩ := List.mem_iff_getElem?.mp h2
  obtain ⟨p, x, y⟩ := e
  obtain ⟨e1, e2⟩ := List.getElem?_zip_eq_some.mp hj
  obtain ⟨e3, e4⟩ := List.getElem?_zip_eq_some.mp e2
  have z : p = q := by simpa using h1
  subst z
  exact ⟨j, x, y, e1, e3, e4, rfl⟩
theorem tblP_at {ad : List Nat} {xs ys : List V} (inc : ad.Pairwise (· < ·)) {j : Nat} {p : Nat} {x y : V} (e1 : ad[j]? = some p) (e2 : xs[j]? = some x) (e3 : ys[j]? = some y) : tblP ad xs ys p = some (.tup [x, y]) := by
  cases h : tblP ad xs ys p with
  | none =>
    exfalso
    unfold tblP at h
    have h1 := Option.map_eq_none_iff.mp h
    have h2 := List.find?_eq_none.mp h1 (p, x, y) (List.mem_of_getElem? (i := j) (List.getElem?_zip_eq_some.mpr ⟨e1, List.getElem?_zip_eq_some.mpr ⟨e2, e3⟩⟩))
    simp at h2
  | some o =>
    obtain ⟨i, x', y', a1, a2, a3, rfl⟩ := tblP_some h
    have ij : i = j := by
      rw [List.pairwise_iff_getElem] at inc
      obtain ⟨li, gi⟩ := List.getElem?_eq_some_iff.mp a1
      obtain ⟨lj, gj⟩ := List.getElem?_eq_some_iff.mp e1
      rcases Nat.lt_trichotomy i j with c | c | c
      · have := inc i j li lj c
        rw [gi, gj] at this
        exact absurd this (Nat.lt_irrefl _)
      · exact c
      · have := inc j i lj li c
        rw [gi, gj] at this
        exact absurd this (Nat.lt_irrefl _)
    subst ij
    rw [a2] at e2
    rw [a3] at e3
    cases e2
    cases e3
    rfl
def lzH (H : Hp) (sz l : Nat) (ad : List Nat) (xs ys : List V) : Hp := fun q => if q < sz then H q else if q = l then some (.lst (ad.map V.ref)) else tblP ad xs ys q
/-- list(zip(t, u)) -/
def tListZip (K : PySem.W.Frag) (ta : TA) : TE := fun σ H Q => ta σ H fun vs H1 => ∃ a b xs ys, vs = [.ref a, .ref b] ∧ SqT K H1 a xs ∧ SqT K H1 b ys ∧
  ∀ (l : Nat) (ad : List Nat) H2, Same H1 H2 → H1 l = none → H2 l = some (.lst (ad.map V.ref)) → ad.length = min xs.length ys.length → (∀ (j : Nat) (p : Nat) (x y : V), ad[j]? = some p → xs[j]? = some x → ys[j]? = some y → H1 p = none ∧ H2 p = some (.tup [x, y])) → Q (.ref l) H2
theorem Vals_refs : ∀ ad : List Nat, Vals (ad.map V.ref) (ad.map Value.ref)
  | [] => .nil
  | a :: ad => .cons rfl (Vals_refs ad)
theorem pe_listZip {X : Cx} {K : PySem.W.Frag} {e e2 : Expr} {ta : TA} {p p2 pos2 pos : Pos} (ek : X.K = K) (hc : X.calm = true) (hg : Gl X "zip") (hm : X.mg "zip" = none) (hg2 : Gl X "list") (hm2 : X.mg "list" = none) (ha : PA X [e, e2] ta)
    (hs : starEach [e, e2] X.env = (false, eval e X.env) :: starEach [e2] X.env := by rfl) (hp : (backTo pos2 (starEach [e2] X.env)).any (·.1) = false := by rfl)
    (na : starEach [.Call (.Name "zip" p2) [e, e2] [] pos2] X.env = (false, eval (.Call (.Name "zip" p2) [e, e2] [] pos2) X.env) :: starEach [] X.env := by rfl) :
    PE X (.Call (.Name "list" p) [.Call (.Name "zip" p2) [e, e2] [] pos2] [] pos) (tListZip K ta) := by
  subst ek
  refine ⟨fun pins s σ H Q I h => ?_⟩
  refine Call_ (ld_blt I hg2 hm2 PyProof.Rows.boot_list ?_)
  refine PyProof.Rows.callWith_type1 (PyProof.Rows.args_cons ?_ na) na rfl
  refine Call_ (ld_blt I hg hm PyProof.Rows.boot_zip (PyProof.Rows.callWith_type1 (thn (ha.run pos2 pins s σ H _ I h) fun us s1 ⟨vs, H1, I1, r1, q1⟩ => ?_) hs hp))
  obtain ⟨a, b, xs, ys, rfl, qx, qy, q⟩ := q1
  obtain ⟨ua, ub, rfl, ra, rb⟩ : ∃ ua ub, us = [ua, ub] ∧ RelV (.ref a) ua ∧ RelV (.ref b) ub := by
    cases r1 with
    | cons r rr =>
      cases rr with
      | cons r' rr =>
        cases rr
        exact ⟨_, _, rfl, r, r'⟩
  cases ra
  cases rb
  obtain ⟨its, rv, tp, hz1⟩ := I1.tuple qx
  obtain ⟨its2, rv2, tp2, hz2⟩ := I1.tuple qy
  have hB : ∀ B d : Nat, d < B → d ≠ B + 4 ∧ d ≠ B + 3 ∧ d ≠ B ∧ d ≠ B + 1 := fun B d h => by omega
  have le1 := rv.length
  have le2 := rv2.length
  have la : a < s1.heap.objs.size := tp.lt
  have lb : b < s1.heap.objs.size := tp2.lt
  refine RZ.call_zipT tp tp2 fun m hz hTI hTO n1 n2 hsz hk => ?_
  refine PyProof.Rows.args_nil ?_
  have D := PySem.W.ktu_apart s1.heap.objs.size a b la lb
  have st : ZTn (s1.heap.objs.size + 4) (s1.heap.objs.size + 2) (s1.heap.objs.size + 3) s1.heap.objs.size (s1.heap.objs.size + 1) a b 0 m := ⟨⟨.none, .bool false, .inl rfl, ⟨false, rfl⟩, hz⟩, hTI, ⟨_, _, hTO⟩, n1, n2⟩
  refine zl_call (s := { s1 with heap := m }) (xs := its) (ys := its2) (I1.ok.hd hc) D rfl st (let ⟨o, z, r⟩ := tp; ⟨o, hk _ _ z, r⟩) (let ⟨o, z, r⟩ := tp2; ⟨o, hk _ _ z, r⟩) (Nat.le_trans (Nat.min_le_left _ _) (le1 ▸ hz1)) fun h' tk acc c ad kp hl el G ea => ?_
  dsimp only at kp hl G ⊢
  rw [← le1, ← le2] at el
  have sS : m.objs.size = s1.heap.objs.size + 5 := hsz
  have G2 := G.prs
  have big := G.big
  have ltS : ∀ {p : Nat}, p ∈ ad → s1.heap.objs.size ≤ p ∧ m.objs.size ≠ p := fun hp => by
    have := big _ hp
    exact ⟨by omega, by omega⟩
  have I2 : Inv X pins σ (lzH H1 s1.heap.objs.size m.objs.size ad xs ys) { s1 with heap := h', toks := tk } := by
    refine laidN I1 (fun d o w => let z := hB _ d (Heap.lt_size w); kp d o z.1 z.2.1 z.2.2.1 z.2.2.2 (hk d o w)) (fun d hd => if_pos hd) fun d o hd ho => ?_
    unfold lzH at ho
    rw [if_neg (Nat.not_lt.mpr hd)] at ho
    by_cases c2 : d = m.objs.size
    · subst c2
      rw [if_pos rfl] at ho
      cases ho
      have hlen : acc.size = ad.length := by rw [← Array.length_toList, ea, List.length_map]
      refine ⟨?_, ad.map Value.ref, c, Vals_refs ad, ?_⟩
      · rw [List.length_map, el]
        omega
      · rw [← ea]
        exact hl
    · rw [if_neg c2] at ho
      obtain ⟨j, x, y, e1, e3, e4, rfl⟩ := tblP_some ho
      obtain ⟨x', y', f1, f2, f3⟩ := G2 j d e1
      obtain ⟨v1, g1, w1⟩ := rv.get e3
      obtain ⟨v2, g2, w2⟩ := rv2.get e4
      rw [f1] at g1
      rw [f2] at g2
      cases g1
      cases g2
      exact ⟨by show 2 ≤ sizeLine; decide, [x', y'], .cons w1 (.cons w2 .nil), ⟨_, f3, rfl, _, rfl⟩⟩
  have fr : ∀ {d : Nat}, s1.heap.objs.size ≤ d → H1 d = none := fun hd => I1.hok.fresh hd
  refine ⟨.ref m.objs.size, _, I2, rfl, q m.objs.size ad _ (fun d o w => ?_) (fr (sS ▸ Nat.le_add_right _ _)) ?_ el fun j p x y e1 e3 e4 => ?_⟩
  · unfold lzH
    rw [if_pos (I1.hok.lt w)]
    exact w
  · unfold lzH
    rw [if_neg (Nat.not_lt.mpr (sS ▸ Nat.le_add_right _ _)), if_pos rfl]
  · have hp := ltS (List.mem_of_getElem? e1)
    refine ⟨fr hp.1, ?_⟩
    unfold lzH
    rw [if_neg (Nat.not_lt.mpr hp.1), if_neg (fun z => hp.2 z.symm)]
    exact tblP_at G.inc e1 e3 e4
theorem r_listZip {K : PySem.W.Frag} {ta : TA} {σ : L2.St} {H : Hp} {Q : VK} (h : ta σ H fun vs H1 => ∃ a b xs ys, vs = [.ref a, .ref b] ∧ SqT K H1 a xs ∧ SqT K H1 b ys ∧
  ∀ (l : Nat) (ad : List Nat) H2, Same H1 H2 → H1 l = none → H2 l = some (.lst (ad.map V.ref)) → ad.length = min xs.length ys.length → (∀ (j : Nat) (p : Nat) (x y : V), ad[j]? = some p → xs[j]? = some x → ys[j]? = some y → H1 p = none ∧ H2 p = some (.tup [x, y])) → Q (.ref l) H2) : tListZip K ta σ H Q := h
theorem paired_of {α β : Type} {F : α → β → Prop} : ∀ {xs : List α} {ys : List β}, xs.length = ys.length → (∀ (j : Nat) (x : α) (y : β), xs[j]? = some x → ys[j]? = some y → F x y) → Paired F xs ys
  | [], [], _, _ => .nil
  | [], _ :: _, h, _ => by simp at h
  | _ :: _, [], h, _ => by simp at h
  | x :: xs, y :: ys, h, f => .cons (f 0 x y rfl rfl) (paired_of (by simpa using h) fun j a b e1 e2 => f (j + 1) a b (by simpa using e1) (by simpa using e2))
end Vf

namespace Vf
open PySem PySem.Spec PyProof.Rows L2
/-! ## sorted; the same data twice -/
section
variable {X : Cx} {K : PySem.W.Frag}
theorem c_sortedPO (e : X.K = K) : CallR X (.builtin "sorted") (rSortedPO K) := by subst e; exact cr_sortedPO
theorem c_sortedI (e : X.K = K) : CallR X (.builtin "sorted") (rSortedI K) := by subst e; exact cr_sortedI
end
section
variable {K : PySem.W.Frag} {H H' : Hp} {Q : VK}
/-- pairs of ints that lie in the heap itself -/
def PrsH (H : Hp) (vs : List V) (ps : List (Int × Int)) : Prop := Paired (fun v p => ∃ t, v = V.ref t ∧ H t = some (.tup [.int p.1, .int p.2])) vs ps
theorem PrsH.at_ {vs : List V} {ps : List (Int × Int)} (h : PrsH H vs ps) : PairsAt K H vs ps := by
  induction h with
  | nil => exact .nil
  | cons h1 h2 ih =>
    obtain ⟨t, e, z⟩ := h1
    exact .cons ⟨t, e, SqT.of z⟩ ih
theorem PrsH.mono {vs : List V} {ps : List (Int × Int)} (h : PrsH H vs ps) (k : ∀ t xs, H t = some (.tup xs) → H' t = some (.tup xs)) : PrsH H' vs ps := by
  induction h with
  | nil => exact .nil
  | cons h1 h2 ih =>
    obtain ⟨t, e, z⟩ := h1
    exact .cons ⟨t, e, k _ _ z⟩ ih
theorem PrsH.snoc {vs : List V} {ps : List (Int × Int)} {t : Addr} {p : Int × Int} (h : PrsH H vs ps) (e : H t = some (.tup [.int p.1, .int p.2])) : PrsH H (vs ++ [.ref t]) (ps ++ [p]) := by
  induction h with
  | nil => exact .cons ⟨t, rfl, e⟩ .nil
  | cons h1 h2 ih => exact .cons h1 ih
theorem PrsH.len {vs : List V} {ps : List (Int × Int)} (h : PrsH H vs ps) : vs.length = ps.length := Paired.length h
theorem paired_get {α β : Type} {F : α → β → Prop} : ∀ {xs : List α} {ys : List β} {j : Nat} {x : α}, Paired F xs ys → xs[j]? = some x → ∃ y, ys[j]? = some y ∧ F x y
  | _, _, 0, _, .cons h _, e => ⟨_, rfl, by cases e; exact h⟩
  | _, _, j + 1, _, .cons _ t, e => paired_get (j := j) t e
  | _, _, _, _, .nil, e => by simp at e
/-- what pair stands at a value -/
def kyP (H : Hp) : V → Int × Int
  | .ref t => match H t with
    | some (.tup [.int i, .int j]) => (i, j)
    | _ => (0, 0)
  | _ => (0, 0)
theorem kyP_of {t : Addr} {i j : Int} (h : H t = some (.tup [.int i, .int j])) : kyP H (.ref t) = (i, j) := by
  simp only [kyP, h]
theorem PrsH.srtd {vs : List V} {ps : List (Int × Int)} (h : PrsH H vs ps) (asc : ps.Pairwise fun p q => SrtO.lexB q p = false) : SrtO.Srtd (ltP (kyP H)) vs := by
  induction h with
  | nil => exact .nil
  | @cons v p vs ps h1 h2 ih =>
    obtain ⟨a1, a2⟩ := List.pairwise_cons.mp asc
    refine List.pairwise_cons.mpr ⟨fun u hu => ?_, ih a2⟩
    obtain ⟨t, rfl, e⟩ := h1
    have key : ∀ {vs : List V} {ps : List (Int × Int)}, PrsH H vs ps → u ∈ vs → ∃ q, q ∈ ps ∧ kyP H u = q := by
      intro vs ps hp
      induction hp with
      | nil => exact fun z => nomatch z
      | cons g1 g2 ih2 =>
        intro z
        rcases List.mem_cons.mp z with z | z
        · obtain ⟨t', rfl, e'⟩ := g1
          subst z
          exact ⟨_, List.mem_cons_self, kyP_of e'⟩
        · obtain ⟨q, hq, r⟩ := ih2 z
          exact ⟨q, List.mem_cons_of_mem _ hq, r⟩
    obtain ⟨q, hq, r⟩ := key h2 hu
    show SrtO.lexB (kyP H u) (kyP H (.ref t)) = false
    rw [r, kyP_of e]
    exact a1 q hq
/-- sorted of pairs that ascend already -/
theorem r_sortedP {a : Addr} {vs : List V} {ps : List (Int × Int)} (h1 : SqL K H a vs) (h2 : PrsH H vs ps) (asc : ps.Pairwise fun p q => SrtO.lexB q p = false) (h : ∀ p, H p = none → Q (.ref p) (upd H p (.lst vs))) : rSortedPO K [.ref a] H Q := by
  refine ⟨a, vs, kyP H, rfl, h1, fun x hx => ?_, fun ys p g1 g2 hp => ?_⟩
  · obtain ⟨j, hj⟩ := List.mem_iff_getElem?.mp hx
    obtain ⟨q, _, t, rfl, e⟩ := paired_get h2 hj
    rw [kyP_of e]
    exact ⟨t, rfl, e⟩
  · rw [SrtO.stb_uniq (ltP_swo _) g1 (h2.srtd asc) g2]
    exact h p hp
theorem shaped_of {d : PyData} (h1 : d.canLay0 = true) (h2 : d.depth ≤ 64) : SeqAt.shaped d = true := by
  unfold SeqAt.shaped
  rw [Bool.and_eq_true]
  exact ⟨h1, decide_eq_true h2⟩
theorem r_eqSame {x y : V} (d : PyData) (h1 : Dp K H x d) (h2 : Dp K H y d) (h3 : d.canLay0 = true) (h4 : d.depth ≤ 64) (h : Q (.bl true) H) : rEqD K x y H Q := by
  refine r_eqD h1 h2 (shaped_of h3 h4) (shaped_of h3 h4) ?_
  rw [SeqAt.eqv_refl d h3]
  exact h
theorem r_neSame {x y : V} (d : PyData) (h1 : Dp K H x d) (h2 : Dp K H y d) (h3 : d.canLay0 = true) (h4 : d.depth ≤ 64) (h : Q (.bl false) H) : rNeD K x y H Q := by
  refine r_neD h1 h2 (shaped_of h3 h4) (shaped_of h3 h4) ?_
  rw [SeqAt.eqv_refl d h3]
  exact h
end
end Vf

namespace Vf
open PySem PySem.Spec PyProof.Rows L2
/-! ## several except clauses, some of them with a name -/
abbrev Cls := Value × Option Nat × (Addr → Value → Option Addr → TS)
def offD (i : Nat) (D : Ends) : Ends := { nx := fun u G => D.nx (u.set i none) G, rt := D.rt, bk := fun u G => D.bk (u.set i none) G, ct := fun u G => D.ct (u.set i none) G }
def clsT (c : Cls) (a : Addr) (k : Value) (d : Option Addr) (D : Ends) (σ : L2.St) (H : Hp) : Prop := match c with
  | (_, none, ts) => ts a k d D σ H
  | (_, some i, ts) => ts a k d (offD i D) (σ.set i (some (.ref a))) H
def wMix (K : PySem.W.Frag) (Wout : WX) (D : Ends) : List Cls → WX
  | [] => Wout
  | c :: r => fun k d σ H => ∃ b, PySem.W.exmOne K k c.1 = some b ∧ (b = true → ∀ a, H a = none → clsT c a k d D σ H) ∧ (b = false → wMix K Wout D r k d σ H)
inductive Mix (X : Cx) : List ExceptHandler → List Cls → Prop
  | nil : Mix X [] []
  | plain {x : Str} {c : Value} {ts : Addr → Value → Option Addr → TS} {b0 : Stmt} {suite : List Stmt} {p1 p2 : Pos} {hds : List ExceptHandler} {l : List Cls} (hc : Names X x c)
      (su : ∀ (a : Addr) (oe : Obj) (k : Value) (d : Option Addr) (pn : List (Addr × Obj)), Zc k d oe → (∃ vs, oe.data = .fields vs) → PSs (X.suite a ((a, oe) :: pn)) (b0 :: suite) (ts a k d)) (r : Mix X hds l) :
      Mix X (.ExceptHandler (some (.Name x p1)) none (b0 :: suite) p2 :: hds) ((c, none, ts) :: l)
  | named {x n : Str} {i : Nat} {c : Value} {ts : Addr → Value → Option Addr → TS} {b0 : Stmt} {suite : List Stmt} {p1 p2 : Pos} {hds : List ExceptHandler} {l : List Cls} (hc : Names X x c) (hN : X.N.Nodup) (hi : X.N[i]? = some n) (hl : X.env.kindOf n = some .local)
      (su : ∀ (a : Addr) (oe : Obj) (k : Value) (d : Option Addr) (pn : List (Addr × Obj)), Zc k d oe → (∃ vs, oe.data = .fields vs) → PSs (X.suite a ((a, oe) :: pn)) (b0 :: suite) (ts a k d)) (r : Mix X hds l) :
      Mix X (.ExceptHandler (some (.Name x p1)) (some n) (b0 :: suite) p2 :: hds) ((c, some i, ts) :: l)
section
variable {X : Cx} {body : List Stmt} {h0 : ExceptHandler} {hds : List ExceptHandler} {l : List Cls} {pos : Pos} {tb : WX → TS} {Wout : WX}
theorem ps_try_mix (st : X.stack = X.env :: X.outer) (fm : X.env.frame = some X.env.locals) (tk : Takes X Wout)
    (hb : ∀ (W : WX) (pn : List (Addr × Obj)) (xe : Value → Shared → Prop), Takes (X.tr pn xe) W → PassesOwn (model X.prog X.w) X.A X.env xe → PSs (X.tr pn xe) body (tb W)) (hm : Mix X (h0 :: hds) l) :
    PS X (.Try body (h0 :: hds) [] [] pos) (fun D σ H => tb (wMix X.K Wout D l) D σ H) := by
  refine ⟨fun pins s σ H D I h => ?_⟩
  have ok := I.ok
  have fr : X.A.frames = some (X.env :: X.outer) := by rw [ok.frames, st]
  refine wpAny_Try_except ?_
  refine wpAny_mono ((hb (wMix X.K Wout D l) (X.pn ++ pins) (fun ev t1 => wpAny (model X.prog X.w) X.A (noteFrame ev X.env) (fun _ t2 => wpAny (model X.prog X.w) X.A (setFlight ev none) (fun _ t3 => wpAny (model X.prog X.w) X.A (handleBy ev X.env (h0 :: hds)) (SP X pins D) X.xe t3) X.xe t2) X.xe t1)
    (fun u t' xx => ?_) PassesOwn.looking).run [] s σ H D (I.toTry _) h) (fun f s1 hsp => ?_) (fun e s1 he => he)
  · obtain ⟨a, B, sI, pq, σ1, G, k, d, rfl, J0, nb, up, sky, na, os, ag, wi⟩ := xx
    have J : Inv X pins σ1 G sI := J0.ofTry ok
    have sky1 : Sky B (X.env :: X.outer) a (Zc k d) X.env.locals t'.heap := by rw [← st]; exact sky
    show wpAny (model X.prog X.w) X.A (noteFrame (.ref a) X.env) _ _ _
    refine Sky.land Zc.steady fr fm sky1 fun m3 fl3 up3 => ?_
    have J3 : Inv X pins σ1 G { t' with heap := m3 } := J.landed nb fl3.1 (up.trans up3) os ag
    obtain ⟨o3, v3, e3, z3, d3⟩ := fl3.there
    have nfs : ∀ {m : Heap} {o : Obj} {vs : Array Value}, m.FunFrames B (X.env :: X.outer) → m.get? a = some o → o.data = .fields vs → a ∉ frs (X.env :: X.outer) := fun {m o vs} ff e dd hm => by
      obtain ⟨_, o', e', hnf⟩ := ff.mem hm
      rw [e] at e'
      cases e'
      exact hnf _ dd
    have nfr := nfs fl3.2.2.1 e3 d3
    have nL : a ≠ X.env.locals := fun z => nfr (List.mem_filterMap.mpr ⟨X.env, List.mem_cons_self, by rw [fm, z]⟩)
    have nF : a ∉ X.fs := fun hm => by
      obtain ⟨e, he, q⟩ := List.mem_filterMap.mp hm
      exact nfr (List.mem_filterMap.mpr ⟨e, List.mem_cons_of_mem _ he, q⟩)
    have S3 := J3.suite e3 d3 na nL nF
    have LT : PySem.W.Looks (model X.prog X.w) m3 (typeOf (.ref a)) k := fun A Q E s kk q => wpAny_typeOf_ref (kk _ _ e3) (by rw [z3.1]; exact q)
    have tst : ∀ {x : Str} {c : Value} {np : Pos} {Q : Value → Shared → Prop} {E : Value → Shared → Prop}, Names X x c → Q c { t' with heap := m3 } → wpAny (model X.prog X.w) (X.A.mark (some (.ref a))) (eval (.Name x np) X.env) Q E { t' with heap := m3 } := fun {x c np Q E} hc q => by
      obtain ⟨hg, hdb, hm | ⟨hm, hv, hnn⟩⟩ := hc
      · exact ld_glob (X := X.suite a ((a, o3) :: (X.pn ++ pins))) S3 hg hm q hdb
      · exact ld_blt (X := X.suite a ((a, o3) :: (X.pn ++ pins))) S3 hg hm hv q hnn hdb
    have go : ∀ {hd' : List ExceptHandler} {l' : List Cls}, Mix X hd' l' → wMix X.K Wout D l' k d σ1 G → wpAny (model X.prog X.w) X.A (handleBy (.ref a) X.env hd') (SP X pins D) X.xe { t' with heap := m3 } := by
      intro hd' l' hk
      induction hk with
      | nil =>
        intro wi
        refine wpAny_handleBy_nil ?_
        obtain ⟨q1, q2, q3, oe, vs, T, oT, ts', he, hz, hd, g1, gr⟩ := id fl3
        unfold PySem.passOn
        refine wpAny_bind (wpAny_field he hd g1 ?_)
        rw [if_neg (show ¬ ((Value.ref T == Value.none) = true) by simp)]
        have fin : wpAny (model X.prog X.w) X.A (setFlight (.ref a) X.env.frame) (fun _ t4 => wpAny (model X.prog X.w) X.A (throw (.ref a) : Sem Flow) (SP X pins D) X.xe t4) X.xe { t' with heap := m3 } := by
          rw [fm]
          refine HandSPX.setFlight_upZ fl3 fun m4 hh4 up4 => wpAny_throw (tk _ _ ?_)
          exact ⟨a, B, sI, pins, σ1, G, k, d, rfl, J, nb, (up.trans up3).trans up4, .inr (.inr (by rw [st]; exact hh4)), na, os, ag, wi⟩
        first | exact wpAny_bind (wpAny_pure (wpAny_bind fin)) | exact wpAny_bind fin
      | @plain x c ts b0 suite p1 p2 hd2 l2 hc su r ih =>
        intro wi
        obtain ⟨b, b1, yes, no⟩ := wi
        refine wpAny_handleBy_cons (codeAny_handlers_test ?_) (fun q => nomatch q)
        have LM := PySem.W.exm_one (M := model X.prog X.w) (J3.kIn) LT b1
        refine tst hc (LM.here ?_)
        cases b with
        | true =>
          refine codeAny_handlers_suite <| HandSPX.lands_againZ fl3 fun m4 fl4 up4 => ?_
          have J4 : Inv X pins σ1 G { t' with heap := m4 } := J.landed nb fl4.1 ((up.trans up3).trans up4) os ag
          obtain ⟨o4, v4, e4, z4, d4⟩ := fl4.there
          have S4 := J4.suite e4 d4 na nL nF
          refine wpAny_mono ((su a o4 k d (X.pn ++ pins) z4 ⟨_, d4⟩).run [] _ _ G _ S4 (yes rfl a na)) (fun f s6 hsp => ?_) (fun _ _ z => False.elim z)
          cases f with
          | next => obtain ⟨u6, G6, S6, q6⟩ := hsp; exact ⟨_, _, S6.unsuite ok, q6⟩
          | brk => obtain ⟨u6, G6, S6, q6⟩ := hsp; exact ⟨_, _, S6.unsuite ok, q6⟩
          | cont => obtain ⟨u6, G6, S6, q6⟩ := hsp; exact ⟨_, _, S6.unsuite ok, q6⟩
          | ret u => obtain ⟨v6, u6, G6, S6, r6, q6⟩ := hsp; exact ⟨_, _, _, S6.unsuite ok, r6, q6⟩
        | false =>
          show wpAny _ X.A (handleBy (.ref a) X.env hd2) _ _ _
          exact ih (no rfl)
      | @named x n i c ts b0 suite p1 p2 hd2 l2 hc hN hi hl su r ih =>
        intro wi
        obtain ⟨b, b1, yes, no⟩ := wi
        refine wpAny_handleBy_cons (codeAny_handlers_test ?_) (fun q => nomatch q)
        have LM := PySem.W.exm_one (M := model X.prog X.w) (J3.kIn) LT b1
        refine tst hc (LM.here ?_)
        cases b with
        | true =>
          refine codeAny_handlers_suite_as <| HandSPX.lands_againZ fl3 fun m4 fl4 up4 => ?_
          have J4 : Inv X pins σ1 G { t' with heap := m4 } := J.landed nb fl4.1 ((up.trans up3).trans up4) os ag
          obtain ⟨o4, v4, e4, z4, d4⟩ := fl4.there
          have S4 := J4.suite e4 d4 na nL nF
          refine store_ok (X := X.suite a ((a, o4) :: (X.pn ++ pins))) (v := .ref a) S4 hN hi (.inl hl) rfl (fun s5 S5 => ?_) (.inr hl)
          refine wpAny_mono ((su a o4 k d (X.pn ++ pins) z4 ⟨_, d4⟩).run [] s5 _ G _ S5 (yes rfl a na)) (fun f s6 hsp => ?_) (fun _ _ z => False.elim z)
          have fin : ∀ {u6 : L2.St} {G6 : Hp} {Q : Shared → Prop}, Inv (X.suite a ((a, o4) :: (X.pn ++ pins))) [] u6 G6 s6 → (∀ s7, Inv X pins (u6.set i none) G6 s7 → Q s7) →
              wpAny (model X.prog X.w) X.A (do bindName X.env n .none; unbindBehindTheSuite X.env n p2) (fun _ s7 => Q s7) X.xe s6 := fun {u6 G6 Q} S6 hq => gone_ok (S6.unsuite ok) hN hi hl hq
          cases f with
          | next => obtain ⟨u6, G6, S6, q6⟩ := hsp; exact fin S6 fun s7 J7 => ⟨_, _, J7, q6⟩
          | brk => obtain ⟨u6, G6, S6, q6⟩ := hsp; exact fin S6 fun s7 J7 => ⟨_, _, J7, q6⟩
          | cont => obtain ⟨u6, G6, S6, q6⟩ := hsp; exact fin S6 fun s7 J7 => ⟨_, _, J7, q6⟩
          | ret u => obtain ⟨v6, u6, G6, S6, r6, q6⟩ := hsp; exact fin S6 fun s7 J7 => ⟨_, _, _, J7, r6, q6⟩
        | false =>
          show wpAny _ X.A (handleBy (.ref a) X.env hd2) _ _ _
          exact ih (no rfl)
    exact go hm wi
  · cases f with
    | next => obtain ⟨u1, G1, J1, q⟩ := hsp; exact wpAny_execs_nil ⟨u1, G1, J1.ofTry ok, q⟩
    | brk => obtain ⟨u1, G1, J1, q⟩ := hsp; exact ⟨u1, G1, J1.ofTry ok, q⟩
    | cont => obtain ⟨u1, G1, J1, q⟩ := hsp; exact ⟨u1, G1, J1.ofTry ok, q⟩
    | ret u => obtain ⟨v, u1, G1, J1, r, q⟩ := hsp; exact ⟨v, u1, G1, J1.ofTry ok, r, q⟩
end
section
variable {K : PySem.W.Frag} {c : Value} {Wout : WX} {D : Ends} {k : Value} {d : Option Addr} {σ : L2.St} {H : Hp} {ts : Addr → Value → Option Addr → TS} {l : List Cls}
theorem w_mixN (h1 : PySem.W.exmOne K k c = some true) (h : ∀ a, H a = none → ts a k d D σ H) : wMix K Wout D ((c, none, ts) :: l) k d σ H := ⟨true, h1, fun _ a ha => h a ha, fun z => Bool.noConfusion z⟩
theorem w_mixA {i : Nat} (h1 : PySem.W.exmOne K k c = some true) (h : ∀ a, H a = none → ts a k d (offD i D) (σ.set i (some (.ref a))) H) : wMix K Wout D ((c, some i, ts) :: l) k d σ H := ⟨true, h1, fun _ a ha => h a ha, fun z => Bool.noConfusion z⟩
theorem w_mixO {o : Option Nat} (h1 : PySem.W.exmOne K k c = some false) (h : wMix K Wout D l k d σ H) : wMix K Wout D ((c, o, ts) :: l) k d σ H := ⟨false, h1, fun z => Bool.noConfusion z, fun _ => h⟩
end
/-! ## an own exception class without own __init__, made with nothing -/
structure EC0 (K : PySem.W.Frag) (C : Addr) (tail : List Value) (nid : String) : Prop where
  q : PySem.W.excIn K C tail nid = true
  kk : PySem.W.keepIn K (.ref C) = true
  ba : PySem.W.subIn K (.ref C) (.type "BaseException") = some true
  tt : PySem.W.typeIn K (.ref C) = some (.type "type")
theorem pmk_ec0 {X : Cx} {C : Addr} {tail : List Value} {B nid iid : String} {x : Str} {p pos : Pos} (T : EC0 X.K C tail nid) (F : ExcBaseFacts B nid iid tail) (hg : Gl X x) (hm : X.mg x = some (.ref C)) (hdb : (x == ("__debug__" : Str)) = false := by decide) :
    PMk X (.Call (.Name x p) [] [] pos) (fun _ H Q => Q (.ref C) none H) := by
  intro pins s σ H Q I h
  refine wpAny_Call_Name_kw (ld_glob I hg hm ?_ hdb)
  refine PySem.W.callWith_K0 I.kIn T.kk ?_
  show wpAny _ _ (call (.ref C) []) _ _ _
  obtain ⟨bm, N, nm, qn, bs, hdct, sn, sub, ab, col, dd, k0, k1, k2, k3, k5, mN, hC, hN, hni, ot⟩ := exc_obj I.kIn T.q
  exact wpAny_call_exc_subT F ot hC hN hni (fun h' e hm' => mk_of I hm' (raises_own T.ba T.tt) h (I.hok.gone hm'.new)) (Nat.zero_le _)
end Vf

namespace Vf
open PySem PySem.Spec PyProof.Rows L2
/-! ## max(xs, default = d) -/
section
variable {prog : Program} {w : World} {A : Around} {J : Addr} {far put : List Addr} {N : Nat} {Pn : Nat → Value → Prop} {Sn : Nat → Heap → Prop}
theorem mx_name : (toString "max" ++ toString ".loop" : String) = "max.loop" := by decide
theorem mx_args (x d : Value) : argsOk "max" ⟨[x], [(Str.ofString "default", d)]⟩ := by
  unfold argsOk
  kernel_rfl
/-- the loop behind its first item, whatever keywords go with it -/
theorem mx_on (kw : List (Str × Value)) (Y : Walks prog w A.in1 J far put N Pn Sn) (gt : Nat → Nat → Bool) (hgt : CmpOf prog w A.in1 .Gt Pn gt) (B : Addr) (nB : B ∉ far) {Z : Result → Shared → Prop} :
    ∀ (left i : Nat) (s : Shared) (best : Value) (ep : Nat), N - (i + 1) = left → i + 1 ≤ N → Sn (i + 1) s.heap → Pn (argBest gt i) best →
    s.heap.get? B = some { cls := .type "list", dict := none, data := .seq #[best, best] ep, slots := #[] } →
    (∀ v h2 t2, Pn (argBest gt (N - 1)) v → (∀ b o, b ∉ put → b ≠ B → s.heap.get? b = some o → h2.get? b = some o) → Z (.ok (.ret v)) { s with heap := h2, toks := t2 }) →
    codeAny (model prog w) A (.builtin "max.loop" ⟨[.ref J, .none, .ref B], kw⟩) Z s
  | 0, i, s, best, ep, e, li, hS, hP, hB, q => by
    have eN : i + 1 = N := by omega
    have nP : B ∉ put := fun h => nB (Y.sub _ h)
    refine codeAny_builtin F.entry_max_loop ?_
    rw [Around.under_plainId F.plain_max_loop _]
    show wpAny _ A.in1 (seqItems? (.ref B) >>= _) _ _ s
    refine wpAny_bind (wpAny_seqItems hB rfl ?_)
    show wpAny _ A.in1 (tryCatch (pyNext (.ref J)) _ >>= _) _ _ s
    refine wpAny_bind (wpAny_tryCatch (Y.done s _ _ (eN ▸ hS) fun h1 t1 k1 => ?_))
    show wpAny _ A.in1 (updateSeq B (fun _ => #[]) >>= _) _ _ _
    refine wpAny_bind (wpAny_updateSeq (k1 B _ nP hB) rfl (wpAny_bind (wpAny_letGo (wpAny_pure ?_))))
    exact q best _ t1 (by rw [← eN]; exact hP) fun b o c1 c2 g => (Heap.get?_update_other _ _ (Ne.symm c2)).trans (k1 b o c1 g)
  | left + 1, i, s, best, ep, e, li, hS, hP, hB, q => by
    have lt : i + 1 < N := by omega
    have nP : B ∉ put := fun h => nB (Y.sub _ h)
    refine codeAny_builtin F.entry_max_loop ?_
    rw [Around.under_plainId F.plain_max_loop _]
    show wpAny _ A.in1 (seqItems? (.ref B) >>= _) _ _ s
    refine wpAny_bind (wpAny_seqItems hB rfl ?_)
    show wpAny _ A.in1 (tryCatch (pyNext (.ref J)) _ >>= _) _ _ s
    refine wpAny_bind (wpAny_tryCatch (Y.item (i + 1) s _ _ lt hS fun u h1 t1 pu su k1 => ?_))
    have hB1 := k1 B _ nP hB
    show wpAny _ A.in1 (tryCatch (holding [u, u] (richCompare .Gt u best >>= _)) _ >>= _) _ _ _
    refine wpAny_bind (wpAny_tryCatch (wpAny_holding (wpAny_bind (hgt (i + 1) (argBest gt i) u best _ _ _ pu hP ?_))))
    refine wpAny_bind (wpAny_holding (wpAny_truthy_bool (wpAny_bind (wpAny_letGo (wpAny_pure ?_)))))
    by_cases c : gt (i + 1) (argBest gt i) = true
    · rw [if_pos c]
      refine wpAny_bind (wpAny_updateSeq hB1 rfl (wpAny_bind (wpAny_letGo ?_)))
      rw [mx_name]
      refine wpAny_pure ⟨plainId_quiet F.plain_max_loop _, mx_on kw Y gt hgt B nB left (i + 1) _ u _ (by omega) lt (Y.frame _ _ _ su fun b hb o g => ?_) (by rw [argBest, if_pos c]; exact pu) (Heap.get?_update_self _ hB1 rfl) fun v h2 t2 pv k2 => ?_⟩
      · exact (Heap.get?_update_other _ _ (fun z : B = b => nB (by rw [z]; exact hb))).trans g
      · exact q v h2 t2 pv fun b o c1 c2 g => k2 b o c1 c2 ((Heap.get?_update_other _ _ (Ne.symm c2)).trans (k1 b o c1 g))
    · rw [if_neg c]
      refine wpAny_bind (wpAny_letGo ?_)
      rw [mx_name]
      refine wpAny_pure ⟨plainId_quiet F.plain_max_loop _, mx_on kw Y gt hgt B nB left (i + 1) _ best ep (by omega) lt su (by rw [argBest, if_neg c]; exact hP) hB1 fun v h2 t2 pv k2 => ?_⟩
      exact q v h2 t2 pv fun b o c1 c2 g => k2 b o c1 c2 (k1 b o c1 g)
/-- the loop from its start: an item, or none and the default -/
theorem mx_start (d : Value) (Y : Walks prog w A.in1 J far put N Pn Sn) (gt : Nat → Nat → Bool) (hgt : CmpOf prog w A.in1 .Gt Pn gt) (B : Addr) (nB : B ∉ far) {Z : Result → Shared → Prop} {s : Shared} {ep : Nat} (hS : Sn 0 s.heap)
    (hB : s.heap.get? B = some { cls := .type "list", dict := none, data := .seq #[] ep, slots := #[] })
    (q : ∀ v h2 t2, ((N = 0 ∧ v = d) ∨ (0 < N ∧ Pn (argBest gt (N - 1)) v)) → (∀ b o, b ∉ put → b ≠ B → s.heap.get? b = some o → h2.get? b = some o) → Z (.ok (.ret v)) { s with heap := h2, toks := t2 }) :
    codeAny (model prog w) A (.builtin "max.loop" ⟨[.ref J, .none, .ref B], [(Str.ofString "default", d)]⟩) Z s := by
  have nP : B ∉ put := fun h => nB (Y.sub _ h)
  refine codeAny_builtin F.entry_max_loop ?_
  rw [Around.under_plainId F.plain_max_loop _]
  show wpAny _ A.in1 (seqItems? (.ref B) >>= _) _ _ s
  refine wpAny_bind (wpAny_seqItems hB rfl ?_)
  show wpAny _ A.in1 (tryCatch (pyNext (.ref J)) _ >>= _) _ _ s
  rcases Nat.eq_zero_or_pos N with z | z
  · subst z
    refine wpAny_bind (wpAny_tryCatch (Y.done s _ _ hS fun h1 t1 k1 => ?_))
    refine wpAny_bind (wpAny_rule (wpAny_pure ?_))
    exact q d h1 t1 (.inl ⟨rfl, rfl⟩) fun b o c1 _ g => k1 b o c1 g
  · refine wpAny_bind (wpAny_tryCatch (Y.item 0 s _ _ z hS fun u h1 t1 pu su k1 => ?_))
    have hB1 := k1 B _ nP hB
    show wpAny _ A.in1 (updateSeq B (fun _ => #[u, u]) >>= _) _ _ _
    refine wpAny_bind (wpAny_updateSeq hB1 rfl ?_)
    rw [mx_name]
    refine wpAny_pure ⟨plainId_quiet F.plain_max_loop _, mx_on _ Y gt hgt B nB _ 0 _ u _ rfl z (Y.frame _ _ _ su fun b hb o g => ?_) pu (Heap.get?_update_self _ hB1 rfl) fun v h2 t2 pv k2 => ?_⟩
    · exact (Heap.get?_update_other _ _ (fun y : B = b => nB (by rw [y]; exact hb))).trans g
    · exact q v h2 t2 (.inr ⟨z, pv⟩) fun b o c1 c2 g => k2 b o c1 c2 ((Heap.get?_update_other _ _ (Ne.symm c2)).trans (k1 b o c1 g))
end
section
variable {prog : Program} {w : World} {A : Around} {E : Value → Shared → Prop} {s : Shared}
theorem mx_call {l : Addr} {xs : Array (Int × Tok)} {d : Value} {Q : Value → Shared → Prop} (hh : A.handled = none) (hl : s.heap.IsList l (intItems xs))
    (h : ∀ v h2 t2, ((xs.size = 0 ∧ v = d) ∨ (0 < xs.size ∧ (intItems xs)[argBest (fun i j => decide (numAt xs i > numAt xs j)) (xs.size - 1)]? = some v)) → (∀ b o, s.heap.get? b = some o → h2.get? b = some o) → Q v { s with heap := h2, toks := t2 }) :
    wpAny (model prog w) A (call (.builtin "max") [.ref l] [(Str.ofString "default", d)]) Q E s := by
  refine wpAny_call (codeAny_call_builtin F.plain_max F.entry_max ?_)
  have body : wpAny (model prog w) A.in1 (Builtin.«max» ⟨[.ref l], [(Str.ofString "default", d)]⟩) (fun fin s' => match fin with
      | .done f => (match (Except.ok f : Result) with | .ok (.ret v) => Q v s' | .ok _ => False | .error e => E e s')
      | .again c' => c'.quiet = true ∧ codeAny (model prog w) A c' (fun r s' => match r with | .ok (.ret v) => Q v s' | .ok _ => False | .error e => E e s') s') E s := by
    show wpAny _ A.in1 (Builtin.Builtins.bindParams "max" ["key", "default"] 0 ⟨[], [(Str.ofString "default", d)]⟩ >>= _) _ _ s
    refine wpAny_bind (wpAny_of_eq (show Builtin.Builtins.bindParams "max" ["key", "default"] 0 ⟨[], [(Str.ofString "default", d)]⟩ = pure [none, some d] from rfl) (wpAny_bind (wpAny_pure ?_)))
    refine wpAny_bind (iter_intList hl fun s2 e st hf nl => ?_)
    subst e
    refine wpAny_bind (wpAny_newObj_type ?_)
    rw [mx_name]
    refine wpAny_pure ⟨plainId_quiet F.plain_max_loop _, mx_start d (Walks.list (prog := prog) (w := w) (A := A.in1) hh _ l nl (intItems xs)) _ (CmpOf.ints_gt (numAt xs) fun _ _ => intItems_at) _ (fun hm => Nat.lt_irrefl _ (hf _ hm)) ((Walks.list (prog := prog) (w := w) (A := A.in1) hh _ l nl (intItems xs)).frame _ _ _ st fun b _ o g => Heap.get?_push_of_some _ g) (Heap.get?_push_size _ rfl) fun v h2 t2 hv k => ?_⟩
    refine h v h2 t2 (by simpa [intItems] using hv) (old_kept (l := l) fun b o hb g => ?_)
    exact k b o hb (Nat.ne_of_lt (Heap.lt_size g)) (Heap.get?_push_of_some _ g)
  simp only [checkBuiltinCall, F.kind_max]
  have ha := mx_args (.ref l) d
  cases hsig : Manifest.signature? "max" with
  | none => exact wpAny_pure body
  | some sig =>
    have ha' : Bind.checkArgs "max" sig ⟨[.ref l], [(Str.ofString "default", d)]⟩ = pure () := by simpa only [argsOk, hsig] using ha
    simp only [ha']
    exact wpAny_pure body
end
section
variable {X : Cx}
def rMaxD (K : PySem.W.Frag) : List V → List V → Hp → VK → Prop := fun vs zs H Q => ∃ (a : Addr) (ns : List Int) (d : Int), vs = [V.ref a] ∧ zs = [.int d] ∧ SqL K H a (ns.map V.int) ∧ ∀ m, (ns = [] → m = d) → (ns ≠ [] → m ∈ ns ∧ ∀ y ∈ ns, y ≤ m) → Q (.int m) H
theorem cr_maxDf {K : PySem.W.Frag} (eK : X.K = K) (hc : X.calm = true) : CallRK X (.builtin "max") [Str.ofString "default"] (rMaxD K) := by
  subst eK
  intro pins s σ H vs zs us ws Q I r rz h
  obtain ⟨a, ns, d, rfl, rfl, hs, q⟩ := h
  obtain ⟨its, rv, hl, _⟩ := I.list hs
  obtain rfl := Vals.ref1 r
  obtain ⟨w1, rfl, t, rfl⟩ := vals1 rz
  have hi := rv.ints
  obtain ⟨xs, e⟩ := hi.allInts.items
  have hn : numsOf (intItems xs).toList = ns := by rw [← e]; exact hi.numsOf
  rw [nums_intItems] at hn
  have hl' := hl.isList
  rw [e] at hl'
  have ln : ns.length = xs.size := by rw [← hn, List.length_map, Array.length_toList]
  refine mx_call (I.ok.hd hc) hl' fun v h2 t2 hv k => ?_
  rcases hv with ⟨z, rfl⟩ | ⟨z, hv⟩
  · exact ⟨.int d, H, I.kept k, ⟨_, rfl⟩, q d (fun _ => rfl) fun c => absurd (List.eq_nil_of_length_eq_zero (by omega)) c⟩
  · obtain ⟨t', rfl⟩ := intItems_at hv
    obtain ⟨g1, g2⟩ := argBest_gt (numAt xs) (xs.size - 1)
    refine ⟨.int _, H, I.kept k, ⟨_, rfl⟩, q _ (fun c => by rw [c] at ln; simp at ln; omega) fun _ => ⟨?_, fun y hy => ?_⟩⟩
    · rw [numAt_eq, ← hn]
      exact PySem.getD_mem (by rw [List.length_map, Array.length_toList]; omega)
    · rw [← hn] at hy
      obtain ⟨j, hj, rfl⟩ := mem_getD hy
      rw [List.length_map, Array.length_toList] at hj
      rw [← numAt_eq]
      exact g2 j (by omega)
theorem r_maxD {K : PySem.W.Frag} {H : Hp} {Q : VK} {a : Addr} {d : Int} (ns : List Int) (hs : SqL K H a (ns.map V.int)) (h : ∀ m, (ns = [] → m = d) → (ns ≠ [] → m ∈ ns ∧ ∀ y ∈ ns, y ≤ m) → Q (.int m) H) : rMaxD K [.ref a] [.int d] H Q := ⟨a, ns, d, rfl, rfl, hs, h⟩
theorem r_ckw {r : List V → List V → Hp → VK → Prop} {t tk : TA} {σ : L2.St} {H : Hp} {Q : VK} (h : t σ H fun vs H1 => tk σ H1 fun zs H2 => r vs zs H2 Q) : tCKw r t tk σ H Q := h
end
end Vf

namespace Vf
open PySem PySem.Spec PyProof.Rows L2
/-! ## a tuple times a number, 0 too -/
theorem tup_none (l : Addr) (items : Array Value) (n : Nat) (dd : Option Addr) (sl : Array (Option Value)) (u : Tok) (ne : items.isEmpty = false) :
    Meets (Builtin.«tuple.__mul__» ⟨[.ref l, .int 0 u], []⟩) (fun _ R s => s.heap.get? l = some { cls := .type "tuple", dict := dd, data := .seq items n, slots := sl } ∧
      R (.ok (.ret (Value.ref s.heap.objs.size))) { s with heap := s.heap.push { cls := Value.type "tuple", data := Data.seq #[] }, toks := s.toks }) :=
  .of_wp fun prog w A R s h => by
    obtain ⟨hp, g, d, tk, os⟩ := s
    obtain ⟨hl, h⟩ := h
    have f1 := AutoSeq1.idx_int
    have c1 : ¬ (items.isEmpty || (0 : Int) == 1) = true := by rw [ne]; decide
    have c2 : (decide ((0 : Int) ≤ 0) || items.isEmpty) = true := by rw [decide_eq_true (by decide)]; rfl
    wp_walk using wpAny_loadPart' hl
    repeat (first
      | (refine wpAny_ite_false (decide_eq_false (by decide)) ?_; wp_walk using wpAny_loadPart' hl)
      | (refine wpAny_ite_false (decide_eq_false c1) ?_; wp_walk using wpAny_loadPart' hl)
      | (refine wpAny_ite_true (decide_eq_true c2) ?_; wp_walk using wpAny_loadPart' hl))
    exact ⟨_, rfl, h⟩
def rRepA (K : PySem.W.Frag) : R2 := fun x y H Q => ∃ l k xs, x = .ref l ∧ y = .int k ∧ SqT K H l xs ∧ xs ≠ [] ∧ ((k = 0 ∧ ∀ p, H p = none → Q (.ref p) (upd H p (.tup []))) ∨
  (2 ≤ k ∧ k ≤ 1000 ∧ xs.length ≤ 1000 ∧ ∀ p, H p = none → Q (.ref p) (upd H p (.tup (List.replicate k.toNat xs).flatten))))
theorem op_repA {X : Cx} {K : PySem.W.Frag} (eK : X.K = K) : OpR X (binaryOp .Mult) (rRepA K) := by
  subst eK
  intro pins s σ H x y v u Q I rx ry h
  obtain ⟨l, k, xs, rfl, rfl, hT, hne, h⟩ := h
  rcases h with ⟨rfl, q⟩ | ⟨h1, h2, h3, q⟩
  · cases rx
    obtain ⟨t, rfl⟩ := ry
    obtain ⟨its, r, ⟨⟨cls, dd, data, sl⟩, ho, hc, n, hd⟩, hs⟩ := I.tuple hT
    simp only at hc hd
    subst hc hd
    have hi : its.toArray.isEmpty = false := by
      cases its with
      | nil => exact absurd (List.eq_nil_of_length_eq_zero r.length) hne
      | cons a b => rfl
    refine wpAny_binaryOp_repeat_ref (T := "tuple") (U := "int") (by decide) ⟨_, ho, rfl⟩ (fun s' => typeIs_int s' 0 t) noFill_tuple_mul F.fills_int_mul F.slot_int_rmul repeat_tuple F.slot_int_index.lookup
      (call_meets F.slot_int_rmul (typeIs_int s 0 t) F.entry_int_rmul (F.args_int_rmul_2 _ _) (int_rmul_tuple 0 t l its.toArray n dd sl)
        ⟨ho, rfl, ⟨_, ho, rfl⟩, call_meets F.slot_tuple_mul ⟨_, ho, rfl⟩ F.entry_tuple_mul (F.args_tuple_mul_2 _ _) (tup_none l its.toArray n dd sl t hi) ⟨ho, ?_⟩⟩)
    refine ⟨.ref s.heap.objs.size, _, I.laid (t' := s.toks) (o := .tup []) (fun b ob g => Heap.get?_push_of_some _ g) (Nat.le_refl _) ⟨Nat.zero_le _, [], .nil, IsTup.new _ _⟩, rfl, q _ (I.hok.fresh (Nat.le_refl _))⟩
  · exact op_repT pins s σ H _ _ v u Q I rx ry ⟨l, k, xs, rfl, rfl, hT, hne, h1, h2, h3, q⟩
/-- (0,) * k -/
theorem r_zerosT {K : PySem.W.Frag} {H : Hp} {Q : VK} {a : Addr} {k : Nat} (h : SqT K H a [.int 0]) (hk : k = 0 ∨ 2 ≤ k) (k1 : k ≤ 1000) (q : ∀ p, H p = none → Q (.ref p) (upd H p (.tup ((List.replicate k (0 : Int)).map V.int)))) : rRepA K (.ref a) (.int (k : Int)) H Q := by
  refine ⟨a, _, _, rfl, rfl, h, (fun e => by simp at e), ?_⟩
  rcases hk with z | z
  · subst z
    exact .inl ⟨rfl, q⟩
  · refine .inr ⟨by omega, by omega, by simp, fun p hp => ?_⟩
    have e : (List.replicate (k : Int).toNat [V.int 0]).flatten = (List.replicate k (0 : Int)).map V.int := by
      rw [Int.toNat_natCast, List.map_replicate]
      clear z k1 q
      induction k with
      | zero => rfl
      | succ n ih => rw [List.replicate_succ, List.flatten_cons, ih, List.replicate_succ]; rfl
    rw [e]
    exact q p hp
end Vf

namespace Vf
open PySem PySem.Spec PyProof.Rows L2
/-! ## t.index(n), xs.index(n) of ints -/
def rTix (K : PySem.W.Frag) : V → List V → Hp → VK → Prop := fun x xs H Q => ∃ (p : Addr) (ys : List Int) (z : Int) (j : Nat), x = .ref p ∧ xs = [.int z] ∧ SqT K H p (ys.map V.int) ∧ ys[j]? = some z ∧ (∀ m, m < j → ys[m]? ≠ some z) ∧ Q (.int (j : Nat)) H
theorem flat_intsV : ∀ ns : List Int, (ns.map V.int).all flatV = true
  | [] => rfl
  | n :: ns => by
    rw [List.map_cons, List.all_cons, flat_intsV ns]
    rfl
theorem mt_tix {X : Cx} {K : PySem.W.Frag} (eK : X.K = K) : MtR X "tuple.index" (rTix K) := by
  subst eK
  intro pins s σ H x xs v us Q I rx rs h
  obtain ⟨p, ys, z, j, rfl, rfl, hq, hy, hno, q⟩ := h
  cases rx
  obtain ⟨u, rfl, t, rfl⟩ := vals1 rs
  obtain ⟨its, r, pl, hz⟩ := I.tuple hq
  obtain ⟨⟨cls, dd, dt, sl⟩, ho, hc, n, hd⟩ := pl
  simp only at hc hd
  subst hc hd
  have ln : its.toArray.size = ys.length := by rw [List.size_toArray, ← r.length, List.length_map]
  have lj : j < its.toArray.size := by rw [ln]; exact (List.getElem?_eq_some_iff.mp hy).1
  have look : ∀ (m : Nat) (hm : m < its.toArray.size), ∃ y t', ys[m]? = some y ∧ its.toArray[m] = Value.int y t' := fun m hm => by
    have ml : m < ys.length := by omega
    obtain ⟨w, hw, t', rfl⟩ := r.get (i := m) (x := .int ys[m]) (by simp [ml])
    refine ⟨ys[m], t', List.getElem?_eq_getElem ml, ?_⟩
    rw [← (List.getElem?_eq_some_iff.mp hw).2]
    simp
  refine call_meets PySem.F.slot_tuple_index ⟨_, ho, rfl⟩ PySem.F.entry_tuple_index (PySem.F.args_tuple_index_2 _ _) (TI.tuple_indexAt p its.toArray n dd sl (.int z t) (eqU (.int z)) j lj ?_ ?_)
    ⟨ho, fun w hw => mem_eqAt (x := .int z) ⟨t, rfl⟩ rfl r (flat_intsV ys) w (by simpa using hw), ⟨.int (j : Nat), H, I.tok _, ⟨_, rfl⟩, q⟩⟩
  · obtain ⟨y, t', g1, g2⟩ := look j lj
    rw [hy] at g1
    cases g1
    rw [g2]
    exact beq_self_eq_true z
  · intro m hm mj
    obtain ⟨y, t', g1, g2⟩ := look m hm
    rw [g2]
    show (y == z) = false
    rw [beq_eq_false_iff_ne]
    exact fun c => hno m mj (by rw [g1, c])
theorem r_tix {K : PySem.W.Frag} {H : Hp} {Q : VK} {p : Addr} {z : Int} {j : Nat} (ys : List Int) (hs : SqT K H p (ys.map V.int)) (hj : ys[j]? = some z) (hno : ∀ m, m < j → ys[m]? ≠ some z) (q : Q (.int (j : Nat)) H) : rTix K (.ref p) [.int z] H Q := ⟨p, ys, z, j, rfl, rfl, hs, hj, hno, q⟩
/-! ## a tuple whose object is known; a method of it -/
def rTupF (K : PySem.W.Frag) : List V → Hp → VK → Prop := fun xs H Q => ∃ (p : Addr) (ys : List V), xs = [.ref p] ∧ SqL K H p ys ∧ ∀ (l : Addr) (o : Obj), H l = none → o.cls = .type "tuple" → o.dict = none → Q (.ref l) (upd H l (.frz o (.tup ys)))
theorem c_tupF {X : Cx} {K : PySem.W.Frag} (eK : X.K = K) : CallR X (.type "tuple") (rTupF K) := by
  subst eK
  intro pins s σ H xs us Q I r h
  obtain ⟨p, ys, rfl, hq, q⟩ := h
  obtain rfl := Vals.ref1 r
  obtain ⟨its, r', pl, hz⟩ := I.list hq
  have ln := r'.length
  refine call_tuple_list pl.isList (fun h2 kp => ?_) (by simp only [List.size_toArray] <;> omega)
  have I1 : Inv X pins σ H { s with heap := h2 } := I.kept (t' := s.toks) kp
  have I2 : Inv X pins σ (upd H h2.objs.size (.frz { cls := .type "tuple", data := .seq its.toArray } (.tup ys))) { s with heap := h2.push { cls := .type "tuple", data := .seq its.toArray } } :=
    I1.laid (t' := s.toks) (fun b o g => Heap.get?_push_of_some _ g) (Nat.le_refl _) ⟨Heap.get?_push_size _ rfl, hz, its, r', IsTup.new _ _⟩
  exact ⟨.ref h2.objs.size, _, I2, rfl, q _ _ (I1.hok.fresh (Nat.le_refl _)) rfl rfl⟩
def tBF (T : String) (r : V → List V → Hp → VK → Prop) (to : TE) (t : TA) : TE := fun σ H Q => to σ H fun x H1 => (∃ (p : Addr) (o : Obj) (u : HO), x = .ref p ∧ H1 p = some (.frz o u) ∧ o.cls = .type T ∧ o.dict = none) ∧ t σ H1 fun xs H2 => r x xs H2 Q
theorem pe_bmF {X : Cx} {o e : Expr} {es : List Expr} {to : TE} {t : TA} {name : Str} {at_ ps : Pos} {T id : String} {r : V → List V → Hp → VK → Prop}
    (pa : PlainAttrs T) (slot : Slot T name id) (md : typeOf (.builtin id) = pure (.type "method_descriptor")) (hm : MtR X id r) (ho : PE X o to) (ha : PA X (e :: es) t)
    (h1 : attributeBase o name X.env (eval o X.env) = eval o X.env := by rfl) (h2 : ((backTo ps (starEach (e :: es) X.env)).all (fun x => !x.1) && (backToKw ps (keywordEach [] X.env)).all (fun x => x.1.isSome) && decide ((e :: es).length + ([] : List Keyword).length + (if ([] : List Keyword).isEmpty then 0 else 1) < 30)) = true := by rfl)
    (h3 : (at_.endLine == ps.line) = true := by rfl) (h4 : starEach (e :: es) X.env = (false, eval e X.env) :: starEach es X.env := by rfl) (h5 : (backTo ps (starEach es X.env)).any (·.1) = false := by rfl) :
    PE X (.Call (.Attribute o name at_) (e :: es) [] ps) (tBF T r to t) := by
  refine ⟨fun pins s σ H Q I h => wpAny_Call_method_late h1 h2 h3 rfl (thn (ho.run pins s σ H _ I h) fun v s1 ⟨x, H1, I1, r1, ty, q1⟩ => ?_)⟩
  obtain ⟨p, ob, u, rfl, hp, hc, hd⟩ := ty
  cases r1
  have look : s1.heap.get? p = some ob := (I1.hok p _ hp).1
  refine ⟨T, id, pa, slot, md, ⟨ob, look, hc⟩, fun a e => by cases e; exact ⟨ob, look, hd⟩, ?_⟩
  have go := ha.run ps pins s1 σ H1 _ I1 q1
  rw [h4] at go ⊢
  refine Calls.callWith_builtin (by show (false || (backTo ps (starEach es X.env)).any (·.1)) = false; rw [h5] <;> rfl) (Calls.evalArgs_plain (thn go fun us s2 ⟨vs, H2, I2, r2, q2⟩ => ?_))
  exact hm pins s2 σ H2 (.ref p) vs (.ref p) us Q I2 rfl r2 q2
theorem r_bmF {T : String} {r : V → List V → Hp → VK → Prop} {to : TE} {t : TA} {σ : L2.St} {H : Hp} {Q : VK} (h : to σ H fun x H1 => (∃ (p : Addr) (o : Obj) (u : HO), x = .ref p ∧ H1 p = some (.frz o u) ∧ o.cls = .type T ∧ o.dict = none) ∧ t σ H1 fun xs H2 => r x xs H2 Q) : tBF T r to t σ H Q := h
theorem r_tupF {K : PySem.W.Frag} {H : Hp} {Q : VK} {a : Addr} {ys : List V} (hs : SqL K H a ys) (h : ∀ (l : Addr) (o : Obj), H l = none → o.cls = .type "tuple" → o.dict = none → Q (.ref l) (upd H l (.frz o (.tup ys)))) : rTupF K [.ref a] H Q := ⟨a, ys, rfl, hs, h⟩
theorem SqT.frz {K : PySem.W.Frag} {H : Hp} {a : Addr} {o : Obj} {ys : List V} (h : H a = some (.frz o (.tup ys))) : SqT K H a ys := Or.inl (Or.inr ⟨o, h⟩)
theorem mt_lix {X : Cx} {K : PySem.W.Frag} (eK : X.K = K) : MtR X "list.index" (rIndex K) := by subst eK; exact mt_index
theorem r_lix {K : PySem.W.Frag} {H : Hp} {Q : VK} {p : Addr} {z : Int} {j : Nat} (ys : List Int) (hs : SqL K H p (ys.map V.int)) (hj : ys[j]? = some z) (hno : ∀ m, m < j → ys[m]? ≠ some z) (q : Q (.int (j : Nat)) H) : rIndex K (.ref p) [.int z] H Q := by
  refine ⟨p, _, .int z, j, .int z, rfl, rfl, hs, rfl, flat_intsV ys, by rw [List.getElem?_map, hj]; rfl, beq_self_eq_true z, fun m z' mj hz => ?_, q⟩
  rw [List.getElem?_map, Option.map_eq_some_iff] at hz
  obtain ⟨y, hy, rfl⟩ := hz
  show (y == z) = false
  rw [beq_eq_false_iff_ne]
  exact fun c => hno m mj (by rw [hy, c])
end Vf

namespace Vf
open PySem PySem.Spec PyProof.Rows L2
/-! ## a module's tuple; zip of two tuples in a comprehension; dicts with pairs as keys -/
theorem pe_gr {X : Cx} {x : Str} {a : Addr} {pos : Pos} (hm : X.mg x = some (.ref a)) (hg : Gl X x) (hd : (x == ("__debug__" : Str)) = false := by decide) : PE X (.Name x pos) (tC (.ref a)) := pe_glob hg hm rfl hd
section
variable {K : PySem.W.Frag} {σ : L2.St} {H : Hp} {Q : VK} {g : TG} {tt : TT} {te : TE} {vs : List Nat}
theorem r_lcZti {ta : TA} (h : ta σ H fun ws H1 => ∃ a b xs ys, ws = [.ref a, .ref b] ∧ ((SqL K H1 a xs ∧ SqL K H1 b ys ∧ tLc (fun _ H2 R => R (Itz K a b) H2) g tt te vs σ H1 Q) ∨
    (SqT K H1 a xs ∧ SqT K H1 b ys ∧ tLc (fun _ H2 R => R (RZ.ItzT K a b) H2) g tt te vs σ H1 Q))) : tLc (RZ.iZipA K ta) g tt te vs σ H Q := h
theorem r_lcZt {a b : Addr} (xs ys : List V) (n : Nat) (nx : xs.length = n) (ny : ys.length = n) (Pv : Addr → Nat → Hp → Prop) (h0 : ∀ D, H D = none → Pv D 0 (upd H D (.lst [])))
    (hl : ∀ D i H', H D = none → i ≤ n → Pv D i H' → SqT K H' a xs ∧ SqT K H' b ys)
    (hs : ∀ D i x y H' T, H D = none → xs[i]? = some x → ys[i]? = some y → Pv D i H' → H' T = none → g (.ref T) (wipe σ vs) (upd H' T (.tup [x, y])) fun σ2 H2 => wipe σ2 vs = wipe σ vs ∧ tt σ2 H2 fun b H3 =>
      if b = true then te σ2 H3 fun y H4 => ∃ acc, H4 D = some (.lst acc) ∧ acc.length < sizeLine ∧ Pv D (i + 1) (upd H4 D (.lst (acc ++ [y]))) else Pv D (i + 1) H3)
    (hd : ∀ D H', H D = none → Pv D n H' → Q (.ref D) H') : tLc (fun _ H2 R => R (RZ.ItzT K a b) H2) g tt te vs σ H Q := by
  refine fun D hD => ⟨fun i m H => m = n - i ∧ i ≤ n ∧ Pv D i H, ⟨n, by omega, Nat.zero_le _, h0 D hD⟩, ?_⟩
  rintro i m H' ⟨rfl, hi, p⟩
  obtain ⟨qx, qy⟩ := hl D i H' hD hi p
  by_cases lt : i < n
  · have ix : i < xs.length := by omega
    have iy : i < ys.length := by omega
    refine Or.inr ⟨⟨xs, ys, xs[i], ys[i], qx, qy, by simp [ix], by simp [iy]⟩, Pv D (i + 1), fun H' p' => ⟨n - (i + 1), by omega, rfl, lt, p'⟩, fun v H'' yy => ?_⟩
    obtain ⟨T, x, y, rfl, nT, rfl, f1, f2⟩ := yy
    exact hs D i x y H' T hD (f1 xs qx) (f2 ys qy) p nT
  · have e : i = n := by omega
    subst e
    exact Or.inl ⟨⟨xs, ys, qx, qy, .inl (by omega)⟩, hd D H' hD p⟩
theorem r_bits {to : TE} {σ : L2.St} {H : Hp} {Q : VK} (h : to σ H fun x H1 => ∃ i, x = .int i ∧ Q (.int (Builtin.Int.intBits i : Nat)) H1) : tBits to σ H Q := h
theorem r_dget {td ty : TE} {σ : L2.St} {H : Hp} {Q : VK} (h : td σ H fun x H1 => ty σ H1 fun y H2 => ∃ a v, x = .ref a ∧ DGet H2 a y (some v) ∧ Q v H2) : tDGet td ty σ H Q := h
theorem r_din {td ty : TE} {σ : L2.St} {H : Hp} {Q : VK} (h : ty σ H fun y H1 => td σ H1 fun x H2 => ∃ a o, x = .ref a ∧ DGet H2 a y o ∧ Q (.bl o.isSome) H2) : tDIn ty td σ H Q := h
theorem r_dput {td ty tv : TE} {D : Ends} {σ : L2.St} {H : Hp} (h : tv σ H fun v H1 => td σ H1 fun x H2 => ty σ H2 fun y H3 => ∃ a H4, x = .ref a ∧ DPut H3 a y v H4 ∧ D.nx σ H4) : sDPut td ty tv D σ H := h
theorem r_dnew {σ : L2.St} {H : Hp} {Q : VK} (h : ∀ p, H p = none → Q (.ref p) (upd H p (.dT []))) : tDNewT σ H Q := h
end
end Vf

namespace Vf
open PySem PySem.Spec PyProof.Rows L2
section
variable {D : Ends} {σ : L2.St} {H : Hp} {ts : TS}
/-- a statement that leaves the names as they are, and what stood: both ways go on together -/
theorem j_sm (hF : ∀ nx' : L2.St → Hp → Prop, (∀ H', Same H H' → nx' σ H') → ts { D with nx := nx' } σ H) (hQ : ∀ H', Same H H' → D.nx σ H') : ts D σ H :=
  j_s (fun σ' H' => σ' = σ ∧ Same H H') (fun nx' q => hF nx' fun H' s => q σ H' ⟨rfl, s⟩) (fun σ' H' h => by
    obtain ⟨rfl, s⟩ := h
    exact hQ H' s)
theorem j_kx {k : Addr} (hF : ∀ nx' : L2.St → Hp → Prop, (∀ H', Kx k H H' → nx' σ H') → ts { D with nx := nx' } σ H) (hQ : ∀ H', Kx k H H' → D.nx σ H') : ts D σ H :=
  j_s (fun σ' H' => σ' = σ ∧ Kx k H H') (fun nx' q => hF nx' fun H' s => q σ H' ⟨rfl, s⟩) (fun σ' H' h => by
    obtain ⟨rfl, s⟩ := h
    exact hQ H' s)
end
/-- a test that a proof decides both ways with one rest -/
theorem thru {c : Prop} [Decidable c] {A B : Prop} (hB : B) (hA : c → B → A) : if decide c = true then A else B := by
  by_cases h : c
  · rw [if_pos (decide_eq_true h)]
    exact hA h hB
  · rw [if_neg (by simp [h])]
    exact hB
theorem neq_same {s : Str} : (!decide (s = s)) = false := by rw [decide_eq_true rfl]; rfl
section
variable {X : Cx} {K : PySem.W.Frag}
/-- repr of None, a list or a tuple of data -/
def rReprO (K : PySem.W.Frag) : List V → Hp → VK → Prop := fun vs H Q => (vs = [.non] ∧ Q (.str "None") H) ∨ rRepr K vs H Q
theorem cr_reprO (hg : X.A.guards = some []) (hu : X.A.units + 64 < cLine) : CallR X (.builtin "repr") (rReprO X.K) := by
  intro pins s σ H xs us Q I r h
  rcases h with ⟨rfl, q⟩ | h
  · obtain ⟨u, rfl, r1⟩ := Vals.one r
    cases r1
    exact PySem.P.repr_of_none ⟨.str "None", H, I.kept fun _ _ z => z, ⟨_, rfl⟩, q⟩
  · exact cr_repr hg hu pins s σ H xs us Q I r h
theorem c_reprO (e : X.K = K) (hg : X.A.guards = some []) (hu : X.A.units + 64 < cLine) : CallR X (.builtin "repr") (rReprO K) := by subst e; exact cr_reprO hg hu
end
end Vf

namespace Vf
open PySem PySem.Spec PyProof.Rows L2
/-- xs.insert(0, y) -/
def rInsert : V → List V → Hp → VK → Prop := fun x vs H Q => ∃ (l : Addr) (xs : List V) (y : V), x = .ref l ∧ vs = [.int 0, y] ∧ H l = some (.lst xs) ∧ xs.length ≤ 100000 ∧ Q .non (upd H l (.lst (y :: xs)))
theorem mt_ins {X : Cx} : MtR X "list.insert" rInsert := by
  intro pins s σ H x vs v us Q I rx rv h
  obtain ⟨l, xs, y, rfl, rfl, hH, hz, q⟩ := h
  exact mt_insert pins s σ H _ _ v us Q I rx rv ⟨l, xs, 0, y, rfl, rfl, hH, Nat.lt_of_le_of_lt hz (by decide), by decide, by decide, q⟩
theorem r_ins {l : Addr} {xs : List V} {y : V} {H : Hp} {Q : VK} (e : H l = some (.lst xs)) (hz : xs.length ≤ 100000) (h : Q .non (upd H l (.lst (y :: xs)))) : rInsert (.ref l) [.int 0, y] H Q := ⟨l, xs, y, rfl, rfl, e, hz, h⟩
end Vf

namespace Vf
open PySem PySem.Spec PyProof.Rows L2
/-! ## sorted of tuples of ints of any length; membership among data -/
section
variable {X : Cx} {K : PySem.W.Frag}
abbrev leR : List Int → List Int → Bool := PySem.W.dataLe false tupD
def rSortedTs (K : PySem.W.Frag) : List V → Hp → VK → Prop := fun vs H Q => ∃ (a : Addr) (xs : List V) (nss : List (List Int)), vs = [.ref a] ∧ SqL K H a xs ∧ RowsAt K H xs nss ∧ (nss.length ≤ 1 ∨ ∀ ns ∈ nss, ns ≠ []) ∧ nss.length ≤ 100000 ∧
  ∀ ys p, RowsAt K H ys (nss.mergeSort leR) → H p = none → Q (.ref p) (upd H p (.lst ys))
theorem rows_refs {H : Hp} : ∀ {xs : List V} {nss : List (List Int)}, RowsAt K H xs nss → ∀ x ∈ xs, ∃ t, x = V.ref t
  | _, _, .nil, x, h => by cases h
  | _, _, .cons h t, x, hx => by
    rcases List.mem_cons.mp hx with z | z
    · obtain ⟨p, e, _⟩ := h
      exact ⟨p, z.trans e⟩
    · exact rows_refs t x z
theorem rows_zip {H : Hp} : ∀ {xs : List V} {nss : List (List Int)} {its : List Value}, RowsAt K H xs nss → Vals xs its → PySem.W.EachIs (fun v b => v = b.1) its (its.zip nss) ∧ (∀ b ∈ its.zip nss, ∃ p, b.1 = Value.ref p ∧ SqT K H p (b.2.map V.int)) ∧ (its.zip nss).map Prod.snd = nss
  | _, _, _, .nil, .nil => ⟨.nil, (fun b h => nomatch h), rfl⟩
  | _, _, _, .cons h t, .cons r1 r2 => by
    obtain ⟨i1, i2, i3⟩ := rows_zip t r2
    obtain ⟨p, rfl, e⟩ := h
    cases r1
    refine ⟨.cons rfl i1, fun b hb => ?_, by rw [List.zip_cons_cons, List.map_cons, i3]⟩
    rcases List.mem_cons.mp hb with z | z
    · rw [z]
      exact ⟨p, rfl, e⟩
    · exact i2 b z
theorem rows_reads {pins : List (Addr × Obj)} {σ : L2.St} {H : Hp} {s : Shared} (I : Inv X pins σ H s) : ∀ {xs : List V} {nss : List (List Int)} {its : List Value}, RowsAt X.K H xs nss → Vals xs its → PySem.W.EachIs (fun v b => ∃ as, Reads s.heap v (tupD b.2) as) its (its.zip nss)
  | _, _, _, .nil, .nil => .nil
  | _, _, _, .cons h t, .cons r1 r2 => by
    obtain ⟨p, rfl, e⟩ := h
    exact .cons (Dp.reads I _ _ _ (Dp.tupD e) r1) (rows_reads I t r2)
theorem each_fst {bs : List (Value × List Int)} : ∀ {out : List Value}, PySem.W.EachIs (fun v b => v = b.1) out bs → out = bs.map Prod.fst := fun {out} h => by
  induction h with
  | nil => rfl
  | cons h _ ih => rw [h, ih]; rfl
theorem rows_of {H : Hp} : ∀ bs : List (Value × List Int), (∀ b ∈ bs, ∃ p, b.1 = Value.ref p ∧ SqT K H p (b.2.map V.int)) → RowsAt K H ((bs.map Prod.fst).map backV) (bs.map Prod.snd)
  | [], _ => .nil
  | b :: bs, h => by
    obtain ⟨p, e, s⟩ := h b List.mem_cons_self
    exact .cons ⟨p, by rw [e]; rfl, s⟩ (rows_of bs fun c hc => h c (List.mem_cons_of_mem _ hc))
theorem cr_sortedTs (hu : X.A.units + 64 < cLine) : CallR X (.builtin "sorted") (rSortedTs X.K) := by
  intro pins s σ H vs us Q I r h
  obtain ⟨a, xs, nss, rfl, hs, R, hne, hb, q⟩ := h
  obtain ⟨its, rv, hl, hz⟩ := I.list hs
  obtain ⟨u, rfl, ru⟩ := vals1 r
  obtain rfl : u = Value.ref a := ru
  obtain ⟨e1, e2⟩ := refs_back rv (rows_refs R)
  obtain ⟨z1, z2, z3⟩ := rows_zip R rv
  have lz : (its.zip nss).length = nss.length := by rw [← List.length_map (f := Prod.snd), z3]
  have li : its.length = nss.length := by rw [← rv.length]; exact Paired.length R
  have fin : ∀ out : List Value, (∀ u ∈ out, u ∈ its) → out.length = its.length → RowsAt X.K H (out.map backV) (nss.mergeSort leR) → ∀ (h' : Heap) (d : Addr), (∀ b o, s.heap.get? b = some o → h'.get? b = some o) → s.heap.objs.size ≤ d → (∃ n, h'.get? d = some (seqObj "list" out.toArray n)) → EP X pins σ Q (.ref d) { s with heap := h' } := fun out hm hl2 hR h' d kp hd hn => by
    have h3 : ∀ u ∈ out, ∃ a, u = Value.ref a := fun u hu => e2 u (hm u hu)
    obtain ⟨n, hn⟩ := hn
    refine ⟨.ref d, upd H d (.lst (out.map backV)), I.laid (t' := s.toks) kp hd ⟨?_, out, n, vals_back h3, hn⟩, rfl, q _ d hR (I.hok.fresh hd)⟩
    rw [List.length_map, hl2, ← rv.length]
    exact hz
  rcases hne with h1 | hne
  · have O : SrtO.Swo (fun _ _ : Value => false) := ⟨fun _ _ h => (nomatch h), fun _ _ _ _ _ => rfl⟩
    refine SrtO.sorted_ord O hl.isList (by rw [← rv.length]; exact hz) (fun h2 => absurd h2 (by omega)) fun out hs hb => ?_
    have eo : out = its := by
      have hp := hb.perm
      match its, li ▸ h1, hp with
      | [], _, hp => exact List.perm_nil.mp hp
      | [x], _, hp => exact List.perm_singleton.mp hp
      | _ :: _ :: _, h, _ => exact absurd h (by simp)
    subst eo
    refine fin out (fun u h => h) rfl ?_ _ _ (fun b o e => sortedAll_old e) (Nat.le_succ _) (sortedAll_at s.heap out out.toArray)
    rw [← e1, show nss.mergeSort leR = nss by
      match nss, h1 with
      | [], _ => simp
      | [x], _ => simp
      | _ :: _ :: _, h => exact absurd h (by simp)]
    exact R
  · refine PySem.W.sorted_data (bs := its.zip nss) (enc := fun b => tupD b.2) (R := fun v b => v = b.1) hl.isList z1 ?_ ?_ ?_ ?_ ?_ fun out hlen ho => ?_
    · exact rows_reads I R rv
    · exact PySem.W.AllAlike.of fun b b' => by
        show PySem.W.alike (.tuple (b.2.map PyData.int)) (.tuple (b'.2.map PyData.int)) = true
        rw [PySem.W.alike]
        exact PySem.W.alike_ints b.2 b'.2
    · refine .inl fun d hd => ?_
      obtain ⟨b, hb2, rfl⟩ := List.mem_map.mp hd
      have hm : b.2 ∈ nss := by
        rw [← z3]
        exact List.mem_map.mpr ⟨b, hb2, rfl⟩
      have := hne b.2 hm
      cases hh : b.2 with
      | nil => exact absurd hh this
      | cons x r => exact ⟨_, _, rfl⟩
    · rw [lz, ← li, ← rv.length]
      exact hz
    · intro b _
      show X.A.units + 2 + (PyData.depthAll (b.2.map PyData.int) + 1) < cLine
      rw [depthInts]
      omega
    · have eo := each_fst ho
      have pm : ((its.zip nss).mergeSort (PySem.W.dataLe false fun b => tupD b.2)).Perm (its.zip nss) := List.mergeSort_perm ..
      have em : ((its.zip nss).mergeSort (PySem.W.dataLe false fun b => tupD b.2)).map Prod.snd = nss.mergeSort leR := by
        have hh := List.map_mergeSort (f := Prod.snd) (r := PySem.W.dataLe false fun b : Value × List Int => tupD b.2) (s := leR) (l := its.zip nss) fun a _ b _ => rfl
        rw [z3] at hh
        exact hh
      have hR := rows_of (K := X.K) (H := H) _ fun b hb2 => z2 b (pm.mem_iff.mp hb2)
      rw [em, ← eo] at hR
      refine fin out (fun u hu2 => ?_) (by rw [hlen, lz, li]) hR _ _ (fun b o e => sortedAll_old e) (Nat.le_succ _) (sortedAll_at s.heap its out.toArray)
      rw [eo] at hu2
      obtain ⟨b, hb2, rfl⟩ := List.mem_map.mp hu2
      exact (List.of_mem_zip (pm.mem_iff.mp hb2)).1
theorem c_sortedTs (e : X.K = K) (hu : X.A.units + 64 < cLine) : CallR X (.builtin "sorted") (rSortedTs K) := by subst e; exact cr_sortedTs hu
/-! the order of rows -/
theorem leR_le (a b : List Int) : leR a b = decide (a ≤ b) := by
  show (!PySem.W.dataLt (.tuple (b.map PyData.int)) (.tuple (a.map PyData.int))) = _
  rw [PySem.W.dataLt_tuple]
  show (!PySem.W.rowLt (b.map PyData.int) (a.map PyData.int)) = _
  rw [PySem.W.dataLt_ints]
  by_cases h : b < a
  · rw [decide_eq_true h, decide_eq_false (List.not_le.mpr h)]
    rfl
  · rw [decide_eq_false h, decide_eq_true (List.not_lt.mp h)]
    rfl
/-- sorting knows only what there is -/
theorem sort_perm {l m : List (List Int)} (h : l.Perm m) : l.mergeSort leR = m.mergeSort leR := by
  have tr : ∀ a b c : List Int, leR a b = true → leR b c = true → leR a c = true := fun a b c h1 h2 => by
    rw [leR_le] at *
    exact decide_eq_true (List.le_trans (of_decide_eq_true h1) (of_decide_eq_true h2))
  have tot : ∀ a b : List Int, (leR a b || leR b a) = true := fun a b => by
    rw [leR_le, leR_le]
    rcases List.le_total a b with h | h <;> simp [h]
  have p1 := List.pairwise_mergeSort (le := leR) tr tot l
  have p2 := List.pairwise_mergeSort (le := leR) tr tot m
  refine List.Perm.eq_of_pairwise (le := fun a b => leR a b = true) (fun a b _ _ h1 h2 => ?_) p1 p2 (((List.mergeSort_perm l leR).trans h).trans (List.mergeSort_perm m leR).symm)
  rw [leR_le] at h1 h2
  exact List.le_antisymm (of_decide_eq_true h1) (of_decide_eq_true h2)
end
section
variable {X : Cx} {K : PySem.W.Frag}
theorem o_inD (e : X.K = K) (hu : X.A.units + 65 < cLine) : OpR X (compareOp .In) (rInD K) := by subst e; exact op_inD hu
theorem o_notInD (e : X.K = K) (hu : X.A.units + 65 < cLine) : OpR X (compareOp .NotIn) (rNotInD K) := by subst e; exact op_notInD hu
/-- a tuple of ints among tuples of ints -/
theorem any_rows (nss : List (List Int)) (ns : List Int) : ((nss.map tupD).any fun z => PyData.eqv z (tupD ns)) = decide (ns ∈ nss) := by
  induction nss with
  | nil => rfl
  | cons a l ih =>
    rw [List.map_cons, List.any_cons, ih, show PyData.eqv (tupD a) (tupD ns) = decide (a = ns) from eqvInts a ns]
    by_cases h : a = ns
    · simp [h]
    · simp [h, Ne.symm h]
theorem shapedRows (nss : List (List Int)) : SeqAt.shaped (.list (nss.map tupD)) = true := by
  have c : ∀ l : List (List Int), PyData.canLayAll0 (l.map tupD) = true := fun l => by
    induction l with
    | nil => rfl
    | cons a l ih =>
      show ((tupD a).canLay0 && PyData.canLayAll0 (l.map tupD)) = true
      rw [ih, show (tupD a).canLay0 = true from canInts a]
      rfl
  have d : ∀ l : List (List Int), PyData.depthAll (l.map tupD) ≤ 1 := fun l => by
    induction l with
    | nil => exact Nat.zero_le _
    | cons a l ih =>
      show max (PyData.depthAll (a.map PyData.int) + 1) (PyData.depthAll (l.map tupD)) ≤ 1
      rw [depthInts]
      omega
  unfold SeqAt.shaped
  rw [Bool.and_eq_true]
  refine ⟨c nss, decide_eq_true ?_⟩
  show PyData.depthAll (nss.map tupD) + 1 ≤ 64
  have := d nss
  omega
theorem r_notInT {H : Hp} {Q : VK} {x y : Addr} {vs : List V} (ns : List Int) (nss : List (List Int)) (h1 : SqT K H x (ns.map V.int)) (h2 : SqL K H y vs) (R : RowsAt K H vs nss) (h : Q (.bl (!decide (ns ∈ nss))) H) : rNotInD K (.ref x) (.ref y) H Q := by
  refine ⟨tupD ns, nss.map tupD, Dp.tupD h1, .lst h2 R.dp, shapedTup ns, shapedRows nss, ?_⟩
  rw [any_rows]
  exact h
end
end Vf

namespace Vf
open PySem PySem.Spec PyProof.Rows L2
/-! ## zip of two lists in a comprehension -/
section
variable {K : PySem.W.Frag} {σ : L2.St} {H : Hp} {Q : VK} {g : TG} {tt : TT} {te : TE} {vs : List Nat}
theorem r_lcZli {ta : TA} (h : ta σ H fun ws H1 => ∃ a b xs ys, ws = [.ref a, .ref b] ∧ SqL K H1 a xs ∧ SqL K H1 b ys ∧ tLc (fun _ H2 R => R (Itz K a b) H2) g tt te vs σ H1 Q) : tLc (iZip K ta) g tt te vs σ H Q := h
theorem r_lcZl {a b : Addr} (xs ys : List V) (n : Nat) (nx : xs.length = n) (ny : ys.length = n) (Pv : Addr → Nat → Hp → Prop) (h0 : ∀ D, H D = none → Pv D 0 (upd H D (.lst [])))
    (hl : ∀ D i H', H D = none → i ≤ n → Pv D i H' → SqL K H' a xs ∧ SqL K H' b ys)
    (hs : ∀ D i x y H' T, H D = none → xs[i]? = some x → ys[i]? = some y → Pv D i H' → H' T = none → g (.ref T) (wipe σ vs) (upd H' T (.tup [x, y])) fun σ2 H2 => wipe σ2 vs = wipe σ vs ∧ tt σ2 H2 fun b H3 =>
      if b = true then te σ2 H3 fun y H4 => ∃ acc, H4 D = some (.lst acc) ∧ acc.length < sizeLine ∧ Pv D (i + 1) (upd H4 D (.lst (acc ++ [y]))) else Pv D (i + 1) H3)
    (hd : ∀ D H', H D = none → Pv D n H' → Q (.ref D) H') : tLc (fun _ H2 R => R (Itz K a b) H2) g tt te vs σ H Q := by
  refine fun D hD => ⟨fun i m H => m = n - i ∧ i ≤ n ∧ Pv D i H, ⟨n, by omega, Nat.zero_le _, h0 D hD⟩, ?_⟩
  rintro i m H' ⟨rfl, hi, p⟩
  obtain ⟨qx, qy⟩ := hl D i H' hD hi p
  by_cases lt : i < n
  · have ix : i < xs.length := by omega
    have iy : i < ys.length := by omega
    refine Or.inr ⟨⟨xs, ys, xs[i], ys[i], qx, qy, by simp [ix], by simp [iy]⟩, Pv D (i + 1), fun H' p' => ⟨n - (i + 1), by omega, rfl, lt, p'⟩, fun v H'' yy => ?_⟩
    obtain ⟨T, x, y, rfl, nT, rfl, f1, f2⟩ := yy
    exact hs D i x y H' T hD (f1 xs qx) (f2 ys qy) p nT
  · have e : i = n := by omega
    subst e
    exact Or.inl ⟨⟨xs, ys, qx, qy, .inl (by omega)⟩, hd D H' hD p⟩
end
/-- the truth of a value, told by K alone: for the tests of comprehensions -/
theorem pt_truK {X : Cx} {K : PySem.W.Frag} {a : Expr} {ta : TE} (e : X.K = K) (ha : PE X a ta) (he : ∀ whole, isTrue a X.env whole = (do let v ← whole; standAt a.pos; holding [v] (truthy v))) :
    PT X a (fun σ H Q => ta σ H fun x H' => ∃ k, TruV K x H' k ∧ Q k H') := by
  subst e
  exact pt_truth ha he
end Vf

namespace Vf
open PySem PySem.Spec PyProof.Rows L2
/-! ## sorted of a dict's keys: ints, pairs of ints -/
section
variable {X : Cx} {K : PySem.W.Frag}
/-- sorted(d), keys ints, any number of them -/
def rSortedDK : List V → Hp → VK → Prop := fun xs H Q => ∃ (a : Addr) (kvs : List (Key × V)) (ks : List Int), xs = [.ref a] ∧ Rd H a (.dK kvs) ∧ kvs.map (·.1) = ks.map Sum.inl ∧
  ∀ (ys : List Int) (p : Addr), ys.Perm ks → ys.Pairwise (· ≤ ·) → H p = none → Q (.ref p) (upd H p (.lst (ys.map V.int)))
theorem cr_sortedDK (hcalm : X.calm = true) : CallR X (.builtin "sorted") rSortedDK := by
  intro pins s σ H xs us Q I r q
  obtain ⟨a, kvs, ks, ex, hd, hks, q⟩ := q
  subst ex
  obtain ⟨u, eu, rx⟩ := vals1 r
  subst eu
  cases rx
  obtain ⟨z, lo, vs, rel, dd⟩ := dk_rd I.hok hd
  obtain ⟨ep, hat⟩ := dd.dictAt
  have hkeys : vs.map (·.1) = ks.map Sum.inl := rel.keys.symm.trans hks
  have hl : vs.length = ks.length := by
    have e := congrArg List.length hkeys
    rw [List.length_map, List.length_map] at e
    exact e
  have h16 : vs.length ≤ sizeLine := by rw [← rel.length]; exact z
  refine Calls.call_function_entry PyProof.Rows.kind_sorted PyProof.Rows.plain_sorted PyProof.Rows.entry_sorted (PyProof.Rows.args_sorted1 _) ?_
  unfold Builtin.«sorted»
  refine wpAny_bind (m := checkCount "sorted" 1 1 _) (wpAny_pure ?_)
  refine wpAny_bind (PySem.W.kdu_collect (A := X.A.in1) (PySem.W.kdl_dict (knd := mixKind X.prog X.w) (kvs := vs) (ep := ep) lo) (I.ok.hd hcalm) hat h16 fun h' tk acc hk hacc => ?_)
  have hal : acc.toList.length = ks.length := by rw [Array.length_toList, hacc.1, hl]
  have hS : IntsAre acc.toList ks := ints_each hal fun j v e => by
    obtain ⟨k, x, e1, e2⟩ := hacc.2 j v (by rw [← Array.getElem?_toList]; exact e)
    have e3 : (vs.map (·.1))[j]? = some k := by rw [List.getElem?_map, e1]; rfl
    rw [hkeys, List.getElem?_map] at e3
    cases e4 : ks[j]? with
    | none => rw [e4] at e3; cases e3
    | some y =>
      rw [e4] at e3
      have e5 : Sum.inl y = k := Option.some.inj e3
      subst e5
      rcases keyIs_shape (show keyIs (Sum.inl y) v = true from e2) with ⟨i, t, ek, ev⟩ | ⟨z, t, ek, ev⟩
      · cases ek
        exact ⟨y, t, rfl, ev⟩
      · cases ek
  have I1 : Inv X pins σ H { s with heap := h', toks := tk } := I.kept hk
  have hz : acc.toList.length ≤ sizeLine := by rw [hal, ← hl]; exact h16
  refine wpAny_bind (wpAny_newList ?_ hz)
  have hoL : (h'.push (seqObj "list" acc.toList.toArray 0)).get? h'.objs.size = some (seqObj "list" acc.toList.toArray 0) := Heap.get?_push_size _ rfl
  show wpAny _ _ _ _ _ { s with heap := h'.push (seqObj "list" acc.toList.toArray 0), toks := tk }
  refine wpAny_bind (wpAny_holding (wpAny_call_entry PyProof.Rows.slot_list_sort ⟨_, hoL, rfl⟩ PyProof.Rows.entry_list_sort
    (SrtO.list_sort_ord (s := { s with heap := h'.push (seqObj "list" acc.toList.toArray 0), toks := tk }) SrtO.swo_int hoL hz (fun h2 => SrtO.ints_sortable hS h2) fun out g1 g2 => ⟨_, rfl, ?_⟩) (PyProof.Rows.args_list_sort _)))
  obtain ⟨k1, k2, k3⟩ := SrtO.ints_out hS g1 g2
  obtain ⟨e', he'⟩ := PyProof.Rows.sortedHeap_at (vs := acc.toList) (out := out.toArray) hoL
  have hlen : ((out.map SrtO.iv).map V.int).length ≤ sizeLine := by
    rw [List.length_map, k2.length_eq, ← hl]
    exact h16
  refine wpAny_pure ⟨_, rfl, .ref h'.objs.size, upd H h'.objs.size (.lst ((out.map SrtO.iv).map V.int)), I1.laid (t' := tk) (fun b u e => ?_) (Nat.le_refl _)
    (show ObjOk X.prog X.w _ _ _ (.lst ((out.map SrtO.iv).map V.int)) from ⟨hlen, out, e', vals_of_ints k1, he'⟩), rfl, q _ _ k2 k3 (I1.hok.fresh (Nat.le_refl _))⟩
  have hb : b < h'.objs.size := Heap.lt_size e
  rw [PyProof.Rows.sortedHeap_old (Nat.ne_of_lt hb) (by rw [size_push']; exact Nat.lt_succ_of_lt hb)]
  exact Heap.get?_push_of_some _ e
theorem c_sortedDK (hcalm : X.calm = true) : CallR X (.builtin "sorted") rSortedDK := cr_sortedDK hcalm
/-- the pair that a tracked value is -/
def pairV (H : Hp) : V → Int × Int
  | .ref t => match H t with
    | some (.tup [.int i, .int j]) => (i, j)
    | _ => (0, 0)
  | _ => (0, 0)
theorem pairV_of {H : Hp} {t : Addr} {i j : Int} (h : H t = some (.tup [.int i, .int j])) : pairV H (.ref t) = (i, j) := by
  show (match H t with
    | some (.tup [.int i, .int j]) => (i, j)
    | _ => (0, 0)) = (i, j)
  rw [h]
def PairK (H : Hp) (v : V) (k : Int × Int) : Prop := ∃ t, v = .ref t ∧ H t = some (.tup [.int k.1, .int k.2])
def keyP (k : Int × Int) : List Key := [Sum.inl k.1, Sum.inl k.2]
/-- sorted(d), keys pairs of ints: they stand in some order -/
def rSortedDT : List V → Hp → VK → Prop := fun xs H Q => ∃ (a : Addr) (kvs : List (List Key × V)) (ks : List (Int × Int)), xs = [.ref a] ∧ Rd H a (.dT kvs) ∧ kvs.map (·.1) = ks.map keyP ∧
  ∀ (ys : List V) (ks' : List (Int × Int)) (p : Addr), ks'.Perm ks → Paired (PairK H) ys ks' → H p = none → Q (.ref p) (upd H p (.lst ys))
theorem pairs_made {H : Hp} : ∀ (bs : List Addr) (ks : List (Int × Int)), Paired (fun b k => H b = some (.tup [.int k.1, .int k.2])) bs ks → (∀ b ∈ bs, ∃ i j, H b = some (.tup [.int i, .int j])) ∧ (bs.map V.ref).map (pairV H) = ks
  | _, _, .nil => ⟨(fun b hb => nomatch hb), rfl⟩
  | _, _, .cons h t => by
    obtain ⟨h1, h2⟩ := pairs_made _ _ t
    refine ⟨fun b hb => ?_, ?_⟩
    · rcases List.mem_cons.mp hb with e | e
      · rw [e]
        exact ⟨_, _, h⟩
      · exact h1 b e
    · rw [List.map_cons, List.map_cons, h2, pairV_of h]
theorem paired_pairV {H : Hp} : ∀ ys : List V, (∀ y ∈ ys, ∃ t i j, y = .ref t ∧ H t = some (.tup [.int i, .int j])) → Paired (PairK H) ys (ys.map (pairV H))
  | [], _ => .nil
  | y :: ys, h => by
    obtain ⟨t, i, j, rfl, e⟩ := h _ List.mem_cons_self
    refine .cons ⟨t, rfl, by rw [pairV_of e]; exact e⟩ (paired_pairV ys fun z hz => h z (List.mem_cons_of_mem _ hz))
theorem kt_pairs {H : Hp} : ∀ {kvs : List (List Key × V)} {xs : List (List Key × Addr × Value)} (ks : List (Int × Int)), KT H kvs xs → kvs.map (·.1) = ks.map keyP → Paired (fun b k => H b = some (.tup [.int k.1, .int k.2])) (xs.map fun x => x.2.1) ks
  | _, _, [], .nil, _ => .nil
  | _, _, k :: ks, .cons h t, e => by
    obtain ⟨e1, e2⟩ := List.cons.inj e
    refine .cons ?_ (kt_pairs ks t e2)
    have h1 := h.2.1
    dsimp only at e1
    rw [e1] at h1
    exact h1
  | _, _, [], .cons h t, e => by cases e
  | _, _, k :: ks, .nil, e => by cases e
theorem cr_sortedDT (hcalm : X.calm = true) : CallR X (.builtin "sorted") rSortedDT := by
  intro pins s σ H xs us Q I r q
  obtain ⟨d, kvs, ks, rfl, hd, hks, q⟩ := q
  obtain ⟨u, rfl, rx⟩ := r.one
  cases rx
  obtain ⟨z, hs, kx, pr, o, es, ep, ho, hx, hdt, he, hn⟩ := (show ObjOk X.prog X.w H s.heap d (.dT kvs) from hd.ok I.hok)
  have l1 : es.size = kx.length := size_of_entries he
  have l2 : kvs.length = kx.length := Paired.length pr
  refine Calls.call_function_entry PyProof.Rows.kind_sorted PyProof.Rows.plain_sorted PyProof.Rows.entry_sorted (PyProof.Rows.args_sorted1 _) ?_
  unfold Builtin.«sorted»
  refine wpAny_bind (m := checkCount "sorted" 1 1 _) (wpAny_pure ?_)
  refine wpAny_bind (PySem.W.kdu_collect (A := X.A.in1) (kdl_raw hs hx hdt) (I.ok.hd hcalm) ho (by omega) fun h' tk acc hk it => ?_)
  have ea : acc.toList = kx.map fun x => Value.ref x.2.1 := by
    have hl : acc.toList.length = kx.length := by rw [Array.length_toList, it.1]; exact l1
    apply List.ext_getElem?
    intro j
    rw [List.getElem?_map]
    cases hj : acc.toList[j]? with
    | none =>
      have h1 := List.getElem?_eq_none_iff.mp hj
      rw [List.getElem?_eq_none (by omega)]
      all_goals rfl
    | some v =>
      obtain ⟨en, hen, hv⟩ := it.2 j v (by rw [← Array.getElem?_toList]; exact hj)
      have qe := entry_at he j
      rw [hen] at qe
      cases hb : kx[j]? with
      | none =>
        rw [hb] at qe
        exact nomatch (show some en = none from qe)
      | some b =>
        rw [hb] at qe
        have e2 : en = entryOfKey (tupleKind (mixKind X.prog X.w)) b := Option.some.inj qe
        rw [hv, e2]
        all_goals rfl
  have eb : acc.toList = (kx.map fun x => x.2.1).map Value.ref := by rw [ea, List.map_map]; all_goals rfl
  have P := kt_pairs ks pr hks
  generalize (kx.map fun x => x.2.1) = bs at eb P
  have lb : bs.length = kx.length := by
    have := congrArg List.length eb
    rw [List.length_map, Array.length_toList, it.1] at this
    omega
  obtain ⟨P1, P2⟩ := pairs_made _ _ P
  have I1 : Inv X pins σ H { s with heap := h', toks := tk } := I.kept hk
  have hz : acc.toList.length ≤ sizeLine := by rw [eb, List.length_map, lb, ← l2]; exact z
  have hp : ∀ v ∈ acc.toList, Srt.IsPair h' v (pairV H (backV v)).1 (pairV H (backV v)).2 := fun v hv => by
    rw [eb] at hv
    obtain ⟨t, ht, rfl⟩ := List.mem_map.mp hv
    obtain ⟨i, j, e⟩ := P1 t ht
    obtain ⟨_, its2, r2, o2, ho2, hc2, n, hd2⟩ := I1.hok _ _ e
    obtain ⟨u1, u2, rfl, ri, rj⟩ := vals2 r2
    obtain ⟨t1, rfl⟩ := ri
    obtain ⟨t2, rfl⟩ := rj
    rw [show backV (Value.ref t) = V.ref t from rfl, pairV_of e]
    exact ⟨t, o2, t1, t2, n, rfl, ho2, hc2, hd2⟩
  refine wpAny_bind (wpAny_newList ?_ hz)
  have hoL : (h'.push (seqObj "list" acc.toList.toArray 0)).get? h'.objs.size = some (seqObj "list" acc.toList.toArray 0) := Heap.get?_push_size _ rfl
  have keepP : ∀ b u, h'.get? b = some u → (h'.push (seqObj "list" acc.toList.toArray 0)).get? b = some u := fun b u e => Heap.get?_push_of_some _ e
  show wpAny _ _ _ _ _ { s with heap := h'.push (seqObj "list" acc.toList.toArray 0), toks := tk }
  refine wpAny_bind (wpAny_holding (wpAny_call_entry PyProof.Rows.slot_list_sort ⟨_, hoL, rfl⟩ PyProof.Rows.entry_list_sort
    (SrtO.list_sort_ord (s := { s with heap := h'.push (seqObj "list" acc.toList.toArray 0), toks := tk }) (SrtO.swo_lex fun u => pairV H (backV u)) hoL hz (fun h2 => SrtO.pairs_sortableO (by omega) (fun v hv => (hp v hv).keeps fun b o e _ => keepP b o e) fun o e => ?_) fun out g1 g2 => ⟨_, rfl, ?_⟩) (PyProof.Rows.args_list_sort _)))
  · have e' : some o = some (seqObj "list" acc.toList.toArray 0) := e.symm.trans hoL
    cases e'
    intro c
    exact absurd (Value.type.inj c) (by decide)
  · have h3 : ∀ u ∈ out, ∃ t, u = Value.ref t ∧ t ∈ bs := fun u hu => by
      have := g2.perm.mem_iff.mp hu
      rw [eb] at this
      obtain ⟨t, ht, rfl⟩ := List.mem_map.mp this
      exact ⟨t, rfl, ht⟩
    obtain ⟨e', he'⟩ := PyProof.Rows.sortedHeap_at (vs := acc.toList) (out := out.toArray) hoL
    have pm : (out.map backV).Perm (bs.map V.ref) := by
      have := g2.perm.map backV
      rw [eb, List.map_map] at this
      exact this
    have hlen : (out.map backV).length ≤ sizeLine := by
      rw [pm.length_eq, List.length_map, lb, ← l2]
      exact z
    refine wpAny_pure ⟨_, rfl, .ref h'.objs.size, upd H h'.objs.size (.lst (out.map backV)), I1.laid (t' := tk) (fun b u e => ?_) (Nat.le_refl _)
      (show ObjOk X.prog X.w _ _ _ (.lst (out.map backV)) from ⟨hlen, out, e', vals_back (fun u hu => by obtain ⟨t, e, _⟩ := h3 u hu; exact ⟨t, e⟩), he'⟩), rfl, q _ ((out.map backV).map (pairV H)) _ (by have := pm.map (pairV H); rw [P2] at this; exact this) (paired_pairV _ fun y hy => ?_) (I1.hok.fresh (Nat.le_refl _))⟩
    · have hb : b < h'.objs.size := Heap.lt_size e
      rw [PyProof.Rows.sortedHeap_old (Nat.ne_of_lt hb) (by rw [size_push']; exact Nat.lt_succ_of_lt hb)]
      exact Heap.get?_push_of_some _ e
    · obtain ⟨u, hu, rfl⟩ := List.mem_map.mp hy
      obtain ⟨t, rfl, ht⟩ := h3 u hu
      obtain ⟨i, j, e⟩ := P1 t ht
      exact ⟨t, i, j, rfl, e⟩
theorem c_sortedDT (hcalm : X.calm = true) : CallR X (.builtin "sorted") rSortedDT := cr_sortedDT hcalm
end
end Vf

namespace Vf
open PySem PySem.Spec PyProof.Rows L2
/-! ## ranges upwards by a step -/
theorem range_up {i j c : Int} (hc : 0 < c) (h : i < j) : Builtin.Range.rangeSize i j c = (((j - i - 1) / c + 1).toNat : Int) := by
  unfold Builtin.Range.rangeSize
  rw [if_pos (by omega), if_pos h]
  have := Int.ediv_nonneg (a := j - i - 1) (b := c) (by omega) (by omega)
  omega
theorem RgC.up {i j c : Int} (h0 : 0 ≤ i) (h : i < j) (hj : j < 2 ^ 29) (hc : 0 < c) (hc1 : c < 2 ^ 29) : RgC i j c ((j - i - 1) / c + 1).toNat := by
  refine ⟨by omega, by omega, ?_, range_up hc h⟩
  have h1 := Int.ediv_nonneg (a := j - i - 1) (b := c) (by omega) (by omega)
  have h2 := Int.ediv_le_self c (show (0 : Int) ≤ j - i - 1 by omega)
  unfold Builtin.Range.small
  rw [range_up hc h]
  have e : (((j - i - 1) / c + 1).toNat : Int) = (j - i - 1) / c + 1 := by omega
  rw [e]
  generalize (j - i - 1) / c = q at *
  simp only [Builtin.Range.rangeFitsLong, Bool.and_eq_true, Bool.or_eq_true, decide_eq_true_eq, beq_iff_eq]
  simp only [show c > 0 from hc, if_true]
  simp only [Bool.and_eq_true, decide_eq_true_eq]
  omega
/-- the turns are just the numbers of 0..b-1 that leave the rest -/
theorem up_mem {k g b : Int} (h0 : 0 ≤ k) (h1 : k < g) (hb : k < b) (r : Int) : (∃ i : Nat, i < ((b - k - 1) / g + 1).toNat ∧ r = k + (i : Int) * g) ↔ 0 ≤ r ∧ r < b ∧ r % g = k := by
  have q0 := Int.ediv_nonneg (a := b - k - 1) (b := g) (by omega) (by omega)
  have e := Int.mul_ediv_add_emod (b - k - 1) g
  have l := Int.emod_lt_of_pos (b - k - 1) (show 0 < g by omega)
  have l0 := Int.emod_nonneg (b - k - 1) (show g ≠ 0 by omega)
  constructor
  · rintro ⟨i, hi, rfl⟩
    have hi2 : (i : Int) ≤ (b - k - 1) / g := by omega
    have m := Int.mul_le_mul_of_nonneg_right hi2 (show 0 ≤ g by omega)
    have m0 := Int.mul_nonneg (show (0 : Int) ≤ i by omega) (show 0 ≤ g by omega)
    rw [Int.mul_comm g] at e
    refine ⟨by omega, by omega, ?_⟩
    rw [Int.add_mul_emod_self_right, Int.emod_eq_of_lt h0 h1]
  · rintro ⟨r0, r1, hr⟩
    have er := Int.mul_ediv_add_emod r g
    have d0 := Int.ediv_nonneg (a := r) (b := g) r0 (by omega)
    have er2 : r = k + r / g * g := by
      rw [hr] at er
      rw [Int.mul_comm g] at er
      omega
    refine ⟨(r / g).toNat, ?_, by rw [Int.toNat_of_nonneg d0]; exact er2⟩
    have : r / g ≤ (b - k - 1) / g := by
      rw [Int.le_ediv_iff_mul_le (by omega)]
      omega
    omega
/-! ## a walk of two lists, pair by pair -/
section
variable {K : PySem.W.Frag} {g : TG} {tb : TS} {D : Ends} {σ : L2.St} {H : Hp}
theorem r_forZli {ta : TA} (h : ta σ H fun vs H1 => ∃ a b xs ys, vs = [.ref a, .ref b] ∧ SqL K H1 a xs ∧ SqL K H1 b ys ∧ tFor (fun _ H2 R => R (Itz K a b) H2) g tb D σ H1) : tFor (iZip K ta) g tb D σ H := h
theorem r_forZl {a b : Addr} (xs ys : List V) (n : Nat) (hx : xs.length = n) (hy : ys.length = n) (Pv : Nat → L2.St → Hp → Prop) (h0 : Pv 0 σ H)
    (hl : ∀ i σ H, i ≤ n → Pv i σ H → SqL K H a xs ∧ SqL K H b ys)
    (hs : ∀ i x y σ H T, xs[i]? = some x → ys[i]? = some y → Pv i σ H → H T = none → g (.ref T) σ (upd H T (.tup [x, y])) fun σ2 H2 => tb { D with nx := Pv (i + 1), ct := Pv (i + 1), bk := D.nx } σ2 H2)
    (hd : ∀ σ H, Pv n σ H → D.nx σ H) : tFor (fun _ H2 R => R (Itz K a b) H2) g tb D σ H := by
  refine ⟨fun i m σ H => m = n - i ∧ i ≤ n ∧ Pv i σ H, ⟨n, by omega, Nat.zero_le _, h0⟩, ?_⟩
  rintro i m σ H ⟨rfl, hi, p⟩
  obtain ⟨qx, qy⟩ := hl i σ H hi p
  by_cases lt : i < n
  · have ix : i < xs.length := by omega
    have iy : i < ys.length := by omega
    refine Or.inr ⟨⟨xs, ys, xs[i], ys[i], qx, qy, by simp [ix], by simp [iy]⟩, Pv (i + 1), fun σ' H' p' => ⟨n - (i + 1), by omega, rfl, lt, p'⟩, fun v H' yy => ?_⟩
    obtain ⟨T, x, y, rfl, nT, rfl, f1, f2⟩ := yy
    exact hs i x y σ H T (f1 xs qx) (f2 ys qy) p nT
  · have e : i = n := by omega
    subst e
    exact Or.inl ⟨⟨xs, ys, qx, qy, .inl (by omega)⟩, hd σ H p⟩
theorem r_dnewK {Q : VK} (h : ∀ p, H p = none → Q (.ref p) (upd H p (.dK []))) : tDNewK σ H Q := h
end
/-! ## the keys of a dict -/
section
variable {κ : Type} [DecidableEq κ]
theorem putK_keys (kvs : List (κ × V)) (k : κ) (v : V) : (putK kvs k v).map (·.1) = if k ∈ kvs.map (·.1) then kvs.map (·.1) else kvs.map (·.1) ++ [k] := by
  unfold putK
  have any : (kvs.any fun kv => decide (kv.1 = k)) = true ↔ k ∈ kvs.map (·.1) := by
    rw [List.any_eq_true, List.mem_map]
    exact ⟨fun ⟨x, h1, h2⟩ => ⟨x, h1, of_decide_eq_true h2⟩, fun ⟨x, h1, h2⟩ => ⟨x, h1, decide_eq_true h2⟩⟩
  by_cases h : k ∈ kvs.map (·.1)
  · rw [if_pos h, if_pos (any.mpr h), List.map_map]
    refine List.map_congr_left fun x _ => ?_
    show (if x.1 = k then (x.1, v) else x).1 = x.1
    split <;> rfl
  · rw [if_neg h, if_neg (fun z => h (any.mp z)), List.map_append]
    rfl
end
/-- the keys that are ints -/
def IKeys (kvs : List (Key × V)) (ks : List Int) : Prop := kvs.map (·.1) = ks.map Sum.inl ∧ ks.Nodup
theorem IKeys.nil : IKeys [] [] := ⟨rfl, List.nodup_nil⟩
theorem IKeys.len {kvs : List (Key × V)} {ks : List Int} (h : IKeys kvs ks) : kvs.length = ks.length := by
  have := congrArg List.length h.1
  rw [List.length_map, List.length_map] at this
  exact this
theorem inl_mem {ks : List Int} {j : Int} : (Sum.inl j : Key) ∈ ks.map Sum.inl ↔ j ∈ ks := by
  rw [List.mem_map]
  exact ⟨fun ⟨x, h1, h2⟩ => by cases h2; exact h1, fun h => ⟨j, h, rfl⟩⟩
theorem IKeys.put {kvs : List (Key × V)} {ks : List Int} (h : IKeys kvs ks) (j : Int) (v : V) : ∃ ks', IKeys (putK kvs (Sum.inl j) v) ks' ∧ (∀ x, x ∈ ks' ↔ x ∈ ks ∨ x = j) ∧ ks'.length ≤ ks.length + 1 := by
  have e := putK_keys kvs (Sum.inl j : Key) v
  rw [h.1] at e
  by_cases m : j ∈ ks
  · rw [if_pos (inl_mem.mpr m)] at e
    refine ⟨ks, ⟨e, h.2⟩, fun x => ⟨.inl, fun z => z.elim id fun z => by rw [z]; exact m⟩, by omega⟩
  · rw [if_neg fun z => m (inl_mem.mp z)] at e
    refine ⟨ks ++ [j], ⟨by rw [e, List.map_append]; rfl, ?_⟩, fun x => by rw [List.mem_append, List.mem_singleton], by rw [List.length_append]; exact Nat.le_refl _⟩
    rw [List.nodup_append]
    exact ⟨h.2, List.pairwise_singleton _ j, fun a ha b hb => by rw [List.mem_singleton.mp hb]; rintro rfl; exact m ha⟩
/-- the keys that are pairs of ints -/
def PKeys (kvs : List (List Key × V)) (ks : List (Int × Int)) : Prop := kvs.map (·.1) = ks.map keyP
theorem PKeys.len {kvs : List (List Key × V)} {ks : List (Int × Int)} (h : PKeys kvs ks) : kvs.length = ks.length := by
  have := congrArg List.length h
  rw [List.length_map, List.length_map] at this
  exact this
theorem PKeys.put {kvs : List (List Key × V)} {ks : List (Int × Int)} (h : PKeys kvs ks) (j : Int × Int) (v : V) : ∃ ks', PKeys (putK kvs (keyP j) v) ks' ∧ (∀ x, x ∈ ks' ↔ x ∈ ks ∨ x = j) ∧ ks'.length ≤ ks.length + 1 := by
  have inj : ∀ a b : Int × Int, keyP a = keyP b → a = b := fun a b e => by
    unfold keyP at e
    injection e with e1 e2
    injection e2 with e2 _
    cases a; cases b
    cases e1; cases e2
    rfl
  have e := putK_keys kvs (keyP j) v
  rw [show kvs.map (·.1) = ks.map keyP from h] at e
  have mi : keyP j ∈ ks.map keyP ↔ j ∈ ks := by
    rw [List.mem_map]
    exact ⟨fun ⟨x, h1, h2⟩ => by rw [← inj _ _ h2]; exact h1, fun h => ⟨j, h, rfl⟩⟩
  by_cases m : j ∈ ks
  · rw [if_pos (mi.mpr m)] at e
    exact ⟨ks, e, fun x => ⟨.inl, fun z => z.elim id fun z => by rw [z]; exact m⟩, by omega⟩
  · rw [if_neg fun z => m (mi.mp z)] at e
    exact ⟨ks ++ [j], by rw [PKeys, e, List.map_append]; rfl, fun x => by rw [List.mem_append, List.mem_singleton], by rw [List.length_append]; exact Nat.le_refl _⟩
end Vf
namespace Vf
open PySem PySem.Spec PyProof.Rows L2
theorem Kx.tupT {K : PySem.W.Frag} {k : Addr} {H H' : Hp} {l : List (List Key × V)} {a : Addr} {xs : List V} (e : Kx k H H') (hk : H k = some (.dT l)) (h : SqT K H a xs) : SqT K H' a xs := by
  rcases h with (h | ⟨o, h⟩) | h
  · exact Or.inl (Or.inl (e _ _ (ne_of h hk (by intro z; cases z)) h))
  · exact Or.inl (Or.inr ⟨o, e _ _ (ne_of h hk (by intro z; cases z)) h⟩)
  · exact Or.inr h
theorem Kx.tupK {K : PySem.W.Frag} {k : Addr} {H H' : Hp} {l : List (Key × V)} {a : Addr} {xs : List V} (e : Kx k H H') (hk : H k = some (.dK l)) (h : SqT K H a xs) : SqT K H' a xs := by
  rcases h with (h | ⟨o, h⟩) | h
  · exact Or.inl (Or.inl (e _ _ (ne_of h hk (by intro z; cases z)) h))
  · exact Or.inl (Or.inr ⟨o, e _ _ (ne_of h hk (by intro z; cases z)) h⟩)
  · exact Or.inr h
end Vf

namespace Vf
open PySem PySem.Spec PyProof.Rows L2
/-! ## sorted(set(xs)) of a list of ints -/
abbrev nSt (w : World) : Obj := { cls := .type "set", dict := none, data := .set #[] 0 (.fresh 0 0 (!w.params.followText "set-order")) }
section
variable {P : Program} {w : World} {A : Around} {E : Value → Shared → Prop} {s : Shared}
theorem set_of_list {l : Addr} {xs : Array Value} (ns : List Int) {Q : Value → Shared → Prop} (hh : A.handled = none) (hl : s.heap.IsList l xs) (hx : IntsAre xs.toList ns) (hb : ns.length + 1 < scanBound)
    (q : ∀ (h' : Heap) (tk c : Nat), SetR w h' s.heap.objs.size (fun j => decide (j ∈ ns)) c → c ≤ ns.length → (∀ b o, s.heap.get? b = some o → h'.get? b = some o) → Q (.ref s.heap.objs.size) { s with heap := h', toks := tk }) :
    wpAny (model P w) A (call (.type "set") [.ref l]) Q E s := by
  have sz : xs.size = ns.length := by
    have z := IntsAre.length hx
    rwa [Array.length_toList] at z
  obtain ⟨cc, tl, z1⟩ := F.called_set.mro
  have z2 := F.called_set.made
  have z3 := F.called_set.sub
  have z4 := F.called_set.notType
  have z5 := F.called_set.canCreate
  have z6 := F.typeCall_set_1 (.ref l)
  refine wpAny_call <| codeAny_of_tree ?_
  show wpAny _ _ (callAny (.type "set") _) _ _ _
  refine wpAny_pure ⟨Code.quiet_builtin _ (by decide +kernel), codeAny_builtin F.entry_type_call ?_⟩
  rw [Around.under_plain (weight_type_call_type "set" [.ref l] []) rfl]
  repeat any_goals first | assumption | wp_step
  refine codeAny_mono (code_set_led1 (.ref l) (E := E) (Q₁ := fun obj s1 => obj = .ref s.heap.objs.size ∧ s1 = { s with heap := s.heap.push (nSt w) }) ⟨rfl, rfl⟩) fun r s1 g => ?_
  cases r with
  | error e => exact g
  | ok fl =>
    cases fl with
    | ret obj =>
      obtain ⟨rfl, rfl⟩ := g
      have e0 : (s.heap.push (nSt w)).get? s.heap.objs.size = some (nSt w) := Heap.get?_push_size _ rfl
      have ty : Shared.TypeIs { s with heap := s.heap.push (nSt w) } (.ref s.heap.objs.size) "set" := ⟨_, e0, rfl⟩
      have z7 := F.called_set.init.lookup
      have z8 := F.called_set.init.bind (.ref s.heap.objs.size)
      repeat any_goals first | assumption | wp_step
      refine codeAny_mono (codeAny_call_builtin (R := wants (fun r s2 => r = .none ∧ ∃ h' tk c, s2 = { s with heap := h', toks := tk } ∧ SetR w h' s.heap.objs.size (fun j => decide (j ∈ ns)) c ∧ c ≤ ns.length ∧ (∀ b o, s.heap.get? b = some o → h'.get? b = some o)) E) F.called_set.init.plain F.entry_set_init (check_set_init_1 ty ?_)) fun r2 s2 g2 => ?_
      · obtain ⟨⟨oc, od, odt, osl⟩, o1, o2, n, o3⟩ := hl
        simp only at o2 o3
        subst o2; subst o3
        have o4 : (s.heap.push (nSt w)).get? l = some { cls := .type "list", dict := od, data := .seq xs n, slots := osl } := Heap.get?_push_of_some _ o1
        have y1 := F.sub_list_set
        have y2 := F.sub_list_frozenset
        have y3 : (Value.type "list" == Value.type "dict") = false := by decide
        have li : (s.heap.push (nSt w)).IsList l xs := ⟨_, o4, rfl, n, rfl⟩
        unfold Builtin.«set.__init__» noKeywords Builtin.Frozenset.updateFrom
        generalize hI : pyIter = PI
        wp_walk
        subst hI
        refine wpAny_pyIter_list li <| wpAny_bind <| wpAny_runValue ?_
        have lS : l < s.heap.objs.size := Heap.lt_size o1
        have h3 : A.in1.in1.in1.handled = none := by simp [hh]
        have neI : l ≠ (s.heap.push (nSt w)).objs.size := by rw [Heap.size_push]; exact Nat.ne_of_lt (Nat.lt_succ_of_lt lS)
        have nin : s.heap.objs.size ∉ [(s.heap.push (nSt w)).objs.size, l] := by
          rw [Heap.size_push]; simp only [List.mem_cons, List.mem_singleton, List.not_mem_nil, or_false, not_or]; exact ⟨Nat.ne_of_lt (Nat.lt_succ_self _), Nat.ne_of_gt lS⟩
        have vl : ∀ (i : Nat) (v : Value), xs[i]? = some v → ∃ k t, ns[i]? = some k ∧ v = .int k t := fun i v hv => by
          have hi : i < ns.length := by rw [← sz]; exact (Array.getElem?_eq_some_iff.mp hv).1
          obtain ⟨t, e⟩ := IntsAre.int_at hx i v (by rw [Array.getElem?_toList]; exact hv)
          refine ⟨ns[i], t, List.getElem?_eq_getElem hi, ?_⟩
          rw [e, List.getD_eq_getElem?_getD, List.getElem?_eq_getElem hi] <;> rfl
        refine set_update_ints ((Walks.list h3 _ l neI xs).toS) s.heap.objs.size nin ns sz hb vl (xs.size - 0) 0 _ (by omega) (Nat.zero_le _) ⟨⟨_, Heap.get?_push_size _ rfl, rfl, rfl⟩, (li.push _)⟩ ⟨0, Nat.le_refl 0, setR_new_at (Heap.get?_push_of_some _ e0)⟩ fun s' c' hm hc' hS' => ?_
        obtain ⟨h', g3, d', tk', os'⟩ := s'
        have eg : g3 = s.gens := hm.gens
        have ed : d' = s.drawn := hm.drawn
        have eo : os' = s.os := hm.os
        subst eg; subst ed; subst eo
        show wpAny _ _ _ _ _ _
        refine wpAny_pure ?_
        show wpAny _ _ (ret Value.none) _ _ _
        rw [sz] at hc'
        refine wpAny_pure ⟨rfl, h', tk', c', rfl, hS', hc', fun b o e => hm.heap b o ?_ (Heap.get?_push_of_some _ (Heap.get?_push_of_some _ e))⟩
        have b0 : b < s.heap.objs.size := Heap.lt_size e
        simp only [List.mem_cons, List.mem_singleton, List.not_mem_nil, or_false, not_or]
        refine ⟨Nat.ne_of_lt b0, ?_⟩
        rw [Heap.size_push]; exact Nat.ne_of_lt (Nat.lt_succ_of_lt b0)
      · cases r2 with
        | error e => exact g2
        | ok fl2 =>
          cases fl2 with
          | ret r =>
            obtain ⟨rfl, h', tk, c', rfl, hS', hc', hk'⟩ := g2
            repeat any_goals first | assumption | wp_step
            exact q _ _ _ hS' hc' hk'
          | _ => exact g2.elim
    | _ => exact g.elim
end
section
variable {X : Cx} {K : PySem.W.Frag} {w : World}
/-- set(xs) of a list of ints, kept with what is in it -/
def rSetLo (K : PySem.W.Frag) (w : World) : List V → Hp → VK → Prop := fun xs H Q => ∃ (l : Addr) (ns : List Int), xs = [.ref l] ∧ SqL K H l (ns.map V.int) ∧ ns.length ≤ 4000 ∧
  ∀ p c, H p = none → c ≤ ns.length → Q (.ref p) (upd H p (SetO w p (fun j => decide (j ∈ ns)) c))
theorem cr_setLo (hc : X.calm = true) : CallR X (.type "set") (rSetLo X.K X.w) := by
  intro pins s σ H xs us Q I r h
  obtain ⟨l, ns, rfl, hs, hl, q⟩ := h
  obtain ⟨u, rfl, ru⟩ := vals1 r
  cases ru
  obtain ⟨its, rv, pl, hz⟩ := I.list hs
  refine set_of_list ns (I.ok.hd hc) pl.isList (by simpa using RZ.intsAre_vals rv) (by unfold scanBound; omega) fun h' tk c hS hc2 hk => ?_
  exact ⟨.ref s.heap.objs.size, _, I.laid (t' := tk) hk (Nat.le_refl _) (setO_new hS), rfl, q _ _ (I.hok.fresh (Nat.le_refl _)) hc2⟩
theorem c_setLo (e : X.K = K) (e2 : X.w = w) (hc : X.calm = true) : CallR X (.type "set") (rSetLo K w) := by subst e; subst e2; exact cr_setLo hc
theorem c_sortedSet (e2 : X.w = w) (hc : X.calm = true) : CallR X (.builtin "sorted") (rSortedSet w) := by subst e2; exact cr_sortedSet hc
end
section
variable {K : PySem.W.Frag} {H : Hp} {Q : VK} {w : World}
theorem r_setLo {l : Addr} (ns : List Int) (h1 : SqL K H l (ns.map V.int)) (h2 : ns.length ≤ 4000) (h : ∀ p c, H p = none → c ≤ ns.length → Q (.ref p) (upd H p (SetO w p (fun j => decide (j ∈ ns)) c))) : rSetLo K w [.ref l] H Q := ⟨l, ns, rfl, h1, h2, h⟩
theorem r_sortedSet {a : Addr} {S : Int → Bool} {n : Nat} (ha : H a = some (SetO w a S n)) (hn : n < 64) (h : ∀ (ns : List Int) (p : Addr), ns.Pairwise (· < ·) → (∀ k : Int, k ∈ ns ↔ S k = true) → ns.length = n → H p = none → Q (.ref p) (upd H p (.lst (ns.map V.int)))) : rSortedSet w [.ref a] H Q := ⟨a, S, n, rfl, ha, hn, h⟩
end
end Vf

namespace Vf
open PySem PySem.Spec PyProof.Rows L2
/-! ## sorted of a set of ints that lie in a small range -/
theorem nodup_le : ∀ (B : Nat) (l : List Int), l.Nodup → (∀ k ∈ l, 0 ≤ k ∧ k < (B : Int)) → l.length ≤ B
  | 0, l, _, h => by
    cases l with
    | nil => exact Nat.le_refl _
    | cons a l =>
      have := h a List.mem_cons_self
      omega
  | B + 1, l, nd, h => by
    by_cases m : (B : Int) ∈ l
    · have := nodup_le B (l.erase (B : Int)) (nd.erase _) fun k hk => by
        obtain ⟨h1, h2⟩ := (nd.mem_erase_iff).mp hk
        have := h k h2
        omega
      rw [List.length_erase_of_mem m] at this
      omega
    · have := nodup_le B l nd fun k hk => by
        have := h k hk
        have : k ≠ (B : Int) := fun e => m (e ▸ hk)
        omega
      omega
section
variable {X : Cx} {w : World}
def rSortedSetB (w : World) : List V → Hp → VK → Prop := fun vs H Q => ∃ (a : Addr) (S : Int → Bool) (n B : Nat), vs = [V.ref a] ∧ H a = some (SetO w a S n) ∧ B < 64 ∧ (∀ k, S k = true → 0 ≤ k ∧ k < (B : Int)) ∧
  ∀ (ns : List Int) (p : Addr), ns.Pairwise (· < ·) → (∀ k : Int, k ∈ ns ↔ S k = true) → H p = none → Q (.ref p) (upd H p (.lst (ns.map V.int)))
theorem cr_sortedSetB (hc : X.calm = true) : CallR X (.builtin "sorted") (rSortedSetB X.w) := by
  intro pins s σ H vs us Q I r h
  obtain ⟨a, S, n, B, rfl, ha, h64, hb, q⟩ := h
  have n64 : n < 64 := by
    have R := setO_get I ha
    obtain ⟨o, es, ep, t, ho, hex, hd, he, nd, hS, hsz, hf, hn, _⟩ := R
    have := nodup_le B _ nd fun k hk => hb k ((hS k).mpr hk)
    rw [List.length_map, Array.length_toList] at this
    omega
  exact cr_sortedSet hc pins s σ H _ us Q I r ⟨a, S, n, rfl, ha, n64, fun ns p h1 h2 _ h4 => q ns p h1 h2 h4⟩
theorem c_sortedSetB (e2 : X.w = w) (hc : X.calm = true) : CallR X (.builtin "sorted") (rSortedSetB w) := by subst e2; exact cr_sortedSetB hc
end
section
variable {σ : L2.St} {H : Hp} {Q : VK}
theorem r_lstRg {te : L2.St → Hp → (Int → Int → Hp → Prop) → Prop} (h : te σ H fun a b H1 => RgOk a b ∧ ∀ q, H1 q = none → Q (.ref q) (upd H1 q (.lst (rgV a b)))) : tLstRg te σ H Q := h
theorem r_rg1 {ta : TE} {R : Int → Int → Hp → Prop} (h : ta σ H fun x H1 => ∃ n, x = .int n ∧ R 0 n H1) : tRg1 ta σ H R := h
end
end Vf

namespace Vf
open PySem PySem.Spec PyProof.Rows L2
/-! ## tuple(zip(t, u)) of two tuples -/
section
variable {prog : Program} {w : World} {A : Around} {s : Shared} {u TI TO i1 i2 a b : Nat} {xs ys : List Value}
theorem zt_collect {R : List Value → Shared → Prop} {E : Value → Shared → Prop} (hh : A.handled = none) (D : ZipApart u TI TO i1 i2 a b) {i : Nat} (e0 : i = 0) (st : ZTn u TI TO i1 i2 a b i s.heap) (ta : s.heap.IsTuple a xs.toArray) (tb : s.heap.IsTuple b ys.toArray) (hn : min xs.length ys.length ≤ sizeLine)
    (hQ : ∀ h' tk acc c ad, (∀ (d : Nat) o, d ≠ u → d ≠ TO → d ≠ i1 → d ≠ i2 → s.heap.get? d = some o → h'.get? d = some o) → h'.get? s.heap.objs.size = some (lsO acc c) → ad.length = min xs.length ys.length → PrsL s.heap.objs.size xs ys h' ad → acc.toList = ad.map Value.ref → R acc.toList { s with heap := h', toks := tk }) :
    wpAny (model prog w) A (collect (.ref u)) R E s := by
  subst e0
  obtain ⟨⟨f0, f1, p0, p1, zz⟩, ti, ⟨x0, y0, to⟩, t1, t2⟩ := id st
  generalize eS : s.heap.objs.size = S at *
  have lu : u < S := eS ▸ Heap.lt_size zz
  have lI : TI < S := eS ▸ Heap.lt_size ti
  have lO : TO < S := eS ▸ Heap.lt_size to
  have k1 : i1 < S := by
    obtain ⟨_, q, _⟩ := t1
    exact eS ▸ Heap.lt_size q
  have k2 : i2 < S := by
    obtain ⟨_, q, _⟩ := t2
    exact eS ▸ Heap.lt_size q
  have la : a < S := by
    obtain ⟨_, q, _⟩ := ta
    exact eS ▸ Heap.lt_size q
  have lb : b < S := by
    obtain ⟨_, q, _⟩ := tb
    exact eS ▸ Heap.lt_size q
  unfold collect
  refine wpAny_bind (wpAny_runValue (codeAny_builtin entry_proto_collect' ?_))
  rw [Around.under_plainId PySem.F.plain_proto_collect _]
  show wpAny _ A.in1 (newList [] >>= fun l => again (.builtin "list.__iadd__" ⟨[l, .ref u], []⟩)) _ _ s
  refine wpAny_bind (wpAny_newObj_type ?_)
  refine wpAny_pure ⟨plainId_quiet PySem.F.plain_list_iadd _, codeAny_builtin entry_list_iadd' ?_⟩
  rw [Around.under_plainId PySem.F.plain_list_iadd _]
  rw [eS]
  have hS2 : (s.heap.push { cls := .type "list", data := .seq ([] : List Value).toArray }).get? S = some (lsO #[] 0) := eS ▸ Heap.get?_push_size _ rfl
  show wpAny _ _ (Builtin.List.listExtendWith (.ref S) (.ref u) (.ref S)) _ _ _
  have up : ∀ (h : Heap) (f : Obj → Obj), (∀ (d : Nat) o, s.heap.get? d = some o → h.get? d = some o) → ∀ (d : Nat) o, s.heap.get? d = some o → (h.update S f).get? d = some o := fun h f q d o e =>
    (Heap.get?_update_other _ _ (Ne.symm (Nat.ne_of_lt (eS ▸ Heap.lt_size e)))).trans (q d o e)
  have g2 : ∀ (d : Nat) o, s.heap.get? d = some o → (s.heap.push { cls := .type "list", data := .seq ([] : List Value).toArray }).get? d = some o := fun d o e => Heap.get?_push_of_some _ e
  have ty : ∀ {s' : Shared}, (∀ (d : Nat) o, s.heap.get? d = some o → s'.heap.get? d = some o) → s'.TypeIs (.ref u) "zip" := fun q => ⟨_, q _ _ zz, rfl⟩
  unfold Builtin.List.listExtendWith
  refine wpAny_bind (wpAny_typeOf (ty g2) ?_)
  have n1 : Builtin.List.listSameRef (.ref S) (.ref u) = false := by simp only [Builtin.List.listSameRef]; exact beq_false_of_ne (Nat.ne_of_gt lu)
  have n2 : (Value.type "zip" == Value.type "list") = false := by decide
  have n3 : (Value.type "zip" == Value.type "tuple") = false := by decide
  simp only [n1, n2, n3, Bool.or_false, Bool.false_eq_true, if_false]
  refine wpAny_bind (z_iter (f0 := f0) (f1 := f1) (TI := TI) (TO := TO) (g2 _ _ zz) ?_)
  refine wpAny_bind (wpAny_holding ?_)
  unfold Builtin.List.listLengthHint
  refine wpAny_bind (wpAny_specialOf (ty g2) zip_len0 ?_)
  show wpAny _ _ (specialOf (Value.ref u) (Str.ofString "__length_hint__") >>= _) _ _ _
  refine wpAny_bind (wpAny_specialOf (ty g2) zip_hint0 ?_)
  refine wpAny_pure ?_
  show wpAny _ _ (rule "list.extend.makes-room" >>= fun _ => Builtin.List.listTouch (.ref S) >>= fun _ => again (.builtin "list.extend.loop" ⟨[.ref S, .ref u, .ref S], []⟩)) _ _ _
  refine wpAny_bind (wpAny_rule ?_)
  refine wpAny_bind ?_
  show wpAny _ _ (updateSeq S (·.push .none) >>= fun _ => updateSeq S (·.pop)) _ _ _
  refine wpAny_bind (wpAny_updateSeq hS2 rfl ?_)
  have hS3 := Heap.get?_update_self (Obj.mapSeq (·.push Value.none)) hS2 rfl
  refine wpAny_updateSeq (hz := by seq_fits) hS3 rfl ?_
  have hS4 := Heap.get?_update_self (Obj.mapSeq (·.pop)) hS3 rfl
  have g4 := up _ (Obj.mapSeq (·.pop)) (up _ (Obj.mapSeq (·.push Value.none)) g2)
  refine wpAny_pure ⟨plainId_quiet PySem.F.plain_extend_loop _, ?_⟩
  refine zl_loop (s := s) (h₁ := s.heap) (A := A) hh D lu lI lO k1 k2 la lb (.ref S) rfl hn (fun h' tk acc c ad kp e1 e2 e3 e4 => ?_)
    _ 0 _ _ _ #[] [] rfl (Nat.zero_le _) (ZTn.stay st fun d o _ e => g4 d o e) (ta.at fun o e => g4 a o e) (tb.at fun o e => g4 b o e) (fun d o _ _ _ _ _ e => g4 d o e) hS4 rfl rfl ⟨List.Pairwise.nil, (fun _ z => nomatch z), (fun j p z => by simp at z)⟩
  show wpAny _ A (load S >>= _) _ _ _
  refine wpAny_bind (wpAny_load e1 ?_)
  exact wpAny_pure (hQ h' tk acc c ad (fun d o c1 c2 c3 c4 e => kp d o (eS ▸ Heap.lt_size e) c1 c2 c3 c4 e) e1 e2 e3 e4)
theorem zt_code {Q₁ : Value → Shared → Prop} {E : Value → Shared → Prop} (hh : A.handled = none) (D : ZipApart u TI TO i1 i2 a b) (st : ZTn u TI TO i1 i2 a b 0 s.heap) (ta : s.heap.IsTuple a xs.toArray) (tb : s.heap.IsTuple b ys.toArray) (hn : min xs.length ys.length ≤ sizeLine)
    (h : ∀ h' tk acc c ad, (∀ (d : Nat) o, d ≠ u → d ≠ TO → d ≠ i1 → d ≠ i2 → s.heap.get? d = some o → h'.get? d = some o) → h'.get? s.heap.objs.size = some (lsO acc c) → ad.length = min xs.length ys.length → PrsL s.heap.objs.size xs ys h' ad → acc.toList = ad.map Value.ref →
      Q₁ (.ref h'.objs.size) { s with heap := h'.push { cls := .type "tuple", data := .seq acc }, toks := tk }) :
    codeAny (model prog w) A (.call (.builtin "tuple.__new__") ⟨[.type "tuple", .ref u], []⟩) (wants Q₁ E) s := by
  refine codeAny_of_tree ?_
  show wpAny _ A.in1 (do checkBuiltinCall "tuple.__new__" ⟨[.type "tuple", .ref u], []⟩; again (.builtin "tuple.__new__" ⟨[.type "tuple", .ref u], []⟩)) _ _ s
  refine wpAny_bind (wpAny_of_eq (F.newCall_tuple_1 _) (wpAny_pure ⟨plainId_quiet F.plain_tuple_new _, codeAny_builtin F.entry_tuple_new ?_⟩))
  rw [Around.under_plainId F.plain_tuple_new _]
  have hsub := sub_tuple_self
  have hinit := init_tuple_lookup
  have hmh := madeHere_tuple
  obtain ⟨⟨f0, f1, p0, p1, zz⟩, _⟩ := id st
  have hTI : s.TypeIs (.ref u) "zip" := ⟨_, zz, rfl⟩
  wp_walk using wpAny_typeOf hTI, zt_collect (A := A.in1) (xs := xs) (ys := ys) hh D rfl st ta tb hn
  intro h' tk acc c ad kp e1 e2 e3 e4
  show wpAny _ _ (Builtin.Tuple.tupleExact acc.toList.toArray >>= fun v => ret v) _ _ _
  unfold Builtin.Tuple.tupleExact
  refine wpAny_bind (wpAny_newObj_type ?_ (by show acc.toList.toArray.size ≤ sizeLine; simp only [Array.toArray_toList]; rw [← Array.length_toList, e4, List.length_map, e2]; exact hn))
  refine wpAny_pure ?_
  have e : acc.toList.toArray = acc := by simp
  rw [e]
  exact h h' tk acc c ad kp e1 e2 e3 e4
theorem zt_call {E : Value → Shared → Prop} {Q : Value → Shared → Prop} (hh : A.handled = none) (D : ZipApart u TI TO i1 i2 a b) (st : ZTn u TI TO i1 i2 a b 0 s.heap) (ta : s.heap.IsTuple a xs.toArray) (tb : s.heap.IsTuple b ys.toArray) (hn : min xs.length ys.length ≤ sizeLine)
    (hQ : ∀ h' tk acc c ad, (∀ (d : Nat) o, d ≠ u → d ≠ TO → d ≠ i1 → d ≠ i2 → s.heap.get? d = some o → h'.get? d = some o) → h'.get? s.heap.objs.size = some (lsO acc c) → ad.length = min xs.length ys.length → PrsL s.heap.objs.size xs ys h' ad → acc.toList = ad.map Value.ref →
      Q (.ref h'.objs.size) { s with heap := h'.push { cls := .type "tuple", data := .seq acc }, toks := tk }) :
    wpAny (model prog w) A (call (.type "tuple") [.ref u]) Q E s := by
  refine callType_codes (Q₁ := fun obj s₁ => s₁.TypeIs obj "tuple" ∧ Q obj s₁) F.called_tuple (F.typeCall_tuple_1 _) F.entry_object_init
    (zt_code (A := A.in1) hh D st ta tb hn fun h' tk acc c ad kp e1 e2 e3 e4 => ⟨⟨_, Heap.get?_push_size _ rfl, rfl⟩, hQ h' tk acc c ad kp e1 e2 e3 e4⟩) fun obj s₁ h₁ => ?_
  exact ⟨h₁.1, F.args_object_init_2 obj _, object_init_meets F.called_tuple.init.lookup F.called_tuple.made (by decide) prog w A.in1 _ s₁ ⟨h₁.1, rfl, h₁.2⟩⟩
end
/-- what a walk laid, and the tuple of it -/
def tzH (H : Hp) (sz l : Nat) (ad : List Nat) (xs ys : List V) : Hp := fun q => if q < sz then H q else if q = l then some (.tup (ad.map V.ref)) else tblP ad xs ys q
/-- tuple(zip(t, u)) -/
def tTupZip (K : PySem.W.Frag) (ta : TA) : TE := fun σ H Q => ta σ H fun vs H1 => ∃ a b xs ys, vs = [.ref a, .ref b] ∧ SqT K H1 a xs ∧ SqT K H1 b ys ∧
  ∀ (l : Nat) (ad : List Nat) H2, Same H1 H2 → H1 l = none → H2 l = some (.tup (ad.map V.ref)) → ad.length = min xs.length ys.length → (∀ (j : Nat) (p : Nat) (x y : V), ad[j]? = some p → xs[j]? = some x → ys[j]? = some y → H1 p = none ∧ H2 p = some (.tup [x, y])) → Q (.ref l) H2
theorem pe_tupZip {X : Cx} {K : PySem.W.Frag} {e e2 : Expr} {ta : TA} {p p2 pos2 pos : Pos} (ek : X.K = K) (hc : X.calm = true) (hg : Gl X "zip") (hm : X.mg "zip" = none) (hg2 : Gl X "tuple") (hm2 : X.mg "tuple" = none) (ha : PA X [e, e2] ta)
    (hs : starEach [e, e2] X.env = (false, eval e X.env) :: starEach [e2] X.env := by rfl) (hp : (backTo pos2 (starEach [e2] X.env)).any (·.1) = false := by rfl)
    (na : starEach [.Call (.Name "zip" p2) [e, e2] [] pos2] X.env = (false, eval (.Call (.Name "zip" p2) [e, e2] [] pos2) X.env) :: starEach [] X.env := by rfl) :
    PE X (.Call (.Name "tuple" p) [.Call (.Name "zip" p2) [e, e2] [] pos2] [] pos) (tTupZip K ta) := by
  subst ek
  refine ⟨fun pins s σ H Q I h => ?_⟩
  refine Call_ (ld_blt I hg2 hm2 PyProof.Rows.boot_tuple ?_)
  refine PyProof.Rows.callWith_type1 (PyProof.Rows.args_cons ?_ na) na rfl
  refine Call_ (ld_blt I hg hm PyProof.Rows.boot_zip (PyProof.Rows.callWith_type1 (thn (ha.run pos2 pins s σ H _ I h) fun us s1 ⟨vs, H1, I1, r1, q1⟩ => ?_) hs hp))
  obtain ⟨a, b, xs, ys, rfl, qx, qy, q⟩ := q1
  obtain ⟨ua, ub, rfl, ra, rb⟩ : ∃ ua ub, us = [ua, ub] ∧ RelV (.ref a) ua ∧ RelV (.ref b) ub := by
    cases r1 with
    | cons r rr =>
      cases rr with
      | cons r' rr =>
        cases rr
        exact ⟨_, _, rfl, r, r'⟩
  cases ra
  cases rb
  obtain ⟨its, rv, tp, hz1⟩ := I1.tuple qx
  obtain ⟨its2, rv2, tp2, hz2⟩ := I1.tuple qy
  have hB : ∀ B d : Nat, d < B → d ≠ B + 4 ∧ d ≠ B + 3 ∧ d ≠ B ∧ d ≠ B + 1 := fun B d h => by omega
  have le1 := rv.length
  have le2 := rv2.length
  have la : a < s1.heap.objs.size := tp.lt
  have lb : b < s1.heap.objs.size := tp2.lt
  refine RZ.call_zipT tp tp2 fun m hz hTI hTO n1 n2 hsz hk => ?_
  refine PyProof.Rows.args_nil ?_
  have D := PySem.W.ktu_apart s1.heap.objs.size a b la lb
  have st : ZTn (s1.heap.objs.size + 4) (s1.heap.objs.size + 2) (s1.heap.objs.size + 3) s1.heap.objs.size (s1.heap.objs.size + 1) a b 0 m := ⟨⟨.none, .bool false, .inl rfl, ⟨false, rfl⟩, hz⟩, hTI, ⟨_, _, hTO⟩, n1, n2⟩
  refine zt_call (s := { s1 with heap := m }) (xs := its) (ys := its2) (I1.ok.hd hc) D st (let ⟨o, z, r⟩ := tp; ⟨o, hk _ _ z, r⟩) (let ⟨o, z, r⟩ := tp2; ⟨o, hk _ _ z, r⟩) (Nat.le_trans (Nat.min_le_left _ _) (le1 ▸ hz1)) fun h' tk acc c ad kp hl el G ea => ?_
  dsimp only at kp hl G ⊢
  rw [← le1, ← le2] at el
  have sS : m.objs.size = s1.heap.objs.size + 5 := hsz
  have G2 := G.prs
  have big := G.big
  have ltS : ∀ {p : Nat}, p ∈ ad → s1.heap.objs.size ≤ p ∧ p < h'.objs.size := fun hp => by
    have := big _ hp
    exact ⟨by omega, G.lt hp⟩
  have S0 : s1.heap.objs.size ≤ h'.objs.size := by
    have : m.objs.size < h'.objs.size := Heap.lt_size hl
    omega
  have I2 : Inv X pins σ (tzH H1 s1.heap.objs.size h'.objs.size ad xs ys) { s1 with heap := h'.push { cls := .type "tuple", data := .seq acc }, toks := tk } := by
    refine laidN I1 (fun d o w => let z := hB _ d (Heap.lt_size w); Heap.get?_push_of_some _ (kp d o z.1 z.2.1 z.2.2.1 z.2.2.2 (hk d o w))) (fun d hd => if_pos hd) fun d o hd ho => ?_
    unfold tzH at ho
    rw [if_neg (Nat.not_lt.mpr hd)] at ho
    by_cases c2 : d = h'.objs.size
    · subst c2
      rw [if_pos rfl] at ho
      cases ho
      refine ⟨?_, ad.map Value.ref, Vals_refs ad, ?_⟩
      · rw [List.length_map, el]
        omega
      · rw [← ea]
        have := IsTup.new h' acc.toList.toArray
        simp only [Array.toArray_toList] at this ⊢
        exact this
    · rw [if_neg c2] at ho
      obtain ⟨j, x, y, e1, e3, e4, rfl⟩ := tblP_some ho
      obtain ⟨x', y', f1, f2, f3⟩ := G2 j d e1
      obtain ⟨v1, g1, w1⟩ := rv.get e3
      obtain ⟨v2, g2, w2⟩ := rv2.get e4
      rw [f1] at g1
      rw [f2] at g2
      cases g1
      cases g2
      exact ⟨by show 2 ≤ sizeLine; decide, [x', y'], .cons w1 (.cons w2 .nil), ⟨_, Heap.get?_push_of_some _ f3, rfl, _, rfl⟩⟩
  have fr : ∀ {d : Nat}, s1.heap.objs.size ≤ d → H1 d = none := fun hd => I1.hok.fresh hd
  refine ⟨.ref h'.objs.size, _, I2, rfl, q h'.objs.size ad _ (fun d o w => ?_) (fr S0) ?_ el fun j p x y e1 e3 e4 => ?_⟩
  · unfold tzH
    rw [if_pos (I1.hok.lt w)]
    exact w
  · unfold tzH
    rw [if_neg (Nat.not_lt.mpr S0), if_pos rfl]
  · have hp := ltS (List.mem_of_getElem? e1)
    refine ⟨fr hp.1, ?_⟩
    unfold tzH
    rw [if_neg (Nat.not_lt.mpr hp.1), if_neg (fun z => Nat.ne_of_lt hp.2 z)]
    exact tblP_at G.inc e1 e3 e4
theorem r_tupZip {K : PySem.W.Frag} {ta : TA} {σ : L2.St} {H : Hp} {Q : VK} (h : ta σ H fun vs H1 => ∃ a b xs ys, vs = [.ref a, .ref b] ∧ SqT K H1 a xs ∧ SqT K H1 b ys ∧
  ∀ (l : Nat) (ad : List Nat) H2, Same H1 H2 → H1 l = none → H2 l = some (.tup (ad.map V.ref)) → ad.length = min xs.length ys.length → (∀ (j : Nat) (p : Nat) (x y : V), ad[j]? = some p → xs[j]? = some x → ys[j]? = some y → H1 p = none ∧ H2 p = some (.tup [x, y])) → Q (.ref l) H2) : tTupZip K ta σ H Q := h
/-! ## two walks in one comprehension: a list, and a range with a step -/
theorem inn_rangeC {D : Addr} {g1 : TG} {tt1 : TT} {te : TE} {vs1 : List Nat} {σ2 : L2.St} {H4 : Hp} {Nx : Hp → Prop} {lo c : Int} {n : Nat} (Pv : Nat → Hp → Prop) (h0 : Pv 0 H4)
    (hs : ∀ j H, j < n → Pv j H → g1 (.int (lo + (j : Nat) * c)) (wipe σ2 vs1) H fun σ3 H5 => wipe σ3 vs1 = wipe σ2 vs1 ∧ tt1 σ3 H5 fun b H6 =>
        if b = true then te σ3 H6 fun y H7 => ∃ acc, H7 D = some (.lst acc) ∧ acc.length < sizeLine ∧ Pv (j + 1) (upd H7 D (.lst (acc ++ [y]))) else Pv (j + 1) H6)
    (hd : ∀ H, Pv n H → Nx H) : Inn D (Itc lo c n) g1 tt1 te vs1 σ2 H4 Nx := by
  refine ⟨fun i m H => m = n - i ∧ i ≤ n ∧ Pv i H, ⟨n, by omega, Nat.zero_le _, h0⟩, ?_⟩
  rintro i m H ⟨rfl, hi, p⟩
  by_cases lt : i < n
  · refine Or.inr ⟨lt, Pv (i + 1), fun H' p' => ⟨n - (i + 1), by omega, rfl, lt, p'⟩, fun x H' y => ?_⟩
    obtain ⟨e, y⟩ := y
    subst e y
    exact hs i _ lt p
  · have e : i = n := by omega
    subst e
    exact Or.inl ⟨Nat.le_refl _, hd H p⟩
section
variable {K : PySem.W.Frag} {σ : L2.St} {H : Hp} {Q : VK} {g g1 : TG} {tt tt1 : TT} {te : TE} {vs vs1 : List Nat} {wi1 : TI}
theorem r_lc2Li {tl : TE} (h : tl σ H fun x H1 => ∃ a, x = .ref a ∧ (∃ xs, SqL K H1 a xs) ∧ tLc2 (fun _ H2 R => R (Itl K a) H2) g tt wi1 g1 tt1 te vs vs1 σ H1 Q) : tLc2 (iList K tl) g tt wi1 g1 tt1 te vs vs1 σ H Q := h
theorem r_lc2L {a : Addr} (xs : List V) (Pv : Addr → Nat → Hp → Prop) (h0 : ∀ D, H D = none → Pv D 0 (upd H D (.lst []))) (hl : ∀ D i H', H D = none → i ≤ xs.length → Pv D i H' → SqL K H' a xs)
    (hs : ∀ D i x H', H D = none → xs[i]? = some x → Pv D i H' → g x (wipe σ vs) H' fun σ2 H2 => wipe σ2 vs = wipe σ vs ∧ tt σ2 H2 fun b H3 =>
      if b = true then wi1 σ2 H3 fun J1 H4 => Inn D J1 g1 tt1 te vs1 σ2 H4 (Pv D (i + 1)) else Pv D (i + 1) H3)
    (hd : ∀ D H', H D = none → Pv D xs.length H' → Q (.ref D) H') : tLc2 (fun _ H2 R => R (Itl K a) H2) g tt wi1 g1 tt1 te vs vs1 σ H Q := by
  refine fun D hD => ⟨fun i m H => m = xs.length - i ∧ i ≤ xs.length ∧ Pv D i H, ⟨xs.length, by omega, Nat.zero_le _, h0 D hD⟩, ?_⟩
  rintro i m H' ⟨rfl, hi, p⟩
  have q := hl D i H' hD hi p
  by_cases lt : i < xs.length
  · refine Or.inr ⟨⟨xs, xs[i], q, by simp [lt]⟩, Pv D (i + 1), fun H' p' => ⟨xs.length - (i + 1), by omega, rfl, lt, p'⟩, fun x H'' y => ?_⟩
    obtain ⟨e, f⟩ := y
    subst e
    have := f xs q
    exact hs D i x H'' hD this p
  · have e : i = xs.length := by omega
    subst e
    exact Or.inl ⟨⟨xs, q, Nat.le_refl _⟩, hd D H' hD p⟩
theorem r_w3 {ta : TA} {R : It → Hp → Prop} (h : ta σ H fun vs H1 => ∃ (i j c : Int) (n : Nat), vs = [.int i, .int j, .int c] ∧ RgC i j c n ∧ R (Itc i c n) H1) : iRng3 ta σ H R := h
end
end Vf
namespace Vf
open PySem PySem.Spec PyProof.Rows L2
theorem r_sortedI {K : PySem.W.Frag} {H : Hp} {Q : VK} {a : Addr} (ns : List Int) (h1 : SqL K H a (ns.map V.int)) (h : ∀ (ns' : List Int) (p : Addr), ns'.Perm ns → ns'.Pairwise (· ≤ ·) → H p = none → Q (.ref p) (upd H p (.lst (ns'.map V.int)))) : rSortedI K [.ref a] H Q := ⟨a, ns, rfl, h1, h⟩
end Vf

namespace Vf
open PySem PySem.Spec PyProof.Rows L2
/-! ## x |= y of integers, bits of naturals, tuple(range(n)) -/
theorem ip_or {X : Cx} : PIp X .BitOr (ipI fun i j => Builtin.bitOr i j) := fun pins s σ H x y v u Q I rx ry h => iop_or pins s σ H x y v u Q I rx ry h
theorem bor_nat (a b : Nat) : Builtin.bitOr (a : Int) (b : Int) = ((a ||| b : Nat) : Int) := by
  rw [bitOr_nn (Int.natCast_nonneg _) (Int.natCast_nonneg _), Int.toNat_natCast, Int.toNat_natCast]
section
variable {σ : L2.St} {H : Hp} {Q : VK}
theorem r_tupRg {te : L2.St → Hp → (Int → Int → Hp → Prop) → Prop} (h : te σ H fun a b H1 => RgOk a b ∧ ∀ q, H1 q = none → Q (.ref q) (upd H1 q (.tup (rgV a b)))) : tTupRg te σ H Q := h
end
theorem rgV_nat (n : Nat) : rgV 0 (n : Int) = ((List.range n).map fun i : Nat => (i : Int)).map V.int := by
  unfold rgV
  rw [Int.sub_zero, Int.toNat_natCast, List.map_map]
  refine List.map_congr_left fun i _ => ?_
  show V.int (0 + (i : Int)) = V.int (i : Int)
  rw [Int.zero_add]
end Vf

namespace Vf
open PySem PySem.Spec PyProof.Rows L2
/-! ## max of a list or a tuple of ints -/
theorem max_fold : ∀ (ns : List Int) (a : Int), PySem.W.maxD (.int a) (ns.map PyData.int) = .int (ns.foldl (fun m y => if m < y then y else m) a)
  | [], a => rfl
  | n :: ns, a => by
    show PySem.W.maxD (if PySem.W.dataLt (.int a) (.int n) = true then .int n else .int a) (ns.map PyData.int) = .int (ns.foldl (fun m y => if m < y then y else m) (if a < n then n else a))
    have e : PySem.W.dataLt (.int a) (.int n) = decide (a < n) := PySem.W.dataLt_int a n
    rw [e]
    by_cases c : a < n
    · rw [if_pos (decide_eq_true c), if_pos c]
      exact max_fold ns n
    · rw [if_neg (by rw [decide_eq_false c]; decide), if_neg c]
      exact max_fold ns a
theorem fold_max : ∀ (ns : List Int) (a : Int), (ns.foldl (fun m y => if m < y then y else m) a) ∈ a :: ns ∧ ∀ y ∈ a :: ns, y ≤ ns.foldl (fun m y => if m < y then y else m) a
  | [], a => ⟨List.mem_cons_self, fun y h => by rw [List.mem_singleton.mp h]; exact Int.le_refl _⟩
  | n :: ns, a => by
    obtain ⟨h1, h2⟩ := fold_max ns (if a < n then n else a)
    refine ⟨?_, fun y hy => ?_⟩
    · show (ns.foldl (fun m y => if m < y then y else m) (if a < n then n else a)) ∈ a :: n :: ns
      rcases List.mem_cons.mp h1 with e | e
      · rw [e]
        split
        · exact List.mem_cons_of_mem _ List.mem_cons_self
        · exact List.mem_cons_self
      · exact List.mem_cons_of_mem _ (List.mem_cons_of_mem _ e)
    · show y ≤ ns.foldl (fun m y => if m < y then y else m) (if a < n then n else a)
      have h0 := h2 _ List.mem_cons_self
      rcases List.mem_cons.mp hy with e | e
      · rw [e]
        refine Int.le_trans ?_ h0
        split <;> omega
      · rcases List.mem_cons.mp e with e | e
        · rw [e]
          refine Int.le_trans ?_ h0
          split <;> omega
        · exact h2 _ (List.mem_cons_of_mem _ e)
def rMaxQ (K : PySem.W.Frag) : List V → Hp → VK → Prop := fun vs H Q => rMax K vs H Q ∨ ∃ (a : Addr) (ns : List Int), vs = [V.ref a] ∧ SqT K H a (ns.map V.int) ∧ 0 < ns.length ∧ ∀ m, m ∈ ns → (∀ y, y ∈ ns → y ≤ m) → Q (.int m) H
section
variable {X : Cx} {K : PySem.W.Frag}
theorem cr_maxQ (hc : X.calm = true) (hu : X.A.units + 64 < cLine) : CallR X (.builtin "max") (rMaxQ X.K) := by
  intro pins s σ H vs us Q I r h
  rcases h with h | ⟨a, ns, rfl, hs, hne, q⟩
  · exact cr_max hc pins s σ H vs us Q I r h
  · obtain ⟨its, rv, ht, _⟩ := I.tuple hs
    rw [Vals.ref1 r]
    have hd : ∀ l : List Int, DpAll X.K H (l.map V.int) (l.map PyData.int) := fun l => by
      induction l with
      | nil => exact .nil
      | cons n l ih => exact .cons (.int n) ih
    obtain ⟨as, ra⟩ := Dp.readsAll I _ _ its (hd ns) rv
    cases ns with
    | nil => exact absurd hne (by decide)
    | cons n ns =>
      have ra2 : ReadsAll s.heap its.toArray.toList (.int n :: ns.map PyData.int) as := by
        rw [List.toList_toArray]
        exact ra
      refine PySem.W.max_tuple_data (I.ok.hd hc) (by obtain ⟨o, h1, h2, h3⟩ := ht; exact ⟨o, h1, h2, h3⟩) ra2 ?_ ?_ fun i v h' tk bs hv rd kp => ?_
      · refine ⟨fun x hx y hy => ?_, fun x hx => ?_⟩
        · obtain ⟨i, _, rfl⟩ : ∃ i, i ∈ n :: ns ∧ PyData.int i = x := List.mem_map.mp hx
          obtain ⟨j, _, rfl⟩ : ∃ i, i ∈ n :: ns ∧ PyData.int i = y := List.mem_map.mp hy
          rfl
        · obtain ⟨i, _, rfl⟩ : ∃ i, i ∈ n :: ns ∧ PyData.int i = x := List.mem_map.mp hx
          exact fun z => nomatch z
      · have e : PyData.depthAll (.int n :: ns.map PyData.int) = 0 := depthInts (n :: ns)
        rw [e]
        omega
      · rw [max_fold] at rd
        obtain ⟨f1, f2⟩ := fold_max ns n
        cases rd
        exact ⟨.int _, H, I.kept (t' := tk) kp, ⟨_, rfl⟩, q _ f1 f2⟩
theorem c_maxQ (e : X.K = K) (h : X.calm = true) (hu : X.A.units + 64 < cLine) : CallR X (.builtin "max") (rMaxQ K) := by subst e; exact cr_maxQ h hu
end
end Vf

/-! ## isinstance of a caught exception that has fields -/
namespace Vf
open PySem PySem.W PySem.Spec PySem.Calls PyProof.Rows
section
variable {P : Program} {w : World} {A : Around} {E : Value → Shared → Prop} {s : Shared} {K : Frag} {x D : Addr} {ox : Obj} {od : Option Obj}
theorem fo_data {C : Addr} {nm : Str} {a g : Value} (hc : (clsIn K C).isSome = true) (h1 : findIn K (.ref C) nm = some (some a)) (h2 : specialIn K a "__get__" = some (some g)) (h3 : takesIn K a = some true) :
    findObj K C od nm = some (.bind g a) := by
  obtain ⟨cd, e⟩ := Option.isSome_iff_exists.mp hc
  unfold findObj
  rw [e, Option.bind_some, h1]
  rw [Option.bind_some]
  simp [h2, h3]
theorem cls_attr {Q : Option Value → Shared → Prop} (C : L2.ExcC K D) (X : K.In s.heap) (I : InstAt s.heap x ox D od) (h : Q (some (.ref D)) { s with toks := s.toks + 1 }) :
    wpAny (model P w) A (getAttr? (.ref x) "__class__") Q E s := by
  obtain ⟨g1, g2, g3, g4, g5, g6, g7, g8⟩ := C
  have fb : findObj K D od "__class__" = some (.bind (.builtin "getset_descriptor.__get__") (.builtin "object.__class__")) := fo_data (by obtain ⟨cd, e, _⟩ := any_some g4; rw [e]; rfl) g5 g6 g7
  obtain ⟨m, gs, dr, tk, os⟩ := s
  have T0 := I.type (M := model P w)
  have T1 := looks_findIn (M := model P w) X g1
  have T2 := looks_findIn (M := model P w) X g2
  have T3 := looks_find (M := model P w) X I fb
  have sb : Looks (model P w) m (isInstance (.ref x) (.type "BaseException")) true := T0.andThen (looks_subIn X g3)
  have y0 : (false && onTheHeap (Value.builtin "BaseException.__getattribute__")) = false := rfl
  have y2 : (Value.builtin "BaseException.__getattribute__" == Value.builtin "object.__getattribute__") = false := by decide +kernel
  have y1 : (onTheHeap (Value.ref D) && Value.builtin "BaseException.__getattribute__" == Value.builtin "object.__getattribute__") = false := by
    rw [y2]
    rfl
  unfold getAttr? getAttrBy? getAttrBy
  refine wpAny_bind (wpAny_mkText (wpAny_bind (wpAny_attempt (wpAny_holding (wpAny_bind (T0.at (wpAny_bind (T1.at ?_))))))))
  show wpAny _ _ (if (onTheHeap (Value.ref D) && Value.builtin "BaseException.__getattribute__" == Value.builtin "object.__getattribute__") = true then _ else _) _ _ _
  rw [y1]
  rw [if_neg Bool.false_ne_true]
  unfold getAttrByItsOwn hookBefore
  refine wpAny_bind ?_
  have y3 : onTheHeap (Value.ref D) = true := rfl
  rw [if_pos y3]
  refine T2.at ?_
  refine wpAny_bind (wpAny_attempt <| wpAny_holding ?_)
  unfold callGetattribute
  rw [y0]
  rw [if_neg Bool.false_ne_true]
  unfold boundAndCalled
  rw [(PySem.F.excAttr_ValueError.ga.bind (.ref x))]
  refine wpAny_bind (wpAny_pure ?_)
  show wpAny _ _ (call (.builtin "BaseException.__getattribute__") [.ref x, .str "__class__" tk]) _ _ _
  refine wpAny_call <| codeAny_call_builtin PySem.F.excAttr_ValueError.ga.plain PySem.F.entry_bexc_ga ?_
  refine @check_slot (model P w) _ _ ⟨m, gs, dr, tk + 1, os⟩ "BaseException.__getattribute__" "BaseException" "__getattribute__" (.ref x) [.str "__class__" tk] [] _ (by decide +kernel) (by decide +kernel) sb (PySem.F.args_bexc_ga (.ref x) (.str "__class__" tk)) ?_
  unfold Builtin.«object.__getattribute__»
  refine wpAny_bind (wpAny_of_eq (a := ((Value.ref x : Value), [Value.str "__class__" tk])) (by first | rfl | (simp only [slotArgs] <;> rfl)) ?_)
  refine wpAny_bind (wpAny_pure <| wpAny_bind (T0.at <| wpAny_bind (T3.at ?_)))
  show wpAny _ _ (holding [Value.builtin "object.__class__"] (call (.builtin "getset_descriptor.__get__") [.builtin "object.__class__", .ref x, .ref D]) >>= ret) _ _ _
  refine wpAny_bind (wpAny_holding <| wpAny_call (class_get (s := ⟨m, gs, dr, tk + 1, os⟩) (ox := ox) (od := od) X I g8 ?_))
  refine wpAny_pure ?_
  show wpAny _ _ (handedOut (.ref D)) _ _ _
  rw [handedOut_of (v := .ref D) rfl]
  first
    | exact wpAny_pure <| wpAny_pure h
    | exact wpAny_pure h
    | exact wpAny_pure <| wpAny_bind (wpAny_pure <| wpAny_pure h)
theorem kit_exc (C : L2.ExcC K D) : KitX K (.ref x) (.ref D) (fun h => InstAt h x ox D od) where
  ty := fun _ _ _ I => I.type
  it := fun _ _ X _ => by
    obtain ⟨cd, e, _⟩ := any_some C.hd
    unfold clsIn at e
    split at e
    · rename_i c1 d1 cd1 sl1 ho
      intro A1 Q1 E1 s1 kp q
      unfold isType loadHead
      exact wpAny_bind <| wpAny_loadPart (kp _ _ (X _ _ ho)) (wpAny_pure q)
    · cases e
  ne := fun h tp dd its n sl X htp => by
    obtain ⟨cd, e, _⟩ := any_some C.hd
    refine beq_false_of_ne fun z => ?_
    cases z
    unfold clsIn at e
    split at e
    · rename_i c1 d1 cd1 sl1 ho
      have z := (X _ _ ho).symm.trans htp
      cases z
    · cases e
  ca := fun X I q => cls_attr C X I q
end
end Vf
namespace Vf
open PySem PySem.Spec PyProof.Rows L2
/-- isinstance(e, c): e the exception that the suite holds, c a class -/
def rIsX (K : PySem.W.Frag) (D a : Addr) : List V → Hp → VK → Prop := fun xs H Q => ∃ (c : V) (cv : Value) (b : Bool), xs = [.ref a, c] ∧ (∀ u, RelV c u → u = cv) ∧ PySem.W.kitOne K (.ref D) cv = some b ∧ Q (.bl b) H
theorem cr_isX {X : Cx} {a D : Addr} {d : Option Addr} {oe : Obj} {pn : List (Addr × Obj)} (C : ExcC X.K D) (hz : Zc (.ref D) d oe) (hf : ∃ vs, oe.data = .fields vs)
    (hd : ∀ s : Shared, ∀ dd, d = some dd → ∀ (pins : List (Addr × Obj)) σ H, Inv (X.suite a ((a, oe) :: pn)) pins σ H s → ∃ o, s.heap.get? dd = some o) : CallR (X.suite a ((a, oe) :: pn)) (.builtin "isinstance") (rIsX X.K D a) := by
  intro pins s σ H xs us Q I r h
  obtain ⟨c, cv, b, rfl, hcv, e, q⟩ := h
  cases r with
  | cons rx rr =>
    cases rr with
    | cons rt rr =>
      cases rr
      cases rx
      obtain rfl := hcv _ rt
      obtain ⟨he, _⟩ := I.pin (a, oe) (List.mem_append.mpr (.inl List.mem_cons_self))
      obtain ⟨vs, hv⟩ := hf
      have J : ∃ od, PySem.W.InstAt s.heap a oe D od := by
        obtain ⟨oc, od, oda, osl⟩ := oe
        obtain ⟨h1, h2⟩ := hz
        dsimp only at h1 h2 hv
        subst h1 h2 hv
        cases od with
        | none => exact ⟨none, he, rfl, rfl, trivial⟩
        | some dd =>
          obtain ⟨o, ho⟩ := hd s dd rfl pins σ H I
          exact ⟨some o, he, rfl, rfl, ho⟩
      obtain ⟨od, J⟩ := J
      exact PySem.W.kia_one (kit_exc C) I.kIn J e (fun z => nomatch z) fun tk => ⟨.bl b, H, I.kept (t' := tk) fun _ _ z => z, rfl, q⟩
end Vf

/-! ## except (A, B, C) as n -/
namespace Vf
open PySem PySem.Spec PyProof.Rows L2
/-- a flying exception goes on flying when the heap only grows -/
theorem fly_on {B h h' : Heap} {l : List Env} {e : Addr} {Z : Obj → Prop} (x : HandSPX.FlyingZ B l e Z h) (k : ∀ b o, h.get? b = some o → h'.get? b = some o) : HandSPX.FlyingZ B l e Z h' := by
  obtain ⟨st, nw, ff, r1, r2, r3, r4, r5, w1, w2, w3, w4, w5, w6, w7, w8, w9⟩ := x
  exact ⟨fun b o q => k b o (st b o q), nw, ff.of_keeps fun b o q _ => ⟨o, k b o q, rfl⟩, r1, r2, r3, r4, r5, k _ _ w1, w2, w3, w4, w5, w6, k _ _ w7, w8, w9⟩
/-- what the clause wishes of the body's exceptions: each is one of its kinds -/
def wTup (K : PySem.W.Frag) (cs : List Value) (i : Nat) (ts : Addr → Value → Option Addr → TS) (D : Ends) : WX := fun cls d σ H =>
  PySem.W.exmAny K cls cs = some true ∧ ∀ a, H a = none → ts a cls d { nx := fun τ G => D.nx (τ.set i none) G, rt := D.rt, bk := fun τ G => D.bk (τ.set i none) G, ct := fun τ G => D.ct (τ.set i none) G } (σ.set i (some (.ref a))) H
section
variable {X : Cx} {x1 x2 x3 n : Str} {c1 c2 c3 : Value} {i kk : Nat} {body rest : List Stmt} {b1 : Stmt} {p1 p2 p3 tp pos hp : Pos} {tb : WX → TS} {ts : Addr → Value → Option Addr → TS}
theorem name_val {pins : List (Addr × Obj)} {σ : L2.St} {H : Hp} {s : Shared} {x : Str} {c : Value} {q : Pos} {Q : Value → Shared → Prop} {E : Value → Shared → Prop} (I : Inv X pins σ H s) (m : Names X x c) (h : Q c s) :
    wpAny (model X.prog X.w) X.A (eval (.Name x q) X.env) Q E s := by
  rcases m with ⟨g, db, z | ⟨z, y, ne⟩⟩
  · exact ld_glob I g z h db
  · exact ld_blt I g z y h ne db
/-- the clause's own work, once the exception has landed -/
theorem tup_clause (hs : X.stack = X.env :: X.outer) (hf : X.env.frame = some X.env.locals) (hN : X.N.Nodup) (hi : X.N[i]? = some n) (hln : X.env.kindOf n = some .local) (m1 : Names X x1 c1) (m2 : Names X x2 c2) (m3 : Names X x3 c3)
    (hsu : ∀ (a : Addr) (oe : Obj) (cls : Value) (d : Option Addr) (pn : List (Addr × Obj)), Zc cls d oe → (∃ vs, oe.data = .fields vs) → PSs (X.suite a ((a, oe) :: pn)) (b1 :: rest) (ts a cls d))
    {pins : List (Addr × Obj)} {σ : L2.St} {H : Hp} {sI s : Shared} {D : Ends} {a : Addr} {B : Heap} {cls : Value} {d : Option Addr} (J : Inv X pins σ H sI) (nb : ∀ b o, sI.heap.get? b = some o → b ∉ frs X.stack → B.get? b = some o)
    (fl : HandSPX.FlyingZ B (X.env :: X.outer) a (Zc cls d) s.heap) (up : sI.heap.UpToSlots s.heap) (na : H a = none) (os : s.os = sI.os) (ag : AllBare s.gens) (w : wTup X.K [c1, c2, c3] i ts D cls d σ H) :
    wpAny (model X.prog X.w) X.A (handleBy (.ref a) X.env [.ExceptHandler (some (.Tuple [.Name x1 p1, .Name x2 p2, .Name x3 p3] kk tp)) (some n) (b1 :: rest) hp]) (SP X pins D) X.xe s := by
  have free : ∀ {g : Heap}, HandSPX.FlyingZ B (X.env :: X.outer) a (Zc cls d) g → a ≠ X.env.locals ∧ a ∉ X.fs := fun {g} f => by
    obtain ⟨oe, vs, he, _, hd⟩ := f.there
    have out : a ∉ frs (X.env :: X.outer) := fun z => by
      obtain ⟨_, o, e, no⟩ := f.2.2.1.mem z
      rw [he] at e
      cases e
      exact no _ hd
    exact ⟨fun z => out (List.mem_filterMap.mpr ⟨X.env, List.mem_cons_self, by rw [hf, z]⟩), fun z => by
      obtain ⟨e, h1, h2⟩ := List.mem_filterMap.mp z
      exact out (List.mem_filterMap.mpr ⟨e, List.mem_cons_of_mem _ h1, h2⟩)⟩
  have at_ : ∀ {g : Heap}, HandSPX.FlyingZ B (X.env :: X.outer) a (Zc cls d) g → sI.heap.UpToSlots g → ∃ oe, Zc cls d oe ∧ (∃ vs, oe.data = .fields vs) ∧ g.get? a = some oe ∧ Inv (X.suite a ((a, oe) :: (X.pn ++ pins))) [] σ H { s with heap := g } := fun {g} f u => by
    obtain ⟨oe, vs, he, hz, hd⟩ := f.there
    exact ⟨oe, hz, ⟨vs, hd⟩, he, (J.landed (s' := { s with heap := g }) nb f.1 u os ag).suite he hd na (free f).1 (free f).2⟩
  obtain ⟨oe, hz, _, he, S⟩ := at_ fl up
  refine wpAny_handleBy_cons (codeAny_handlers_test ?_) (by intro q; cases q)
  have nm : ∀ {x : Str} {c : Value} {q : Pos} {Q : Value → Shared → Prop} {E : Value → Shared → Prop}, Names X x c → Q c s → wpAny (model X.prog X.w) (X.A.mark (some (.ref a))) (eval (.Name x q) X.env) Q E s :=
    fun {x c q Q E} m h => name_val (X := X.suite a ((a, oe) :: (X.pn ++ pins))) S m h
  refine wpAny_Tuple (wpAny_items_cons (nm m1 (wpAny_items_cons (nm m2 (wpAny_items_cons (nm m3 (wpAny_items_nil ⟨Nat.le_of_ble_eq_true rfl, ?_⟩)))))))
  have grow : ∀ b o, s.heap.get? b = some o → (s.heap.push { cls := .type "tuple", data := .seq [c1, c2, c3].toArray }).get? b = some o := fun _ _ z => Heap.get?_push_of_some _ z
  have fl2 := fly_on fl grow
  have up2 := up.trans (Heap.UpToSlots.of_keeps grow)
  obtain ⟨oe2, hz2, _, he2, S2⟩ := at_ fl2 up2
  have ty : PySem.W.Looks (model X.prog X.w) (s.heap.push { cls := .type "tuple", data := .seq [c1, c2, c3].toArray }) (typeOf (.ref a)) cls := fun A Q E t k q => wpAny_typeOf_ref (k _ _ he2) (by rw [hz2.1]; exact q)
  refine (PySem.W.exm_tup3 (M := model X.prog X.w) S2.kIn ty (Heap.get?_push_size s.heap rfl) w.1).here ?_
  refine codeAny_handlers_suite_as (HandSPX.lands_againZ fl2 fun g fl3 up3 => ?_)
  obtain ⟨oe3, hz3, hv3, he3, S3⟩ := at_ fl3 (up2.trans up3)
  refine store_ok (X := X.suite a ((a, oe3) :: (X.pn ++ pins))) (v := .ref a) S3 hN hi (.inl hln) rfl (fun t S4 => ?_) (.inr hln)
  have go := (hsu a oe3 cls d (X.pn ++ pins) hz3 hv3).run [] t _ H _ S4 (w.2 a na)
  refine wpAny_mono go (fun f t2 r => ?_) (fun _ _ z => False.elim z)
  have leave : ∀ {τ : L2.St} {G : Hp} {Q : Shared → Prop}, Inv (X.suite a ((a, oe3) :: (X.pn ++ pins))) [] τ G t2 → (∀ t3, Inv X pins (τ.set i none) G t3 → Q t3) →
      wpAny (model X.prog X.w) X.A (do bindName X.env n .none; unbindBehindTheSuite X.env n hp) (fun _ t3 => Q t3) X.xe t2 := fun {τ G Q} y q => gone_ok (y.unsuite J.ok) hN hi hln q
  rcases f with _ | _ | _ | u
  all_goals first
    | (obtain ⟨τ, G, y, q⟩ := r
       exact leave y fun t3 y3 => ⟨_, _, y3, q⟩)
    | (obtain ⟨v, τ, G, y, rv, q⟩ := r
       exact leave y fun t3 y3 => ⟨_, _, _, y3, rv, q⟩)
theorem ps_try_tup (hs : X.stack = X.env :: X.outer) (hf : X.env.frame = some X.env.locals) (hN : X.N.Nodup) (hi : X.N[i]? = some n) (hln : X.env.kindOf n = some .local) (m1 : Names X x1 c1) (m2 : Names X x2 c2) (m3 : Names X x3 c3)
    (hb : ∀ (W : WX) (pn : List (Addr × Obj)) (xe : Value → Shared → Prop), Takes (X.tr pn xe) W → PassesOwn (model X.prog X.w) X.A X.env xe → PSs (X.tr pn xe) body (tb W))
    (hsu : ∀ (a : Addr) (oe : Obj) (cls : Value) (d : Option Addr) (pn : List (Addr × Obj)), Zc cls d oe → (∃ vs, oe.data = .fields vs) → PSs (X.suite a ((a, oe) :: pn)) (b1 :: rest) (ts a cls d)) :
    PS X (.Try body [.ExceptHandler (some (.Tuple [.Name x1 p1, .Name x2 p2, .Name x3 p3] kk tp)) (some n) (b1 :: rest) hp] [] [] pos) (fun D σ H => tb (wTup X.K [c1, c2, c3] i ts D) D σ H) := by
  refine ⟨fun pins s σ H D I h => wpAny_Try_except ?_⟩
  have back : ∀ {q : List (Addr × Obj)} {xe : Value → Shared → Prop} {τ : L2.St} {G : Hp} {t : Shared}, Inv (X.tr (X.pn ++ pins) xe) q τ G t → Inv X pins τ G t := fun y => y.ofTry I.ok
  refine wpAny_mono ((hb (wTup X.K [c1, c2, c3] i ts D) (X.pn ++ pins) _ (fun u t f => ?_) PassesOwn.looking).run [] s σ H D (I.toTry _) h) (fun f t r => ?_) (fun _ _ z => z)
  · obtain ⟨a, B, sI, _, τ, G, cls, d, rfl, y, nb, up, sky, na, os, ag, w⟩ := f
    have sk : Sky B (X.env :: X.outer) a (Zc cls d) X.env.locals t.heap := by rw [← hs]; exact sky
    refine Sky.land Zc.steady (by rw [I.ok.frames, hs]) hf sk fun g fl u2 => ?_
    exact tup_clause hs hf hN hi hln m1 m2 m3 hsu (back y) nb fl (up.trans u2) na os ag w
  · rcases f with _ | _ | _ | u
    · obtain ⟨τ, G, y, q⟩ := r
      exact wpAny_execs_nil ⟨τ, G, back y, q⟩
    all_goals first
      | (obtain ⟨τ, G, y, q⟩ := r
         exact ⟨τ, G, back y, q⟩)
      | (obtain ⟨v, τ, G, y, rv, q⟩ := r
         exact ⟨v, τ, G, back y, rv, q⟩)
end
end Vf

/-! ## defs that are called within an except clause, the caught exception among what they are given -/
namespace Vf
open PySem PySem.Spec PyProof.Rows L2
/-- a promise of such a def: a the exception, of class cls, its own dict at d -/
abbrev SpX := Addr → Value → Option Addr → Sp
structure OkX (P : Program) (w : World) (K : PySem.W.Frag) (mg : Str → Option Value) (base : Heap) (k : Nat) (x : Str) (st : Stmt) (ps : List Str) (sp : SpX) : Prop where
  mk ::
  ex : ∃ f fd, L2.Fun K x x st f fd ∧ mg x = some (.ref f) ∧
    (∀ (A : Around) (outer : List Env) (s : Shared) (H : Hp) (args : Args) (us : List Value) (vs : List V) (Q : VK) (E : XK) (a : Addr) (oe : Obj) (cls : Value) (d : Option Addr),
      A.guards = some [] → L2H.RoomH k A → A.handled = some (.ref a) → L2H.PinOk outer H s (a, oe) → Zc cls d oe → (∃ fs, oe.data = .fields fs) → Env0 P w K mg base A outer s H → BindsTo s fd args (ps.zip us) → Vals vs us → sp a cls d vs H Q E →
        codeAny (model P w) A (.call (.ref f) args) (CR (CX P w) outer P w H s Q E) s)
  len : ∀ a cls d vs H Q E, sp a cls d vs H Q E → vs.length = ps.length
theorem mark_hot {A : Around} {a : Addr} (h : A.handled = some (.ref a)) : A.mark (some (.ref a)) = A := by
  cases A
  cases h
  rfl
section
variable {P : Program} {w : World} {K : PySem.W.Frag} {mg : Str → Option Value} {base : Heap} {k j : Nat} {x : Str} {st : Stmt} {ps N : List Str} {sp sp' : SpX}
theorem OkX.mono (G : OkX P w K mg base j x st ps sp) (h : j ≤ k) : OkX P w K mg base k x st ps sp := by
  obtain ⟨⟨f, fd, F, g, r⟩, l⟩ := G
  exact ⟨⟨f, fd, F, g, fun A outer s H args us vs Q E a oe cls d hg hr => r A outer s H args us vs Q E a oe cls d hg (hr.mono h)⟩, l⟩
theorem At.okX (t0 : At K mg x st) (S : FnScope N ps (defScope st)) (len : ∀ a cls d vs H Q E, sp a cls d vs H Q E → vs.length = ps.length)
    (hbody : ∀ (f : Addr) (cdv : Value) (A : Around) (outer : List Env) (s : Shared) (H : Hp) (vs : List V) (Q : VK) (E : XK) (a : Addr) (oe : Obj) (cls : Value) (d : Option Addr),
      (A.deeper (envOfC x (defScope st) s.heap.objs.size f cdv)).guards = some [] → L2H.RoomH k (A.deeper (envOfC x (defScope st) s.heap.objs.size f cdv)) → Zc cls d oe → (∃ fs, oe.data = .fields fs) → sp a cls d vs H Q E →
      ∃ t, PSs ((cxOf (CX P w) P w K mg base N x (defScope st) f cdv A outer s H E).suite a [(a, oe)]) (defBody st) t ∧
        t { nx := fun _ H' => Q .non H', rt := Q } (L2.start N vs) H) : OkX P w K mg base (k + 1) x st ps sp := by
  obtain ⟨f, fd, F, g⟩ := t0
  have F2 := F
  obtain ⟨⟨oc, od, kV, doc, pm, an, cdv, ct, osl, rfl, lk, hcd⟩, kp⟩ := F
  refine ⟨⟨f, _, F2, g, fun A outer s H args us vs Q E a oe cls d hg hr hot pin hz hv e0 hb r hsp => ?_⟩, len⟩
  have hl := len _ _ _ _ _ _ _ hsp
  have stay : ∀ b o, base.get? b = some o → s.heap.get? b = some o := fun b o e => (e0.bs b o e).1
  have KX : K.In s.heap := e0.mod.kin.keeps stay
  refine codeAny_call_function hr.depth (KX _ _ lk) rfl S.co S.gen rfl (PySem.W.codeRec_of KX hcd) (hb _ _ _ _ ?_)
  refine wpAny_newFunctionEnv_cells S.kind (fun ⟨n, v⟩ hy => ?_) fun env he s1 x1 => ?_
  · rcases S.par n (List.of_mem_zip hy).1 with q | q
    · exact Or.inl q
    · exact Or.inr ⟨q, PySem.W.cellsFrom_some _ _ _ (Or.inl q)⟩
  subst he
  have lim : s.heap.NoLimit := e0.mod.nolimit.keeps stay
  refine ⟨lim.keeps x1.toInCall.keep, codeAny_func ?_⟩
  obtain ⟨t, ht, hq⟩ := hbody f cdv A outer s H vs Q E a oe cls d hg (hr.deeper _) hz hv hsp
  have I0 := (L2H.inv_startH (CX := CX P w) (E := E) S pin e0 hl r x1).toTry fun _ _ => False
  have eA : (A.deeper (envOfC x (defScope st) s.heap.objs.size f cdv)).mark (some (.ref a)) = A.deeper (envOfC x (defScope st) s.heap.objs.size f cdv) := mark_hot hot
  have eY : (cxOf (CX P w) P w K mg base N x (defScope st) f cdv A outer s H E).suite a [(a, oe)] = { L2H.cxH (CX P w) P w K mg base N x (defScope st) f cdv A outer s H E (a, oe) with xe := fun _ _ => False } := by
    show ({ cxOf (CX P w) P w K mg base N x (defScope st) f cdv A outer s H E with A := (A.deeper (envOfC x (defScope st) s.heap.objs.size f cdv)).mark (some (.ref a)), calm := false, pn := [(a, oe)], xe := fun _ _ => False } : Cx) = _
    rw [eA]
    rfl
  rw [eY] at ht
  refine wpAny_mono (ht.run [] s1 _ H _ I0 hq) (fun fl s' hs => ?_) fun e s' hs => False.elim hs
  cases fl with
  | ret u =>
    obtain ⟨v, σ', H', J, rv, q⟩ := hs
    exact ⟨v, H', J.os, J.bare, J.base, J.hok, rv, q⟩
  | next =>
    obtain ⟨σ', H', J, q⟩ := hs
    exact ⟨V.non, H', J.os, J.bare, J.base, J.hok, rfl, q⟩
  | brk =>
    obtain ⟨_, _, _, z⟩ := hs
    exact (show False from z).elim
  | cont =>
    obtain ⟨_, _, _, z⟩ := hs
    exact (show False from z).elim
end
/-- f(e, ..) within the clause -/
def tCallX (sp : SpX) (a : Addr) (cls : Value) (d : Option Addr) (t : TA) : TE := fun σ H Q => t σ H fun vs H1 => sp a cls d vs H1 Q fun _ _ _ => False
section
variable {X : Cx} {k : Nat} {ps : List Str} {sp : SpX} {x : Str} {st : Stmt} {p pos : Pos} {e : Expr} {es : List Expr} {t : TA} {a : Addr} {oe : Obj} {cls : Value} {d : Option Addr} {pn : List (Addr × Obj)}
theorem pe_gX (G : OkX X.prog X.w X.K X.mg X.base k x st ps sp) (b : ∀ f fd, L2.Fun X.K x x st f fd → L2.Binds X.K fd ps [])
    (hg : X.A.guards = some []) (hr : L2H.RoomH k X.A) (hz : Zc cls d oe) (hv : ∃ fs, oe.data = .fields fs) (gl : Gl X x) (ha : PA (X.suite a ((a, oe) :: pn)) (e :: es) t)
    (hdb : (x == ("__debug__" : Str)) = false := by decide)
    (he : starEach (e :: es) X.env = (false, eval e X.env) :: starEach es X.env := by rfl)
    (hpl : (backTo pos (starEach es X.env)).any (·.1) = false := by rfl) :
    PE (X.suite a ((a, oe) :: pn)) (.Call (.Name x p) (e :: es) [] pos) (tCallX sp a cls d t) := by
  obtain ⟨⟨f, fd, F, hm, r⟩, l⟩ := G
  refine ⟨fun pins s σ H Q I h => wpAny_Call_Name_kw (ld_glob (X := X.suite a ((a, oe) :: pn)) I gl hm ?_ hdb)⟩
  refine PySem.W.callWith_K (h₀ := X.base) I.ok.mod.kin F.kp (thn (ha.run pos pins s σ H _ I h) fun us s1 ⟨vs, H1, I1, r1, q1⟩ => ⟨I1.kIn, ?_⟩) he hpl
  have hl : us.length = ps.length := r1.length.symm.trans (l _ _ _ _ _ _ _ q1)
  have bb := b f fd F s1 us I1.kIn (by rw [List.append_nil]; exact hl)
  rw [List.append_nil] at bb
  have pin := I1.pin (a, oe) (List.mem_append_left _ List.mem_cons_self)
  have po : L2H.PinOk X.stack H1 s1 (a, oe) := ⟨pin.1, pin.2.1, fun z => (List.mem_cons.mp (I1.stkSub a z)).elim pin.2.2.1 pin.2.2.2.1, pin.2.2.2.2⟩
  have go := r (X.suite a ((a, oe) :: pn)).A X.stack s1 H1 ⟨us, []⟩ us vs Q (fun _ _ _ => False) a oe cls d hg ⟨hr.dp, hr.un⟩ rfl po hz hv I1.env0 bb r1 q1
  refine wpAny_call (codeAny_mono go fun z s' hq => ?_)
  rcases z with er | fl
  · obtain ⟨_, _, _, _, _, _, _, _, _, _, _, _, no⟩ := hq
    exact no
  · cases fl with
    | ret u => exact I1.after hq
    | next => exact hq
    | brk => exact hq
    | cont => exact hq
end
end Vf
namespace Vf
open PySem PySem.Spec PyProof.Rows L2
/-- isinstance(e, c) where the exception's class is known only when the clause runs -/
def rIsY (K : PySem.W.Frag) (a : Addr) (cls : Value) (d : Option Addr) : List V → Hp → VK → Prop := fun xs H Q => ∃ (D : Addr) (c : V) (cv : Value) (b : Bool), cls = .ref D ∧ ExcC K D ∧ xs = [.ref a, c] ∧ (∀ u, RelV c u → u = cv) ∧ PySem.W.kitOne K (.ref D) cv = some b ∧
  (∀ dd, d = some dd → ∃ fs, H dd = some (.xd fs)) ∧ Q (.bl b) H
theorem cr_isY {X : Cx} {a : Addr} {cls : Value} {d : Option Addr} {oe : Obj} {pn : List (Addr × Obj)} (hz : Zc cls d oe) (hv : ∃ vs, oe.data = .fields vs) : CallR (X.suite a ((a, oe) :: pn)) (.builtin "isinstance") (rIsY X.K a cls d) := by
  intro pins s σ H xs us Q I r h
  obtain ⟨D, c, cv, b, rfl, C, rfl, hcv, e, hd, q⟩ := h
  obtain @⟨_, _⟩ | @⟨_, _, _, _, rx, rr⟩ := r
  cases rr with
  | cons rt rn =>
  cases rn
  cases rx
  obtain rfl := hcv _ rt
  have here := (I.pin (a, oe) (List.mem_append_left _ List.mem_cons_self)).1
  obtain ⟨vs, hvs⟩ := hv
  have J : ∃ od, PySem.W.InstAt s.heap a oe D od := by
    obtain ⟨oc, od, oda, osl⟩ := oe
    obtain ⟨h1, h2⟩ := hz
    dsimp only at h1 h2 hvs
    subst h1 h2 hvs
    cases od with
    | none => exact ⟨none, here, rfl, rfl, trivial⟩
    | some dd =>
      obtain ⟨fs, hx⟩ := hd dd rfl
      obtain ⟨mA, hns, _⟩ := (I.hok dd _ hx : ObjOk X.prog X.w H s.heap dd (.xd fs))
      obtain ⟨o, ho, _⟩ := lookIn_ns hns
      exact ⟨some o, here, rfl, rfl, ho⟩
  obtain ⟨od, J⟩ := J
  exact PySem.W.kia_one (kit_exc C) I.kIn J e (fun z => nomatch z) fun tk => ⟨.bl b, H, I.kept (t' := tk) fun _ _ z => z, rfl, q⟩
end Vf

/-! ## range(a, b) of ints of any size -/
namespace Vf
open PySem PySem.Spec PyProof.Rows L2
theorem turn_long {P : Program} {w : World} {K : PySem.W.Frag} {tg : Expr} (q : Addr) (z : Int) (m : Nat) : Turn P w K tg (Itr z m) [q] q (fun j g => IsLongIter g q (z + (j : Nat) * 1) ((m : Int) - (j : Nat)) 1) where
  mem := List.mem_singleton.mpr rfl
  self := fun _ _ _ _ _ here r => wpAny_pyIter_longiter here r
  keep := fun _ _ _ here up => up q (List.mem_singleton.mpr rfl) _ here
  obj := by
    intro j g here b hb
    obtain rfl := List.mem_singleton.mp hb
    refine ⟨_, here, fun v y => ?_⟩
    have : Data.fields _ = Data.cell v := y
    cases this
  done := by
    rintro X rfl rfl rfl calm j pins s σ H E I room here over
    have over : m ≤ j := over
    have ⟨r0, r1, _, r3, r4, r5⟩ := room q (List.mem_singleton.mpr rfl)
    refine wpAny_pyNext_long_end (I.ok.hd calm) here (by omega) fun g eb => ⟨rfl, ?_⟩
    exact I.turned (t' := s.toks) (fun b o ne e => eb b o ne e) r0 r1 r3 r4 r5
  item := by
    rintro X rfl rfl rfl calm j pins s σ H E I room here more
    have ⟨r0, r1, _, r3, r4, r5⟩ := room q (List.mem_singleton.mpr rfl)
    refine (Walks.longrange (prog := X.prog) (w := X.w) (I.ok.hd calm) q z 1 m).item j s _ _ more here fun v g k hv there same => ?_
    obtain ⟨t, rfl⟩ := hv
    have I2 : Inv X pins σ H { s with heap := g, toks := k } := I.turned (fun b o ne e => same b o (fun y => ne (List.mem_singleton.mp y)) e) r0 r1 r3 r4 r5
    have val : RelV (V.int (z + j)) (Value.int (z + (j : Int) * 1) t) := ⟨t, by rw [Int.mul_one]⟩
    exact ⟨_, rfl, go_of (s := { s with heap := g, toks := k }) (n := "longrange_iterator") there rfl rfl (by decide) ⟨_, H, I2, val, ⟨rfl, rfl⟩, there, fun b hb => (room b hb).1⟩⟩
section
variable {X : Cx} {tg : Expr}
theorem range_any {pins : List (Addr × Obj)} {σ : L2.St} {H : Hp} {s : Shared} {R : It → Hp → Prop} {E : Value → Shared → Prop} {a b : Int} {t u v : Tok} {k : Nat} (I : Inv X pins σ H s) (r : R (Itr a (b - a).toNat) H) :
    wpAny (model X.prog X.w) X.A (pyIter (.ref s.heap.objs.size)) (PIE X pins σ tg R) E { s with heap := s.heap.push { cls := .type "range", data := .fields #[.int a t, .int b u, .int 1 v] }, toks := k } := by
  have len : Builtin.Range.rangeSize a b 1 = (((b - a).toNat : Nat) : Int) - ((0 : Nat) : Int) := by
    rw [rangeSize_one]
    split <;> omega
  have I2 : Inv X pins σ H { s with heap := s.heap.push { cls := .type "range", data := .fields #[.int a t, .int b u, .int 1 v] }, toks := k } := I.kept fun _ _ e => Heap.get?_push_of_some _ e
  have first : a + ((0 : Nat) : Int) * 1 = a := by omega
  cases small : Builtin.Range.small a b 1 with
  | true =>
    refine wpAny_pyIter_range (IsRange.new ..) small ⟨_, [_], _, _, H, rfl, I2.kept (t' := k) fun _ _ e => Heap.get?_push_of_some _ e, turn_range _ a (b - a).toNat, ?_, fun p hp => ?_, r⟩
    · show IsRangeIter _ _ (a + ((0 : Nat) : Int) * 1) ((((b - a).toNat : Nat) : Int) - ((0 : Nat) : Int)) 1
      rw [first, ← len]
      exact Heap.get?_push_size _ rfl
    · rw [List.mem_singleton.mp hp]
      exact I2.fpOk (Nat.le_refl _) (I2.hok.fresh (Nat.le_refl _))
  | false =>
    refine wpAny_pyIter_longrange (IsRange.new ..) small ⟨_, [_], _, _, H, rfl, I2.kept (t' := k) fun _ _ e => Heap.get?_push_of_some _ e, turn_long _ a (b - a).toNat, ?_, fun p hp => ?_, r⟩
    · show IsLongIter _ _ (a + ((0 : Nat) : Int) * 1) ((((b - a).toNat : Nat) : Int) - ((0 : Nat) : Int)) 1
      rw [first, ← len]
      exact Heap.get?_push_size _ rfl
    · rw [List.mem_singleton.mp hp]
      exact I2.fpOk (Nat.le_refl _) (I2.hok.fresh (Nat.le_refl _))
/-- the wish of `for x in range(a, b)`, the ends of any size -/
def iRngA (ta : TA) : TI := fun σ H R => ta σ H fun vs H1 => ∃ a b : Int, vs = [.int a, .int b] ∧ R (Itr a (b - a).toNat) H1
theorem pi_rangeA {a b : Expr} {ta : TA} {p pos : Pos} (gl : Gl X "range") (hm : X.mg "range" = none) (ha : PA X [a, b] ta) (e2 : starEach [a, b] X.env = [(false, eval a X.env), (false, eval b X.env)] := by rfl) (e1 : starEach [b] X.env = [(false, eval b X.env)] := by rfl) :
    PI X tg (.Call (.Name "range" p) [a, b] [] pos) (iRngA ta) := by
  refine ⟨fun pins s σ H R I w => Call_ (ld_blt I gl hm boot_range (PyProof.Rows.callWith_type1 (thn (ha.run pos pins s σ H _ I w) fun us s2 h => ?_) (by rw [e2, e1]) (by rw [e1]; rfl)))⟩
  obtain ⟨vs, H2, I2, rel, x, y, rfl, q⟩ := h
  obtain @⟨_, _⟩ | @⟨_, _, _, _, rx, rest⟩ := rel
  cases rest with
  | cons ry nil =>
  cases nil
  obtain ⟨t, rfl⟩ := rx
  obtain ⟨u, rfl⟩ := ry
  exact call_range_2 (range_any I2 q)
end
end Vf

/-! ## bools counted in a list; a caught exception's field, its class known only at the wish -/
namespace Vf
open PySem PySem.Spec PyProof.Rows L2
theorem bools_vals : ∀ {bs : List Bool} {us : List Value}, Vals (bs.map V.bl) us → us = bs.map Value.bool
  | [], _, .nil => rfl
  | b :: bs, _, .cons h r => by
    have e : _ = Value.bool b := h
    rw [bools_vals r, e]
    rfl
def isB (k : Bool) : Value → Bool
  | .bool b => b == k
  | _ => false
theorem isB_count (k : Bool) : ∀ bs : List Bool, (bs.map Value.bool).countP (isB k) = bs.count k
  | [] => rfl
  | b :: bs => by
    rw [List.map_cons, List.countP_cons, List.count_cons, isB_count k bs]
    rfl
def rCntB (K : PySem.W.Frag) : V → List V → Hp → VK → Prop := fun x xs H Q => ∃ (p : Addr) (bs : List Bool) (k : Bool), x = .ref p ∧ xs = [.bl k] ∧ SqL K H p (bs.map V.bl) ∧ Q (.int (bs.count k : Nat)) H
section
variable {X : Cx}
theorem mt_countB : MtR X "list.count" (rCntB X.K) := by
  intro pins s σ H x xs v us Q I rx rxs h
  obtain ⟨p, bs, k, rfl, rfl, sq, q⟩ := h
  cases rx
  obtain ⟨u, rfl, ru⟩ := rxs.one
  cases ru
  obtain ⟨its, rv, ⟨⟨cls, dd, data, sl⟩, n, ho, hc, hdn, hd⟩, _⟩ := I.list sq
  simp only at hc hd
  subst hc hd
  obtain rfl := bools_vals rv
  refine call_meets PySem.F.slot_list_count ⟨_, ho, rfl⟩ PySem.F.entry_list_count (PySem.F.args_list_count_2 _ _) (SeqAt.list_countAt p (bs.map Value.bool).toArray n dd sl (.bool k) (isB k)) ⟨ho, fun y hy => ?_, ?_⟩
  · obtain ⟨b, _, rfl⟩ := List.mem_map.mp (show y ∈ bs.map Value.bool by simpa using hy)
    exact SeqAt.EqAt.bool_bool b k
  · refine ⟨.int (bs.count k : Nat), H, I.tok _, ⟨s.toks, ?_⟩, q⟩
    show Value.int (((bs.map Value.bool).toArray.toList.countP (isB k) : Nat) : Int) s.toks = Value.int ((bs.count k : Nat) : Int) s.toks
    rw [show (bs.map Value.bool).toArray.toList = bs.map Value.bool from rfl, isB_count]
end
/-- e.n where the class is known only when the clause runs -/
def tXfY (K : PySem.W.Frag) (a : Addr) (cls : Value) (d : Option Addr) (n : Str) (te : TE) : TE := fun σ H Q => te σ H fun x H1 => x = .ref a ∧ ∃ (C dd : Addr) (fs : List (Str × V)) (v : V), cls = .ref C ∧ XfC K C ∧ PySem.W.findIn K (.ref C) n = some none ∧ d = some dd ∧ H1 dd = some (.xd fs) ∧ fs.lookup n = some v ∧ Q v H1
theorem pe_xfY {X : Cx} {a : Addr} {oe : Obj} {cls : Value} {d : Option Addr} {pn : List (Addr × Obj)} {e : Expr} {te : TE} {pos : Pos} {n : Str} (hz : Zc cls d oe) (hv : ∃ vs, oe.data = .fields vs) (he : PE (X.suite a ((a, oe) :: pn)) e te)
    (hb : attributeBase e n X.env (eval e X.env) = eval e X.env := by rfl) : PE (X.suite a ((a, oe) :: pn)) (.Attribute e n pos) (tXfY X.K a cls d n te) := by
  refine ⟨fun pins s σ H Q I h => attr_of hb (thn (he.run pins s σ H _ I h) fun u t y => ?_)⟩
  obtain ⟨x, G, J, rx, rfl, C, dd, fs, v, rfl, T, no, rfl, eq, lk, q⟩ := y
  obtain rfl : u = Value.ref a := rx
  have here := (J.pin (a, oe) (List.mem_append_left _ List.mem_cons_self)).1
  obtain ⟨vs, hvs⟩ := hv
  obtain ⟨mA, hns, hr⟩ := (J.hok dd _ eq : ObjOk X.prog X.w G t.heap dd (.xd fs))
  obtain ⟨od, ho, hl⟩ := lookIn_ns hns
  obtain ⟨w, hw, rw_⟩ := RelO.some_of (v := v) (o := mA n) (by rw [← lk]; exact hr n)
  have inst : PySem.W.InstAt t.heap a oe C (some od) := ⟨here, hz.1, by unfold PySem.W.notCls; rw [hvs] <;> rfl, by rw [hz.2]; exact ho⟩
  exact HandSPX.exc_get J.kIn inst T.ga T.gg T.exC (PySem.W.findObj_own T.hdC no rfl (by rw [hl, hw])) (handed_of rw_) ⟨v, G, J.tok _, rw_, q⟩
end Vf
namespace Vf
open PySem PySem.Spec PyProof.Rows L2
theorem unH {k : Nat} {A : Around} (h : L2H.RoomH k A) : A.units + 64 < cLine := by
  have := h.un
  omega
theorem r_isY {K : PySem.W.Frag} {H : Hp} {Q : VK} {a D : Addr} {d : Option Addr} {c : V} {cv : Value} {b : Bool} (C : ExcC K D) (e : PySem.W.kitOne K (.ref D) cv = some b) (hc : ∀ u, RelV c u → u = cv) (hd : ∀ dd, d = some dd → ∃ fs, H dd = some (.xd fs)) (q : Q (.bl b) H) :
    rIsY K a (.ref D) d [.ref a, c] H Q := ⟨D, c, cv, b, rfl, C, rfl, hc, e, hd, q⟩
end Vf
namespace Vf
open PySem PySem.Spec PyProof.Rows L2
theorem unM {k : Nat} {A : Around} {h : Option Value} (r : L2H.RoomH k A) : (A.mark h).units + 64 < cLine := unH (A := A) r
end Vf
namespace Vf
open PySem PySem.Spec PyProof.Rows L2
theorem r_forA {ta : TA} {g : TG} {tb : TS} {D : Ends} {σ : L2.St} {H : Hp} (h : ta σ H fun ws H1 => ∃ i j : Int, ws = [.int i, .int j] ∧ tFor (fun _ H2 R => R (Itr i (j - i).toNat) H2) g tb D σ H1) : tFor (iRngA ta) g tb D σ H := by
  unfold tFor iRngA
  exact h
theorem r_lcA {ta : TA} {g : TG} {tt : TT} {te : TE} {vs : List Nat} {σ : L2.St} {H : Hp} {Q : VK} (h : ta σ H fun ws H1 => ∃ i j : Int, ws = [.int i, .int j] ∧ tLc (fun _ H2 R => R (Itr i (j - i).toNat) H2) g tt te vs σ H1 Q) : tLc (iRngA ta) g tt te vs σ H Q := by
  unfold tLc iRngA
  exact h
end Vf

/-! ## repr of any value -/
namespace Vf
open PySem PySem.Spec PyProof.Rows L2
def rReprS (K : PySem.W.Frag) : List V → Hp → VK → Prop := fun vs H Q => (vs = [.non] ∧ Q (.str (Str.ofString "None")) H) ∨ (∃ b : Bool, vs = [.bl b] ∧ Q (.str (if b then Str.ofString "True" else Str.ofString "False")) H) ∨
  (∃ i : Int, vs = [.int i] ∧ i.natAbs.log2 < 1920 ∧ Q (.str (Str.ofString (toString i))) H) ∨ (∃ x : Str, vs = [.str x] ∧ (reprText x).length ≤ sizeLine ∧ Q (.str (reprText x)) H) ∨ rRepr K vs H Q
section
variable {X : Cx} {K : PySem.W.Frag}
theorem c_reprS (e : X.K = K) (hg : X.A.guards = some []) (hu : X.A.units + 64 < cLine) : CallR X (.builtin "repr") (rReprS K) := by
  subst e
  intro pins s σ H xs us Q I r h
  have kept : ∀ {t : Nat}, Inv X pins σ H { s with toks := t } := fun {t} => I.kept (t' := t) fun _ _ z => z
  rcases h with ⟨rfl, q⟩ | ⟨b, rfl, q⟩ | ⟨i, rfl, hi, q⟩ | ⟨x, rfl, hx, q⟩ | h
  · obtain ⟨u, rfl, r1⟩ := Vals.one r
    cases r1
    exact PySem.P.repr_of_none ⟨.str (Str.ofString "None"), H, kept, ⟨_, rfl⟩, q⟩
  · obtain ⟨u, rfl, r1⟩ := Vals.one r
    cases r1
    exact PySem.P.repr_of_bool ⟨.str (if b then Str.ofString "True" else Str.ofString "False"), H, kept, ⟨_, rfl⟩, q⟩
  · obtain ⟨u, rfl, r1⟩ := Vals.one r
    obtain ⟨t, rfl⟩ := r1
    exact PySem.P.repr_of_int hi ⟨.str (Str.ofString (toString i)), H, kept, ⟨_, rfl⟩, q⟩
  · obtain ⟨u, rfl, r1⟩ := Vals.one r
    obtain ⟨t, rfl⟩ := r1
    exact PySem.P.repr_of_str ⟨.str (reprText x), H, kept, ⟨_, rfl⟩, q⟩ hx
  · exact cr_repr hg hu pins s σ H xs us Q I r h
end
theorem r_reprBl {K : PySem.W.Frag} {H : Hp} {Q : VK} {b : Bool} (h : Q (.str (if b then Str.ofString "True" else Str.ofString "False")) H) : rReprS K [.bl b] H Q := .inr (.inl ⟨b, rfl, h⟩)
theorem r_reprIn {K : PySem.W.Frag} {H : Hp} {Q : VK} {i : Int} (hi : i.natAbs.log2 < 1920) (h : Q (.str (Str.ofString (toString i))) H) : rReprS K [.int i] H Q := .inr (.inr (.inl ⟨i, rfl, hi, h⟩))
theorem r_reprRef {K : PySem.W.Frag} {H : Hp} {Q : VK} {vs : List V} (h : rRepr K vs H Q) : rReprS K vs H Q := .inr (.inr (.inr (.inr h)))
end Vf

namespace Vf
open PySem
/-! ## whether an exception of an own class is of a kind -/
theorem kit_cls {K : PySem.W.Frag} {C D : Addr} {b : Bool} (h1 : PySem.W.hasDictIn K D = true) (h2 : PySem.W.typeIn K (.ref D) = some (.type "type"))
    (h3 : PySem.W.subIn K (.ref C) (.ref C) = some true) (h4 : PySem.W.subIn K (.ref C) (.ref D) = some b) : PySem.W.kitOne K (.ref C) (.ref D) = some b := by
  obtain ⟨cd, hc, _⟩ := PySem.W.any_some h1
  unfold PySem.W.kitOne
  by_cases e : C = D
  · subst e
    rw [h3] at h4
    rw [if_pos (beq_self_eq_true _)]
    exact h4
  · rw [if_neg (fun z => e (Value.ref.inj (eq_of_beq z)))]
    unfold PySem.W.kitCls
    dsimp only
    rw [if_pos (by rw [h2, hc] <;> rfl)]
    exact h4
theorem kit_typ {K : PySem.W.Frag} {C : Addr} {x : String} {b : Bool} (h1 : PySem.W.kitMeta x = true) (h2 : PySem.W.subIn K (.ref C) (.type x) = some b) : PySem.W.kitOne K (.ref C) (.type x) = some b := by
  unfold PySem.W.kitOne
  rw [if_neg (by intro z; have y := eq_of_beq z; cases y)]
  unfold PySem.W.kitCls
  dsimp only
  rw [if_pos h1]
  exact h2
end Vf

namespace Vf
open PySem PySem.Spec PyProof.Rows L2
/-! ## any of a tuple of ints -/
theorem iter_anyT {prog : Program} {w : World} {A : Around} {E : Value → Shared → Prop} {s : Shared} {l : Addr} {items : Array Value} {Q : Value → Shared → Prop} (hl : s.heap.IsTuple l items)
    (h : ∀ s₂ : Shared, s₂ = { s with heap := s.heap.push { cls := .type "tuple_iterator", data := .fields #[.ref l, .int 0 0] } } →
      (s₂.heap.IsTupleIter s.heap.objs.size l 0 ∧ s₂.heap.IsTuple l items) → l ≠ s.heap.objs.size → Q (.ref s.heap.objs.size) s₂) : wpAny (model prog w) A (pyIter (.ref l)) Q E s := by
  have hlt : l < s.heap.objs.size := by obtain ⟨_, e, _⟩ := hl; exact Heap.lt_size e
  exact wpAny_pyIter_tuple hl (h _ rfl ⟨⟨_, Heap.get?_push_size _ rfl, rfl, rfl⟩, hl.push _⟩ (Nat.ne_of_lt hlt))
theorem truth_ints {prog : Program} {w : World} {A : Around} {ns : List Int} {its : List Value} (r : Vals (ns.map V.int) its) :
    TruthOf prog w A (fun i v => its.toArray[i]? = some v) (fun i => ns.getD i 0 != 0) := fun i v s Q E hv hq => by
  have hv' : its[i]? = some v := by simpa using hv
  have il := (List.getElem?_eq_some_iff.mp hv').1
  have le := r.length
  rw [List.length_map] at le
  have en : ns[i]? = some (ns[i]'(by omega)) := List.getElem?_eq_getElem (by omega)
  obtain ⟨v2, e2, rel⟩ := r.get (i := i) (x := .int (ns[i]'(by omega))) (by rw [List.getElem?_map, en]; rfl)
  rw [hv'] at e2
  cases e2
  obtain ⟨t, rfl⟩ := rel
  have hg : ns.getD i 0 = ns[i]'(by omega) := by rw [List.getD_eq_getElem?_getD, en] <;> rfl
  have hq' : Q (ns.getD i 0 != 0) s := hq
  rw [hg] at hq'
  exact PySem.P.truthy_int hq'
theorem any_rangeI : ∀ ns : List Int, (List.range ns.length).any (fun i => ns.getD i 0 != 0) = ns.any (· != 0)
  | [] => rfl
  | b :: bs => by
    rw [List.length_cons, List.range_succ_eq_map, List.any_cons, List.any_map, List.any_cons, ← any_rangeI bs]
    all_goals rfl
def rAnyT (K : PySem.W.Frag) : List V → Hp → VK → Prop := fun vs H Q => ∃ (a : Addr) (ns : List Int), vs = [V.ref a] ∧ SqT K H a (ns.map V.int) ∧ Q (.bl (ns.any (· != 0))) H
section
variable {X : Cx} {K : PySem.W.Frag}
theorem cr_anyT (hc : X.calm = true) : CallR X (.builtin "any") (rAnyT X.K) := by
  intro pins s σ H vs us Q I r h
  obtain ⟨a, ns, rfl, hs, q⟩ := h
  obtain ⟨its, rv, hl, _⟩ := I.tuple hs
  rw [Vals.ref1 r]
  refine call_any_walk (iter_anyT hl fun s₂ e2 st hne => ?_)
  subst e2
  refine ⟨_, _, _, _, _, _, _, rfl, Walks.tuple (A := X.A.in1) (I.ok.hd hc) _ a hne its.toArray, st, truth_ints rv, fun h' tk hk => ?_⟩
  refine ⟨.bl _, H, I.kept fun b o eo => hk b o (fun hmem => ?_) (Heap.get?_push_of_some _ eo), ?_, q⟩
  · rcases List.mem_cons.mp hmem with e1 | hmem
    · exact absurd (e1 ▸ Heap.lt_size eo) (Nat.lt_irrefl _)
    · cases hmem
  · show Value.bool _ = Value.bool _
    rw [← any_rangeI, List.size_toArray, ← rv.length, List.length_map]
theorem c_anyT (e : X.K = K) (hc : X.calm = true) : CallR X (.builtin "any") (rAnyT K) := by subst e; exact cr_anyT hc
end
theorem r_anyT {K : PySem.W.Frag} {H : Hp} {Q : VK} {a : Addr} (ns : List Int) (hs : SqT K H a (ns.map V.int)) (h : Q (.bl (ns.any (· != 0))) H) : rAnyT K [.ref a] H Q := ⟨a, ns, rfl, hs, h⟩
/-! ## two walks in one comprehension: two lists -/
theorem inn_list {K : PySem.W.Frag} {D : Addr} {g1 : TG} {tt1 : TT} {te : TE} {vs1 : List Nat} {σ2 : L2.St} {H4 : Hp} {Nx : Hp → Prop} {a : Addr} (xs : List V) (Pv : Nat → Hp → Prop) (h0 : Pv 0 H4)
    (hl : ∀ j H, j ≤ xs.length → Pv j H → SqL K H a xs)
    (hs : ∀ j x H, xs[j]? = some x → Pv j H → g1 x (wipe σ2 vs1) H fun σ3 H5 => wipe σ3 vs1 = wipe σ2 vs1 ∧ tt1 σ3 H5 fun b H6 =>
        if b = true then te σ3 H6 fun y H7 => ∃ acc, H7 D = some (.lst acc) ∧ acc.length < sizeLine ∧ Pv (j + 1) (upd H7 D (.lst (acc ++ [y]))) else Pv (j + 1) H6)
    (hd : ∀ H, Pv xs.length H → Nx H) : Inn D (Itl K a) g1 tt1 te vs1 σ2 H4 Nx := by
  refine ⟨fun i m H => m = xs.length - i ∧ i ≤ xs.length ∧ Pv i H, ⟨xs.length, by omega, Nat.zero_le _, h0⟩, ?_⟩
  rintro i m H ⟨rfl, hi, p⟩
  have q := hl i H hi p
  by_cases lt : i < xs.length
  · refine Or.inr ⟨⟨xs, xs[i], q, by simp [lt]⟩, Pv (i + 1), fun H' p' => ⟨xs.length - (i + 1), by omega, rfl, lt, p'⟩, fun x H' y => ?_⟩
    obtain ⟨e, f⟩ := y
    subst e
    exact hs i x H' (f xs q) p
  · have e : i = xs.length := by omega
    subst e
    exact Or.inl ⟨⟨xs, q, Nat.le_refl _⟩, hd H p⟩
theorem r_wL {K : PySem.W.Frag} {σ : L2.St} {H : Hp} {tl : TE} {R : It → Hp → Prop} (h : tl σ H fun x H1 => ∃ a, x = .ref a ∧ (∃ xs, SqL K H1 a xs) ∧ R (Itl K a) H1) : iList K tl σ H R := h
end Vf

namespace Vf
open PySem PySem.Spec PyProof.Rows L2
/-! ## math.comb; the pairs of a dict whose keys are tuples; d.get(key, x) -/
section
variable {X : Cx}
def rComb : List V → Hp → VK → Prop := fun vs H Q => ∃ a b : Int, vs = [.int a, .int b] ∧ 0 ≤ a ∧ 0 ≤ b ∧ a ≤ 18000 ∧ Q (.int (PySem.W.mcComb a b)) H
theorem c_comb : CallR X (.builtin "math.comb") rComb := by
  intro pins s σ H vs us Q I r h
  obtain ⟨a, b, rfl, ha, hb, hl, q⟩ := h
  obtain ⟨t, u, rfl⟩ := Vals.int2 r
  exact PySem.W.mc_comb ha hb (by omega) (.inr hl) fun _ => ⟨.int _, H, I.tok _, ⟨_, rfl⟩, q⟩
theorem r_comb {H : Hp} {Q : VK} {a b : Int} (ha : 0 ≤ a) (hb : 0 ≤ b) (hl : a ≤ 18000) (h : Q (.int (PySem.W.mcComb a b)) H) : rComb [.int a, .int b] H Q := ⟨a, b, rfl, ha, hb, hl, h⟩
end
section
variable {X : Cx} {pins : List (Addr × Obj)} {σ : L2.St} {H : Hp} {s : Shared} {d : Addr} {o : Obj}
theorem frzV {kvs : List (List Key × V)} (I : Inv X pins σ H s) (h : H d = some (.frz o (.dT kvs))) :
    (d == sysModules) = false ∧ s.heap.get? d = some o ∧ o.ExactDict ∧ ∃ (es : Array DictEntry) (ep : Nat), o.data = .dict es ep ∧ es.size = kvs.length ∧
      ∀ (i : Nat) (k : List Key) (v : V), kvs[i]? = some (k, v) → ∃ (en : DictEntry) (q : Addr), es[i]? = some en ∧ en.key = .ref q ∧ H q = some (.tup (k.map kV)) ∧ RelV v en.val := by
  obtain ⟨hd, z, hs, xs, pr, o', es, ep, ho, hx, hdt, he, _⟩ := I.hok d _ h
  rw [hd] at ho
  cases ho
  refine ⟨hs, hd, hx, es, ep, hdt, ?_, fun i k v e => ?_⟩
  · have l1 : es.size = xs.length := size_of_entries he
    have l2 : kvs.length = xs.length := Paired.length pr
    omega
  · obtain ⟨b, hb, e1, e2, e3⟩ := paired_get pr e
    have q := entry_at he i
    rw [hb] at q
    exact ⟨_, b.2.1, q, rfl, e2, e3⟩
/-- the pairs of the locked dict at d, each a new tuple of the key's own tuple and the value -/
def Itit (d : Addr) (o : Obj) (kvs : List (List Key × V)) : It :=
  ⟨fun i H => H d = some (.frz o (.dT kvs)) ∧ i < kvs.length, fun i H x H' => ∃ T k v q, kvs[i]? = some (k, v) ∧ H q = some (.tup (k.map kV)) ∧ x = .ref T ∧ H T = none ∧ H' = upd H T (.tup [.ref q, v]), fun i H => H d = some (.frz o (.dT kvs)) ∧ kvs.length ≤ i⟩
theorem turn_itemsT {P : Program} {w : World} {K : PySem.W.Frag} {es : Array DictEntry} {ep : Nat} {kvs : List (List Key × V)} {elts : List Expr} {kk : Nat} {tpos : Pos} (it : Addr) (hod : o.data = .dict es ep) :
    Turn P w K (.Tuple elts kk tpos) (Itit d o kvs) [it] it (fun i h => ∃ ok ov, IsItemIter h it d i kvs.length ep ok ov) where
  mem := by simp
  obj := fun i h st b hb => by
    have e : b = it := by simpa using hb
    subst e
    obtain ⟨ok, ov, e⟩ := st
    exact ⟨_, e, fun v z => nomatch z⟩
  keep := fun i h h' st k => let ⟨ok, ov, e⟩ := st; ⟨ok, ov, k it (by simp) _ e⟩
  item := by
    intro X hP hw hK hc i pins s σ H E I hf st hg
    subst hP hw hK
    obtain ⟨hd, hi⟩ := hg
    obtain ⟨hs, hgd, hx, es', ep', hdt, hsz, ent⟩ := frzV I hd
    obtain ⟨rfl, rfl⟩ := dict_ep hod hdt
    obtain ⟨⟨k, v⟩, hkv⟩ : ∃ p, kvs[i]? = some p := ⟨kvs[i], List.getElem?_eq_getElem hi⟩
    obtain ⟨en, q, hen, hkey, hq, rv⟩ := ent i k v hkv
    obtain ⟨ok, ov, he⟩ := st
    rw [← hsz] at he
    have hlt : it < s.heap.objs.size := Heap.lt_size he
    have his : i < es'.size := by omega
    have eni : es'[i] = en := by
      rw [Array.getElem?_eq_getElem his] at hen
      exact Option.some.inj hen
    refine DT.nextI he ⟨o, hgd, hx, hdt⟩ his fun h' ho hT hz hk => ?_
    rw [eni] at ho hT
    refine ⟨_, rfl, wpAny_letOwnedTupleGo_items (s := { s with heap := h' }) ho fun h'' he' sb => ?_⟩
    have hT2 : h''.get? s.heap.objs.size = some { cls := .type "tuple", data := .seq #[en.key, en.val] } := (sb.2 _ (Nat.ne_of_gt hlt)).trans hT
    have new : ObjOk X.prog X.w (upd H s.heap.objs.size (.tup [.ref q, v])) h'' s.heap.objs.size (.tup [.ref q, v]) :=
      ⟨by show 2 ≤ sizeLine; decide, [en.key, en.val], .cons hkey (.cons rv .nil), ⟨_, hT2, rfl, _, rfl⟩⟩
    have I1 : Inv X pins σ (upd H s.heap.objs.size (.tup [.ref q, v])) { s with heap := h'' } :=
      I.turnedNew (t' := s.toks) (ch := [it]) (fun b ob hb e => (sb.2 b (by simpa using hb)).trans (hk b ob (by simpa using hb) e)) hf (Nat.le_refl _) new
    refine ⟨.ref s.heap.objs.size, _, I1, rfl, ⟨_, k, v, q, hkv, hq, rfl, I.hok.fresh (Nat.le_refl _), rfl⟩, ⟨en.key, en.val, ?_⟩, fun b hb => ?_⟩
    · rw [← hsz]
      exact he'
    · have e : b = it := by simpa using hb
      rw [e, upd_ne (Nat.ne_of_lt hlt)]
      exact (hf it (by simp)).1
  done := by
    intro X hP hw hK hc i pins s σ H E I hf st hg
    subst hP hw hK
    obtain ⟨hd, hi⟩ := hg
    obtain ⟨f0, f1, f2, f3, f4, f5⟩ := hf it (by simp)
    obtain ⟨hs, hgd, hx, es', ep', hdt, hsz, ent⟩ := frzV I hd
    obtain ⟨rfl, rfl⟩ := dict_ep hod hdt
    obtain ⟨ok, ov, he⟩ := st
    rw [← hsz] at he
    exact DT.endI (I.ok.hd hc) he ⟨o, hgd, hx, hdt⟩ (by omega) fun h' eb => ⟨rfl, I.turned (t' := s.toks) (fun b ob hb e => eb b ob hb e) f0 f1 f3 f4 f5⟩
  self := fun A i s Q E st h => let ⟨_, _, e⟩ := st; PySem.W.kcp_self e h
end
def iItemsT (td : TE) : TI := fun σ H R => td σ H fun x H1 => ∃ d o kvs, x = .ref d ∧ H1 d = some (.frz o (.dT kvs)) ∧ R (Itit d o kvs) H1
theorem pi_itemsT {X : Cx} {e : Expr} {td : TE} {apos cpos : Pos} {elts : List Expr} {kk : Nat} {tpos : Pos} (he : PE X e td) (hbase : attributeBase e "items" X.env (eval e X.env) = eval e X.env := by rfl) (hline : (apos.endLine == cpos.line) = true := by rfl) :
    PI X (.Tuple elts kk tpos) (.Call (.Attribute e "items" apos) [] [] cpos) (iItemsT td) := by
  refine ⟨fun pins s σ H R I h => ?_⟩
  refine wpAny_Call_method (T := "dict") (id := "dict.items") hbase rfl hline F.plainAttrs_dict F.slot_dict_items F.type_dict_items (thn (he.run pins s σ H _ I h) fun u s1 ⟨x, H1, I1, rx, d, o, kvs, ex, hd, q⟩ => ?_)
  subst ex
  obtain rfl : u = Value.ref d := rx
  obtain ⟨hs, hgd, hx, es, ep, hdt, hsz, ent⟩ := frzV I1 hd
  have raw : DT.Raw s1.heap d es ep := ⟨o, hgd, hx, hdt⟩
  refine ⟨raw.typeIs, (fun a e => by cases e; exact ⟨o, hgd, hx.2.1⟩), ?_⟩
  have I2 : Inv X pins σ H1 { s1 with heap := s1.heap.push { cls := .type "dict_items", data := .fields #[.ref d] } } := I1.kept (t' := s1.toks) fun b ob q => Heap.get?_push_of_some _ q
  have fin : wpAny (model X.prog X.w) X.A (pyIter (.ref s1.heap.objs.size)) (PIE X pins σ (.Tuple elts kk tpos) R) X.xe { s1 with heap := s1.heap.push { cls := .type "dict_items", data := .fields #[.ref d] } } := by
    refine DT.iterI (d := d) (es := es) (ep := ep) ⟨_, Heap.get?_push_size _ rfl, rfl, rfl⟩ (raw.push _) (pi_one (tk := s1.toks) I2 _ (turn_itemsT _ hdt) ⟨.none, .none, ?_⟩ q)
    rw [← hsz]
    exact Heap.get?_push_size _ rfl
  show wpAny _ _ (callWith cpos (.builtin "dict.items") [.ref d] [] []) _ X.xe s1
  exact method_meetsIn F.slot_dict_items F.entry_dict_items rfl (PySem.evalArgs_none ⟨rfl, raw.typeIs, F.args_dict_items_1 _, _, DT.meetsItems (es := es) (ep := ep) hs, raw, fin⟩)
section
variable {K : PySem.W.Frag} {σ : L2.St} {H : Hp} {Q : VK} {g : TG} {tt : TT} {te : TE} {vs : List Nat}
theorem r_lcITi {td : TE} (h : td σ H fun x H1 => ∃ d o kvs, x = .ref d ∧ H1 d = some (.frz o (.dT kvs)) ∧ tLc (fun _ H2 R => R (Itit d o kvs) H2) g tt te vs σ H1 Q) : tLc (iItemsT td) g tt te vs σ H Q := h
theorem r_lcIT {d : Addr} {o : Obj} (kvs : List (List Key × V)) (Pv : Addr → Nat → Hp → Prop) (h0 : ∀ D, H D = none → Pv D 0 (upd H D (.lst [])))
    (hl : ∀ D i H', H D = none → i ≤ kvs.length → Pv D i H' → H' d = some (.frz o (.dT kvs)))
    (hs : ∀ D i k v q H' T, H D = none → kvs[i]? = some (k, v) → H' q = some (.tup (k.map kV)) → Pv D i H' → H' T = none → g (.ref T) (wipe σ vs) (upd H' T (.tup [.ref q, v])) fun σ2 H2 => wipe σ2 vs = wipe σ vs ∧ tt σ2 H2 fun b H3 =>
      if b = true then te σ2 H3 fun y H4 => ∃ acc, H4 D = some (.lst acc) ∧ acc.length < sizeLine ∧ Pv D (i + 1) (upd H4 D (.lst (acc ++ [y]))) else Pv D (i + 1) H3)
    (hd : ∀ D H', H D = none → Pv D kvs.length H' → Q (.ref D) H') : tLc (fun _ H2 R => R (Itit d o kvs) H2) g tt te vs σ H Q := by
  refine fun D hD => ⟨fun i m H => m = kvs.length - i ∧ i ≤ kvs.length ∧ Pv D i H, ⟨kvs.length, by omega, Nat.zero_le _, h0 D hD⟩, ?_⟩
  rintro i m H' ⟨rfl, hi, p⟩
  have qx := hl D i H' hD hi p
  by_cases lt : i < kvs.length
  · refine Or.inr ⟨⟨qx, lt⟩, Pv D (i + 1), fun H' p' => ⟨kvs.length - (i + 1), by omega, rfl, lt, p'⟩, fun v H'' yy => ?_⟩
    obtain ⟨T, k, v, q, hkv, hq, rfl, nT, rfl⟩ := yy
    exact hs D i k v q H' T hD hkv hq p nT
  · have e : i = kvs.length := by omega
    rw [e] at p
    exact Or.inl ⟨⟨qx, by omega⟩, hd D H' hD p⟩
theorem r_dget2 {td ty tx : TE} (h : td σ H fun x H1 => ∃ a, x = .ref a ∧ IsD H1 a ∧ ty σ H1 fun y H2 => tx σ H2 fun z H3 => ∃ o, DGet H3 a y o ∧ Q (o.getD z) H3) : tDGet2 td ty tx σ H Q := h
end
end Vf

namespace Vf
/-! ## tables of rests, by their differences -/
/-- how many ways to choose k of x -/
def bin : Nat → Nat → Nat
  | _, 0 => 1
  | 0, _ + 1 => 0
  | x + 1, k + 1 => bin x k + bin x (k + 1)
def fac : Nat → Nat
  | 0 => 1
  | n + 1 => (n + 1) * fac n
theorem fac_pos : ∀ n, 0 < fac n
  | 0 => Nat.one_pos
  | n + 1 => Nat.mul_pos (Nat.succ_pos n) (fac_pos n)
theorem bin_zero (x : Nat) : bin x 0 = 1 := by cases x <;> rfl
theorem bin_step (x k : Nat) : bin (x + 1) (k + 1) = bin x k + bin x (k + 1) := rfl
theorem bin_next : ∀ (x k : Nat), ((k : Int) + 1) * (bin x (k + 1) : Int) = ((x : Int) - k) * (bin x k : Int)
  | 0, 0 => by simp [bin]
  | 0, k + 1 => by simp [bin]
  | x + 1, 0 => by
    have h := bin_next x 0
    rw [bin_zero] at h
    rw [bin_step, bin_zero, bin_zero]
    push_cast at *
    grind
  | x + 1, k + 1 => by
    have h1 := bin_next x k
    have h2 := bin_next x (k + 1)
    rw [bin_step, bin_step]
    push_cast at *
    grind
/-- x * (x - 1) * .., k of them, from x - j on -/
def ffj : Int → Nat → Int → Int
  | _, 0, _ => 1
  | j, k + 1, x => (x - j) * ffj (j + 1) k x
theorem ffj_last : ∀ (j : Int) (k : Nat) (x : Int), ffj j (k + 1) x = ffj j k x * (x - j - k)
  | j, 0, x => by simp [ffj]
  | j, k + 1, x => by
    rw [ffj, ffj_last (j + 1) k x, ffj]
    have : ((k + 1 : Nat) : Int) = (k : Int) + 1 := rfl
    rw [this]
    grind
theorem ff_bin (x : Nat) : ∀ k : Nat, ffj 0 k (x : Int) = (fac k : Int) * (bin x k : Int)
  | 0 => by rw [bin_zero]; rfl
  | k + 1 => by
    rw [ffj_last, ff_bin x k, Int.sub_zero]
    have h := bin_next x k
    have e : ((fac (k + 1) : Nat) : Int) = ((k : Int) + 1) * (fac k : Int) := by
      show (((k + 1) * fac k : Nat) : Int) = _
      push_cast
      rfl
    rw [e]
    grind
theorem nval_snoc : ∀ (p : List Int) (c j x : Int), nval (p ++ [c]) j x = nval p j x + c * ffj j p.length x
  | [], c, j, x => by simp [nval, ffj]
  | a :: p, c, j, x => by
    rw [List.cons_append, nval, nval_snoc p c (j + 1) x, nval, List.length_cons, ffj]
    grind
/-- a sum over the ways to choose -/
def nw (G : Nat → Int) : Nat → Nat → Int
  | 0, _ => 0
  | m + 1, x => nw G m x + G m * (bin x m : Int)
theorem nw_zero (G : Nat → Int) : ∀ m, 0 < m → nw G m 0 = G 0
  | 1, _ => by simp [nw, bin]
  | m + 2, _ => by
    rw [nw, nw_zero G (m + 1) (by omega)]
    simp [bin]
theorem nw_step (G : Nat → Int) (x : Nat) : ∀ m, nw G (m + 1) (x + 1) = nw G (m + 1) x + nw (fun k => G (k + 1)) m x
  | 0 => by simp [nw, bin_zero]
  | m + 1 => by
    rw [nw, nw_step G x m, nw.eq_def G (m + 1 + 1) x]
    simp only [nw]
    rw [bin_step]
    push_cast
    grind
theorem nw_sub (F G : Nat → Int) (x : Nat) : ∀ m, nw (fun k => F k - G k) m x = nw F m x - nw G m x
  | 0 => rfl
  | m + 1 => by
    simp only [nw, nw_sub F G x m]
    grind
theorem nw_dvd {n : Int} {G : Nat → Int} {x : Nat} : ∀ {m : Nat}, (∀ k < m, n ∣ G k) → n ∣ nw G m x
  | 0, _ => Int.dvd_zero n
  | m + 1, h => by
    rw [nw]
    exact Int.dvd_add (nw_dvd fun k hk => h k (by omega)) (Int.dvd_trans (h m (by omega)) (Int.dvd_mul_right ..))
/-- nothing but multiples of n -/
theorem nw_none {n : Int} : ∀ (m : Nat) (G : Nat → Int), (∀ x < m, n ∣ nw G m x) → ∀ k < m, n ∣ G k
  | 0, _, _, k, hk => absurd hk (by omega)
  | m + 1, G, h, k, hk => by
    cases k with
    | zero =>
      have := h 0 (by omega)
      rwa [nw_zero G (m + 1) (by omega)] at this
    | succ k =>
      refine nw_none m (fun k => G (k + 1)) (fun x hx => ?_) k (by omega)
      have h1 := h x (by omega)
      have h2 := h (x + 1) (by omega)
      rw [nw_step] at h2
      have := Int.dvd_sub h2 h1
      rwa [show nw G (m + 1) x + nw (fun k => G (k + 1)) m x - nw G (m + 1) x = nw (fun k => G (k + 1)) m x by omega] at this
theorem getD_at {s : List Int} {i : Nat} {c : Int} (h : s[i]? = some c) : s.getD i 0 = c := by
  rw [List.getD_eq_getElem?_getD, h]
  rfl
/-- a sum by its steps, at a number from 0 on -/
theorem nval_nw (s : List Int) (x : Nat) : ∀ m, nval (s.take m) 0 (x : Int) = nw (fun k => s.getD k 0 * (fac k : Int)) m x
  | 0 => rfl
  | m + 1 => by
    rw [nw, ← nval_nw s x m]
    by_cases h : m < s.length
    · have e := List.getElem?_eq_getElem h
      have el : (s.take m).length = m := by rw [List.length_take]; omega
      rw [take_nx e, nval_snoc, el, ff_bin, getD_at e, Int.mul_assoc]
    · rw [List.take_of_length_le (by omega), List.take_of_length_le (by omega), getD_out (by omega)]
      simp
theorem nval_nwl (s : List Int) (x m : Nat) (h : s.length ≤ m) : nval s 0 (x : Int) = nw (fun k => s.getD k 0 * (fac k : Int)) m x := by
  rw [← nval_nw, List.take_of_length_le h]
/-- the next row of differences, by n -/
def drow (n : Int) (r : List Int) : List Int := (List.range (r.length - 1)).map fun i => (r.getD (i + 1) 0 - r.getD i 0) % n
theorem drow_len (n : Int) (r : List Int) : (drow n r).length = r.length - 1 := by simp [drow]
theorem drow_at (n : Int) (r : List Int) {i : Nat} (h : i < r.length - 1) : (drow n r).getD i 0 = (r.getD (i + 1) 0 - r.getD i 0) % n := by
  rw [List.getD_eq_getElem?_getD]
  unfold drow
  rw [List.getElem?_map, List.getElem?_range h]
  rfl
/-- the firsts of a row, of its differences, and so on -/
def firsts (n : Int) : Nat → List Int → List Int
  | 0, _ => []
  | m + 1, r => r.getD 0 0 :: firsts n m (drow n r)
theorem firsts_len (n : Int) : ∀ (m : Nat) (r : List Int), (firsts n m r).length = m
  | 0, _ => rfl
  | m + 1, r => by rw [firsts, List.length_cons, firsts_len n m]
theorem sub_mod (n a : Int) : n ∣ a % n - a := ⟨-(a / n), by
  have := Int.mul_ediv_add_emod a n
  grind⟩
theorem firsts_nw (n : Int) : ∀ (m : Nat) (r : List Int), r.length = m → ∀ x < m, n ∣ nw (fun k => (firsts n m r).getD k 0) m x - r.getD x 0
  | 0, _, _, x, hx => absurd hx (by omega)
  | m + 1, r, hl, 0, hx => by
    rw [nw_zero _ (m + 1) (by omega)]
    show n ∣ r.getD 0 0 - r.getD 0 0
    rw [Int.sub_self]
    exact Int.dvd_zero n
  | m + 1, r, hl, x + 1, hx => by
    have h1 := firsts_nw n (m + 1) r hl x (by omega)
    have h2 := firsts_nw n m (drow n r) (by rw [drow_len]; omega) x (by omega)
    rw [drow_at n r (by omega)] at h2
    have h3 := sub_mod n (r.getD (x + 1) 0 - r.getD x 0)
    rw [nw_step]
    have h4 := Int.dvd_add (Int.dvd_add h1 h2) h3
    have e : nw (fun k => (firsts n (m + 1) r).getD (k + 1) 0) m x = nw (fun k => (firsts n m (drow n r)).getD k 0) m x := rfl
    rw [e]
    have e2 : nw (fun k => (firsts n (m + 1) r).getD k 0) (m + 1) x - r.getD x 0 + (nw (fun k => (firsts n m (drow n r)).getD k 0) m x - (r.getD (x + 1) 0 - r.getD x 0) % n) + ((r.getD (x + 1) 0 - r.getD x 0) % n - (r.getD (x + 1) 0 - r.getD x 0)) = nw (fun k => (firsts n (m + 1) r).getD k 0) (m + 1) x + nw (fun k => (firsts n m (drow n r)).getD k 0) m x - r.getD (x + 1) 0 := by omega
    rw [e2] at h4
    exact h4
def gk (n k : Nat) : Nat := Nat.gcd n (fac k)
def sz (n k : Nat) : Nat := n / gk n k
theorem gk_pos {n : Nat} (k : Nat) (hn : 0 < n) : 0 < gk n k := Nat.gcd_pos_of_pos_left _ hn
theorem sz_mul (n k : Nat) : sz n k * gk n k = n := Nat.div_mul_cancel (Nat.gcd_dvd_left _ _)
theorem sz_pos {n : Nat} (k : Nat) (hn : 0 < n) : 0 < sz n k := by
  have h := sz_mul n k
  rcases Nat.eq_zero_or_pos (sz n k) with z | z
  · rw [z, Nat.zero_mul] at h; omega
  · exact z
/-- the multiples: a step times its size is nothing by n -/
theorem sz_fac (n k : Nat) : (n : Int) ∣ (sz n k : Int) * (fac k : Int) := by
  obtain ⟨c, hc⟩ := Nat.gcd_dvd_right n (fac k)
  refine ⟨(c : Int), ?_⟩
  have h := sz_mul n k
  have e : fac k = gk n k * c := hc
  rw [e, ← Int.natCast_mul, ← Int.natCast_mul, ← Nat.mul_assoc, h]
theorem uniq_step {n k : Nat} (hn : 0 < n) {a b : Int} (ha : 0 ≤ a ∧ a < sz n k) (hb : 0 ≤ b ∧ b < sz n k) (h : (n : Int) ∣ (a - b) * (fac k : Int)) : a = b := by
  have hg := gk_pos k hn
  have h1 : n ∣ (a - b).natAbs * fac k := by
    have := Int.natAbs_dvd_natAbs.mpr h
    rwa [Int.natAbs_mul, Int.natAbs_natCast, Int.natAbs_natCast] at this
  obtain ⟨c, hc⟩ := Nat.gcd_dvd_right n (fac k)
  have e : fac k = gk n k * c := hc
  have h2 : sz n k ∣ (a - b).natAbs * c := by
    obtain ⟨d, hd⟩ := h1
    refine ⟨d, Nat.eq_of_mul_eq_mul_left hg ?_⟩
    have h3 := sz_mul n k
    calc gk n k * ((a - b).natAbs * c) = (a - b).natAbs * (gk n k * c) := by grind
      _ = (a - b).natAbs * fac k := by rw [e]
      _ = n * d := hd
      _ = gk n k * (sz n k * d) := by rw [← Nat.mul_assoc, Nat.mul_comm (gk n k), h3]
  have hco : Nat.Coprime (sz n k) c := by
    have := Nat.coprime_div_gcd_div_gcd (m := n) (n := fac k) hg
    have e2 : fac k / Nat.gcd n (fac k) = c := Nat.div_eq_of_eq_mul_right hg e
    rw [e2] at this
    exact this
  have h4 : sz n k ∣ (a - b).natAbs := hco.dvd_of_dvd_mul_right h2
  have h5 : (a - b).natAbs < sz n k := by omega
  have := Nat.eq_zero_of_dvd_of_lt h4 h5
  omega
/-- the steps of a table, within their sizes -/
structure Good (n : Nat) (v f : List Int) : Prop where
  len : f.length = n
  b : ∀ k < n, 0 ≤ f.getD k 0 ∧ f.getD k 0 < sz n k
  v : ∀ x < n, (n : Int) ∣ nval f 0 (x : Int) - v.getD x 0
theorem steps_firsts {n : Nat} {v s : List Int} (hv : v.length = n) (hs : ∀ x < n, (n : Int) ∣ nval s 0 (x : Int) - v.getD x 0) : ∀ k < n, (n : Int) ∣ s.getD k 0 * (fac k : Int) - (firsts n n v).getD k 0 := by
  refine nw_none (n := (n : Int)) n (fun k => s.getD k 0 * (fac k : Int) - (firsts n n v).getD k 0) fun x hx => ?_
  have h1 := hs x hx
  have h2 := firsts_nw n n v hv x hx
  have h3 : nval s 0 (x : Int) = nw (fun k => s.getD k 0 * (fac k : Int)) n x := by
    rcases Nat.le_total s.length n with c | c
    · exact nval_nwl s x n c
    · rw [nval_nwl s x s.length (Nat.le_refl _)]
      -- beyond x nothing is chosen
      have z : ∀ (G : Nat → Int) (m : Nat), x < m → ∀ d, nw G (m + d) x = nw G m x := by
        intro G m hm d
        induction d with
        | zero => rfl
        | succ d ih =>
          rw [← Nat.add_assoc, nw, ih]
          have : bin x (m + d) = 0 := by
            have zz : ∀ (y k : Nat), y < k → bin y k = 0 := by
              intro y
              induction y with
              | zero => intro k hk; cases k with
                | zero => omega
                | succ k => rfl
              | succ y ih => intro k hk; cases k with
                | zero => omega
                | succ k => rw [bin_step, ih k (by omega), ih (k + 1) (by omega)]
            exact zz x (m + d) (by omega)
          rw [this]
          simp
      have := z (fun k => s.getD k 0 * (fac k : Int)) n hx (s.length - n)
      rw [show n + (s.length - n) = s.length by omega] at this
      exact this
  rw [h3] at h1
  rw [nw_sub]
  have := Int.dvd_sub h1 h2
  rwa [show nw (fun k => s.getD k 0 * (fac k : Int)) n x - v.getD x 0 - (nw (fun k => (firsts n n v).getD k 0) n x - v.getD x 0) = nw (fun k => s.getD k 0 * (fac k : Int)) n x - nw (fun k => (firsts n n v).getD k 0) n x by omega] at this
theorem firsts_steps {n : Nat} {v f : List Int} (hv : v.length = n) (hl : f.length = n) (h : ∀ k < n, (n : Int) ∣ f.getD k 0 * (fac k : Int) - (firsts n n v).getD k 0) : ∀ x < n, (n : Int) ∣ nval f 0 (x : Int) - v.getD x 0 := by
  intro x hx
  have h2 := firsts_nw n n v hv x hx
  rw [nval_nwl f x n (by omega)]
  have h3 := nw_dvd (x := x) h
  rw [nw_sub] at h3
  have := Int.dvd_add h3 h2
  rwa [show nw (fun k => f.getD k 0 * (fac k : Int)) n x - nw (fun k => (firsts n n v).getD k 0) n x + (nw (fun k => (firsts n n v).getD k 0) n x - v.getD x 0) = nw (fun k => f.getD k 0 * (fac k : Int)) n x - v.getD x 0 by omega] at this
/-- a step is the one that the table's steps ask for -/
theorem Good.step {n : Nat} {v f : List Int} (g : Good n v f) (hv : v.length = n) {s : List Int} (hs : ∀ x < n, (n : Int) ∣ nval s 0 (x : Int) - v.getD x 0) {k : Nat} (hk : k < n) (hb : 0 ≤ s.getD k 0 ∧ s.getD k 0 < sz n k) : s.getD k 0 = f.getD k 0 := by
  have h1 := steps_firsts hv hs k hk
  have h2 := steps_firsts hv g.v k hk
  refine uniq_step (by omega) hb (g.b k hk) ?_
  have := Int.dvd_sub h1 h2
  rwa [show s.getD k 0 * (fac k : Int) - (firsts n n v).getD k 0 - (f.getD k 0 * (fac k : Int) - (firsts n n v).getD k 0) = (s.getD k 0 - f.getD k 0) * (fac k : Int) by grind] at this
/-- the product of 1, 2, .. by n, as the program takes it on -/
def pf (n : Nat) : Nat → Int
  | 0 => 1
  | i + 1 => (fac i : Int) % (n : Int)
theorem pf_next (n i : Nat) : pf n i * max (i : Int) 1 % (n : Int) = pf n (i + 1) := by
  cases i with
  | zero => rfl
  | succ i =>
    show (fac i : Int) % (n : Int) * max ((i + 1 : Nat) : Int) 1 % (n : Int) = ((fac (i + 1) : Nat) : Int) % (n : Int)
    have e : ((fac (i + 1) : Nat) : Int) = ((i + 1 : Nat) : Int) * (fac i : Int) := by
      show (((i + 1) * fac i : Nat) : Int) = _
      push_cast
      rfl
    rw [e, show max ((i + 1 : Nat) : Int) 1 = ((i + 1 : Nat) : Int) by omega, Int.mul_comm ((i + 1 : Nat) : Int), Int.mul_emod, Int.emod_emod, ← Int.mul_emod]
theorem gcd_pf (n i : Nat) : Nat.gcd (n : Int).natAbs (pf n (i + 1)).natAbs = gk n i := by
  show Nat.gcd n ((fac i : Int) % (n : Int)).natAbs = Nat.gcd n (fac i)
  rw [← Int.natCast_emod, Int.natAbs_natCast, Nat.gcd_comm, ← Nat.gcd_rec]
theorem pf_nat (n i : Nat) : pf n (i + 1) = ((fac i % n : Nat) : Int) := by
  show (fac i : Int) % (n : Int) = _
  rw [Int.natCast_emod]
theorem pf_small {n i : Nat} (hn : 0 < n) : 0 ≤ pf n (i + 1) ∧ pf n (i + 1) < n := by
  rw [pf_nat]
  have := Nat.mod_lt (fac i) hn
  omega
/-- the step that the program reckons -/
theorem step_ok {n i : Nat} (hn : 0 < n) {F u w : Int} (hF : F % (gk n i : Int) = 0) (hu : u * (pf n (i + 1) / (gk n i : Int)) = 1 + (sz n i : Int) * w) :
    (n : Int) ∣ (F / (gk n i : Int) * (u % (sz n i : Int)) % (sz n i : Int)) * (fac i : Int) - F := by
  have hg : (0 : Int) < (gk n i : Int) := by have := gk_pos i hn; omega
  obtain ⟨F', rfl⟩ := Int.dvd_of_emod_eq_zero hF
  rw [Int.mul_ediv_cancel_left _ (by omega)]
  have hpd : (gk n i : Int) ∣ pf n (i + 1) := by
    rw [← gcd_pf n i]
    have := Int.natCast_dvd_natCast.mpr (Nat.gcd_dvd_right (n : Int).natAbs (pf n (i + 1)).natAbs)
    exact Int.dvd_natAbs.mp this
  obtain ⟨p', hp⟩ := hpd
  rw [hp, Int.mul_ediv_cancel_left _ (by omega)] at hu
  have h1 : (n : Int) ∣ pf n (i + 1) - (fac i : Int) := sub_mod _ _
  have h2 : (sz n i : Int) * (gk n i : Int) = (n : Int) := by
    rw [← Int.natCast_mul, sz_mul]
  obtain ⟨z1, hz1⟩ : ∃ z, u % (sz n i : Int) = u + (sz n i : Int) * z := ⟨-(u / (sz n i : Int)), by have := Int.mul_ediv_add_emod u (sz n i : Int); grind⟩
  obtain ⟨z2, hz2⟩ : ∃ z, F' * (u % (sz n i : Int)) % (sz n i : Int) = F' * (u % (sz n i : Int)) + (sz n i : Int) * z := ⟨-(F' * (u % (sz n i : Int)) / (sz n i : Int)), by have := Int.mul_ediv_add_emod (F' * (u % (sz n i : Int))) (sz n i : Int); grind⟩
  obtain ⟨z3, hz3⟩ := h1
  rw [hz2, hz1]
  -- all by the product
  have hf : (fac i : Int) = (gk n i : Int) * p' - (n : Int) * z3 := by omega
  refine ⟨F' * w + (F' * z1 + z2) * p' - (F' * (u + (sz n i : Int) * z1) + (sz n i : Int) * z2) * z3, ?_⟩
  rw [hf, ← h2]
  have e1 : u * p' = 1 + (sz n i : Int) * w := hu
  have e2 : F' * u * (gk n i : Int) * p' = F' * (gk n i : Int) * (1 + (sz n i : Int) * w) := by rw [← e1]; grind
  grind
theorem cop_pf {n i : Nat} (hn : 0 < n) : Nat.gcd (pf n (i + 1) / (gk n i : Int)).natAbs (sz n i) = 1 := by
  rw [pf_nat, ← Int.natCast_ediv, Int.natAbs_natCast]
  have e : gk n i = Nat.gcd n (fac i % n) := by
    show Nat.gcd n (fac i) = _
    rw [Nat.gcd_comm n (fac i % n), ← Nat.gcd_rec]
  unfold sz
  rw [e, Nat.gcd_comm]
  exact Nat.coprime_div_gcd_div_gcd (Nat.gcd_pos_of_pos_left _ hn)
theorem fac_primes : ∀ n ∈ [2, 3, 5, 7, 11], ∀ k < n, gk n k = 1 := by decide
theorem bin_more : ∀ (y k : Nat), y < k → bin y k = 0
  | 0, 0, h => by omega
  | 0, _ + 1, _ => rfl
  | _ + 1, 0, h => by omega
  | y + 1, k + 1, h => by rw [bin_step, bin_more y k (by omega), bin_more y (k + 1) (by omega)]
theorem bin_self : ∀ k : Nat, bin k k = 1
  | 0 => rfl
  | k + 1 => by rw [bin_step, bin_self k, bin_more k (k + 1) (by omega)]
theorem nw_low (G : Nat → Int) {x m : Nat} (hm : x < m) : ∀ d, nw G (m + d) x = nw G m x
  | 0 => rfl
  | d + 1 => by
    rw [← Nat.add_assoc, nw, nw_low G hm d, bin_more x (m + d) (by omega)]
    simp
theorem nval_low (s : List Int) {x m : Nat} (h : x < m) : nval s 0 (x : Int) = nw (fun k => s.getD k 0 * (fac k : Int)) m x := by
  rcases Nat.le_total s.length m with c | c
  · exact nval_nwl s x m c
  · rw [nval_nwl s x s.length (Nat.le_refl _)]
    have := nw_low (fun k => s.getD k 0 * (fac k : Int)) h (s.length - m)
    rwa [show m + (s.length - m) = s.length by omega] at this
/-- at a number, steps beyond it tell nothing -/
theorem nval_upto (s : List Int) {x m : Nat} (h : x < m) : nval (s.take m) 0 (x : Int) = nval s 0 (x : Int) := by
  rw [nval_nw, nval_low s h]
theorem steps_same {n : Int} {i : Nat} {s t : List Int} (h : ∀ x < i, n ∣ nval s 0 ((x : Nat) : Int) - nval t 0 (x : Int)) : ∀ k < i, n ∣ (s.getD k 0 - t.getD k 0) * (fac k : Int) := by
  intro k hk
  have := nw_none i (fun k => s.getD k 0 * (fac k : Int) - t.getD k 0 * (fac k : Int)) (fun x hx => by
    rw [nw_sub, ← nval_low s hx, ← nval_low t hx]
    exact h x hx) k hk
  rwa [← Int.sub_mul] at this
theorem dvd_fac : ∀ {n : Nat}, 0 < n → n ∣ fac n
  | n + 1, _ => ⟨fac n, rfl⟩
theorem fac_dvd : ∀ {k m : Nat}, k ≤ m → fac k ∣ fac m
  | k, 0, h => by
    have : k = 0 := by omega
    subst this
    exact Nat.dvd_refl _
  | k, m + 1, h => by
    by_cases c : k = m + 1
    · subst c; exact Nat.dvd_refl _
    · exact Nat.dvd_trans (fac_dvd (show k ≤ m by omega)) (Nat.dvd_mul_left _ _)
theorem sz_one {n k : Nat} (hn : 0 < n) : sz n k = 1 ↔ n ∣ fac k := by
  constructor
  · intro h
    have := sz_mul n k
    rw [h, Nat.one_mul] at this
    rw [← this]
    exact Nat.gcd_dvd_right _ _
  · intro h
    unfold sz gk
    rw [Nat.gcd_eq_left h]
    exact Nat.div_self hn
theorem sz_self {n : Nat} (hn : 0 < n) : sz n n = 1 := (sz_one hn).mpr (dvd_fac hn)
theorem sz_up {n k m : Nat} (hn : 0 < n) (h : sz n k = 1) (hk : k ≤ m) : sz n m = 1 := (sz_one hn).mpr (Nat.dvd_trans ((sz_one hn).mp h) (fac_dvd hk))
theorem fac_le : ∀ i < 13, fac i ≤ 479001600 := by decide
theorem ff_self (i : Nat) : ffj 0 i (i : Int) = (fac i : Int) := by
  rw [ff_bin, bin_self]
  simp
theorem ff_more {x i : Nat} (h : x < i) : ffj 0 i (x : Int) = 0 := by
  rw [ff_bin, bin_more x i h]
  simp
/-- the table of a sum -/
def tabOf (p : List Int) (n : Nat) : List Int := (List.range n).map fun x : Nat => pval p (x : Int) % (n : Int)
theorem tabOf_len (p : List Int) (n : Nat) : (tabOf p n).length = n := by simp [tabOf]
theorem tabOf_at (p : List Int) {n x : Nat} (h : x < n) : (tabOf p n).getD x 0 = pval p (x : Int) % (n : Int) := by
  rw [List.getD_eq_getElem?_getD]
  unfold tabOf
  rw [List.getElem?_map, List.getElem?_range h]
  rfl
theorem tabOf_snoc (p : List Int) (n i : Nat) : (List.range (i + 1)).map (fun x => pval p ((x : Nat) : Int) % (n : Int)) = (List.range i).map (fun x => pval p ((x : Nat) : Int) % (n : Int)) ++ [pval p (i : Int) % (n : Int)] := by
  rw [List.range_succ, List.map_append]
  rfl
/-- the least form of a sum tells its table's steps -/
theorem form_good {n : Nat} (hn : 0 < n) {p t h f : List Int} (g : Good n (tabOf p n) f) (ht : ∀ x : Int, nval t 0 x = pval p x) (lt : h.length = t.length) (hh : ∀ k < t.length, h.getD k 0 = t.getD k 0 % (sz n k : Int)) : ∀ k, h.getD k 0 = f.getD k 0 := by
  have hs : ∀ x < n, (n : Int) ∣ nval h 0 (x : Int) - (tabOf p n).getD x 0 := by
    intro x hx
    rw [tabOf_at p hx, ← ht, nval_nwl h x t.length (by omega), nval_nwl t x t.length (Nat.le_refl _)]
    have h1 : (n : Int) ∣ nw (fun k => h.getD k 0 * (fac k : Int) - t.getD k 0 * (fac k : Int)) t.length x := nw_dvd fun k hk => by
      rw [hh k hk, ← Int.sub_mul]
      obtain ⟨z, hz⟩ := sub_mod (sz n k : Int) (t.getD k 0)
      rw [hz, Int.mul_assoc, Int.mul_left_comm]
      exact Int.dvd_mul_of_dvd_right (sz_fac n k)
    rw [nw_sub] at h1
    have h2 := sub_mod (n : Int) (nw (fun k => t.getD k 0 * (fac k : Int)) t.length x)
    have := Int.dvd_sub h1 h2
    rwa [show nw (fun k => h.getD k 0 * (fac k : Int)) t.length x - nw (fun k => t.getD k 0 * (fac k : Int)) t.length x - (nw (fun k => t.getD k 0 * (fac k : Int)) t.length x % (n : Int) - nw (fun k => t.getD k 0 * (fac k : Int)) t.length x) = nw (fun k => h.getD k 0 * (fac k : Int)) t.length x - nw (fun k => t.getD k 0 * (fac k : Int)) t.length x % (n : Int) by omega] at this
  have hb : ∀ k, 0 ≤ h.getD k 0 ∧ h.getD k 0 < sz n k := by
    intro k
    have zp := sz_pos k hn
    by_cases c : k < t.length
    · rw [hh k c]
      exact ⟨Int.emod_nonneg _ (by omega), Int.emod_lt_of_pos _ (by omega)⟩
    · rw [getD_out (by omega)]
      omega
  intro k
  by_cases c : k < n
  · exact g.step (tabOf_len p n) hs c (hb k)
  · have h1 := hb k
    rw [sz_up hn (sz_self hn) (by omega)] at h1
    rw [getD_out (p := f) (by rw [g.len]; omega)]
    omega
/-- equal but for 0s at the end -/
theorem pval_same : ∀ (a b : List Int), (∀ k, a.getD k 0 = b.getD k 0) → ∀ x, pval a x = pval b x
  | [], [], _, _ => rfl
  | [], b :: q, h, x => by
    have h0 : b = 0 := (h 0).symm
    have e : pval [] x = pval q x := pval_same [] q (fun k => h (k + 1)) x
    show 0 = b + x * pval q x
    rw [h0, ← e]
    simp [pval]
  | a :: p, [], h, x => by
    have h0 : a = 0 := h 0
    have e : pval p x = pval [] x := pval_same p [] (fun k => h (k + 1)) x
    show a + x * pval p x = 0
    rw [h0, e]
    simp [pval]
  | a :: p, b :: q, h, x => by
    have h0 : a = b := h 0
    rw [h0, pval, pval, pval_same p q (fun k => h (k + 1)) x]
theorem getD_take {s : List Int} {k i : Nat} (h : k < i) : (s.take i).getD k 0 = s.getD k 0 := by
  rw [List.getD_eq_getElem?_getD, List.getElem?_take_of_lt h, ← List.getD_eq_getElem?_getD]
end Vf

namespace Vf
open PySem PySem.Spec PyProof.Rows L2
/-! ## math.factorial -/
section
variable {X : Cx}
theorem factorialNat_eq : ∀ n : Nat, Builtin.Math.factorialNat n = fac n
  | 0 => rfl
  | n + 1 => by
    have ih := factorialNat_eq n
    unfold Builtin.Math.factorialNat at *
    rw [List.range_succ, List.foldl_append, ih]
    show fac n * (n + 1) = (n + 1) * fac n
    exact Nat.mul_comm _ _
theorem fac_bits : ∀ n : Nat, n ≤ 1000 → fac n ≤ 2 ^ (10 * n)
  | 0, _ => by decide
  | n + 1, h => by
    have ih := fac_bits n (by omega)
    show (n + 1) * fac n ≤ _
    rw [show 10 * (n + 1) = 10 + 10 * n by omega, Nat.pow_add]
    exact Nat.mul_le_mul (by have : (2 : Nat) ^ 10 = 1024 := by decide
                             omega) ih
def rFact : List V → Hp → VK → Prop := fun vs H Q => ∃ a : Nat, vs = [.int (a : Int)] ∧ a ≤ 1000 ∧ Q (.int (fac a : Int)) H
theorem c_fact : CallR X (.builtin "math.factorial") rFact := by
  intro pins s σ H vs us Q I r h
  obtain ⟨a, rfl, hl, q⟩ := h
  obtain ⟨t, rfl⟩ : ∃ t : Tok, us = [.int (a : Int) t] := by
    cases r with
    | cons h1 h2 =>
      cases h2
      obtain ⟨t, e⟩ := h1
      exact ⟨t, by rw [e]⟩
  have h1 : ((a : Nat) : Int) ≤ 1000 := by omega
  refine PySem.W.mg_factorial_v (c := (fac a : Int)) ?_ (by omega) ?_ ?_ ?_ ⟨.int _, H, I.tok _, ⟨_, rfl⟩, q⟩
  · exact Int.not_lt.mpr (Int.le_trans h1 (by decide +kernel))
  · exact Int.not_lt.mpr (Int.le_trans h1 (by decide +kernel))
  · rw [Int.toNat_natCast, factorialNat_eq]
  · rw [Int.natAbs_natCast]
    exact PySem.W.mc_size (k := 200) (Nat.le_trans (fac_bits a hl) (Nat.pow_le_pow_right (by decide) (by omega))) (by decide)
theorem r_fact {H : Hp} {Q : VK} {a : Nat} (hl : a ≤ 1000) (h : Q (.int (fac a : Int)) H) : rFact [.int (a : Int)] H Q := ⟨a, rfl, hl, h⟩
end
/-! ## a dict whose keys are tuples: its len, its keys walked -/
def rLenDT : List V → Hp → VK → Prop := fun xs H Q => ∃ (a : Addr) (kvs : List (List Key × V)), xs = [V.ref a] ∧ H a = some (.dT kvs) ∧ Q (.int kvs.length) H
theorem cr_lenDT {X : Cx} : CallR X (.builtin "len") rLenDT := call_len_dT
section
variable {K : PySem.W.Frag} {σ : L2.St} {H : Hp} {Q : VK} {g : TG} {tt : TT} {te : TE} {vs : List Nat}
theorem r_lenDT {a : Addr} {kvs : List (List Key × V)} (h : H a = some (.dT kvs)) (q : Q (.int kvs.length) H) : rLenDT [.ref a] H Q := ⟨a, kvs, rfl, h, q⟩
theorem r_lcKi {i : Nat} {d : Addr} {o : Obj} {kvs : List (List Key × V)} (e : σ[i]? = some (some (.ref d))) (hd : H d = some (.frz o (.dT kvs)))
    (h : tLc (fun _ H2 R => R (Itkt d o kvs) H2) g tt te vs σ H Q) : tLc (iKeys (tVar i)) g tt te vs σ H Q := by
  exact ⟨_, e, d, o, rfl, .inr ⟨kvs, hd, h⟩⟩
theorem r_lcKT {d : Addr} {o : Obj} (kvs : List (List Key × V)) (Pv : Addr → Nat → Hp → Prop) (h0 : ∀ D, H D = none → Pv D 0 (upd H D (.lst [])))
    (hl : ∀ D i H', H D = none → i ≤ kvs.length → Pv D i H' → H' d = some (.frz o (.dT kvs)))
    (hs : ∀ D i k v q H', H D = none → kvs[i]? = some (k, v) → H' q = some (.tup (k.map kV)) → Pv D i H' → g (.ref q) (wipe σ vs) H' fun σ2 H2 => wipe σ2 vs = wipe σ vs ∧ tt σ2 H2 fun b H3 =>
      if b = true then te σ2 H3 fun y H4 => ∃ acc, H4 D = some (.lst acc) ∧ acc.length < sizeLine ∧ Pv D (i + 1) (upd H4 D (.lst (acc ++ [y]))) else Pv D (i + 1) H3)
    (hd : ∀ D H', H D = none → Pv D kvs.length H' → Q (.ref D) H') : tLc (fun _ H2 R => R (Itkt d o kvs) H2) g tt te vs σ H Q := by
  refine fun D hD => ⟨fun i m H => m = kvs.length - i ∧ i ≤ kvs.length ∧ Pv D i H, ⟨kvs.length, by omega, Nat.zero_le _, h0 D hD⟩, ?_⟩
  rintro i m H' ⟨rfl, hi, p⟩
  have qx := hl D i H' hD hi p
  by_cases lt : i < kvs.length
  · refine Or.inr ⟨⟨qx, lt⟩, Pv D (i + 1), fun H' p' => ⟨kvs.length - (i + 1), by omega, rfl, lt, p'⟩, fun v H'' yy => ?_⟩
    obtain ⟨rfl, k, v, q, hkv, rfl, hq⟩ := yy
    exact hs D i k v q _ hD hkv hq p
  · have e : i = kvs.length := by omega
    rw [e] at p
    exact Or.inl ⟨⟨qx, by omega⟩, hd D H' hD p⟩
end
end Vf

namespace Vf
open PySem PySem.Spec PyProof.Rows L2
/-! ## two walks in one comprehension: tuples -/
section
variable {K : PySem.W.Frag} {σ : L2.St} {H : Hp} {Q : VK} {g g1 : TG} {tt tt1 : TT} {te : TE} {vs vs1 : List Nat} {wi1 : TI}
theorem r_lc2Ti {tl : TE} (h : tl σ H fun x H1 => ∃ a, x = .ref a ∧ (∃ xs, SqT K H1 a xs) ∧ tLc2 (fun _ H2 R => R (Itt K a) H2) g tt wi1 g1 tt1 te vs vs1 σ H1 Q) : tLc2 (iTup K tl) g tt wi1 g1 tt1 te vs vs1 σ H Q := h
theorem r_lc2T {a : Addr} (xs : List V) (Pv : Addr → Nat → Hp → Prop) (h0 : ∀ D, H D = none → Pv D 0 (upd H D (.lst []))) (hl : ∀ D i H', H D = none → i ≤ xs.length → Pv D i H' → SqT K H' a xs)
    (hs : ∀ D i x H', H D = none → xs[i]? = some x → Pv D i H' → g x (wipe σ vs) H' fun σ2 H2 => wipe σ2 vs = wipe σ vs ∧ tt σ2 H2 fun b H3 =>
      if b = true then wi1 σ2 H3 fun J1 H4 => Inn D J1 g1 tt1 te vs1 σ2 H4 (Pv D (i + 1)) else Pv D (i + 1) H3)
    (hd : ∀ D H', H D = none → Pv D xs.length H' → Q (.ref D) H') : tLc2 (fun _ H2 R => R (Itt K a) H2) g tt wi1 g1 tt1 te vs vs1 σ H Q := by
  refine fun D hD => ⟨fun i m H => m = xs.length - i ∧ i ≤ xs.length ∧ Pv D i H, ⟨xs.length, by omega, Nat.zero_le _, h0 D hD⟩, ?_⟩
  rintro i m H' ⟨rfl, hi, p⟩
  have q := hl D i H' hD hi p
  by_cases lt : i < xs.length
  · refine Or.inr ⟨⟨xs, xs[i], q, by simp [lt]⟩, Pv D (i + 1), fun H' p' => ⟨xs.length - (i + 1), by omega, rfl, lt, p'⟩, fun x H'' y => ?_⟩
    obtain ⟨e, f⟩ := y
    subst e
    have := f xs q
    exact hs D i x H'' hD this p
  · have e : i = xs.length := by omega
    subst e
    exact Or.inl ⟨⟨xs, q, Nat.le_refl _⟩, hd D H' hD p⟩
end
theorem inn_tup {K : PySem.W.Frag} {D : Addr} {g1 : TG} {tt1 : TT} {te : TE} {vs1 : List Nat} {σ2 : L2.St} {H4 : Hp} {Nx : Hp → Prop} {a : Addr} (xs : List V) (Pv : Nat → Hp → Prop) (h0 : Pv 0 H4)
    (hl : ∀ j H, j ≤ xs.length → Pv j H → SqT K H a xs)
    (hs : ∀ j x H, xs[j]? = some x → Pv j H → g1 x (wipe σ2 vs1) H fun σ3 H5 => wipe σ3 vs1 = wipe σ2 vs1 ∧ tt1 σ3 H5 fun b H6 =>
        if b = true then te σ3 H6 fun y H7 => ∃ acc, H7 D = some (.lst acc) ∧ acc.length < sizeLine ∧ Pv (j + 1) (upd H7 D (.lst (acc ++ [y]))) else Pv (j + 1) H6)
    (hd : ∀ H, Pv xs.length H → Nx H) : Inn D (Itt K a) g1 tt1 te vs1 σ2 H4 Nx := by
  refine ⟨fun i m H => m = xs.length - i ∧ i ≤ xs.length ∧ Pv i H, ⟨xs.length, by omega, Nat.zero_le _, h0⟩, ?_⟩
  rintro i m H ⟨rfl, hi, p⟩
  have q := hl i H hi p
  by_cases lt : i < xs.length
  · refine Or.inr ⟨⟨xs, xs[i], q, by simp [lt]⟩, Pv (i + 1), fun H' p' => ⟨xs.length - (i + 1), by omega, rfl, lt, p'⟩, fun x H' y => ?_⟩
    obtain ⟨e, f⟩ := y
    subst e
    exact hs i x H' (f xs q) p
  · have e : i = xs.length := by omega
    subst e
    exact Or.inl ⟨⟨xs, q, Nat.le_refl _⟩, hd H p⟩
theorem r_wT {K : PySem.W.Frag} {σ : L2.St} {H : Hp} {tl : TE} {R : It → Hp → Prop} (h : tl σ H fun x H1 => ∃ a, x = .ref a ∧ (∃ xs, SqT K H1 a xs) ∧ R (Itt K a) H1) : iTup K tl σ H R := h
end Vf

namespace Vf
open PySem PySem.Spec PyProof.Rows L2
/-! ## dict(list of pairs) whose keys are tuples -/
def mergeT (kvs more : List (List Key × V)) : List (List Key × V) := more.foldl (fun acc kv => putK acc kv.1 kv.2) kvs
theorem length_mergeT : ∀ (more kvs : List (List Key × V)), (mergeT kvs more).length ≤ kvs.length + more.length
  | [], kvs => Nat.le_refl _
  | p :: r, kvs => by
    have h1 := length_mergeT r (putK kvs p.1 p.2)
    have h2 := length_putK kvs p.1 p.2
    show (mergeT (putK kvs p.1 p.2) r).length ≤ _
    rw [List.length_cons]
    omega
theorem KT.merge {H : Hp} : ∀ {more : List (List Key × V)} {rs : List (List Key × Addr × Value)} {kvs : List (List Key × V)} {xs : List (List Key × Addr × Value)}, L2.KT H more rs → L2.KT H kvs xs → L2.KT H (mergeT kvs more) (storedAllH xs rs)
  | _, _, _, _, .nil, h => h
  | _, _, _, _, .cons (a := p) (b := q) r t, h => by
    obtain ⟨e, hb, rv⟩ := r
    have z := KT.merge t (L2.KT.put h q.1 (b := q.2.1) (by rw [← e]; exact hb) rv)
    show L2.KT H (mergeT (putK _ p.1 p.2) _) _
    rw [e]
    exact z
/-- each item is a pair of a tuple and a value -/
def PrAt (H : Hp) (v : V) (kv : List Key × V) : Prop := ∃ t b, v = .ref t ∧ H t = some (.tup [.ref b, kv.2]) ∧ H b = some (.tup (kv.1.map kV))
def rDictT (K : PySem.W.Frag) : List V → Hp → VK → Prop := fun vs H Q => ∃ (a : Addr) (ws : List V) (kvs : List (List Key × V)), vs = [.ref a] ∧ H a = some (.lst ws) ∧ Paired (PrAt H) ws kvs ∧ ∀ p, H p = none → Q (.ref p) (upd H p (.dT (mergeT [] kvs)))
section
variable {X : Cx} {K : PySem.W.Frag}
theorem prs_of {pins : List (Addr × Obj)} {σ : L2.St} {H : Hp} {s : Shared} (I : Inv X pins σ H s) : ∀ {ws : List V} {its : List Value} {kvs : List (List Key × V)}, Paired (PrAt H) ws kvs → Vals ws its →
    ∃ (ts : List Addr) (rs : List (List Key × Addr × Value)), its = ts.map Value.ref ∧ L2.KT H kvs rs ∧ rs.length = ts.length ∧ ∀ (j : Nat) (q : List Key × Addr × Value), rs[j]? = some q → ∃ T, ts[j]? = some T ∧ s.heap.IsTuple T #[.ref q.2.1, q.2.2]
  | _, _, _, .nil, .nil => ⟨[], [], rfl, .nil, rfl, fun j q e => by simp at e⟩
  | _, _, _, .cons (b := kv) r t, .cons r1 rt => by
    obtain ⟨ts, rs, e1, e2, e3, e4⟩ := prs_of I t rt
    obtain ⟨T, b, rfl, hT, hb⟩ := r
    cases r1
    obtain ⟨its, rv, ⟨o, ho, hc, n, hd⟩, _⟩ := I.tuple (SqT.of hT)
    obtain ⟨u, y, ei, ru, ry⟩ := vals2 rv
    subst ei
    cases ru
    refine ⟨T :: ts, (kv.1, b, y) :: rs, by rw [e1]; rfl, .cons ⟨rfl, hb, ry⟩ e2, by simp [e3], fun j q e => ?_⟩
    cases j with
    | zero =>
      obtain rfl := Option.some.inj e
      exact ⟨T, rfl, o, ho, hc, n, hd⟩
    | succ j =>
      obtain ⟨T', f1, f2⟩ := e4 j q (by simpa using e)
      exact ⟨T', by simpa using f1, f2⟩
theorem kt_is {pins : List (Addr × Obj)} {σ : L2.St} {H : Hp} {s : Shared} (I : Inv X pins σ H s) {h' : Heap} (k : ∀ b o, s.heap.get? b = some o → h'.get? b = some o) : ∀ {kvs : List (List Key × V)} {rs : List (List Key × Addr × Value)}, L2.KT H kvs rs → ∀ x ∈ rs, (tupleKind (mixKind X.prog X.w)).is h' x.1 x.2.1
  | _, _, .nil, x, hx => nomatch hx
  | _, _, .cons (b := q) r t, x, hx => by
    rcases List.mem_cons.mp hx with e | hx
    · subst e
      obtain ⟨o, es, ep, h1, h2⟩ := key_of I.hok (a := x.2.1) (ks := x.1) (by rw [← r.1]; exact r.2.1)
      exact ⟨o, es, ep, k _ _ h1, h2⟩
    · exact kt_is I k t x hx
theorem kt_is2 {pins : List (Addr × Obj)} {σ : L2.St} {H : Hp} {s : Shared} (I : Inv X pins σ H s) {h' : Heap} (k : ∀ b o, b ≠ s.heap.objs.size → s.heap.get? b = some o → h'.get? b = some o) {kvs : List (List Key × V)} {rs : List (List Key × Addr × Value)} (r : L2.KT H kvs rs) : ∀ x ∈ rs, (tupleKind (mixKind X.prog X.w)).is h' x.1 x.2.1 := kt_is I (fun b o e => k b o (Nat.ne_of_lt (Heap.lt_size e)) e) r
theorem cr_dictT (hc : X.calm = true) (hu : X.A.units + 64 < cLine) : CallR X (.type "dict") (rDictT X.K) := by
  intro pins s σ H vs us Q I r h
  obtain ⟨a, ws, kvs, rfl, ha, P, q⟩ := h
  obtain ⟨u, rfl, ru⟩ := vals1 r
  obtain rfl : u = Value.ref a := ru
  obtain ⟨its, rv, ⟨o, n, ho, hcl, hd, hdat⟩, hz⟩ := I.list (SqL.of ha)
  obtain ⟨ts, rs, ei, kt, hl, hp⟩ := prs_of I P rv
  subst ei
  have lw : ws.length = kvs.length := Paired.length P
  have lk : kvs.length = rs.length := Paired.length kt
  have PA := PairArg.list (prog := X.prog) (w := X.w) a (ts.map Value.ref).toArray (fun j => ts.getD j 0) (rs.map fun x => (Value.ref x.2.1, x.2.2))
  refine call_dict_pairsH (knd := tupleKind (mixKind X.prog X.w)) (ps := rs) PA (I.ok.hd hc) ?_ ⟨⟨o, n, ho, hcl, hd, hdat⟩, by simp [hl], fun j k v hj => ?_⟩ ⟨by simp, fun i key v hr => ?_⟩ (fun h' k x hx => ?_) (by simp; omega) fun h' tk hd' k => ?_
  · exact tupleKind_room_in1 (by show X.A.units + 1 + 1 < cLine; omega)
  · rw [List.getElem?_map, Option.map_eq_some_iff] at hj
    obtain ⟨x, hx, e⟩ := hj
    obtain ⟨rfl, rfl⟩ := Prod.mk.inj e
    obtain ⟨T, e1, e2⟩ := hp j x hx
    refine ⟨?_, .inl ?_⟩
    · rw [List.getElem?_toArray, List.getElem?_map, e1]
      show some (Value.ref T) = some (Value.ref (ts.getD j 0))
      rw [List.getD_eq_getElem?_getD, e1]
      rfl
    · show s.heap.IsTuple (ts.getD j 0) _
      rw [List.getD_eq_getElem?_getD, e1]
      exact e2
  · have hr : (rs.map fun x => (Value.ref x.2.1, x.2.2))[i]? = some (key, v) := hr
    rw [List.getElem?_map, Option.map_eq_some_iff] at hr
    obtain ⟨x, hx, e⟩ := hr
    obtain ⟨rfl, rfl⟩ := Prod.mk.inj e
    exact ⟨x.1, x.2.1, hx, rfl⟩
  · exact kt_is2 I (fun b o hb e => k b o hb (by simp) e) kt x hx
  · have hm : (s.heap.objs.size == sysModules) = false := beq_eq_false_iff_ne.mpr (Nat.ne_of_gt I.big)
    have hlen : (mergeT [] kvs).length ≤ sizeLine := by
      refine Nat.le_trans (length_mergeT kvs []) ?_
      rw [List.length_nil, Nat.zero_add, ← lw]
      exact hz
    obtain ⟨o', es, ep, h1, h2, h3, h4, _, h5⟩ := hd'
    refine ⟨.ref s.heap.objs.size, upd H s.heap.objs.size (.dT (mergeT [] kvs)), I.laid (t' := tk) (fun b o e => k b o (by simp) e) (Nat.le_refl _) ?_, rfl, q _ (I.hok.fresh (Nat.le_refl _))⟩
    have nw := I.hok.fresh (Nat.le_refl s.heap.objs.size)
    refine ⟨hlen, hm, _, (KT.merge kt (.nil : L2.KT H [] [])).keeps fun b ys e => ?_, o', es, ep, h1, h2, h3, h4, h5⟩
    rw [upd_ne (ne_of_none e nw)]
    exact e
theorem pe_bmK {T : String} {name : Str} {id : String} {o e : Expr} {es : List Expr} {apos cpos : Pos} {to : TE} {t : TA} {r : V → List V → Hp → VK → Prop} (eK : X.K = K) (pa : PlainAttrs T) (slot : Slot T name id) (hty : typeOf (.builtin id) = pure (.type "method_descriptor")) (hm : MtR X id r) (ho : PE X o to) (ha : PA X (e :: es) t)
    (hbase : attributeBase o name X.env (eval o X.env) = eval o X.env := by rfl)
    (hfew : ((backTo cpos (starEach (e :: es) X.env)).all (fun x => !x.1) && (backToKw cpos (keywordEach [] X.env)).all (fun x => x.1.isSome)
      && decide ((e :: es).length + ([] : List Keyword).length + (if ([] : List Keyword).isEmpty then 0 else 1) < 30)) = true := by rfl)
    (hline : (apos.endLine == cpos.line) = true := by rfl) (hs : starEach (e :: es) X.env = (false, eval e X.env) :: starEach es X.env := by rfl) (hplain : (backTo cpos (starEach es X.env)).any (·.1) = false := by rfl) :
    PE X (.Call (.Attribute o name apos) (e :: es) [] cpos) (tBM K T r to t) := by subst eK; exact pe_bm pa slot hty hm ho ha hbase hfew hline hs hplain
theorem c_lcount (e : X.K = K) : MtR X "list.count" (rCntI K) := by subst e; exact mt_lcount
theorem r_lcount {H : Hp} {Q : VK} {p : Addr} {k : Int} (ns : List Int) (h1 : SqL K H p (ns.map V.int)) (h : Q (.int (ns.count k : Nat)) H) : rCntI K (.ref p) [.int k] H Q := ⟨p, ns, k, rfl, rfl, h1, h⟩
theorem c_dictT (e : X.K = K) (hc : X.calm = true) (hu : X.A.units + 64 < cLine) : CallR X (.type "dict") (rDictT K) := by subst e; exact cr_dictT hc hu
end
end Vf

namespace Vf
/-! ## numbers with a rest, counted and told -/
theorem div_step {L y : Int} (h : 0 < L) : y / L - (y - 1) / L = if y % L = 0 then 1 else 0 := by
  have d := Int.emod_add_mul_ediv y L
  have m0 := Int.emod_nonneg y (show L ≠ 0 by omega)
  have m1 := Int.emod_lt_of_pos y h
  split
  · rename_i z
    have : (y - 1) / L = y / L - 1 := by
      have e : y - 1 = (L - 1) + L * (y / L - 1) := by grind
      rw [e, Int.add_mul_ediv_left _ _ (by omega), Int.ediv_eq_zero_of_lt (by omega) (by omega)]
      omega
    omega
  · rename_i z
    have : (y - 1) / L = y / L := by
      have e : y - 1 = (y % L - 1) + L * (y / L) := by omega
      rw [e, Int.add_mul_ediv_left _ _ (by omega), Int.ediv_eq_zero_of_lt (by omega) (by omega)]
      omega
    omega
/-- the numbers from lo on, n of them, that leave the rest of r -/
def foundIn (L r lo : Int) : Nat → List Int
  | 0 => []
  | n + 1 => foundIn L r lo n ++ (if (lo + (n : Int) - r) % L = 0 then [lo + (n : Int)] else [])
theorem found_len {L r lo : Int} (h : 0 < L) : ∀ n : Nat, ((foundIn L r lo n).length : Int) = (lo + (n : Int) - 1 - r) / L - (lo - 1 - r) / L
  | 0 => by
    show ((0 : Nat) : Int) = _
    rw [show lo + ((0 : Nat) : Int) - 1 - r = lo - 1 - r by omega]
    omega
  | n + 1 => by
    have ih := found_len (r := r) (lo := lo) h n
    have st := div_step (y := lo + (n : Int) - r) h
    unfold foundIn
    rw [List.length_append]
    rw [show lo + ((n + 1 : Nat) : Int) - 1 - r = lo + (n : Int) - r by omega]
    rw [show lo + (n : Int) - 1 - r = lo + (n : Int) - r - 1 by omega] at ih
    split at st
    · rename_i z
      rw [if_pos z]
      simp only [List.length_cons, List.length_nil]
      omega
    · rename_i z
      rw [if_neg z]
      simp only [List.length_nil]
      omega
theorem found_le (L r lo : Int) : ∀ n : Nat, (foundIn L r lo n).length ≤ n
  | 0 => Nat.le_refl _
  | n + 1 => by
    have := found_le L r lo n
    unfold foundIn
    rw [List.length_append]
    split <;> simp <;> omega
/-- the k-th of them -/
def nthOf (L r lo : Int) (k : Int) : Int := lo + (r - lo) % L + k * L
theorem nth_at {L r lo : Int} (h : 0 < L) (n : Nat) (z : (lo + (n : Int) - r) % L = 0) : nthOf L r lo ((foundIn L r lo n).length : Int) = lo + (n : Int) := by
  rw [found_len h]
  unfold nthOf
  have st := div_step (y := lo + (n : Int) - r) h
  rw [if_pos z] at st
  have d := Int.emod_add_mul_ediv (lo + (n : Int) - r) L
  rw [z] at d
  have d2 := Int.emod_add_mul_ediv (r - lo) L
  have e2 : (lo - 1 - r) / L = -((r - lo) / L) - 1 := by
    have m0 := Int.emod_nonneg (r - lo) (show L ≠ 0 by omega)
    have m1 := Int.emod_lt_of_pos (r - lo) h
    have e : lo - 1 - r = (L - 1 - (r - lo) % L) + L * (-((r - lo) / L) - 1) := by grind
    rw [e, Int.add_mul_ediv_left _ _ (by omega), Int.ediv_eq_zero_of_lt (by omega) (by omega)]
    omega
  rw [show lo + (n : Int) - 1 - r = lo + (n : Int) - r - 1 by omega, show (lo + (n : Int) - r - 1) / L = (lo + (n : Int) - r) / L - 1 by omega, e2]
  generalize (lo + (n : Int) - r) / L = q at *
  generalize (r - lo) / L = v at *
  generalize (r - lo) % L = m at *
  grind
theorem found_nth {L r lo : Int} (h : 0 < L) : ∀ n : Nat, (List.range (foundIn L r lo n).length).map (fun k : Nat => nthOf L r lo (k : Int)) = foundIn L r lo n
  | 0 => rfl
  | n + 1 => by
    have ih := found_nth (r := r) (lo := lo) h n
    have e : foundIn L r lo (n + 1) = foundIn L r lo n ++ (if (lo + (n : Int) - r) % L = 0 then [lo + (n : Int)] else []) := rfl
    rw [e]
    by_cases z : (lo + (n : Int) - r) % L = 0
    · rw [if_pos z, List.length_append, List.length_singleton, List.range_succ, List.map_append, ih, List.map_singleton, nth_at h n z]
    · rw [if_neg z, List.append_nil, ih]
/-- the look at each fact is the look at the rest by all -/
theorem all_iff {x y : Int} {fs : List (Int × Int)} (hf : ∀ p ∈ fs, Fact p) (hx : Fits x fs) :
    (fs.all fun p => decide ((y - p.1) % p.2 = 0)) = decide ((y - x % (lcmAll fs : Int)) % (lcmAll fs : Int) = 0) := by
  have e1 : (fs.all fun p => decide ((y - p.1) % p.2 = 0)) = true ↔ Fits y fs := by
    rw [List.all_eq_true]
    constructor
    · intro h p hp
      have a := of_decide_eq_true (h p hp)
      have fp := hf p hp
      have := Int.emod_eq_emod_iff_emod_sub_eq_zero.mpr a
      rw [this]
      exact Int.emod_eq_of_lt fp.2.2.1 fp.2.2.2
    · intro h p hp
      have fp := hf p hp
      refine decide_eq_true (Int.emod_eq_emod_iff_emod_sub_eq_zero.mp ?_)
      rw [h p hp]
      exact (Int.emod_eq_of_lt fp.2.2.1 fp.2.2.2).symm
  rw [fits_iff hf hx] at e1
  have e2 : (y - x % (lcmAll fs : Int)) % (lcmAll fs : Int) = 0 ↔ (lcmAll fs : Int) ∣ y - x := by
    constructor
    · intro h
      have := Int.emod_eq_emod_iff_emod_sub_eq_zero.mpr h
      rw [Int.emod_emod_of_dvd x (Int.dvd_refl _)] at this
      exact Int.dvd_of_emod_eq_zero (Int.emod_eq_emod_iff_emod_sub_eq_zero.mp this)
    · intro h
      refine Int.emod_eq_emod_iff_emod_sub_eq_zero.mp ?_
      rw [Int.emod_emod_of_dvd x (Int.dvd_refl _)]
      exact Int.emod_eq_emod_iff_emod_sub_eq_zero.mpr (Int.emod_eq_zero_of_dvd h)
  rw [← e2] at e1
  by_cases h : (y - x % (lcmAll fs : Int)) % (lcmAll fs : Int) = 0
  · rw [decide_eq_true h]; exact e1.mpr h
  · rw [decide_eq_false h]
    cases b : (fs.all fun p => decide ((y - p.1) % p.2 = 0)) with
    | true => exact absurd (e1.mp b) h
    | false => rfl
end Vf

namespace Vf
theorem two_of {L A N : Int} (h : 0 < L) : (A + N) / L - A / L = N / L ∨ (A + N) / L - A / L = N / L + 1 := by
  have a0 := Int.emod_nonneg A (show L ≠ 0 by omega)
  have a1 := Int.emod_lt_of_pos A h
  have n0 := Int.emod_nonneg N (show L ≠ 0 by omega)
  have n1 := Int.emod_lt_of_pos N h
  have e : A + N = (A % L + N % L) + L * (A / L + N / L) := by
    have := Int.emod_add_mul_ediv A L
    have := Int.emod_add_mul_ediv N L
    grind
  have e2 : (A + N) / L = (A % L + N % L) / L + (A / L + N / L) := by
    rw [e, Int.add_mul_ediv_left _ _ (by omega)]
  have e3 : (A % L + N % L) / L = 0 ∨ (A % L + N % L) / L = 1 := by
    by_cases c : A % L + N % L < L
    · exact Or.inl (Int.ediv_eq_zero_of_lt (by omega) c)
    · refine Or.inr ?_
      rw [show A % L + N % L = (A % L + N % L - L) + L * 1 by omega, Int.add_mul_ediv_left _ _ (by omega), Int.ediv_eq_zero_of_lt (by omega) (by omega)]
      rfl
  omega
theorem count_L {L A : Int} (h : 0 < L) : (A + L) / L - A / L = 1 := by
  rw [show A + L = A + L * 1 by omega, Int.add_mul_ediv_left _ _ (by omega)]
  omega
theorem nth_q {L r lo k : Int} : nthOf L r lo k - r = L * (k - (r - lo) / L) := by
  unfold nthOf
  have d2 := Int.emod_add_mul_ediv (r - lo) L
  grind
theorem nth_fits {L r lo k : Int} : (nthOf L r lo k - r) % L = 0 := by
  rw [nth_q]
  exact Int.mul_emod_right _ _
theorem nth_count {L r lo k : Int} (h : 0 < L) : (nthOf L r lo k - 1 - r) / L - (lo - 1 - r) / L = k := by
  have q := nth_q (L := L) (r := r) (lo := lo) (k := k)
  have e1 : (nthOf L r lo k - 1 - r) / L = k - (r - lo) / L - 1 := by
    rw [show nthOf L r lo k - 1 - r = (L - 1) + L * (k - (r - lo) / L - 1) by rw [show nthOf L r lo k - 1 - r = nthOf L r lo k - r - 1 by omega, q]; grind]
    rw [Int.add_mul_ediv_left _ _ (by omega), Int.ediv_eq_zero_of_lt (by omega) (by omega)]
    omega
  have e2 : (lo - 1 - r) / L = -((r - lo) / L) - 1 := by
    have d2 := Int.emod_add_mul_ediv (r - lo) L
    have m0 := Int.emod_nonneg (r - lo) (show L ≠ 0 by omega)
    have m1 := Int.emod_lt_of_pos (r - lo) h
    have e : lo - 1 - r = (L - 1 - (r - lo) % L) + L * (-((r - lo) / L) - 1) := by grind
    rw [e, Int.add_mul_ediv_left _ _ (by omega), Int.ediv_eq_zero_of_lt (by omega) (by omega)]
    omega
  omega
theorem nth_lo {L r lo k : Int} (h : 0 < L) (hk : 0 ≤ k) : lo ≤ nthOf L r lo k := by
  unfold nthOf
  have m0 := Int.emod_nonneg (r - lo) (show L ≠ 0 by omega)
  have := Int.mul_nonneg hk (show 0 ≤ L by omega)
  omega
end Vf

namespace Vf
/-! ## sums that turn the rests by a base -/
def Inj (F : Int → Int) (n : Nat) : Prop := ∀ x y : Int, (n : Int) ∣ F x - F y → (n : Int) ∣ x - y
theorem Dv.step {F G : Int → Int} (d : Dv F G) (x y : Int) : ∃ k, F x - F y = (x - y) * (G y + (x - y) * k) := by
  obtain ⟨k, e⟩ := d y (x - y)
  refine ⟨k, ?_⟩
  rw [show y + (x - y) = x by omega] at e
  rw [e]
  grind
theorem Dv.cong {F G : Int → Int} (d : Dv F G) {n x y : Int} (h : n ∣ x - y) : n ∣ F x - F y := by
  obtain ⟨k, e⟩ := d.step x y
  rw [e]
  exact Int.dvd_trans h (Int.dvd_mul_right ..)
theorem noinj : ∀ (n : Nat) (g : Nat → Nat), (∀ x < n + 1, g x < n) → (∀ x < n + 1, ∀ y < n + 1, g x = g y → x = y) → False
  | 0, g, h, _ => absurd (h 0 (by omega)) (by omega)
  | n + 1, g, h, hi => by
    have hv := h (n + 1) (by omega)
    refine noinj n (fun x => if g x > g (n + 1) then g x - 1 else g x) (fun x hx => ?_) (fun x hx y hy e => ?_)
    · have h1 := h x (by omega)
      have h2 : g x ≠ g (n + 1) := fun z => by have := hi x (by omega) (n + 1) (by omega) z; omega
      try dsimp only
      split <;> omega
    · have h2 : g x ≠ g (n + 1) := fun z => by have := hi x (by omega) (n + 1) (by omega) z; omega
      have h3 : g y ≠ g (n + 1) := fun z => by have := hi y (by omega) (n + 1) (by omega) z; omega
      try dsimp only at e
      refine hi x (by omega) y (by omega) ?_
      split at e <;> split at e <;> omega
theorem pig {n : Nat} {g : Nat → Nat} (h : ∀ x < n, g x < n) (hi : ∀ x < n, ∀ y < n, g x = g y → x = y) : ∀ r < n, ∃ x < n, g x = r := by
  intro r hr
  refine Classical.byContradiction fun no => ?_
  cases n with
  | zero => omega
  | succ n =>
    refine noinj n (fun x => if g x > r then g x - 1 else g x) (fun x hx => ?_) (fun x hx y hy e => ?_)
    · have h1 := h x hx
      have h2 : g x ≠ r := fun z => no ⟨x, hx, z⟩
      try dsimp only
      split <;> omega
    · have h2 : g x ≠ r := fun z => no ⟨x, hx, z⟩
      have h3 : g y ≠ r := fun z => no ⟨y, hy, z⟩
      try dsimp only at e
      refine hi x hx y hy ?_
      split at e <;> split at e <;> omega
theorem dvd_mod {n : Nat} (a b : Int) : (n : Int) ∣ a - b ↔ a % (n : Int) = b % (n : Int) :=
  ⟨fun h => Int.emod_eq_emod_iff_emod_sub_eq_zero.mpr (Int.emod_eq_zero_of_dvd h), fun h => Int.dvd_of_emod_eq_zero (Int.emod_eq_emod_iff_emod_sub_eq_zero.mp h)⟩
def rs (n : Nat) (x : Int) : Nat := (x % (n : Int)).toNat
theorem rs_eq {n : Nat} (n0 : 0 < n) (x : Int) : ((rs n x : Nat) : Int) = x % (n : Int) := Int.toNat_of_nonneg (Int.emod_nonneg _ (by omega))
theorem rs_lt {n : Nat} (n0 : 0 < n) (x : Int) : rs n x < n := by
  have h1 := rs_eq n0 x
  have h2 := Int.emod_lt_of_pos x (show (0 : Int) < (n : Int) by omega)
  omega
theorem rs_dvd {n : Nat} (n0 : 0 < n) (x y : Int) : (n : Int) ∣ x - y ↔ rs n x = rs n y := by
  rw [dvd_mod, ← rs_eq n0, ← rs_eq n0]
  omega
theorem rs_self {n : Nat} (n0 : 0 < n) (x : Int) : (n : Int) ∣ x - (rs n x : Nat) := by
  rw [rs_eq n0, dvd_mod, Int.emod_emod]
theorem small_eq {n x y : Nat} (hx : x < n) (hy : y < n) (h : (n : Int) ∣ (x : Int) - (y : Int)) : x = y := by
  rw [dvd_mod, Int.emod_eq_of_lt (by omega) (by omega), Int.emod_eq_of_lt (by omega) (by omega)] at h
  omega
theorem dvd_tr {n a b c : Int} (h1 : n ∣ a - b) (h2 : n ∣ b - c) : n ∣ a - c := by
  have := Int.dvd_add h1 h2
  rwa [show a - b + (b - c) = a - c by omega] at this
theorem dvd_sy {n a b : Int} (h1 : n ∣ a - b) : n ∣ b - a := by
  have := Int.dvd_neg.mpr h1
  rwa [show -(a - b) = b - a by omega] at this
theorem Inj.surj {F G : Int → Int} {n : Nat} (d : Dv F G) (n0 : 0 < n) (h : Inj F n) (r : Int) : ∃ x : Int, (n : Int) ∣ F x - r := by
  obtain ⟨x, hx, e⟩ := pig (n := n) (g := fun x => rs n (F (x : Int))) (fun x _ => rs_lt n0 _) (fun x hx y hy e => small_eq hx hy (h _ _ ((rs_dvd n0 _ _).mpr e))) (rs n r) (rs_lt n0 r)
  exact ⟨(x : Int), (rs_dvd n0 _ _).mpr e⟩
theorem inj_of_surj {F G : Int → Int} {n : Nat} (d : Dv F G) (n0 : 0 < n) (h : ∀ r : Int, ∃ x : Int, (n : Int) ∣ F x - r) : Inj F n := by
  let s : Int → Int := fun r => (h r).choose
  have hs : ∀ r, (n : Int) ∣ F (s r) - r := fun r => (h r).choose_spec
  have hp := pig (n := n) (g := fun r => rs n (s (r : Int))) (fun x _ => rs_lt n0 _) (fun x hx y hy e => small_eq hx hy (dvd_tr (dvd_sy (hs x)) (dvd_tr (d.cong ((rs_dvd n0 _ _).mpr e)) (hs y))))
  intro x y hxy
  obtain ⟨r1, h1, e1⟩ := hp (rs n x) (rs_lt n0 x)
  obtain ⟨r2, h2, e2⟩ := hp (rs n y) (rs_lt n0 y)
  have a1 : (n : Int) ∣ s r1 - x := (rs_dvd n0 _ _).mpr e1
  have a2 : (n : Int) ∣ s r2 - y := (rs_dvd n0 _ _).mpr e2
  have b1 : (n : Int) ∣ (r1 : Int) - F x := dvd_tr (dvd_sy (hs r1)) (d.cong a1)
  have b2 : (n : Int) ∣ (r2 : Int) - F y := dvd_tr (dvd_sy (hs r2)) (d.cong a2)
  have : r1 = r2 := small_eq h1 h2 (dvd_tr b1 (dvd_tr hxy (dvd_sy b2)))
  subst this
  exact dvd_tr (dvd_sy a1) a2
theorem Inj.of_dvd {F G : Int → Int} {m n : Nat} (d : Dv F G) (n0 : 0 < n) (hm : m ∣ n) (h : Inj F n) : Inj F m := by
  have m0 : 0 < m := Nat.pos_of_dvd_of_pos hm n0
  refine inj_of_surj d m0 fun r => ?_
  obtain ⟨x, hx⟩ := h.surj d n0 r
  exact ⟨x, Int.dvd_trans (Int.natCast_dvd_natCast.mpr hm) hx⟩
theorem Inj.mul {F : Int → Int} {a b : Nat} (hc : Nat.Coprime a b) (ha : Inj F a) (hb : Inj F b) : Inj F (a * b) := by
  intro x y h
  have h1 := ha x y (Int.dvd_trans (Int.natCast_dvd_natCast.mpr (Nat.dvd_mul_right a b)) h)
  have h2 := hb x y (Int.dvd_trans (Int.natCast_dvd_natCast.mpr (Nat.dvd_mul_left b a)) h)
  exact Int.ofNat_dvd_left.mpr (hc.mul_dvd_of_dvd_of_dvd (Int.ofNat_dvd_left.mp h1) (Int.ofNat_dvd_left.mp h2))
def Pr (p : Nat) : Prop := 2 ≤ p ∧ ∀ k, k ∣ p → k = 1 ∨ k = p
theorem Pr.euclid {p : Nat} (hp : Pr p) {a b : Int} (h : (p : Int) ∣ a * b) : (p : Int) ∣ a ∨ (p : Int) ∣ b := by
  have h1 := Int.ofNat_dvd_left.mp h
  rw [Int.natAbs_mul] at h1
  rcases hp.2 _ (Nat.gcd_dvd_left p a.natAbs) with c | c
  · exact .inr (Int.ofNat_dvd_left.mpr (Nat.Coprime.dvd_of_dvd_mul_left c h1))
  · exact .inl (Int.ofNat_dvd_left.mpr (by rw [← c]; exact Nat.gcd_dvd_right _ _))
theorem Pr.dvd_pow {p q : Nat} (hp : Pr p) (hq : Pr q) : ∀ e, p ∣ q ^ e → p = q
  | 0, h => by
    have := Nat.le_of_dvd Nat.one_pos h
    have := hp.1
    omega
  | e + 1, h => by
    rw [Nat.pow_succ] at h
    rcases hp.euclid (a := ((q ^ e : Nat) : Int)) (b := (q : Int)) (by rw [← Int.natCast_mul]; exact Int.natCast_dvd_natCast.mpr h) with c | c
    · exact hp.dvd_pow hq e (Int.natCast_dvd_natCast.mp c)
    · rcases hq.2 p (Int.natCast_dvd_natCast.mp c) with d | d
      · have := hp.1
        omega
      · exact d
theorem pow_int (p e : Nat) : ((p ^ e : Nat) : Int) = (p : Int) ^ e := by push_cast; rfl
theorem lift_up {F G : Int → Int} {p : Nat} (d : Dv F G) (hp : Pr p) (h1 : Inj F p) (hg : ∀ x : Int, ¬ (p : Int) ∣ G x) : ∀ e, Inj F (p ^ (e + 1))
  | 0 => by
    rw [Nat.pow_one]
    exact h1
  | e + 1 => by
    intro x y h
    have ih := lift_up d hp h1 hg e
    have p0 : (0 : Int) < ((p ^ (e + 1) : Nat) : Int) := by
      have := Nat.pow_pos (n := e + 1) (show 0 < p by have := hp.1; omega)
      omega
    have e2 : ((p ^ (e + 1 + 1) : Nat) : Int) = ((p ^ (e + 1) : Nat) : Int) * (p : Int) := by rw [← Int.natCast_mul, ← Nat.pow_succ]
    rw [e2] at h ⊢
    obtain ⟨t, ht⟩ := ih x y (Int.dvd_trans (Int.dvd_mul_right ..) h)
    obtain ⟨k, hk⟩ := d.step x y
    rw [hk, ht, Int.mul_assoc] at h
    have h3 : (p : Int) ∣ t * (G y + ((p ^ (e + 1) : Nat) : Int) * t * k) := Int.dvd_of_mul_dvd_mul_left (by omega) h
    rw [ht]
    refine Int.mul_dvd_mul_left _ ?_
    rcases hp.euclid h3 with c | c
    · exact c
    · have h4 : (p : Int) ∣ ((p ^ (e + 1) : Nat) : Int) * t * k := by
        rw [Int.mul_assoc]
        refine Int.dvd_trans ?_ (Int.dvd_mul_right ..)
        exact Int.natCast_dvd_natCast.mpr (by rw [Nat.pow_succ]; exact Nat.dvd_mul_left _ _)
      have := Int.dvd_sub c h4
      rw [show G y + ((p ^ (e + 1) : Nat) : Int) * t * k - ((p ^ (e + 1) : Nat) : Int) * t * k = G y by omega] at this
      exact absurd this (hg y)
theorem lift_down {F G : Int → Int} {p e : Nat} (d : Dv F G) (hp : Pr p) (h : Inj F (p ^ (e + 2))) (x : Int) : ¬ (p : Int) ∣ G x := by
  intro hx
  have p0 : 0 < p ^ (e + 1) := Nat.pow_pos (show 0 < p by have := hp.1; omega)
  obtain ⟨k, hk⟩ := d.step (x + ((p ^ (e + 1) : Nat) : Int)) x
  rw [show x + ((p ^ (e + 1) : Nat) : Int) - x = ((p ^ (e + 1) : Nat) : Int) by omega] at hk
  have e2 : ((p ^ (e + 2) : Nat) : Int) = ((p ^ (e + 1) : Nat) : Int) * (p : Int) := by rw [← Int.natCast_mul, ← Nat.pow_succ]
  have h4 : (p : Int) ∣ ((p ^ (e + 1) : Nat) : Int) * k := Int.dvd_trans (Int.natCast_dvd_natCast.mpr (by rw [Nat.pow_succ]; exact Nat.dvd_mul_left _ _)) (Int.dvd_mul_right ..)
  have h5 := h (x + ((p ^ (e + 1) : Nat) : Int)) x (by rw [hk, e2]; exact Int.mul_dvd_mul_left _ (Int.dvd_add hx h4))
  rw [show x + ((p ^ (e + 1) : Nat) : Int) - x = ((p ^ (e + 1) : Nat) : Int) by omega] at h5
  have h6 := Nat.le_of_dvd p0 (Int.natCast_dvd_natCast.mp h5)
  have h7 : p ^ (e + 2) = p ^ (e + 1) * p := Nat.pow_succ ..
  have := Nat.mul_le_mul_left (p ^ (e + 1)) hp.1
  omega
theorem lift_iff {F G : Int → Int} {p e : Nat} (d : Dv F G) (hp : Pr p) (he : 1 ≤ e) : Inj F (p ^ e) ↔ Inj F p ∧ (e = 1 ∨ ∀ x : Int, ¬ (p : Int) ∣ G x) := by
  have p0 : 0 < p ^ e := Nat.pow_pos (show 0 < p by have := hp.1; omega)
  constructor
  · intro h
    refine ⟨h.of_dvd d p0 (Nat.dvd_trans (by rw [Nat.pow_one]; exact Nat.dvd_refl _) (Nat.pow_dvd_pow p he)), ?_⟩
    rcases Nat.lt_or_ge 1 e with c | c
    · obtain ⟨f, rfl⟩ : ∃ f, e = f + 2 := ⟨e - 2, by omega⟩
      exact .inr (lift_down d hp h)
    · exact .inl (by omega)
  · intro ⟨h1, h2⟩
    rcases h2 with c | c
    · rw [c, Nat.pow_one]
      exact h1
    · obtain ⟨f, rfl⟩ : ∃ f, e = f + 1 := ⟨e - 1, by omega⟩
      exact lift_up d hp h1 c f
/-- the powers of primes that make a base -/
def made : List (Nat × Nat) → Nat
  | [] => 1
  | a :: r => a.1 ^ a.2 * made r
structure Apart (ps : List (Nat × Nat)) (n : Nat) : Prop where
  m : made ps = n
  p : ∀ a ∈ ps, Pr a.1 ∧ 1 ≤ a.2
  s : ps.Pairwise fun a b => a.1 < b.1
theorem cop_primes {p q : Nat} (hp : Pr p) (hq : Pr q) (h : p ≠ q) : Nat.Coprime p q := by
  rcases hp.2 _ (Nat.gcd_dvd_left p q) with c | c
  · exact c
  · have h1 : p ∣ q := by rw [← c]; exact Nat.gcd_dvd_right _ _
    rcases hq.2 p h1 with d | d
    · have := hp.1
      omega
    · exact absurd d h
theorem cop_made {p : Nat} (hp : Pr p) : ∀ (ps : List (Nat × Nat)), (∀ a ∈ ps, Pr a.1 ∧ p < a.1) → Nat.Coprime p (made ps)
  | [], _ => Nat.gcd_one_right p
  | a :: r, h => by
    have h1 := h a List.mem_cons_self
    exact Nat.Coprime.mul_right (Nat.Coprime.pow_right a.2 (cop_primes hp h1.1 (by omega))) (cop_made hp r fun b hb => h b (List.mem_cons_of_mem _ hb))
theorem made_pos : ∀ (ps : List (Nat × Nat)), (∀ a ∈ ps, Pr a.1 ∧ 1 ≤ a.2) → 0 < made ps
  | [], _ => Nat.one_pos
  | a :: r, h => Nat.mul_pos (Nat.pow_pos (by have := (h a List.mem_cons_self).1.1; omega)) (made_pos r fun b hb => h b (List.mem_cons_of_mem _ hb))
theorem made_iff {F G : Int → Int} (d : Dv F G) : ∀ (ps : List (Nat × Nat)), (∀ a ∈ ps, Pr a.1 ∧ 1 ≤ a.2) → ps.Pairwise (fun a b => a.1 < b.1) → (Inj F (made ps) ↔ ∀ a ∈ ps, Inj F (a.1 ^ a.2))
  | [], _, _ => ⟨fun _ a ha => by simp at ha, fun _ x y _ => ⟨x - y, by simp [made]⟩⟩
  | a :: r, hp, hs => by
    have h1 := hp a List.mem_cons_self
    have hr : ∀ b ∈ r, Pr b.1 ∧ 1 ≤ b.2 := fun b hb => hp b (List.mem_cons_of_mem _ hb)
    have ih := made_iff d r hr (List.pairwise_cons.mp hs).2
    have hc : Nat.Coprime (a.1 ^ a.2) (made r) := Nat.Coprime.pow_left _ (cop_made h1.1 r fun b hb => ⟨(hr b hb).1, (List.pairwise_cons.mp hs).1 b hb⟩)
    have pos : 0 < a.1 ^ a.2 * made r := made_pos (a :: r) hp
    show Inj F (a.1 ^ a.2 * made r) ↔ _
    constructor
    · intro h b hb
      rcases List.mem_cons.mp hb with e | e
      · rw [e]
        exact h.of_dvd d pos (Nat.dvd_mul_right _ _)
      · exact ih.mp (h.of_dvd d pos (Nat.dvd_mul_left _ _)) b e
    · intro h
      exact Inj.mul hc (h a List.mem_cons_self) (ih.mpr fun b hb => h b (List.mem_cons_of_mem _ hb))
theorem Apart.turn {F G : Int → Int} {ps : List (Nat × Nat)} {n : Nat} (A : Apart ps n) (d : Dv F G) : Inj F n ↔ ∀ a ∈ ps, Inj F a.1 ∧ (a.2 = 1 ∨ ∀ x : Int, ¬ (a.1 : Int) ∣ G x) := by
  rw [← A.m, made_iff d ps A.p A.s]
  exact ⟨fun h a ha => (lift_iff d (A.p a ha).1 (A.p a ha).2).mp (h a ha), fun h a ha => (lift_iff d (A.p a ha).1 (A.p a ha).2).mpr (h a ha)⟩
theorem line_turn {a s : Int} {n : Nat} (n0 : 0 < n) : Inj (fun x => a + x * s) n ↔ Nat.gcd s.natAbs n = 1 := by
  constructor
  · intro h
    obtain ⟨g, hg⟩ : ∃ g, Nat.gcd s.natAbs n = g := ⟨_, rfl⟩
    rw [hg]
    have g0 : 0 < g := by rw [← hg]; exact Nat.gcd_pos_of_pos_right _ n0
    obtain ⟨c, hc⟩ : g ∣ s.natAbs := by rw [← hg]; exact Nat.gcd_dvd_left _ _
    obtain ⟨m, hm⟩ : g ∣ n := by rw [← hg]; exact Nat.gcd_dvd_right _ _
    have hs : (n : Int) ∣ (m : Int) * s := by
      refine Int.ofNat_dvd_left.mpr ?_
      rw [Int.natAbs_mul, Int.natAbs_natCast, hc, hm]
      exact ⟨c, by rw [Nat.mul_left_comm, Nat.mul_assoc]⟩
    have h1 := h (m : Int) 0 (by
      show (n : Int) ∣ a + (m : Int) * s - (a + 0 * s)
      rw [Int.zero_mul, show a + (m : Int) * s - (a + 0) = (m : Int) * s by omega]
      exact hs)
    rw [Int.sub_zero] at h1
    have m0 : 0 < m := by
      rcases Nat.eq_zero_or_pos m with z | z
      · rw [z, Nat.mul_zero] at hm; omega
      · exact z
    have h2 := Nat.le_of_dvd m0 (Int.natCast_dvd_natCast.mp h1)
    rcases Nat.lt_or_ge 1 g with c2 | c2
    · have := Nat.mul_le_mul_right m c2
      omega
    · omega
  · intro h x y hxy
    have hxy : (n : Int) ∣ a + x * s - (a + y * s) := hxy
    rw [show a + x * s - (a + y * s) = (x - y) * s by grind] at hxy
    have h1 := Int.ofNat_dvd_left.mp hxy
    rw [Int.natAbs_mul] at h1
    exact Int.ofNat_dvd_left.mpr (Nat.Coprime.dvd_of_dvd_mul_right (by rw [Nat.coprime_comm]; exact h) h1)
theorem Inj.comp {F H : Int → Int} {n : Nat} (hf : Inj F n) (hh : Inj H n) : Inj (fun x => F (H x)) n := fun x y h => hh x y (hf _ _ h)
theorem prime_pow_turn {F G : Int → Int} {p e : Nat} (d : Dv F G) (hp : Pr p) (he : 2 ≤ e) : Inj F (p ^ e) ↔ Inj F (p ^ 2) := by
  rw [lift_iff d hp (by omega), lift_iff d hp (show 1 ≤ 2 by decide)]
  constructor
  · intro ⟨a, b⟩
    exact ⟨a, .inr (b.resolve_left (by omega))⟩
  · intro ⟨a, b⟩
    exact ⟨a, .inr (b.resolve_left (by omega))⟩
end Vf

namespace Vf
/-! ## a sum of L coefficients is divided everywhere if it is at 0 to L - 1 -/
theorem padd (j : Int) : ∀ (a b : List Int), b.length ≤ a.length → ∃ r : List Int, r.length = a.length ∧ ∀ x, pval r x = pval a x + j * pval b x
  | [], [], _ => ⟨[], rfl, fun x => by simp [pval]⟩
  | [], _ :: _, h => by simp at h
  | a :: p, [], _ => ⟨a :: p, rfl, fun x => by simp [pval]⟩
  | a :: p, b :: q, h => by
    obtain ⟨r, lr, hr⟩ := padd j p q (by simpa using h)
    refine ⟨(a + j * b) :: r, by simp [lr], fun x => ?_⟩
    rw [pval, hr, pval, pval]
    grind
theorem pquo (j : Int) : ∀ (p : List Int), ∃ r : List Int, r.length = p.length - 1 ∧ ∀ x, pval p x = pval p j + (x - j) * pval r x
  | [] => ⟨[], rfl, fun x => by simp [pval]⟩
  | c :: q => by
    obtain ⟨r, lr, hr⟩ := pquo j q
    obtain ⟨u, lu, hu⟩ := padd j q r (by omega)
    refine ⟨u, by rw [lu]; simp, fun x => ?_⟩
    have h := hr x
    rw [pval, pval, hu]
    grind
theorem newt : ∀ (m : Nat) (p : List Int) (j : Int), p.length = m → ∃ t : List Int, t.length = m ∧ ∀ x, nval t j x = pval p x
  | 0, p, j, h => by
    obtain rfl := List.eq_nil_of_length_eq_zero h
    exact ⟨[], rfl, fun _ => rfl⟩
  | m + 1, p, j, h => by
    obtain ⟨r, lr, hr⟩ := pquo j p
    obtain ⟨t, lt, ht⟩ := newt m r (j + 1) (by omega)
    refine ⟨pval p j :: t, by simp [lt], fun x => ?_⟩
    rw [nval, ht, hr x]
theorem div_all {n : Int} {p : List Int} (h : ∀ x < p.length, n ∣ pval p ((x : Nat) : Int)) (x : Nat) : n ∣ pval p (x : Int) := by
  obtain ⟨t, lt, ht⟩ := newt p.length p 0 rfl
  have h1 : ∀ k < p.length, n ∣ t.getD k 0 * (fac k : Int) := nw_none p.length (fun k => t.getD k 0 * (fac k : Int)) fun y hy => by
    rw [← nval_nwl t y p.length (by omega), ht]
    exact h y hy
  rw [← ht, nval_nwl t x p.length (by omega)]
  exact nw_dvd h1
theorem pval_mod (n : Int) : ∀ (p : List Int) (x y : Int), n ∣ x - y → n ∣ pval p x - pval p y
  | [], x, y, _ => by simp [pval]
  | c :: q, x, y, h => by
    obtain ⟨u, hu⟩ := h
    obtain ⟨v, hv⟩ := pval_mod n q x y ⟨u, hu⟩
    refine ⟨x * v + u * pval q y, ?_⟩
    rw [pval, pval]
    have e : pval q x = pval q y + n * v := by omega
    have e2 : x = y + n * u := by omega
    rw [e, e2]
    grind
/-- all numbers, not those from 0 on alone -/
theorem div_per {n : Nat} (n0 : 0 < n) {p q : List Int} (h : ∀ x < n, (n : Int) ∣ pval p ((x : Nat) : Int) - pval q (x : Int)) (x : Nat) : (n : Int) ∣ pval p (x : Int) - pval q (x : Int) := by
  have h1 := h (x % n) (Nat.mod_lt _ n0)
  have h0 : (n : Int) ∣ (x : Int) - ((x % n : Nat) : Int) := by
    refine ⟨((x / n : Nat) : Int), ?_⟩
    have := Nat.mod_add_div x n
    have e : ((x % n : Nat) : Int) + (n : Int) * ((x / n : Nat) : Int) = (x : Int) := by
      rw [← Int.natCast_mul, ← Int.natCast_add, this]
    omega
  have h2 := pval_mod n p _ _ h0
  have h3 := pval_mod n q _ _ h0
  have := Int.dvd_add (Int.dvd_sub h2 h3) h1
  rwa [show pval p (x : Int) - pval p ((x % n : Nat) : Int) - (pval q (x : Int) - pval q ((x % n : Nat) : Int)) + (pval p ((x % n : Nat) : Int) - pval q ((x % n : Nat) : Int)) = pval p (x : Int) - pval q (x : Int) by omega] at this
/-- the first number at which it is not divided is a rest -/
theorem first_lt {n : Nat} (n0 : 0 < n) {p q : List Int} {x : Nat} (h : ∀ y < x, (n : Int) ∣ pval p ((y : Nat) : Int) - pval q (y : Int)) (hx : ¬ (n : Int) ∣ pval p (x : Int) - pval q (x : Int)) : x < n := by
  rcases Nat.lt_or_ge x n with c | c
  · exact c
  · exact absurd (div_per n0 (fun y hy => h y (by omega)) x) hx
/-- where two sums leave other rests -/
def gapsL (n : Nat) (p q : List Int) (m : Nat) : List Int := ((List.range m).filter fun x : Nat => decide (¬ pval p (x : Int) % (n : Int) = pval q (x : Int) % (n : Int))).map fun x : Nat => (x : Int)
theorem mod_iff {n : Int} (a b : Int) : n ∣ a - b ↔ a % n = b % n := ⟨fun h => Int.emod_eq_emod_iff_emod_sub_eq_zero.mpr (Int.emod_eq_zero_of_dvd h), fun h => Int.dvd_of_emod_eq_zero (Int.emod_eq_emod_iff_emod_sub_eq_zero.mp h)⟩
theorem gaps_nil {n : Nat} {p q : List Int} : gapsL n p q n = [] ↔ ∀ x < n, (n : Int) ∣ pval p ((x : Nat) : Int) - pval q (x : Int) := by
  unfold gapsL
  rw [List.map_eq_nil_iff, List.filter_eq_nil_iff]
  constructor
  · intro h x hx
    have := h x (List.mem_range.mpr hx)
    rw [mod_iff]
    simpa using this
  · intro h x hx
    have := h x (List.mem_range.mp hx)
    rw [mod_iff] at this
    simpa using this
theorem gaps_snoc (n : Nat) (p q : List Int) (m : Nat) : gapsL n p q (m + 1) = gapsL n p q m ++ (if ¬ pval p (m : Int) % (n : Int) = pval q (m : Int) % (n : Int) then [(m : Int)] else []) := by
  unfold gapsL
  rw [List.range_succ, List.filter_append, List.map_append]
  congr 1
  by_cases c : pval p (m : Int) % (n : Int) = pval q (m : Int) % (n : Int)
  · rw [if_neg (by simpa using c)]
    simp [c]
  · rw [if_pos c]
    simp [c]
theorem gaps_len (n : Nat) (p q : List Int) (m : Nat) : (gapsL n p q m).length ≤ m := by
  unfold gapsL
  rw [List.length_map]
  exact Nat.le_trans (List.length_filter_le _ _) (by rw [List.length_range]; exact Nat.le_refl _)
theorem gaps_first {n : Nat} {p q : List Int} {x : Nat} (h : ∀ y < x, (n : Int) ∣ pval p ((y : Nat) : Int) - pval q (y : Int)) (hx : ¬ (n : Int) ∣ pval p (x : Int) - pval q (x : Int)) : ∀ d, ∃ t, gapsL n p q (x + 1 + d) = (x : Int) :: t
  | 0 => by
    have h0 : gapsL n p q x = [] := by
      unfold gapsL
      rw [List.map_eq_nil_iff, List.filter_eq_nil_iff]
      intro y hy
      have := h y (List.mem_range.mp hy)
      rw [mod_iff] at this
      simpa using this
    refine ⟨[], ?_⟩
    rw [Nat.add_zero, gaps_snoc, h0, if_pos (fun c => hx ((mod_iff _ _).mpr c))]
    rfl
  | d + 1 => by
    obtain ⟨t, ht⟩ := gaps_first h hx d
    rw [← Nat.add_assoc, gaps_snoc, ht]
    exact ⟨_, rfl⟩
/-- a least form leaves the rests of its sum, at all numbers from 0 on -/
theorem form_dvd {n : Nat} {p t h : List Int} (ht : ∀ x : Int, nval t 0 x = pval p x) (lt : h.length = t.length) (hh : ∀ k < t.length, h.getD k 0 = t.getD k 0 % (sz n k : Int)) (x : Nat) : (n : Int) ∣ nval h 0 (x : Int) - pval p (x : Int) := by
  rw [← ht, nval_nwl h x t.length (by omega), nval_nwl t x t.length (Nat.le_refl _), ← nw_sub]
  refine nw_dvd fun k hk => ?_
  rw [hh k hk, ← Int.sub_mul]
  obtain ⟨z, hz⟩ := sub_mod (sz n k : Int) (t.getD k 0)
  rw [hz, Int.mul_assoc, Int.mul_left_comm]
  exact Int.dvd_mul_of_dvd_right (sz_fac n k)
/-- two lists alike but for 0s at the end have the same values as steps -/
theorem nval_alike {a b : List Int} (h : ∀ k, a.getD k 0 = b.getD k 0) (x : Nat) : nval a 0 (x : Int) = nval b 0 (x : Int) := by
  rw [nval_nwl a x (max a.length b.length) (by omega), nval_nwl b x (max a.length b.length) (by omega)]
  have e : (fun k => a.getD k 0 * (fac k : Int)) = fun k => b.getD k 0 * (fac k : Int) := by
    funext k
    rw [h k]
  rw [e]
/-- the same values, the same coefficients but for 0s at the end -/
theorem alike {a b : List Int} (h : ∀ x, pval a x = pval b x) : ∀ k, a.getD k 0 = b.getD k 0 :=
  psub_all a b (pval_none fun x _ => by rw [pval_sub, h x, Int.sub_self])
end Vf

namespace Vf
/-! ## a sum that turns the rests is led back by a sum -/
theorem pmulE : ∀ (a b : List Int), ∃ r : List Int, ∀ x, pval r x = pval a x * pval b x
  | [], b => ⟨[], fun x => by simp [pval]⟩
  | c :: a, b => by
    obtain ⟨r, hr⟩ := pmulE a b
    refine ⟨psub (0 :: r) (b.map fun d => -(c * d)), fun x => ?_⟩
    have e : ∀ b : List Int, pval (b.map fun d => -(c * d)) x = -(c * pval b x) := by
      intro b
      induction b with
      | nil => simp [pval]
      | cons d b ih => rw [List.map_cons, pval, ih, pval]; grind
    rw [pval_sub, e, pval, hr, pval]
    grind
theorem pcompE : ∀ (a b : List Int), ∃ r : List Int, ∀ x, pval r x = pval a (pval b x)
  | [], b => ⟨[], fun x => by simp [pval]⟩
  | c :: a, b => by
    obtain ⟨r, hr⟩ := pcompE a b
    obtain ⟨s, hs⟩ := pmulE b r
    refine ⟨psub s [-c], fun x => ?_⟩
    rw [pval_sub, hs, hr]
    simp only [pval]
    grind
def iter (F : Int → Int) : Nat → Int → Int
  | 0, x => x
  | k + 1, x => F (iter F k x)
theorem iter_add (F : Int → Int) (a : Nat) (x : Int) : ∀ b, iter F (b + a) x = iter F b (iter F a x)
  | 0 => by rw [Nat.zero_add]; rfl
  | b + 1 => by
    rw [show b + 1 + a = (b + a) + 1 by omega, iter, iter_add F a x b]
    rfl
theorem iter_poly (p : List Int) : ∀ k, ∃ r : List Int, ∀ x, pval r x = iter (pval p) k x
  | 0 => ⟨[0, 1], fun x => by simp [pval, iter]⟩
  | k + 1 => by
    obtain ⟨r, hr⟩ := iter_poly p k
    obtain ⟨s, hs⟩ := pcompE p r
    exact ⟨s, fun x => by rw [hs, hr]; rfl⟩
theorem iter_cong {F : Int → Int} {n : Int} (hF : ∀ x y, n ∣ x - y → n ∣ F x - F y) : ∀ (k : Nat) (x y : Int), n ∣ x - y → n ∣ iter F k x - iter F k y
  | 0, _, _, h => h
  | k + 1, x, y, h => hF _ _ (iter_cong hF k x y h)
theorem iter_back {F : Int → Int} {n : Nat} (hI : Inj F n) : ∀ (k : Nat) (x y : Int), (n : Int) ∣ iter F k x - iter F k y → (n : Int) ∣ x - y
  | 0, _, _, h => h
  | k + 1, x, y, h => iter_back hI k x y (hI _ _ h)
theorem iter_self {F : Int → Int} {n : Nat} (n0 : 0 < n) (hF : ∀ x y, (n : Int) ∣ x - y → (n : Int) ∣ F x - F y) (hI : Inj F n) (x : Int) : ∃ d, 1 ≤ d ∧ d ≤ n ∧ (n : Int) ∣ iter F d x - x := by
  refine Classical.byContradiction fun hno => ?_
  refine noinj n (fun k => rs n (iter F k x)) (fun k _ => rs_lt n0 _) fun a ha b hb e => ?_
  have key : ∀ a b : Nat, a < b → b < n + 1 → rs n (iter F a x) = rs n (iter F b x) → False := fun a b hab hb e => by
    refine hno ⟨b - a, by omega, by omega, ?_⟩
    have h1 := (rs_dvd n0 _ _).mpr e
    rw [show b = a + (b - a) by omega, iter_add F (b - a) x a] at h1
    exact dvd_sy (iter_back hI a _ _ h1)
  rcases Nat.lt_trichotomy a b with h | h | h
  · exact (key a b h hb e).elim
  · exact h
  · exact (key b a h ha e.symm).elim
theorem iter_mul {F : Int → Int} {n : Int} (hF : ∀ x y, n ∣ x - y → n ∣ F x - F y) {d : Nat} {x : Int} (h : n ∣ iter F d x - x) : ∀ m, n ∣ iter F (d * m) x - x
  | 0 => by rw [Nat.mul_zero]; exact ⟨0, by show x - x = _; omega⟩
  | m + 1 => by
    rw [Nat.mul_succ, iter_add F d x (d * m)]
    exact dvd_tr (iter_cong hF (d * m) _ _ h) (iter_mul hF h m)
theorem dvd_facN {d n : Nat} (h1 : 1 ≤ d) (h : d ≤ n) : d ∣ fac n := Nat.dvd_trans (dvd_fac (show 0 < d by omega)) (fac_dvd h)
/-- what leads back: a sum -/
def Backs (p q : List Int) (n : Nat) : Prop := (∀ x : Int, (n : Int) ∣ pval q (pval p x) - x) ∧ ∀ x : Int, (n : Int) ∣ pval p (pval q x) - x
theorem backs_ex {p : List Int} {n : Nat} (n0 : 0 < n) (hI : Inj (pval p) n) : ∃ q, Backs p q n := by
  have hF : ∀ x y, (n : Int) ∣ x - y → (n : Int) ∣ pval p x - pval p y := fun x y => pval_mod _ p x y
  have all : ∀ x : Int, (n : Int) ∣ iter (pval p) (fac n) x - x := fun x => by
    obtain ⟨d, h1, h2, h3⟩ := iter_self n0 hF hI x
    obtain ⟨m, hm⟩ := dvd_facN h1 h2
    rw [hm]
    exact iter_mul hF h3 m
  obtain ⟨q, hq⟩ := iter_poly p (fac n - 1)
  have f1 := fac_pos n
  refine ⟨q, fun x => ?_, fun x => ?_⟩
  · have h := all x
    rw [show fac n = (fac n - 1) + 1 by omega, iter_add (pval p) 1 x (fac n - 1)] at h
    rw [hq]
    exact h
  · have h := all x
    rw [show fac n = (fac n - 1) + 1 by omega] at h
    rw [hq]
    exact h
theorem Backs.inj {p q : List Int} {n : Nat} (h : Backs p q n) : Inj (pval p) n := fun x y hxy => by
  have h1 := pval_mod _ q _ _ hxy
  exact dvd_tr (dvd_tr (dvd_sy (h.1 x)) h1) (h.1 y)
theorem Backs.sym {p q : List Int} {n : Nat} (h : Backs p q n) : Backs q p n := ⟨h.2, h.1⟩
/-- the same at all rests -/
theorem Backs.of {p q w : List Int} {n : Nat} (h : Backs p q n) (e : ∀ x : Int, (n : Int) ∣ pval w x - pval q x) : Backs p w n :=
  ⟨fun x => dvd_tr (e _) (h.1 x), fun x => dvd_tr (pval_mod _ p _ _ (e x)) (h.2 x)⟩
/-- at the rests, so at all numbers -/
theorem mod_all {w q : List Int} {n : Nat} (n0 : 0 < n) (e : ∀ x < n, (n : Int) ∣ pval w ((x : Nat) : Int) - pval q (x : Int)) (x : Int) : (n : Int) ∣ pval w x - pval q x := by
  have h1 := pval_mod _ w _ _ (rs_self n0 x)
  have h2 := pval_mod _ q _ _ (rs_self n0 x)
  exact dvd_tr h1 (dvd_tr (e (rs n x) (rs_lt n0 x)) (dvd_sy h2))
theorem Backs.same {p q q' : List Int} {n : Nat} (h : Backs p q n) (h' : Backs p q' n) (x : Int) : (n : Int) ∣ pval q x - pval q' x := by
  have h1 := pval_mod _ q _ _ (h'.2 x)
  have h2 := h.1 (pval q' x)
  exact dvd_tr (dvd_sy h1) h2
theorem tab_same {a b : List Int} {n : Nat} (h : ∀ x : Int, (n : Int) ∣ pval a x - pval b x) : tabOf a n = tabOf b n := by
  unfold tabOf
  exact List.map_congr_left fun x _ => (mod_iff _ _).mp (h x)
/-- where a rest comes from -/
theorem Backs.from {p q : List Int} {n : Nat} (n0 : 0 < n) (h : Backs p q n) {x r : Nat} (hx : x < n) (hr : r < n) : (tabOf p n).getD x 0 = (r : Int) ↔ (tabOf q n).getD r 0 = (x : Int) := by
  rw [tabOf_at p hx, tabOf_at q hr]
  have ex : (x : Int) % (n : Int) = x := Int.emod_eq_of_lt (by omega) (by omega)
  have er : (r : Int) % (n : Int) = r := Int.emod_eq_of_lt (by omega) (by omega)
  constructor
  · intro e
    rw [← er] at e
    have h1 := pval_mod _ q _ _ ((mod_iff _ _).mpr e)
    have h2 := dvd_tr (dvd_sy h1) (h.1 x)
    rw [← ex]
    exact (mod_iff _ _).mp h2
  · intro e
    rw [← ex] at e
    have h1 := pval_mod _ p _ _ ((mod_iff _ _).mpr e)
    have h2 := dvd_tr (dvd_sy h1) (h.2 r)
    rw [← er]
    exact (mod_iff _ _).mp h2
end Vf

namespace Vf
/-! ## powers by a base -/
theorem cg_mul {n a b c d : Int} (h1 : a % n = b % n) (h2 : c % n = d % n) : (a * c) % n = (b * d) % n := by
  rw [Int.mul_emod, h1, h2, ← Int.mul_emod]
theorem cg_pow {n a b : Int} (h : a % n = b % n) : ∀ k : Nat, a ^ k % n = b ^ k % n
  | 0 => by rw [Int.pow_zero, Int.pow_zero]
  | k + 1 => by
    rw [Int.pow_succ, Int.pow_succ]
    exact cg_mul (cg_pow h k) h
theorem cg_mod (n a : Int) : (a % n) % n = a % n := Int.emod_emod ..
theorem sq_pow (f : Int) (k : Nat) : (f * f) ^ k = f ^ (2 * k) := by
  rw [Int.pow_mul, show f * f = f ^ 2 by rw [Int.pow_succ, Int.pow_succ, Int.pow_zero, Int.one_mul]]
/-- the turn of raising by squares -/
theorem raise_odd {n p f : Int} {l : Nat} (h : l % 2 = 1) : ((p * f % n) * (f * f % n) ^ (l / 2)) % n = (p * f ^ l) % n := by
  have e : p * f ^ l = (p * f) * (f * f) ^ (l / 2) := by
    have z : l = 2 * (l / 2) + 1 := by omega
    rw [sq_pow]
    conv => lhs; rw [z]
    rw [Int.pow_succ, Int.mul_comm (f ^ (2 * (l / 2))), ← Int.mul_assoc]
  rw [e]
  exact cg_mul (cg_mod _ _) (cg_pow (cg_mod _ _) _)
theorem raise_even {n p f : Int} {l : Nat} (h : l % 2 = 0) : (p * (f * f % n) ^ (l / 2)) % n = (p * f ^ l) % n := by
  have e : p * f ^ l = p * (f * f) ^ (l / 2) := by
    have z : l = 2 * (l / 2) := by omega
    rw [sq_pow]
    conv => lhs; rw [z]
  rw [e]
  exact cg_mul rfl (cg_pow (cg_mod _ _) _)
/-- what turns a number round is one rest -/
theorem inv_one {n x u v : Int} (hu : (u * x) % n = 1 % n) (hv : (v * x) % n = 1 % n) : u % n = v % n := by
  have h1 : (u * (v * x)) % n = (u * 1) % n := cg_mul rfl hv
  have h2 : (v * (u * x)) % n = (v * 1) % n := cg_mul rfl hu
  rw [Int.mul_one] at h1 h2
  rw [← h1, ← h2, Int.mul_left_comm]
theorem inv_pow {n x u : Int} (hu : (u * x) % n = 1 % n) (k : Nat) : (u ^ k * x ^ k) % n = 1 % n := by
  rw [← Int.mul_pow]
  have h := cg_pow hu k
  rw [Int.one_pow] at h
  exact h
/-- open numbers: what turns round one of them tells that it is open -/
theorem open_of {n : Nat} {x u : Int} (hu : (u * x) % (n : Int) = 1 % (n : Int)) : Nat.gcd x.natAbs n = 1 := by
  have d1 : ((Nat.gcd x.natAbs n : Nat) : Int) ∣ x := Int.ofNat_dvd_left.mpr (Nat.gcd_dvd_left _ _)
  have d2 : ((Nat.gcd x.natAbs n : Nat) : Int) ∣ (n : Int) := Int.natCast_dvd_natCast.mpr (Nat.gcd_dvd_right _ _)
  have d3 : (n : Int) ∣ u * x - 1 := Int.dvd_of_emod_eq_zero (Int.emod_eq_emod_iff_emod_sub_eq_zero.mp hu)
  have d4 : ((Nat.gcd x.natAbs n : Nat) : Int) ∣ 1 := by
    have h := Int.dvd_sub (Int.dvd_trans d1 (Int.dvd_mul_left u x)) (Int.dvd_trans d2 d3)
    rw [show u * x - (u * x - 1) = 1 by omega] at h
    exact h
  have := Int.natCast_dvd_natCast.mp (show ((Nat.gcd x.natAbs n : Nat) : Int) ∣ ((1 : Nat) : Int) from d4)
  exact Nat.dvd_one.mp this
end Vf

namespace Vf
/-! ## powers by a base: Fermat, Euler, orders -/
theorem binom (a : Int) : ∀ (x m : Nat) (c : Int), x < m → nw (fun k => c * a ^ k) m x = c * (1 + a) ^ x
  | 0, m, c, h => by
    rw [nw_zero _ m h]
    show c * a ^ 0 = _
    rw [Int.pow_zero, Int.pow_zero]
  | x + 1, m + 1, c, h => by
    rw [nw_step, binom a x (m + 1) c (by omega)]
    rw [show (fun k : Nat => c * a ^ (k + 1)) = fun k => (c * a) * a ^ k by funext k; rw [Int.pow_succ]; grind]
    rw [binom a x m (c * a) (by omega), Int.pow_succ]
    grind
theorem pr_fac {p : Nat} (hp : Pr p) : ∀ k, k < p → ¬ (p : Int) ∣ (fac k : Int)
  | 0, _ => fun h => by
    have h1 := Int.le_of_dvd (by decide) h
    have h2 := hp.1
    rw [show fac 0 = 1 from rfl] at h1
    omega
  | k + 1, hk => fun h => by
    have e : ((fac (k + 1) : Nat) : Int) = ((k + 1 : Nat) : Int) * (fac k : Int) := by
      show (((k + 1) * fac k : Nat) : Int) = _
      push_cast
      rfl
    rw [e] at h
    rcases hp.euclid h with c | c
    · have := Int.le_of_dvd (by omega) c
      omega
    · exact pr_fac hp k (by omega) c
theorem ff_dvd (p : Nat) : ∀ k, (p : Int) ∣ ffj 0 (k + 1) (p : Int)
  | 0 => ⟨1, by simp [ffj]⟩
  | k + 1 => by
    rw [ffj_last]
    exact Int.dvd_trans (ff_dvd p k) (Int.dvd_mul_right ..)
theorem bin_dvd {p : Nat} (hp : Pr p) {k : Nat} (h0 : 0 < k) (h1 : k < p) : (p : Int) ∣ (bin p k : Int) := by
  obtain ⟨j, rfl⟩ : ∃ j, k = j + 1 := ⟨k - 1, by omega⟩
  have h := ff_dvd p j
  rw [ff_bin] at h
  rcases hp.euclid h with c | c
  · exact absurd c (pr_fac hp _ h1)
  · exact c
theorem nw_mid {p : Nat} (hp : Pr p) (G : Nat → Int) : ∀ m, m < p → (p : Int) ∣ nw G (m + 1) p - G 0
  | 0, _ => by
    simp only [nw, bin_zero]
    exact ⟨0, by simp⟩
  | m + 1, h => by
    rw [nw]
    have h1 := nw_mid hp G m (by omega)
    have h2 : (p : Int) ∣ G (m + 1) * (bin p (m + 1) : Int) := Int.dvd_trans (bin_dvd hp (by omega) h) (Int.dvd_mul_left ..)
    have := Int.dvd_add h1 h2
    rwa [show nw G (m + 1) p - G 0 + G (m + 1) * (bin p (m + 1) : Int) = nw G (m + 1) p + G (m + 1) * (bin p (m + 1) : Int) - G 0 by omega] at this
theorem dream {p : Nat} (hp : Pr p) (a : Int) : (p : Int) ∣ (1 + a) ^ p - (1 + a ^ p) := by
  have h := binom a p (p + 1) 1 (by omega)
  obtain ⟨q, rfl⟩ : ∃ q, p = q + 1 := ⟨p - 1, by have := hp.1; omega⟩
  rw [nw] at h
  have h1 := nw_mid hp (fun k => 1 * a ^ k) q (by omega)
  rw [bin_self] at h
  have e : (1 + a) ^ (q + 1) - (1 + a ^ (q + 1)) = nw (fun k => 1 * a ^ k) (q + 1) (q + 1) - 1 * a ^ 0 := by
    simp at h ⊢
    omega
  rw [e]
  exact h1
theorem fermat_nat {p : Nat} (hp : Pr p) : ∀ a : Nat, (p : Int) ∣ (a : Int) ^ p - a
  | 0 => by
    obtain ⟨q, rfl⟩ : ∃ q, p = q + 1 := ⟨p - 1, by have := hp.1; omega⟩
    exact ⟨0, by simp [Int.pow_succ]⟩
  | a + 1 => by
    have h := Int.dvd_add (dream hp (a : Int)) (fermat_nat hp a)
    rwa [show (1 + (a : Int)) ^ p - (1 + (a : Int) ^ p) + ((a : Int) ^ p - a) = ((a + 1 : Nat) : Int) ^ p - ((a + 1 : Nat) : Int) by
      rw [show ((a + 1 : Nat) : Int) = 1 + (a : Int) by omega]
      omega] at h
/-- one by n -/
def One (n : Nat) (y : Int) : Prop := (n : Int) ∣ y - 1
theorem One.mul {n : Nat} {y z : Int} (h1 : One n y) (h2 : One n z) : One n (y * z) := by
  have h := Int.dvd_add (Int.dvd_trans h1 (Int.dvd_mul_right (y - 1) z)) h2
  rwa [show (y - 1) * z + (z - 1) = y * z - 1 by grind] at h
theorem One.pow {n : Nat} {y : Int} (h : One n y) : ∀ k : Nat, One n (y ^ k)
  | 0 => ⟨0, by simp⟩
  | k + 1 => by
    rw [Int.pow_succ]
    exact (One.pow h k).mul h
theorem One.of_mod {n : Nat} {y : Int} : One n y ↔ y % (n : Int) = 1 % (n : Int) :=
  ⟨fun h => Int.emod_eq_emod_iff_emod_sub_eq_zero.mpr (Int.emod_eq_zero_of_dvd h), fun h => Int.dvd_of_emod_eq_zero (Int.emod_eq_emod_iff_emod_sub_eq_zero.mp h)⟩
theorem fermat {p : Nat} (hp : Pr p) {x : Int} (hx : ¬ (p : Int) ∣ x) : One p (x ^ (p - 1)) := by
  have p0 : (0 : Int) < p := by have := hp.1; omega
  have hm : ∀ k : Nat, (p : Int) ∣ x ^ k - (x % p) ^ k := fun k => Int.dvd_of_emod_eq_zero (Int.emod_eq_emod_iff_emod_sub_eq_zero.mp (cg_pow (Int.emod_emod_of_dvd x (Int.dvd_refl _)).symm k))
  obtain ⟨a, ha⟩ := Int.eq_ofNat_of_zero_le (Int.emod_nonneg x (show (p : Int) ≠ 0 by omega))
  have h1 := fermat_nat hp a
  have e : ((a : Int)) ^ p - a = (a : Int) * ((a : Int) ^ (p - 1) - 1) := by
    obtain ⟨q, rfl⟩ : ∃ q, p = q + 1 := ⟨p - 1, by have := hp.1; omega⟩
    rw [Nat.add_sub_cancel, Int.pow_succ]
    grind
  rw [e] at h1
  rcases hp.euclid h1 with c | c
  · refine absurd ?_ hx
    have := Int.emod_emod_of_dvd x (Int.dvd_refl (p : Int))
    rw [ha] at this
    exact Int.dvd_of_emod_eq_zero (by rw [ha]; exact (Int.emod_eq_zero_of_dvd c) ▸ this.symm)
  · have h2 := hm (p - 1)
    rw [ha] at h2
    have := Int.dvd_add h2 c
    show (p : Int) ∣ _
    rwa [show x ^ (p - 1) - (a : Int) ^ (p - 1) + ((a : Int) ^ (p - 1) - 1) = x ^ (p - 1) - 1 by omega] at this
/-! one more of the prime -/
def gs (y : Int) : Nat → Int
  | 0 => 0
  | m + 1 => gs y m + y ^ m
theorem gs_mul (y : Int) : ∀ m, (y - 1) * gs y m = y ^ m - 1
  | 0 => by simp [gs]
  | m + 1 => by
    rw [gs, Int.mul_add, gs_mul y m, Int.pow_succ]
    grind
theorem gs_mod {n : Nat} {y : Int} (h : One n y) : ∀ m : Nat, (n : Int) ∣ gs y m - m
  | 0 => ⟨0, by simp [gs]⟩
  | m + 1 => by
    have := Int.dvd_add (gs_mod h m) (h.pow m)
    rw [gs]
    rwa [show gs y m - (m : Int) + (y ^ m - 1) = gs y m + y ^ m - ((m + 1 : Nat) : Int) by omega] at this
theorem one_up {p e : Nat} (he : 1 ≤ e) {y : Int} (h : One (p ^ e) y) : One (p ^ (e + 1)) (y ^ p) := by
  have hp : One p y := Int.dvd_trans (Int.ofNat_dvd.mpr (by obtain ⟨k, rfl⟩ : ∃ k, e = k + 1 := ⟨e - 1, by omega⟩
                                                            rw [Nat.pow_succ]
                                                            exact Nat.dvd_mul_left ..)) h
  have h1 := gs_mod hp p
  have h2 : (p : Int) ∣ gs y p := by
    have := Int.dvd_add h1 (Int.dvd_refl (p : Int))
    rwa [show gs y p - (p : Int) + p = gs y p by omega] at this
  show (((p ^ (e + 1) : Nat)) : Int) ∣ _
  rw [← gs_mul, Nat.pow_succ]
  push_cast
  have h3 : (((p ^ e : Nat)) : Int) ∣ y - 1 := h
  push_cast at h3
  exact Int.mul_dvd_mul h3 h2
theorem euler {p : Nat} (hp : Pr p) {x : Int} (hx : ¬ (p : Int) ∣ x) : ∀ e : Nat, One (p ^ (e + 1)) (x ^ ((p - 1) * p ^ e))
  | 0 => by
    rw [Nat.pow_zero, Nat.mul_one, Nat.zero_add, Nat.pow_one]
    exact fermat hp hx
  | e + 1 => by
    have := one_up (p := p) (e := e + 1) (by omega) (euler hp hx e)
    rwa [← Int.pow_mul, Nat.mul_assoc, ← Nat.pow_succ] at this
theorem euler_two {x : Int} (hx : ¬ (2 : Int) ∣ x) : ∀ e : Nat, One (2 ^ (e + 3)) (x ^ (2 ^ (e + 1)))
  | 0 => by
    show ((2 ^ 3 : Nat) : Int) ∣ x ^ 2 - 1
    have : x % 8 = 1 ∨ x % 8 = 3 ∨ x % 8 = 5 ∨ x % 8 = 7 := by omega
    have e : x = 8 * (x / 8) + x % 8 := (Int.mul_ediv_add_emod x 8).symm
    generalize x / 8 = k at e
    rcases this with c | c | c | c <;> rw [c] at e <;> rw [e]
    · exact ⟨8 * k * k + 2 * k, by grind⟩
    · exact ⟨8 * k * k + 6 * k + 1, by grind⟩
    · exact ⟨8 * k * k + 10 * k + 3, by grind⟩
    · exact ⟨8 * k * k + 14 * k + 6, by grind⟩
  | e + 1 => by
    have := one_up (p := 2) (e := e + 3) (by omega) (euler_two hx e)
    rwa [← Int.pow_mul, ← Nat.pow_succ] at this
/-! ### primes -/
theorem has_prime : ∀ (n : Nat), 2 ≤ n → ∃ p, Pr p ∧ p ∣ n := by
  intro n
  induction n using Nat.strongRecOn with
  | _ n ih =>
    intro hn
    by_cases h : ∃ k, k ∣ n ∧ k ≠ 1 ∧ k ≠ n
    · obtain ⟨k, hk, k1, kn⟩ := h
      have k0 : 0 < k := Nat.pos_of_dvd_of_pos hk (by omega)
      have kl : k ≤ n := Nat.le_of_dvd (by omega) hk
      obtain ⟨p, hp, hd⟩ := ih k (by omega) (by omega)
      exact ⟨p, hp, Nat.dvd_trans hd hk⟩
    · refine ⟨n, ⟨hn, fun k hk => ?_⟩, Nat.dvd_refl n⟩
      rcases Classical.em (k = 1) with c | c
      · exact .inl c
      · rcases Classical.em (k = n) with c2 | c2
        · exact .inr c2
        · exact absurd ⟨k, hk, c, c2⟩ h
theorem made_prime {p : Nat} (hp : Pr p) : ∀ (ps : List (Nat × Nat)), (∀ a ∈ ps, Pr a.1 ∧ 1 ≤ a.2) → p ∣ made ps → ∃ a ∈ ps, a.1 = p
  | [], _, h => by
    have := Nat.le_of_dvd Nat.one_pos h
    have := hp.1
    omega
  | a :: r, ha, h => by
    by_cases c : a.1 = p
    · exact ⟨a, List.mem_cons_self, c⟩
    · have h1 : Nat.Coprime p (a.1 ^ a.2) := Nat.Coprime.pow_right a.2 (cop_primes hp (ha a List.mem_cons_self).1 fun e => c e.symm)
      obtain ⟨b, hb, e⟩ := made_prime hp r (fun b hb => ha b (List.mem_cons_of_mem _ hb)) (Nat.Coprime.dvd_of_dvd_mul_left h1 h)
      exact ⟨b, List.mem_cons_of_mem _ hb, e⟩
theorem head_not {a b : Nat × Nat} {r t : List (Nat × Nat)} (h : made (a :: r) = made (b :: t)) (ha : ∀ c ∈ a :: r, Pr c.1 ∧ 1 ≤ c.2) (hb : ∀ c ∈ b :: t, Pr c.1 ∧ 1 ≤ c.2) (s : (b :: t).Pairwise fun u v => u.1 < v.1) : ¬ a.1 < b.1 := fun c => by
  have pa := ha a List.mem_cons_self
  have h2 : a.1 ∣ made (a :: r) := by
    obtain ⟨k, hk⟩ : ∃ k, a.2 = k + 1 := ⟨a.2 - 1, by omega⟩
    show a.1 ∣ a.1 ^ a.2 * made r
    rw [hk, Nat.pow_succ, Nat.mul_assoc]
    exact Nat.dvd_trans (Nat.dvd_mul_right _ _) (Nat.dvd_mul_left _ _)
  rw [h] at h2
  obtain ⟨d, hd, e⟩ := made_prime pa.1 _ hb h2
  rcases List.mem_cons.mp hd with rfl | hd
  · omega
  · have := (List.pairwise_cons.mp s).1 d hd
    omega
theorem pow_not {p e f A B : Nat} (hp : 2 ≤ p) (hA : Nat.Coprime p A) (h : p ^ e * A = p ^ f * B) : ¬ e < f := fun c => by
  obtain ⟨d, rfl⟩ : ∃ d, f = e + (d + 1) := ⟨f - e - 1, by omega⟩
  rw [Nat.pow_add, Nat.mul_assoc] at h
  have h1 := Nat.eq_of_mul_eq_mul_left (Nat.pow_pos (by omega)) h
  have h2 : p ∣ A := by
    rw [h1, Nat.pow_succ, Nat.mul_comm (p ^ d) p, Nat.mul_assoc]
    exact Nat.dvd_mul_right _ _
  have h3 : p ∣ Nat.gcd p A := Nat.dvd_gcd (Nat.dvd_refl p) h2
  rw [hA] at h3
  have := Nat.le_of_dvd Nat.one_pos h3
  omega
theorem made_two {a : Nat × Nat} {r : List (Nat × Nat)} (h : ∀ c ∈ a :: r, Pr c.1 ∧ 1 ≤ c.2) : 2 ≤ made (a :: r) := by
  have pa := h a List.mem_cons_self
  have h1 := made_pos r fun b hb => h b (List.mem_cons_of_mem _ hb)
  have h2 : a.1 ≤ a.1 ^ a.2 := Nat.le_self_pow (by have := pa.2; omega) a.1
  have h3 := Nat.mul_le_mul h2 h1
  have := pa.1.1
  show 2 ≤ a.1 ^ a.2 * made r
  rw [Nat.mul_one] at h3
  omega
theorem uniq_made : ∀ (ps qs : List (Nat × Nat)), (∀ a ∈ ps, Pr a.1 ∧ 1 ≤ a.2) → (∀ a ∈ qs, Pr a.1 ∧ 1 ≤ a.2) → ps.Pairwise (fun a b => a.1 < b.1) → qs.Pairwise (fun a b => a.1 < b.1) → made ps = made qs → ps = qs
  | [], [], _, _, _, _, _ => rfl
  | [], b :: t, _, hb, _, _, h => by
    have := made_two hb
    rw [← h] at this
    exact absurd this (by decide)
  | a :: r, [], ha, _, _, _, h => by
    have := made_two ha
    rw [h] at this
    exact absurd this (by decide)
  | a :: r, b :: t, ha, hb, sa, sb, h => by
    have n1 := head_not h ha hb sb
    have n2 := head_not h.symm hb ha sa
    have e1 : a.1 = b.1 := by omega
    have pa := ha a List.mem_cons_self
    have hr : ∀ c ∈ r, Pr c.1 ∧ 1 ≤ c.2 := fun c hc => ha c (List.mem_cons_of_mem _ hc)
    have ht : ∀ c ∈ t, Pr c.1 ∧ 1 ≤ c.2 := fun c hc => hb c (List.mem_cons_of_mem _ hc)
    have c1 : Nat.Coprime a.1 (made r) := cop_made pa.1 r fun c hc => ⟨(hr c hc).1, (List.pairwise_cons.mp sa).1 c hc⟩
    have c2 : Nat.Coprime a.1 (made t) := by
      rw [e1]
      exact cop_made (hb b List.mem_cons_self).1 t fun c hc => ⟨(ht c hc).1, (List.pairwise_cons.mp sb).1 c hc⟩
    have h' : a.1 ^ a.2 * made r = a.1 ^ b.2 * made t := by
      have : a.1 ^ a.2 * made r = b.1 ^ b.2 * made t := h
      rwa [← e1] at this
    have m1 := pow_not pa.1.1 c1 h'
    have m2 := pow_not pa.1.1 c2 h'.symm
    have e2 : a.2 = b.2 := by omega
    rw [e2] at h'
    have h3 := Nat.eq_of_mul_eq_mul_left (Nat.pow_pos (by have := pa.1.1; omega)) h'
    rw [uniq_made r t hr ht (List.pairwise_cons.mp sa).2 (List.pairwise_cons.mp sb).2 h3, Prod.ext e1 e2]
theorem Apart.uniq {ps qs : List (Nat × Nat)} {n : Nat} (h1 : Apart ps n) (h2 : Apart qs n) : ps = qs := uniq_made ps qs h1.p h2.p h1.s h2.s (h1.m.trans h2.m.symm)
/-! ### a length for all numbers that are open -/
theorem One.of_dvd {n k m : Nat} {x : Int} (h : One n (x ^ k)) (hd : k ∣ m) : One n (x ^ m) := by
  obtain ⟨j, rfl⟩ := hd
  rw [Int.pow_mul]
  exact h.pow j
theorem One.both {a b : Nat} {y : Int} (hc : Nat.Coprime a b) (h1 : One a y) (h2 : One b y) : One (a * b) y := by
  have g1 := Int.ofNat_dvd_left.mp h1
  have g2 := Int.ofNat_dvd_left.mp h2
  exact Int.ofNat_dvd_left.mpr (Nat.Coprime.mul_dvd_of_dvd_of_dvd hc g1 g2)
/-- the cycles of a power of a prime -/
def cyc (a : Nat × Nat) : List Nat := if a.1 = 2 ∧ 2 < a.2 then [2, 2 ^ (a.2 - 2)] else [(a.1 - 1) * a.1 ^ (a.2 - 1)]
theorem cyc_one {a : Nat × Nat} (hp : Pr a.1) (he : 1 ≤ a.2) {x : Int} (hx : ¬ (a.1 : Int) ∣ x) {L : Nat} (h : ∀ m ∈ cyc a, m ∣ L) : One (a.1 ^ a.2) (x ^ L) := by
  obtain ⟨p, e⟩ := a
  unfold cyc at h
  dsimp only at *
  split at h
  · rename_i c
    obtain ⟨rfl, c2⟩ := c
    obtain ⟨d, rfl⟩ : ∃ d, e = d + 3 := ⟨e - 3, by omega⟩
    exact (euler_two hx d).of_dvd (h _ (by simp [show d + 3 - 2 = d + 1 by omega]))
  · obtain ⟨d, rfl⟩ : ∃ d, e = d + 1 := ⟨e - 1, by omega⟩
    exact (euler hp hx d).of_dvd (h _ (by simp))
theorem made_one {x : Int} {L : Nat} : ∀ (ps : List (Nat × Nat)), (∀ a ∈ ps, Pr a.1 ∧ 1 ≤ a.2) → ps.Pairwise (fun a b => a.1 < b.1) → (∀ a ∈ ps, ¬ (a.1 : Int) ∣ x) → (∀ a ∈ ps, ∀ m ∈ cyc a, m ∣ L) → One (made ps) (x ^ L)
  | [], _, _, _, _ => ⟨x ^ L - 1, by simp [made]⟩
  | a :: r, hp, hs, hx, hL => by
    have hr : ∀ b ∈ r, Pr b.1 ∧ 1 ≤ b.2 := fun b hb => hp b (List.mem_cons_of_mem _ hb)
    have pa := hp a List.mem_cons_self
    refine One.both (Nat.Coprime.pow_left _ (cop_made pa.1 r fun b hb => ⟨(hr b hb).1, (List.pairwise_cons.mp hs).1 b hb⟩)) ?_ ?_
    · exact cyc_one pa.1 pa.2 (hx a List.mem_cons_self) (hL a List.mem_cons_self)
    · exact made_one r hr (List.pairwise_cons.mp hs).2 (fun b hb => hx b (List.mem_cons_of_mem _ hb)) fun b hb => hL b (List.mem_cons_of_mem _ hb)
theorem open_not {n : Nat} {x : Int} (hg : Nat.gcd x.natAbs n = 1) {p : Nat} (hp : Pr p) (hd : p ∣ n) : ¬ (p : Int) ∣ x := fun h => by
  have h1 := Nat.dvd_gcd (Int.ofNat_dvd_left.mp h) hd
  rw [hg] at h1
  have := Nat.le_of_dvd Nat.one_pos h1
  have := hp.1
  omega
theorem mem_dvd : ∀ (ps : List (Nat × Nat)) (a : Nat × Nat), a ∈ ps → 1 ≤ a.2 → a.1 ∣ made ps
  | b :: r, a, h, ha => by
    show a.1 ∣ b.1 ^ b.2 * made r
    rcases List.mem_cons.mp h with rfl | h
    · obtain ⟨k, hk⟩ : ∃ k, a.2 = k + 1 := ⟨a.2 - 1, by omega⟩
      rw [hk, Nat.pow_succ, Nat.mul_assoc]
      exact Nat.dvd_trans (Nat.dvd_mul_right _ _) (Nat.dvd_mul_left _ _)
    · exact Nat.dvd_trans (mem_dvd r a h ha) (Nat.dvd_mul_left _ _)
theorem Apart.euler {ps : List (Nat × Nat)} {n : Nat} (A : Apart ps n) {x : Int} (hg : Nat.gcd x.natAbs n = 1) {L : Nat} (hL : ∀ a ∈ ps, ∀ m ∈ cyc a, m ∣ L) : One n (x ^ L) := by
  have h := made_one (x := x) (L := L) ps A.p A.s (fun a ha => open_not hg (A.p a ha).1 (by rw [← A.m]; exact mem_dvd ps a ha (A.p a ha).2)) hL
  rwa [A.m] at h
end Vf

namespace Vf
/-! ## runs: tables of four, values, sums, how they come round -/
structure Mt where
  p : Int
  q : Int
  r : Int
  s : Int
def Mt.mul (a b : Mt) : Mt := ⟨a.p * b.p + a.q * b.r, a.p * b.q + a.q * b.s, a.r * b.p + a.s * b.r, a.r * b.q + a.s * b.s⟩
def Mt.add (a b : Mt) : Mt := ⟨a.p + b.p, a.q + b.q, a.r + b.r, a.s + b.s⟩
def Mt.one : Mt := ⟨1, 0, 0, 1⟩
def Mt.zero : Mt := ⟨0, 0, 0, 0⟩
theorem Mt.ext' {a b : Mt} (h1 : a.p = b.p) (h2 : a.q = b.q) (h3 : a.r = b.r) (h4 : a.s = b.s) : a = b := by
  cases a; cases b; simp_all
theorem Mt.assoc (a b c : Mt) : (a.mul b).mul c = a.mul (b.mul c) := by
  apply Mt.ext' <;> simp only [Mt.mul] <;> grind
theorem Mt.mul_one (a : Mt) : a.mul Mt.one = a := by
  apply Mt.ext' <;> simp [Mt.mul, Mt.one]
theorem Mt.add_mul (a b c : Mt) : (a.add b).mul c = (a.mul c).add (b.mul c) := by
  apply Mt.ext' <;> simp only [Mt.mul, Mt.add] <;> grind
theorem Mt.mul_add (a b c : Mt) : a.mul (b.add c) = (a.mul b).add (a.mul c) := by
  apply Mt.ext' <;> simp only [Mt.mul, Mt.add] <;> grind
theorem Mt.add_assoc (a b c : Mt) : (a.add b).add c = a.add (b.add c) := by
  apply Mt.ext' <;> simp only [Mt.add] <;> omega
theorem Mt.add_swap (a b c : Mt) : (a.add b).add c = (a.add c).add b := by
  apply Mt.ext' <;> simp only [Mt.add] <;> omega
theorem Mt.add_zero (a : Mt) : a.add Mt.zero = a := by
  apply Mt.ext' <;> simp [Mt.add, Mt.zero]
theorem Mt.mul_zero (a : Mt) : a.mul Mt.zero = Mt.zero := by
  apply Mt.ext' <;> simp [Mt.mul, Mt.zero]
def pw (S : Mt) : Nat → Mt
  | 0 => Mt.one
  | k + 1 => (pw S k).mul S
theorem pw_add (S : Mt) (a : Nat) : ∀ b, pw S (a + b) = (pw S a).mul (pw S b)
  | 0 => by rw [Nat.add_zero, pw, Mt.mul_one]
  | b + 1 => by
    show (pw S (a + b)).mul S = (pw S a).mul ((pw S b).mul S)
    rw [pw_add S a b, Mt.assoc]
def sm (S : Mt) : Nat → Mt
  | 0 => Mt.zero
  | k + 1 => ((sm S k).mul S).add Mt.one
theorem sm_next (S : Mt) : ∀ k, sm S (k + 1) = (sm S k).add (pw S k)
  | 0 => by
    apply Mt.ext' <;> simp [sm, pw, Mt.mul, Mt.add, Mt.zero, Mt.one]
  | k + 1 => by
    show ((sm S (k + 1)).mul S).add Mt.one = (sm S (k + 1)).add ((pw S k).mul S)
    rw [sm_next S k, Mt.add_mul, Mt.add_swap, ← sm_next S k]
    rfl
theorem sm_add (S : Mt) (a : Nat) : ∀ b, sm S (a + b) = (sm S a).add ((pw S a).mul (sm S b))
  | 0 => by rw [Nat.add_zero, sm, Mt.mul_zero, Mt.add_zero]
  | b + 1 => by
    show sm S ((a + b) + 1) = _
    rw [sm_next, sm_add S a b, sm_next S b, Mt.mul_add, Mt.add_assoc, pw_add]
/-! the same by n -/
def Cg (n : Int) (a b : Mt) : Prop := n ∣ a.p - b.p ∧ n ∣ a.q - b.q ∧ n ∣ a.r - b.r ∧ n ∣ a.s - b.s
theorem Cg.refl (n : Int) (a : Mt) : Cg n a a := by
  refine ⟨?_, ?_, ?_, ?_⟩ <;> rw [Int.sub_self] <;> exact Int.dvd_zero n
theorem dv_mul {n x x' y y' : Int} (h1 : n ∣ x - x') (h2 : n ∣ y - y') : n ∣ x * y - x' * y' := by
  obtain ⟨u, hu⟩ := h1
  obtain ⟨v, hv⟩ := h2
  refine ⟨u * y + x' * v, ?_⟩
  have e1 : x = x' + n * u := by omega
  have e2 : y = y' + n * v := by omega
  rw [e1, e2]
  grind
theorem dv_add {n x x' y y' : Int} (h1 : n ∣ x - x') (h2 : n ∣ y - y') : n ∣ x + y - (x' + y') := by
  have := Int.dvd_add h1 h2
  rwa [show x - x' + (y - y') = x + y - (x' + y') by omega] at this
theorem dv_mod {n x y : Int} (h : n ∣ x - y) : n ∣ x % n - y := by
  obtain ⟨u, hu⟩ := h
  refine ⟨u - x / n, ?_⟩
  have := Int.mul_ediv_add_emod x n
  grind
theorem Cg.mul {n : Int} {a a' b b' : Mt} (h1 : Cg n a a') (h2 : Cg n b b') : Cg n (a.mul b) (a'.mul b') :=
  ⟨dv_add (dv_mul h1.1 h2.1) (dv_mul h1.2.1 h2.2.2.1), dv_add (dv_mul h1.1 h2.2.1) (dv_mul h1.2.1 h2.2.2.2), dv_add (dv_mul h1.2.2.1 h2.1) (dv_mul h1.2.2.2 h2.2.2.1), dv_add (dv_mul h1.2.2.1 h2.2.1) (dv_mul h1.2.2.2 h2.2.2.2)⟩
theorem Cg.add {n : Int} {a a' b b' : Mt} (h1 : Cg n a a') (h2 : Cg n b b') : Cg n (a.add b) (a'.add b') :=
  ⟨dv_add h1.1 h2.1, dv_add h1.2.1 h2.2.1, dv_add h1.2.2.1 h2.2.2.1, dv_add h1.2.2.2 h2.2.2.2⟩
def Mt.md (n : Int) (a : Mt) : Mt := ⟨a.p % n, a.q % n, a.r % n, a.s % n⟩
theorem Cg.md {n : Int} {a b : Mt} (h : Cg n a b) : Cg n (a.md n) b := ⟨dv_mod h.1, dv_mod h.2.1, dv_mod h.2.2.1, dv_mod h.2.2.2⟩
/-! values -/
def rv (a b x y : Int) : Nat → Int
  | 0 => x
  | 1 => y
  | k + 2 => a * rv a b x y (k + 1) + b * rv a b x y k
theorem rv_shift (a b x y : Int) : ∀ k, rv a b y (a * y + b * x) k = rv a b x y (k + 1)
  | 0 => rfl
  | 1 => rfl
  | k + 2 => by
    rw [rv, rv_shift a b x y (k + 1), rv_shift a b x y k]
    rfl
def sv (a b x y : Int) : Nat → Int
  | 0 => 0
  | k + 1 => sv a b x y k + rv a b x y k
theorem pw_act (a b : Int) : ∀ (k : Nat) (x y : Int), (pw ⟨0, 1, b, a⟩ k).p * x + (pw ⟨0, 1, b, a⟩ k).q * y = rv a b x y k ∧ (pw ⟨0, 1, b, a⟩ k).r * x + (pw ⟨0, 1, b, a⟩ k).s * y = rv a b x y (k + 1)
  | 0, x, y => by simp [pw, Mt.one, rv]
  | k + 1, x, y => by
    have h := pw_act a b k y (a * y + b * x)
    rw [rv_shift, rv_shift] at h
    simp only [pw, Mt.mul]
    refine ⟨?_, ?_⟩
    · rw [← h.1]; grind
    · rw [← h.2]; grind
theorem sm_act (a b x y : Int) : ∀ k : Nat, (sm ⟨0, 1, b, a⟩ k).p * x + (sm ⟨0, 1, b, a⟩ k).q * y = sv a b x y k
  | 0 => by simp [sm, Mt.zero, sv]
  | k + 1 => by
    have h1 := sm_act a b x y k
    have h2 := (pw_act a b k x y).1
    rw [sm_next, sv, ← h1, ← h2]
    simp only [Mt.add]
    grind
theorem rv_le {a b x y : Int} {C m : Nat} (hC : a.natAbs + b.natAbs + 1 ≤ C) (hx : x.natAbs ≤ m) (hy : y.natAbs ≤ m) : ∀ k, (rv a b x y k).natAbs ≤ C ^ k * m
  | 0 => by simp [rv]; exact hx
  | 1 => by
    rw [Nat.pow_one]
    exact Nat.le_trans hy (Nat.le_mul_of_pos_left m (by omega))
  | k + 2 => by
    have h1 := rv_le hC hx hy (k + 1)
    have h2 := rv_le hC hx hy k
    have h3 : C ^ k * m ≤ C ^ (k + 1) * m := Nat.mul_le_mul_right m (Nat.pow_le_pow_right (by omega) (Nat.le_succ k))
    have h4 : (rv a b x y (k + 2)).natAbs ≤ a.natAbs * (C ^ (k + 1) * m) + b.natAbs * (C ^ (k + 1) * m) := by
      rw [rv]
      refine Nat.le_trans (Int.natAbs_add_le _ _) ?_
      rw [Int.natAbs_mul, Int.natAbs_mul]
      exact Nat.add_le_add (Nat.mul_le_mul_left _ h1) (Nat.mul_le_mul_left _ (Nat.le_trans h2 h3))
    rw [← Nat.add_mul] at h4
    refine Nat.le_trans h4 ?_
    rw [Nat.pow_succ C (k + 1), Nat.mul_comm (C ^ (k + 1)) C, Nat.mul_assoc]
    exact Nat.mul_le_mul_right _ (by omega)
/-! coming round -/
theorem rv_per {a b x y n : Int} {i j : Nat} (h0 : n ∣ rv a b x y j - rv a b x y i) (h1 : n ∣ rv a b x y (j + 1) - rv a b x y (i + 1)) : ∀ k, n ∣ rv a b x y (j + k) - rv a b x y (i + k) ∧ n ∣ rv a b x y (j + k + 1) - rv a b x y (i + k + 1)
  | 0 => ⟨h0, h1⟩
  | k + 1 => by
    have ⟨g0, g1⟩ := rv_per h0 h1 k
    refine ⟨g1, ?_⟩
    show n ∣ rv a b x y (j + k + 2) - rv a b x y (i + k + 2)
    rw [rv, rv]
    exact dv_add (dv_mul (by rw [Int.sub_self]; exact Int.dvd_zero n) g1) (dv_mul (by rw [Int.sub_self]; exact Int.dvd_zero n) g0)
theorem sv_per {a b x y n : Int} {i j : Nat} (h0 : n ∣ rv a b x y j - rv a b x y i) (h1 : n ∣ rv a b x y (j + 1) - rv a b x y (i + 1)) : ∀ k, n ∣ (sv a b x y (j + k) - sv a b x y j) - (sv a b x y (i + k) - sv a b x y i)
  | 0 => by
    rw [Nat.add_zero, Nat.add_zero, Int.sub_self, Int.sub_self]
    exact Int.dvd_zero n
  | k + 1 => by
    have g := Int.dvd_add (sv_per h0 h1 k) (rv_per h0 h1 k).1
    show n ∣ (sv a b x y (j + k) + rv a b x y (j + k) - sv a b x y j) - (sv a b x y (i + k) + rv a b x y (i + k) - sv a b x y i)
    rwa [show (sv a b x y (j + k) - sv a b x y j) - (sv a b x y (i + k) - sv a b x y i) + (rv a b x y (j + k) - rv a b x y (i + k)) = (sv a b x y (j + k) + rv a b x y (j + k) - sv a b x y j) - (sv a b x y (i + k) + rv a b x y (i + k) - sv a b x y i) by omega] at g
section
variable {a b x y n : Int} {t r : Nat} (h0 : n ∣ rv a b x y (t + r) - rv a b x y t) (h1 : n ∣ rv a b x y (t + r + 1) - rv a b x y (t + 1))
include h0 h1
theorem rv_round (s : Nat) : ∀ q, n ∣ rv a b x y (t + (r * q + s)) - rv a b x y (t + s)
  | 0 => by rw [Nat.mul_zero, Nat.zero_add, Int.sub_self]; exact Int.dvd_zero n
  | q + 1 => by
    have g := (rv_per h0 h1 (r * q + s)).1
    rw [show t + (r * (q + 1) + s) = t + r + (r * q + s) by rw [Nat.mul_succ]; omega]
    exact dvd_tr g (rv_round s q)
theorem sv_round (s : Nat) : ∀ q, n ∣ sv a b x y (t + (r * q + s)) - (sv a b x y t + (q : Int) * (sv a b x y (t + r) - sv a b x y t) + (sv a b x y (t + s) - sv a b x y t))
  | 0 => by
    rw [Nat.mul_zero, Nat.zero_add]
    refine ⟨0, ?_⟩
    simp
    omega
  | q + 1 => by
    have g := sv_per h0 h1 (r * q + s)
    have g2 := Int.dvd_add g (sv_round s q)
    rw [show t + (r * (q + 1) + s) = t + r + (r * q + s) by rw [Nat.mul_succ]; omega]
    have e : ((q + 1 : Nat) : Int) = (q : Int) + 1 := rfl
    rw [e]
    refine Int.dvd_trans g2 ⟨1, ?_⟩
    grind
end
/-! lists of rests -/
def ws (a b x y n : Int) (m : Nat) : List Int := (List.range m).map fun i => rv a b x y i % n
theorem ws_len (a b x y n : Int) (m : Nat) : (ws a b x y n m).length = m := by simp [ws]
theorem ws_at {a b x y n : Int} {m i : Nat} (h : i < m) : (ws a b x y n m)[i]? = some (rv a b x y i % n) := by
  unfold ws
  rw [List.getElem?_map, List.getElem?_range h]
  rfl
theorem ws_snoc (a b x y n : Int) (m : Nat) : ws a b x y n (m + 1) = ws a b x y n m ++ [rv a b x y m % n] := by
  unfold ws
  rw [List.range_succ, List.map_append]
  rfl
theorem ws_take {a b x y n : Int} {m i : Nat} (h : i ≤ m) : (ws a b x y n m).take i = ws a b x y n i := by
  unfold ws
  rw [← List.map_take, List.take_range, Nat.min_eq_left h]
theorem sum_app (l : List Int) (c : Int) : (l ++ [c]).sum = l.sum + c := by simp
theorem ws_sum (a b x y n : Int) : ∀ m, n ∣ (ws a b x y n m).sum - sv a b x y m
  | 0 => ⟨0, by simp [ws, sv]⟩
  | m + 1 => by
    rw [ws_snoc, sum_app, sv]
    exact dv_add (ws_sum a b x y n m) (dv_mod ⟨0, by omega⟩)
theorem ws_part {a b x y n : Int} {m i j : Nat} (hi : i + j ≤ m) : n ∣ (((ws a b x y n m).drop i).take j).sum - (sv a b x y (i + j) - sv a b x y i) := by
  have e : ((ws a b x y n m).take (i + j)) = (ws a b x y n m).take i ++ ((ws a b x y n m).drop i).take j := by rw [List.take_add]
  rw [ws_take hi, ws_take (show i ≤ m by omega)] at e
  have h1 := ws_sum a b x y n (i + j)
  have h2 := ws_sum a b x y n i
  rw [e, List.sum_append] at h1
  have := Int.dvd_sub h1 h2
  rwa [show (ws a b x y n i).sum + (((ws a b x y n m).drop i).take j).sum - sv a b x y (i + j) - ((ws a b x y n i).sum - sv a b x y i) = (((ws a b x y n m).drop i).take j).sum - (sv a b x y (i + j) - sv a b x y i) by omega] at this
/-- pairs must come again -/
theorem pair_pig {a b x y : Int} {n : Nat} (n0 : 0 < n) (h : ∀ i < n * n + 1, ∀ j < i, ¬ (rv a b x y i % (n : Int) = rv a b x y j % (n : Int) ∧ rv a b x y (i + 1) % (n : Int) = rv a b x y (j + 1) % (n : Int))) : False := by
  have key : ∀ i j : Nat, rs n (rv a b x y i) * n + rs n (rv a b x y (i + 1)) = rs n (rv a b x y j) * n + rs n (rv a b x y (j + 1)) → rv a b x y i % (n : Int) = rv a b x y j % (n : Int) ∧ rv a b x y (i + 1) % (n : Int) = rv a b x y (j + 1) % (n : Int) := fun i j e => by
    have l1 := rs_lt n0 (rv a b x y (i + 1))
    have l2 := rs_lt n0 (rv a b x y (j + 1))
    have d1 : (rs n (rv a b x y i) * n + rs n (rv a b x y (i + 1))) % n = rs n (rv a b x y (i + 1)) := by rw [Nat.mul_add_mod_self_right]; exact Nat.mod_eq_of_lt l1
    have d2 : (rs n (rv a b x y j) * n + rs n (rv a b x y (j + 1))) % n = rs n (rv a b x y (j + 1)) := by rw [Nat.mul_add_mod_self_right]; exact Nat.mod_eq_of_lt l2
    rw [e] at d1
    have e1 : rs n (rv a b x y (i + 1)) = rs n (rv a b x y (j + 1)) := d1.symm.trans d2
    have e2 : rs n (rv a b x y i) = rs n (rv a b x y j) := Nat.eq_of_mul_eq_mul_right n0 (by omega)
    rw [← rs_eq n0, ← rs_eq n0, ← rs_eq n0, ← rs_eq n0, e1, e2]
    exact ⟨rfl, rfl⟩
  refine noinj (n * n) (fun i => rs n (rv a b x y i) * n + rs n (rv a b x y (i + 1))) (fun i _ => ?_) fun i hi j hj e => ?_
  · have l1 := rs_lt n0 (rv a b x y i)
    have l2 := rs_lt n0 (rv a b x y (i + 1))
    have := Nat.mul_le_mul_right n (show rs n (rv a b x y i) + 1 ≤ n by omega)
    rw [Nat.add_mul] at this
    omega
  · rcases Nat.lt_trichotomy i j with c | c | c
    · have k := key i j e
      exact absurd ⟨k.1.symm, k.2.symm⟩ (h j hj i c)
    · exact c
    · exact absurd (key i j e) (h i hi j c)
end Vf

namespace Vf
/-! ## walks on rests -/
def itf (F : Nat → Nat) (r : Nat) : Nat → Nat
  | 0 => r
  | k + 1 => F (itf F r k)
theorem itf_add (F : Nat → Nat) (r m : Nat) : ∀ k, itf F r (m + k) = itf F (itf F r m) k
  | 0 => rfl
  | k + 1 => by
    show F (itf F r (m + k)) = F (itf F (itf F r m) k)
    rw [itf_add F r m k]
theorem itf_lt {F : Nat → Nat} {n r : Nat} (hF : ∀ x, x < n → F x < n) (hr : r < n) : ∀ k, itf F r k < n
  | 0 => hr
  | k + 1 => hF _ (itf_lt hF hr k)
/-- tail t, ring of c -/
structure Rho (F : Nat → Nat) (r t c : Nat) : Prop where
  pos : 0 < c
  back : itf F r (t + c) = itf F r t
  uniq : ∀ i, i < t + c → ∀ j, j < i → itf F r i ≠ itf F r j
theorem few {F : Nat → Nat} {n r m : Nat} (hF : ∀ x, x < n → F x < n) (hr : r < n) (h : ∀ i, i < m → ∀ j, j < i → itf F r i ≠ itf F r j) : m ≤ n := by
  refine Classical.byContradiction fun z => ?_
  refine noinj n (fun i => itf F r i) (fun i _ => itf_lt hF hr i) fun i hi j hj e => ?_
  rcases Nat.lt_trichotomy i j with c | c | c
  · exact absurd e.symm (h j (by omega) i c)
  · exact c
  · exact absurd e (h i (by omega) j c)
theorem Rho.le {F : Nat → Nat} {n r t c : Nat} (h : Rho F r t c) (hF : ∀ x, x < n → F x < n) (hr : r < n) : t + c ≤ n := few hF hr h.uniq
theorem Rho.laps {F : Nat → Nat} {r t c : Nat} (h : Rho F r t c) (s : Nat) : ∀ q, itf F r (t + (c * q + s)) = itf F r (t + s)
  | 0 => by rw [Nat.mul_zero, Nat.zero_add]
  | q + 1 => by
    rw [show t + (c * (q + 1) + s) = t + c + (c * q + s) by rw [Nat.mul_succ]; omega, itf_add, h.back, ← itf_add, h.laps s q]
theorem Rho.far {F : Nat → Nat} {r t c : Nat} (h : Rho F r t c) {k : Nat} (hk : t ≤ k) : itf F r k = itf F r (t + (k - t) % c) := by
  have := h.laps ((k - t) % c) ((k - t) / c)
  rw [Nat.div_add_mod, Nat.add_sub_cancel' hk] at this
  exact this
theorem Rho.uniq2 {F : Nat → Nat} {r t c s d : Nat} (h : Rho F r t c) (g : Rho F r s d) : t = s ∧ c = d := by
  have e : t + c = s + d := by
    rcases Nat.lt_trichotomy (t + c) (s + d) with l | l | l
    · exact absurd h.back (g.uniq (t + c) l t (by have := h.pos; omega))
    · exact l
    · exact absurd g.back (h.uniq (s + d) l s (by have := g.pos; omega))
  have t1 := h.back
  have s1 := g.back
  rw [← e, t1] at s1
  have p1 := h.pos
  have p2 := g.pos
  rcases Nat.lt_trichotomy t s with l | l | l
  · exact absurd s1.symm (h.uniq s (by omega) t l)
  · exact ⟨l, by omega⟩
  · exact absurd s1 (h.uniq t (by omega) s l)
end Vf

namespace Vf
/-! ## all rings found, one beginning after the other -/
/-- y comes back to itself -/
def OnR (F : Nat → Nat) (y : Nat) : Prop := ∃ d, 0 < d ∧ itf F y d = y
theorem OnR.mul {F : Nat → Nat} {y d : Nat} (h : itf F y d = y) : ∀ k, itf F y (d * k) = y
  | 0 => rfl
  | k + 1 => by rw [Nat.mul_succ, itf_add, OnR.mul h k, h]
/-- what is known when the beginnings below i are done: bg names for each rest the beginning whose path met it first, RS holds a rest and the length of each ring found -/
structure Fnd (F : Nat → Nat) (n i : Nat) (bg : Nat → Option Nat) (RS : List (Nat × Nat)) : Prop where
  low : ∀ y f, bg y = some f → f < i
  cl : ∀ y, bg y ≠ none → bg (F y) ≠ none
  all : ∀ y, y < i → bg y ≠ none
  rho : ∀ x c, (x, c) ∈ RS → Rho F x 0 c ∧ x < n ∧ bg x ≠ none
  full : ∀ y, bg y ≠ none → OnR F y → ∃ x c, (x, c) ∈ RS ∧ ∃ j, j < c ∧ itf F x j = y
  dis : RS.Pairwise fun a b => ∀ j k, itf F a.1 j ≠ itf F b.1 k
theorem Fnd.start (F : Nat → Nat) (n : Nat) : Fnd F n 0 (fun _ => none) [] :=
  ⟨(fun _ _ h => nomatch h), (fun _ h => absurd rfl h), (fun _ h => absurd h (Nat.not_lt_zero _)), (fun _ _ h => nomatch h), (fun _ h => absurd rfl h), List.Pairwise.nil⟩
theorem Fnd.fwd {F : Nat → Nat} {n i : Nat} {bg : Nat → Option Nat} {RS : List (Nat × Nat)} (h : Fnd F n i bg RS) {y : Nat} (hy : bg y ≠ none) : ∀ k, bg (itf F y k) ≠ none
  | 0 => hy
  | k + 1 => h.cl _ (h.fwd hy k)
/-- bg after m steps from i -/
def bgM (F : Nat → Nat) (i m : Nat) (bg : Nat → Option Nat) (y : Nat) : Option Nat := if ∃ j, j < m ∧ itf F i j = y then some i else bg y
instance (F : Nat → Nat) (i m y : Nat) : Decidable (∃ j, j < m ∧ itf F i j = y) := decidable_of_iff (∃ j : Fin m, itf F i j.1 = y) ⟨fun ⟨j, e⟩ => ⟨j.1, j.2, e⟩, fun ⟨j, l, e⟩ => ⟨⟨j, l⟩, e⟩⟩
theorem bgM_pos {F : Nat → Nat} {i m y : Nat} {bg : Nat → Option Nat} (h : ∃ j, j < m ∧ itf F i j = y) : bgM F i m bg y = some i := if_pos h
theorem bgM_neg {F : Nat → Nat} {i m y : Nat} {bg : Nat → Option Nat} (h : ¬ ∃ j, j < m ∧ itf F i j = y) : bgM F i m bg y = bg y := if_neg h
theorem bgM_keep {F : Nat → Nat} {i m y : Nat} {bg : Nat → Option Nat} (h : bg y ≠ none) : bgM F i m bg y ≠ none := by
  unfold bgM
  split
  · exact Option.some_ne_none _
  · exact h
theorem bgM_back {F : Nat → Nat} {i m y : Nat} {bg : Nat → Option Nat} (h : bgM F i m bg y ≠ none) : (∃ j, j < m ∧ itf F i j = y) ∨ bg y ≠ none := by
  rcases Decidable.em (∃ j, j < m ∧ itf F i j = y) with e | e
  · exact .inl e
  · rw [bgM_neg e] at h
    exact .inr h
/-- the facts that hold whichever way the path ends -/
theorem Fnd.sides {F : Nat → Nat} {n i m : Nat} {bg : Nat → Option Nat} {RS : List (Nat × Nat)} (h : Fnd F n i bg RS) (e : bgM F i m bg (itf F i m) ≠ none) :
    (∀ y f, bgM F i m bg y = some f → f < i + 1) ∧ (∀ y, bgM F i m bg y ≠ none → bgM F i m bg (F y) ≠ none) ∧ (∀ y, y < i + 1 → bgM F i m bg y ≠ none) := by
  refine ⟨fun y f hy => ?_, fun y hy => ?_, fun y hy => ?_⟩
  · rcases Decidable.em (∃ j, j < m ∧ itf F i j = y) with z | z
    · rw [bgM_pos z] at hy
      cases hy
      omega
    · rw [bgM_neg z] at hy
      have := h.low y f hy
      omega
  · rcases bgM_back hy with ⟨j, lj, rfl⟩ | z
    · rcases Nat.lt_or_ge (j + 1) m with l | l
      · show bgM F i m bg (itf F i (j + 1)) ≠ none
        rw [bgM_pos ⟨j + 1, l, rfl⟩]
        exact Option.some_ne_none _
      · show bgM F i m bg (itf F i (j + 1)) ≠ none
        rw [show j + 1 = m by omega]
        exact e
    · exact bgM_keep (h.cl y z)
  · rcases Nat.lt_or_ge y i with l | l
    · exact bgM_keep (h.all y l)
    · rw [show y = i by omega]
      rcases Nat.eq_zero_or_pos m with z | z
      · subst z
        exact e
      · have q : bgM F i m bg i = some i := bgM_pos ⟨0, z, rfl⟩
        rw [q]
        exact Option.some_ne_none _
/-- a rest of the path that is on a ring, when the path runs into what is known: there is none -/
theorem Fnd.known {F : Nat → Nat} {n i m : Nat} {bg : Nat → Option Nat} {RS : List (Nat × Nat)} (h : Fnd F n i bg RS) (nw : ∀ j, j < m → bg (itf F i j) = none) (e : bg (itf F i m) ≠ none) {j : Nat} (hj : j < m) : ¬ OnR F (itf F i j) := by
  rintro ⟨d, d0, hd⟩
  have h1 := h.fwd e (d * m - (m - j))
  have h2 := OnR.mul hd m
  have : m ≤ d * m := Nat.le_mul_of_pos_left m d0
  rw [← itf_add, show m + (d * m - (m - j)) = j + d * m by omega, itf_add, h2] at h1
  exact h1 (nw j hj)
theorem Fnd.old {F : Nat → Nat} {n i m : Nat} {bg : Nat → Option Nat} {RS : List (Nat × Nat)} (h : Fnd F n i bg RS) (nw : ∀ j, j < m → bg (itf F i j) = none) (e : bg (itf F i m) ≠ none) :
    Fnd F n (i + 1) (bgM F i m bg) RS := by
  obtain ⟨s1, s2, s3⟩ := h.sides (bgM_keep e)
  refine ⟨s1, s2, s3, fun x c hx => ?_, fun y hy ho => ?_, h.dis⟩
  · obtain ⟨r1, r2, r3⟩ := h.rho x c hx
    exact ⟨r1, r2, bgM_keep r3⟩
  · rcases bgM_back hy with ⟨j, lj, rfl⟩ | z
    · exact absurd ho (h.known nw e lj)
    · exact h.full y z ho
theorem Fnd.new {F : Nat → Nat} {n i m j : Nat} {bg : Nat → Option Nat} {RS : List (Nat × Nat)} (h : Fnd F n i bg RS) (hF : ∀ x, x < n → F x < n) (hi : i < n) (nw : ∀ j, j < m → bg (itf F i j) = none)
    (un : ∀ a, a < m → ∀ b, b < a → itf F i a ≠ itf F i b) (hj : j < m) (e : itf F i j = itf F i m) : Fnd F n (i + 1) (bgM F i m bg) (RS ++ [(itf F i j, m - j)]) := by
  have pe : bgM F i m bg (itf F i m) ≠ none := by
    rw [bgM_pos ⟨j, hj, e⟩]
    exact Option.some_ne_none _
  obtain ⟨s1, s2, s3⟩ := h.sides pe
  have R : Rho F (itf F i j) 0 (m - j) := by
    refine ⟨by omega, ?_, fun a ha b hb => ?_⟩
    · rw [Nat.zero_add, ← itf_add, show j + (m - j) = m by omega, ← e]
      rfl
    · rw [← itf_add, ← itf_add]
      exact un _ (by omega) _ (by omega)
  -- the ring's rests are all on the path from j on
  have inn : ∀ k, ∃ a, j ≤ a ∧ a < m ∧ itf F (itf F i j) k = itf F i a := fun k => by
    have := R.far (Nat.zero_le k)
    rw [Nat.zero_add, Nat.sub_zero] at this
    have l := Nat.mod_lt k R.pos
    exact ⟨j + k % (m - j), by omega, by omega, by rw [this, ← itf_add]⟩
  refine ⟨s1, s2, s3, fun x c hx => ?_, fun y hy ho => ?_, ?_⟩
  · rcases List.mem_append.mp hx with z | z
    · obtain ⟨r1, r2, r3⟩ := h.rho x c z
      exact ⟨r1, r2, bgM_keep r3⟩
    · obtain ⟨rfl, rfl⟩ := Prod.mk.inj (List.mem_singleton.mp z)
      refine ⟨R, itf_lt hF hi j, ?_⟩
      rw [bgM_pos ⟨j, hj, rfl⟩]
      exact Option.some_ne_none _
  · rcases bgM_back hy with ⟨a, la, rfl⟩ | z
    · refine ⟨_, _, List.mem_append.mpr (.inr (List.mem_singleton.mpr rfl)), ?_⟩
      obtain ⟨d, d0, hd⟩ := ho
      have h2 := OnR.mul hd m
      have : m ≤ d * m := Nat.le_mul_of_pos_left m d0
      obtain ⟨b, b0, b1, be⟩ := inn (d * m + a - j)
      rw [← itf_add, show j + (d * m + a - j) = a + d * m by omega, itf_add, h2] at be
      have : a = b := by
        rcases Nat.lt_trichotomy a b with l | l | l
        · exact absurd be.symm (un b b1 a l)
        · exact l
        · exact absurd be (un a la b l)
      subst this
      exact ⟨a - j, by omega, by rw [← itf_add, show j + (a - j) = a by omega]⟩
    · obtain ⟨x, c, hx, r⟩ := h.full y z ho
      exact ⟨x, c, List.mem_append.mpr (.inl hx), r⟩
  · refine List.pairwise_append.mpr ⟨h.dis, List.pairwise_singleton _ _, fun a ha b hb s t z => ?_⟩
    cases List.mem_singleton.mp hb
    obtain ⟨k, k0, k1, ke⟩ := inn t
    have h1 := h.fwd (h.rho a.1 a.2 ha).2.2 s
    rw [z, ke, nw k k1] at h1
    exact h1 rfl
end Vf

namespace Vf
/-! ## rings told twice -/
theorem itf_back {F : Nat → Nat} {z c : Nat} (h : itf F z c = z) : ∀ q, itf F z (c * q) = z
  | 0 => rfl
  | q + 1 => by rw [Nat.mul_succ, itf_add, itf_back h q, h]
theorem reach {F : Nat → Nat} {y z z' d d' c' : Nat} (c0 : 0 < c') (back : itf F z' c' = z') (hz : itf F y d = z) (hz' : itf F y d' = z') : ∃ s, itf F z s = z' := by
  rcases Nat.le_total d d' with l | l
  · exact ⟨d' - d, by rw [← hz, ← itf_add, show d + (d' - d) = d' by omega, hz']⟩
  · have h1 : itf F z' (d - d') = z := by rw [← hz', ← itf_add, show d' + (d - d') = d by omega, hz]
    have h2 : d - d' ≤ c' * (d - d') := Nat.le_mul_of_pos_left _ c0
    refine ⟨c' * (d - d') - (d - d'), ?_⟩
    rw [← h1, ← itf_add, show d - d' + (c' * (d - d') - (d - d')) = c' * (d - d') by omega, itf_back back]
/-- r comes out at the ring of c that has z as its least -/
structure Ends (F : Nat → Nat) (r z c : Nat) : Prop where
  rho : Rho F z 0 c
  low : ∀ j, z ≤ itf F z j
  way : ∃ d, itf F r d = z
theorem Rho.at0 {F : Nat → Nat} {z c : Nat} (h : Rho F z 0 c) : itf F z c = z := by
  have := h.back
  rwa [Nat.zero_add] at this
theorem ends_one {F : Nat → Nat} {y z z' c c' : Nat} (h : Rho F z 0 c) (g : Rho F z' 0 c') (l : ∀ j, z ≤ itf F z j) (l' : ∀ j, z' ≤ itf F z' j) (w : ∃ d, itf F y d = z) (w' : ∃ d, itf F y d = z') : z = z' ∧ c = c' := by
  obtain ⟨d, hd⟩ := w
  obtain ⟨d', hd'⟩ := w'
  obtain ⟨s, hs⟩ := reach g.pos g.at0 hd hd'
  obtain ⟨s', hs'⟩ := reach h.pos h.at0 hd' hd
  have a := l s
  have b := l' s'
  rw [hs] at a
  rw [hs'] at b
  have e : z = z' := Nat.le_antisymm a b
  subst e
  exact ⟨rfl, (h.uniq2 g).2⟩
theorem Ends.one {F : Nat → Nat} {r z z' c c' : Nat} (h : Ends F r z c) (g : Ends F r z' c') : z = z' ∧ c = c' := ends_one h.rho g.rho h.low g.low h.way g.way
/-- for each rest there is a ring -/
theorem Fnd.ring {F : Nat → Nat} {n : Nat} {bg : Nat → Option Nat} {RS : List (Nat × Nat)} (h : Fnd F n n bg RS) {r z c : Nat} (hr : r < n) (hF : ∀ x, x < n → F x < n) (e : Ends F r z c) : ∃ x ∈ RS, Ends F x.1 z c := by
  obtain ⟨d, hd⟩ := e.way
  have zl : z < n := by rw [← hd]; exact itf_lt hF hr d
  obtain ⟨x, c', hx, j, hj, ej⟩ := h.full z (h.all z zl) ⟨c, e.rho.pos, e.rho.at0⟩
  exact ⟨(x, c'), hx, e.rho, e.low, j, ej⟩
theorem ring_perm {F : Nat → Nat} {n : Nat} {bg : Nat → Option Nat} {RS : List (Nat × Nat)} (hF : ∀ x, x < n → F x < n) (h : Fnd F n n bg RS) (en : Nat → Nat × Nat) (he : ∀ r, r < n → Ends F r (en r).1 (en r).2) :
    (RS.map fun p => en p.1).Nodup ∧ (∀ q, q ∈ (RS.map fun p => en p.1) ↔ q ∈ (List.range n).map en) ∧ (RS.map fun p => (en p.1).2) = RS.map fun p => p.2 := by
  refine ⟨?_, fun q => ⟨fun hq => ?_, fun hq => ?_⟩, ?_⟩
  · refine List.pairwise_map.mpr (h.dis.imp_of_mem fun {a b} ha hb ne e => ?_)
    obtain ⟨_, la, _⟩ := h.rho a.1 a.2 ha
    obtain ⟨_, lb, _⟩ := h.rho b.1 b.2 hb
    obtain ⟨d, hd⟩ := (he a.1 la).way
    obtain ⟨d', hd'⟩ := (he b.1 lb).way
    have e : en a.1 = en b.1 := e
    rw [e] at hd
    exact ne d d' (hd.trans hd'.symm)
  · obtain ⟨p, hp, rfl⟩ := List.mem_map.mp hq
    exact List.mem_map.mpr ⟨p.1, List.mem_range.mpr (h.rho p.1 p.2 hp).2.1, rfl⟩
  · obtain ⟨r, hr, rfl⟩ := List.mem_map.mp hq
    have hr := List.mem_range.mp hr
    obtain ⟨x, hx, ex⟩ := h.ring hr hF (he r hr)
    obtain ⟨e1, e2⟩ := ex.one (he x.1 (h.rho x.1 x.2 hx).2.1)
    exact List.mem_map.mpr ⟨x, hx, Prod.ext e1.symm e2.symm⟩
  · refine List.map_congr_left fun p hp => ?_
    obtain ⟨R, lp, _⟩ := h.rho p.1 p.2 hp
    have E := he p.1 lp
    obtain ⟨d, hd⟩ := E.way
    have R2 := E.rho
    rw [← hd] at R2
    -- along a ring the length stays
    have R3 : Rho F (itf F p.1 d) 0 p.2 := by
      have z := R.far (Nat.zero_le d)
      rw [Nat.zero_add, Nat.sub_zero] at z
      refine ⟨R.pos, ?_, fun i hi j hj e => ?_⟩
      · rw [Nat.zero_add, ← itf_add, Nat.add_comm, itf_add, R.at0]
        rfl
      · rw [Nat.zero_add] at hi
        rw [← itf_add, ← itf_add] at e
        have f1 := R.far (Nat.zero_le (d + i))
        have f2 := R.far (Nat.zero_le (d + j))
        rw [Nat.zero_add, Nat.sub_zero] at f1 f2
        rw [f1, f2] at e
        have m1 := Nat.mod_lt (d + i) R.pos
        have m2 := Nat.mod_lt (d + j) R.pos
        rcases Nat.lt_trichotomy ((d + i) % p.2) ((d + j) % p.2) with l | l | l
        · exact R.uniq _ (by omega) _ l e.symm
        · have q1 := Nat.div_add_mod (d + i) p.2
          have q2 := Nat.div_add_mod (d + j) p.2
          rw [l] at q1
          have : p.2 * ((d + i) / p.2) - p.2 * ((d + j) / p.2) = i - j := by omega
          rw [← Nat.mul_sub] at this
          rcases Nat.eq_zero_or_pos ((d + i) / p.2 - (d + j) / p.2) with u | u
          · rw [u, Nat.mul_zero] at this
            omega
          · have := Nat.le_mul_of_pos_right p.2 u
            omega
        · exact R.uniq _ (by omega) _ l e
    exact (R2.uniq2 R3).2
/-! tails -/
theorem itf_succ (F : Nat → Nat) (r : Nat) : ∀ k, itf F (F r) k = itf F r (k + 1)
  | 0 => rfl
  | k + 1 => by
    show F (itf F (F r) k) = F (itf F r (k + 1))
    rw [itf_succ F r k]
theorem Rho.down {F : Nat → Nat} {r t c : Nat} (h : Rho F r (t + 1) c) : Rho F (F r) t c := by
  refine ⟨h.pos, ?_, fun i hi j hj e => ?_⟩
  · rw [itf_succ, itf_succ, show t + c + 1 = t + 1 + c by omega]
    exact h.back
  · rw [itf_succ, itf_succ] at e
    exact h.uniq (i + 1) (by omega) (j + 1) (by omega) e
theorem Rho.on {F : Nat → Nat} {r t c : Nat} (h : Rho F r t c) : OnR F r ↔ t = 0 := by
  constructor
  · rintro ⟨d, d0, hd⟩
    refine Classical.byContradiction fun t0 => ?_
    rcases Nat.lt_or_ge d (t + c) with l | l
    · exact h.uniq d l 0 d0 hd
    · have f := h.far (show t ≤ d by omega)
      rw [hd] at f
      have m := Nat.mod_lt (d - t) h.pos
      exact h.uniq (t + (d - t) % c) (by omega) 0 (by omega) f.symm
  · rintro rfl
    exact ⟨c, h.pos, h.at0⟩
theorem Rho.up {F : Nat → Nat} {n r t c : Nat} (hF : ∀ x, x < n → F x < n) (hr : r < n) (no : ¬ OnR F r) (h : Rho F (F r) t c) : Rho F r (t + 1) c := by
  refine ⟨h.pos, ?_, fun i hi j hj e => ?_⟩
  · have := h.back
    rw [itf_succ, itf_succ] at this
    rw [show t + 1 + c = t + c + 1 by omega]
    exact this
  · cases i with
    | zero => omega
    | succ i =>
      cases j with
      | zero => exact no ⟨i + 1, by omega, e⟩
      | succ j =>
        rw [← itf_succ, ← itf_succ] at e
        exact h.uniq i (by omega) j (by omega) e
/-- the rests on rings, counted -/
theorem flat_nodup {F : Nat → Nat} : ∀ {RS : List (Nat × Nat)}, (RS.Pairwise fun a b => ∀ j k, itf F a.1 j ≠ itf F b.1 k) → (∀ p ∈ RS, Rho F p.1 0 p.2) → (RS.flatMap fun p => (List.range p.2).map (itf F p.1)).Nodup
  | [], _, _ => List.Pairwise.nil
  | p :: RS, h, g => by
    obtain ⟨h1, h2⟩ := List.pairwise_cons.mp h
    rw [List.flatMap_cons]
    refine List.nodup_append.mpr ⟨?_, flat_nodup h2 fun q hq => g q (List.mem_cons_of_mem _ hq), fun a ha b hb e => ?_⟩
    · refine List.pairwise_map.mpr (List.Pairwise.imp_of_mem (fun {i j} hi hj l => ?_) List.pairwise_lt_range)
      have := List.mem_range.mp hj
      exact fun e => (g p List.mem_cons_self).uniq j (by omega) i l e.symm
    · obtain ⟨i, _, rfl⟩ := List.mem_map.mp ha
      obtain ⟨q, hq, hb⟩ := List.mem_flatMap.mp hb
      obtain ⟨j, _, rfl⟩ := List.mem_map.mp hb
      exact h1 q hq i j e
theorem flat_len {F : Nat → Nat} : ∀ RS : List (Nat × Nat), (RS.flatMap fun p => (List.range p.2).map (itf F p.1)).length = (RS.map fun p => p.2).sum
  | [] => rfl
  | p :: RS => by rw [List.flatMap_cons, List.length_append, flat_len RS, List.length_map, List.length_range, List.map_cons, List.sum_cons]
theorem Fnd.mem {F : Nat → Nat} {n : Nat} {bg : Nat → Option Nat} {RS : List (Nat × Nat)} (hF : ∀ x, x < n → F x < n) (h : Fnd F n n bg RS) (y : Nat) : (y ∈ RS.flatMap fun p => (List.range p.2).map (itf F p.1)) ↔ y < n ∧ OnR F y := by
  constructor
  · intro hy
    obtain ⟨p, hp, hy⟩ := List.mem_flatMap.mp hy
    obtain ⟨i, hi, rfl⟩ := List.mem_map.mp hy
    obtain ⟨R, lp, _⟩ := h.rho p.1 p.2 hp
    refine ⟨itf_lt hF lp i, p.2, R.pos, ?_⟩
    rw [← itf_add, Nat.add_comm, itf_add, R.at0]
  · rintro ⟨l, o⟩
    obtain ⟨x, c, hx, j, hj, e⟩ := h.full y (h.all y l) o
    exact List.mem_flatMap.mpr ⟨(x, c), hx, List.mem_map.mpr ⟨j, List.mem_range.mpr hj, e⟩⟩
theorem ring_sum {F : Nat → Nat} {n : Nat} {bg : Nat → Option Nat} {RS : List (Nat × Nat)} (hF : ∀ x, x < n → F x < n) (h : Fnd F n n bg RS) (on : Nat → Bool) (ho : ∀ y, y < n → (on y = true ↔ OnR F y)) : (List.range n).countP on = (RS.map fun p => p.2).sum := by
  rw [← flat_len (F := F), List.countP_eq_length_filter]
  refine List.Perm.length_eq ((List.perm_ext_iff_of_nodup (List.nodup_range.filter _) (flat_nodup h.dis fun p hp => (h.rho p.1 p.2 hp).1)).mpr fun y => ?_)
  rw [h.mem hF, List.mem_filter, List.mem_range]
  exact ⟨fun ⟨a, b⟩ => ⟨a, (ho y a).mp b⟩, fun ⟨a, b⟩ => ⟨a, (ho y a).mpr b⟩⟩
/-! sizes, each with how many there are -/
theorem sum_times (S : List Nat) (nd : S.Nodup) : ∀ cs : List Nat, (∀ c ∈ cs, c ∈ S) → (S.map fun c => c * cs.count c).sum = cs.sum
  | [], _ => by
    have : ∀ S : List Nat, (S.map fun c => c * ([] : List Nat).count c).sum = 0 := fun S => by
      induction S with
      | nil => rfl
      | cons a S ih => rw [List.map_cons, List.sum_cons, ih, List.count_nil]; omega
    exact this S
  | a :: cs, h => by
    have ih := sum_times S nd cs fun c hc => h c (List.mem_cons_of_mem _ hc)
    have ha := h a List.mem_cons_self
    have key : ∀ S : List Nat, S.Nodup → (S.map fun c => c * (a :: cs).count c).sum = (S.map fun c => c * cs.count c).sum + if a ∈ S then a else 0 := fun S hS => by
      induction S with
      | nil => rfl
      | cons b S ihS =>
        obtain ⟨n1, n2⟩ := List.nodup_cons.mp hS
        rw [List.map_cons, List.map_cons, List.sum_cons, List.sum_cons, ihS n2, List.count_cons]
        by_cases e : a = b
        · subst e
          rw [if_pos (by simp), if_neg n1, if_pos List.mem_cons_self, Nat.mul_add]
          omega
        · rw [if_neg (show ¬ (a == b) = true by simp [e]), Nat.add_zero]
          by_cases m : a ∈ S
          · rw [if_pos m, if_pos (List.mem_cons_of_mem _ m)]
            omega
          · rw [if_neg m, if_neg (by simp [e, m])]
            omega
    rw [key S nd, ih, if_pos ha, List.sum_cons]
    omega
end Vf

namespace Vf
/-! ## tails, and the layers of rests with one tail -/
theorem rho_ex {F : Nat → Nat} {n r : Nat} (hF : ∀ x, x < n → F x < n) (hr : r < n) : ∃ t c, Rho F r t c := by
  have st : ∀ m : Nat, (∀ i, i < m → ∀ j, j < i → itf F r i ≠ itf F r j) ∨ ∃ k, (∀ i, i < k → ∀ j, j < i → itf F r i ≠ itf F r j) ∧ ¬ ∀ i, i < k + 1 → ∀ j, j < i → itf F r i ≠ itf F r j := fun m => by
    induction m with
    | zero => exact .inl fun i h => absurd h (Nat.not_lt_zero _)
    | succ m ih =>
      rcases ih with h | h
      · by_cases c : ∀ i, i < m + 1 → ∀ j, j < i → itf F r i ≠ itf F r j
        · exact .inl c
        · exact .inr ⟨m, h, c⟩
      · exact .inr h
  rcases st (n + 1) with h | ⟨k, h1, h2⟩
  · have := few hF hr h
    omega
  · have ex : ∃ j, j < k ∧ itf F r j = itf F r k := Classical.byContradiction fun z => h2 fun i hi j hj e => by
      rcases Nat.lt_or_ge i k with l | l
      · exact h1 i l j hj e
      · rw [show i = k by omega] at e hj
        exact z ⟨j, hj, e.symm⟩
    obtain ⟨j, lj, ej⟩ := ex
    exact ⟨j, k - j, by omega, by rw [show j + (k - j) = k by omega]; exact ej.symm, fun i hi => h1 i (by omega)⟩
noncomputable def tl (F : Nat → Nat) (r : Nat) : Nat := open Classical in if h : ∃ t c, Rho F r t c then h.choose else 0
theorem tl_eq {F : Nat → Nat} {r t c : Nat} (h : Rho F r t c) : tl F r = t := by
  have e : ∃ t c, Rho F r t c := ⟨t, c, h⟩
  unfold tl
  rw [dif_pos e]
  obtain ⟨c', h'⟩ := e.choose_spec
  exact (h'.uniq2 h).1
section
variable {F : Nat → Nat} {n r : Nat}
theorem tl_on (hF : ∀ x, x < n → F x < n) (hr : r < n) : OnR F r ↔ tl F r = 0 := by
  obtain ⟨t, c, h⟩ := rho_ex hF hr
  rw [tl_eq h]
  exact h.on
theorem tl_step (hF : ∀ x, x < n → F x < n) (hr : r < n) (no : ¬ OnR F r) : tl F r = tl F (F r) + 1 := by
  obtain ⟨t, c, h⟩ := rho_ex hF (hF r hr)
  rw [tl_eq h, tl_eq (h.up hF hr no)]
end
/-- the rests that l is behind -/
noncomputable def beh (F : Nat → Nat) (i l : Nat) : List Nat := (List.range i).filter fun r => !decide (tl F r = 0) && decide (F r = l)
theorem beh_succ (F : Nat → Nat) (i l : Nat) : beh F (i + 1) l = beh F i l ++ if (!decide (tl F i = 0) && decide (F i = l)) = true then [i] else [] := by
  unfold beh
  rw [List.range_succ, List.filter_append, List.filter_cons, List.filter_nil]
theorem mem_beh {F : Nat → Nat} {i l y : Nat} : y ∈ beh F i l ↔ y < i ∧ tl F y ≠ 0 ∧ F y = l := by
  unfold beh
  rw [List.mem_filter, List.mem_range, Bool.and_eq_true, Bool.not_eq_true', decide_eq_false_iff_not, decide_eq_true_eq]
/-- just the rests with this tail -/
def Lay (F : Nat → Nat) (n k : Nat) (ls : List Nat) : Prop := ls.Nodup ∧ ∀ y, y ∈ ls ↔ y < n ∧ tl F y = k
theorem Lay.len {F : Nat → Nat} {n k : Nat} {ls : List Nat} (h : Lay F n k ls) : ls.length ≤ n := by
  have := List.Nodup.length_le_of_subset h.1 (l₂ := List.range n) fun y hy => List.mem_range.mpr ((h.2 y).mp hy).1
  rwa [List.length_range] at this
theorem Lay.next {F : Nat → Nat} {n k : Nat} {ls : List Nat} (hF : ∀ x, x < n → F x < n) (h : Lay F n k ls) : Lay F n (k + 1) (ls.flatMap (beh F n)) := by
  have nd : ∀ ls : List Nat, ls.Nodup → (ls.flatMap (beh F n)).Nodup := fun ls hl => by
    induction ls with
    | nil => exact List.nodup_nil
    | cons a ls ih =>
      obtain ⟨h1, h2⟩ := List.nodup_cons.mp hl
      rw [List.flatMap_cons]
      refine List.nodup_append.mpr ⟨List.nodup_range.filter _, ih h2, fun x hx y hy e => ?_⟩
      obtain ⟨l, hl, hy⟩ := List.mem_flatMap.mp hy
      have e1 := (mem_beh.mp hx).2.2
      have e2 := (mem_beh.mp hy).2.2
      rw [e, e2] at e1
      rw [e1] at hl
      exact h1 hl
  refine ⟨nd ls h.1, fun y => ?_⟩
  rw [List.mem_flatMap]
  constructor
  · rintro ⟨l, hl, hy⟩
    obtain ⟨a1, a2, a3⟩ := mem_beh.mp hy
    refine ⟨a1, ?_⟩
    rw [tl_step hF a1 (fun o => a2 ((tl_on hF a1).mp o)), a3, ((h.2 l).mp hl).2]
  · rintro ⟨a1, a2⟩
    have no : ¬ OnR F y := fun o => by have := (tl_on hF a1).mp o; omega
    have := tl_step hF a1 no
    exact ⟨F y, (h.2 _).mpr ⟨hF y a1, by omega⟩, mem_beh.mpr ⟨a1, by omega, rfl⟩⟩
/-- an empty layer: all tails are below -/
theorem Lay.stop {F : Nat → Nat} {n k : Nat} (hF : ∀ x, x < n → F x < n) (h : Lay F n k []) : ∀ y, y < n → tl F y < k := fun y hy => by
  refine Classical.byContradiction fun c => ?_
  have go : ∀ d y, y < n → tl F y = k + d → False := fun d => by
    induction d with
    | zero => exact fun y hy e => nomatch (h.2 y).mpr ⟨hy, e⟩
    | succ d ih =>
      intro y hy e
      have no : ¬ OnR F y := fun o => by have := (tl_on hF hy).mp o; omega
      have := tl_step hF hy no
      exact ih (F y) (hF y hy) (by omega)
  exact go (tl F y - k) y hy (by omega)
theorem tl_lt {F : Nat → Nat} {n r : Nat} (hF : ∀ x, x < n → F x < n) (hr : r < n) : tl F r < n := by
  obtain ⟨t, c, h⟩ := rho_ex hF hr
  rw [tl_eq h]
  have := h.le hF hr
  have := h.pos
  omega
/-- the greatest tail -/
def TopT (F : Nat → Nat) (n m : Nat) : Prop := (∃ y, y < n ∧ tl F y = m) ∧ ∀ y, y < n → tl F y ≤ m
theorem turn_top {F : Nat → Nat} {n m : Nat} (hF : ∀ x, x < n → F x < n) (h : TopT F n m) : (∀ a, a < n → ∀ b, b < n → F a = F b → a = b) ↔ m = 0 := by
  constructor
  · intro inj
    obtain ⟨y, hy, e⟩ := h.1
    rw [← e]
    refine Classical.byContradiction fun c => ?_
    obtain ⟨t, p, R⟩ := rho_ex hF hy
    have et := tl_eq R
    obtain ⟨s, rfl⟩ : ∃ s, t = s + 1 := ⟨t - 1, by omega⟩
    have p0 := R.pos
    have b : F (itf F y (s + p)) = F (itf F y s) := by
      have := R.back
      rw [show s + 1 + p = s + p + 1 by omega] at this
      exact this
    exact R.uniq (s + p) (by omega) s (by omega) (inj _ (itf_lt hF hy _) _ (itf_lt hF hy _) b)
  · intro m0 a ha b hb e
    have z : ∀ y, y < n → tl F y = 0 := fun y hy => by have := h.2 y hy; omega
    obtain ⟨d, d0, hd⟩ := (tl_on hF ha).mpr (z a ha)
    obtain ⟨d', d0', hd'⟩ := (tl_on hF hb).mpr (z b hb)
    have e1 := OnR.mul hd d'
    have e2 := OnR.mul hd' d
    have q : 0 < d * d' := Nat.mul_pos d0 d0'
    rw [Nat.mul_comm d' d] at e2
    rw [← e1, ← e2, show d * d' = d * d' - 1 + 1 by omega, ← itf_succ, ← itf_succ, e]
end Vf

namespace K37
open PySem PySem.Spec PyProof.Rows L2 Vf
/-! ### the text -/
def topS (i : Nat) : Stmt := PySem.Challenge.pw_restworld_k37_whole_rings_of_sums.main.body.getD i (.Pass ⟨0, 0, 0, 0⟩)
abbrev s_is_integer : Stmt := topS 13
theorem sc_is_integer : FnScope ["given"] ["given"] (defScope s_is_integer) := ⟨rfl, rfl, rfl, by decide +kernel, rfl, by decide +kernel, by decide +kernel⟩
theorem bd_is_integer {K : PySem.W.Frag} {f : Addr} {fd : FuncData} (F : L2.Fun K "is_integer" "is_integer" s_is_integer f fd) : L2.Binds K fd ["given"] [] := F.binds (ps := ["given"]) fun _ _ _ _ _ _ us hl => match us, hl with | [_], _ => rfl
abbrev s_is_within : Stmt := topS 14
theorem sc_is_within : FnScope ["given", "least", "most"] ["given", "least", "most"] (defScope s_is_within) := ⟨rfl, rfl, rfl, by decide +kernel, rfl, by decide +kernel, by decide +kernel⟩
theorem bd_is_within {K : PySem.W.Frag} {f : Addr} {fd : FuncData} (F : L2.Fun K "is_within" "is_within" s_is_within f fd) : L2.Binds K fd ["given", "least", "most"] [] := F.binds (ps := ["given", "least", "most"]) fun _ _ _ _ _ _ us hl => match us, hl with | [_, _, _], _ => rfl
abbrev s_check_within : Stmt := topS 15
theorem sc_check_within : FnScope ["given", "least", "most"] ["given", "least", "most"] (defScope s_check_within) := ⟨rfl, rfl, rfl, by decide +kernel, rfl, by decide +kernel, by decide +kernel⟩
theorem bd_check_within {K : PySem.W.Frag} {f : Addr} {fd : FuncData} (F : L2.Fun K "check_within" "check_within" s_check_within f fd) : L2.Binds K fd ["given", "least", "most"] [] := F.binds (ps := ["given", "least", "most"]) fun _ _ _ _ _ _ us hl => match us, hl with | [_, _, _], _ => rfl
abbrev s_check_number : Stmt := topS 16
theorem sc_check_number : FnScope ["given"] ["given"] (defScope s_check_number) := ⟨rfl, rfl, rfl, by decide +kernel, rfl, by decide +kernel, by decide +kernel⟩
theorem bd_check_number {K : PySem.W.Frag} {f : Addr} {fd : FuncData} (F : L2.Fun K "check_number" "check_number" s_check_number f fd) : L2.Binds K fd ["given"] [] := F.binds (ps := ["given"]) fun _ _ _ _ _ _ us hl => match us, hl with | [_], _ => rfl
abbrev s_check_base : Stmt := topS 17
theorem sc_check_base : FnScope ["given"] ["given"] (defScope s_check_base) := ⟨rfl, rfl, rfl, by decide +kernel, rfl, by decide +kernel, by decide +kernel⟩
theorem bd_check_base {K : PySem.W.Frag} {f : Addr} {fd : FuncData} (F : L2.Fun K "check_base" "check_base" s_check_base f fd) : L2.Binds K fd ["given"] [] := F.binds (ps := ["given"]) fun _ _ _ _ _ _ us hl => match us, hl with | [_], _ => rfl
abbrev s_check_walked : Stmt := topS 18
theorem sc_check_walked : FnScope ["base"] ["base"] (defScope s_check_walked) := ⟨rfl, rfl, rfl, by decide +kernel, rfl, by decide +kernel, by decide +kernel⟩
theorem bd_check_walked {K : PySem.W.Frag} {f : Addr} {fd : FuncData} (F : L2.Fun K "check_walked" "check_walked" s_check_walked f fd) : L2.Binds K fd ["base"] [] := F.binds (ps := ["base"]) fun _ _ _ _ _ _ us hl => match us, hl with | [_], _ => rfl
abbrev s_is_sum : Stmt := topS 19
theorem sc_is_sum : FnScope ["given", "coefficient"] ["given"] (defScope s_is_sum) := ⟨rfl, rfl, rfl, by decide +kernel, rfl, by decide +kernel, by decide +kernel⟩
theorem bd_is_sum {K : PySem.W.Frag} {f : Addr} {fd : FuncData} (F : L2.Fun K "is_sum" "is_sum" s_is_sum f fd) : L2.Binds K fd ["given"] [] := F.binds (ps := ["given"]) fun _ _ _ _ _ _ us hl => match us, hl with | [_], _ => rfl
abbrev s_is_coefficient : Stmt := topS 20
theorem sc_is_coefficient : FnScope ["given"] ["given"] (defScope s_is_coefficient) := ⟨rfl, rfl, rfl, by decide +kernel, rfl, by decide +kernel, by decide +kernel⟩
theorem bd_is_coefficient {K : PySem.W.Frag} {f : Addr} {fd : FuncData} (F : L2.Fun K "is_coefficient" "is_coefficient" s_is_coefficient f fd) : L2.Binds K fd ["given"] [] := F.binds (ps := ["given"]) fun _ _ _ _ _ _ us hl => match us, hl with | [_], _ => rfl
abbrev s_check_sum : Stmt := topS 21
theorem sc_check_sum : FnScope ["given"] ["given"] (defScope s_check_sum) := ⟨rfl, rfl, rfl, by decide +kernel, rfl, by decide +kernel, by decide +kernel⟩
theorem bd_check_sum {K : PySem.W.Frag} {f : Addr} {fd : FuncData} (F : L2.Fun K "check_sum" "check_sum" s_check_sum f fd) : L2.Binds K fd ["given"] [] := F.binds (ps := ["given"]) fun _ _ _ _ _ _ us hl => match us, hl with | [_], _ => rfl
abbrev s_rest_at : Stmt := topS 23
theorem sc_rest_at : FnScope ["terms", "number", "base", "total", "coefficient"] ["terms", "number", "base"] (defScope s_rest_at) := ⟨rfl, rfl, rfl, by decide +kernel, rfl, by decide +kernel, by decide +kernel⟩
theorem bd_rest_at {K : PySem.W.Frag} {f : Addr} {fd : FuncData} (F : L2.Fun K "rest_at" "rest_at" s_rest_at f fd) : L2.Binds K fd ["terms", "number", "base"] [] := F.binds (ps := ["terms", "number", "base"]) fun _ _ _ _ _ _ us hl => match us, hl with | [_, _, _], _ => rfl
abbrev s_slope_of : Stmt := topS 24
theorem sc_slope_of : FnScope ["terms", "power"] ["terms"] (defScope s_slope_of) := ⟨rfl, rfl, rfl, by decide +kernel, rfl, by decide +kernel, by decide +kernel⟩
theorem bd_slope_of {K : PySem.W.Frag} {f : Addr} {fd : FuncData} (F : L2.Fun K "slope_of" "slope_of" s_slope_of f fd) : L2.Binds K fd ["terms"] [] := F.binds (ps := ["terms"]) fun _ _ _ _ _ _ us hl => match us, hl with | [_], _ => rfl
abbrev s_times_in : Stmt := topS 26
theorem sc_times_in : FnScope ["number", "prime", "times", "left"] ["number", "prime"] (defScope s_times_in) := ⟨rfl, rfl, rfl, by decide +kernel, rfl, by decide +kernel, by decide +kernel⟩
theorem bd_times_in {K : PySem.W.Frag} {f : Addr} {fd : FuncData} (F : L2.Fun K "times_in" "times_in" s_times_in f fd) : L2.Binds K fd ["number", "prime"] [] := F.binds (ps := ["number", "prime"]) fun _ _ _ _ _ _ us hl => match us, hl with | [_, _], _ => rfl
abbrev s_table_of : Stmt := topS 28
theorem sc_table_of : FnScope ["terms", "base", "number"] ["terms", "base"] (defScope s_table_of) := ⟨rfl, rfl, rfl, by decide +kernel, rfl, by decide +kernel, by decide +kernel⟩
theorem bd_table_of {K : PySem.W.Frag} {f : Addr} {fd : FuncData} (F : L2.Fun K "table_of" "table_of" s_table_of f fd) : L2.Binds K fd ["terms", "base"] [] := F.binds (ps := ["terms", "base"]) fun _ _ _ _ _ _ us hl => match us, hl with | [_, _], _ => rfl
abbrev s_rings : Stmt := topS 30
theorem sc_rings : FnScope ["terms", "base", "many", "ring"] ["terms", "base"] (defScope s_rings) := ⟨rfl, rfl, rfl, by decide +kernel, rfl, by decide +kernel, by decide +kernel⟩
theorem bd_rings {K : PySem.W.Frag} {f : Addr} {fd : FuncData} (F : L2.Fun K "rings" "rings" s_rings f fd) : L2.Binds K fd ["terms", "base"] [] := F.binds (ps := ["terms", "base"]) fun _ _ _ _ _ _ us hl => match us, hl with | [_, _], _ => rfl
abbrev s_ring_of : Stmt := topS 31
theorem sc_ring_of : FnScope ["terms", "base", "number", "path", "begin"] ["terms", "base", "number"] (defScope s_ring_of) := ⟨rfl, rfl, rfl, by decide +kernel, rfl, by decide +kernel, by decide +kernel⟩
theorem bd_ring_of {K : PySem.W.Frag} {f : Addr} {fd : FuncData} (F : L2.Fun K "ring_of" "ring_of" s_ring_of f fd) : L2.Binds K fd ["terms", "base", "number"] [] := F.binds (ps := ["terms", "base", "number"]) fun _ _ _ _ _ _ us hl => match us, hl with | [_, _, _], _ => rfl
abbrev s_tail : Stmt := topS 32
theorem sc_tail : FnScope ["terms", "base", "number", "_", "begin"] ["terms", "base", "number"] (defScope s_tail) := ⟨rfl, rfl, rfl, by decide +kernel, rfl, by decide +kernel, by decide +kernel⟩
theorem bd_tail {K : PySem.W.Frag} {f : Addr} {fd : FuncData} (F : L2.Fun K "tail" "tail" s_tail f fd) : L2.Binds K fd ["terms", "base", "number"] [] := F.binds (ps := ["terms", "base", "number"]) fun _ _ _ _ _ _ us hl => match us, hl with | [_, _, _], _ => rfl
abbrev s_longest_tail : Stmt := topS 33
theorem sc_longest_tail : FnScope ["terms", "base", "table", "behind", "on_ring", "ring", "rest", "led", "longest", "layer", "_"] ["terms", "base"] (defScope s_longest_tail) := ⟨rfl, rfl, rfl, by decide +kernel, rfl, by decide +kernel, by decide +kernel⟩
theorem bd_longest_tail {K : PySem.W.Frag} {f : Addr} {fd : FuncData} (F : L2.Fun K "longest_tail" "longest_tail" s_longest_tail f fd) : L2.Binds K fd ["terms", "base"] [] := F.binds (ps := ["terms", "base"]) fun _ _ _ _ _ _ us hl => match us, hl with | [_, _], _ => rfl
abbrev s_after : Stmt := topS 34
theorem sc_after : FnScope ["terms", "base", "number", "times", "path", "begin"] ["terms", "base", "number", "times"] (defScope s_after) := ⟨rfl, rfl, rfl, by decide +kernel, rfl, by decide +kernel, by decide +kernel⟩
theorem bd_after {K : PySem.W.Frag} {f : Addr} {fd : FuncData} (F : L2.Fun K "after" "after" s_after f fd) : L2.Binds K fd ["terms", "base", "number", "times"] [] := F.binds (ps := ["terms", "base", "number", "times"]) fun _ _ _ _ _ _ us hl => match us, hl with | [_, _, _, _], _ => rfl
abbrev s__check_ring : Stmt := topS 35
theorem sc__check_ring : FnScope ["terms", "base"] ["terms", "base"] (defScope s__check_ring) := ⟨rfl, rfl, rfl, by decide +kernel, rfl, by decide +kernel, by decide +kernel⟩
theorem bd__check_ring {K : PySem.W.Frag} {f : Addr} {fd : FuncData} (F : L2.Fun K "_check_ring" "_check_ring" s__check_ring f fd) : L2.Binds K fd ["terms", "base"] [] := F.binds (ps := ["terms", "base"]) fun _ _ _ _ _ _ us hl => match us, hl with | [_, _], _ => rfl
abbrev s__check_from : Stmt := topS 36
theorem sc__check_from : FnScope ["terms", "base", "number"] ["terms", "base", "number"] (defScope s__check_from) := ⟨rfl, rfl, rfl, by decide +kernel, rfl, by decide +kernel, by decide +kernel⟩
theorem bd__check_from {K : PySem.W.Frag} {f : Addr} {fd : FuncData} (F : L2.Fun K "_check_from" "_check_from" s__check_from f fd) : L2.Binds K fd ["terms", "base", "number"] [] := F.binds (ps := ["terms", "base", "number"]) fun _ _ _ _ _ _ us hl => match us, hl with | [_, _, _], _ => rfl
abbrev s__path : Stmt := topS 37
theorem sc__path : FnScope ["terms", "base", "number", "seen", "path", "rest"] ["terms", "base", "number"] (defScope s__path) := ⟨rfl, rfl, rfl, by decide +kernel, rfl, by decide +kernel, by decide +kernel⟩
theorem bd__path {K : PySem.W.Frag} {f : Addr} {fd : FuncData} (F : L2.Fun K "_path" "_path" s__path f fd) : L2.Binds K fd ["terms", "base", "number"] [] := F.binds (ps := ["terms", "base", "number"]) fun _ _ _ _ _ _ us hl => match us, hl with | [_, _, _], _ => rfl
abbrev s__least_first : Stmt := topS 38
theorem sc__least_first : FnScope ["ring", "least"] ["ring"] (defScope s__least_first) := ⟨rfl, rfl, rfl, by decide +kernel, rfl, by decide +kernel, by decide +kernel⟩
theorem bd__least_first {K : PySem.W.Frag} {f : Addr} {fd : FuncData} (F : L2.Fun K "_least_first" "_least_first" s__least_first f fd) : L2.Binds K fd ["ring"] [] := F.binds (ps := ["ring"]) fun _ _ _ _ _ _ us hl => match us, hl with | [_], _ => rfl
abbrev s__all_rings : Stmt := topS 39
theorem sc__all_rings : FnScope ["table", "found", "begun", "first", "path", "rest"] ["table"] (defScope s__all_rings) := ⟨rfl, rfl, rfl, by decide +kernel, rfl, by decide +kernel, by decide +kernel⟩
theorem bd__all_rings {K : PySem.W.Frag} {f : Addr} {fd : FuncData} (F : L2.Fun K "_all_rings" "_all_rings" s__all_rings f fd) : L2.Binds K fd ["table"] [] := F.binds (ps := ["table"]) fun _ _ _ _ _ _ us hl => match us, hl with | [_], _ => rfl
abbrev s_apart : Stmt := topS 41
theorem sc_apart : FnScope ["base", "pairs", "left", "divisor", "often", "_"] ["base"] (defScope s_apart) := ⟨rfl, rfl, rfl, by decide +kernel, rfl, by decide +kernel, by decide +kernel⟩
theorem bd_apart {K : PySem.W.Frag} {f : Addr} {fd : FuncData} (F : L2.Fun K "apart" "apart" s_apart f fd) : L2.Binds K fd ["base"] [] := F.binds (ps := ["base"]) fun _ _ _ _ _ _ us hl => match us, hl with | [_], _ => rfl
abbrev s_apart_in_small : Stmt := topS 43
theorem sc_apart_in_small : FnScope ["base", "pairs", "prime", "_"] ["base"] (defScope s_apart_in_small) := ⟨rfl, rfl, rfl, by decide +kernel, rfl, by decide +kernel, by decide +kernel⟩
theorem bd_apart_in_small {K : PySem.W.Frag} {f : Addr} {fd : FuncData} (F : L2.Fun K "apart_in_small" "apart_in_small" s_apart_in_small f fd) : L2.Binds K fd ["base"] [] := F.binds (ps := ["base"]) fun _ _ _ _ _ _ us hl => match us, hl with | [_], _ => rfl
abbrev s_turns : Stmt := topS 45
theorem sc_turns : FnScope ["terms", "base", "prime", "often"] ["terms", "base"] (defScope s_turns) := ⟨rfl, rfl, rfl, by decide +kernel, rfl, by decide +kernel, by decide +kernel⟩
theorem bd_turns {K : PySem.W.Frag} {f : Addr} {fd : FuncData} (F : L2.Fun K "turns" "turns" s_turns f fd) : L2.Binds K fd ["terms", "base"] [] := F.binds (ps := ["terms", "base"]) fun _ _ _ _ _ _ us hl => match us, hl with | [_, _], _ => rfl
abbrev s__turns_by_power : Stmt := topS 46
theorem sc__turns_by_power : FnScope ["terms", "prime", "often", "shown", "rest"] ["terms", "prime", "often"] (defScope s__turns_by_power) := ⟨rfl, rfl, rfl, by decide +kernel, rfl, by decide +kernel, by decide +kernel⟩
theorem bd__turns_by_power {K : PySem.W.Frag} {f : Addr} {fd : FuncData} (F : L2.Fun K "_turns_by_power" "_turns_by_power" s__turns_by_power f fd) : L2.Binds K fd ["terms", "prime", "often"] [] := F.binds (ps := ["terms", "prime", "often"]) fun _ _ _ _ _ _ us hl => match us, hl with | [_, _, _], _ => rfl
abbrev s__law_cask : Stmt := topS 48
theorem sc__law_cask : FnScope ["_law_script", "_law_k", "_law_own", "_law_stirred", "_law_entry"] ["_law_script", "_law_k"] (defScope s__law_cask) := ⟨rfl, rfl, rfl, by decide +kernel, rfl, by decide +kernel, by decide +kernel⟩
theorem bd__law_cask {K : PySem.W.Frag} {f : Addr} {fd : FuncData} (F : L2.Fun K "_law_cask" "_law_cask" s__law_cask f fd) : L2.Binds K fd ["_law_script", "_law_k"] [] := F.binds (ps := ["_law_script", "_law_k"]) fun _ _ _ _ _ _ us hl => match us, hl with | [_, _], _ => rfl
abbrev s__law_tap : Stmt := topS 49
theorem sc__law_tap : FnScope ["_law_cask_here", "_law_many", "_law_figure"] ["_law_cask_here", "_law_many"] (defScope s__law_tap) := ⟨rfl, rfl, rfl, by decide +kernel, rfl, by decide +kernel, by decide +kernel⟩
theorem bd__law_tap {K : PySem.W.Frag} {f : Addr} {fd : FuncData} (F : L2.Fun K "_law_tap" "_law_tap" s__law_tap f fd) : L2.Binds K fd ["_law_cask_here", "_law_many"] [] := F.binds (ps := ["_law_cask_here", "_law_many"]) fun _ _ _ _ _ _ us hl => match us, hl with | [_, _], _ => rfl
abbrev s__law_of : Stmt := topS 50
theorem sc__law_of : FnScope ["_law_cask_here", "_law_bowl"] ["_law_cask_here", "_law_bowl"] (defScope s__law_of) := ⟨rfl, rfl, rfl, by decide +kernel, rfl, by decide +kernel, by decide +kernel⟩
theorem bd__law_of {K : PySem.W.Frag} {f : Addr} {fd : FuncData} (F : L2.Fun K "_law_of" "_law_of" s__law_of f fd) : L2.Binds K fd ["_law_cask_here", "_law_bowl"] [] := F.binds (ps := ["_law_cask_here", "_law_bowl"]) fun _ _ _ _ _ _ us hl => match us, hl with | [_, _], _ => rfl
abbrev s__law_row : Stmt := topS 51
theorem sc__law_row : FnScope ["_law_cask_here", "_law_most", "_law_size", "_law_found", "_law_k"] ["_law_cask_here", "_law_most", "_law_size"] (defScope s__law_row) := ⟨rfl, rfl, rfl, by decide +kernel, rfl, by decide +kernel, by decide +kernel⟩
theorem bd__law_row {K : PySem.W.Frag} {f : Addr} {fd : FuncData} (F : L2.Fun K "_law_row" "_law_row" s__law_row f fd) : L2.Binds K fd ["_law_cask_here", "_law_most", "_law_size"] [] := F.binds (ps := ["_law_cask_here", "_law_most", "_law_size"]) fun _ _ _ _ _ _ us hl => match us, hl with | [_, _, _], _ => rfl
abbrev s__law_at : Stmt := topS 52
theorem sc__law_at : FnScope ["_law_row_here", "_law_number", "_law_found", "_law_part"] ["_law_row_here", "_law_number"] (defScope s__law_at) := ⟨rfl, rfl, rfl, by decide +kernel, rfl, by decide +kernel, by decide +kernel⟩
theorem bd__law_at {K : PySem.W.Frag} {f : Addr} {fd : FuncData} (F : L2.Fun K "_law_at" "_law_at" s__law_at f fd) : L2.Binds K fd ["_law_row_here", "_law_number"] [] := F.binds (ps := ["_law_row_here", "_law_number"]) fun _ _ _ _ _ _ us hl => match us, hl with | [_, _], _ => rfl
abbrev s__law_table : Stmt := topS 53
theorem sc__law_table : FnScope ["_law_row_here", "_law_base", "_law_number"] ["_law_row_here", "_law_base"] (defScope s__law_table) := ⟨rfl, rfl, rfl, by decide +kernel, rfl, by decide +kernel, by decide +kernel⟩
theorem bd__law_table {K : PySem.W.Frag} {f : Addr} {fd : FuncData} (F : L2.Fun K "_law_table" "_law_table" s__law_table f fd) : L2.Binds K fd ["_law_row_here", "_law_base"] [] := F.binds (ps := ["_law_row_here", "_law_base"]) fun _ _ _ _ _ _ us hl => match us, hl with | [_, _], _ => rfl
abbrev s__law_path : Stmt := topS 54
theorem sc__law_path : FnScope ["_law_table_here", "_law_rest", "_law_found"] ["_law_table_here", "_law_rest"] (defScope s__law_path) := ⟨rfl, rfl, rfl, by decide +kernel, rfl, by decide +kernel, by decide +kernel⟩
theorem bd__law_path {K : PySem.W.Frag} {f : Addr} {fd : FuncData} (F : L2.Fun K "_law_path" "_law_path" s__law_path f fd) : L2.Binds K fd ["_law_table_here", "_law_rest"] [] := F.binds (ps := ["_law_table_here", "_law_rest"]) fun _ _ _ _ _ _ us hl => match us, hl with | [_, _], _ => rfl
abbrev s__law_ring : Stmt := topS 55
theorem sc__law_ring : FnScope ["_law_table_here", "_law_rest", "_law_found", "_law_at_here", "_law_ring_here", "_law_k"] ["_law_table_here", "_law_rest"] (defScope s__law_ring) := ⟨rfl, rfl, rfl, by decide +kernel, rfl, by decide +kernel, by decide +kernel⟩
theorem bd__law_ring {K : PySem.W.Frag} {f : Addr} {fd : FuncData} (F : L2.Fun K "_law_ring" "_law_ring" s__law_ring f fd) : L2.Binds K fd ["_law_table_here", "_law_rest"] [] := F.binds (ps := ["_law_table_here", "_law_rest"]) fun _ _ _ _ _ _ us hl => match us, hl with | [_, _], _ => rfl
abbrev s__law_rings : Stmt := topS 56
theorem sc__law_rings : FnScope ["_law_table_here", "_law_known", "_law_lengths", "_law_ring_here", "_law_rest", "_law_size"] ["_law_table_here"] (defScope s__law_rings) := ⟨rfl, rfl, rfl, by decide +kernel, rfl, by decide +kernel, by decide +kernel⟩
theorem bd__law_rings {K : PySem.W.Frag} {f : Addr} {fd : FuncData} (F : L2.Fun K "_law_rings" "_law_rings" s__law_rings f fd) : L2.Binds K fd ["_law_table_here"] [] := F.binds (ps := ["_law_table_here"]) fun _ _ _ _ _ _ us hl => match us, hl with | [_], _ => rfl
abbrev s__law_number_right : Stmt := topS 57
theorem sc__law_number_right : FnScope ["_law_row_here", "_law_base", "_law_table_here", "_law_number", "_law_times", "_law_path_here", "_law_at_here", "_law_size", "_law_due"] ["_law_row_here", "_law_base", "_law_table_here", "_law_number", "_law_times"] (defScope s__law_number_right) := ⟨rfl, rfl, rfl, by decide +kernel, rfl, by decide +kernel, by decide +kernel⟩
theorem bd__law_number_right {K : PySem.W.Frag} {f : Addr} {fd : FuncData} (F : L2.Fun K "_law_number_right" "_law_number_right" s__law_number_right f fd) : L2.Binds K fd ["_law_row_here", "_law_base", "_law_table_here", "_law_number", "_law_times"] [] := F.binds (ps := ["_law_row_here", "_law_base", "_law_table_here", "_law_number", "_law_times"]) fun _ _ _ _ _ _ us hl => match us, hl with | [_, _, _, _, _], _ => rfl
abbrev s__law_right : Stmt := topS 58
theorem sc__law_right : FnScope ["_law_cask_here", "_law_turn", "_law_base", "_law_row_here", "_law_table_here", "_law_number", "_law_times", "_law_tails", "_law_rest", "_law_size", "_law_many"] ["_law_cask_here"] (defScope s__law_right) := ⟨rfl, rfl, rfl, by decide +kernel, rfl, by decide +kernel, by decide +kernel⟩
theorem bd__law_right {K : PySem.W.Frag} {f : Addr} {fd : FuncData} (F : L2.Fun K "_law_right" "_law_right" s__law_right f fd) : L2.Binds K fd ["_law_cask_here"] [] := F.binds (ps := ["_law_cask_here"]) fun _ _ _ _ _ _ us hl => match us, hl with | [_], _ => rfl
abbrev s_law : Stmt := topS 59
theorem sc_law : FnScope ["_law_script", "_law_k"] ["_law_script"] (defScope s_law) := ⟨rfl, rfl, rfl, by decide +kernel, rfl, by decide +kernel, by decide +kernel⟩
theorem bd_law {K : PySem.W.Frag} {f : Addr} {fd : FuncData} (F : L2.Fun K "law" "law" s_law f fd) : L2.Binds K fd ["_law_script"] [] := F.binds (ps := ["_law_script"]) fun _ _ _ _ _ _ us hl => match us, hl with | [_], _ => rfl
def g_kb_after_0 {α : Type} (us ws : List α) : List α := match us, ws with | [], [w0, w1, w2, w3] => [w3, w2, w1, w0] | _, _ => []
theorem kb_after_0 {K : PySem.W.Frag} {f : Addr} {fd : FuncData} (F : L2.Fun K "after" "after" s_after f fd) : KBinds K fd ["terms", "base", "number", "times"] [("times" : Str), ("number" : Str), ("base" : Str), ("terms" : Str)] g_kb_after_0 g_kb_after_0 := by
  obtain ⟨⟨oc, od, kV, doc, pm, an, cdv, ct, osl, rfl, lk, hcd⟩, _⟩ := F
  refine ⟨fun s us ws _ hl => ?_, fun {vs us zs ws} hv hz => ?_⟩
  · match us, ws, hl with
    | [], [w0, w1, w2, w3], _ => exact .of_eq rfl
  ·
    cases hv with
    | nil =>
      cases hz with
      | nil => exact Paired.nil
      | cons q0 t_q0 =>
        cases t_q0 with
        | nil => exact Paired.nil
        | cons q1 t_q1 =>
          cases t_q1 with
          | nil => exact Paired.nil
          | cons q2 t_q2 =>
            cases t_q2 with
            | nil => exact Paired.nil
            | cons q3 t_q3 =>
              cases t_q3 with
              | nil =>
                exact (.cons q3 (.cons q2 (.cons q1 (.cons q0 .nil))))
              | cons _ _ => exact Paired.nil
    | cons _ _ => exact Paired.nil

def g_kb_tail_1 {α : Type} (us ws : List α) : List α := match us, ws with | [], [w0, w1, w2] => [w2, w1, w0] | _, _ => []
theorem kb_tail_1 {K : PySem.W.Frag} {f : Addr} {fd : FuncData} (F : L2.Fun K "tail" "tail" s_tail f fd) : KBinds K fd ["terms", "base", "number"] [("number" : Str), ("base" : Str), ("terms" : Str)] g_kb_tail_1 g_kb_tail_1 := by
  obtain ⟨⟨oc, od, kV, doc, pm, an, cdv, ct, osl, rfl, lk, hcd⟩, _⟩ := F
  refine ⟨fun s us ws _ hl => ?_, fun {vs us zs ws} hv hz => ?_⟩
  · match us, ws, hl with
    | [], [w0, w1, w2], _ => exact .of_eq rfl
  ·
    cases hv with
    | nil =>
      cases hz with
      | nil => exact Paired.nil
      | cons q0 t_q0 =>
        cases t_q0 with
        | nil => exact Paired.nil
        | cons q1 t_q1 =>
          cases t_q1 with
          | nil => exact Paired.nil
          | cons q2 t_q2 =>
            cases t_q2 with
            | nil =>
              exact (.cons q2 (.cons q1 (.cons q0 .nil)))
            | cons _ _ => exact Paired.nil
    | cons _ _ => exact Paired.nil

def g_kb_rings_2 {α : Type} (us ws : List α) : List α := match us, ws with | [], [w0, w1] => [w1, w0] | _, _ => []
theorem kb_rings_2 {K : PySem.W.Frag} {f : Addr} {fd : FuncData} (F : L2.Fun K "rings" "rings" s_rings f fd) : KBinds K fd ["terms", "base"] [("base" : Str), ("terms" : Str)] g_kb_rings_2 g_kb_rings_2 := by
  obtain ⟨⟨oc, od, kV, doc, pm, an, cdv, ct, osl, rfl, lk, hcd⟩, _⟩ := F
  refine ⟨fun s us ws _ hl => ?_, fun {vs us zs ws} hv hz => ?_⟩
  · match us, ws, hl with
    | [], [w0, w1], _ => exact .of_eq rfl
  ·
    cases hv with
    | nil =>
      cases hz with
      | nil => exact Paired.nil
      | cons q0 t_q0 =>
        cases t_q0 with
        | nil => exact Paired.nil
        | cons q1 t_q1 =>
          cases t_q1 with
          | nil =>
            exact (.cons q1 (.cons q0 .nil))
          | cons _ _ => exact Paired.nil
    | cons _ _ => exact Paired.nil

/-! ### the top -/
structure Top (K : PySem.W.Frag) (mg : Str → Option Value) : Prop where
  d_is_integer : At K mg "is_integer" s_is_integer
  d_is_within : At K mg "is_within" s_is_within
  d_check_within : At K mg "check_within" s_check_within
  d_check_number : At K mg "check_number" s_check_number
  d_check_base : At K mg "check_base" s_check_base
  d_check_walked : At K mg "check_walked" s_check_walked
  d_is_sum : At K mg "is_sum" s_is_sum
  d_is_coefficient : At K mg "is_coefficient" s_is_coefficient
  d_check_sum : At K mg "check_sum" s_check_sum
  d_rest_at : At K mg "rest_at" s_rest_at
  d_slope_of : At K mg "slope_of" s_slope_of
  d_times_in : At K mg "times_in" s_times_in
  d_table_of : At K mg "table_of" s_table_of
  d_rings : At K mg "rings" s_rings
  d_ring_of : At K mg "ring_of" s_ring_of
  d_tail : At K mg "tail" s_tail
  d_longest_tail : At K mg "longest_tail" s_longest_tail
  d_after : At K mg "after" s_after
  d__check_ring : At K mg "_check_ring" s__check_ring
  d__check_from : At K mg "_check_from" s__check_from
  d__path : At K mg "_path" s__path
  d__least_first : At K mg "_least_first" s__least_first
  d__all_rings : At K mg "_all_rings" s__all_rings
  d_apart : At K mg "apart" s_apart
  d_apart_in_small : At K mg "apart_in_small" s_apart_in_small
  d_turns : At K mg "turns" s_turns
  d__turns_by_power : At K mg "_turns_by_power" s__turns_by_power
  d__law_cask : At K mg "_law_cask" s__law_cask
  d__law_tap : At K mg "_law_tap" s__law_tap
  d__law_of : At K mg "_law_of" s__law_of
  d__law_row : At K mg "_law_row" s__law_row
  d__law_at : At K mg "_law_at" s__law_at
  d__law_table : At K mg "_law_table" s__law_table
  d__law_path : At K mg "_law_path" s__law_path
  d__law_ring : At K mg "_law_ring" s__law_ring
  d__law_rings : At K mg "_law_rings" s__law_rings
  d__law_number_right : At K mg "_law_number_right" s__law_number_right
  d__law_right : At K mg "_law_right" s__law_right
  d_law : At K mg "law" s_law
  c_MOST_NUMBER : ∃ t, mg "MOST_NUMBER" = some (.int (10000000000000000000000000000000000000000) t)
  c_MOST_BASE : ∃ t, mg "MOST_BASE" = some (.int (1000000000000) t)
  c_MOST_DEGREE : ∃ t, mg "MOST_DEGREE" = some (.int (12) t)
  c_MOST_PRIME : ∃ t, mg "MOST_PRIME" = some (.int (1000) t)
  c_MOST_WALKED : ∃ t, mg "MOST_WALKED" = some (.int (5000) t)
  c_MOST_COEFFICIENT : ∃ t, mg "MOST_COEFFICIENT" = some (.int (1000000000000) t)
  b_abs : mg "abs" = none
  b_all : mg "all" = none
  b_bool : mg "bool" = none
  b_dict : mg "dict" = none
  b_divmod : mg "divmod" = none
  b_enumerate : mg "enumerate" = none
  b_int : mg "int" = none
  b_isinstance : mg "isinstance" = none
  b_len : mg "len" = none
  b_list : mg "list" = none
  b_max : mg "max" = none
  b_min : mg "min" = none
  b_range : mg "range" = none
  b_reversed : mg "reversed" = none
  b_set : mg "set" = none
  b_sorted : mg "sorted" = none
  b_sum : mg "sum" = none
  b_tuple : mg "tuple" = none
/-! ### the exceptions -/
/-! ### the end -/
theorem top_mk {K : PySem.W.Frag} {h : Heap} {mg : Str → Option Value} (X : K.In h) (G : h.Ns mainGlobals mg)
    {f0 : Addr} {od0 an0 : Option Addr} {sl0 : Array (Option Value)} {oc0 kV0 dc0 pm0 cd0 ct0 : Value}
    {f1 : Addr} {od1 an1 : Option Addr} {sl1 : Array (Option Value)} {oc1 kV1 dc1 pm1 cd1 ct1 : Value}
    {f2 : Addr} {od2 an2 : Option Addr} {sl2 : Array (Option Value)} {oc2 kV2 dc2 pm2 cd2 ct2 : Value}
    {f3 : Addr} {od3 an3 : Option Addr} {sl3 : Array (Option Value)} {oc3 kV3 dc3 pm3 cd3 ct3 : Value}
    {f4 : Addr} {od4 an4 : Option Addr} {sl4 : Array (Option Value)} {oc4 kV4 dc4 pm4 cd4 ct4 : Value}
    {f5 : Addr} {od5 an5 : Option Addr} {sl5 : Array (Option Value)} {oc5 kV5 dc5 pm5 cd5 ct5 : Value}
    {f6 : Addr} {od6 an6 : Option Addr} {sl6 : Array (Option Value)} {oc6 kV6 dc6 pm6 cd6 ct6 : Value}
    {f7 : Addr} {od7 an7 : Option Addr} {sl7 : Array (Option Value)} {oc7 kV7 dc7 pm7 cd7 ct7 : Value}
    {f8 : Addr} {od8 an8 : Option Addr} {sl8 : Array (Option Value)} {oc8 kV8 dc8 pm8 cd8 ct8 : Value}
    {f9 : Addr} {od9 an9 : Option Addr} {sl9 : Array (Option Value)} {oc9 kV9 dc9 pm9 cd9 ct9 : Value}
    {f10 : Addr} {od10 an10 : Option Addr} {sl10 : Array (Option Value)} {oc10 kV10 dc10 pm10 cd10 ct10 : Value}
    {f11 : Addr} {od11 an11 : Option Addr} {sl11 : Array (Option Value)} {oc11 kV11 dc11 pm11 cd11 ct11 : Value}
    {f12 : Addr} {od12 an12 : Option Addr} {sl12 : Array (Option Value)} {oc12 kV12 dc12 pm12 cd12 ct12 : Value}
    {f13 : Addr} {od13 an13 : Option Addr} {sl13 : Array (Option Value)} {oc13 kV13 dc13 pm13 cd13 ct13 : Value}
    {f14 : Addr} {od14 an14 : Option Addr} {sl14 : Array (Option Value)} {oc14 kV14 dc14 pm14 cd14 ct14 : Value}
    {f15 : Addr} {od15 an15 : Option Addr} {sl15 : Array (Option Value)} {oc15 kV15 dc15 pm15 cd15 ct15 : Value}
    {f16 : Addr} {od16 an16 : Option Addr} {sl16 : Array (Option Value)} {oc16 kV16 dc16 pm16 cd16 ct16 : Value}
    {f17 : Addr} {od17 an17 : Option Addr} {sl17 : Array (Option Value)} {oc17 kV17 dc17 pm17 cd17 ct17 : Value}
    {f18 : Addr} {od18 an18 : Option Addr} {sl18 : Array (Option Value)} {oc18 kV18 dc18 pm18 cd18 ct18 : Value}
    {f19 : Addr} {od19 an19 : Option Addr} {sl19 : Array (Option Value)} {oc19 kV19 dc19 pm19 cd19 ct19 : Value}
    {f20 : Addr} {od20 an20 : Option Addr} {sl20 : Array (Option Value)} {oc20 kV20 dc20 pm20 cd20 ct20 : Value}
    {f21 : Addr} {od21 an21 : Option Addr} {sl21 : Array (Option Value)} {oc21 kV21 dc21 pm21 cd21 ct21 : Value}
    {f22 : Addr} {od22 an22 : Option Addr} {sl22 : Array (Option Value)} {oc22 kV22 dc22 pm22 cd22 ct22 : Value}
    {f23 : Addr} {od23 an23 : Option Addr} {sl23 : Array (Option Value)} {oc23 kV23 dc23 pm23 cd23 ct23 : Value}
    {f24 : Addr} {od24 an24 : Option Addr} {sl24 : Array (Option Value)} {oc24 kV24 dc24 pm24 cd24 ct24 : Value}
    {f25 : Addr} {od25 an25 : Option Addr} {sl25 : Array (Option Value)} {oc25 kV25 dc25 pm25 cd25 ct25 : Value}
    {f26 : Addr} {od26 an26 : Option Addr} {sl26 : Array (Option Value)} {oc26 kV26 dc26 pm26 cd26 ct26 : Value}
    {f27 : Addr} {od27 an27 : Option Addr} {sl27 : Array (Option Value)} {oc27 kV27 dc27 pm27 cd27 ct27 : Value}
    {f28 : Addr} {od28 an28 : Option Addr} {sl28 : Array (Option Value)} {oc28 kV28 dc28 pm28 cd28 ct28 : Value}
    {f29 : Addr} {od29 an29 : Option Addr} {sl29 : Array (Option Value)} {oc29 kV29 dc29 pm29 cd29 ct29 : Value}
    {f30 : Addr} {od30 an30 : Option Addr} {sl30 : Array (Option Value)} {oc30 kV30 dc30 pm30 cd30 ct30 : Value}
    {f31 : Addr} {od31 an31 : Option Addr} {sl31 : Array (Option Value)} {oc31 kV31 dc31 pm31 cd31 ct31 : Value}
    {f32 : Addr} {od32 an32 : Option Addr} {sl32 : Array (Option Value)} {oc32 kV32 dc32 pm32 cd32 ct32 : Value}
    {f33 : Addr} {od33 an33 : Option Addr} {sl33 : Array (Option Value)} {oc33 kV33 dc33 pm33 cd33 ct33 : Value}
    {f34 : Addr} {od34 an34 : Option Addr} {sl34 : Array (Option Value)} {oc34 kV34 dc34 pm34 cd34 ct34 : Value}
    {f35 : Addr} {od35 an35 : Option Addr} {sl35 : Array (Option Value)} {oc35 kV35 dc35 pm35 cd35 ct35 : Value}
    {f36 : Addr} {od36 an36 : Option Addr} {sl36 : Array (Option Value)} {oc36 kV36 dc36 pm36 cd36 ct36 : Value}
    {f37 : Addr} {od37 an37 : Option Addr} {sl37 : Array (Option Value)} {oc37 kV37 dc37 pm37 cd37 ct37 : Value}
    {f38 : Addr} {od38 an38 : Option Addr} {sl38 : Array (Option Value)} {oc38 kV38 dc38 pm38 cd38 ct38 : Value}
    {t_MOST_NUMBER : Tok}
    {t_MOST_BASE : Tok}
    {t_MOST_DEGREE : Tok}
    {t_MOST_PRIME : Tok}
    {t_MOST_WALKED : Tok}
    {t_MOST_COEFFICIENT : Tok}
    (a0 : PySem.W.nsIn K mainGlobals "is_integer" = some (some (.ref f0))) (l0 : K.lookup f0 = some ⟨oc0, od0, .func (PySem.W.fnOf "is_integer" "is_integer" (defArgs s_is_integer) (defBody s_is_integer) (defScope s_is_integer) .none kV0 dc0 pm0 an0 cd0 ct0), sl0⟩) (c0 : PySem.W.codeIn K cd0 "is_integer" = true) (k0 : PySem.W.keepIn K (.ref f0) = true)
    (a1 : PySem.W.nsIn K mainGlobals "is_within" = some (some (.ref f1))) (l1 : K.lookup f1 = some ⟨oc1, od1, .func (PySem.W.fnOf "is_within" "is_within" (defArgs s_is_within) (defBody s_is_within) (defScope s_is_within) .none kV1 dc1 pm1 an1 cd1 ct1), sl1⟩) (c1 : PySem.W.codeIn K cd1 "is_within" = true) (k1 : PySem.W.keepIn K (.ref f1) = true)
    (a2 : PySem.W.nsIn K mainGlobals "check_within" = some (some (.ref f2))) (l2 : K.lookup f2 = some ⟨oc2, od2, .func (PySem.W.fnOf "check_within" "check_within" (defArgs s_check_within) (defBody s_check_within) (defScope s_check_within) .none kV2 dc2 pm2 an2 cd2 ct2), sl2⟩) (c2 : PySem.W.codeIn K cd2 "check_within" = true) (k2 : PySem.W.keepIn K (.ref f2) = true)
    (a3 : PySem.W.nsIn K mainGlobals "check_number" = some (some (.ref f3))) (l3 : K.lookup f3 = some ⟨oc3, od3, .func (PySem.W.fnOf "check_number" "check_number" (defArgs s_check_number) (defBody s_check_number) (defScope s_check_number) .none kV3 dc3 pm3 an3 cd3 ct3), sl3⟩) (c3 : PySem.W.codeIn K cd3 "check_number" = true) (k3 : PySem.W.keepIn K (.ref f3) = true)
    (a4 : PySem.W.nsIn K mainGlobals "check_base" = some (some (.ref f4))) (l4 : K.lookup f4 = some ⟨oc4, od4, .func (PySem.W.fnOf "check_base" "check_base" (defArgs s_check_base) (defBody s_check_base) (defScope s_check_base) .none kV4 dc4 pm4 an4 cd4 ct4), sl4⟩) (c4 : PySem.W.codeIn K cd4 "check_base" = true) (k4 : PySem.W.keepIn K (.ref f4) = true)
    (a5 : PySem.W.nsIn K mainGlobals "check_walked" = some (some (.ref f5))) (l5 : K.lookup f5 = some ⟨oc5, od5, .func (PySem.W.fnOf "check_walked" "check_walked" (defArgs s_check_walked) (defBody s_check_walked) (defScope s_check_walked) .none kV5 dc5 pm5 an5 cd5 ct5), sl5⟩) (c5 : PySem.W.codeIn K cd5 "check_walked" = true) (k5 : PySem.W.keepIn K (.ref f5) = true)
    (a6 : PySem.W.nsIn K mainGlobals "is_sum" = some (some (.ref f6))) (l6 : K.lookup f6 = some ⟨oc6, od6, .func (PySem.W.fnOf "is_sum" "is_sum" (defArgs s_is_sum) (defBody s_is_sum) (defScope s_is_sum) .none kV6 dc6 pm6 an6 cd6 ct6), sl6⟩) (c6 : PySem.W.codeIn K cd6 "is_sum" = true) (k6 : PySem.W.keepIn K (.ref f6) = true)
    (a7 : PySem.W.nsIn K mainGlobals "is_coefficient" = some (some (.ref f7))) (l7 : K.lookup f7 = some ⟨oc7, od7, .func (PySem.W.fnOf "is_coefficient" "is_coefficient" (defArgs s_is_coefficient) (defBody s_is_coefficient) (defScope s_is_coefficient) .none kV7 dc7 pm7 an7 cd7 ct7), sl7⟩) (c7 : PySem.W.codeIn K cd7 "is_coefficient" = true) (k7 : PySem.W.keepIn K (.ref f7) = true)
    (a8 : PySem.W.nsIn K mainGlobals "check_sum" = some (some (.ref f8))) (l8 : K.lookup f8 = some ⟨oc8, od8, .func (PySem.W.fnOf "check_sum" "check_sum" (defArgs s_check_sum) (defBody s_check_sum) (defScope s_check_sum) .none kV8 dc8 pm8 an8 cd8 ct8), sl8⟩) (c8 : PySem.W.codeIn K cd8 "check_sum" = true) (k8 : PySem.W.keepIn K (.ref f8) = true)
    (a9 : PySem.W.nsIn K mainGlobals "rest_at" = some (some (.ref f9))) (l9 : K.lookup f9 = some ⟨oc9, od9, .func (PySem.W.fnOf "rest_at" "rest_at" (defArgs s_rest_at) (defBody s_rest_at) (defScope s_rest_at) .none kV9 dc9 pm9 an9 cd9 ct9), sl9⟩) (c9 : PySem.W.codeIn K cd9 "rest_at" = true) (k9 : PySem.W.keepIn K (.ref f9) = true)
    (a10 : PySem.W.nsIn K mainGlobals "slope_of" = some (some (.ref f10))) (l10 : K.lookup f10 = some ⟨oc10, od10, .func (PySem.W.fnOf "slope_of" "slope_of" (defArgs s_slope_of) (defBody s_slope_of) (defScope s_slope_of) .none kV10 dc10 pm10 an10 cd10 ct10), sl10⟩) (c10 : PySem.W.codeIn K cd10 "slope_of" = true) (k10 : PySem.W.keepIn K (.ref f10) = true)
    (a11 : PySem.W.nsIn K mainGlobals "times_in" = some (some (.ref f11))) (l11 : K.lookup f11 = some ⟨oc11, od11, .func (PySem.W.fnOf "times_in" "times_in" (defArgs s_times_in) (defBody s_times_in) (defScope s_times_in) .none kV11 dc11 pm11 an11 cd11 ct11), sl11⟩) (c11 : PySem.W.codeIn K cd11 "times_in" = true) (k11 : PySem.W.keepIn K (.ref f11) = true)
    (a12 : PySem.W.nsIn K mainGlobals "table_of" = some (some (.ref f12))) (l12 : K.lookup f12 = some ⟨oc12, od12, .func (PySem.W.fnOf "table_of" "table_of" (defArgs s_table_of) (defBody s_table_of) (defScope s_table_of) .none kV12 dc12 pm12 an12 cd12 ct12), sl12⟩) (c12 : PySem.W.codeIn K cd12 "table_of" = true) (k12 : PySem.W.keepIn K (.ref f12) = true)
    (a13 : PySem.W.nsIn K mainGlobals "rings" = some (some (.ref f13))) (l13 : K.lookup f13 = some ⟨oc13, od13, .func (PySem.W.fnOf "rings" "rings" (defArgs s_rings) (defBody s_rings) (defScope s_rings) .none kV13 dc13 pm13 an13 cd13 ct13), sl13⟩) (c13 : PySem.W.codeIn K cd13 "rings" = true) (k13 : PySem.W.keepIn K (.ref f13) = true)
    (a14 : PySem.W.nsIn K mainGlobals "ring_of" = some (some (.ref f14))) (l14 : K.lookup f14 = some ⟨oc14, od14, .func (PySem.W.fnOf "ring_of" "ring_of" (defArgs s_ring_of) (defBody s_ring_of) (defScope s_ring_of) .none kV14 dc14 pm14 an14 cd14 ct14), sl14⟩) (c14 : PySem.W.codeIn K cd14 "ring_of" = true) (k14 : PySem.W.keepIn K (.ref f14) = true)
    (a15 : PySem.W.nsIn K mainGlobals "tail" = some (some (.ref f15))) (l15 : K.lookup f15 = some ⟨oc15, od15, .func (PySem.W.fnOf "tail" "tail" (defArgs s_tail) (defBody s_tail) (defScope s_tail) .none kV15 dc15 pm15 an15 cd15 ct15), sl15⟩) (c15 : PySem.W.codeIn K cd15 "tail" = true) (k15 : PySem.W.keepIn K (.ref f15) = true)
    (a16 : PySem.W.nsIn K mainGlobals "longest_tail" = some (some (.ref f16))) (l16 : K.lookup f16 = some ⟨oc16, od16, .func (PySem.W.fnOf "longest_tail" "longest_tail" (defArgs s_longest_tail) (defBody s_longest_tail) (defScope s_longest_tail) .none kV16 dc16 pm16 an16 cd16 ct16), sl16⟩) (c16 : PySem.W.codeIn K cd16 "longest_tail" = true) (k16 : PySem.W.keepIn K (.ref f16) = true)
    (a17 : PySem.W.nsIn K mainGlobals "after" = some (some (.ref f17))) (l17 : K.lookup f17 = some ⟨oc17, od17, .func (PySem.W.fnOf "after" "after" (defArgs s_after) (defBody s_after) (defScope s_after) .none kV17 dc17 pm17 an17 cd17 ct17), sl17⟩) (c17 : PySem.W.codeIn K cd17 "after" = true) (k17 : PySem.W.keepIn K (.ref f17) = true)
    (a18 : PySem.W.nsIn K mainGlobals "_check_ring" = some (some (.ref f18))) (l18 : K.lookup f18 = some ⟨oc18, od18, .func (PySem.W.fnOf "_check_ring" "_check_ring" (defArgs s__check_ring) (defBody s__check_ring) (defScope s__check_ring) .none kV18 dc18 pm18 an18 cd18 ct18), sl18⟩) (c18 : PySem.W.codeIn K cd18 "_check_ring" = true) (k18 : PySem.W.keepIn K (.ref f18) = true)
    (a19 : PySem.W.nsIn K mainGlobals "_check_from" = some (some (.ref f19))) (l19 : K.lookup f19 = some ⟨oc19, od19, .func (PySem.W.fnOf "_check_from" "_check_from" (defArgs s__check_from) (defBody s__check_from) (defScope s__check_from) .none kV19 dc19 pm19 an19 cd19 ct19), sl19⟩) (c19 : PySem.W.codeIn K cd19 "_check_from" = true) (k19 : PySem.W.keepIn K (.ref f19) = true)
    (a20 : PySem.W.nsIn K mainGlobals "_path" = some (some (.ref f20))) (l20 : K.lookup f20 = some ⟨oc20, od20, .func (PySem.W.fnOf "_path" "_path" (defArgs s__path) (defBody s__path) (defScope s__path) .none kV20 dc20 pm20 an20 cd20 ct20), sl20⟩) (c20 : PySem.W.codeIn K cd20 "_path" = true) (k20 : PySem.W.keepIn K (.ref f20) = true)
    (a21 : PySem.W.nsIn K mainGlobals "_least_first" = some (some (.ref f21))) (l21 : K.lookup f21 = some ⟨oc21, od21, .func (PySem.W.fnOf "_least_first" "_least_first" (defArgs s__least_first) (defBody s__least_first) (defScope s__least_first) .none kV21 dc21 pm21 an21 cd21 ct21), sl21⟩) (c21 : PySem.W.codeIn K cd21 "_least_first" = true) (k21 : PySem.W.keepIn K (.ref f21) = true)
    (a22 : PySem.W.nsIn K mainGlobals "_all_rings" = some (some (.ref f22))) (l22 : K.lookup f22 = some ⟨oc22, od22, .func (PySem.W.fnOf "_all_rings" "_all_rings" (defArgs s__all_rings) (defBody s__all_rings) (defScope s__all_rings) .none kV22 dc22 pm22 an22 cd22 ct22), sl22⟩) (c22 : PySem.W.codeIn K cd22 "_all_rings" = true) (k22 : PySem.W.keepIn K (.ref f22) = true)
    (a23 : PySem.W.nsIn K mainGlobals "apart" = some (some (.ref f23))) (l23 : K.lookup f23 = some ⟨oc23, od23, .func (PySem.W.fnOf "apart" "apart" (defArgs s_apart) (defBody s_apart) (defScope s_apart) .none kV23 dc23 pm23 an23 cd23 ct23), sl23⟩) (c23 : PySem.W.codeIn K cd23 "apart" = true) (k23 : PySem.W.keepIn K (.ref f23) = true)
    (a24 : PySem.W.nsIn K mainGlobals "apart_in_small" = some (some (.ref f24))) (l24 : K.lookup f24 = some ⟨oc24, od24, .func (PySem.W.fnOf "apart_in_small" "apart_in_small" (defArgs s_apart_in_small) (defBody s_apart_in_small) (defScope s_apart_in_small) .none kV24 dc24 pm24 an24 cd24 ct24), sl24⟩) (c24 : PySem.W.codeIn K cd24 "apart_in_small" = true) (k24 : PySem.W.keepIn K (.ref f24) = true)
    (a25 : PySem.W.nsIn K mainGlobals "turns" = some (some (.ref f25))) (l25 : K.lookup f25 = some ⟨oc25, od25, .func (PySem.W.fnOf "turns" "turns" (defArgs s_turns) (defBody s_turns) (defScope s_turns) .none kV25 dc25 pm25 an25 cd25 ct25), sl25⟩) (c25 : PySem.W.codeIn K cd25 "turns" = true) (k25 : PySem.W.keepIn K (.ref f25) = true)
    (a26 : PySem.W.nsIn K mainGlobals "_turns_by_power" = some (some (.ref f26))) (l26 : K.lookup f26 = some ⟨oc26, od26, .func (PySem.W.fnOf "_turns_by_power" "_turns_by_power" (defArgs s__turns_by_power) (defBody s__turns_by_power) (defScope s__turns_by_power) .none kV26 dc26 pm26 an26 cd26 ct26), sl26⟩) (c26 : PySem.W.codeIn K cd26 "_turns_by_power" = true) (k26 : PySem.W.keepIn K (.ref f26) = true)
    (a27 : PySem.W.nsIn K mainGlobals "_law_cask" = some (some (.ref f27))) (l27 : K.lookup f27 = some ⟨oc27, od27, .func (PySem.W.fnOf "_law_cask" "_law_cask" (defArgs s__law_cask) (defBody s__law_cask) (defScope s__law_cask) .none kV27 dc27 pm27 an27 cd27 ct27), sl27⟩) (c27 : PySem.W.codeIn K cd27 "_law_cask" = true) (k27 : PySem.W.keepIn K (.ref f27) = true)
    (a28 : PySem.W.nsIn K mainGlobals "_law_tap" = some (some (.ref f28))) (l28 : K.lookup f28 = some ⟨oc28, od28, .func (PySem.W.fnOf "_law_tap" "_law_tap" (defArgs s__law_tap) (defBody s__law_tap) (defScope s__law_tap) .none kV28 dc28 pm28 an28 cd28 ct28), sl28⟩) (c28 : PySem.W.codeIn K cd28 "_law_tap" = true) (k28 : PySem.W.keepIn K (.ref f28) = true)
    (a29 : PySem.W.nsIn K mainGlobals "_law_of" = some (some (.ref f29))) (l29 : K.lookup f29 = some ⟨oc29, od29, .func (PySem.W.fnOf "_law_of" "_law_of" (defArgs s__law_of) (defBody s__law_of) (defScope s__law_of) .none kV29 dc29 pm29 an29 cd29 ct29), sl29⟩) (c29 : PySem.W.codeIn K cd29 "_law_of" = true) (k29 : PySem.W.keepIn K (.ref f29) = true)
    (a30 : PySem.W.nsIn K mainGlobals "_law_row" = some (some (.ref f30))) (l30 : K.lookup f30 = some ⟨oc30, od30, .func (PySem.W.fnOf "_law_row" "_law_row" (defArgs s__law_row) (defBody s__law_row) (defScope s__law_row) .none kV30 dc30 pm30 an30 cd30 ct30), sl30⟩) (c30 : PySem.W.codeIn K cd30 "_law_row" = true) (k30 : PySem.W.keepIn K (.ref f30) = true)
    (a31 : PySem.W.nsIn K mainGlobals "_law_at" = some (some (.ref f31))) (l31 : K.lookup f31 = some ⟨oc31, od31, .func (PySem.W.fnOf "_law_at" "_law_at" (defArgs s__law_at) (defBody s__law_at) (defScope s__law_at) .none kV31 dc31 pm31 an31 cd31 ct31), sl31⟩) (c31 : PySem.W.codeIn K cd31 "_law_at" = true) (k31 : PySem.W.keepIn K (.ref f31) = true)
    (a32 : PySem.W.nsIn K mainGlobals "_law_table" = some (some (.ref f32))) (l32 : K.lookup f32 = some ⟨oc32, od32, .func (PySem.W.fnOf "_law_table" "_law_table" (defArgs s__law_table) (defBody s__law_table) (defScope s__law_table) .none kV32 dc32 pm32 an32 cd32 ct32), sl32⟩) (c32 : PySem.W.codeIn K cd32 "_law_table" = true) (k32 : PySem.W.keepIn K (.ref f32) = true)
    (a33 : PySem.W.nsIn K mainGlobals "_law_path" = some (some (.ref f33))) (l33 : K.lookup f33 = some ⟨oc33, od33, .func (PySem.W.fnOf "_law_path" "_law_path" (defArgs s__law_path) (defBody s__law_path) (defScope s__law_path) .none kV33 dc33 pm33 an33 cd33 ct33), sl33⟩) (c33 : PySem.W.codeIn K cd33 "_law_path" = true) (k33 : PySem.W.keepIn K (.ref f33) = true)
    (a34 : PySem.W.nsIn K mainGlobals "_law_ring" = some (some (.ref f34))) (l34 : K.lookup f34 = some ⟨oc34, od34, .func (PySem.W.fnOf "_law_ring" "_law_ring" (defArgs s__law_ring) (defBody s__law_ring) (defScope s__law_ring) .none kV34 dc34 pm34 an34 cd34 ct34), sl34⟩) (c34 : PySem.W.codeIn K cd34 "_law_ring" = true) (k34 : PySem.W.keepIn K (.ref f34) = true)
    (a35 : PySem.W.nsIn K mainGlobals "_law_rings" = some (some (.ref f35))) (l35 : K.lookup f35 = some ⟨oc35, od35, .func (PySem.W.fnOf "_law_rings" "_law_rings" (defArgs s__law_rings) (defBody s__law_rings) (defScope s__law_rings) .none kV35 dc35 pm35 an35 cd35 ct35), sl35⟩) (c35 : PySem.W.codeIn K cd35 "_law_rings" = true) (k35 : PySem.W.keepIn K (.ref f35) = true)
    (a36 : PySem.W.nsIn K mainGlobals "_law_number_right" = some (some (.ref f36))) (l36 : K.lookup f36 = some ⟨oc36, od36, .func (PySem.W.fnOf "_law_number_right" "_law_number_right" (defArgs s__law_number_right) (defBody s__law_number_right) (defScope s__law_number_right) .none kV36 dc36 pm36 an36 cd36 ct36), sl36⟩) (c36 : PySem.W.codeIn K cd36 "_law_number_right" = true) (k36 : PySem.W.keepIn K (.ref f36) = true)
    (a37 : PySem.W.nsIn K mainGlobals "_law_right" = some (some (.ref f37))) (l37 : K.lookup f37 = some ⟨oc37, od37, .func (PySem.W.fnOf "_law_right" "_law_right" (defArgs s__law_right) (defBody s__law_right) (defScope s__law_right) .none kV37 dc37 pm37 an37 cd37 ct37), sl37⟩) (c37 : PySem.W.codeIn K cd37 "_law_right" = true) (k37 : PySem.W.keepIn K (.ref f37) = true)
    (a38 : PySem.W.nsIn K mainGlobals "law" = some (some (.ref f38))) (l38 : K.lookup f38 = some ⟨oc38, od38, .func (PySem.W.fnOf "law" "law" (defArgs s_law) (defBody s_law) (defScope s_law) .none kV38 dc38 pm38 an38 cd38 ct38), sl38⟩) (c38 : PySem.W.codeIn K cd38 "law" = true) (k38 : PySem.W.keepIn K (.ref f38) = true)
    (q_MOST_NUMBER : PySem.W.nsIn K mainGlobals "MOST_NUMBER" = some (some (.int (10000000000000000000000000000000000000000) t_MOST_NUMBER)))
    (q_MOST_BASE : PySem.W.nsIn K mainGlobals "MOST_BASE" = some (some (.int (1000000000000) t_MOST_BASE)))
    (q_MOST_DEGREE : PySem.W.nsIn K mainGlobals "MOST_DEGREE" = some (some (.int (12) t_MOST_DEGREE)))
    (q_MOST_PRIME : PySem.W.nsIn K mainGlobals "MOST_PRIME" = some (some (.int (1000) t_MOST_PRIME)))
    (q_MOST_WALKED : PySem.W.nsIn K mainGlobals "MOST_WALKED" = some (some (.int (5000) t_MOST_WALKED)))
    (q_MOST_COEFFICIENT : PySem.W.nsIn K mainGlobals "MOST_COEFFICIENT" = some (some (.int (1000000000000) t_MOST_COEFFICIENT)))
    (b_abs : PySem.W.nsIn K mainGlobals "abs" = some none)
    (b_all : PySem.W.nsIn K mainGlobals "all" = some none)
    (b_bool : PySem.W.nsIn K mainGlobals "bool" = some none)
    (b_dict : PySem.W.nsIn K mainGlobals "dict" = some none)
    (b_divmod : PySem.W.nsIn K mainGlobals "divmod" = some none)
    (b_enumerate : PySem.W.nsIn K mainGlobals "enumerate" = some none)
    (b_int : PySem.W.nsIn K mainGlobals "int" = some none)
    (b_isinstance : PySem.W.nsIn K mainGlobals "isinstance" = some none)
    (b_len : PySem.W.nsIn K mainGlobals "len" = some none)
    (b_list : PySem.W.nsIn K mainGlobals "list" = some none)
    (b_max : PySem.W.nsIn K mainGlobals "max" = some none)
    (b_min : PySem.W.nsIn K mainGlobals "min" = some none)
    (b_range : PySem.W.nsIn K mainGlobals "range" = some none)
    (b_reversed : PySem.W.nsIn K mainGlobals "reversed" = some none)
    (b_set : PySem.W.nsIn K mainGlobals "set" = some none)
    (b_sorted : PySem.W.nsIn K mainGlobals "sorted" = some none)
    (b_sum : PySem.W.nsIn K mainGlobals "sum" = some none)
    (b_tuple : PySem.W.nsIn K mainGlobals "tuple" = some none) : Top K mg where
  d_is_integer := ⟨_, _, fun_mk (st := s_is_integer) l0 c0 k0, PySem.W.mg_of X G a0⟩
  d_is_within := ⟨_, _, fun_mk (st := s_is_within) l1 c1 k1, PySem.W.mg_of X G a1⟩
  d_check_within := ⟨_, _, fun_mk (st := s_check_within) l2 c2 k2, PySem.W.mg_of X G a2⟩
  d_check_number := ⟨_, _, fun_mk (st := s_check_number) l3 c3 k3, PySem.W.mg_of X G a3⟩
  d_check_base := ⟨_, _, fun_mk (st := s_check_base) l4 c4 k4, PySem.W.mg_of X G a4⟩
  d_check_walked := ⟨_, _, fun_mk (st := s_check_walked) l5 c5 k5, PySem.W.mg_of X G a5⟩
  d_is_sum := ⟨_, _, fun_mk (st := s_is_sum) l6 c6 k6, PySem.W.mg_of X G a6⟩
  d_is_coefficient := ⟨_, _, fun_mk (st := s_is_coefficient) l7 c7 k7, PySem.W.mg_of X G a7⟩
  d_check_sum := ⟨_, _, fun_mk (st := s_check_sum) l8 c8 k8, PySem.W.mg_of X G a8⟩
  d_rest_at := ⟨_, _, fun_mk (st := s_rest_at) l9 c9 k9, PySem.W.mg_of X G a9⟩
  d_slope_of := ⟨_, _, fun_mk (st := s_slope_of) l10 c10 k10, PySem.W.mg_of X G a10⟩
  d_times_in := ⟨_, _, fun_mk (st := s_times_in) l11 c11 k11, PySem.W.mg_of X G a11⟩
  d_table_of := ⟨_, _, fun_mk (st := s_table_of) l12 c12 k12, PySem.W.mg_of X G a12⟩
  d_rings := ⟨_, _, fun_mk (st := s_rings) l13 c13 k13, PySem.W.mg_of X G a13⟩
  d_ring_of := ⟨_, _, fun_mk (st := s_ring_of) l14 c14 k14, PySem.W.mg_of X G a14⟩
  d_tail := ⟨_, _, fun_mk (st := s_tail) l15 c15 k15, PySem.W.mg_of X G a15⟩
  d_longest_tail := ⟨_, _, fun_mk (st := s_longest_tail) l16 c16 k16, PySem.W.mg_of X G a16⟩
  d_after := ⟨_, _, fun_mk (st := s_after) l17 c17 k17, PySem.W.mg_of X G a17⟩
  d__check_ring := ⟨_, _, fun_mk (st := s__check_ring) l18 c18 k18, PySem.W.mg_of X G a18⟩
  d__check_from := ⟨_, _, fun_mk (st := s__check_from) l19 c19 k19, PySem.W.mg_of X G a19⟩
  d__path := ⟨_, _, fun_mk (st := s__path) l20 c20 k20, PySem.W.mg_of X G a20⟩
  d__least_first := ⟨_, _, fun_mk (st := s__least_first) l21 c21 k21, PySem.W.mg_of X G a21⟩
  d__all_rings := ⟨_, _, fun_mk (st := s__all_rings) l22 c22 k22, PySem.W.mg_of X G a22⟩
  d_apart := ⟨_, _, fun_mk (st := s_apart) l23 c23 k23, PySem.W.mg_of X G a23⟩
  d_apart_in_small := ⟨_, _, fun_mk (st := s_apart_in_small) l24 c24 k24, PySem.W.mg_of X G a24⟩
  d_turns := ⟨_, _, fun_mk (st := s_turns) l25 c25 k25, PySem.W.mg_of X G a25⟩
  d__turns_by_power := ⟨_, _, fun_mk (st := s__turns_by_power) l26 c26 k26, PySem.W.mg_of X G a26⟩
  d__law_cask := ⟨_, _, fun_mk (st := s__law_cask) l27 c27 k27, PySem.W.mg_of X G a27⟩
  d__law_tap := ⟨_, _, fun_mk (st := s__law_tap) l28 c28 k28, PySem.W.mg_of X G a28⟩
  d__law_of := ⟨_, _, fun_mk (st := s__law_of) l29 c29 k29, PySem.W.mg_of X G a29⟩
  d__law_row := ⟨_, _, fun_mk (st := s__law_row) l30 c30 k30, PySem.W.mg_of X G a30⟩
  d__law_at := ⟨_, _, fun_mk (st := s__law_at) l31 c31 k31, PySem.W.mg_of X G a31⟩
  d__law_table := ⟨_, _, fun_mk (st := s__law_table) l32 c32 k32, PySem.W.mg_of X G a32⟩
  d__law_path := ⟨_, _, fun_mk (st := s__law_path) l33 c33 k33, PySem.W.mg_of X G a33⟩
  d__law_ring := ⟨_, _, fun_mk (st := s__law_ring) l34 c34 k34, PySem.W.mg_of X G a34⟩
  d__law_rings := ⟨_, _, fun_mk (st := s__law_rings) l35 c35 k35, PySem.W.mg_of X G a35⟩
  d__law_number_right := ⟨_, _, fun_mk (st := s__law_number_right) l36 c36 k36, PySem.W.mg_of X G a36⟩
  d__law_right := ⟨_, _, fun_mk (st := s__law_right) l37 c37 k37, PySem.W.mg_of X G a37⟩
  d_law := ⟨_, _, fun_mk (st := s_law) l38 c38 k38, PySem.W.mg_of X G a38⟩
  c_MOST_NUMBER := ⟨_, PySem.W.mg_of X G q_MOST_NUMBER⟩
  c_MOST_BASE := ⟨_, PySem.W.mg_of X G q_MOST_BASE⟩
  c_MOST_DEGREE := ⟨_, PySem.W.mg_of X G q_MOST_DEGREE⟩
  c_MOST_PRIME := ⟨_, PySem.W.mg_of X G q_MOST_PRIME⟩
  c_MOST_WALKED := ⟨_, PySem.W.mg_of X G q_MOST_WALKED⟩
  c_MOST_COEFFICIENT := ⟨_, PySem.W.mg_of X G q_MOST_COEFFICIENT⟩
  b_abs := PySem.W.mg_none_of X G b_abs
  b_all := PySem.W.mg_none_of X G b_all
  b_bool := PySem.W.mg_none_of X G b_bool
  b_dict := PySem.W.mg_none_of X G b_dict
  b_divmod := PySem.W.mg_none_of X G b_divmod
  b_enumerate := PySem.W.mg_none_of X G b_enumerate
  b_int := PySem.W.mg_none_of X G b_int
  b_isinstance := PySem.W.mg_none_of X G b_isinstance
  b_len := PySem.W.mg_none_of X G b_len
  b_list := PySem.W.mg_none_of X G b_list
  b_max := PySem.W.mg_none_of X G b_max
  b_min := PySem.W.mg_none_of X G b_min
  b_range := PySem.W.mg_none_of X G b_range
  b_reversed := PySem.W.mg_none_of X G b_reversed
  b_set := PySem.W.mg_none_of X G b_set
  b_sorted := PySem.W.mg_none_of X G b_sorted
  b_sum := PySem.W.mg_none_of X G b_sum
  b_tuple := PySem.W.mg_none_of X G b_tuple
local macro_rules | `(tactic| walk_at "vat") => `(tactic| first
  | assumption
  | exact upd_same
  | (refine at_new (by assumption) ?_; walk_at "vat")
  | (refine at_same (by assumption) ?_; walk_at "vat")
  | (refine at_ne (by first | assumption | exact Ne.symm (by assumption)) ?_; walk_at "vat")
  | (refine at_kx (by assumption) (by first | assumption | exact Ne.symm (by assumption)) ?_; walk_at "vat"))
local macro_rules | `(tactic| walk_at "vsq") => `(tactic| first
  | assumption
  | (exact SqL.of (by walk_at "vat"))
  | (exact SqT.of (by walk_at "vat"))
  | (refine new_list (by assumption) ?_; walk_at "vsq")
  | (refine new_tup (by assumption) ?_; walk_at "vsq")
  | (refine Same.list (by assumption) ?_; walk_at "vsq")
  | (refine Same.tup (by assumption) ?_; walk_at "vsq")
  | (refine ne_list (by first | assumption | exact Ne.symm (by assumption)) ?_; walk_at "vsq")
  | (refine ne_tup (by first | assumption | exact Ne.symm (by assumption)) ?_; walk_at "vsq")
  | (refine Kx.list (by assumption) (by first | assumption | exact Ne.symm (by assumption)) ?_; walk_at "vsq")
  | (refine Kx.tup (by assumption) (by first | assumption | exact Ne.symm (by assumption)) ?_; walk_at "vsq"))
local macro_rules | `(tactic| walk_at "vsame") => `(tactic| first
  | exact Same.refl _
  | assumption
  | (refine Same.trans ?_ (Same.new (by assumption)); walk_at "vsame")
  | (refine Same.trans ?_ (by assumption); walk_at "vsame"))
local macro_rules | `(tactic| walk_at "vnone") => `(tactic| first
  | assumption
  | (refine none_up (by assumption))
  | (refine none_same (by assumption) ?_; walk_at "vnone"))
local macro_rules | `(tactic| walk_at "s") => `(tactic| first
  | (with_reducible refine r_seq ?_)
  | (with_reducible refine r_asg ?_)
  | (with_reducible refine r_name ?_)
  | ((with_reducible refine r_var (v := ?kv) ?k1 ?_); (case k1 => exact rfl))
  | (with_reducible refine r_c ?_)
  | (with_reducible refine r_yes ?_)
  | (with_reducible refine r_op ?_)
  | (with_reducible refine r_un ?_)
  | (with_reducible refine r_rI0 ?_)
  | (with_reducible refine r_rU ?_)
  | (with_reducible refine r_test ?_)
  | (with_reducible refine r_B ?_)
  | (with_reducible refine r_ret ?_)
  | (with_reducible refine r_drop ?_)
  | (with_reducible refine r_cons ?_)
  | (with_reducible refine r_nil ?_)
  | (with_reducible refine r_call ?_)
  | (with_reducible refine r_callK ?_)
  | (with_reducible refine r_callW ?_)
  | (with_reducible refine r_callKW ?_)
  | (with_reducible refine r_xf ?_)
  | (with_reducible refine r_forQ ?_)
  | (with_reducible refine r_lcQ ?_)
  | (with_reducible refine r_isn_ref ?_)
  | (with_reducible refine r_isn_int ?_)
  | (with_reducible refine r_isn_non ?_)
  | (with_reducible refine r_nn_ref ?_)
  | (with_reducible refine r_nn_int ?_)
  | (with_reducible refine r_nn_non ?_)
  | (with_reducible refine r_cb ?_)
  | (with_reducible refine r_tup ?_)
  | (with_reducible refine r_lst ?_)
  | (with_reducible refine r_and ?_)
  | (with_reducible refine r_or ?_)
  | (with_reducible refine r_not ?_)
  | (with_reducible refine r_andV ?_)
  | (with_reducible refine r_orV ?_)
  | (with_reducible refine r_notV ?_)
  | (with_reducible refine r_chain ?_)
  | (with_reducible refine r_gcd ?_)
  | (with_reducible refine r_abs ?_)
  | (with_reducible refine r_max2 ?_)
  | (with_reducible refine r_min2 ?_)
  | (with_reducible refine r_int1 ?_)
  | ((with_reducible refine r_lenL (xs := ?kx) ?k1 ?_); (case k1 => walk_at "vsq"))
  | ((with_reducible refine r_lenT (xs := ?kx) ?k1 ?_); (case k1 => walk_at "vsq"))
  | (with_reducible refine is_int_int ?_)
  | (with_reducible refine is_int_bool ?_)
  | (with_reducible refine is_int_tuple ?_)
  | (with_reducible refine is_int_list ?_)
  | (with_reducible refine is_int_str ?_)
  | (with_reducible refine is_bool_int ?_)
  | (with_reducible refine is_bool_bool ?_)
  | (with_reducible refine is_bool_tuple ?_)
  | (with_reducible refine is_bool_list ?_)
  | (with_reducible refine is_bool_str ?_)
  | (with_reducible refine is_NoneType_int ?_)
  | (with_reducible refine is_NoneType_bool ?_)
  | (with_reducible refine is_NoneType_tuple ?_)
  | (with_reducible refine is_NoneType_list ?_)
  | (with_reducible refine is_NoneType_str ?_)
  | (with_reducible refine is_str_int ?_)
  | (with_reducible refine is_str_bool ?_)
  | (with_reducible refine is_str_tuple ?_)
  | (with_reducible refine is_str_list ?_)
  | (with_reducible refine is_str_str ?_)
  | ((with_reducible refine is_tuple_int (xs := ?kx) ?k1 ?_); (case k1 => walk_at "vat"))
  | ((with_reducible refine is_tuple_bool (xs := ?kx) ?k1 ?_); (case k1 => walk_at "vat"))
  | ((with_reducible refine is_tuple_tuple (xs := ?kx) ?k1 ?_); (case k1 => walk_at "vat"))
  | ((with_reducible refine is_tuple_list (xs := ?kx) ?k1 ?_); (case k1 => walk_at "vat"))
  | ((with_reducible refine is_tuple_str (xs := ?kx) ?k1 ?_); (case k1 => walk_at "vat"))
  | ((with_reducible refine is_list_int (xs := ?kx) ?k1 ?_); (case k1 => walk_at "vat"))
  | ((with_reducible refine is_list_bool (xs := ?kx) ?k1 ?_); (case k1 => walk_at "vat"))
  | ((with_reducible refine is_list_tuple (xs := ?kx) ?k1 ?_); (case k1 => walk_at "vat"))
  | ((with_reducible refine is_list_list (xs := ?kx) ?k1 ?_); (case k1 => walk_at "vat"))
  | ((with_reducible refine is_list_str (xs := ?kx) ?k1 ?_); (case k1 => walk_at "vat"))
  | (with_reducible refine r_par ?_)
  | (with_reducible refine r_par3 ?_)
  | ((with_reducible refine r_aug (x := ?kv) ?k1 ?_); (case k1 => exact rfl))
  | (with_reducible refine r_ip ?_)
  | (with_reducible refine r_gsub ?_)
  | ((with_reducible refine r_gtup (xs := ?kx) ?k1 ?k2 ?_); (case k1 => walk_at "vsq"); (case k2 => exact rfl))
  | (with_reducible refine r_gcons ?_)
  | (with_reducible refine And.intro (small (Nat.le_of_ble_eq_true rfl)) (fun _ _ => ?_))
  | (with_reducible refine r_gnil ?_)
  | (with_reducible refine And.intro (Exists.intro _ (by walk_at "vsq")) ?_)
  | (with_reducible refine r_wb ?_)
  | (with_reducible refine r_for1 ?_)
  | (with_reducible refine r_for2 ?_)
  | (with_reducible refine r_forL ?_)
  | (with_reducible refine r_forT ?_)
  | (with_reducible refine r_lcR1 ?_)
  | (with_reducible refine r_lcR2 ?_)
  | (with_reducible refine r_lcL ?_)
  | (with_reducible refine r_lcT ?_)
  | (with_reducible refine r_lcZ3i ?_)
  | (with_reducible refine r_sl ?_)
  | (with_reducible refine r_noPart ?_)
  | (with_reducible refine r_part ?_)
  | (with_reducible refine r_forE ?_)
  | (with_reducible refine r_forZn ?_)
  | (with_reducible refine r_forZa ?_)
  | (with_reducible refine tru_int ?_)
  | (with_reducible refine r_bm ?_)
  | (with_reducible refine r_lc2R1 ?_)
  | (with_reducible refine r_next ?_)
  | (with_reducible refine r_break ?_)
  | (with_reducible refine r_cont ?_)
  | (with_reducible refine r_retN ?_)
  | (with_reducible refine Exists.intro _ (And.intro rfl ?_))
  | (with_reducible refine Exists.intro _ (Exists.intro _ (And.intro rfl ?_)))
  | (with_reducible refine Exists.intro _ (Exists.intro _ (And.intro rfl (And.intro rfl ?_))))
  | (with_reducible refine Exists.intro _ (Exists.intro _ (Exists.intro _ (And.intro rfl ?_))))
  | (with_reducible refine r_bits ?_)
  | (with_reducible refine r_dget ?_)
  | (with_reducible refine r_din ?_)
  | (with_reducible refine r_dput ?_)
  | (with_reducible refine r_dnew ?_)
  | (with_reducible refine r_lcZti ?_)
  | (with_reducible refine ifTT ?_)
  | (with_reducible refine ifFF ?_)
  | (with_reducible refine ifNT ?_)
  | (with_reducible refine ifNF ?_)
  | dsimp only)
local macro_rules | `(tactic| walk_at "go") => `(tactic| repeat walk_at "s")
local macro_rules | `(tactic| walk_at "gi") => `(tactic| repeat first | walk_at "s" | (with_reducible refine r_if ?_) | (with_reducible refine r_ifE ?_))
local macro_rules | `(tactic| walk_at "sti") => `(tactic| ((try dsimp only [cxOf]); walk_at "gi"))
local macro_rules | `(tactic| walk_at "st") => `(tactic| ((try dsimp only [cxOf]); walk_at "go"))
section
variable {P : Program} {w : World} {K : PySem.W.Frag} {mg : Str → Option Value} {base : Heap}
def sp_is_integer : Sp := fun vs H Q _ => ∃ i : Int, vs = [.int i] ∧ Q (.bl true) H
theorem ok_is_integer (T : Top K mg) : Ok P w K mg base 1 "is_integer" s_is_integer ["given"] sp_is_integer := by
  refine T.d_is_integer.ok sc_is_integer (fun vs H Q E h => ?_) (fun f cdv A outer s H vs Q E hg hr h => ?_)
  · obtain ⟨i, rfl, _⟩ := h
    rfl
  · obtain ⟨i, rfl, q⟩ := h
    refine ⟨_, (pss_one (ps_ret (pe_and (pe_callB (id := "isinstance") (c_isi rfl) (by rfl) T.b_isinstance (by decide +kernel) (pa_cons (pv 0) (pa_cons (pe_bltn (v := .ty "int") (by rfl) T.b_int (by decide +kernel) rfl) pa_nil))) (pe_one (pe_not (pe_callB (id := "isinstance") (c_isi rfl) (by rfl) T.b_isinstance (by decide +kernel) (pa_cons (pv 0) (pa_cons (pe_bltn (v := .ty "bool") (by rfl) T.b_bool (by decide +kernel) rfl) pa_nil)))))))), ?_⟩
    walk_at "sti"
    exact q
def sp_is_within : Sp := fun vs H Q _ => ∃ i a b : Int, vs = [.int i, .int a, .int b] ∧ Q (.bl (decide (a ≤ i ∧ i ≤ b))) H
theorem ok_is_within (T : Top K mg) : Ok P w K mg base 2 "is_within" s_is_within ["given", "least", "most"] sp_is_within := by
  have G_is_integer := ok_is_integer (P := P) (w := w) (base := base) T
  refine T.d_is_within.ok sc_is_within (fun vs H Q E h => ?_) (fun f cdv A outer s H vs Q E hg hr h => ?_)
  · obtain ⟨i, a, b, rfl, _⟩ := h
    rfl
  · obtain ⟨i, a, b, rfl, q⟩ := h
    refine ⟨_, (pss_one (ps_ret (pe_and (pe_g G_is_integer (fun _ _ F => bd_is_integer F) hg (hr.mono (by decide)) passL (by rfl) (pa_cons (pv 0) pa_nil)) (pe_one (pe_chain op_le op_le (pv 1) (pv 0) (pv 2)))))), ?_⟩
    walk_at "sti"
    refine ⟨i, rfl, ?_⟩
    walk_at "gi"
    refine ifd (fun c => ?_) (fun c => ?_)
    · walk_at "gi"
      rw [show decide (i ≤ b) = decide (a ≤ i ∧ i ≤ b) by simp [c]]
      exact q
    · rw [show decide (a ≤ i ∧ i ≤ b) = false by simp [c]] at q
      exact q
def sp_check_within : Sp := fun vs H Q _ => ∃ i a b : Int, vs = [.int i, .int a, .int b] ∧ a ≤ i ∧ i ≤ b ∧ Q .non H
theorem ok_check_within (T : Top K mg) : Ok P w K mg base 3 "check_within" s_check_within ["given", "least", "most"] sp_check_within := by
  have G_is_within := ok_is_within (P := P) (w := w) (base := base) T
  refine T.d_check_within.ok sc_check_within (fun vs H Q E h => ?_) (fun f cdv A outer s H vs Q E hg hr h => ?_)
  · obtain ⟨i, a, b, rfl, _⟩ := h
    rfl
  · obtain ⟨i, a, b, rfl, h1, h2, q⟩ := h
    refine ⟨_, (pss_one (ps_if (pt_not (pt_val (pe_g G_is_within (fun _ _ F => bd_is_within F) hg (hr.mono (by decide)) passL (by rfl) (pa_cons (pv 0) (pa_cons (pv 1) (pa_cons (pv 2) pa_nil)))))) (pss_one ps_never) pss_nil)), ?_⟩
    walk_at "sti"
    refine ⟨i, a, b, rfl, ?_⟩
    rw [decide_eq_true (show a ≤ i ∧ i ≤ b from ⟨h1, h2⟩)]
    walk_at "gi"
    exact q
def sp_check_base : Sp := fun vs H Q _ => ∃ i : Int, vs = [.int i] ∧ 1 ≤ i ∧ i ≤ 10 ^ 12 ∧ Q .non H
theorem ok_check_base (T : Top K mg) : Ok P w K mg base 4 "check_base" s_check_base ["given"] sp_check_base := by
  have G_check_within := ok_check_within (P := P) (w := w) (base := base) T
  refine T.d_check_base.ok sc_check_base (fun vs H Q E h => ?_) (fun f cdv A outer s H vs Q E hg hr h => ?_)
  · obtain ⟨i, rfl, _⟩ := h
    rfl
  · obtain ⟨i, rfl, h1, h2, q⟩ := h
    refine ⟨_, (pss_one (ps_expr (pe_g G_check_within (fun _ _ F => bd_check_within F) hg (hr.mono (by decide)) passL (by rfl) (pa_cons (pv 0) (pa_cons pe_int (pa_cons (pe_gi T.c_MOST_BASE (by rfl)) pa_nil)))))), ?_⟩
    walk_at "sti"
    exact ⟨i, _, _, rfl, h1, h2, q⟩
end
section
variable {P : Program} {w : World} {K : PySem.W.Frag} {mg : Str → Option Value} {base : Heap}
def sp_check_number : Sp := fun vs H Q _ => ∃ i : Int, vs = [.int i] ∧ -(10 ^ 40) ≤ i ∧ i ≤ 10 ^ 40 ∧ Q .non H
theorem ok_check_number (T : Top K mg) : Ok P w K mg base 4 "check_number" s_check_number ["given"] sp_check_number := by
  have G_check_within := ok_check_within (P := P) (w := w) (base := base) T
  refine T.d_check_number.ok sc_check_number (fun vs H Q E h => ?_) (fun f cdv A outer s H vs Q E hg hr h => ?_)
  · obtain ⟨i, rfl, _⟩ := h
    rfl
  · obtain ⟨i, rfl, h1, h2, q⟩ := h
    refine ⟨_, (pss_one (ps_expr (pe_g G_check_within (fun _ _ F => bd_check_within F) hg (hr.mono (by decide)) passL (by rfl) (pa_cons (pv 0) (pa_cons (pe_un un_neg (pe_gi T.c_MOST_NUMBER (by rfl))) (pa_cons (pe_gi T.c_MOST_NUMBER (by rfl)) pa_nil)))))), ?_⟩
    walk_at "sti"
    exact ⟨i, _, _, rfl, h1, h2, q⟩
def sp_check_walked : Sp := fun vs H Q _ => ∃ n : Nat, vs = [.int (n : Int)] ∧ n ≤ 5000 ∧ Q .non H
theorem ok_check_walked (T : Top K mg) : Ok P w K mg base 1 "check_walked" s_check_walked ["base"] sp_check_walked := by
  refine T.d_check_walked.ok sc_check_walked (fun vs H Q E h => ?_) (fun f cdv A outer s H vs Q E hg hr h => ?_)
  · obtain ⟨n, rfl, _⟩ := h
    rfl
  · obtain ⟨n, rfl, n5, q⟩ := h
    refine ⟨_, (pss_one (ps_if (pt_cmpR op_gt (pv 0) (pe_gi T.c_MOST_WALKED (by rfl)) (nomark _)) (pss_one ps_never) pss_nil)), ?_⟩
    walk_at "sti"
    refine ifd (fun c => absurd c (by omega)) (fun _ => ?_)
    walk_at "gi"
    exact q
end
section
variable {P : Program} {w : World} {K : PySem.W.Frag} {mg : Str → Option Value} {base : Heap}
def NewS (f : Int → Int) (B d : Nat) (H : Hp) (Q : VK) : Prop := ∀ r p H', Same H H' → H r = none → H' r = some (.tup (p.map V.int)) → IsP p f B d → Q (.ref r) H'
def SumAt (K : PySem.W.Frag) (H : Hp) (a : Addr) (f : Int → Int) (B d : Nat) : Prop := ∃ p : List Int, SqT K H a (p.map V.int) ∧ IsP p f B d
theorem SumAt.same {H H' : Hp} {a : Addr} {f : Int → Int} {B d : Nat} (h : SumAt K H a f B d) (s : Same H H') : SumAt K H' a f B d := by
  obtain ⟨p, sv, hp⟩ := h
  exact ⟨p, Same.tup s sv, hp⟩
theorem SumAt.tt {H H' : Hp} {a : Addr} {f : Int → Int} {B d : Nat} (h : SumAt K H a f B d) (s : Tt H H') : SumAt K H' a f B d := by
  obtain ⟨p, sv, hp⟩ := h
  exact ⟨p, s K _ _ sv, hp⟩
theorem SumAt.mono {H : Hp} {a : Addr} {f : Int → Int} {B B' d d' : Nat} (h : SumAt K H a f B d) (hb : B ≤ B') (hd : d ≤ d') : SumAt K H a f B' d' := by
  obtain ⟨p, sv, hp⟩ := h
  exact ⟨p, sv, hp.mono hb hd⟩
theorem ints_at {p : List Int} {i : Nat} {v : V} (h : (p.map V.int)[i]? = some v) : ∃ c, p[i]? = some c ∧ v = V.int c := by
  rw [List.getElem?_map, Option.map_eq_some_iff] at h
  obtain ⟨c, e, h⟩ := h
  exact ⟨c, e, h.symm⟩
theorem ints_get {p : List Int} {i : Nat} {c : Int} (h : p[i]? = some c) : (p.map V.int)[i]? = some (V.int c) := by
  rw [List.getElem?_map, h]
  rfl
theorem ints_len (p : List Int) : (p.map V.int).length = p.length := List.length_map ..
theorem at_last {p : List Int} (h : p ≠ []) : atI (p.map V.int) (-1) = some (V.int (p.getD (p.length - 1) 0)) := by
  rcases List.eq_nil_or_concat p with e | ⟨r, c, e⟩
  · exact absurd e h
  · subst e
    rw [List.concat_eq_append, List.map_append]
    show atI (r.map V.int ++ [V.int c]) (-1) = _
    rw [atI_last, List.getD_eq_getElem?_getD]
    simp
def sp_is_coef : Sp := fun vs H Q _ => ∃ i : Int, vs = [.int i] ∧ i.natAbs ≤ 1000000000000 ∧ Q (.bl true) H
theorem ok_is_coefficient (T : Top K mg) : Ok P w K mg base 3 "is_coefficient" s_is_coefficient ["given"] sp_is_coef := by
  have G_is_within := ok_is_within (P := P) (w := w) (base := base) T
  refine T.d_is_coefficient.ok sc_is_coefficient (fun vs H Q E h => ?_) (fun f cdv A outer s H vs Q E hg hr h => ?_)
  · obtain ⟨i, rfl, _⟩ := h
    rfl
  · obtain ⟨i, rfl, h1, q⟩ := h
    refine ⟨_, (pss_one (ps_ret (pe_g G_is_within (fun _ _ F => bd_is_within F) hg (hr.mono (by decide)) passL (by rfl) (pa_cons (pv 0) (pa_cons (pe_un un_neg (pe_gi T.c_MOST_COEFFICIENT (by rfl))) (pa_cons (pe_gi T.c_MOST_COEFFICIENT (by rfl)) pa_nil)))))), ?_⟩
    walk_at "sti"
    refine ⟨i, _, _, rfl, ?_⟩
    rw [decide_eq_true (show -1000000000000 ≤ i ∧ i ≤ 1000000000000 from ⟨by omega, by omega⟩)]
    exact q
def Right (p : List Int) : Prop := Canon p ∧ p.length ≤ 13 ∧ l1 p ≤ 1000000000000
def sp_is_sum (K : PySem.W.Frag) : Sp := fun vs H Q _ => ∃ (a : Addr) (p : List Int), vs = [.ref a] ∧ SqT K H a (p.map V.int) ∧ Right p ∧ Q (.bl true) H
theorem ok_is_sum (T : Top K mg) : Ok P w K mg base 4 "is_sum" s_is_sum ["given"] (sp_is_sum K) := by
  have G_is_coefficient := ok_is_coefficient (P := P) (w := w) (base := base) T
  refine T.d_is_sum.ok sc_is_sum (fun vs H Q E h => ?_) (fun f cdv A outer s H vs Q E hg hr h => ?_)
  · obtain ⟨a, p, rfl, _⟩ := h
    rfl
  · obtain ⟨a, p, rfl, sv, ⟨hc, hl, hb⟩, q⟩ := h
    have h1 := hc.len
    refine ⟨_, (pss_cons (ps_if (PW.pt (pw_or (pt_not (pt_val (pe_callB (id := "isinstance") (c_isi rfl) (by rfl) T.b_isinstance (by decide +kernel) (pa_cons (pv 0) (pa_cons (pe_bltn (v := .ty "tuple") (by rfl) T.b_tuple (by decide +kernel) rfl) pa_nil))))) (pw_or1 (pt_not (pt_chain op_le op_le pe_int (pe_callB (id := "len") (c_len rfl) (by rfl) T.b_len (by decide +kernel) (pa_cons (pv 0) pa_nil)) (pe_op op_add (pe_gi T.c_MOST_DEGREE (by rfl)) pe_int)))))) (pss_one (ps_ret pe_bl)) pss_nil)
    (pss_cons (ps_for (passes_of rfl) rfl (i_tup' rfl (pv 0)) (pg_name (i := 1) sc_is_sum.nd rfl (.inl rfl)) (pss_one (ps_if (pt_not (pt_val (pe_g G_is_coefficient (fun _ _ F => bd_is_coefficient F) hg (hr.mono (by decide)) passL (by rfl) (pa_cons (pv 1) pa_nil)))) (pss_one (ps_ret pe_bl)) pss_nil)))
    (pss_one (ps_ret (pe_or (pe_cmpR op_neZ (pe_ix (x_tup rfl) (pv 0) (pe_un un_neg pe_int) (fun _ _ => rfl)) pe_int (nomark _)) (pe_one (pe_cmpR op_eqZ (pe_callB (id := "len") (c_len rfl) (by rfl) T.b_len (by decide +kernel) (pa_cons (pv 0) pa_nil)) pe_int (nomark _)))))))), ?_⟩
    walk_at "sti"
    refine is_T_T sv ?_
    walk_at "gi"
    rw [ints_len, decide_eq_true (show (1 : Int) ≤ (p.length : Int) by omega)]
    walk_at "gi"
    rw [decide_eq_true (show (p.length : Int) ≤ 12 + 1 by omega)]
    walk_at "gi"
    refine r_forTs (p.map V.int) (fun i σ H' => ∃ x1, σ = [some (.ref a), x1] ∧ H' = H) ⟨_, rfl, rfl⟩ (fun i σ H' hi hP => ?_) (fun i v σ H' hi hP => ?_) (fun σ H' hP => ?_)
    · obtain ⟨x1, rfl, rfl⟩ := hP
      exact sv
    · obtain ⟨x1, rfl, rfl⟩ := hP
      obtain ⟨c, ec, rfl⟩ := ints_at hi
      have := l1_mem (List.mem_of_getElem? ec)
      walk_at "gi"
      refine ⟨c, rfl, by omega, ?_⟩
      walk_at "gi"
    · obtain ⟨x1, rfl, rfl⟩ := hP
      walk_at "gi"
      refine r_ixT sv (at_last hc.1) ?_
      walk_at "gi"
      by_cases z : p.getD (p.length - 1) 0 = 0
      · rw [z, decide_eq_true (show (0 : Int) = 0 from rfl)]
        walk_at "gi"
        rw [ints_len, decide_eq_true (show (p.length : Int) = 1 by rcases hc.2 with k | k; omega; exact absurd z k)]
        exact q
      · rw [decide_eq_false z]
        walk_at "gi"
        exact q
def sp_check_sum (K : PySem.W.Frag) : Sp := fun vs H Q _ => ∃ (a : Addr) (p : List Int), vs = [.ref a] ∧ SqT K H a (p.map V.int) ∧ Right p ∧ Q .non H
theorem ok_check_sum (T : Top K mg) : Ok P w K mg base 5 "check_sum" s_check_sum ["given"] (sp_check_sum K) := by
  have G_is_sum := ok_is_sum (P := P) (w := w) (base := base) T
  refine T.d_check_sum.ok sc_check_sum (fun vs H Q E h => ?_) (fun f cdv A outer s H vs Q E hg hr h => ?_)
  · obtain ⟨a, p, rfl, _⟩ := h
    rfl
  · obtain ⟨a, p, rfl, sv, hR, q⟩ := h
    refine ⟨_, (pss_one (ps_if (pt_not (pt_val (pe_g G_is_sum (fun _ _ F => bd_is_sum F) hg (hr.mono (by decide)) passL (by rfl) (pa_cons (pv 0) pa_nil)))) (pss_one ps_never) pss_nil)), ?_⟩
    walk_at "sti"
    refine ⟨a, p, rfl, sv, hR, ?_⟩
    walk_at "gi"
    exact q
end
section
variable {P : Program} {w : World} {K : PySem.W.Frag} {mg : Str → Option Value} {base : Heap}
theorem len_pos {p : List Int} (h : p ≠ []) : 1 ≤ p.length := by
  cases p with
  | nil => exact absurd rfl h
  | cons c p => simp
theorem two_lt {m n : Nat} (h : m < n) : (2 : Nat) ^ m < 2 ^ n := Nat.pow_lt_pow_right (by decide) h
def sp_rest_at (K : PySem.W.Frag) : Sp := fun vs H Q _ => ∃ (a : Addr) (p : List Int) (x n : Int), vs = [.ref a, .int x, .int n] ∧ SqT K H a (p.map V.int) ∧ p ≠ [] ∧ x.natAbs ≤ 2 ^ 140 ∧ 0 < n ∧ n ≤ 2 ^ 50 ∧ Q (.int (pval p x % n)) H
theorem ok_rest_at (T : Top K mg) : Ok P w K mg base 1 "rest_at" s_rest_at ["terms", "number", "base"] (sp_rest_at K) := by
  refine T.d_rest_at.ok sc_rest_at (fun vs H Q E h => ?_) (fun f cdv A outer s H vs Q E hg hr h => ?_)
  · obtain ⟨a, p, x, n, rfl, _⟩ := h
    rfl
  · obtain ⟨a, p, x, n, rfl, sv, ne, hx, n0, n1, q⟩ := h
    have h1 := len_pos ne
    have e50 : (2 : Int) ^ 50 = 1125899906842624 := by decide
    refine ⟨_, (pss_cons (ps_set (i := 3) sc_rest_at.nd rfl (.inl rfl) pe_int)
    (pss_cons (ps_for (passes_of rfl) rfl (i_rev rfl (by rfl) T.b_reversed (pv 0)) (pg_name (i := 4) sc_rest_at.nd rfl (.inl rfl)) (pss_one (ps_set (i := 3) sc_rest_at.nd rfl (.inl rfl) (pe_op op_mod (pe_op op_add (pe_op op_mulX (pv 3) (pv 1)) (pv 4)) (pv 2)))))
    (pss_one (ps_ret (pv 3))))), ?_⟩
    walk_at "sti"
    refine r_forRvV (p.map V.int) rfl sv (fun i σ H' => ∃ x3, σ = [some (.ref a), some (.int x), some (.int n), some (.int (pval (p.drop (p.length - i)) x % n)), x3] ∧ H' = H) ⟨_, by rw [Nat.sub_zero, List.drop_length]; simp only [pval, Int.zero_emod]; rfl, rfl⟩ (fun i σ H' hP => ?_) (fun i v σ H' hi he hP => ?_) (fun σ H' hP => ?_)
    · obtain ⟨x3, rfl, rfl⟩ := hP
      exact sv
    · obtain ⟨x3, rfl, rfl⟩ := hP
      rw [ints_len] at hi he
      obtain ⟨c, ec, rfl⟩ := ints_at he
      walk_at "gi"
      have m0 := Int.emod_nonneg (pval (p.drop (p.length - i)) x) (show n ≠ 0 by omega)
      have m1 := Int.emod_lt_of_pos (pval (p.drop (p.length - i)) x) n0
      refine r_rI (bit_mul (a := 64) (b := 141) (bit_of (by omega)) (bit_of (Nat.lt_of_le_of_lt hx (two_lt (by decide)))) (by decide)) ?_
      walk_at "gi"
      refine r_rI n0 ?_
      walk_at "gi"
      refine ⟨some (.int c), ?_, rfl⟩
      have e := pval_drop (x := x) ec
      rw [show p.length - 1 - i + 1 = p.length - i by omega] at e
      rw [show p.length - (i + 1) = p.length - 1 - i by omega, e, Int.mul_comm x, Int.add_comm c]
      have e2 : (pval (p.drop (p.length - i)) x % n * x + c) % n = (pval (p.drop (p.length - i)) x * x + c) % n := by
        rw [Int.add_emod, Int.mul_emod, Int.emod_emod, ← Int.mul_emod, ← Int.add_emod]
      rw [e2]
      rfl
    · obtain ⟨x3, rfl, rfl⟩ := hP
      rw [ints_len, Nat.sub_self, List.drop_zero]
      walk_at "gi"
      exact q
theorem cut_from {xs : List V} {i : Nat} (h : i ≤ xs.length) : cutV xs (some (i : Int)) none = xs.drop i := by
  unfold cutV
  rw [HT.sIx_none, HT.sIx_nat, show min i xs.length = i by omega]
  exact List.take_of_length_le (by rw [List.length_drop]; omega)
theorem cut_til {xs : List V} (i : Nat) : cutV xs none (some (i : Int)) = xs.take i := cut_to xs i
end
section
variable {P : Program} {w : World} {K : PySem.W.Frag} {mg : Str → Option Value} {base : Heap}
/-! ### paths of rests -/
/-- where the sum leads the rest -/
def led (p : List Int) (n : Nat) (r : Nat) : Nat := (pval p (r : Int) % (n : Int)).toNat
theorem led_int (p : List Int) {n : Nat} (n0 : 0 < n) (r : Nat) : (led p n r : Int) = pval p (r : Int) % (n : Int) := Int.toNat_of_nonneg (Int.emod_nonneg _ (by omega))
theorem led_lt (p : List Int) {n : Nat} (n0 : 0 < n) (r : Nat) : led p n r < n := by
  have h1 := led_int p n0 r
  have h2 := Int.emod_lt_of_pos (pval p (r : Int)) (show (0 : Int) < n by omega)
  omega
def rst (x : Int) (n : Nat) : Nat := (x % (n : Int)).toNat
theorem rst_int (x : Int) {n : Nat} (n0 : 0 < n) : (rst x n : Int) = x % (n : Int) := Int.toNat_of_nonneg (Int.emod_nonneg _ (by omega))
theorem rst_lt (x : Int) {n : Nat} (n0 : 0 < n) : rst x n < n := by
  have h1 := rst_int x n0
  have h2 := Int.emod_lt_of_pos x (show (0 : Int) < n by omega)
  omega
/-- the rests on the way -/
def way (F : Nat → Nat) (r m : Nat) : List Int := (List.range m).map fun i => (Vf.itf F r i : Int)
theorem way_len (F : Nat → Nat) (r m : Nat) : (way F r m).length = m := by unfold way; rw [List.length_map, List.length_range]
theorem way_snoc (F : Nat → Nat) (r m : Nat) : way F r (m + 1) = way F r m ++ [(Vf.itf F r m : Int)] := by unfold way; rw [List.range_succ, List.map_append]; rfl
theorem way_at {F : Nat → Nat} {r m i : Nat} (h : i < m) : (way F r m)[i]? = some (Vf.itf F r i : Int) := by unfold way; rw [List.getElem?_map, List.getElem?_range h]; rfl
/-- what is known of the way -/
def wayD (F : Nat → Nat) (r m : Nat) : List (Key × V) := (List.range m).map fun i => (Sum.inl (Vf.itf F r i : Int), V.int (i : Int))
theorem wayD_len (F : Nat → Nat) (r m : Nat) : (wayD F r m).length = m := by unfold wayD; rw [List.length_map, List.length_range]
theorem wayD_snoc (F : Nat → Nat) (r m : Nat) : wayD F r (m + 1) = wayD F r m ++ [(Sum.inl (Vf.itf F r m : Int), V.int (m : Int))] := by unfold wayD; rw [List.range_succ, List.map_append]; rfl
theorem wayD_get {F : Nat → Nat} {r m k : Nat} {v : V} (h : L2.valV (wayD F r m) (Sum.inl (k : Int)) = some v) : ∃ j, j < m ∧ Vf.itf F r j = k ∧ v = .int (j : Int) := by
  unfold L2.valV at h
  obtain ⟨x, hx, rfl⟩ := Option.map_eq_some_iff.mp h
  have h1 := List.find?_some hx
  obtain ⟨j, hj, rfl⟩ := List.mem_map.mp (List.mem_of_find?_eq_some hx)
  exact ⟨j, List.mem_range.mp hj, Int.ofNat_inj.mp (Sum.inl.inj (of_decide_eq_true h1)), rfl⟩
theorem wayD_none {F : Nat → Nat} {r m k : Nat} (h : L2.valV (wayD F r m) (Sum.inl (k : Int)) = none) : (∀ j, j < m → Vf.itf F r j ≠ k) ∧ ∀ v, putK (wayD F r m) (Sum.inl (k : Int)) v = wayD F r m ++ [(Sum.inl (k : Int), v)] := by
  have nm := valV_not h
  refine ⟨fun j hj e => nm (List.mem_map.mpr ⟨_, List.mem_map.mpr ⟨j, List.mem_range.mpr hj, rfl⟩, by rw [e]⟩), fun v => ?_⟩
  unfold putK
  rw [if_neg]
  rw [List.any_eq_true]
  rintro ⟨x, hx, e⟩
  exact nm (List.mem_map.mpr ⟨x, hx, of_decide_eq_true e⟩)
theorem r_dnotin {td ty : TE} {σ : L2.St} {H : Hp} {Q : VK} (h : ty σ H fun y H1 => td σ H1 fun x H2 => ∃ a o, x = .ref a ∧ DGet H2 a y o ∧ Q (.bl (!o.isSome)) H2) : tDNotIn ty td σ H Q := h
def sp_path (K : PySem.W.Frag) : Sp := fun vs H Q _ => ∃ (a : Addr) (p : List Int) (n : Nat) (x : Int), vs = [.ref a, .int (n : Int), .int x] ∧ SqT K H a (p.map V.int) ∧ p ≠ [] ∧ 1 ≤ n ∧ n ≤ 5000 ∧
  ∀ (z l : Addr) (t c : Nat) H', Same H H' → H' z = some (.tup [.ref l, .int (t : Int)]) → H' l = some (.lst ((way (led p n) (rst x n) (t + c)).map V.int)) → Vf.Rho (led p n) (rst x n) t c → Q (.ref z) H'
theorem ok__path (T : Top K mg) : Ok P w K mg base 2 "_path" s__path ["terms", "base", "number"] (sp_path K) := by
  have G_rest_at := ok_rest_at (P := P) (w := w) (base := base) T
  refine T.d__path.ok sc__path (fun vs H Q E h => ?_) (fun f cdv A outer s H vs Q E hg hr h => ?_)
  · obtain ⟨a, p, n, x, rfl, _⟩ := h
    rfl
  · obtain ⟨a, p, n, x, rfl, sa, pn, n0, n1, q⟩ := h
    have hF : ∀ y, y < n → led p n y < n := fun y _ => led_lt p n0 y
    have hr0 := rst_lt x n0
    have E140 : (5000 : Nat) ≤ 2 ^ 140 := by decide
    have E50 : (5000 : Int) ≤ 2 ^ 50 := by decide
    refine ⟨_, (pss_cons (ps_set (i := 3) sc__path.nd rfl (.inl rfl) pe_dnewK)
    (pss_cons (ps_set (i := 4) sc__path.nd rfl (.inl rfl) (pe_lst pa_nil))
    (pss_cons (ps_set (i := 5) sc__path.nd rfl (.inl rfl) (pe_op op_mod (pv 2) (pv 1)))
    (pss_cons (ps_while (passes_of rfl) (pt_cmp (pc_dnotin (Nat.lt_of_le_of_lt (Nat.add_le_add_left (by decide) _) hr.units) (pv 5) (pv 3)) (by rfl)) (pss_cons (ps_dput (Nat.lt_of_le_of_lt (Nat.add_le_add_left (by decide) _) hr.units) (pv 3) (pv 5) (pe_callB (id := "len") (c_len rfl) (by rfl) T.b_len (by decide +kernel) (pa_cons (pv 4) pa_nil)) rfl)
    (pss_cons (ps_expr (pe_bm PySem.F.plainAttrs_list PySem.F.slot_list_append PySem.F.type_list_append mt_append (pv 4) (pa_cons (pv 5) pa_nil)))
    (pss_one (ps_set (i := 5) sc__path.nd rfl (.inl rfl) (pe_g G_rest_at (fun _ _ F => bd_rest_at F) hg (hr.mono (by decide)) passL (by rfl) (pa_cons (pv 0) (pa_cons (pv 5) (pa_cons (pv 1) pa_nil)))))))))
    (pss_one (ps_ret (pe_tup (pa_cons (pv 4) (pa_cons (pe_dget (Nat.lt_of_le_of_lt (Nat.add_le_add_left (by decide) _) hr.units) (pv 3) (pv 5) (fun _ _ => rfl)) pa_nil))))))))), ?_⟩
    walk_at "sti"
    intro d hd
    walk_at "gi"
    rename_i l hl
    refine r_rI (show (0 : Int) < (n : Int) by omega) ?_
    walk_at "gi"
    rw [← rst_int x n0]
    generalize hr : rst x n = r at *
    have ed : upd (upd H d (.dK [])) l (.lst []) d = some (.dK []) := at_new hl upd_same
    have el : upd (upd H d (.dK [])) l (.lst []) l = some (.lst []) := upd_same
    have s0 : Same H (upd (upd H d (.dK [])) l (.lst [])) := (Same.new hd).trans (Same.new hl)
    have hl0 : H l = none := none_up hl
    generalize upd (upd H d (.dK [])) l (.lst []) = H0 at *
    refine r_while (fun mm σ G => ∃ i : Nat, σ = [some (.ref a), some (.int (n : Int)), some (.int x), some (.ref d), some (.ref l), some (.int (Vf.itf (led p n) r i : Int))] ∧ Same H G ∧ G d = some (.dK (wayD (led p n) r i)) ∧ G l = some (.lst ((way (led p n) r i).map V.int)) ∧ (∀ i', i' < i → ∀ j, j < i' → Vf.itf (led p n) r i' ≠ Vf.itf (led p n) r j) ∧ mm = n - i) n
      ⟨0, rfl, s0, ed, el, fun i' h => absurd h (Nat.not_lt_zero _), rfl⟩ fun mm σ G hW => ?_
    obtain ⟨i, rfl, s1, e1, e2, un, rfl⟩ := hW
    have il := Vf.few hF hr0 un
    have it1 := Vf.itf_lt hF hr0 i
    have ld : l ≠ d := fun z => by rw [z, e1] at e2; cases e2
    walk_at "gi"
    refine r_dnotin ?_
    walk_at "gi"
    refine ⟨d, _, rfl, L2.DGet.k (k := Sum.inl (Vf.itf (led p n) r i : Int)) e1, ?_⟩
    cases ho : L2.valV (wayD (led p n) r i) (Sum.inl (Vf.itf (led p n) r i : Int)) with
    | some v =>
      obtain ⟨j, hj, hk, rfl⟩ := wayD_get ho
      refine ⟨false, rfl, ?_⟩
      rw [if_neg Bool.false_ne_true]
      walk_at "gi"
      refine ⟨d, _, rfl, by rw [← ho]; exact L2.DGet.k (k := Sum.inl (Vf.itf (led p n) r i : Int)) e1, ?_⟩
      walk_at "gi"
      rename_i z hz
      have R : Vf.Rho (led p n) r j (i - j) := ⟨by omega, by rw [show j + (i - j) = i by omega]; exact hk.symm, fun i' h1 j' h2 => un i' (by omega) j' h2⟩
      refine q z l j (i - j) _ (s1.trans (Same.new hz)) upd_same (at_new hz ?_) R
      rw [show j + (i - j) = i by omega]
      exact e2
    | none =>
      obtain ⟨g0, g1⟩ := wayD_none ho
      have un2 : ∀ i', i' < i + 1 → ∀ j, j < i' → Vf.itf (led p n) r i' ≠ Vf.itf (led p n) r j := fun i' h1 j h2 => by
        rcases Nat.lt_or_ge i' i with c | c
        · exact un i' c j h2
        · rw [show i' = i by omega] at h2 ⊢
          exact fun e => g0 j h2 e.symm
      have il2 := Vf.few hF hr0 un2
      refine ⟨true, rfl, ?_⟩
      rw [if_pos rfl]
      refine ⟨_, fun _ _ h => h, ?_⟩
      walk_at "gi"
      rw [List.length_map, way_len]
      refine ⟨d, _, rfl, L2.DPut.k (k := Sum.inl (Vf.itf (led p n) r i : Int)) e1 (Nat.lt_of_le_of_lt (show _ ≤ 5000 by rw [wayD_len]; omega) (by decide)), ?_⟩
      rw [g1, ← wayD_snoc]
      walk_at "gi"
      have e3 : upd G d (.dK (wayD (led p n) r (i + 1))) l = some (.lst ((way (led p n) r i).map V.int)) := by rw [upd_ne ld]; exact e2
      refine ⟨.inl ⟨rfl, _, SqL.of e3⟩, ?_⟩
      walk_at "gi"
      refine r_app e3 (by rw [List.length_map, way_len]; omega) ?_
      walk_at "gi"
      have s2 : ∀ o1 o2, Same H (upd (upd G d o1) l o2) := fun o1 o2 b' o e => by
        rw [upd_ne (ne_of_none e hl0), upd_ne (ne_of_none e hd)]
        exact s1 _ _ e
      refine ⟨a, p, (Vf.itf (led p n) r i : Int), (n : Int), rfl, Same.tup (s2 _ _) sa, pn, by rw [Int.natAbs_natCast]; omega, by omega, by omega, ?_⟩
      rw [← led_int p n0]
      walk_at "gi"
      refine ⟨n - (i + 1), by omega, i + 1, rfl, s2 _ _, by rw [upd_ne (Ne.symm ld)]; exact upd_same, ?_, un2, rfl⟩
      rw [way_snoc, List.map_append]
      exact upd_same
end
section
variable {P : Program} {w : World} {K : PySem.W.Frag} {mg : Str → Option Value} {base : Heap}
/-! ### the checks of rings -/
def sp_chkring (K : PySem.W.Frag) : Sp := fun vs H Q _ => ∃ (a : Addr) (p : List Int) (n : Nat), vs = [.ref a, .int (n : Int)] ∧ SqT K H a (p.map V.int) ∧ Right p ∧ 1 ≤ n ∧ n ≤ 5000 ∧ Q .non H
theorem ok__check_ring (T : Top K mg) : Ok P w K mg base 6 "_check_ring" s__check_ring ["terms", "base"] (sp_chkring K) := by
  have G_check_sum := ok_check_sum (P := P) (w := w) (base := base) T
  have G_check_base := ok_check_base (P := P) (w := w) (base := base) T
  have G_check_walked := ok_check_walked (P := P) (w := w) (base := base) T
  refine T.d__check_ring.ok sc__check_ring (fun vs H Q E h => ?_) (fun f cdv A outer s H vs Q E hg hr h => ?_)
  · obtain ⟨a, p, n, rfl, _⟩ := h
    rfl
  · obtain ⟨a, p, n, rfl, sa, hR, n0, n1, q⟩ := h
    refine ⟨_, (pss_cons (ps_expr (pe_g G_check_sum (fun _ _ F => bd_check_sum F) hg (hr.mono (by decide)) passL (by rfl) (pa_cons (pv 0) pa_nil)))
    (pss_cons (ps_expr (pe_g G_check_base (fun _ _ F => bd_check_base F) hg (hr.mono (by decide)) passL (by rfl) (pa_cons (pv 1) pa_nil)))
    (pss_one (ps_expr (pe_g G_check_walked (fun _ _ F => bd_check_walked F) hg (hr.mono (by decide)) passL (by rfl) (pa_cons (pv 1) pa_nil)))))), ?_⟩
    walk_at "sti"
    refine ⟨a, p, rfl, sa, hR, ?_⟩
    walk_at "gi"
    refine ⟨(n : Int), rfl, by omega, by omega, ?_⟩
    walk_at "gi"
    refine ⟨n, rfl, n1, ?_⟩
    walk_at "gi"
    exact q
def sp_chkfrom (K : PySem.W.Frag) : Sp := fun vs H Q _ => ∃ (a : Addr) (p : List Int) (n : Nat) (x : Int), vs = [.ref a, .int (n : Int), .int x] ∧ SqT K H a (p.map V.int) ∧ Right p ∧ 1 ≤ n ∧ n ≤ 5000 ∧ -(10 ^ 40) ≤ x ∧ x ≤ 10 ^ 40 ∧ Q .non H
theorem ok__check_from (T : Top K mg) : Ok P w K mg base 6 "_check_from" s__check_from ["terms", "base", "number"] (sp_chkfrom K) := by
  have G_check_sum := ok_check_sum (P := P) (w := w) (base := base) T
  have G_check_base := ok_check_base (P := P) (w := w) (base := base) T
  have G_check_number := ok_check_number (P := P) (w := w) (base := base) T
  have G_check_walked := ok_check_walked (P := P) (w := w) (base := base) T
  refine T.d__check_from.ok sc__check_from (fun vs H Q E h => ?_) (fun f cdv A outer s H vs Q E hg hr h => ?_)
  · obtain ⟨a, p, n, x, rfl, _⟩ := h
    rfl
  · obtain ⟨a, p, n, x, rfl, sa, hR, n0, n1, x0, x1, q⟩ := h
    refine ⟨_, (pss_cons (ps_expr (pe_g G_check_sum (fun _ _ F => bd_check_sum F) hg (hr.mono (by decide)) passL (by rfl) (pa_cons (pv 0) pa_nil)))
    (pss_cons (ps_expr (pe_g G_check_base (fun _ _ F => bd_check_base F) hg (hr.mono (by decide)) passL (by rfl) (pa_cons (pv 1) pa_nil)))
    (pss_cons (ps_expr (pe_g G_check_number (fun _ _ F => bd_check_number F) hg (hr.mono (by decide)) passL (by rfl) (pa_cons (pv 2) pa_nil)))
    (pss_one (ps_expr (pe_g G_check_walked (fun _ _ F => bd_check_walked F) hg (hr.mono (by decide)) passL (by rfl) (pa_cons (pv 1) pa_nil))))))), ?_⟩
    walk_at "sti"
    refine ⟨a, p, rfl, sa, hR, ?_⟩
    walk_at "gi"
    refine ⟨(n : Int), rfl, by omega, by omega, ?_⟩
    walk_at "gi"
    refine ⟨x, rfl, x0, x1, ?_⟩
    walk_at "gi"
    refine ⟨n, rfl, n1, ?_⟩
    walk_at "gi"
    exact q
/-! ### the tail -/
def sp_tail (K : PySem.W.Frag) : Sp := fun vs H Q _ => ∃ (a : Addr) (p : List Int) (n : Nat) (x : Int), vs = [.ref a, .int (n : Int), .int x] ∧ SqT K H a (p.map V.int) ∧ Right p ∧ 1 ≤ n ∧ n ≤ 5000 ∧ -(10 ^ 40) ≤ x ∧ x ≤ 10 ^ 40 ∧
  ∀ (t c : Nat) H', Same H H' → Vf.Rho (led p n) (rst x n) t c → Q (.int (t : Int)) H'
theorem ok_tail (T : Top K mg) : Ok P w K mg base 7 "tail" s_tail ["terms", "base", "number"] (sp_tail K) := by
  have G__check_from := ok__check_from (P := P) (w := w) (base := base) T
  have G__path := ok__path (P := P) (w := w) (base := base) T
  refine T.d_tail.ok sc_tail (fun vs H Q E h => ?_) (fun f cdv A outer s H vs Q E hg hr h => ?_)
  · obtain ⟨a, p, n, x, rfl, _⟩ := h
    rfl
  · obtain ⟨a, p, n, x, rfl, sa, hR, n0, n1, x0, x1, q⟩ := h
    refine ⟨_, (pss_cons (ps_expr (pe_g G__check_from (fun _ _ F => bd__check_from F) hg (hr.mono (by decide)) passL (by rfl) (pa_cons (pv 0) (pa_cons (pv 1) (pa_cons (pv 2) pa_nil)))))
    (pss_cons (ps_asg (pe_g G__path (fun _ _ F => bd__path F) hg (hr.mono (by decide)) passL (by rfl) (pa_cons (pv 0) (pa_cons (pv 1) (pa_cons (pv 2) pa_nil)))) (g_tup rfl rfl (pgs_cons (pg_name (i := 3) sc_tail.nd rfl (.inl rfl)) (pgs_cons (pg_name (i := 4) sc_tail.nd rfl (.inl rfl)) pgs_nil)) rfl rfl))
    (pss_one (ps_ret (pv 4))))), ?_⟩
    walk_at "sti"
    refine ⟨a, p, n, x, rfl, sa, hR, n0, n1, x0, x1, ?_⟩
    walk_at "gi"
    refine ⟨a, p, n, x, rfl, sa, hR.1.1, n0, n1, fun z l t c H1 s1 ez el R => ?_⟩
    walk_at "gi"
    exact q t c H1 s1 R
/-! ### after many steps -/
def sp_after (K : PySem.W.Frag) : Sp := fun vs H Q _ => ∃ (a : Addr) (p : List Int) (n : Nat) (x : Int) (k : Nat), vs = [.ref a, .int (n : Int), .int x, .int (k : Int)] ∧ SqT K H a (p.map V.int) ∧ Right p ∧ 1 ≤ n ∧ n ≤ 5000 ∧ -(10 ^ 40) ≤ x ∧ x ≤ 10 ^ 40 ∧ k ≤ 10 ^ 40 ∧
  ∀ H', Same H H' → Q (.int (Vf.itf (led p n) (rst x n) k : Int)) H'
theorem ok_after (T : Top K mg) : Ok P w K mg base 7 "after" s_after ["terms", "base", "number", "times"] (sp_after K) := by
  have G_check_sum := ok_check_sum (P := P) (w := w) (base := base) T
  have G_check_base := ok_check_base (P := P) (w := w) (base := base) T
  have G_check_number := ok_check_number (P := P) (w := w) (base := base) T
  have G_check_within := ok_check_within (P := P) (w := w) (base := base) T
  have G_check_walked := ok_check_walked (P := P) (w := w) (base := base) T
  have G__path := ok__path (P := P) (w := w) (base := base) T
  refine T.d_after.ok sc_after (fun vs H Q E h => ?_) (fun f cdv A outer s H vs Q E hg hr h => ?_)
  · obtain ⟨a, p, n, x, k, rfl, _⟩ := h
    rfl
  · obtain ⟨a, p, n, x, k, rfl, sa, hR, n0, n1, x0, x1, k1, q⟩ := h
    refine ⟨_, (pss_cons (ps_expr (pe_g G_check_sum (fun _ _ F => bd_check_sum F) hg (hr.mono (by decide)) passL (by rfl) (pa_cons (pv 0) pa_nil)))
    (pss_cons (ps_expr (pe_g G_check_base (fun _ _ F => bd_check_base F) hg (hr.mono (by decide)) passL (by rfl) (pa_cons (pv 1) pa_nil)))
    (pss_cons (ps_expr (pe_g G_check_number (fun _ _ F => bd_check_number F) hg (hr.mono (by decide)) passL (by rfl) (pa_cons (pv 2) pa_nil)))
    (pss_cons (ps_expr (pe_g G_check_within (fun _ _ F => bd_check_within F) hg (hr.mono (by decide)) passL (by rfl) (pa_cons (pv 3) (pa_cons pe_int (pa_cons (pe_gi T.c_MOST_NUMBER (by rfl)) pa_nil)))))
    (pss_cons (ps_expr (pe_g G_check_walked (fun _ _ F => bd_check_walked F) hg (hr.mono (by decide)) passL (by rfl) (pa_cons (pv 1) pa_nil)))
    (pss_cons (ps_asg (pe_g G__path (fun _ _ F => bd__path F) hg (hr.mono (by decide)) passL (by rfl) (pa_cons (pv 0) (pa_cons (pv 1) (pa_cons (pv 2) pa_nil)))) (g_tup rfl rfl (pgs_cons (pg_name (i := 4) sc_after.nd rfl (.inl rfl)) (pgs_cons (pg_name (i := 5) sc_after.nd rfl (.inl rfl)) pgs_nil)) rfl rfl))
    (pss_cons (ps_if (pt_cmpR op_lt (pv 3) (pv 5) (nomark _)) (pss_one (ps_ret (pe_ix (x_list rfl) (pv 4) (pv 3) (fun _ _ => rfl)))) pss_nil)
    (pss_one (ps_ret (pe_ix (x_list rfl) (pv 4) (pe_op op_add (pv 5) (pe_op op_mod (pe_op op_sub (pv 3) (pv 5)) (pe_op op_sub (pe_callB (id := "len") (c_len rfl) (by rfl) T.b_len (by decide +kernel) (pa_cons (pv 4) pa_nil)) (pv 5)))) (fun _ _ => rfl))))))))))), ?_⟩
    walk_at "sti"
    refine ⟨a, p, rfl, sa, hR, ?_⟩
    walk_at "gi"
    refine ⟨(n : Int), rfl, by omega, by omega, ?_⟩
    walk_at "gi"
    refine ⟨x, rfl, x0, x1, ?_⟩
    walk_at "gi"
    refine ⟨(k : Int), _, _, rfl, by omega, by omega, ?_⟩
    walk_at "gi"
    refine ⟨n, rfl, n1, ?_⟩
    walk_at "gi"
    refine ⟨a, p, n, x, rfl, sa, hR.1.1, n0, n1, fun z l t c H1 s1 ez el R => ?_⟩
    walk_at "gi"
    have R0 := R.pos
    have Rl := R.le (n := n) (fun y _ => led_lt p n0 y) (rst_lt x n0)
    refine ifd (fun h1 => ?_) (fun h1 => ?_)
    · walk_at "gi"
      refine r_ixL (SqL.of el) (atI_nat (j := k) (by rw [List.getElem?_map, way_at (show k < t + c by omega)]; rfl)) ?_
      walk_at "gi"
      exact q _ s1
    · walk_at "gi"
      rw [List.length_map, way_len]
      refine r_rI (show (0 : Int) < ((t + c : Nat) : Int) - (t : Int) by omega) ?_
      walk_at "gi"
      have em : (t : Int) + ((k : Int) - (t : Int)) % (((t + c : Nat) : Int) - (t : Int)) = ((t + (k - t) % c : Nat) : Int) := by
        rw [show ((t + c : Nat) : Int) - (t : Int) = (c : Int) by omega, show (k : Int) - (t : Int) = ((k - t : Nat) : Int) by omega, ← Int.natCast_emod, ← Int.natCast_add]
      rw [em]
      have l1 : t + (k - t) % c < t + c := Nat.add_lt_add_left (Nat.mod_lt _ R0) _
      refine r_ixL (SqL.of el) (atI_nat (j := t + (k - t) % c) (by rw [List.getElem?_map, way_at l1]; rfl)) ?_
      walk_at "gi"
      rw [← R.far (show t ≤ k by omega)]
      exact q _ s1
/-! ### least first -/
theorem first_at {L : List Int} {m : Int} (h : m ∈ L) : ∃ k : Nat, L[k]? = some m ∧ ∀ j : Nat, j < k → L[j]? ≠ some m := by
  induction L with
  | nil => cases h
  | cons y ys ih =>
    rcases Decidable.em (y = m) with e | e
    · exact ⟨0, by rw [e]; rfl, fun j hj => absurd hj (Nat.not_lt_zero _)⟩
    · obtain ⟨k, h1, h2⟩ := ih ((List.mem_cons.mp h).resolve_left fun z => e z.symm)
      refine ⟨k + 1, h1, fun j hj => ?_⟩
      cases j with
      | zero => exact fun z => e (Option.some.inj z)
      | succ j => exact h2 j (by omega)
def turned (L : List Int) (k : Nat) : List Int := L.drop k ++ L.take k
def sp_least (K : PySem.W.Frag) : Sp := fun vs H Q _ => ∃ (a : Addr) (L : List Int), vs = [.ref a] ∧ H a = some (.lst (L.map V.int)) ∧ L ≠ [] ∧ L.length ≤ 5000 ∧
  ∀ (b : Addr) (k : Nat) (m : Int) H', Same H H' → SqT K H' b ((turned L k).map V.int) → L[k]? = some m → (∀ j, j < k → L[j]? ≠ some m) → (∀ y ∈ L, m ≤ y) → Q (.ref b) H'
theorem ok__least_first (T : Top K mg) : Ok P w K mg base 1 "_least_first" s__least_first ["ring"] (sp_least K) := by
  refine T.d__least_first.ok sc__least_first (fun vs H Q E h => ?_) (fun f cdv A outer s H vs Q E hg hr h => ?_)
  · obtain ⟨a, L, rfl, _⟩ := h
    rfl
  · obtain ⟨a, L, rfl, ea, nn, nl, q⟩ := h
    refine ⟨_, (pss_cons (ps_set (i := 1) sc__least_first.nd rfl (.inl rfl) (pe_bm PySem.F.plainAttrs_list PySem.F.slot_list_index PySem.F.type_list_index (mt_lix rfl) (pv 0) (pa_cons (pe_callB (id := "min") (c_minL rfl rfl) (by rfl) T.b_min (by decide +kernel) (pa_cons (pv 0) pa_nil)) pa_nil)))
    (pss_one (ps_ret (pe_callTy (T := "tuple") (c_tuple rfl) (by rfl) T.b_tuple (by decide +kernel) (pa_cons (pe_op op_cat (pe_slice (s_list rfl) (pv 0) (po_some (pv 1)) po_none) (pe_slice (s_list rfl) (pv 0) po_none (po_some (pv 1)))) pa_nil))))), ?_⟩
    walk_at "sti"
    refine ⟨.inl ⟨rfl, _, SqL.of ea⟩, ?_⟩
    walk_at "gi"
    refine ⟨a, L, rfl, SqL.of ea, List.length_pos_iff.mpr nn, fun m mi mm => ?_⟩
    walk_at "gi"
    obtain ⟨k, hk, hno⟩ := first_at mi
    have lk : k < L.length := (List.getElem?_eq_some_iff.mp hk).1
    refine r_lix L (SqL.of ea) hk hno ?_
    walk_at "gi"
    refine r_slL (SqL.of ea) ?_
    rw [cut_from (by rw [List.length_map]; omega), ← List.map_drop]
    intro u hu
    walk_at "gi"
    refine r_slL (SqL.of (at_new hu ea)) ?_
    rw [cut_til, ← List.map_take]
    intro v hv
    walk_at "gi"
    refine r_cat (at_new hv upd_same) upd_same (by simp only [List.length_map, List.length_drop, List.length_take]; omega) fun y hy => ?_
    rw [← List.map_append]
    walk_at "gi"
    refine r_tupL (SqL.of upd_same) fun b hb => ?_
    walk_at "gi"
    exact q b k m _ ((((Same.new hu).trans (Same.new hv)).trans (Same.new hy)).trans (Same.new hb)) (SqT.of upd_same) hk hno mm
/-! ### the ring of a number -/
/-- the ring as a list, its least rest first -/
def RingIs (F : Nat → Nat) (r : Nat) (L : List Int) : Prop := ∃ (t c k : Nat) (m : Int), Vf.Rho F r t c ∧ L = turned ((way F r (t + c)).drop t) k ∧ ((way F r (t + c)).drop t)[k]? = some m ∧ (∀ j, j < k → ((way F r (t + c)).drop t)[j]? ≠ some m) ∧ ∀ y ∈ (way F r (t + c)).drop t, m ≤ y
theorem RingIs.one {F : Nat → Nat} {r : Nat} {L M : List Int} (h : RingIs F r L) (g : RingIs F r M) : L = M := by
  obtain ⟨t, c, k, m, R, rfl, h1, h2, h3⟩ := h
  obtain ⟨t', c', k', m', R', rfl, g1, g2, g3⟩ := g
  obtain ⟨rfl, rfl⟩ := R.uniq2 R'
  have e : m = m' := Int.le_antisymm (h3 _ (List.mem_of_getElem? g1)) (g3 _ (List.mem_of_getElem? h1))
  subst e
  rcases Nat.lt_trichotomy k k' with l | l | l
  · exact absurd h1 (g2 k l)
  · rw [l]
  · exact absurd g1 (h2 k' l)
def sp_ring_of (K : PySem.W.Frag) : Sp := fun vs H Q _ => ∃ (a : Addr) (p : List Int) (n : Nat) (x : Int), vs = [.ref a, .int (n : Int), .int x] ∧ SqT K H a (p.map V.int) ∧ Right p ∧ 1 ≤ n ∧ n ≤ 5000 ∧ -(10 ^ 40) ≤ x ∧ x ≤ 10 ^ 40 ∧
  ∀ (b : Addr) (L : List Int) H', Same H H' → SqT K H' b (L.map V.int) → RingIs (led p n) (rst x n) L → Q (.ref b) H'
theorem ok_ring_of (T : Top K mg) : Ok P w K mg base 7 "ring_of" s_ring_of ["terms", "base", "number"] (sp_ring_of K) := by
  have G__check_from := ok__check_from (P := P) (w := w) (base := base) T
  have G__path := ok__path (P := P) (w := w) (base := base) T
  have G__least_first := ok__least_first (P := P) (w := w) (base := base) T
  refine T.d_ring_of.ok sc_ring_of (fun vs H Q E h => ?_) (fun f cdv A outer s H vs Q E hg hr h => ?_)
  · obtain ⟨a, p, n, x, rfl, _⟩ := h
    rfl
  · obtain ⟨a, p, n, x, rfl, sa, hR, n0, n1, x0, x1, q⟩ := h
    refine ⟨_, (pss_cons (ps_expr (pe_g G__check_from (fun _ _ F => bd__check_from F) hg (hr.mono (by decide)) passL (by rfl) (pa_cons (pv 0) (pa_cons (pv 1) (pa_cons (pv 2) pa_nil)))))
    (pss_cons (ps_asg (pe_g G__path (fun _ _ F => bd__path F) hg (hr.mono (by decide)) passL (by rfl) (pa_cons (pv 0) (pa_cons (pv 1) (pa_cons (pv 2) pa_nil)))) (g_tup rfl rfl (pgs_cons (pg_name (i := 3) sc_ring_of.nd rfl (.inl rfl)) (pgs_cons (pg_name (i := 4) sc_ring_of.nd rfl (.inl rfl)) pgs_nil)) rfl rfl))
    (pss_one (ps_ret (pe_g G__least_first (fun _ _ F => bd__least_first F) hg (hr.mono (by decide)) passL (by rfl) (pa_cons (pe_slice (s_list rfl) (pv 3) (po_some (pv 4)) po_none) pa_nil)))))), ?_⟩
    walk_at "sti"
    refine ⟨a, p, n, x, rfl, sa, hR, n0, n1, x0, x1, ?_⟩
    walk_at "gi"
    refine ⟨a, p, n, x, rfl, sa, hR.1.1, n0, n1, fun z l t c H1 s1 ez el R => ?_⟩
    walk_at "gi"
    have R0 := R.pos
    have Rl := R.le (n := n) (fun y _ => led_lt p n0 y) (rst_lt x n0)
    refine r_slL (SqL.of el) ?_
    rw [cut_from (by rw [List.length_map, way_len]; omega), ← List.map_drop]
    intro u hu
    walk_at "gi"
    refine ⟨u, (way (led p n) (rst x n) (t + c)).drop t, rfl, upd_same, fun z => ?_, by rw [List.length_drop, way_len]; omega, fun b k m H2 s2 sb h1 h2 h3 => ?_⟩
    · have := congrArg List.length z
      rw [List.length_drop, way_len] at this
      simp only [List.length_nil] at this
      omega
    · walk_at "gi"
      exact q b _ H2 ((s1.trans (Same.new hu)).trans s2) sb ⟨t, c, k, m, R, rfl, h1, h2, h3⟩
end
section
variable {P : Program} {w : World} {K : PySem.W.Frag} {mg : Str → Option Value} {base : Heap}
theorem in_ints (z : Int) (ys : List Int) : inV (.int z) (ys.map V.int) = decide (z ∈ ys) := by
  unfold inV
  rw [List.any_map, Bool.eq_iff_iff, List.any_eq_true]
  simp only [Function.comp, decide_eq_true_eq]
  exact ⟨fun ⟨y, hy, e⟩ => by rw [show z = y from (eq_of_beq (show (y == z) = true from e)).symm]; exact hy, fun h => ⟨z, h, beq_self_eq_true z⟩⟩
theorem r_notInIL {H : Hp} {Q : VK} {p : Addr} {z : Int} (ys : List Int) (hs : SqL K H p (ys.map V.int)) (q : Q (.bl (!decide (z ∈ ys))) H) : rIn K true (.int z) (.ref p) H Q := by
  refine ⟨p, _, rfl, .inl hs, rfl, flat_intsV ys, ?_⟩
  rw [in_ints]
  exact q
end
section
variable {P : Program} {w : World} {K : PySem.W.Frag} {mg : Str → Option Value} {base : Heap}
/-! ### the law's own paths -/
/-- the table of a step below n -/
def Tb (F : Nat → Nat) (n : Nat) : List Int := (List.range n).map fun i => (F i : Int)
theorem Tb_at {F : Nat → Nat} {n i : Nat} (h : i < n) : ((Tb F n).map V.int)[i]? = some (V.int (F i : Int)) := by unfold Tb; rw [List.getElem?_map, List.getElem?_map, List.getElem?_range h]; rfl
theorem way_mem {F : Nat → Nat} {r m : Nat} {x : Nat} : (x : Int) ∈ way F r m ↔ ∃ i, i < m ∧ Vf.itf F r i = x := by
  unfold way
  rw [List.mem_map]
  constructor
  · rintro ⟨i, hi, e⟩
    exact ⟨i, List.mem_range.mp hi, Int.ofNat_inj.mp e⟩
  · rintro ⟨i, hi, e⟩
    exact ⟨i, List.mem_range.mpr hi, by rw [e]⟩
def sp_lpath (K : PySem.W.Frag) : Sp := fun vs H Q _ => ∃ (a : Addr) (F : Nat → Nat) (n r : Nat), vs = [.ref a, .int (r : Int)] ∧ SqT K H a ((Tb F n).map V.int) ∧ (∀ y, y < n → F y < n) ∧ r < n ∧ n ≤ 5000 ∧
  ∀ (z l : Addr) (t c : Nat) H', Same H H' → H' z = some (.tup [.ref l, .int (t : Int)]) → H' l = some (.lst ((way F r (t + c)).map V.int)) → Vf.Rho F r t c → Q (.ref z) H'
theorem ok__law_path (T : Top K mg) : Ok P w K mg base 1 "_law_path" s__law_path ["_law_table_here", "_law_rest"] (sp_lpath K) := by
  refine T.d__law_path.ok sc__law_path (fun vs H Q E h => ?_) (fun f cdv A outer s H vs Q E hg hr h => ?_)
  · obtain ⟨a, F, n, r, rfl, _⟩ := h
    rfl
  · obtain ⟨a, F, n, r, rfl, sa, hF, hr0, n1, q⟩ := h
    refine ⟨_, (pss_cons (ps_set (i := 2) sc__law_path.nd rfl (.inl rfl) (pe_lst pa_nil))
    (pss_cons (ps_while (passes_of rfl) (pt_cmpR (o_notIn rfl) (pv 1) (pv 2) (by rfl)) (pss_cons (ps_expr (pe_bm PySem.F.plainAttrs_list PySem.F.slot_list_append PySem.F.type_list_append mt_append (pv 2) (pa_cons (pv 1) pa_nil)))
    (pss_one (ps_set (i := 1) sc__law_path.nd rfl (.inl rfl) (pe_ix (x_tup rfl) (pv 0) (pv 1) (fun _ _ => rfl))))))
    (pss_one (ps_ret (pe_tup (pa_cons (pv 2) (pa_cons (pe_bm PySem.F.plainAttrs_list PySem.F.slot_list_index PySem.F.type_list_index (mt_lix rfl) (pv 2) (pa_cons (pv 1) pa_nil)) pa_nil))))))), ?_⟩
    walk_at "sti"
    rename_i l hl
    have el : upd H l (.lst []) l = some (.lst []) := upd_same
    have s0 : Same H (upd H l (.lst [])) := Same.new hl
    generalize upd H l (.lst []) = H0 at *
    refine r_while (fun mm σ G => ∃ i : Nat, σ = [some (.ref a), some (.int (Vf.itf F r i : Int)), some (.ref l)] ∧ Same H G ∧ G l = some (.lst ((way F r i).map V.int)) ∧ (∀ i', i' < i → ∀ j, j < i' → Vf.itf F r i' ≠ Vf.itf F r j) ∧ mm = n - i) n
      ⟨0, rfl, s0, el, fun i' h => absurd h (Nat.not_lt_zero _), rfl⟩ fun mm σ G hW => ?_
    obtain ⟨i, rfl, s1, e2, un, rfl⟩ := hW
    have il := Vf.few hF hr0 un
    have it1 := Vf.itf_lt hF hr0 i
    walk_at "gi"
    refine r_notInIL (way F r i) (SqL.of e2) ?_
    walk_at "gi"
    rcases Classical.em ((Vf.itf F r i : Int) ∈ way F r i) with hm | hm
    · rw [if_neg (by simp [hm])]
      obtain ⟨j, hj, hk⟩ := way_mem.mp hm
      walk_at "gi"
      refine ⟨.inl ⟨rfl, _, SqL.of e2⟩, ?_⟩
      walk_at "gi"
      refine r_lix (j := j) (way F r i) (SqL.of e2) (by rw [way_at hj, hk]) (fun m lm z => un j hj m lm ?_) ?_
      · rw [way_at (show m < i by omega)] at z
        rw [hk]
        exact (Int.ofNat_inj.mp (Option.some.inj z)).symm
      · walk_at "gi"
        rename_i z hz
        have R : Vf.Rho F r j (i - j) := ⟨by omega, by rw [show j + (i - j) = i by omega]; exact hk.symm, fun i' h1 j' h2 => un i' (by omega) j' h2⟩
        refine q z l j (i - j) _ (s1.trans (Same.new hz)) upd_same (at_new hz ?_) R
        rw [show j + (i - j) = i by omega]
        exact e2
    · rw [if_pos (by simp [hm])]
      have un2 : ∀ i', i' < i + 1 → ∀ j, j < i' → Vf.itf F r i' ≠ Vf.itf F r j := fun i' h1 j h2 => by
        rcases Nat.lt_or_ge i' i with c | c
        · exact un i' c j h2
        · rw [show i' = i by omega] at h2 ⊢
          exact fun e => hm (way_mem.mpr ⟨j, h2, e.symm⟩)
      have il2 := Vf.few hF hr0 un2
      refine ⟨_, fun _ _ h => h, ?_⟩
      walk_at "gi"
      refine ⟨.inl ⟨rfl, _, SqL.of e2⟩, ?_⟩
      walk_at "gi"
      refine r_app e2 (by rw [List.length_map, way_len]; omega) ?_
      walk_at "gi"
      have hl0 : H l = none := hl
      have s2 : ∀ o1, Same H (upd G l o1) := fun o1 b' o e => by
        rw [upd_ne (ne_of_none e hl0)]
        exact s1 _ _ e
      refine r_ixT (Same.tup (s2 _) sa) (atI_nat (j := Vf.itf F r i) (Tb_at it1)) ?_
      walk_at "gi"
      refine ⟨n - (i + 1), by omega, i + 1, rfl, s2 _, ?_, un2, rfl⟩
      rw [way_snoc, List.map_append]
      exact upd_same
def sp_lring (K : PySem.W.Frag) : Sp := fun vs H Q _ => ∃ (a : Addr) (F : Nat → Nat) (n r : Nat), vs = [.ref a, .int (r : Int)] ∧ SqT K H a ((Tb F n).map V.int) ∧ (∀ y, y < n → F y < n) ∧ r < n ∧ n ≤ 5000 ∧
  ∀ (b : Addr) (L : List Int) H', Same H H' → H' b = some (.tup (L.map V.int)) → RingIs F r L → Q (.ref b) H'
theorem ok__law_ring (T : Top K mg) : Ok P w K mg base 2 "_law_ring" s__law_ring ["_law_table_here", "_law_rest"] (sp_lring K) := by
  have G__law_path := ok__law_path (P := P) (w := w) (base := base) T
  refine T.d__law_ring.ok sc__law_ring (fun vs H Q E h => ?_) (fun f cdv A outer s H vs Q E hg hr h => ?_)
  · obtain ⟨a, F, n, r, rfl, _⟩ := h
    rfl
  · obtain ⟨a, F, n, r, rfl, sa, hF, hr0, n1, q⟩ := h
    refine ⟨_, (pss_cons (ps_asg (pe_g G__law_path (fun _ _ F => bd__law_path F) hg (hr.mono (by decide)) passL (by rfl) (pa_cons (pv 0) (pa_cons (pv 1) pa_nil))) (g_tup rfl rfl (pgs_cons (pg_name (i := 2) sc__law_ring.nd rfl (.inl rfl)) (pgs_cons (pg_name (i := 3) sc__law_ring.nd rfl (.inl rfl)) pgs_nil)) rfl rfl))
    (pss_cons (ps_set (i := 4) sc__law_ring.nd rfl (.inl rfl) (pe_slice (s_list rfl) (pv 2) (po_some (pv 3)) po_none))
    (pss_cons (ps_set (i := 5) sc__law_ring.nd rfl (.inl rfl) (pe_bm PySem.F.plainAttrs_list PySem.F.slot_list_index PySem.F.type_list_index (mt_lix rfl) (pv 4) (pa_cons (pe_callB (id := "min") (c_minL rfl rfl) (by rfl) T.b_min (by decide +kernel) (pa_cons (pv 4) pa_nil)) pa_nil)))
    (pss_one (ps_ret (pe_callTy (T := "tuple") (c_tuple rfl) (by rfl) T.b_tuple (by decide +kernel) (pa_cons (pe_op op_cat (pe_slice (s_list rfl) (pv 4) (po_some (pv 5)) po_none) (pe_slice (s_list rfl) (pv 4) po_none (po_some (pv 5)))) pa_nil))))))), ?_⟩
    walk_at "sti"
    refine ⟨a, F, n, r, rfl, sa, hF, hr0, n1, fun z l t c H1 s1 ez el R => ?_⟩
    walk_at "gi"
    have R0 := R.pos
    have Rl := R.le hF hr0
    refine r_slL (SqL.of el) ?_
    rw [cut_from (by rw [List.length_map, way_len]; omega), ← List.map_drop]
    intro o ho
    walk_at "gi"
    generalize hL : (way F r (t + c)).drop t = L
    have nL : L.length = c := by rw [← hL, List.length_drop, way_len]; omega
    have eo : upd H1 o (.lst (L.map V.int)) o = some (.lst (L.map V.int)) := upd_same
    refine ⟨.inl ⟨rfl, _, SqL.of eo⟩, ?_⟩
    walk_at "gi"
    refine ⟨o, L, rfl, SqL.of eo, by omega, fun m mi mm => ?_⟩
    walk_at "gi"
    obtain ⟨k, hk, hno⟩ := first_at mi
    have lk : k < L.length := (List.getElem?_eq_some_iff.mp hk).1
    refine r_lix L (SqL.of eo) hk hno ?_
    walk_at "gi"
    refine r_slL (SqL.of eo) ?_
    rw [cut_from (by rw [List.length_map]; omega), ← List.map_drop]
    intro u hu
    walk_at "gi"
    refine r_slL (SqL.of (at_new hu eo)) ?_
    rw [cut_til, ← List.map_take]
    intro v hv
    walk_at "gi"
    refine r_cat (at_new hv upd_same) upd_same (by simp only [List.length_map, List.length_drop, List.length_take]; omega) fun y hy => ?_
    rw [← List.map_append]
    walk_at "gi"
    refine r_tupL (SqL.of upd_same) fun b hb => ?_
    walk_at "gi"
    refine q b (turned L k) _ (s1.trans (((((Same.new ho).trans (Same.new hu)).trans (Same.new hv)).trans (Same.new hy)).trans (Same.new hb))) upd_same ⟨t, c, k, m, R, by rw [hL], by rw [hL]; exact hk, by rw [hL]; exact hno, by rw [hL]; exact mm⟩
end
section
variable {P : Program} {w : World} {K : PySem.W.Frag} {mg : Str → Option Value} {base : Heap}
theorem ixN_nat {n i : Nat} (h : i < n) : ixN n (i : Int) = some i := by
  unfold ixN
  rw [if_pos (by omega), if_pos (by omega)]
  simp
def bv (g : Nat → Option Nat) (n : Nat) : List V := (List.range n).map fun r => match g r with
  | none => V.non
  | some x => V.int (x : Int)
theorem bv_len (g : Nat → Option Nat) (n : Nat) : (bv g n).length = n := by simp [bv]
theorem bv_at {g : Nat → Option Nat} {n r : Nat} (h : r < n) : (bv g n)[r]? = some (match g r with
  | none => V.non
  | some x => V.int (x : Int)) := by
  unfold bv
  rw [List.getElem?_map, List.getElem?_range h]
  rfl
theorem bv_none (n : Nat) : (List.replicate n [V.non]).flatten = bv (fun _ => none) n := by
  unfold bv
  induction n with
  | zero => rfl
  | succ n ih => rw [List.replicate_succ', List.flatten_append, ih, List.range_succ, List.map_append]; rfl
theorem bv_set {g : Nat → Option Nat} {n r x : Nat} (h : r < n) : (bv g n).set r (V.int (x : Int)) = bv (fun y => if y = r then some x else g y) n := by
  refine List.ext_getElem (by rw [List.length_set, bv_len, bv_len]) fun i h1 h2 => ?_
  rw [bv_len] at h2
  have e1 := bv_at (g := g) h2
  have e2 := bv_at (g := fun y => if y = r then some x else g y) h2
  rw [List.getElem_set]
  have f1 := (List.getElem?_eq_some_iff.mp e1).2
  have f2 := (List.getElem?_eq_some_iff.mp e2).2
  by_cases c : r = i
  · subst c
    rw [if_pos rfl, f2]
    simp
  · rw [if_neg c, f1, f2, if_neg (fun z => c z.symm)]
end
section
variable {P : Program} {w : World} {K : PySem.W.Frag} {mg : Str → Option Value} {base : Heap}
/-! ### all rings -/
def RsAt (H : Hp) (X : List Addr) (F : Nat → Nat) (us : List V) (RS : List (Nat × Nat)) : Prop := Paired (fun (v : V) (r : Nat × Nat) => ∃ p, v = V.ref p ∧ p ∉ X ∧ H p = some (.lst ((way F r.1 r.2).map V.int))) us RS
theorem bgM_step {F : Nat → Nat} {i m : Nat} {bg : Nat → Option Nat} : (fun y => if y = Vf.itf F i m then some i else Vf.bgM F i m bg y) = Vf.bgM F i (m + 1) bg := by
  funext y
  rcases Decidable.em (y = Vf.itf F i m) with e | e
  · rw [if_pos e, Vf.bgM_pos ⟨m, by omega, e.symm⟩]
  · rw [if_neg e]
    rcases Decidable.em (∃ j, j < m ∧ Vf.itf F i j = y) with z | z
    · rw [Vf.bgM_pos z]
      obtain ⟨j, lj, h⟩ := z
      rw [Vf.bgM_pos ⟨j, by omega, h⟩]
    · rw [Vf.bgM_neg z, Vf.bgM_neg]
      rintro ⟨j, lj, h⟩
      rcases Nat.lt_or_ge j m with l | l
      · exact z ⟨j, l, h⟩
      · rw [show j = m by omega] at h
        exact e h.symm
theorem RsAt.updX {H : Hp} {X : List Addr} {F : Nat → Nat} {us : List V} {RS : List (Nat × Nat)} {x : Addr} {o : HO} (hx : x ∈ X) (h : RsAt H X F us RS) : RsAt (upd H x o) X F us RS :=
  Paired.mapP h fun v r ⟨p, e, np, g⟩ => ⟨p, e, np, by rw [upd_ne (fun z => np (by rw [z]; exact hx))]; exact g⟩
theorem RsAt.newX {H : Hp} {X : List Addr} {F : Nat → Nat} {us : List V} {RS : List (Nat × Nat)} {x : Addr} {o : HO} (hx : H x = none) (h : RsAt H X F us RS) : RsAt (upd H x o) (x :: X) F us RS :=
  Paired.mapP h fun v r ⟨p, e, np, g⟩ => ⟨p, e, fun z => (List.mem_cons.mp z).elim (fun z => by rw [z, hx] at g; cases g) np, at_new hx g⟩
theorem RsAt.sub {H : Hp} {X Y : List Addr} {F : Nat → Nat} {us : List V} {RS : List (Nat × Nat)} (s : ∀ x ∈ Y, x ∈ X) (h : RsAt H X F us RS) : RsAt H Y F us RS :=
  Paired.mapP h fun v r ⟨p, e, np, g⟩ => ⟨p, e, fun z => np (s _ z), g⟩
theorem paired_snoc {α β : Type} {R : α → β → Prop} {x : α} {y : β} (r : R x y) : ∀ {xs : List α} {ys : List β}, Paired R xs ys → Paired R (xs ++ [x]) (ys ++ [y])
  | _, _, .nil => .cons r .nil
  | _, _, .cons h t => .cons h (paired_snoc r t)
theorem bgM_zero {F : Nat → Nat} {i : Nat} {bg : Nat → Option Nat} : Vf.bgM F i 0 bg = bg := by
  funext y
  exact Vf.bgM_neg fun ⟨j, lj, _⟩ => absurd lj (Nat.not_lt_zero _)
theorem way_drop {F : Nat → Nat} {i m j : Nat} (h : j ≤ m) : (way F i m).drop j = way F (Vf.itf F i j) (m - j) := by
  refine List.ext_getElem? fun x => ?_
  rw [List.getElem?_drop]
  rcases Nat.lt_or_ge x (m - j) with c | c
  · rw [way_at (show j + x < m by omega), way_at c, Vf.itf_add]
  · rw [List.getElem?_eq_none (by rw [way_len]; omega), List.getElem?_eq_none (by rw [way_len]; omega)]
def sp_allr (K : PySem.W.Frag) : Sp := fun vs H Q _ => ∃ (a : Addr) (F : Nat → Nat) (n : Nat), vs = [.ref a] ∧ SqT K H a ((Tb F n).map V.int) ∧ (∀ y, y < n → F y < n) ∧ 1 ≤ n ∧ n ≤ 1000 ∧
  ∀ (l : Addr) (us : List V) (bg : Nat → Option Nat) (RS : List (Nat × Nat)) H', Same H H' → H' l = some (.lst us) → RsAt H' [l] F us RS → Vf.Fnd F n n bg RS → Q (.ref l) H'
theorem ok__all_rings (T : Top K mg) : Ok P w K mg base 1 "_all_rings" s__all_rings ["table"] (sp_allr K) := by
  refine T.d__all_rings.ok sc__all_rings (fun vs H Q E h => ?_) (fun f cdv A outer s H vs Q E hg hr h => ?_)
  · obtain ⟨a, F, n, rfl, _⟩ := h
    rfl
  · obtain ⟨a, F, n, rfl, sa, hF, n0, n1, q⟩ := h
    refine ⟨_, (pss_cons (ps_set (i := 1) sc__all_rings.nd rfl (.inl rfl) (pe_lst pa_nil))
    (pss_cons (ps_set (i := 2) sc__all_rings.nd rfl (.inl rfl) (pe_op op_rep (pe_lst (pa_cons pe_non pa_nil)) (pe_callB (id := "len") (c_len rfl) (by rfl) T.b_len (by decide +kernel) (pa_cons (pv 0) pa_nil))))
    (pss_cons (ps_for (passes_of rfl) rfl (pi_range1 (by rfl) T.b_range (pa_cons (pe_callB (id := "len") (c_len rfl) (by rfl) T.b_len (by decide +kernel) (pa_cons (pv 0) pa_nil)) pa_nil)) (pg_name (i := 3) sc__all_rings.nd rfl (.inl rfl)) (pss_cons (ps_set (i := 4) sc__all_rings.nd rfl (.inl rfl) (pe_lst pa_nil))
    (pss_cons (ps_set (i := 5) sc__all_rings.nd rfl (.inl rfl) (pv 3))
    (pss_cons (ps_while (passes_of rfl) (pt_cmpR op_isN (pe_ix (x_list rfl) (pv 2) (pv 5) (fun _ _ => rfl)) pe_non (nomark _)) (pss_cons (ps_asg (pv 3) (pg_sub (pv 2) (pv 5) set_list))
    (pss_cons (ps_expr (pe_bm PySem.F.plainAttrs_list PySem.F.slot_list_append PySem.F.type_list_append mt_append (pv 4) (pa_cons (pv 5) pa_nil)))
    (pss_one (ps_set (i := 5) sc__all_rings.nd rfl (.inl rfl) (pe_ix (x_tup rfl) (pv 0) (pv 5) (fun _ _ => rfl)))))))
    (pss_one (ps_if (pt_cmpR op_eq (pe_ix (x_list rfl) (pv 2) (pv 5) (fun _ _ => rfl)) (pv 3) (nomark _)) (pss_one (ps_expr (pe_bm PySem.F.plainAttrs_list PySem.F.slot_list_append PySem.F.type_list_append mt_append (pv 1) (pa_cons (pe_slice (s_list rfl) (pv 4) (po_some (pe_bm PySem.F.plainAttrs_list PySem.F.slot_list_index PySem.F.type_list_index (mt_lix rfl) (pv 4) (pa_cons (pv 5) pa_nil))) po_none) pa_nil)))) pss_nil))))))
    (pss_one (ps_ret (pv 1)))))), ?_⟩
    walk_at "sti"
    rename_i l hl o ho
    refine r_rep upd_same (by omega) (by rw [List.length_map]; unfold Tb; rw [List.length_map, List.length_range]; omega) (by simp) fun b hb => ?_
    rw [show ((((Tb F n).map V.int).length : Int)).toNat = n by unfold Tb; simp, bv_none]
    have el : upd (upd (upd H l (.lst [])) o (.lst [.non])) b (.lst (bv (fun _ => none) n)) l = some (.lst []) := at_new hb (at_new ho upd_same)
    have eb : upd (upd (upd H l (.lst [])) o (.lst [.non])) b (.lst (bv (fun _ => none) n)) b = some (.lst (bv (fun _ => none) n)) := upd_same
    have s0 : Same H (upd (upd (upd H l (.lst [])) o (.lst [.non])) b (.lst (bv (fun _ => none) n))) := ((Same.new hl).trans (Same.new ho)).trans (Same.new hb)
    have hb0 : H b = none := none_up (none_up hb)
    have hl0 : H l = none := hl
    have lb : l ≠ b := fun z => by rw [← z] at hb; exact absurd (at_new ho upd_same) (by rw [hb]; exact fun w => nomatch w)
    generalize upd (upd (upd H l (.lst [])) o (.lst [.non])) b (.lst (bv (fun _ => none) n)) = H0 at *
    walk_at "gi"
    have ln : ((((Tb F n).map V.int).length : Int)) = (n : Int) := by unfold Tb; simp
    rw [ln]
    refine ⟨by omega, by omega, ?_⟩
    rw [Int.toNat_natCast]
    refine r_forR (fun i σ G => ∃ y3 y4 y5 us bg RS, σ = [some (.ref a), some (.ref l), some (.ref b), y3, y4, y5] ∧ Same H G ∧ G l = some (.lst us) ∧ us.length ≤ i ∧ G b = some (.lst (bv bg n)) ∧ RsAt G [l, b] F us RS ∧ Vf.Fnd F n i bg RS)
      ⟨_, _, _, [], _, [], rfl, s0, el, Nat.le_refl _, eb, .nil, Vf.Fnd.start F n⟩ (fun i σ G hi hP => ?_) (fun σ G hP => ?_)
    · obtain ⟨y3, y4, y5, us, bg, RS, rfl, s1, e1, ul, e2, R, Fd⟩ := hP
      walk_at "gi"
      rename_i p hp
      have pl : p ≠ l := fun z => by rw [z, e1] at hp; cases hp
      have pb : p ≠ b := fun z => by rw [z, e2] at hp; cases hp
      refine r_while (fun mm σ G' => ∃ m : Nat, σ = [some (.ref a), some (.ref l), some (.ref b), some (.int (i : Int)), some (.ref p), some (.int (Vf.itf F i m : Int))] ∧ Same H G' ∧ G' l = some (.lst us) ∧ G' b = some (.lst (bv (Vf.bgM F i m bg) n)) ∧ G' p = some (.lst ((way F i m).map V.int)) ∧ RsAt G' [p, l, b] F us RS ∧ (∀ j, j < m → bg (Vf.itf F i j) = none) ∧ (∀ i', i' < m → ∀ j, j < i' → Vf.itf F i i' ≠ Vf.itf F i j) ∧ mm = n - m) n ⟨0, ?_, s1.trans (Same.new hp), at_new hp e1, ?_, upd_same, RsAt.newX hp R, (fun j h => absurd h (Nat.not_lt_zero _)), (fun i' h => absurd h (Nat.not_lt_zero _)), rfl⟩ fun mm σ G' hW => ?_
      · rw [Int.zero_add]
        rfl
      · rw [bgM_zero]
        exact at_new hp e2
      · obtain ⟨m, rfl, s2, f1, f2, f3, R2, nw, un, rfl⟩ := hW
        have il := Vf.few hF hi un
        have it1 := Vf.itf_lt hF hi m
        walk_at "gi"
        refine r_ixL (SqL.of f2) (atI_nat (j := Vf.itf F i m) (bv_at it1)) ?_
        walk_at "gi"
        refine ⟨rfl, ?_⟩
        cases hb2 : Vf.bgM F i m bg (Vf.itf F i m) with
        | none =>
          refine ⟨true, by simp, ?_⟩
          rw [if_pos rfl]
          have nin : ¬ ∃ j, j < m ∧ Vf.itf F i j = Vf.itf F i m := fun z => by rw [Vf.bgM_pos z] at hb2; cases hb2
          have bn : bg (Vf.itf F i m) = none := by rw [← Vf.bgM_neg (bg := bg) nin]; exact hb2
          refine ⟨_, fun _ _ h => h, ?_⟩
          walk_at "gi"
          refine r_setL f2 (j := Vf.itf F i m) (ixN_nat (by rw [bv_len]; exact it1)) ?_
          rw [bv_set it1, bgM_step]
          have q1 : upd G' b (.lst (bv (Vf.bgM F i (m + 1) bg) n)) p = some (.lst ((way F i m).map V.int)) := by rw [upd_ne pb]; exact f3
          walk_at "gi"
          refine ⟨.inl ⟨rfl, _, SqL.of q1⟩, ?_⟩
          walk_at "gi"
          refine r_app q1 (by rw [List.length_map, way_len]; omega) ?_
          walk_at "gi"
          have s3 : ∀ o1 o2, Same H (upd (upd G' b o1) p o2) := fun o1 o2 b' o e => by
            rw [upd_ne (ne_of_none e (none_same s1 hp)), upd_ne (ne_of_none e hb0)]
            exact s2 _ _ e
          refine r_ixT (Same.tup (s3 _ _) sa) (atI_nat (j := Vf.itf F i m) (Tb_at it1)) ?_
          walk_at "gi"
          have un2 : ∀ i', i' < m + 1 → ∀ j, j < i' → Vf.itf F i i' ≠ Vf.itf F i j := fun i' h1 j h2 => by
            rcases Nat.lt_or_ge i' m with c | c
            · exact un i' c j h2
            · rw [show i' = m by omega] at h2 ⊢
              exact fun e => nin ⟨j, h2, e.symm⟩
          have il2 := Vf.few hF hi un2
          refine ⟨n - (m + 1), by omega, m + 1, rfl, s3 _ _, ?_, ?_, ?_, RsAt.updX (by simp) (RsAt.updX (by simp) R2), ?_, un2, rfl⟩
          · rw [upd_ne (Ne.symm pl), upd_ne lb]
            exact f1
          · rw [upd_ne (Ne.symm pb)]
            exact upd_same
          · rw [way_snoc, List.map_append]
            exact upd_same
          · intro j hj
            rcases Nat.lt_or_ge j m with c | c
            · exact nw j c
            · rw [show j = m by omega]
              exact bn
        | some f =>
          refine ⟨false, by simp, ?_⟩
          rw [if_neg Bool.false_ne_true]
          walk_at "gi"
          refine r_ixL (SqL.of f2) (atI_nat (j := Vf.itf F i m) (by rw [bv_at it1, hb2])) ?_
          walk_at "gi"
          rcases Decidable.em (f = i) with c | c
          · have ex : ∃ j, j < m ∧ Vf.itf F i j = Vf.itf F i m := Classical.byContradiction fun z => by
              rw [Vf.bgM_neg z] at hb2
              have := Fd.low _ _ hb2
              omega
            obtain ⟨j, lj, ej⟩ := ex
            have N := Fd.new hF hi nw un lj ej
            have Rl := (Fd.new hF hi nw un lj ej).rho _ _ (List.mem_append_right _ List.mem_cons_self)
            refine ⟨rfl, true, by rw [c, decide_eq_true rfl], ?_⟩
            rw [if_pos rfl]
            walk_at "gi"
            refine ⟨.inl ⟨rfl, _, SqL.of f1⟩, ?_⟩
            walk_at "gi"
            refine ⟨.inl ⟨rfl, _, SqL.of f3⟩, ?_⟩
            walk_at "gi"
            refine r_lix (j := j) (way F i m) (SqL.of f3) (by rw [way_at lj, ej]) (fun x lx z => un j lj x lx ?_) ?_
            · rw [way_at (show x < m by omega)] at z
              rw [ej]
              exact (Int.ofNat_inj.mp (Option.some.inj z)).symm
            walk_at "gi"
            refine r_slL (SqL.of f3) ?_
            rw [cut_from (by rw [List.length_map, way_len]; omega), ← List.map_drop, way_drop (by omega)]
            intro u hu
            have nul : u ≠ l := fun z => by rw [z, f1] at hu; cases hu
            have nub : u ≠ b := fun z => by rw [z, f2] at hu; cases hu
            walk_at "gi"
            refine r_app (at_new hu f1) (by omega) ?_
            walk_at "gi"
            have sU := s2.trans (Same.new hu (o := .lst ((way F (Vf.itf F i j) (m - j)).map V.int)))
            refine ⟨_, _, _, us ++ [.ref u], _, RS ++ [(Vf.itf F i j, m - j)], rfl, fun b' o e => ?_, upd_same, by rw [List.length_append]; exact Nat.add_le_add_right ul 1, ?_, ?_, N⟩
            · rw [upd_ne (ne_of_none e hl0)]
              exact sU _ _ e
            · rw [upd_ne (Ne.symm lb)]
              exact at_new hu f2
            · refine paired_snoc ⟨u, rfl, by simp [nul, nub], by rw [upd_ne nul]; exact upd_same⟩ ?_
              exact RsAt.updX (by simp) (RsAt.sub (fun x hx => List.mem_cons_of_mem _ (by simpa using Or.inr hx)) (RsAt.newX hu R2))
          · have nin : ¬ ∃ j, j < m ∧ Vf.itf F i j = Vf.itf F i m := fun z => by
              rw [Vf.bgM_pos z] at hb2
              exact c (Option.some.inj hb2).symm
            have bn : bg (Vf.itf F i m) ≠ none := by rw [← Vf.bgM_neg (bg := bg) nin, hb2]; exact Option.some_ne_none _
            refine ⟨rfl, false, by rw [decide_eq_false (fun z => c (Int.ofNat_inj.mp (V.int.inj z)))], ?_⟩
            rw [if_neg Bool.false_ne_true]
            walk_at "gi"
            refine ⟨_, _, _, us, _, RS, rfl, s2, f1, by omega, f2, RsAt.sub (fun x hx => List.mem_cons_of_mem _ hx) R2, Fd.old nw bn⟩
    · obtain ⟨y3, y4, y5, us, bg, RS, rfl, s1, e1, ul, e2, R, Fd⟩ := hP
      walk_at "gi"
      exact q l us bg RS G s1 e1 (RsAt.sub (fun x hx => by rw [List.mem_singleton.mp hx]; exact List.mem_cons_self) R) Fd
end
section
variable {P : Program} {w : World} {K : PySem.W.Frag} {mg : Str → Option Value} {base : Heap}
/-! ### rings, by their lengths -/
theorem tabOf_led {p : List Int} {n : Nat} (n0 : 0 < n) : tabOf p n = Tb (led p n) n := by
  unfold tabOf Tb
  exact List.map_congr_left fun i _ => (led_int p n0 i).symm
def cD (ks cs : List Nat) : List (Key × V) := ks.map fun (c : Nat) => (Sum.inl (c : Int), V.int ((cs.count c : Nat) : Int))
def KsOf (ks cs : List Nat) : Prop := ks.Nodup ∧ ∀ c, c ∈ ks ↔ c ∈ cs
theorem cD_val {ks cs : List Nat} (h : KsOf ks cs) (c : Nat) : (valV (cD ks cs) (Sum.inl (c : Int))).getD (.int 0) = .int ((cs.count c : Nat) : Int) := by
  unfold cD valV
  by_cases m : c ∈ ks
  · obtain ⟨l1, l2, e⟩ := List.append_of_mem m
    have nd := h.1
    rw [e] at nd
    obtain ⟨_, _, n3⟩ := List.nodup_append.mp nd
    rw [e, List.map_append, List.find?_append, List.find?_eq_none.mpr, List.map_cons, List.find?_cons]
    · show (Option.map _ (Option.or none (match decide ((Sum.inl (c : Int) : Key) = Sum.inl (c : Int)) with | true => some ((Sum.inl (c : Int) : Key), V.int ((cs.count c : Nat) : Int)) | false => _))).getD _ = _
      rw [decide_eq_true rfl]
      rfl
    · intro x hx
      obtain ⟨d, hd, rfl⟩ := List.mem_map.mp hx
      simp only [decide_eq_true_eq]
      intro z
      have : d = c := Int.ofNat_inj.mp (Sum.inl.inj z)
      exact n3 d hd c List.mem_cons_self this
  · rw [List.find?_eq_none.mpr]
    · rw [List.count_eq_zero.mpr fun z => m ((h.2 c).mpr z)]
      rfl
    · intro x hx
      obtain ⟨d, hd, rfl⟩ := List.mem_map.mp hx
      simp only [decide_eq_true_eq]
      intro z
      have : d = c := Int.ofNat_inj.mp (Sum.inl.inj z)
      rw [this] at hd
      exact m hd
theorem cD_put {ks cs : List Nat} (h : KsOf ks cs) (c : Nat) : ∃ ks', KsOf ks' (cs ++ [c]) ∧ ks'.length ≤ ks.length + 1 ∧ putK (cD ks cs) (Sum.inl (c : Int)) (.int (((cs.count c : Nat) : Int) + 1)) = cD ks' (cs ++ [c]) := by
  have cnt : ∀ d, (cs ++ [c]).count d = cs.count d + if d = c then 1 else 0 := fun d => by
    rw [List.count_append, List.count_cons, List.count_nil]
    by_cases e : d = c
    · rw [if_pos e, if_pos (by simp [e])]
    · rw [if_neg e, if_neg (by simp; omega)]
  by_cases m : c ∈ ks
  · refine ⟨ks, ⟨h.1, fun d => ?_⟩, Nat.le_succ _, ?_⟩
    · rw [h.2, List.mem_append, List.mem_singleton]
      exact ⟨.inl, fun z => z.elim id fun z => by rw [z]; exact (h.2 c).mp m⟩
    · unfold putK cD
      rw [if_pos, List.map_map]
      · refine List.map_congr_left fun d hd => ?_
        show (if (Sum.inl (d : Int) : Key) = Sum.inl (c : Int) then ((Sum.inl (d : Int) : Key), V.int (((List.count c cs : Nat) : Int) + 1)) else (Sum.inl (d : Int), V.int ((List.count d cs : Nat) : Int))) = _
        by_cases e : d = c
        · subst e
          rw [if_pos rfl, cnt, if_pos rfl]
          rfl
        · rw [if_neg (fun z => e (Int.ofNat_inj.mp (Sum.inl.inj z))), cnt, if_neg e]
          rfl
      · rw [List.any_eq_true]
        exact ⟨_, List.mem_map.mpr ⟨c, m, rfl⟩, decide_eq_true rfl⟩
  · refine ⟨ks ++ [c], ⟨List.nodup_append.mpr ⟨h.1, by simp, fun a ha b hb z => m (by rw [← List.mem_singleton.mp hb, ← z]; exact ha)⟩, fun d => ?_⟩, by simp, ?_⟩
    · rw [List.mem_append, List.mem_append, h.2]
    · unfold putK cD
      rw [if_neg, List.map_append]
      · congr 1
        · refine List.map_congr_left fun d hd => ?_
          rw [cnt, if_neg (fun z => m (by rw [← z]; exact hd))]
          rfl
        · rw [List.map_singleton, cnt, if_pos rfl]
          rfl
      · rw [List.any_eq_true]
        rintro ⟨x, hx, e⟩
        obtain ⟨d, hd, rfl⟩ := List.mem_map.mp hx
        have e := of_decide_eq_true e
        have : d = c := Int.ofNat_inj.mp (Sum.inl.inj e)
        rw [this] at hd
        exact m hd
/-- the sizes, ascending, each with how many there are -/
def szRow (cs : List Nat) (c : Nat) : List Int := [(c : Int), ((cs.count c : Nat) : Int)]
def SzOf (S cs : List Nat) : Prop := S.Pairwise (· < ·) ∧ ∀ c, c ∈ S ↔ c ∈ cs
theorem row_sort {ks cs : List Nat} (h : KsOf ks cs) : ∃ S, SzOf S cs ∧ (ks.map (szRow cs)).mergeSort leR = S.map (szRow cs) := by
  have pm := List.mergeSort_perm ks fun a b => decide (a ≤ b)
  have st := List.pairwise_mergeSort (le := fun a b : Nat => decide (a ≤ b)) (fun a b c h1 h2 => decide_eq_true (Nat.le_trans (of_decide_eq_true h1) (of_decide_eq_true h2))) (fun a b => by simp; omega) ks
  refine ⟨ks.mergeSort fun a b => decide (a ≤ b), ⟨?_, fun c => ?_⟩, ?_⟩
  · have nd := pm.symm.nodup h.1
    exact (st.and nd).imp fun {a b} ⟨l, ne⟩ => by have := of_decide_eq_true l; omega
  · rw [pm.mem_iff, h.2]
  · rw [← sort_perm (pm.map (szRow cs))]
    refine List.mergeSort_of_pairwise (List.pairwise_map.mpr (st.imp fun {a b} l => ?_))
    have l := of_decide_eq_true l
    rw [leR_le, decide_eq_true_eq]
    unfold szRow
    rcases Nat.lt_or_ge a b with c | c
    · exact List.le_of_lt (List.Lex.rel (by omega))
    · have : a = b := by omega
      subst this
      exact List.le_refl _
theorem SzOf.one {S S' cs : List Nat} (h : SzOf S cs) (g : SzOf S' cs) : S = S' :=
  List.Perm.eq_of_pairwise (le := fun a b : Nat => a < b) (fun a b _ _ h1 h2 => absurd h1 (by omega)) h.1 g.1 ((List.perm_ext_iff_of_nodup (h.1.imp fun l => by omega) (g.1.imp fun l => by omega)).mpr fun c => (h.2 c).trans (g.2 c).symm)
end
section
theorem ring_len {F : Nat → Nat} {n : Nat} {bg : Nat → Option Nat} {RS : List (Nat × Nat)} (hF : ∀ x, x < n → F x < n) (h : Vf.Fnd F n n bg RS) : RS.length ≤ n := by
  have e := Vf.flat_nodup h.dis fun p hp => (h.rho p.1 p.2 hp).1
  have l := List.Nodup.length_le_of_subset e (l₂ := List.range n) fun y hy => List.mem_range.mpr ((h.mem hF y).mp hy).1
  rw [Vf.flat_len, List.length_range] at l
  have g : ∀ RS : List (Nat × Nat), (∀ p ∈ RS, 0 < p.2) → RS.length ≤ (RS.map fun p => p.2).sum := fun RS hp => by
    induction RS with
    | nil => exact Nat.le_refl _
    | cons a RS ih =>
      have := hp a List.mem_cons_self
      have := ih fun p hp' => hp p (List.mem_cons_of_mem _ hp')
      rw [List.length_cons, List.map_cons, List.sum_cons]
      omega
  exact Nat.le_trans (g RS fun p hp => (h.rho p.1 p.2 hp).1.pos) l
end
section
variable {P : Program} {w : World} {K : PySem.W.Frag} {mg : Str → Option Value} {base : Heap}
theorem pget {α β : Type} {R : α → β → Prop} : ∀ {xs : List α} {ys : List β} {i : Nat} {x : α}, Paired R xs ys → xs[i]? = some x → ∃ y, ys[i]? = some y ∧ R x y
  | _, _, i, x, .nil, e => by simp at e
  | _, _, 0, x, .cons (b := b) r t, e => by
    cases e
    exact ⟨b, rfl, r⟩
  | _, _, i + 1, x, .cons r t, e => by
    obtain ⟨p, h1, h2⟩ := pget (i := i) (x := x) t (by simpa using e)
    exact ⟨p, by simpa using h1, h2⟩
theorem papp {α β : Type} {R : α → β → Prop} : ∀ {xs zs : List α} {ys ws : List β}, Paired R xs ys → Paired R zs ws → Paired R (xs ++ zs) (ys ++ ws)
  | _, _, _, _, .nil, s => s
  | _, _, _, _, .cons r t, s => .cons r (papp t s)
def sp_tbl (K : PySem.W.Frag) : Sp := fun vs H Q _ => ∃ (a : Addr) (p : List Int) (n : Nat), vs = [.ref a, .int (n : Int)] ∧ SqT K H a (p.map V.int) ∧ p ≠ [] ∧ 0 < n ∧ n ≤ 1000 ∧ ∀ b H', Same H H' → H b = none → H' b = some (.tup ((tabOf p n).map V.int)) → Q (.ref b) H'
theorem ok_table_of (T : Top K mg) : Ok P w K mg base 2 "table_of" s_table_of ["terms", "base"] (sp_tbl K) := by
  have G_rest_at := ok_rest_at (P := P) (w := w) (base := base) T
  refine T.d_table_of.ok sc_table_of (fun vs H Q E h => ?_) (fun f cdv A outer s H vs Q E hg hr h => ?_)
  · obtain ⟨a, p, n, rfl, _⟩ := h
    rfl
  · obtain ⟨a, p, n, rfl, sv, pn, n0, n1, q⟩ := h
    have E140 : (5000 : Nat) ≤ 2 ^ 140 := by decide
    have E50 : (5000 : Int) ≤ 2 ^ 50 := by decide
    refine ⟨_, (pss_one (ps_ret (pe_callTy (T := "tuple") (c_tuple rfl) (by rfl) T.b_tuple (by decide +kernel) (pa_cons (pe_lc (own := [("number", 2)]) (by rfl) sc_table_of.nd (pi_range1 (by rfl) T.b_range (pa_cons (pv 1) pa_nil)) (blkOk_by (own := [("number", 2)]) (N := ["terms", "base", "number"]) (sc := defScope s_table_of) (by decide +kernel)) (fun _ _ _ _ _ => (pg_name (i := 2) sc_table_of.nd rfl (by first | exact Or.inl rfl | exact Or.inr rfl))) (fun _ _ _ _ _ => pts_nil) (fun _ _ _ _ _ => (pe_g G_rest_at (fun _ _ F => bd_rest_at F) hg (hr.mono (by decide)) passL (by rfl) (pa_cons (pv 0) (pa_cons (pv 2) (pa_cons (pv 1) pa_nil)))))) pa_nil)))), ?_⟩
    walk_at "sti"
    refine ⟨by omega, by omega, ?_⟩
    rw [Int.toNat_natCast]
    refine r_lcR (fun D i H' => Same H H' ∧ H' D = some (.lst (((List.range i).map fun x : Nat => pval p (x : Int) % (n : Int)).map V.int))) (fun D hD => ⟨Same.new hD, upd_same⟩) (fun D i H' hD hi hP => ?_) (fun D H' hD hP => ?_)
    · obtain ⟨s1, d1⟩ := hP
      walk_at "go"
      refine ⟨rfl, ?_⟩
      walk_at "go"
      rw [Int.zero_add]
      refine ⟨a, p, (i : Int), (n : Int), rfl, Same.tup s1 sv, pn, by rw [Int.natAbs_natCast]; omega, by omega, by omega, ?_⟩
      refine ⟨_, d1, Nat.lt_of_lt_of_le (show _ < 100000 by rw [List.length_map, List.length_map, List.length_range]; omega) (by decide), fun b o e => ?_, ?_⟩
      · rw [upd_ne (ne_of_none e hD)]
        exact s1 _ _ e
      · rw [tabOf_snoc, List.map_append]
        exact upd_same
    · obtain ⟨s1, d1⟩ := hP
      walk_at "gi"
      refine r_tupL (SqL.of d1) fun b hb' => ?_
      exact q b _ (s1.trans (Same.new hb')) (none_same s1 hb') upd_same
end
section
variable {P : Program} {w : World} {K : PySem.W.Frag} {mg : Str → Option Value} {base : Heap}
theorem row_pairs {H : Hp} {cs : List Nat} : ∀ {ts : List Addr} {ks : List Nat}, Paired (fun (t : Addr) (q : Key × V) => H t = some (.tup [kV q.1, q.2])) ts (cD ks cs) → RowsAt K H (ts.map V.ref) (ks.map (szRow cs))
  | [], [], _ => .nil
  | [], _ :: _, h => nomatch h
  | _ :: _, [], h => nomatch h
  | t :: ts, c :: ks, .cons h r => .cons ⟨t, rfl, SqT.of h⟩ (row_pairs r)
def sp_rings (K : PySem.W.Frag) : Sp := fun vs H Q _ => ∃ (a : Addr) (p : List Int) (n : Nat), vs = [.ref a, .int (n : Int)] ∧ SqT K H a (p.map V.int) ∧ Right p ∧ 1 ≤ n ∧ n ≤ 1000 ∧
  ∀ (r : Addr) (ws : List V) (bg : Nat → Option Nat) (RS : List (Nat × Nat)) (S : List Nat) H', Same H H' → H r = none → H' r = some (.tup ws) → RowsAt K H' ws (S.map (szRow (RS.map fun p => p.2))) → Vf.Fnd (led p n) n n bg RS → SzOf S (RS.map fun p => p.2) → Q (.ref r) H'
theorem ok_rings (T : Top K mg) : Ok P w K mg base 7 "rings" s_rings ["terms", "base"] (sp_rings K) := by
  have G__check_ring := ok__check_ring (P := P) (w := w) (base := base) T
  have G_table_of := ok_table_of (P := P) (w := w) (base := base) T
  have G__all_rings := ok__all_rings (P := P) (w := w) (base := base) T
  refine T.d_rings.ok sc_rings (fun vs H Q E h => ?_) (fun f cdv A outer s H vs Q E hg hr h => ?_)
  · obtain ⟨a, p, n, rfl, _⟩ := h
    rfl
  · obtain ⟨a, p, n, rfl, sa, hR, n0, n1, q⟩ := h
    refine ⟨_, (pss_cons (ps_expr (pe_g G__check_ring (fun _ _ F => bd__check_ring F) hg (hr.mono (by decide)) passL (by rfl) (pa_cons (pv 0) (pa_cons (pv 1) pa_nil))))
    (pss_cons (ps_set (i := 2) sc_rings.nd rfl (.inl rfl) pe_dnewK)
    (pss_cons (ps_for (passes_of rfl) rfl (i_list rfl (pe_g G__all_rings (fun _ _ F => bd__all_rings F) hg (hr.mono (by decide)) passL (by rfl) (pa_cons (pe_g G_table_of (fun _ _ F => bd_table_of F) hg (hr.mono (by decide)) passL (by rfl) (pa_cons (pv 0) (pa_cons (pv 1) pa_nil))) pa_nil))) (pg_name (i := 3) sc_rings.nd rfl (.inl rfl)) (pss_one (ps_dput (Nat.lt_of_le_of_lt (Nat.add_le_add_left (by decide) _) hr.units) (pv 2) (pe_callB (id := "len") (c_len rfl) (by rfl) T.b_len (by decide +kernel) (pa_cons (pv 3) pa_nil)) (pe_op op_add (pe_dget2 (Nat.lt_of_le_of_lt (Nat.add_le_add_left (by decide) _) hr.units) (pv 2) (pe_callB (id := "len") (c_len rfl) (by rfl) T.b_len (by decide +kernel) (pa_cons (pv 3) pa_nil)) pe_int (M2.mk rfl rfl rfl rfl)) pe_int) rfl)))
    (pss_one (ps_ret (pe_callTy (T := "tuple") (c_tuple rfl) (by rfl) T.b_tuple (by decide +kernel) (pa_cons (pe_callB (id := "sorted") (c_sortedTs rfl hr.units) (by rfl) T.b_sorted (by decide +kernel) (pa_cons (LiI.pe_listItems rfl (pv 2) (by rfl) T.b_list (by decide +kernel)) pa_nil)) pa_nil))))))), ?_⟩
    walk_at "sti"
    refine ⟨a, p, n, rfl, sa, hR, n0, by omega, ?_⟩
    walk_at "gi"
    intro d hd
    walk_at "gi"
    have s0 := Same.new hd (o := .dK [])
    refine ⟨a, p, n, rfl, Same.tup s0 sa, hR.1.1, by omega, n1, fun b H1 s1 nb eb => ?_⟩
    rw [tabOf_led n0] at eb
    walk_at "gi"
    refine ⟨b, led p n, n, rfl, SqT.of eb, fun y _ => led_lt p n0 y, n0, n1, fun l us bg RS H2 s2 el R Fd => ?_⟩
    have s02 := s0.trans (s1.trans s2)
    have ed : H2 d = some (.dK []) := (s1.trans s2) _ _ upd_same
    have lu := Paired.length R
    have lRS : RS.length ≤ n := by
      have := ring_len (fun y _ => led_lt p n0 y) Fd
      exact this
    have nld : l ≠ d := fun z => by rw [z, ed] at el; cases el
    walk_at "gi"
    refine r_forLs us (fun i σ H' => ∃ x3 ks, σ = [some (.ref a), some (.int (n : Int)), some (.ref d), x3] ∧ Same H H' ∧ Kx d H2 H' ∧ KsOf ks ((RS.map fun p => p.2).take i) ∧ ks.length ≤ i ∧ H' d = some (.dK (cD ks ((RS.map fun p => p.2).take i))))
      ⟨_, [], rfl, s02, Kx.refl _, ⟨List.nodup_nil, fun c => by rw [List.take_zero]⟩, Nat.le_refl _, ed⟩ (fun i σ H' hi hP => ?_) (fun i v σ H' hi hP => ?_) (fun σ H' hP => ?_)
    · obtain ⟨x3, ks, rfl, _, kx, _⟩ := hP
      exact SqL.of (kx _ _ nld el)
    · obtain ⟨x3, ks, rfl, s3, kx, hk, kl, e3⟩ := hP
      obtain ⟨r, hr', pa, rfl, np, ep⟩ := pget R hi
      have il : i < RS.length := (List.getElem?_eq_some_iff.mp hr').1
      have npd : pa ≠ d := fun z => by rw [z, ed] at ep; cases ep
      have ep' := kx _ _ npd ep
      have tk : (RS.map fun p => p.2).take (i + 1) = (RS.map fun p => p.2).take i ++ [r.2] := by
        rw [List.take_add_one, List.getElem?_map, hr']
        rfl
      obtain ⟨ks', k1, k2, k3⟩ := cD_put hk r.2
      have v1 := cD_val hk r.2
      walk_at "gi"
      refine r_dget2 ?_
      walk_at "gi"
      refine ⟨.inl ⟨_, .inl e3⟩, ?_⟩
      walk_at "gi"
      rw [List.length_map, way_len]
      refine ⟨_, DGet.k (k := Sum.inl (r.2 : Int)) e3, ?_⟩
      rw [v1]
      walk_at "gi"
      rw [List.length_map, way_len]
      refine ⟨d, _, rfl, DPut.k (k := Sum.inl (r.2 : Int)) e3 (Nat.lt_of_le_of_lt (show _ ≤ 1000 by unfold cD; rw [List.length_map]; omega) (by decide)), ?_⟩
      rw [k3, tk]
      exact ⟨_, ks', rfl, fun b' o e => by rw [upd_ne (ne_of_none e hd)]; exact s3 _ _ e, kx.trans Kx.upd, k1, by omega, upd_same⟩
    · obtain ⟨x3, ks, rfl, s3, kx, hk, kl, e3⟩ := hP
      have tkl : (RS.map fun p => p.2).take us.length = RS.map fun p => p.2 := List.take_of_length_le (by rw [List.length_map]; omega)
      rw [tkl] at hk e3
      obtain ⟨S, hS, eS⟩ := row_sort hk
      walk_at "gi"
      refine ⟨.ref d, rfl, d, _, rfl, e3, fun H4 p4 ts s4 np4 nt4 npt4 ep4 R4 => ?_⟩
      have R5 := row_pairs (K := K) R4
      have lt := RowsAt.len R5
      rw [List.length_map] at lt
      walk_at "gi"
      refine ⟨p4, _, ks.map (szRow (RS.map fun p => p.2)), rfl, SqL.of ep4, R5, .inr fun ns hns => ?_, by rw [List.length_map]; omega, fun ys p6 R6 np6 => ?_⟩
      · obtain ⟨c, _, rfl⟩ := List.mem_map.mp hns
        exact fun z => nomatch z
      rw [eS] at R6
      walk_at "gi"
      refine r_tupL (SqL.of upd_same) fun p7 hp7 => ?_
      walk_at "gi"
      have s37 := s3.trans (show Same H' H4 from s4)
      have s67 := (Same.new np6 (o := .lst ys)).trans (Same.new hp7 (o := .tup ys))
      exact q p7 ys bg RS S _ (s37.trans s67) (none_same (s37.trans (Same.new np6)) hp7) upd_same (RowsAt.same R6 s67) Fd hS
end
section
variable {P : Program} {w : World} {K : PySem.W.Frag} {mg : Str → Option Value} {base : Heap}
/-! ### the law's rings -/
theorem turned_way {F : Nat → Nat} {r t c k : Nat} (R : Vf.Rho F r t c) (hk : k < c) : turned ((way F r (t + c)).drop t) k = way F (Vf.itf F r (t + k)) c := by
  rw [way_drop (by omega), show t + c - t = c by omega]
  refine List.ext_getElem? fun i => ?_
  unfold turned
  rw [way_drop (by omega), ← Vf.itf_add]
  rcases Nat.lt_or_ge i (c - k) with l | l
  · rw [List.getElem?_append_left (by rw [way_len]; exact l), way_at l, way_at (show i < c by omega)]
  · rw [List.getElem?_append_right (by rw [way_len]; exact l), way_len, List.getElem?_take]
    rcases Nat.lt_or_ge i c with l2 | l2
    · rw [if_pos (by omega), way_at (show i - (c - k) < c by omega), way_at l2, ← Vf.itf_add, ← Vf.itf_add]
      have := R.laps (k + i - c) 1
      rw [show t + (c * 1 + (k + i - c)) = t + k + i by omega] at this
      rw [this, show t + (i - (c - k)) = t + (k + i - c) by omega]
    · rw [if_neg (by omega), List.getElem?_eq_none (by rw [way_len]; exact l2)]
theorem ring_ends {F : Nat → Nat} {r : Nat} {L : List Int} (h : RingIs F r L) : ∃ z c, Vf.Ends F r z c ∧ L = way F z c := by
  obtain ⟨t, c, k, m, R, rfl, h1, h2, h3⟩ := h
  have kc : k < c := by
    have := (List.getElem?_eq_some_iff.mp h1).1
    rw [List.length_drop, way_len] at this
    omega
  refine ⟨Vf.itf F r (t + k), c, ⟨⟨R.pos, ?_, fun i hi j hj e => ?_⟩, fun j => ?_, t + k, rfl⟩, turned_way R kc⟩
  · rw [Nat.zero_add, ← Vf.itf_add, show t + k + c = t + (c * 1 + k) by omega, R.laps k 1]
    rfl
  · rw [Nat.zero_add] at hi
    rw [← Vf.itf_add, ← Vf.itf_add] at e
    have f1 := R.far (show t ≤ t + k + i by omega)
    have f2 := R.far (show t ≤ t + k + j by omega)
    rw [f1, f2, show t + k + i - t = k + i by omega, show t + k + j - t = k + j by omega] at e
    have m1 := Nat.mod_lt (k + i) R.pos
    have m2 := Nat.mod_lt (k + j) R.pos
    rcases Nat.lt_trichotomy ((k + i) % c) ((k + j) % c) with l | l | l
    · exact R.uniq _ (by omega) _ (by omega) e.symm
    · have q1 := Nat.div_add_mod (k + i) c
      have q2 := Nat.div_add_mod (k + j) c
      rw [l] at q1
      have : c * ((k + i) / c) - c * ((k + j) / c) = i - j := by omega
      rw [← Nat.mul_sub] at this
      rcases Nat.eq_zero_or_pos ((k + i) / c - (k + j) / c) with u | u
      · rw [u, Nat.mul_zero] at this
        omega
      · have := Nat.le_mul_of_pos_right c u
        omega
    · exact R.uniq _ (by omega) _ (by omega) e
  · have f1 := R.far (show t ≤ t + k + j by omega)
    rw [← Vf.itf_add, f1]
    have e1 : ((way F r (t + c)).drop t)[k]? = some (Vf.itf F r (t + k) : Int) := by rw [List.getElem?_drop, way_at (by omega)]
    rw [e1] at h1
    have hm := Option.some.inj h1
    have m1 := Nat.mod_lt (t + k + j - t) R.pos
    have := h3 (Vf.itf F r (t + (t + k + j - t) % c) : Int) (by
      refine List.mem_of_getElem? (i := (t + k + j - t) % c) ?_
      rw [List.getElem?_drop, way_at (by omega)])
    omega
noncomputable def enF (F : Nat → Nat) (r : Nat) : Nat × Nat := open Classical in if h : ∃ p : Nat × Nat, Vf.Ends F r p.1 p.2 then h.choose else (0, 0)
theorem enF_eq {F : Nat → Nat} {r z c : Nat} (h : Vf.Ends F r z c) : enF F r = (z, c) := by
  have e : ∃ p : Nat × Nat, Vf.Ends F r p.1 p.2 := ⟨(z, c), h⟩
  unfold enF
  rw [dif_pos e]
  obtain ⟨e1, e2⟩ := e.choose_spec.one h
  exact Prod.ext e1 e2
theorem enF_is {F : Nat → Nat} {r z c : Nat} (h : Vf.Ends F r z c) : Vf.Ends F r (enF F r).1 (enF F r).2 := by
  rw [enF_eq h]
  exact h
theorem snocI {α : Type} {M : List α → Prop} (h0 : M []) (hs : ∀ l a, M l → M (l ++ [a])) (l : List α) : M l := by
  rw [← List.reverse_reverse l]
  induction l.reverse with
  | nil => exact h0
  | cons a t ih =>
    rw [List.reverse_cons]
    exact hs _ _ ih
/-- a dict's keys, all with one value -/
theorem merge_const {α : Type} (k : α → List Key) (v : V) (l : List α) : ∃ ks : List (List Key), ks.Nodup ∧ (∀ y, y ∈ ks ↔ y ∈ l.map k) ∧ Vf.mergeT [] (l.map fun x => (k x, v)) = ks.map fun y => (y, v) := by
  refine snocI (M := fun l => ∃ ks : List (List Key), ks.Nodup ∧ (∀ y, y ∈ ks ↔ y ∈ l.map k) ∧ Vf.mergeT [] (l.map fun x => (k x, v)) = ks.map fun y => (y, v)) ⟨[], List.nodup_nil, fun y => Iff.rfl, rfl⟩ (fun l a ih => ?_) l
  obtain ⟨ks, h1, h2, h3⟩ := ih
  have e : Vf.mergeT [] ((l ++ [a]).map fun x => (k x, v)) = putK (ks.map fun y => (y, v)) (k a) v := by
    unfold Vf.mergeT at *
    rw [List.map_append, List.foldl_append, h3]
    rfl
  rw [e]
  by_cases m : k a ∈ ks
  · refine ⟨ks, h1, fun y => ?_, ?_⟩
    · rw [h2, List.map_append, List.mem_append, List.map_singleton, List.mem_singleton]
      exact ⟨.inl, fun z => z.elim id fun z => by rw [z]; exact (h2 _).mp m⟩
    · unfold putK
      rw [if_pos]
      · rw [List.map_map]
        refine List.map_congr_left fun y _ => ?_
        show (if y = k a then (y, v) else (y, v)) = _
        split <;> rfl
      · rw [List.any_eq_true]
        exact ⟨_, List.mem_map.mpr ⟨_, m, rfl⟩, decide_eq_true rfl⟩
  · refine ⟨ks ++ [k a], List.nodup_append.mpr ⟨h1, by simp, fun x hx y hy z => m (by rw [← List.mem_singleton.mp hy, ← z]; exact hx)⟩, fun y => ?_, ?_⟩
    · rw [List.mem_append, h2, List.map_append, List.mem_append, List.map_singleton]
    · unfold putK
      rw [if_neg, List.map_append]
      · rfl
      · rw [List.any_eq_true]
        rintro ⟨x, hx, ex⟩
        obtain ⟨y, hy, rfl⟩ := List.mem_map.mp hx
        exact m (by rw [← of_decide_eq_true ex]; exact hy)
def kWay (F : Nat → Nat) (p : Nat × Nat) : List Key := (way F p.1 p.2).map Sum.inl
theorem kWay_len (F : Nat → Nat) (p : Nat × Nat) : (kWay F p).length = p.2 := by unfold kWay; rw [List.length_map, way_len]
theorem kWay_inj {F : Nat → Nat} {p q : Nat × Nat} (h : kWay F p = kWay F q) (p0 : 0 < p.2) : p = q := by
  have l := congrArg List.length h
  rw [kWay_len, kWay_len] at l
  have e : way F p.1 p.2 = way F q.1 q.2 := by
    unfold kWay at h
    exact List.map_inj_right (fun _ _ z => Sum.inl.inj z) |>.mp h
  have z : (way F p.1 p.2)[0]? = (way F q.1 q.2)[0]? := by rw [e]
  rw [way_at p0, way_at (show 0 < q.2 by omega)] at z
  exact Prod.ext (Int.ofNat_inj.mp (Option.some.inj z)) l
/-- the lengths of the law's rings are those of the rings found -/
theorem lens_perm {F : Nat → Nat} {n : Nat} {bg : Nat → Option Nat} {RS : List (Nat × Nat)} (hF : ∀ x, x < n → F x < n) (Fd : Vf.Fnd F n n bg RS) (he : ∀ r, r < n → Vf.Ends F r (enF F r).1 (enF F r).2)
    {ks : List (List Key)} (nd : ks.Nodup) (hm : ∀ y, y ∈ ks ↔ y ∈ (List.range n).map fun r => kWay F (enF F r)) : (ks.map List.length).Perm (RS.map fun p => p.2) := by
  obtain ⟨p1, p2, p3⟩ := Vf.ring_perm hF Fd (enF F) he
  have pos : ∀ q ∈ RS.map fun p => enF F p.1, 0 < q.2 := fun q hq => by
    obtain ⟨p, hp, rfl⟩ := List.mem_map.mp hq
    exact (he p.1 (Fd.rho p.1 p.2 hp).2.1).rho.pos
  have nd2 : ((RS.map fun p => enF F p.1).map (kWay F)).Nodup := List.pairwise_map.mpr (p1.imp_of_mem fun {a b} ha hb ne e => ne (kWay_inj e (pos a ha)))
  have pm : ks.Perm ((RS.map fun p => enF F p.1).map (kWay F)) := (List.perm_ext_iff_of_nodup nd nd2).mpr fun y => by
    rw [hm, List.mem_map, List.mem_map]
    constructor
    · rintro ⟨r, hr, rfl⟩
      exact ⟨enF F r, (p2 _).mpr (List.mem_map.mpr ⟨r, hr, rfl⟩), rfl⟩
    · rintro ⟨q, hq, rfl⟩
      obtain ⟨r, hr, rfl⟩ := List.mem_map.mp ((p2 _).mp hq)
      exact ⟨r, hr, rfl⟩
  have z := pm.map List.length
  rw [List.map_map, List.map_map] at z
  rw [← p3]
  refine z.trans (List.Perm.of_eq (List.map_congr_left fun p _ => ?_))
  exact kWay_len F _
theorem SzOf.perm {S cs ds : List Nat} (p : cs.Perm ds) (h : SzOf S cs) : SzOf S ds := ⟨h.1, fun c => (h.2 c).trans p.mem_iff⟩
theorem szRow_perm {cs ds : List Nat} (p : cs.Perm ds) (c : Nat) : szRow cs c = szRow ds c := by
  unfold szRow
  rw [p.count_eq]
end
section
variable {P : Program} {w : World} {K : PySem.W.Frag} {mg : Str → Option Value} {base : Heap}
theorem pmono {α β : Type} {R S : α → β → Prop} (h : ∀ x y, R x y → S x y) : ∀ {xs : List α} {ys : List β}, Paired R xs ys → Paired S xs ys
  | _, _, .nil => .nil
  | _, _, .cons r t => .cons (h _ _ r) (pmono h t)
theorem take_one {α : Type} {l : List α} {i : Nat} {x : α} (h : l[i]? = some x) : l.take (i + 1) = l.take i ++ [x] := by
  rw [List.take_add_one, h]; rfl
end
section
variable {P : Program} {w : World} {K : PySem.W.Frag} {mg : Str → Option Value} {base : Heap}
theorem inl_kV (t : List Int) : (t.map (Sum.inl : Int → Key)).map kV = t.map V.int := by rw [List.map_map]; rfl
theorem PrAt.same {H H' : Hp} {v : V} {kv : List Key × V} (h : Vf.PrAt H v kv) (s : Same H H') : Vf.PrAt H' v kv := by
  obtain ⟨t, b, h1, h2, h3⟩ := h
  exact ⟨t, b, h1, s _ _ h2, s _ _ h3⟩
def sp_lrings (K : PySem.W.Frag) : Sp := fun vs H Q _ => ∃ (a : Addr) (F : Nat → Nat) (n : Nat), vs = [.ref a] ∧ SqT K H a ((Tb F n).map V.int) ∧ (∀ y, y < n → F y < n) ∧ 1 ≤ n ∧ n ≤ 60 ∧
  ∀ (r : Addr) (ws : List V) (ks : List (List Key)) (S : List Nat) H', Same H H' → H r = none → H' r = some (.tup ws) → RowsAt K H' ws (S.map (szRow (ks.map List.length))) → SzOf S (ks.map List.length) → ks.Nodup → (∀ y, y ∈ ks ↔ y ∈ (List.range n).map fun r => kWay F (enF F r)) → (∀ r, r < n → Vf.Ends F r (enF F r).1 (enF F r).2) → Q (.ref r) H'
theorem ok__law_rings (T : Top K mg) : Ok P w K mg base 3 "_law_rings" s__law_rings ["_law_table_here"] (sp_lrings K) := by
  have G__law_ring := ok__law_ring (P := P) (w := w) (base := base) T
  refine T.d__law_rings.ok sc__law_rings (fun vs H Q E h => ?_) (fun f cdv A outer s H vs Q E hg hr h => ?_)
  · obtain ⟨a, F, n, rfl, _⟩ := h
    rfl
  · obtain ⟨a, F, n, rfl, sa, hF, n0, n1, q⟩ := h
    have ln : ((Tb F n).map V.int).length = n := by unfold Tb; simp
    refine ⟨_, (pss_cons (ps_set (i := 1) sc__law_rings.nd rfl (.inl rfl) (pe_callTy (T := "dict") (c_dictT rfl rfl hr.units) (by rfl) T.b_dict (by decide +kernel) (pa_cons (pe_lc (own := [("_law_rest", 4)]) (by rfl) sc__law_rings.nd (pi_range1 (by rfl) T.b_range (pa_cons (pe_callB (id := "len") (c_len rfl) (by rfl) T.b_len (by decide +kernel) (pa_cons (pv 0) pa_nil)) pa_nil)) (blkOk_by (own := [("_law_rest", 4)]) (N := ["_law_table_here", "_law_known", "_law_lengths", "_law_ring_here", "_law_rest", "_law_size"]) (sc := defScope s__law_rings) (by decide +kernel)) (fun _ _ _ _ _ => (pg_name (i := 4) sc__law_rings.nd rfl (by first | exact Or.inl rfl | exact Or.inr rfl))) (fun _ _ _ _ _ => pts_nil) (fun _ _ _ _ _ => (pe_tup (pa_cons (pe_g G__law_ring (fun _ _ F => bd__law_ring F) hg (hr.mono (by decide)) passL (by rfl) (pa_cons (pv 0) (pa_cons (pv 4) pa_nil))) (pa_cons pe_bl pa_nil))))) pa_nil)))
    (pss_cons (ps_set (i := 2) sc__law_rings.nd rfl (.inr rfl) (pe_lock (pe_lc (own := [("_law_ring_here", 3)]) (by rfl) sc__law_rings.nd (pi_keys (pv 1)) (blkOk_by (own := [("_law_ring_here", 3)]) (N := ["_law_table_here", "_law_known", "_law_lengths", "_law_ring_here", "_law_rest", "_law_size"]) (sc := defScope s__law_rings) (by decide +kernel)) (fun _ _ _ _ _ => (pg_name (i := 3) sc__law_rings.nd rfl (by first | exact Or.inl rfl | exact Or.inr rfl))) (fun _ _ _ _ _ => pts_nil) (fun _ _ _ _ _ => (pe_callB (id := "len") (c_len rfl) (by rfl) T.b_len (by decide +kernel) (pa_cons (pv 3) pa_nil))))))
    (pss_one (ps_ret (pe_callTy (T := "tuple") (c_tuple rfl) (by rfl) T.b_tuple (by decide +kernel) (pa_cons (pe_lc (own := [("_law_size", 5)]) (by rfl) sc__law_rings.nd (i_list rfl (pe_callB (id := "sorted") (c_sortedSetB rfl rfl) (by rfl) T.b_sorted (by decide +kernel) (pa_cons (pe_callTy (T := "set") (c_setLo rfl rfl rfl) (by rfl) T.b_set (by decide +kernel) (pa_cons (pv 2) pa_nil)) pa_nil))) (blkOk_by (own := [("_law_size", 5)]) (N := ["_law_table_here", "_law_known", "_law_lengths", "_law_ring_here", "_law_rest", "_law_size"]) (sc := defScope s__law_rings) (by decide +kernel)) (fun _ _ _ _ _ => (pg_name (i := 5) sc__law_rings.nd rfl (by first | exact Or.inl rfl | exact Or.inr rfl))) (fun _ _ _ _ _ => pts_nil) (fun _ _ _ _ _ => (pe_tup (pa_cons (pv 5) (pa_cons (pe_bmK rfl PySem.F.plainAttrs_list PySem.F.slot_list_count PySem.F.type_list_count (c_lcount rfl) (pv 2) (pa_cons (pv 5) pa_nil)) pa_nil))))) pa_nil)))))), ?_⟩
    walk_at "sti"
    rw [ln]
    refine ⟨by omega, by omega, ?_⟩
    rw [Int.toNat_natCast]
    refine r_lcR (fun D i H' => Same H H' ∧ (∀ r, r < i → Vf.Ends F r (enF F r).1 (enF F r).2) ∧ ∃ ws, H' D = some (.lst ws) ∧ Paired (Vf.PrAt H') ws ((List.range i).map fun r => (kWay F (enF F r), V.bl true))) (fun D hD => ⟨Same.new hD, (fun r h => absurd h (Nat.not_lt_zero _)), [], upd_same, .nil⟩) (fun D i H' hD hi hP => ?_) (fun D H1 hD hP => ?_)
    · obtain ⟨s1, en, ws, d1, P1⟩ := hP
      have lw := Paired.length P1
      rw [List.length_map, List.length_range] at lw
      rw [Int.zero_add]
      walk_at "gi"
      refine ⟨rfl, ?_⟩
      walk_at "gi"
      refine ⟨a, F, n, i, rfl, Same.tup s1 sa, hF, hi, by omega, fun b L H2 s2 eb R => ?_⟩
      obtain ⟨z, c, Ez, rfl⟩ := ring_ends R
      walk_at "gi"
      rename_i t ht
      have s3 := s2.trans (Same.new ht (o := .tup [.ref b, .bl true]))
      refine ⟨ws, s3 _ _ d1, Nat.lt_of_le_of_lt (show ws.length ≤ 60 by omega) (by decide), fun c o e => ?_, fun r hr' => ?_, ws ++ [.ref t], upd_same, ?_⟩
      · rw [upd_ne (ne_of_none e hD)]
        exact s3 _ _ (s1 _ _ e)
      · rcases Nat.lt_or_ge r i with l | l
        · exact en r l
        · rw [show r = i by omega]
          exact enF_is Ez
      · have nD : ∀ {x : Addr} {o : HO}, H2 x = some o → (∀ l, o ≠ .lst l) → x ≠ D := fun e nl z => by
          have := s2 _ _ d1
          rw [← z, e] at this
          exact nl _ (Option.some.inj this)
        rw [List.range_succ, List.map_append]
        refine papp (pmono (fun v kv h => ?_) P1) (.cons ⟨t, b, rfl, ?_, ?_⟩ .nil)
        · obtain ⟨t', b', h1, h2, h3⟩ := h
          have g2 := s2 _ _ h2
          have g3 := s2 _ _ h3
          exact ⟨t', b', h1, by rw [upd_ne (nD g2 fun l z => nomatch z)]; exact at_new ht g2, by rw [upd_ne (nD g3 fun l z => nomatch z)]; exact at_new ht g3⟩
        · rw [upd_ne (fun z => by have := s2 _ _ d1; rw [z, this] at ht; cases ht)]
          exact upd_same
        · rw [upd_ne (nD eb fun l z => nomatch z)]
          show upd H2 t _ b = _
          rw [at_new ht eb]
          show _ = some (HO.tup ((kWay F (enF F i)).map kV))
          rw [enF_eq Ez]
          unfold kWay
          rw [inl_kV]
    · obtain ⟨s1, en, ws, d1, P1⟩ := hP
      walk_at "gi"
      refine ⟨D, ws, _, rfl, d1, P1, fun dd hdd => ?_⟩
      obtain ⟨ks, k1, k2, k3⟩ := merge_const (fun r => kWay F (enF F r)) (V.bl true) (List.range n)
      rw [k3]
      have lk : ks.length ≤ n := by
        have := List.Nodup.length_le_of_subset k1 (l₂ := (List.range n).map fun r => kWay F (enF F r)) fun y hy => (k2 y).mp hy
        rwa [List.length_map, List.length_range] at this
      have kl : ∀ y ∈ ks, y.length ≤ n := fun y hy => by
        obtain ⟨r, hr', rfl⟩ := List.mem_map.mp ((k2 y).mp hy)
        rw [kWay_len]
        have E := en r (List.mem_range.mp hr')
        obtain ⟨d, hd⟩ := E.way
        have := E.rho.le hF (by rw [← hd]; exact Vf.itf_lt hF (List.mem_range.mp hr') d)
        omega
      walk_at "gi"
      refine ⟨dd, .dT (ks.map fun y => (y, V.bl true)), upd_same, True.intro, fun od => ?_⟩
      have HL : H1 dd = none := hdd
      generalize hG0 : upd (upd H1 dd (.dT (ks.map fun y => (y, V.bl true)))) dd (.frz od (.dT (ks.map fun y => (y, V.bl true)))) = G0
      have eG0 : G0 dd = some (.frz od (.dT (ks.map fun y => (y, V.bl true)))) := by rw [← hG0]; exact upd_same
      refine r_lcKi (d := dd) (o := od) (kvs := ks.map fun y => (y, V.bl true)) rfl eG0 ?_
      refine r_lcKT (ks.map fun y => (y, V.bl true)) (fun D2 i G => Same G0 G ∧ G D2 = some (.lst (((ks.take i).map fun y => (y.length : Int)).map V.int))) (fun D2 hD2 => ⟨Same.new hD2, upd_same⟩) (fun D2 i G hD2 hi hP => hP.1 _ _ eG0) (fun D2 i kk v q2 G hD2 hkv hq hP => ?_) (fun D2 G hD2 hP => ?_)
      · obtain ⟨s3, e4⟩ := hP
        obtain ⟨y, hy, ek⟩ : ∃ y, ks[i]? = some y ∧ (y, V.bl true) = (kk, v) := by
          rw [List.getElem?_map] at hkv
          cases hh : ks[i]? with
          | none => rw [hh] at hkv; cases hkv
          | some e => rw [hh] at hkv; exact ⟨e, rfl, Option.some.inj hkv⟩
        obtain ⟨rfl, rfl⟩ := Prod.mk.inj ek
        walk_at "gi"
        refine ⟨rfl, ?_⟩
        walk_at "gi"
        rw [List.length_map]
        refine ⟨_, e4, Nat.lt_of_le_of_lt (show _ ≤ 60 by rw [List.length_map, List.length_map, List.length_take]; omega) (by decide), fun b o e => ?_, ?_⟩
        · rw [upd_ne (ne_of_none e hD2)]
          exact s3 _ _ e
        · rw [take_one hy, List.map_append, List.map_append]
          exact upd_same
      obtain ⟨s3, e4⟩ := hP
      rw [List.length_map, List.take_length] at e4
      refine ⟨s3 _ _ eG0, ?_⟩
      have nD2 : D2 ≠ dd := fun z => by rw [z, eG0] at hD2; cases hD2
      have e5 : upd G dd (.dT (ks.map fun y => (y, V.bl true))) D2 = some (.lst ((ks.map fun y => (y.length : Int)).map V.int)) := by rw [upd_ne nD2]; exact e4
      have s5 : Same H (upd G dd (.dT (ks.map fun y => (y, V.bl true)))) := fun b o e => by
        have e1 := s1 _ _ e
        have nb : b ≠ dd := ne_of_none e1 HL
        rw [upd_ne nb]
        refine s3 _ _ ?_
        rw [← hG0, upd_ne nb, upd_ne nb]
        exact e1
      generalize upd G dd (.dT (ks.map fun y => (y, V.bl true))) = G1 at *
      have ll : (ks.map fun y => (y.length : Int)).length = ks.length := List.length_map ..
      walk_at "gi"
      refine r_setLo (ks.map fun y => (y.length : Int)) (SqL.of e5) (by omega) fun p6 c6 hp6 hc6 => ?_
      walk_at "gi"
      refine ⟨p6, _, c6, 61, rfl, upd_same, by decide, fun k hk => ?_, fun ns p7 np ns_mem hp7 => ?_⟩
      · obtain ⟨y, hy, ey⟩ := List.mem_map.mp (of_decide_eq_true hk)
        have := kl y hy
        omega
      obtain ⟨S, rfl⟩ : ∃ S : List Nat, ns = S.map fun c : Nat => (c : Int) := ⟨ns.map Int.toNat, by
        rw [List.map_map]
        refine (List.map_id ns).symm.trans (List.map_congr_left fun k hk => ?_)
        obtain ⟨y, _, ey⟩ := List.mem_map.mp (of_decide_eq_true ((ns_mem k).mp hk))
        show k = ((k.toNat : Nat) : Int)
        omega⟩
      have hS : SzOf S (ks.map List.length) := by
        refine ⟨(List.pairwise_map.mp np).imp fun l => by omega, fun c => ?_⟩
        have z := ns_mem (c : Int)
        rw [decide_eq_true_eq] at z
        constructor
        · intro h
          obtain ⟨y, hy, ey⟩ := List.mem_map.mp (z.mp (List.mem_map.mpr ⟨c, h, rfl⟩))
          exact List.mem_map.mpr ⟨y, hy, by omega⟩
        · intro h
          obtain ⟨y, hy, ey⟩ := List.mem_map.mp h
          obtain ⟨d, hd, ed⟩ := List.mem_map.mp (z.mpr (List.mem_map.mpr ⟨y, hy, by omega⟩))
          rw [show c = d by omega]
          exact hd
      have lS : S.length ≤ n := by
        have := List.Nodup.length_le_of_subset (hS.1.imp fun l => by omega : S.Nodup) (l₂ := ks.map List.length) fun c hc => (hS.2 c).mp hc
        rw [List.length_map] at this
        omega
      have s67 : Same G1 (upd (upd G1 p6 (SetO w p6 (fun j => decide (j ∈ ks.map fun y => (y.length : Int))) c6)) p7 (.lst ((S.map fun c : Nat => (c : Int)).map V.int))) := (Same.new hp6).trans (Same.new hp7)
      have e7 : (upd (upd G1 p6 (SetO w p6 (fun j => decide (j ∈ ks.map fun y => (y.length : Int))) c6)) p7 (.lst ((S.map fun c : Nat => (c : Int)).map V.int))) p7 = some (.lst ((S.map fun c : Nat => (c : Int)).map V.int)) := upd_same
      generalize upd (upd G1 p6 (SetO w p6 (fun j => decide (j ∈ ks.map fun y => (y.length : Int))) c6)) p7 (.lst ((S.map fun c : Nat => (c : Int)).map V.int)) = G2 at *
      refine ⟨p7, rfl, ⟨_, SqL.of e7⟩, ?_⟩
      refine r_lcLs ((S.map fun c : Nat => (c : Int)).map V.int) (fun D3 i G => Same G2 G ∧ ∃ us, G D3 = some (.lst us) ∧ RowsAt K G us ((S.take i).map (szRow (ks.map List.length)))) (fun D3 hD3 => ⟨Same.new hD3, [], upd_same, .nil⟩) (fun D3 i G hD3 hi hP => SqL.of (hP.1 _ _ e7)) (fun D3 i x G hD3 hx hP => ?_) (fun D3 G hD3 hP => ?_)
      · obtain ⟨s8, us, e8, R8⟩ := hP
        obtain ⟨c, hc, rfl⟩ : ∃ c, S[i]? = some c ∧ V.int (c : Int) = x := by
          rw [List.map_map, List.getElem?_map] at hx
          cases hh : S[i]? with
          | none => rw [hh] at hx; cases hx
          | some e => rw [hh] at hx; exact ⟨e, rfl, Option.some.inj hx⟩
        have lu := RowsAt.len R8
        rw [List.length_map, List.length_take] at lu
        have cc : (ks.map fun y => (y.length : Int)).count (c : Int) = (ks.map List.length).count c := by
          rw [show (ks.map fun y => (y.length : Int)) = (ks.map List.length).map fun c : Nat => (c : Int) by rw [List.map_map]; rfl]
          generalize ks.map List.length = l
          induction l with
          | nil => rfl
          | cons a l ih =>
            rw [List.map_cons, List.count_cons, List.count_cons, ih]
            congr 1
            by_cases e : a = c
            · rw [e]; simp
            · rw [if_neg (by simpa using fun z => e (by omega)), if_neg (by simpa using e)]
        walk_at "gi"
        refine ⟨rfl, ?_⟩
        walk_at "gi"
        refine ⟨.inl ⟨rfl, _, SqL.of (s8 _ _ (s67 _ _ e5))⟩, ?_⟩
        walk_at "gi"
        refine r_lcount (ks.map fun y => (y.length : Int)) (SqL.of (s8 _ _ (s67 _ _ e5))) ?_
        rw [cc]
        walk_at "gi"
        rename_i t9 ht9
        refine ⟨us, at_new ht9 e8, Nat.lt_of_le_of_lt (show us.length ≤ 60 by omega) (by decide), fun b o e => ?_, us ++ [.ref t9], upd_same, ?_⟩
        · rw [upd_ne (ne_of_none e hD3)]
          exact at_new ht9 (s8 _ _ e)
        · rw [take_one hc, List.map_append]
          have e8' := at_new ht9 (o := .tup [.int (c : Int), .int (((ks.map List.length).count c : Nat) : Int)]) e8
          exact RowsAt.mono (RowsAt.snoc (R8.same (Same.new ht9)) (p := t9) (ns := szRow (ks.map List.length) c) (SqT.of upd_same)) fun q xs t => upd_tt e8' K q xs t
      obtain ⟨s8, us, e8, R8⟩ := hP
      rw [List.take_of_length_le (by rw [List.length_map, List.length_map]; exact Nat.le_refl _)] at R8
      walk_at "gi"
      refine r_tupL (SqL.of e8) fun t9 ht9 => ?_
      have s19 := (s5.trans s67).trans s8
      exact q t9 us ks S _ (s19.trans (Same.new ht9)) (none_same s19 ht9) upd_same (RowsAt.same R8 (Same.new ht9)) hS k1 k2 en
end
section
variable {P : Program} {w : World} {K : PySem.W.Frag} {mg : Str → Option Value} {base : Heap}
/-! ### the longest tail -/
def bvB (f : Nat → Bool) (n : Nat) : List V := (List.range n).map fun y => V.bl (f y)
theorem bvB_len (f : Nat → Bool) (n : Nat) : (bvB f n).length = n := by unfold bvB; simp
theorem bvB_at {f : Nat → Bool} {n y : Nat} (h : y < n) : (bvB f n)[y]? = some (V.bl (f y)) := by unfold bvB; rw [List.getElem?_map, List.getElem?_range h]; rfl
theorem bvB_set {f : Nat → Bool} {n y : Nat} (h : y < n) (v : Bool) : (bvB f n).set y (V.bl v) = bvB (fun z => if z = y then v else f z) n := by
  refine List.ext_getElem? fun i => ?_
  rw [List.getElem?_set]
  rcases Nat.lt_or_ge i n with l | l
  · rw [bvB_at l, bvB_at l, bvB_len]
    by_cases e : y = i
    · rw [if_pos e, if_pos (by omega), if_pos e.symm]
    · rw [if_neg e, if_neg (Ne.symm e)]
  · rw [if_neg (by omega), List.getElem?_eq_none (by rw [bvB_len]; exact l), List.getElem?_eq_none (by rw [bvB_len]; exact l)]
theorem bvB_rep (n : Nat) : (List.replicate n [V.bl false]).flatten = bvB (fun _ => false) n := by
  unfold bvB
  induction n with
  | zero => rfl
  | succ n ih =>
    rw [List.replicate_succ', List.flatten_append, ih, List.range_succ, List.map_append]
    rfl
/-- a list of lists, each of its own -/
structure BhAt (H : Hp) (b : Addr) (us : List Addr) (n : Nat) (ct : Nat → List Nat) : Prop where
  top : H b = some (.lst (us.map V.ref))
  len : us.length = n
  nd : us.Nodup
  off : b ∉ us
  each : ∀ i u, us[i]? = some u → H u = some (.lst ((ct i).map fun y : Nat => V.int (y : Int)))
theorem BhAt.same {H H' : Hp} {b : Addr} {us : List Addr} {n : Nat} {ct : Nat → List Nat} (h : BhAt H b us n ct) (s : Same H H') : BhAt H' b us n ct := ⟨s _ _ h.top, h.len, h.nd, h.off, fun i u e => s _ _ (h.each i u e)⟩
theorem BhAt.put {H : Hp} {b : Addr} {us : List Addr} {n : Nat} {ct : Nat → List Nat} (h : BhAt H b us n ct) {l : Nat} {u : Addr} (hl : us[l]? = some u) (r : Nat) : BhAt (upd H u (.lst ((ct l).map (fun y : Nat => V.int (y : Int)) ++ [V.int (r : Int)]))) b us n (fun i => if i = l then ct i ++ [r] else ct i) := by
  refine ⟨?_, h.len, h.nd, h.off, fun i u' e => ?_⟩
  · rw [upd_ne (fun z => h.off (by rw [z]; exact List.mem_of_getElem? hl))]
    exact h.top
  · by_cases c : i = l
    · subst c
      rw [hl] at e
      obtain rfl := Option.some.inj e
      rw [upd_same, if_pos rfl, List.map_append]
      rfl
    · rw [if_neg c, upd_ne]
      · exact h.each i u' e
      · intro z
        subst z
        obtain ⟨l1, e1⟩ := List.getElem?_eq_some_iff.mp e
        obtain ⟨l2, e2⟩ := List.getElem?_eq_some_iff.mp hl
        exact c ((List.getElem_inj h.nd).mp (e1.trans e2.symm))
theorem bv_ne {H : Hp} {x y : Addr} {f : Nat → Bool} {n : Nat} {l : List Int} (n0 : 1 ≤ n) (hx : H x = some (.lst (bvB f n))) (hy : H y = some (.lst (l.map V.int))) : y ≠ x := fun z => by
  rw [z, hx] at hy
  have e : bvB f n = l.map V.int := HO.lst.inj (Option.some.inj hy)
  have e0 : (bvB f n)[0]? = (l.map V.int)[0]? := by rw [e]
  rw [bvB_at (show 0 < n by omega), List.getElem?_map] at e0
  cases h : l[0]? with
  | none => rw [h] at e0; cases e0
  | some k => rw [h] at e0; cases e0
def sp_ltail (K : PySem.W.Frag) : Sp := fun vs H Q _ => ∃ (a : Addr) (p : List Int) (n : Nat), vs = [.ref a, .int (n : Int)] ∧ SqT K H a (p.map V.int) ∧ Right p ∧ 1 ≤ n ∧ n ≤ 1000 ∧ ∀ (m : Nat) H', Same H H' → Vf.TopT (led p n) n m → Q (.int (m : Int)) H'
theorem ok_longest_tail (T : Top K mg) : Ok P w K mg base 7 "longest_tail" s_longest_tail ["terms", "base"] (sp_ltail K) := by
  have G__check_ring := ok__check_ring (P := P) (w := w) (base := base) T
  have G_table_of := ok_table_of (P := P) (w := w) (base := base) T
  have G__all_rings := ok__all_rings (P := P) (w := w) (base := base) T
  refine T.d_longest_tail.ok sc_longest_tail (fun vs H Q E h => ?_) (fun f cdv A outer s H vs Q E hg hr h => ?_)
  · obtain ⟨a, p, n, rfl, _⟩ := h
    rfl
  · obtain ⟨a, p, n, rfl, sa, hR, n0, n1, q⟩ := h
    have hF : ∀ y, y < n → led p n y < n := fun y _ => led_lt p n0 y
    refine ⟨_, (pss_cons (ps_expr (pe_g G__check_ring (fun _ _ F => bd__check_ring F) hg (hr.mono (by decide)) passL (by rfl) (pa_cons (pv 0) (pa_cons (pv 1) pa_nil))))
    (pss_cons (ps_set (i := 2) sc_longest_tail.nd rfl (.inl rfl) (pe_g G_table_of (fun _ _ F => bd_table_of F) hg (hr.mono (by decide)) passL (by rfl) (pa_cons (pv 0) (pa_cons (pv 1) pa_nil))))
    (pss_cons (ps_set (i := 3) sc_longest_tail.nd rfl (.inr rfl) (pe_lc (own := [("_", 10)]) (by rfl) sc_longest_tail.nd (i_tup' rfl (pv 2)) (blkOk_by (own := [("_", 10)]) (N := ["terms", "base", "table", "behind", "on_ring", "ring", "rest", "led", "longest", "layer", "_"]) (sc := defScope s_longest_tail) (by decide +kernel)) (fun _ _ _ _ _ => (pg_name (i := 10) sc_longest_tail.nd rfl (by first | exact Or.inl rfl | exact Or.inr rfl))) (fun _ _ _ _ _ => pts_nil) (fun _ _ _ _ _ => (pe_lst pa_nil))))
    (pss_cons (ps_set (i := 4) sc_longest_tail.nd rfl (.inr rfl) (pe_op op_rep (pe_lst (pa_cons pe_bl pa_nil)) (pv 1)))
    (pss_cons (ps_for (passes_of rfl) rfl (i_list rfl (pe_g G__all_rings (fun _ _ F => bd__all_rings F) hg (hr.mono (by decide)) passL (by rfl) (pa_cons (pv 2) pa_nil))) (pg_name (i := 5) sc_longest_tail.nd rfl (.inl rfl)) (pss_one (ps_for (passes_of rfl) rfl (i_list rfl (pv 5)) (pg_name (i := 6) sc_longest_tail.nd rfl (.inl rfl)) (pss_one (ps_asg pe_bl (pg_sub (pv 4) (pv 6) set_list))))))
    (pss_cons (ps_for (passes_of rfl) rfl (i_enT rfl (by rfl) T.b_enumerate (pa_cons (pv 2) pa_nil)) (g_tup rfl rfl (pgs_cons (pg_name (i := 6) sc_longest_tail.nd rfl (.inl rfl)) (pgs_cons (pg_name (i := 7) sc_longest_tail.nd rfl (.inl rfl)) pgs_nil)) rfl rfl) (pss_one (ps_if (pt_not (pt_val (pe_ix (x_list rfl) (pv 4) (pv 6) (fun _ _ => rfl)))) (pss_one (ps_expr (pe_bm PySem.F.plainAttrs_list PySem.F.slot_list_append PySem.F.type_list_append mt_append (pe_ix (x_list rfl) (pv 3) (pv 7) (fun _ _ => rfl)) (pa_cons (pv 6) pa_nil)))) pss_nil)))
    (pss_cons (ps_set (i := 8) sc_longest_tail.nd rfl (.inl rfl) (pe_un un_neg pe_int))
    (pss_cons (ps_setLc (i := 9) (own := [("rest", 6)]) (by rfl) sc_longest_tail.nd rfl rfl (sw_true rfl rfl rfl (by decide +kernel)) (pi_range1 (by rfl) T.b_range (pa_cons (pv 1) pa_nil)) (blkOk_by (own := [("rest", 6)]) (N := ["terms", "base", "table", "behind", "on_ring", "ring", "rest", "led", "longest", "layer", "_"]) (sc := defScope s_longest_tail) (by decide +kernel)) (fun _ _ _ _ _ => (pg_name (i := 6) sc_longest_tail.nd rfl (by first | exact Or.inl rfl | exact Or.inr rfl))) (fun _ _ _ _ _ => (pts_one (pt_val (pe_ix (x_list rfl) (pv 4) (pv 6) (fun _ _ => rfl))))) (fun _ _ _ _ _ => (pv 6)))
    (pss_cons (ps_while (passes_of rfl) (pt_truth (pv 9) (by intro _; rfl)) (pss_cons (ps_aug (i := 8) sc_longest_tail.nd rfl (.inl rfl) pe_int ip_add)
    (pss_one (ps_setLc2 (i := 9) (own := [("led", 7), ("rest", 6)]) (by rfl) sc_longest_tail.nd rfl rfl (sw_true rfl rfl rfl (by decide +kernel)) (i_list rfl (pv 9)) (blkOk_by (own := [("led", 7), ("rest", 6)]) (N := ["terms", "base", "table", "behind", "on_ring", "ring", "rest", "led", "longest", "layer", "_"]) (sc := defScope s_longest_tail) (by decide +kernel)) (vs1 := [6]) (by decide) (fun _ _ _ _ _ => (pg_name (i := 7) sc_longest_tail.nd rfl (by first | exact Or.inl rfl | exact Or.inr rfl))) (fun _ _ _ _ _ => pts_nil) (fun _ _ _ _ _ => (i_list rfl (pe_ix (x_list rfl) (pv 3) (pv 7) (fun _ _ => rfl)))) (fun _ _ _ _ _ => (pg_name (i := 6) sc_longest_tail.nd rfl (by first | exact Or.inl rfl | exact Or.inr rfl))) (fun _ _ _ _ _ => pts_nil) (fun _ _ _ _ _ => (pv 6))))))
    (pss_one (ps_ret (pv 8)))))))))))), ?_⟩
    walk_at "sti"
    refine ⟨a, p, n, rfl, sa, hR, n0, by omega, ?_⟩
    walk_at "gi"
    refine ⟨a, p, n, rfl, sa, hR.1.1, by omega, n1, fun b H1 s1 nb eb => ?_⟩
    rw [tabOf_led n0] at eb
    have ln : ((Tb (led p n) n).map V.int).length = n := by unfold Tb; simp
    generalize hFF : led p n = F at *
    walk_at "gi"
    refine r_lcTs ((Tb F n).map V.int) (fun D i H' => Same H1 H' ∧ ∃ us : List Addr, H' D = some (.lst (us.map V.ref)) ∧ us.length = i ∧ us.Nodup ∧ D ∉ us ∧ ∀ u ∈ us, H' u = some (.lst []) ∧ H1 u = none) (fun D hD => ⟨Same.new hD, [], upd_same, rfl, List.nodup_nil, (fun h => nomatch h), fun u h => nomatch h⟩) (fun D i H' hD hi hP => Same.tup hP.1 (SqT.of eb)) (fun D i v H' hD hi hP => ?_) (fun D H2 hD hP => ?_)
    · obtain ⟨s2, us, d2, lu, nd, off, each⟩ := hP
      have il : i < n := by
        have := (List.getElem?_eq_some_iff.mp hi).1
        omega
      walk_at "gi"
      refine ⟨rfl, ?_⟩
      walk_at "gi"
      rename_i u hu
      have nuD : u ≠ D := fun z => by rw [z, d2] at hu; cases hu
      refine ⟨us.map V.ref, at_new hu d2, Nat.lt_of_le_of_lt (show _ ≤ 1000 by rw [List.length_map]; omega) (by decide), fun c o e => ?_, us ++ [u], by rw [upd_same, List.map_append]; rfl, by rw [List.length_append, lu]; rfl, ?_, ?_, fun x hx => ?_⟩
      · rw [upd_ne (ne_of_none e hD)]
        exact at_new hu (s2 _ _ e)
      · refine List.nodup_append.mpr ⟨nd, by simp, fun x hx y hy z => ?_⟩
        rw [List.mem_singleton.mp hy] at z
        rw [← z, (each x hx).1] at hu
        cases hu
      · rw [List.mem_append, List.mem_singleton]
        exact fun z => z.elim off (Ne.symm nuD)
      · rcases List.mem_append.mp hx with z | z
        · have nxD : x ≠ D := fun y => off (by rw [← y]; exact z)
          exact ⟨by rw [upd_ne nxD]; exact at_new hu (each x z).1, (each x z).2⟩
        · rw [List.mem_singleton.mp z]
          exact ⟨by rw [upd_ne nuD]; exact upd_same, none_same s2 hu⟩
    obtain ⟨s2, us, d2, lu, nd, off, each⟩ := hP
    rw [ln] at lu
    have B2 : BhAt H2 D us n (fun _ => []) := ⟨d2, lu, nd, off, fun i u e => (each u (List.mem_of_getElem? e)).1⟩
    walk_at "gi"
    rename_i o1 ho1
    refine r_rep upd_same (by omega) (by omega) (Nat.le_of_ble_eq_true rfl) fun o ho => ?_
    rw [Int.toNat_natCast, bvB_rep]
    have s3 : Same H2 (upd (upd H2 o1 (.lst [.bl false])) o (.lst (bvB (fun _ => false) n))) := (Same.new ho1).trans (Same.new ho)
    have eo3 : (upd (upd H2 o1 (.lst [.bl false])) o (.lst (bvB (fun _ => false) n))) o = some (.lst (bvB (fun _ => false) n)) := upd_same
    have no2 : H2 o = none := none_up ho
    generalize upd (upd H2 o1 (.lst [.bl false])) o (.lst (bvB (fun _ => false) n)) = H3 at *
    have B3 := B2.same s3
    have s13 := s1.trans (s2.trans s3)
    have no0 : H o = none := none_same (s1.trans s2) no2
    have nu0 : ∀ u ∈ us, H u = none := fun u hu => none_same s1 (each u hu).2
    have nuo : ∀ u ∈ us, u ≠ o := fun u hu z => by have := (each u hu).1; rw [z, no2] at this; cases this
    have nDo : D ≠ o := fun z => by rw [z, no2] at d2; cases d2
    have eb3 : SqT K H3 b ((Tb F n).map V.int) := SqT.of ((s2.trans s3) _ _ eb)
    walk_at "gi"
    refine ⟨b, F, n, rfl, eb3, hF, n0, n1, fun l ws bg RS H4 s4 el R Fd => ?_⟩
    have lw := Paired.length R
    have lRS := ring_len hF Fd
    have eo4 := s4 _ _ eo3
    have B4 := B3.same s4
    have eb4 := Same.tup s4 eb3
    have nlo : l ≠ o := fun z => by
      rw [z, eo4] at el
      have e : bvB (fun _ => false) n = ws := HO.lst.inj (Option.some.inj el)
      have e0 : ws[0]? = some (V.bl false) := by rw [← e]; exact bvB_at (show 0 < n by omega)
      obtain ⟨_, _, _, z, _⟩ := pget R e0
      cases z
    have s04 := s13.trans s4
    walk_at "gi"
    refine r_forLs ws (fun i σ G => ∃ x5 x6 fb, σ = [some (.ref a), some (.int (n : Int)), some (.ref b), some (.ref D), some (.ref o), x5, x6, none, none, none, none] ∧ Same H G ∧ Kx o H4 G ∧ G o = some (.lst (bvB fb n)) ∧ ∀ y, fb y = true ↔ ∃ q' ∈ RS.take i, ∃ j, j < q'.2 ∧ Vf.itf F q'.1 j = y)
      ⟨_, _, _, rfl, s04, Kx.refl _, eo4, fun y => ⟨fun h => (nomatch h), fun ⟨q', h, _⟩ => by rw [List.take_zero] at h; cases h⟩⟩ (fun i σ G hi hP => ?_) (fun i v σ G hi hP => ?_) (fun σ G hP => ?_)
    · obtain ⟨x5, x6, fb, rfl, _, kx, _⟩ := hP
      exact SqL.of (kx _ _ nlo el)
    · obtain ⟨x5, x6, fb, rfl, s5, kx, e5, hf⟩ := hP
      obtain ⟨x, hx, pa, rfl, np, ep⟩ := pget R hi
      obtain ⟨Rx, lx, _⟩ := Fd.rho x.1 x.2 (List.mem_of_getElem? hx)
      have cx := Rx.le hF lx
      have npo : pa ≠ o := bv_ne n0 eo4 ep
      have tk : RS.take (i + 1) = RS.take i ++ [x] := by rw [List.take_add_one, hx]; rfl
      have ep5 := kx _ _ npo ep
      walk_at "gi"
      refine r_forLs ((way F x.1 x.2).map V.int) (fun j σ G' => ∃ x6 fb, σ = [some (.ref a), some (.int (n : Int)), some (.ref b), some (.ref D), some (.ref o), some (.ref pa), x6, none, none, none, none] ∧ Same H G' ∧ Kx o H4 G' ∧ G' o = some (.lst (bvB fb n)) ∧ ∀ y, fb y = true ↔ (∃ q' ∈ RS.take i, ∃ j, j < q'.2 ∧ Vf.itf F q'.1 j = y) ∨ ∃ j', j' < j ∧ Vf.itf F x.1 j' = y)
        ⟨_, fb, rfl, s5, kx, e5, fun y => ⟨fun h => .inl ((hf y).mp h), fun h => h.elim (hf y).mpr fun ⟨j', h, _⟩ => absurd h (Nat.not_lt_zero _)⟩⟩ (fun j σ G' hj hP => ?_) (fun j v σ G' hj hP => ?_) (fun σ G' hP => ?_)
      · obtain ⟨x6, fb, rfl, _, kx', _⟩ := hP
        exact SqL.of (kx' _ _ npo ep)
      · obtain ⟨x6, fb, rfl, s6, kx', e6, hf'⟩ := hP
        have jl : j < x.2 := by
          have := (List.getElem?_eq_some_iff.mp hj).1
          rwa [List.length_map, way_len] at this
        rw [List.getElem?_map, way_at jl] at hj
        obtain rfl := Option.some.inj hj
        have il := Vf.itf_lt hF lx j
        walk_at "gi"
        refine r_setL e6 (j := Vf.itf F x.1 j) (ixN_nat (by rw [bvB_len]; exact il)) ?_
        rw [bvB_set il]
        walk_at "gi"
        refine ⟨_, _, rfl, fun c u e => by rw [upd_ne (ne_of_none e no0)]; exact s6 _ _ e, kx'.trans Kx.upd, upd_same, fun y => ?_⟩
        by_cases e : y = Vf.itf F x.1 j
        · rw [if_pos e]
          exact ⟨fun _ => .inr ⟨j, by omega, e.symm⟩, fun _ => rfl⟩
        · rw [if_neg e, hf']
          refine or_congr Iff.rfl ⟨fun ⟨j', h, e'⟩ => ⟨j', by omega, e'⟩, fun ⟨j', h, e'⟩ => ⟨j', ?_, e'⟩⟩
          rcases Nat.lt_or_ge j' j with c | c
          · exact c
          · rw [show j' = j by omega] at e'
            exact absurd e'.symm e
      · obtain ⟨x6, fb, rfl, s6, kx', e6, hf'⟩ := hP
        rw [List.length_map, way_len] at hf'
        refine ⟨_, _, fb, rfl, s6, kx', e6, fun y => ?_⟩
        rw [hf', tk]
        constructor
        · rintro (⟨q', h1, h2⟩ | h)
          · exact ⟨q', List.mem_append_left _ h1, h2⟩
          · exact ⟨x, List.mem_append_right _ List.mem_cons_self, h⟩
        · rintro ⟨q', h1, h2⟩
          rcases List.mem_append.mp h1 with z | z
          · exact .inl ⟨q', z, h2⟩
          · rw [List.mem_singleton.mp z] at h2
            exact .inr h2
    · obtain ⟨x5, x6, fb, rfl, s5, kx, e5, hf⟩ := hP
      rw [List.take_of_length_le (by omega)] at hf
      have on : ∀ y, y < n → fb y = decide (Vf.tl F y = 0) := fun y hy => by
        rw [Bool.eq_iff_iff, decide_eq_true_eq, ← Vf.tl_on hF hy, hf]
        constructor
        · rintro ⟨q', h1, j, h2, e⟩
          exact ((Fd.mem hF y).mp (List.mem_flatMap.mpr ⟨q', h1, List.mem_map.mpr ⟨j, List.mem_range.mpr h2, e⟩⟩)).2
        · intro h
          obtain ⟨x, c, hx, j, hj, e⟩ := Fd.full y (Fd.all y hy) h
          exact ⟨(x, c), hx, j, hj, e⟩
      have eqB : bvB fb n = bvB (fun y => decide (Vf.tl F y = 0)) n := by
        unfold bvB
        exact List.map_congr_left fun y hy => by rw [on y (List.mem_range.mp hy)]
      rw [eqB] at e5
      have B5 : BhAt G D us n (Vf.beh F 0) := ⟨kx _ _ nDo B4.top, B4.len, B4.nd, B4.off, fun i u e => kx _ _ (nuo u (List.mem_of_getElem? e)) (B4.each i u e)⟩
      have eb5 : SqT K G b ((Tb F n).map V.int) := Kx.tt kx eo4 K _ _ eb4
      clear hf on eqB
      walk_at "gi"
      refine ⟨b, (Tb F n).map V.int, rfl, eb5, ?_⟩
      refine r_forEn ((Tb F n).map V.int) (fun i σ G' => ∃ x6 x7, σ = [some (.ref a), some (.int (n : Int)), some (.ref b), some (.ref D), some (.ref o), x5, x6, x7, none, none, none] ∧ Same H G' ∧ G' o = some (.lst (bvB (fun y => decide (Vf.tl F y = 0)) n)) ∧ BhAt G' D us n (Vf.beh F i) ∧ SqT K G' b ((Tb F n).map V.int))
        ⟨_, _, rfl, s5, e5, B5, eb5⟩ (fun i σ G' hi hP => ?_) (fun i v σ G' t hi hP ht => ?_) (fun σ G' hP => ?_)
      · obtain ⟨x6, x7, rfl, _, _, _, eb6⟩ := hP
        exact eb6
      · obtain ⟨x6, x7, rfl, s6, e6, B6, eb6⟩ := hP
        have il : i < n := by
          have := (List.getElem?_eq_some_iff.mp hi).1
          omega
        rw [Tb_at il] at hi
        obtain rfl := Option.some.inj hi
        have sT := Same.new ht (o := .tup [.int ((i : Nat) : Int), .int (F i : Int)])
        have e7 := sT _ _ e6
        have B7 := B6.same sT
        have eb7 := Same.tup sT eb6
        have s7 := s6.trans sT
        have eT : SqT K (upd G' t (.tup [.int ((i : Nat) : Int), .int (F i : Int)])) t [.int ((i : Nat) : Int), .int (F i : Int)] := SqT.of upd_same
        generalize upd G' t (.tup [.int ((i : Nat) : Int), .int (F i : Int)]) = G7 at *
        have bs := fun l => Vf.beh_succ F i l
        refine r_gtup eT rfl ?_
        walk_at "gi"
        refine r_ixL (SqL.of e7) (atI_nat (j := i) (bvB_at il)) ?_
        walk_at "gi"
        cases ho' : decide (Vf.tl F i = 0) with
        | true =>
          walk_at "gi"
          refine ⟨s7, e7, ⟨B7.top, B7.len, B7.nd, B7.off, fun l u e => ?_⟩, eb7⟩
          rw [bs, ho']
          simp only [Bool.not_true, Bool.false_and, Bool.false_eq_true, if_false, List.append_nil]
          exact B7.each l u e
        | false =>
          have ul : F i < us.length := by rw [lu]; exact hF i il
          have eu : us[F i]? = some us[F i] := List.getElem?_eq_getElem ul
          have um : us[F i] ∈ us := List.getElem_mem ul
          have e8 := B7.each _ _ eu
          have lb : (Vf.beh F i (F i)).length ≤ 1000 := by
            have := List.length_filter_le (fun r => !decide (Vf.tl F r = 0) && decide (F r = F i)) (List.range i)
            rw [List.length_range] at this
            unfold Vf.beh
            omega
          walk_at "gi"
          refine r_ixL (SqL.of B7.top) (atI_nat (j := F i) (by rw [List.getElem?_map, eu]; rfl)) ?_
          refine ⟨.inl ⟨rfl, _, SqL.of e8⟩, ?_⟩
          walk_at "gi"
          refine r_app e8 (by rw [List.length_map]; omega) ?_
          walk_at "gi"
          have B8 := B7.put eu i
          refine ⟨fun c u e => by rw [upd_ne (ne_of_none e (nu0 _ um))]; exact s7 _ _ e, by rw [upd_ne (Ne.symm (nuo _ um))]; exact e7, ⟨B8.top, B8.len, B8.nd, B8.off, fun l u e => ?_⟩, upd_tt e8 K _ _ eb7⟩
          rw [bs, ho']
          have := B8.each l u e
          rw [this]
          congr 2
          by_cases c : l = F i
          · rw [if_pos c, if_pos (by simp [c])]
          · rw [if_neg c, if_neg (by simp [Ne.symm c]), List.append_nil]
      · obtain ⟨x6, x7, rfl, s6, e6, B6, eb6⟩ := hP
        rw [ln] at B6
        walk_at "gi"
        refine ⟨by omega, by omega, ?_⟩
        rw [Int.toNat_natCast]
        refine r_lcR (fun D3 i G2 => Same G' G2 ∧ ∃ ls : List Nat, G2 D3 = some (.lst (ls.map fun y : Nat => V.int (y : Int))) ∧ ls = (List.range i).filter fun y => decide (Vf.tl F y = 0)) (fun D3 hD3 => ⟨Same.new hD3, [], upd_same, rfl⟩) (fun D3 i G2 hD3 hi hP => ?_) (fun D3 G2 hD3 hP => ?_)
        · obtain ⟨s7, ls, e7, els⟩ := hP
          have ll : ls.length ≤ i := by
            have := List.length_filter_le (fun y => decide (Vf.tl F y = 0)) (List.range i)
            rw [List.length_range, ← els] at this
            exact this
          have e8 := s7 _ _ e6
          rw [Int.zero_add]
          walk_at "gi"
          refine ⟨rfl, ?_⟩
          walk_at "gi"
          refine r_ixL (SqL.of e8) (atI_nat (j := i) (bvB_at hi)) ?_
          have nx : (List.range (i + 1)).filter (fun y => decide (Vf.tl F y = 0)) = ls ++ if decide (Vf.tl F i = 0) = true then [i] else [] := by
            rw [List.range_succ, List.filter_append, ← els, List.filter_cons, List.filter_nil]
          cases ho' : decide (Vf.tl F i = 0) with
          | true =>
            rw [ho', if_pos rfl] at nx
            walk_at "gi"
            refine ⟨_, e7, Nat.lt_of_le_of_lt (show _ ≤ 1000 by rw [List.length_map]; omega) (by decide), fun c u e => ?_, ls ++ [i], ?_, nx.symm⟩
            · rw [upd_ne (ne_of_none e hD3)]
              exact s7 _ _ e
            · rw [List.map_append]
              exact upd_same
          | false =>
            rw [ho', if_neg Bool.false_ne_true, List.append_nil] at nx
            walk_at "gi"
            exact ⟨s7, ls, e7, nx.symm⟩
        obtain ⟨s7, ls0, e7, els⟩ := hP
        have L0 : Vf.Lay F n 0 ls0 := by
          refine ⟨by rw [els]; exact List.nodup_range.filter _, fun y => ?_⟩
          rw [els, List.mem_filter, List.mem_range, decide_eq_true_eq]
        have B7 := B6.same s7
        have s07 := s6.trans s7
        clear els
        walk_at "gi"
        refine r_while (fun m σ G3 => ∃ (k : Nat) (ls : List Nat) (L : Addr) (y6 y7 : Option V), σ = [some (.ref a), some (.int (n : Int)), some (.ref b), some (.ref D), some (.ref o), x5, y6, y7, some (.int ((k : Int) - 1)), some (.ref L), none] ∧ Same G2 G3 ∧ G3 L = some (.lst (ls.map fun y : Nat => V.int (y : Int))) ∧ Vf.Lay F n k ls ∧ m = n + 1 - k ∧ (0 < k → ∃ y, y < n ∧ Vf.tl F y = k - 1)) (n + 1) ?_ (fun m σ G3 hW => ?_)
        · exact ⟨0, ls0, D3, x6, x7, rfl, Same.refl _, e7, L0, rfl, fun h => absurd h (Nat.lt_irrefl 0)⟩
        · obtain ⟨k, ls, L, y6, y7, rfl, s8, e8, La, rfl, prev⟩ := hW
          have B8 := B7.same s8
          have ll := La.len
          walk_at "gi"
          refine tru_list (SqL.of e8) ?_
          by_cases c : ls = []
          · subst c
            rw [if_neg (by simp)]
            have st := La.stop hF
            have k0 : 0 < k := by
              have := st 0 (by omega)
              omega
            walk_at "gi"
            rw [show (k : Int) - 1 = ((k - 1 : Nat) : Int) by omega]
            exact q (k - 1) _ (s07.trans s8) ⟨prev k0, fun y hy => by have := st y hy; omega⟩
          · rw [if_pos (by cases ls with
              | nil => exact absurd rfl c
              | cons z l => rfl)]
            obtain ⟨y0, hy0⟩ := List.exists_mem_of_ne_nil ls c
            obtain ⟨y0l, y0t⟩ := (La.2 y0).mp hy0
            have kl := Vf.tl_lt hF y0l
            have Ln := La.next hF
            have lln := Ln.len
            have pre : ∀ i, ((ls.take i).flatMap (Vf.beh F n)).length ≤ n := fun i => by
              refine Nat.le_trans ?_ lln
              conv => rhs; rw [← List.take_append_drop i ls, List.flatMap_append, List.length_append]
              exact Nat.le_add_right _ _
            refine ⟨_, fun _ _ h => h, ?_⟩
            walk_at "gi"
            rw [show (k : Int) - 1 + 1 = ((k + 1 : Nat) : Int) - 1 by omega]
            refine r_lc2Li ?_
            walk_at "gi"
            refine r_lc2L (ls.map fun y : Nat => V.int (y : Int)) (fun D4 i G4 => Same G3 G4 ∧ G4 D4 = some (.lst (((ls.take i).flatMap (Vf.beh F n)).map fun y : Nat => V.int (y : Int)))) (fun D4 hD4 => ⟨Same.new hD4, upd_same⟩) (fun D4 i G4 hD4 hi hP => SqL.of (hP.1 _ _ e8)) (fun D4 i v G4 hD4 hi hP => ?_) (fun D4 G4 hD4 hP => ?_)
            · obtain ⟨s9, e9⟩ := hP
              rw [List.getElem?_map, Option.map_eq_some_iff] at hi
              obtain ⟨l, hl, rfl⟩ := hi
              have ll' := ((La.2 l).mp (List.mem_of_getElem? hl)).1
              have tk : (ls.take (i + 1)).flatMap (Vf.beh F n) = (ls.take i).flatMap (Vf.beh F n) ++ Vf.beh F n l := by
                rw [List.take_add_one, hl, List.flatMap_append]
                show _ ++ [l].flatMap _ = _
                rw [List.flatMap_singleton]
              have p1 := pre (i + 1)
              rw [tk, List.length_append] at p1
              have eu : us[l]? = some (us[l]'(by omega)) := List.getElem?_eq_getElem (by omega)
              have B9 := B8.same s9
              walk_at "gi"
              refine ⟨rfl, ?_⟩
              walk_at "gi"
              refine r_wL ?_
              walk_at "gi"
              refine r_ixL (SqL.of B9.top) (atI_nat (j := l) (by rw [List.getElem?_map, eu]; rfl)) ?_
              refine ⟨_, rfl, ⟨_, SqL.of (B9.each _ _ eu)⟩, ?_⟩
              refine inn_list ((Vf.beh F n l).map fun y : Nat => V.int (y : Int)) (fun j G5 => Same G3 G5 ∧ G5 D4 = some (.lst (((ls.take i).flatMap (Vf.beh F n) ++ (Vf.beh F n l).take j).map fun y : Nat => V.int (y : Int)))) ⟨s9, by rw [List.take_zero, List.append_nil]; exact e9⟩ (fun j G5 hj hP => ?_) (fun j v G5 hj hP => ?_) (fun G5 hP => ?_)
              · exact SqL.of ((B8.same hP.1).each _ _ eu)
              · obtain ⟨s10, e10⟩ := hP
                rw [List.getElem?_map, Option.map_eq_some_iff] at hj
                obtain ⟨y, hy, rfl⟩ := hj
                have lt := List.length_take_le j (Vf.beh F n l)
                have jl := (List.getElem?_eq_some_iff.mp hy).1
                walk_at "gi"
                refine ⟨rfl, ?_⟩
                walk_at "gi"
                refine ⟨_, e10, Nat.lt_of_le_of_lt (show _ ≤ 1000 by rw [List.length_map, List.length_append]; omega) (by decide), fun c u e => ?_, ?_⟩
                · rw [upd_ne (ne_of_none e hD4)]
                  exact s10 _ _ e
                · have tj : (Vf.beh F n l).take (j + 1) = (Vf.beh F n l).take j ++ [y] := by rw [List.take_add_one, hy]; rfl
                  rw [upd_same, tj]
                  simp only [List.map_append, List.map_cons, List.map_nil, List.append_assoc]
              · obtain ⟨s10, e10⟩ := hP
                rw [List.length_map, List.take_length] at e10
                exact ⟨s10, by rw [tk]; exact e10⟩
            · obtain ⟨s9, e9⟩ := hP
              rw [List.length_map, List.take_length] at e9
              walk_at "gi"
              exact ⟨n + 1 - (k + 1), by omega, k + 1, _, D4, _, _, rfl, s8.trans s9, e9, Ln, rfl, fun _ => ⟨y0, y0l, by omega⟩⟩
end
section
variable {P : Program} {w : World} {K : PySem.W.Frag} {mg : Str → Option Value} {base : Heap}
theorem lenle {α : Type} {l : List α} {n : Nat} (h : l.length ≤ n) (hn : n < 100000) : l.length < sizeLine := Nat.lt_of_lt_of_le (Nat.lt_of_le_of_lt h hn) (by decide)
theorem two_le {m n : Nat} (h : m ≤ n) : (2 : Nat) ^ m ≤ 2 ^ n := Nat.pow_le_pow_right (by decide) h
theorem pv_bits {p : List Int} {x : Int} (hl : p.length ≤ 13) (hb : l1 p ≤ 2 ^ 50) (hx : x.natAbs ≤ 2 ^ 140) : (pval p x).natAbs < 2 ^ 1880 := by
  have h1 := pval_le p x (2 ^ 140) Nat.one_le_two_pow hx
  have h2 : (2 ^ 140) ^ p.length ≤ (2 : Nat) ^ 1820 := by
    rw [← Nat.pow_mul]
    exact two_le (by omega)
  have h3 : l1 p * (2 ^ 140) ^ p.length ≤ 2 ^ 50 * 2 ^ 1820 := Nat.mul_le_mul hb h2
  have h4 : (2 : Nat) ^ 50 * 2 ^ 1820 < 2 ^ 1880 := by
    rw [← Nat.pow_add]
    exact two_lt (by decide)
  exact Nat.lt_of_le_of_lt h1 (Nat.lt_of_le_of_lt h3 h4)
end
section
variable {P : Program} {w : World} {K : PySem.W.Frag} {mg : Str → Option Value} {base : Heap}
theorem e60 : (2 : Nat) ^ 60 = 1152921504606846976 := by decide
theorem e59 : (2 : Nat) ^ 59 = 576460752303423488 := by decide
theorem e62 : (2 : Int) ^ 62 = 4611686018427387904 := by decide
theorem ok__law_tap (T : Top K mg) : Ok P w K mg base 1 "_law_tap" s__law_tap ["_law_cask_here", "_law_many"] sp_ctap := by
  refine T.d__law_tap.ok sc__law_tap (fun vs H Q E h => ?_) (fun f cdv A outer s H vs Q E hg hr h => ?_)
  · obtain ⟨k, u, n, rfl, _⟩ := h
    rfl
  · obtain ⟨k, u, n, rfl, ⟨a, b, c, hk, o⟩, hn, h0, h1, q⟩ := h
    obtain ⟨oa, oab, ob, obM, oc, ocn⟩ := o
    have E60 := e60
    refine ⟨_, (pss_cons (ps_asg (pe_op op_add (pe_ix (x_list rfl) (pv 0) pe_int (fun _ _ => rfl)) pe_int) (pg_sub (pv 0) pe_int set_list))
    (pss_cons (ps_if (pt_cmpR op_gt (pe_ix (x_list rfl) (pv 0) pe_int (fun _ _ => rfl)) pe_int (nomark _)) (pss_cons (ps_asg (pe_callB (id := "divmod") c_divmod (by rfl) T.b_divmod (by decide +kernel) (pa_cons (pe_callTy (T := "int") c_int (by rfl) T.b_int (by decide +kernel) (pa_cons (pe_ix (x_list rfl) (pv 0) pe_int (fun _ _ => rfl)) pa_nil)) (pa_cons (pv 1) pa_nil))) (g_tup rfl rfl (pgs_cons (pg_sub (pv 0) pe_int set_list) (pgs_cons (pg_name (i := 2) sc__law_tap.nd rfl (.inl rfl)) pgs_nil)) rfl rfl))
    (pss_one (ps_ret (pv 2)))) pss_nil)
    (pss_cons (ps_asg (pe_op op_mod (pe_callTy (T := "int") c_int (by rfl) T.b_int (by decide +kernel) (pa_cons (pe_op op_add (pe_op op_add (pe_op op_mulX (pe_ix (x_list rfl) (pv 0) pe_int (fun _ _ => rfl)) pe_int) (pe_op op_mulX (pe_ix (x_list rfl) (pv 0) pe_int (fun _ _ => rfl)) pe_int)) (pe_op op_mulX (pe_op op_fdivW (pe_ix (x_list rfl) (pv 0) pe_int (fun _ _ => rfl)) pe_int) pe_int)) pa_nil)) pe_int) (pg_sub (pv 0) pe_int set_list))
    (pss_one (ps_ret (pe_op op_mod (pe_callTy (T := "int") c_int (by rfl) T.b_int (by decide +kernel) (pa_cons (pe_op op_fdivW (pe_ix (x_list rfl) (pv 0) pe_int (fun _ _ => rfl)) pe_int) pa_nil)) (pv 1))))))), ?_⟩
    walk_at "st"
    refine r_ixL (SqL.of hk) (atI_nat (j := 1) rfl) ?_
    walk_at "go"
    refine r_setL (j := 1) hk rfl ?_
    walk_at "gi"
    have hk1 : upd H k (.lst ([V.int b, V.int c, V.int a].set 1 (V.int (c + 11)))) k = some (.lst [.int b, .int (c + 11), .int a]) := upd_same
    have x1 : Kx k H (upd H k (.lst ([V.int b, V.int c, V.int a].set 1 (V.int (c + 11))))) := Kx.upd
    generalize upd H k (.lst ([V.int b, V.int c, V.int a].set 1 (V.int (c + 11)))) = H1 at *
    have L : SqL K H1 k [.int b, .int (c + 11), .int a] := SqL.of hk1
    refine r_ixL L (atI_nat (j := 2) rfl) ?_
    walk_at "gi"
    refine ifd (fun ca => ?_) (fun ca => ?_)
    · walk_at "gi"
      refine r_ixL L (atI_nat (j := 2) rfl) ?_
      walk_at "gi"
      refine r_divmod (divp_of h0 h1) fun p hp => ?_
      walk_at "gi"
      refine r_setL (j := 2) (at_new hp hk1) rfl ?_
      walk_at "gi"
      refine q _ _ (Int.emod_nonneg _ (by omega)) (Int.emod_lt_of_pos _ h0) (x1.trans (Kx.trans (Same.toKx (Same.new hp)) Kx.upd)) ⟨a / u, b, c + 11, upd_same, ⟨Int.ediv_nonneg oa (by omega), ?_, ob, obM, by omega, by omega⟩⟩
      refine Nat.le_trans (bits_mono ?_) oab
      have := Int.ediv_le_self u oa
      have := Int.ediv_nonneg oa (show 0 ≤ u by omega)
      omega
    · walk_at "go"
      refine r_ixL L (atI_nat (j := 0) rfl) ?_
      walk_at "go"
      refine r_rI (bit_mul (a := 64) (b := 64) (bit_of (by omega)) (bit_of (by decide)) (by decide)) ?_
      walk_at "go"
      refine r_ixL L (atI_nat (j := 1) rfl) ?_
      walk_at "go"
      refine r_rI (bit_mul (a := 70) (b := 64) (bit_of (by omega)) (bit_of (by decide)) (by decide)) ?_
      walk_at "go"
      refine r_ixL L (atI_nat (j := 0) rfl) ?_
      walk_at "go"
      refine r_rI (divw_of (by decide) (by decide)) ?_
      walk_at "go"
      have d1 := Int.ediv_nonneg ob (show (0 : Int) ≤ 19013 by decide)
      have d2 := Int.ediv_le_self 19013 ob
      refine r_rI (bit_mul (a := 64) (b := 64) (bit_of (by omega)) (bit_of (by decide)) (by decide)) ?_
      walk_at "go"
      refine r_rI (by decide) ?_
      walk_at "go"
      generalize hz : (b * 58099 + (c + 11) * 70051 + b / 19013 * 107) % 1999999267 = z
      have z1 : 0 ≤ z := by rw [← hz]; exact Int.emod_nonneg _ (by decide)
      have z2 : z < 1999999267 := by rw [← hz]; exact Int.emod_lt_of_pos _ (by decide)
      refine r_setL (j := 0) hk1 rfl ?_
      walk_at "go"
      refine r_ixL (SqL.of upd_same) (atI_nat (j := 0) rfl) ?_
      walk_at "go"
      refine r_rI (divw_of (by decide) (by decide)) ?_
      walk_at "go"
      refine r_rI h0 ?_
      refine q _ _ (Int.emod_nonneg _ (by omega)) (Int.emod_lt_of_pos _ h0) (x1.trans Kx.upd) ⟨a, z, c + 11, upd_same, ⟨oa, oab, z1, by omega, by omega, by omega⟩⟩
theorem ok__law_cask (T : Top K mg) : Ok P w K mg base 1 "_law_cask" s__law_cask ["_law_script", "_law_k"] (sp_cask K) := by
  refine T.d__law_cask.ok sc__law_cask (fun vs H Q E h => ?_) (fun f cdv A outer s H vs Q E hg hr h => ?_)
  · obtain ⟨c, ns, j, rfl, _⟩ := h
    rfl
  · obtain ⟨c, ns, j, rfl, hs, ⟨hl, hb⟩, hj, q⟩ := h
    have cell : ∀ i : Nat, i < ns.length → ∃ z, (ns.map V.int)[i]? = some (V.int z) ∧ Builtin.Int.intBits z ≤ 1048576 := fun i hi =>
      ⟨ns[i], by rw [List.getElem?_map, List.getElem?_eq_getElem hi]; rfl, hb _ (List.getElem_mem hi)⟩
    refine ⟨_, (pss_cons (ps_set (i := 2) sc__law_cask.nd rfl (.inl rfl) (pe_ifExp (pt_cmpR op_lt (pv 1) (pe_callB (id := "len") (c_len rfl) (by rfl) T.b_len (by decide +kernel) (pa_cons (pv 0) pa_nil)) (nomark _)) (pe_callTy (T := "int") c_int (by rfl) T.b_int (by decide +kernel) (pa_cons (pe_ix (x_list rfl) (pv 0) (pv 1) (fun _ _ => rfl)) pa_nil)) (pe_op op_add (pe_op op_mulX pe_int (pv 1)) pe_int)))
    (pss_cons (ps_set (i := 3) sc__law_cask.nd rfl (.inl rfl) (pe_op op_add pe_int (pe_op op_mulX pe_int (pv 1))))
    (pss_cons (ps_for (passes_of rfl) rfl (i_list rfl (pe_slice (s_list rfl) (pv 0) po_none (po_some pe_int))) (pg_name (i := 4) sc__law_cask.nd rfl (.inl rfl)) (pss_one (ps_set (i := 3) sc__law_cask.nd rfl (.inl rfl) (pe_op op_mod (pe_callTy (T := "int") c_int (by rfl) T.b_int (by decide +kernel) (pa_cons (pe_op op_add (pe_op op_mulX (pv 3) pe_int) (pe_op op_mod (pe_callTy (T := "int") c_int (by rfl) T.b_int (by decide +kernel) (pa_cons (pv 4) pa_nil)) pe_int)) pa_nil)) pe_int))))
    (pss_one (ps_ret (pe_lst (pa_cons (pe_op op_mod (pe_callTy (T := "int") c_int (by rfl) T.b_int (by decide +kernel) (pa_cons (pe_op op_add (pe_op op_mulX (pv 3) pe_int) (pe_op op_mod (pv 2) pe_int)) pa_nil)) pe_int) (pa_cons pe_int (pa_cons (pe_ifExp (PW.pt (pw_or (pt_cmpR op_lt (pv 2) pe_int (nomark _)) (pw_or1 (pt_cmpR op_ge (pv 2) (pe_op op_pow pe_int pe_int) (nomark _))))) (pe_callB (id := "abs") c_abs (by rfl) T.b_abs (by decide +kernel) (pa_cons (pv 2) pa_nil)) pe_int) pa_nil))))))))), ?_⟩
    walk_at "st"
    refine j_if (fun v H' => H' = H ∧ ∃ own : Int, v = .int own ∧ Builtin.Int.intBits own ≤ 1048576) (fun Q' q' => ?_) (fun v H' hv => ?_)
    · walk_at "gi"
      refine ifd (fun cc => ?_) (fun cc => ?_)
      · walk_at "gi"
        have hj2 : j < ns.length := by
          rw [List.length_map] at cc
          omega
        obtain ⟨z, e, hz⟩ := cell j hj2
        refine r_ixL hs (atI_nat e) ?_
        walk_at "gi"
        exact q' _ _ ⟨rfl, z, rfl, hz⟩
      · walk_at "gi"
        refine r_rI (bit_mul (a := 64) (b := 64) (bit_of (by decide)) (bit_of (by omega)) (by decide)) ?_
        walk_at "gi"
        exact q' _ _ ⟨rfl, _, rfl, Nat.le_trans (bit_of (a := 64) (by omega)) (by decide)⟩
    obtain ⟨rfl, own, rfl, ho⟩ := hv
    walk_at "go"
    refine r_rI (bit_mul (a := 64) (b := 64) (bit_of (by decide)) (bit_of (by omega)) (by decide)) ?_
    walk_at "go"
    refine r_slL hs fun p hp => ?_
    walk_at "go"
    have cut : cutV (ns.map V.int) none (some 10) = (ns.take 10).map V.int := by
      exact (cut_to (ns.map V.int) 10).trans (List.map_take ..).symm
    rw [cut]
    have hcut : ∀ z ∈ ns.take 10, Builtin.Int.intBits z ≤ 1048576 := fun z hz => hb z (List.mem_of_mem_take hz)
    generalize ns.take 10 = ms at *
    refine r_forLs (ms.map V.int) (fun i σ H1 => H1 = upd H' p (.lst (ms.map V.int)) ∧ ∃ (bl : Int) (x4 : Option V), σ = [some (.ref c), some (.int (j : Int)), some (.int own), some (.int bl), x4] ∧ 0 ≤ bl ∧ bl < 2 ^ 40)
      ⟨rfl, 160073 + 2801 * (j : Int), none, rfl, by omega, by omega⟩ (fun i σ H1 _ hP => ?_) (fun i x σ H1 hi hP => ?_) (fun σ H1 hP => ?_)
    · obtain ⟨rfl, _⟩ := hP
      exact SqL.of upd_same
    · obtain ⟨rfl, bl, x4, rfl, b0, b1⟩ := hP
      have hx : ∃ z, x = V.int z ∧ Builtin.Int.intBits z ≤ 1048576 := by
        rw [List.getElem?_map] at hi
        cases e : ms[i]? with
        | none => rw [e] at hi; cases hi
        | some z =>
          rw [e] at hi
          exact ⟨z, (Option.some.inj hi).symm, hcut z (List.mem_of_getElem? e)⟩
      obtain ⟨z, rfl, hz⟩ := hx
      walk_at "go"
      refine r_rI (bit_mul (a := 64) (b := 64) (bit_of (by omega)) (bit_of (by decide)) (by decide)) ?_
      walk_at "go"
      refine r_rI (by decide) ?_
      walk_at "go"
      refine r_rI (by decide) ?_
      walk_at "go"
      exact ⟨rfl, _, _, rfl, Int.emod_nonneg _ (by decide), Int.lt_trans (Int.emod_lt_of_pos _ (by decide)) (by decide)⟩
    obtain ⟨rfl, bl, x4, rfl, b0, b1⟩ := hP
    walk_at "go"
    refine r_rI (bit_mul (a := 64) (b := 64) (bit_of (by omega)) (bit_of (by decide)) (by decide)) ?_
    walk_at "go"
    refine r_rI (by decide) ?_
    walk_at "go"
    refine r_rI (by decide) ?_
    walk_at "go"
    refine j_if (fun v H1 => H1 = upd H' p (.lst (ms.map V.int)) ∧ ∃ a : Int, v = .int a ∧ 0 ≤ a ∧ Builtin.Int.intBits a ≤ 1048600) (fun Q' q' => ?_) (fun v H1 hv => ?_)
    · walk_at "gi"
      refine ifd (fun cc => ?_) (fun cc => ?_)
      · walk_at "gi"
        refine q' _ _ ⟨rfl, _, rfl, by omega, Nat.le_trans (bits_mono ?_) (Nat.le_trans ho (by decide))⟩
        omega
      · walk_at "gi"
        refine r_rI ⟨by decide, by decide, by decide⟩ ?_
        walk_at "gi"
        refine ifd (fun c2 => ?_) (fun c2 => ?_)
        · walk_at "gi"
          refine q' _ _ ⟨rfl, _, rfl, by omega, Nat.le_trans (bits_mono ?_) (Nat.le_trans ho (by decide))⟩
          omega
        · walk_at "gi"
          exact q' _ _ ⟨rfl, 0, rfl, by decide, by decide⟩
    obtain ⟨rfl, a, rfl, a0, ab⟩ := hv
    walk_at "go"
    exact q _ _ (by walk_at "vsame") (none_up (by assumption)) ⟨a, _, 17, upd_same, ⟨a0, ab, Int.emod_nonneg _ (by decide), Int.lt_trans (Int.emod_lt_of_pos _ (by decide)) (by decide), by decide, by decide⟩⟩
end
section
variable {P : Program} {w : World} {K : PySem.W.Frag} {mg : Str → Option Value} {base : Heap}
/-! ### drawn sums, their values -/
theorem l1_le (s : Nat) : ∀ (t : List Int), (∀ c ∈ t, c.natAbs ≤ s) → l1 t ≤ t.length * s
  | [], _ => Nat.zero_le _
  | c :: t, h => by
    have h1 := h c List.mem_cons_self
    have h2 := l1_le s t fun d hd => h d (List.mem_cons_of_mem _ hd)
    rw [l1, List.length_cons, Nat.add_mul]
    omega
def sp_row (K : PySem.W.Frag) : Sp := fun vs H Q _ => ∃ (k : Addr) (most size n : Nat), vs = [.ref k, .int (most : Int), .int (size : Int)] ∧ Cask n k H ∧ n ≤ 2 ^ 59 ∧ most ≤ 12 ∧ size ≤ 2 ^ 40 ∧
  ∀ a p H', Kx k H H' → H a = none → Cask (n + 20) k H' → H' a = some (.tup (p.map V.int)) → Canon p → l1 p ≤ (most + 1) * size → p.length ≤ most + 1 → (∀ c ∈ p, c.natAbs ≤ size) → Q (.ref a) H'
theorem dropLast_canon {p : List Int} (ne : p ≠ []) (h : p.length = 1 ∨ p.getD (p.length - 1) 0 ≠ 0) : Canon p := ⟨ne, h⟩
theorem ok__law_row (T : Top K mg) : Ok P w K mg base 2 "_law_row" s__law_row ["_law_cask_here", "_law_most", "_law_size"] (sp_row K) := by
  have G__law_tap := ok__law_tap (P := P) (w := w) (base := base) T
  refine T.d__law_row.ok sc__law_row (fun vs H Q E h => ?_) (fun f cdv A outer s H vs Q E hg hr h => ?_)
  · obtain ⟨k, most, size, n, rfl, _⟩ := h
    rfl
  · obtain ⟨k, most, size, n, rfl, hk, hn, hm, hs, q⟩ := h
    have E60 := e60
    have E59 := e59
    have E62 := e62
    have E40 : (2 : Nat) ^ 40 = 1099511627776 := by decide
    refine ⟨_, (pss_cons (ps_setLc (i := 3) (own := [("_law_k", 4)]) (by rfl) sc__law_row.nd rfl rfl (sw_true rfl rfl rfl (by decide +kernel)) (pi_range1 (by rfl) T.b_range (pa_cons (pe_op op_add pe_int (pe_g G__law_tap (fun _ _ F => bd__law_tap F) hg (hr.mono (by decide)) passL (by rfl) (pa_cons (pv 0) (pa_cons (pe_op op_add (pv 1) pe_int) pa_nil)))) pa_nil)) (blkOk_by (own := [("_law_k", 4)]) (N := ["_law_cask_here", "_law_most", "_law_size", "_law_found", "_law_k"]) (sc := defScope s__law_row) (by decide +kernel)) (fun _ _ _ _ _ => (pg_name (i := 4) sc__law_row.nd rfl (by first | exact Or.inl rfl | exact Or.inr rfl))) (fun _ _ _ _ _ => pts_nil) (fun _ _ _ _ _ => (pe_op op_sub (pe_g G__law_tap (fun _ _ F => bd__law_tap F) hg (hr.mono (by decide)) passL (by rfl) (pa_cons (pv 0) (pa_cons (pe_op op_add (pe_op op_mulX pe_int (pv 2)) pe_int) pa_nil))) (pv 2))))
    (pss_cons (ps_while (passes_of rfl) (PW.pt (pw_and (pt_cmpR op_gt (pe_callB (id := "len") (c_len rfl) (by rfl) T.b_len (by decide +kernel) (pa_cons (pv 3) pa_nil)) pe_int (nomark _)) (pw_and1 (pt_cmpR op_eqZ (pe_ix (x_list rfl) (pv 3) (pe_un un_neg pe_int) (fun _ _ => rfl)) pe_int (nomark _))))) (pss_one (ps_expr (pe_bm0 PySem.F.plainAttrs_list PySem.F.slot_list_pop PySem.F.type_list_pop mt_pop (pv 3)))))
    (pss_one (ps_ret (pe_callTy (T := "tuple") (c_tuple rfl) (by rfl) T.b_tuple (by decide +kernel) (pa_cons (pv 3) pa_nil)))))), ?_⟩
    walk_at "st"
    refine i_ctap n hk (by omega) (by omega) (by omega) fun z H1 z0 z1 x1 k1 => ?_
    walk_at "go"
    refine ⟨by omega, by omega, ?_⟩
    obtain ⟨m, hmz⟩ : ∃ m : Nat, (1 + z).toNat = m := ⟨_, rfl⟩
    rw [hmz]
    have m1 : 1 ≤ m := by omega
    have m2 : m ≤ most + 1 := by omega
    refine r_lcR (fun D i H' => Kx k H1 H' ∧ Cask (n + 1 + i) k H' ∧ ∃ t : List Int, t.length = i ∧ H' D = some (.lst (t.map V.int)) ∧ ∀ c ∈ t, c.natAbs ≤ size) (fun D hD => ⟨Same.toKx (Same.new hD), (k1.new hD).mono (by omega), [], rfl, upd_same, fun _ h => by simp at h⟩) (fun D i H' hD hi hP => ?_) (fun D H' hD hP => ?_)
    · obtain ⟨x2, k2, t, lt, dt, bt⟩ := hP
      have nD := k1.ne hD
      walk_at "go"
      refine ⟨rfl, ?_⟩
      walk_at "go"
      refine r_rI (bit_mul (a := 64) (b := 64) (bit_of (by decide)) (bit_of (by omega)) (by decide)) ?_
      walk_at "go"
      refine i_ctap (n + 1 + i) k2 (by omega) (by omega) (by omega) fun y H3 y0 y1 x3 k3 => ?_
      walk_at "go"
      refine ⟨_, x3 _ _ nD dt, lenle (n := 20) (by rw [List.length_map]; omega) (by decide), fun c o nc e => ?_, ?_, t ++ [y - (size : Int)], by rw [List.length_append, lt]; rfl, ?_, fun c hc => ?_⟩
      · rw [upd_ne (ne_of_none e hD)]
        exact x3 _ _ nc (x2 _ _ nc e)
      · obtain ⟨q1, q2, q3, q4, q5⟩ := k3
        exact ⟨q1, q2, q3, by rw [upd_ne (Ne.symm nD)]; exact q4, ⟨q5.a0, q5.ab, q5.b0, q5.bM, q5.c0, by have := q5.cn; omega⟩⟩
      · rw [List.map_append]
        exact upd_same
      · rcases List.mem_append.mp hc with h | h
        · exact bt c h
        · rw [List.mem_singleton.mp h]
          omega
    · obtain ⟨x2, k2, t, lt, dt, bt⟩ := hP
      have nD := k1.ne hD
      have hDn : H D = none := k1.none x1 hD
      have x02 : Kx k H H' := x1.trans x2
      walk_at "gi"
      refine r_while (fun u σ H2 => ∃ t : List Int, t.length = u ∧ 1 ≤ u ∧ u ≤ m ∧ σ = [some (.ref k), some (.int (most : Int)), some (.int (size : Int)), some (.ref D), none] ∧ Kx k H H2 ∧ Cask (n + 1 + m) k H2 ∧ H2 D = some (.lst (t.map V.int)) ∧ ∀ c ∈ t, c.natAbs ≤ size) m ⟨t, lt, m1, Nat.le_refl _, rfl, x02, k2, dt, bt⟩ fun u σ H2 hW => ?_
      obtain ⟨t, lt, u1, um, rfl, x2, k2, dt, bt⟩ := hW
      have ne : t ≠ [] := fun e => by rw [e] at lt; simp at lt; omega
      have fin : Canon t → ∀ a, H2 a = none → Q (.ref a) (upd H2 a (.tup (t.map V.int))) := fun hc a ha => by
        refine q a t _ (x2.same (Same.new ha)) ?_ ((k2.new ha).mono (by omega)) upd_same hc ?_ (by omega) bt
        · exact k2.none x2 ha
        · refine Nat.le_trans (l1_le size t bt) (Nat.mul_le_mul_right _ (by omega))
      walk_at "gi"
      rw [ints_len]
      refine ifd (fun c => ?_) (fun c => ?_)
      · walk_at "gi"
        refine r_ixL (SqL.of dt) (at_last ne) ?_
        walk_at "gi"
        refine ifd (fun c2 => ?_) (fun c2 => ?_)
        · walk_at "gi"
          rcases List.eq_nil_or_concat t with e | ⟨v, y, e⟩
          · exact absurd e ne
          · rw [List.concat_eq_append] at e
            subst e
            rw [List.map_append] at dt
            refine r_bm0 ?_
            walk_at "gi"
            refine ⟨.inl ⟨rfl, _, SqL.of dt⟩, ?_⟩
            refine r_popL _ _ dt ?_
            walk_at "gi"
            rw [List.length_append] at lt c
            simp only [List.length_singleton] at lt c
            refine ⟨u - 1, by omega, v, by omega, by omega, by omega, rfl, ?_, ?_, upd_same, fun c hc => bt c (List.mem_append_left _ hc)⟩
            · intro c o nc e
              rw [upd_ne (ne_of_none e hDn)]
              exact x2 _ _ nc e
            · obtain ⟨q1, q2, q3, q4, q5⟩ := k2
              exact ⟨q1, q2, q3, by rw [upd_ne (Ne.symm nD)]; exact q4, q5⟩
        · walk_at "gi"
          refine r_tupL (SqL.of dt) fun a ha => ?_
          exact fin ⟨ne, .inr c2⟩ a ha
      · walk_at "gi"
        refine r_tupL (SqL.of dt) fun a ha => ?_
        exact fin ⟨ne, .inl (by omega)⟩ a ha
def sp_law_at (K : PySem.W.Frag) : Sp := fun vs H Q _ => ∃ (a : Addr) (p : List Int) (x : Int), vs = [.ref a, .int x] ∧ SqT K H a (p.map V.int) ∧ p.length ≤ 13 ∧ l1 p ≤ 2 ^ 50 ∧ x.natAbs ≤ 2 ^ 140 ∧ ∀ H', Same H H' → Q (.int (pval p x)) H'
theorem ok__law_at (T : Top K mg) : Ok P w K mg base 1 "_law_at" s__law_at ["_law_row_here", "_law_number"] (sp_law_at K) := by
  refine T.d__law_at.ok sc__law_at (fun vs H Q E h => ?_) (fun f cdv A outer s H vs Q E hg hr h => ?_)
  · obtain ⟨a, p, x, rfl, _⟩ := h
    rfl
  · obtain ⟨a, p, x, rfl, sv, hl, hb, hx, q⟩ := h
    refine ⟨_, (pss_cons (ps_set (i := 2) sc__law_at.nd rfl (.inl rfl) pe_int)
    (pss_cons (ps_for (passes_of rfl) rfl (i_tup' rfl (pe_revT rfl (pv 0))) (pg_name (i := 3) sc__law_at.nd rfl (.inl rfl)) (pss_one (ps_set (i := 2) sc__law_at.nd rfl (.inl rfl) (pe_op op_add (pe_op op_mulX (pv 2) (pv 1)) (pv 3)))))
    (pss_one (ps_ret (pv 2))))), ?_⟩
    walk_at "sti"
    refine r_revT ?_
    walk_at "gi"
    refine ⟨a, _, rfl, sv, fun r hr' => ?_⟩
    refine ⟨r, rfl, ⟨_, SqT.of upd_same⟩, ?_⟩
    refine r_forTs (p.map V.int).reverse (fun i σ H' => ∃ x3, σ = [some (.ref a), some (.int x), some (.int (pval (p.drop (p.length - i)) x)), x3] ∧ H' = upd H r (.tup (p.map V.int).reverse)) ⟨_, by rw [Nat.sub_zero, List.drop_length]; rfl, rfl⟩ (fun i σ H' hi hP => ?_) (fun i v σ H' he hP => ?_) (fun σ H' hP => ?_)
    · obtain ⟨x3, rfl, rfl⟩ := hP
      exact SqT.of upd_same
    · obtain ⟨x3, rfl, rfl⟩ := hP
      have hi := (List.getElem?_eq_some_iff.mp he).1
      rw [List.length_reverse, ints_len] at hi
      rw [List.getElem?_reverse (by rw [ints_len]; exact hi), ints_len] at he
      obtain ⟨c, ec, rfl⟩ := ints_at he
      walk_at "gi"
      have hpv := pv_bits (p := p.drop (p.length - i)) (x := x) (by rw [List.length_drop]; omega) (Nat.le_trans (l1_drop_le p _) hb) hx
      refine r_rI (bit_mul (a := 1880) (b := 141) (bit_of hpv) (bit_of (Nat.lt_of_le_of_lt hx (two_lt (by decide)))) (by decide)) ?_
      walk_at "gi"
      refine ⟨some (.int c), ?_, rfl⟩
      have e := pval_drop (x := x) ec
      rw [show p.length - 1 - i + 1 = p.length - i by omega] at e
      rw [show p.length - (i + 1) = p.length - 1 - i by omega, e, Int.mul_comm x, Int.add_comm c]
      rfl
    · obtain ⟨x3, rfl, rfl⟩ := hP
      rw [List.length_reverse, ints_len, Nat.sub_self, List.drop_zero]
      walk_at "gi"
      exact q _ (Same.new hr')
end
section
variable {P : Program} {w : World} {K : PySem.W.Frag} {mg : Str → Option Value} {base : Heap}
def sp_ltab (K : PySem.W.Frag) : Sp := fun vs H Q _ => ∃ (a : Addr) (p : List Int) (n : Nat), vs = [.ref a, .int (n : Int)] ∧ SqT K H a (p.map V.int) ∧ p.length ≤ 13 ∧ l1 p ≤ 2 ^ 50 ∧ 0 < n ∧ n ≤ 1000 ∧ ∀ b H', Same H H' → H b = none → H' b = some (.tup ((tabOf p n).map V.int)) → Q (.ref b) H'
theorem ok__law_table (T : Top K mg) : Ok P w K mg base 2 "_law_table" s__law_table ["_law_row_here", "_law_base"] (sp_ltab K) := by
  have G__law_at := ok__law_at (P := P) (w := w) (base := base) T
  refine T.d__law_table.ok sc__law_table (fun vs H Q E h => ?_) (fun f cdv A outer s H vs Q E hg hr h => ?_)
  · obtain ⟨a, p, n, rfl, _⟩ := h
    rfl
  · obtain ⟨a, p, n, rfl, sv, hl, hb, n0, n1, q⟩ := h
    refine ⟨_, (pss_one (ps_ret (pe_callTy (T := "tuple") (c_tuple rfl) (by rfl) T.b_tuple (by decide +kernel) (pa_cons (pe_lc (own := [("_law_number", 2)]) (by rfl) sc__law_table.nd (pi_range1 (by rfl) T.b_range (pa_cons (pv 1) pa_nil)) (blkOk_by (own := [("_law_number", 2)]) (N := ["_law_row_here", "_law_base", "_law_number"]) (sc := defScope s__law_table) (by decide +kernel)) (fun _ _ _ _ _ => (pg_name (i := 2) sc__law_table.nd rfl (by first | exact Or.inl rfl | exact Or.inr rfl))) (fun _ _ _ _ _ => pts_nil) (fun _ _ _ _ _ => (pe_op op_mod (pe_callTy (T := "int") c_int (by rfl) T.b_int (by decide +kernel) (pa_cons (pe_g G__law_at (fun _ _ F => bd__law_at F) hg (hr.mono (by decide)) passL (by rfl) (pa_cons (pv 0) (pa_cons (pv 2) pa_nil))) pa_nil)) (pv 1)))) pa_nil)))), ?_⟩
    walk_at "sti"
    refine ⟨by omega, by omega, ?_⟩
    rw [Int.toNat_natCast]
    refine r_lcR (fun D i H' => Same H H' ∧ H' D = some (.lst (((List.range i).map fun x : Nat => pval p (x : Int) % (n : Int)).map V.int))) (fun D hD => ⟨Same.new hD, upd_same⟩) (fun D i H' hD hi hP => ?_) (fun D H' hD hP => ?_)
    · obtain ⟨s1, d1⟩ := hP
      walk_at "go"
      refine ⟨rfl, ?_⟩
      walk_at "go"
      rw [Int.zero_add]
      refine ⟨a, p, (i : Int), rfl, Same.tup s1 sv, hl, hb, Nat.le_trans (show (i : Int).natAbs ≤ 2 ^ 10 by have : (2 : Nat) ^ 10 = 1024 := rfl
                                                                                                            omega) (Nat.pow_le_pow_right (by decide) (by decide)), fun H2 s2 => ?_⟩
      walk_at "go"
      refine r_rI (by omega) ?_
      refine ⟨_, s2 _ _ d1, Nat.lt_of_lt_of_le (show _ < 100000 by rw [List.length_map, List.length_map, List.length_range]; omega) (by decide), fun b o e => ?_, ?_⟩
      · rw [upd_ne (ne_of_none e hD)]
        exact s2 _ _ (s1 _ _ e)
      · rw [tabOf_snoc, List.map_append]
        exact upd_same
    · obtain ⟨s1, d1⟩ := hP
      walk_at "gi"
      refine r_tupL (SqL.of d1) fun b hb' => ?_
      exact q b _ (s1.trans (Same.new hb')) (none_same s1 hb') upd_same
end
section
variable {P : Program} {w : World} {K : PySem.W.Frag} {mg : Str → Option Value} {base : Heap}
theorem ok__law_of (T : Top K mg) : Ok P w K mg base 2 "_law_of" s__law_of ["_law_cask_here", "_law_bowl"] (sp_cof K) := by
  have G__law_tap := ok__law_tap (P := P) (w := w) (base := base) T
  refine T.d__law_of.ok sc__law_of (fun vs H Q E h => ?_) (fun f cdv A outer s H vs Q E hg hr h => ?_)
  · obtain ⟨k, t, xs, n, rfl, _⟩ := h
    rfl
  · obtain ⟨k, t, xs, n, rfl, hk, hn, ht, hs, h0, h1, q⟩ := h
    refine ⟨_, (pss_one (ps_ret (pe_ix (x_list rfl) (pv 1) (pe_g G__law_tap (fun _ _ F => bd__law_tap F) hg (hr.mono (by decide)) passL (by rfl) (pa_cons (pv 0) (pa_cons (pe_callB (id := "len") (c_len rfl) (by rfl) T.b_len (by decide +kernel) (pa_cons (pv 1) pa_nil)) pa_nil))) (fun _ _ => rfl)))), ?_⟩
    walk_at "st"
    refine i_ctap n hk hn (by omega) (by omega) fun f H' f0 f1 kx hk' => ?_
    obtain ⟨j, rfl⟩ := Int.eq_ofNat_of_zero_le f0
    have hj : j < xs.length := by omega
    exact r_ixL (kx.list ht hs) (atI_nat (List.getElem?_eq_getElem hj)) (q j _ _ (List.getElem?_eq_getElem hj) kx hk')
end
section
variable {P : Program} {w : World} {K : PySem.W.Frag} {mg : Str → Option Value} {base : Heap}
theorem big12 : (1000000000000 : Nat) < 2 ^ 40 := by decide
def sp_times : Sp := fun vs H Q _ => ∃ n p : Nat, vs = [.int (n : Int), .int (p : Int)] ∧ 0 < n ∧ n ≤ 1000000000000 ∧ 2 ≤ p ∧ p ≤ 1000000000000 ∧ ∀ e m : Nat, n = p ^ e * m → ¬ p ∣ m → e ≤ 40 → Q (.int (e : Int)) H
theorem ok_times_in (T : Top K mg) : Ok P w K mg base 1 "times_in" s_times_in ["number", "prime"] sp_times := by
  refine T.d_times_in.ok sc_times_in (fun vs H Q E h => ?_) (fun f cdv A outer s H vs Q E hg hr h => ?_)
  · obtain ⟨n, p, rfl, _⟩ := h
    rfl
  · obtain ⟨n, p, rfl, n0, n1, p2, p1, q⟩ := h
    refine ⟨_, (pss_cons (ps_set (i := 2) sc_times_in.nd rfl (.inl rfl) pe_int)
    (pss_cons (ps_set (i := 3) sc_times_in.nd rfl (.inl rfl) (pv 0))
    (pss_cons (ps_while (passes_of rfl) (pt_cmpR op_eqZ (pe_op op_mod (pv 3) (pv 1)) pe_int (nomark _)) (pss_cons (ps_aug (i := 3) sc_times_in.nd rfl (.inl rfl) (pv 1) ip_fdivW)
    (pss_one (ps_aug (i := 2) sc_times_in.nd rfl (.inl rfl) pe_int ip_add))))
    (pss_one (ps_ret (pv 2)))))), ?_⟩
    walk_at "sti"
    refine r_while (fun u σ H' => ∃ e : Nat, σ = [some (.int (n : Int)), some (.int (p : Int)), some (.int (e : Int)), some (.int (u : Int))] ∧ H' = H ∧ n = p ^ e * u ∧ 0 < u) n ⟨0, rfl, rfl, by simp, n0⟩ fun u σ H1 hW => ?_
    obtain ⟨e, rfl, rfl, hn, u0⟩ := hW
    have pe : 0 < p ^ e := Nat.pow_pos (by omega)
    have he : e ≤ 40 := by
      refine Classical.byContradiction fun c => ?_
      have h1 : (2 : Nat) ^ 40 ≤ 2 ^ e := Nat.pow_le_pow_right (by decide) (by omega)
      have h2 : 2 ^ e ≤ p ^ e := Nat.pow_le_pow_left p2 e
      have h3 : p ^ e * 1 ≤ p ^ e * u := Nat.mul_le_mul_left _ u0
      have := big12
      omega
    have hun : u ≤ n := by
      have := Nat.mul_le_mul_right u pe
      omega
    walk_at "gi"
    refine r_rI (by omega) ?_
    walk_at "gi"
    refine ifd (fun c => ?_) (fun c => ?_)
    · have hd : p ∣ u := Int.natCast_dvd_natCast.mp (Int.dvd_of_emod_eq_zero c)
      obtain ⟨m, rfl⟩ := hd
      walk_at "gi"
      refine r_ipC (divw_of (j := (p : Int)) (by omega) (by omega)) ?_
      walk_at "gi"
      have m0 : 0 < m := by
        rcases Nat.eq_zero_or_pos m with z | z
        · rw [z, Nat.mul_zero] at u0; omega
        · exact z
      refine ⟨m, ?_, e + 1, ?_, rfl, ?_, m0⟩
      · have := Nat.mul_le_mul_right m p2
        omega
      · rw [Int.natCast_mul, Int.mul_ediv_cancel_left _ (by omega)]
        rfl
      · rw [hn, Nat.pow_succ, Nat.mul_assoc]
    · walk_at "gi"
      exact q e u hn (fun h => c (Int.emod_eq_zero_of_dvd (Int.natCast_dvd_natCast.mpr h))) he
theorem made_snoc : ∀ (ps : List (Nat × Nat)) (a : Nat × Nat), made (ps ++ [a]) = made ps * a.1 ^ a.2
  | [], a => by simp [made]
  | b :: r, a => by
    show b.1 ^ b.2 * made (r ++ [a]) = b.1 ^ b.2 * made r * a.1 ^ a.2
    rw [made_snoc r a, Nat.mul_assoc]
def ci (ps : List (Nat × Nat)) : List (Int × Int) := ps.map fun a => ((a.1 : Int), (a.2 : Int))
/-- all but what is left is taken apart, below d -/
structure Half (n : Nat) (ps : List (Nat × Nat)) (L d : Nat) : Prop where
  m : made ps * L = n
  l0 : 0 < L
  p : ∀ a ∈ ps, Pr a.1 ∧ 1 ≤ a.2
  s : ps.Pairwise fun a b => a.1 < b.1
  b : ∀ a ∈ ps, a.1 < d
  no : ∀ k, 2 ≤ k → k < d → ¬ k ∣ L
theorem Half.le {n : Nat} {ps : List (Nat × Nat)} {L d : Nat} (h : Half n ps L d) : L ≤ n := by
  have := Nat.mul_le_mul_right L (made_pos ps h.p)
  rw [h.m] at this
  omega
theorem Half.pr {n : Nat} {ps : List (Nat × Nat)} {L d : Nat} (h : Half n ps L d) (d2 : 2 ≤ d) (hd : d ∣ L) : Pr d := by
  refine ⟨d2, fun k hk => ?_⟩
  have k0 : 0 < k := Nat.pos_of_dvd_of_pos hk (by omega)
  have k1 := Nat.le_of_dvd (by omega) hk
  by_cases c : k = 1
  · exact .inl c
  · by_cases c2 : k = d
    · exact .inr c2
    · exact absurd (Nat.dvd_trans hk hd) (h.no k (by omega) (by omega))
theorem Half.take {n : Nat} {ps : List (Nat × Nat)} {L d e m : Nat} (h : Half n ps L d) (d2 : 2 ≤ d) (hd : d ∣ L) (hL : L = d ^ e * m) (hm : ¬ d ∣ m) : Half n (ps ++ [(d, e)]) m (d + 1) := by
  have hp := h.pr d2 hd
  have e1 : 1 ≤ e := by
    rcases Nat.eq_zero_or_pos e with z | z
    · rw [z, Nat.pow_zero, Nat.one_mul] at hL
      rw [hL] at hd
      exact absurd hd hm
    · exact z
  refine ⟨?_, ?_, fun a ha => ?_, ?_, fun a ha => ?_, fun k k2 kd => ?_⟩
  · rw [made_snoc, Nat.mul_assoc, ← hL]
    exact h.m
  · rcases Nat.eq_zero_or_pos m with z | z
    · rw [z, Nat.mul_zero] at hL
      have := h.l0
      omega
    · exact z
  · rcases List.mem_append.mp ha with q | q
    · exact h.p a q
    · rw [List.mem_singleton.mp q]
      exact ⟨hp, e1⟩
  · rw [List.pairwise_append]
    refine ⟨h.s, List.pairwise_singleton _ _, fun a ha b hb => ?_⟩
    rw [List.mem_singleton.mp hb]
    exact h.b a ha
  · rcases List.mem_append.mp ha with q | q
    · have := h.b a q
      omega
    · rw [List.mem_singleton.mp q]
      exact Nat.lt_succ_self d
  · by_cases c : k = d
    · rw [c]
      exact hm
    · exact fun hk => h.no k k2 (by omega) (Nat.dvd_trans hk (by rw [hL]; exact Nat.dvd_mul_left _ _))
theorem Half.on {n : Nat} {ps : List (Nat × Nat)} {L d : Nat} (h : Half n ps L d) (hd : ¬ d ∣ L) : Half n ps L (d + 1) := by
  refine ⟨h.m, h.l0, h.p, h.s, fun a ha => by have := h.b a ha; omega, fun k k2 kd => ?_⟩
  by_cases c : k = d
  · rw [c]
    exact hd
  · exact h.no k k2 (by omega)
theorem Half.odd {n : Nat} {ps : List (Nat × Nat)} {L d : Nat} (h : Half n ps L (d + 1)) (d3 : 3 ≤ d) (ho : d % 2 = 1) : Half n ps L (d + 2) := by
  refine ⟨h.m, h.l0, h.p, h.s, fun a ha => by have := h.b a ha; omega, fun k k2 kd => ?_⟩
  by_cases c : k = d + 1
  · intro hk
    exact h.no 2 (by decide) (by omega) (Nat.dvd_trans (by omega) hk)
  · exact h.no k k2 (by omega)
theorem Half.last {n : Nat} {ps : List (Nat × Nat)} {L d : Nat} (h : Half n ps L d) (d2 : 2 ≤ d) (hq : L < d * d) (l1 : 1 < L) : Apart (ps ++ [(L, 1)]) n := by
  have hLd : d ≤ L := by
    refine Classical.byContradiction fun c => ?_
    exact h.no L (by omega) (by omega) (Nat.dvd_refl _)
  have hp : Pr L := by
    refine ⟨by omega, fun k hk => ?_⟩
    obtain ⟨j, hj⟩ := hk
    have k0 : k ≠ 0 := fun z => by rw [z, Nat.zero_mul] at hj; omega
    have j0 : j ≠ 0 := fun z => by rw [z, Nat.mul_zero] at hj; omega
    by_cases c : k = 1
    · exact .inl c
    · by_cases c2 : j = 1
      · rw [c2, Nat.mul_one] at hj
        exact .inr hj.symm
      · have h1 : d ≤ k := Classical.byContradiction fun z => h.no k (by omega) (by omega) ⟨j, hj⟩
        have h2 : d ≤ j := Classical.byContradiction fun z => h.no j (by omega) (by omega) ⟨k, by rw [hj, Nat.mul_comm]⟩
        have := Nat.mul_le_mul h1 h2
        omega
  refine ⟨?_, fun a ha => ?_, ?_⟩
  · rw [made_snoc, Nat.pow_one]
    exact h.m
  · rcases List.mem_append.mp ha with q | q
    · exact h.p a q
    · rw [List.mem_singleton.mp q]
      exact ⟨hp, Nat.le_refl _⟩
  · rw [List.pairwise_append]
    refine ⟨h.s, List.pairwise_singleton _ _, fun a ha b hb => ?_⟩
    rw [List.mem_singleton.mp hb]
    exact Nat.lt_of_lt_of_le (h.b a ha) hLd
theorem Half.len {n : Nat} {ps : List (Nat × Nat)} {L d : Nat} (h : Half n ps L d) (n1 : n ≤ 1000000000000) : ps.length ≤ 40 := by
  have h1 : ∀ (qs : List (Nat × Nat)), (∀ a ∈ qs, Pr a.1 ∧ 1 ≤ a.2) → 2 ^ qs.length ≤ made qs := by
    intro qs
    induction qs with
    | nil => intro _; exact Nat.le_refl _
    | cons a r ih =>
      intro hq
      have h2 := hq a List.mem_cons_self
      have h3 : 2 ^ 1 ≤ a.1 ^ a.2 := Nat.le_trans (Nat.pow_le_pow_left h2.1.1 1) (Nat.pow_le_pow_right (by have := h2.1.1; omega) h2.2)
      have h4 := ih fun b hb => hq b (List.mem_cons_of_mem _ hb)
      show 2 ^ (r.length + 1) ≤ a.1 ^ a.2 * made r
      rw [Nat.pow_succ, Nat.mul_comm]
      exact Nat.mul_le_mul h3 h4
  have h2 := h1 ps h.p
  have h3 : made ps * 1 ≤ made ps * L := Nat.mul_le_mul_left _ h.l0
  rw [h.m] at h3
  refine Classical.byContradiction fun c => ?_
  have h4 : (2 : Nat) ^ 40 ≤ 2 ^ ps.length := Nat.pow_le_pow_right (by decide) (by omega)
  have := big12
  omega
def sp_apart (K : PySem.W.Frag) : Sp := fun vs H Q _ => ∃ n : Nat, vs = [.int (n : Int)] ∧ 1 ≤ n ∧ n ≤ 1000000000000 ∧ ∀ a ps H', Same H H' → FactsAt K H' a (ci ps) → ps.length ≤ 41 → Apart ps n → Q (.ref a) H'
theorem ok_apart (T : Top K mg) : Ok P w K mg base 5 "apart" s_apart ["base"] (sp_apart K) := by
  have G_check_base := ok_check_base (P := P) (w := w) (base := base) T
  have G_times_in := ok_times_in (P := P) (w := w) (base := base) T
  refine T.d_apart.ok sc_apart (fun vs H Q E h => ?_) (fun f cdv A outer s H vs Q E hg hr h => ?_)
  · obtain ⟨n, rfl, _⟩ := h
    rfl
  · obtain ⟨n, rfl, n1, n2, q⟩ := h
    have E62 := e62
    refine ⟨_, (pss_cons (ps_expr (pe_g G_check_base (fun _ _ F => bd_check_base F) hg (hr.mono (by decide)) passL (by rfl) (pa_cons (pv 0) pa_nil)))
    (pss_cons (ps_set (i := 1) sc_apart.nd rfl (.inl rfl) (pe_lst pa_nil))
    (pss_cons (ps_set (i := 2) sc_apart.nd rfl (.inl rfl) (pv 0))
    (pss_cons (ps_set (i := 3) sc_apart.nd rfl (.inl rfl) pe_int)
    (pss_cons (ps_while (passes_of rfl) (pt_cmpR op_le (pe_op op_mulX (pv 3) (pv 3)) (pv 2) (nomark _)) (pss_cons (ps_if (pt_cmpR op_eqZ (pe_op op_mod (pv 2) (pv 3)) pe_int (nomark _)) (pss_cons (ps_set (i := 4) sc_apart.nd rfl (.inl rfl) (pe_g G_times_in (fun _ _ F => bd_times_in F) hg (hr.mono (by decide)) passL (by rfl) (pa_cons (pv 2) (pa_cons (pv 3) pa_nil))))
    (pss_cons (ps_expr (pe_bm PySem.F.plainAttrs_list PySem.F.slot_list_append PySem.F.type_list_append mt_append (pv 1) (pa_cons (pe_tup (pa_cons (pv 3) (pa_cons (pv 4) pa_nil))) pa_nil)))
    (pss_one (ps_for (passes_of rfl) rfl (pi_range1 (by rfl) T.b_range (pa_cons (pv 4) pa_nil)) (pg_name (i := 5) sc_apart.nd rfl (.inl rfl)) (pss_one (ps_aug (i := 2) sc_apart.nd rfl (.inl rfl) (pv 3) ip_fdivW)))))) pss_nil)
    (pss_one (ps_aug (i := 3) sc_apart.nd rfl (.inl rfl) (pe_ifExp (pt_cmpR op_eqZ (pv 3) pe_int (nomark _)) pe_int pe_int) ip_add))))
    (pss_cons (ps_if (pt_cmpR op_gt (pv 2) pe_int (nomark _)) (pss_one (ps_expr (pe_bm PySem.F.plainAttrs_list PySem.F.slot_list_append PySem.F.type_list_append mt_append (pv 1) (pa_cons (pe_tup (pa_cons (pv 2) (pa_cons pe_int pa_nil))) pa_nil)))) pss_nil)
    (pss_one (ps_ret (pe_callTy (T := "tuple") (c_tuple rfl) (by rfl) T.b_tuple (by decide +kernel) (pa_cons (pv 1) pa_nil)))))))))), ?_⟩
    walk_at "sti"
    refine ⟨(n : Int), rfl, by omega, by omega, ?_⟩
    walk_at "gi"
    rename_i F hF
    refine r_while (fun u σ H' => ∃ (d L : Nat) (ps : List (Nat × Nat)) (vs : List V) (x4 x5 : Option V), u + d = 1000003 ∧ σ = [some (.int (n : Int)), some (.ref F), some (.int (L : Int)), some (.int (d : Int)), x4, x5] ∧ Same H H' ∧ H' F = some (.lst vs) ∧ PairsAt K H' vs (ci ps) ∧ Half n ps L d ∧ 2 ≤ d ∧ (d = 2 ∨ d % 2 = 1)) 1000001
      ⟨2, n, [], [], _, _, rfl, rfl, Same.new hF, upd_same, .nil, ⟨by simp [made], by omega, fun a ha => by simp at ha, List.Pairwise.nil, fun a ha => by simp at ha, fun k a b => absurd a (by omega)⟩, by decide, .inl rfl⟩ fun u σ H1 hW => ?_
    obtain ⟨d, L, ps, vs, x4, x5, hu, rfl, s1, f1, p1, hh, d2, dd⟩ := hW
    have hL := hh.le
    have hl0 := hh.l0
    have hlen := hh.len n2
    have hvs : vs.length ≤ 40 := by rw [p1.length]; simp only [ci, List.length_map]; exact hlen
    walk_at "gi"
    refine r_rI (bit_mul (a := 64) (b := 64) (bit_of (by omega)) (bit_of (by omega)) (by decide)) ?_
    walk_at "gi"
    refine ifd (fun c => ?_) (fun c => ?_)
    · have c' : d * d ≤ L := by
        have : ((d * d : Nat) : Int) ≤ (L : Int) := by push_cast; exact c
        omega
      have d6 : d ≤ 1000000 := by
        refine Classical.byContradiction fun z => ?_
        have := Nat.mul_le_mul (show 1000001 ≤ d by omega) (show 1000001 ≤ d by omega)
        omega
      walk_at "go"
      refine j_s (fun σ' H' => ∃ (L' : Nat) (ps' : List (Nat × Nat)) (vs' : List V) (x4 x5 : Option V), σ' = [some (.int (n : Int)), some (.ref F), some (.int (L' : Int)), some (.int (d : Int)), x4, x5] ∧ Same H H' ∧ H' F = some (.lst vs') ∧ PairsAt K H' vs' (ci ps') ∧ Half n ps' L' (d + 1)) (fun nx' hnx => ?_) (fun σ' H2 hM => ?_)
      · walk_at "gi"
        refine r_rI (by omega) ?_
        walk_at "gi"
        refine ifd (fun c2 => ?_) (fun c2 => ?_)
        · have hd : d ∣ L := Int.natCast_dvd_natCast.mp (Int.dvd_of_emod_eq_zero c2)
          walk_at "gi"
          refine ⟨L, d, rfl, hl0, by omega, d2, by omega, fun e m hem hm he => ?_⟩
          walk_at "gi"
          refine ⟨.inl ⟨rfl, _, SqL.of f1⟩, ?_⟩
          walk_at "gi"
          rename_i t1 ht1
          refine r_app ((Same.new ht1) _ _ f1) (by omega) ?_
          walk_at "gi"
          have s3 : Same H (upd (upd H1 t1 (.tup [.int (d : Int), .int (e : Int)])) F (.lst (vs ++ [.ref t1]))) := fun b o eb => by
            rw [upd_ne (ne_of_none eb hF)]
            exact (Same.new ht1) _ _ (s1 _ _ eb)
          have p3 : PairsAt K (upd (upd H1 t1 (.tup [.int (d : Int), .int (e : Int)])) F (.lst (vs ++ [.ref t1]))) (vs ++ [.ref t1]) (ci (ps ++ [(d, e)])) := by
            rw [show ci (ps ++ [(d, e)]) = ci ps ++ [((d : Int), (e : Int))] by simp [ci]]
            exact PairsAt.tt (upd_tt ((Same.new ht1) _ _ f1)) (PairsAt.append (p1.tt (new_tt ht1)) (.cons ⟨t1, rfl, SqT.of upd_same⟩ .nil))
          have f3 : upd (upd H1 t1 (.tup [.int (d : Int), .int (e : Int)])) F (.lst (vs ++ [.ref t1])) F = some (.lst (vs ++ [.ref t1])) := upd_same
          generalize upd (upd H1 t1 (.tup [.int (d : Int), .int (e : Int)])) F (.lst (vs ++ [.ref t1])) = H3 at *
          refine ⟨by omega, by omega, ?_⟩
          rw [Int.toNat_natCast]
          have h4 := hh.take d2 hd hem hm
          refine r_forR (fun j σ H' => ∃ x5, σ = [some (.int (n : Int)), some (.ref F), some (.int ((d ^ (e - j) * m : Nat) : Int)), some (.int (d : Int)), some (.int (e : Int)), x5] ∧ H' = H3) ⟨x5, by rw [Nat.sub_zero, ← hem]; rfl, rfl⟩ (fun j σ H' hj hP => ?_) (fun σ H' hP => ?_)
          · obtain ⟨x5, rfl, rfl⟩ := hP
            walk_at "gi"
            refine r_ipC (divw_of (j := (d : Int)) (by omega) (by omega)) ?_
            walk_at "gi"
            refine ⟨some (.int (0 + (j : Int))), ?_, rfl⟩
            rw [show e - j = (e - (j + 1)) + 1 by omega, Nat.pow_succ, show d ^ (e - (j + 1)) * d * m = d * (d ^ (e - (j + 1)) * m) by rw [Nat.mul_comm _ d, Nat.mul_assoc], Int.natCast_mul, Int.mul_ediv_cancel_left _ (by omega)]
            rfl
          · obtain ⟨x5, rfl, rfl⟩ := hP
            rw [Nat.sub_self, Nat.pow_zero, Nat.one_mul]
            exact hnx _ _ ⟨m, _, _, _, _, rfl, s3, f3, p3, h4⟩
        · have hd : ¬ d ∣ L := fun h => c2 (Int.emod_eq_zero_of_dvd (Int.natCast_dvd_natCast.mpr h))
          walk_at "gi"
          exact hnx _ _ ⟨L, ps, vs, _, _, rfl, s1, f1, p1, hh.on hd⟩
      obtain ⟨L', ps', vs', x4', x5', rfl, s2, f2, p2, h2⟩ := hM
      walk_at "gi"
      refine ifd (fun c3 => ?_) (fun c3 => ?_)
      · have d22 : d = 2 := by omega
        subst d22
        walk_at "gi"
        exact ⟨u - 1, by omega, 3, L', ps', vs', _, _, by omega, rfl, s2, f2, p2, h2, by decide, .inr rfl⟩
      · walk_at "gi"
        exact ⟨u - 2, by omega, d + 2, L', ps', vs', _, _, by omega, rfl, s2, f2, p2, h2.odd (by omega) (by omega), by omega, .inr (by omega)⟩
    · have c' : L < d * d := by
        refine Nat.lt_of_not_le fun z => c ?_
        have : ((d * d : Nat) : Int) ≤ (L : Int) := by omega
        push_cast at this
        exact this
      walk_at "gi"
      refine ifd (fun c3 => ?_) (fun c3 => ?_)
      · walk_at "gi"
        refine ⟨.inl ⟨rfl, _, SqL.of f1⟩, ?_⟩
        walk_at "gi"
        rename_i t1 ht1
        refine r_app ((Same.new ht1) _ _ f1) (by omega) ?_
        walk_at "gi"
        refine r_tupL (SqL.of upd_same) fun a ha => ?_
        refine q a (ps ++ [(L, 1)]) _ (fun b o eb => ?_) ⟨_, SqT.of upd_same, ?_⟩ (by rw [List.length_append]; simp; omega) (hh.last d2 c' (by omega))
        · have e2 : upd (upd H1 t1 (.tup [.int (L : Int), .int 1])) F (.lst (vs ++ [.ref t1])) b = some o := by
            rw [upd_ne (ne_of_none eb hF)]
            exact (Same.new ht1) _ _ (s1 _ _ eb)
          exact (Same.new ha) _ _ e2
        · rw [show ci (ps ++ [(L, 1)]) = ci ps ++ [((L : Int), (1 : Int))] by simp [ci]]
          exact PairsAt.tt (new_tt ha) (PairsAt.tt (upd_tt ((Same.new ht1) _ _ f1)) (PairsAt.append (p1.tt (new_tt ht1)) (.cons ⟨t1, rfl, SqT.of upd_same⟩ .nil)))
      · walk_at "gi"
        have L1 : L = 1 := by omega
        refine r_tupL (SqL.of f1) fun a ha => ?_
        refine q a ps _ (s1.trans (Same.new ha)) ⟨_, SqT.of upd_same, p1.tt (new_tt ha)⟩ (by omega) ⟨?_, hh.p, hh.s⟩
        have := hh.m
        rw [L1, Nat.mul_one] at this
        exact this
def sp_small (K : PySem.W.Frag) : Sp := fun vs H Q _ => ∃ n : Nat, vs = [.int (n : Int)] ∧ 1 ≤ n ∧ n ≤ 1000000000000 ∧ (∀ q, Pr q → q ∣ n → q ≤ 1000) ∧ ∀ a ps H', Same H H' → FactsAt K H' a (ci ps) → ps.length ≤ 41 → Apart ps n → Q (.ref a) H'
theorem made_dvd : ∀ (ps : List (Nat × Nat)) (a : Nat × Nat), a ∈ ps → 1 ≤ a.2 → a.1 ∣ made ps ∧ a.1 ^ a.2 ∣ made ps
  | [], a, h, _ => by simp at h
  | b :: r, a, h, ha => by
    show a.1 ∣ b.1 ^ b.2 * made r ∧ a.1 ^ a.2 ∣ b.1 ^ b.2 * made r
    rcases List.mem_cons.mp h with e | e
    · subst e
      exact ⟨Nat.dvd_trans (by obtain ⟨k, hk⟩ : ∃ k, a.2 = k + 1 := ⟨a.2 - 1, by omega⟩
                               rw [hk, Nat.pow_succ]
                               exact Nat.dvd_mul_left _ _) (Nat.dvd_mul_right _ _), Nat.dvd_mul_right _ _⟩
    · have := made_dvd r a e ha
      exact ⟨Nat.dvd_trans this.1 (Nat.dvd_mul_left _ _), Nat.dvd_trans this.2 (Nat.dvd_mul_left _ _)⟩
theorem ci_at {ps : List (Nat × Nat)} {i : Nat} {z : Int × Int} (h : (ci ps)[i]? = some z) : ∃ a, ps[i]? = some a ∧ z = ((a.1 : Int), (a.2 : Int)) := by
  unfold ci at h
  rw [List.getElem?_map, Option.map_eq_some_iff] at h
  obtain ⟨a, ha, e⟩ := h
  exact ⟨a, ha, e.symm⟩
theorem ok_apart_in_small (T : Top K mg) : Ok P w K mg base 6 "apart_in_small" s_apart_in_small ["base"] (sp_small K) := by
  have G_apart := ok_apart (P := P) (w := w) (base := base) T
  refine T.d_apart_in_small.ok sc_apart_in_small (fun vs H Q E h => ?_) (fun f cdv A outer s H vs Q E hg hr h => ?_)
  · obtain ⟨n, rfl, _⟩ := h
    rfl
  · obtain ⟨n, rfl, n1, n2, hq, q⟩ := h
    refine ⟨_, (pss_cons (ps_set (i := 1) sc_apart_in_small.nd rfl (.inl rfl) (pe_g G_apart (fun _ _ F => bd_apart F) hg (hr.mono (by decide)) passL (by rfl) (pa_cons (pv 0) pa_nil)))
    (pss_cons (ps_for (passes_of rfl) rfl (i_tup' rfl (pv 1)) (g_tup rfl rfl (pgs_cons (pg_name (i := 2) sc_apart_in_small.nd rfl (.inl rfl)) (pgs_cons (pg_name (i := 3) sc_apart_in_small.nd rfl (.inl rfl)) pgs_nil)) rfl rfl) (pss_one (ps_if (pt_cmpR op_gt (pv 2) (pe_gi T.c_MOST_PRIME (by rfl)) (nomark _)) (pss_one ps_never) pss_nil)))
    (pss_one (ps_ret (pv 1))))), ?_⟩
    walk_at "sti"
    refine ⟨n, rfl, n1, n2, fun a ps H1 s1 fa hl A => ?_⟩
    walk_at "gi"
    obtain ⟨vs, sv, pv⟩ := fa
    refine ⟨⟨vs, sv⟩, ?_⟩
    refine r_forTs vs (fun i σ H' => ∃ x2 x3, σ = [some (.int (n : Int)), some (.ref a), x2, x3] ∧ H' = H1) ⟨_, _, rfl, rfl⟩ (fun i σ H' hi hP => ?_) (fun i v σ H' hi hP => ?_) (fun σ H' hP => ?_)
    · obtain ⟨x2, x3, rfl, rfl⟩ := hP
      exact sv
    · obtain ⟨x2, x3, rfl, rfl⟩ := hP
      obtain ⟨z, hz, t, rfl, st⟩ := pv.get hi
      obtain ⟨b, hb, rfl⟩ := ci_at hz
      have hm := List.mem_of_getElem? hb
      have h1 := A.p b hm
      have h2 := hq b.1 h1.1 (by rw [← A.m]; exact (made_dvd ps b hm h1.2).1)
      refine r_gtup st rfl ?_
      walk_at "gi"
      rw [decide_eq_false (show ¬ (1000 : Int) < (b.1 : Int) by omega)]
      walk_at "gi"
    · obtain ⟨x2, x3, rfl, rfl⟩ := hP
      walk_at "gi"
      exact q a ps _ s1 ⟨vs, sv, pv⟩ hl A
end
section
variable {P : Program} {w : World} {K : PySem.W.Frag} {mg : Str → Option Value} {base : Heap}
/-- the slope's coefficients, of a sum of any degree -/
def pslope (p : List Int) : List Int := if p.length = 1 then [0] else psl p (p.length - 1)
theorem slope_ok {p : List Int} {f : Int → Int} {B d : Nat} (h : IsP p f B d) : ∃ f', Dv f f' ∧ IsP (pslope p) f' (d * B) (d - 1) := by
  unfold pslope
  have h1 := h.cn.len
  by_cases e : p.length = 1
  · rw [if_pos e]
    obtain ⟨c, rfl⟩ : ∃ c, p = [c] := by
      match p, e with
      | [c], _ => exact ⟨c, rfl⟩
    refine ⟨fun _ => 0, (Dv.const c).as (fun x => by rw [← h.v]; simp [pval]) (fun _ => rfl), Canon.one 0, fun x => by simp [pval], by simp [l1], by simp⟩
  · rw [if_neg e]
    exact h.slope (by omega)
def sp_slope_of (K : PySem.W.Frag) : Sp := fun vs H Q _ => ∃ (a : Addr) (p : List Int), vs = [.ref a] ∧ SqT K H a (p.map V.int) ∧ p ≠ [] ∧ p.length ≤ 13 ∧ l1 p ≤ 2 ^ 50 ∧
  ∀ r H', Same H H' → H r = none → H' r = some (.tup ((pslope p).map V.int)) → Q (.ref r) H'
theorem ok_slope_of (T : Top K mg) : Ok P w K mg base 1 "slope_of" s_slope_of ["terms"] (sp_slope_of K) := by
  refine T.d_slope_of.ok sc_slope_of (fun vs H Q E h => ?_) (fun f cdv A outer s H vs Q E hg hr h => ?_)
  · obtain ⟨a, p, rfl, _⟩ := h
    rfl
  · obtain ⟨a, p, rfl, sv, ne, hl, hb, q⟩ := h
    have h1 := len_pos ne
    refine ⟨_, (pss_cons (ps_if (pt_cmpR op_eqZ (pe_callB (id := "len") (c_len rfl) (by rfl) T.b_len (by decide +kernel) (pa_cons (pv 0) pa_nil)) pe_int (nomark _)) (pss_one (ps_ret (pe_tup (pa_cons pe_int pa_nil)))) pss_nil)
    (pss_one (ps_ret (pe_callTy (T := "tuple") (c_tuple rfl) (by rfl) T.b_tuple (by decide +kernel) (pa_cons (pe_lc (own := [("power", 1)]) (by rfl) sc_slope_of.nd (pi_range2 (by rfl) T.b_range (pa_cons pe_int (pa_cons (pe_callB (id := "len") (c_len rfl) (by rfl) T.b_len (by decide +kernel) (pa_cons (pv 0) pa_nil)) pa_nil))) (blkOk_by (own := [("power", 1)]) (N := ["terms", "power"]) (sc := defScope s_slope_of) (by decide +kernel)) (fun _ _ _ _ _ => (pg_name (i := 1) sc_slope_of.nd rfl (by first | exact Or.inl rfl | exact Or.inr rfl))) (fun _ _ _ _ _ => pts_nil) (fun _ _ _ _ _ => (pe_op op_mulX (pv 1) (pe_ix (x_tup rfl) (pv 0) (pv 1) (fun _ _ => rfl))))) pa_nil))))), ?_⟩
    walk_at "sti"
    rw [ints_len]
    refine ifd (fun c => ?_) (fun c => ?_)
    · walk_at "gi"
      rename_i r hr'
      refine q r _ (Same.new hr') hr' ?_
      rw [pslope, if_pos (by omega)]
      exact upd_same
    · walk_at "gi"
      rw [ints_len]
      rw [show ((p.length : Int) - 1).toNat = p.length - 1 by omega]
      refine ⟨⟨by omega, by omega, by omega, by omega⟩, ?_⟩
      refine r_lcR (fun D i H' => Same H H' ∧ H' D = some (.lst ((psl p i).map V.int))) (fun D hD => ⟨Same.new hD, upd_same⟩) (fun D i H' hD hi hP => ?_) (fun D H' hD hP => ?_)
      · obtain ⟨s2, d2⟩ := hP
        obtain ⟨z, ez⟩ : ∃ z, p[i + 1]? = some z := ⟨_, List.getElem?_eq_getElem (by omega)⟩
        have bz := l1_mem (List.mem_of_getElem? ez)
        walk_at "go"
        refine ⟨rfl, ?_⟩
        walk_at "go"
        rw [show (1 : Int) + (i : Int) = ((i + 1 : Nat) : Int) by omega]
        refine r_ixT (Same.tup s2 sv) (atI_nat (ints_get ez)) ?_
        walk_at "go"
        have b50 : z.natAbs < 2 ^ 51 := Nat.lt_of_le_of_lt (Nat.le_trans bz hb) (Nat.pow_lt_pow_right (by decide) (by decide))
        refine r_rI (bit_mul (a := 64) (b := 51) (bit_of (by omega)) (bit_of b50) (by decide)) ?_
        refine ⟨_, d2, lenle (n := 20) (by rw [List.length_map, psl_len]; omega) (by decide), fun b o e => ?_, ?_⟩
        · rw [upd_ne (ne_of_none e hD)]
          exact s2 _ _ e
        · rw [psl_succ, List.map_append, List.getD_eq_getElem?_getD, ez]
          exact upd_same
      · obtain ⟨s2, d2⟩ := hP
        walk_at "gi"
        refine r_tupL (SqL.of d2) fun r hr' => ?_
        refine q r _ (s2.trans (Same.new hr')) (none_same s2 hr') ?_
        rw [pslope, if_neg (by omega)]
        exact upd_same
theorem pval_cong {n : Int} : ∀ (s : List Int) {x y : Int}, n ∣ x - y → n ∣ pval s x - pval s y
  | [], x, y, _ => by simp [pval]
  | c :: s, x, y, h => by
    obtain ⟨k, hk⟩ := h
    obtain ⟨j, hj⟩ := pval_cong s (show n ∣ x - y from ⟨k, hk⟩)
    refine ⟨k * pval s x + y * j, ?_⟩
    show c + x * pval s x - (c + y * pval s y) = _
    rw [show c + x * pval s x - (c + y * pval s y) = (x - y) * pval s x + y * (pval s x - pval s y) by grind, hk, hj]
    grind
theorem tab_inj {p : List Int} {n : Nat} (n0 : 0 < n) : (∀ a < n, ∀ b < n, (tabOf p n).getD a 0 = (tabOf p n).getD b 0 → a = b) ↔ Inj (pval p) n := by
  constructor
  · intro h x y hxy
    have a1 := pval_cong p (rs_self n0 x)
    have a2 := pval_cong p (rs_self n0 y)
    have e := h (rs n x) (rs_lt n0 x) (rs n y) (rs_lt n0 y) (by
      rw [tabOf_at p (rs_lt n0 x), tabOf_at p (rs_lt n0 y)]
      exact (dvd_mod _ _).mp (dvd_tr (dvd_sy a1) (dvd_tr hxy a2)))
    exact (rs_dvd n0 x y).mpr e
  · intro h a ha b hb e
    rw [tabOf_at p ha, tabOf_at p hb] at e
    exact small_eq ha hb (h _ _ ((dvd_mod _ _).mpr e))
theorem tab_zero {s : List Int} {n : Nat} (n0 : 0 < n) : (0 : Int) ∈ tabOf s n ↔ ∃ x : Int, (n : Int) ∣ pval s x := by
  unfold tabOf
  rw [List.mem_map]
  constructor
  · intro ⟨x, _, e⟩
    exact ⟨(x : Int), Int.dvd_of_emod_eq_zero e⟩
  · intro ⟨x, hx⟩
    refine ⟨rs n x, List.mem_range.mpr (rs_lt n0 x), ?_⟩
    have h1 := Int.dvd_sub hx (pval_cong s (rs_self n0 x))
    rw [show pval s x - (pval s x - pval s ((rs n x : Nat) : Int)) = pval s ((rs n x : Nat) : Int) by omega] at h1
    exact Int.emod_eq_zero_of_dvd h1
theorem cnt_step {f : Nat → Int} {i c : Nat} {b : Bool} (h1 : c ≤ i) (h2 : c = i ↔ ∀ x < i, ∀ y < i, f x = f y → x = y) (hb : b = true ↔ ∃ x < i, f x = f i) :
    (if b = true then c else c + 1) ≤ i + 1 ∧ ((if b = true then c else c + 1) = i + 1 ↔ ∀ x < i + 1, ∀ y < i + 1, f x = f y → x = y) := by
  by_cases cc : b = true
  · rw [if_pos cc]
    refine ⟨by omega, fun e => absurd e (by omega), fun e => ?_⟩
    obtain ⟨a, ha, ea⟩ := hb.mp cc
    have := e a (by omega) i (by omega) ea
    omega
  · rw [if_neg cc]
    refine ⟨by omega, fun e x hx y hy exy => ?_, fun e => ?_⟩
    · have e1 := h2.mp (by omega)
      by_cases cx : x = i
      · by_cases cy : y = i
        · omega
        · rw [cx] at exy
          exact absurd (hb.mpr ⟨y, by omega, exy.symm⟩) cc
      · by_cases cy : y = i
        · rw [cy] at exy
          exact absurd (hb.mpr ⟨x, by omega, exy⟩) cc
        · exact e1 x (by omega) y (by omega) exy
    · have := h2.mpr fun x hx y hy => e x (by omega) y (by omega)
      omega
theorem put_len (kvs : List (Key × V)) (k : Key) (v : V) : (putK kvs k v).length = if (valV kvs k).isSome = true then kvs.length else kvs.length + 1 := by
  unfold putK
  rw [valV_any]
  split <;> simp
theorem r_dcTi {tl : TE} {g : TG} {tt : TT} {tk tv : TE} {vs : List Nat} {σ : L2.St} {H : Hp} {Q : VK} (h : tl σ H fun x H1 => ∃ a, x = .ref a ∧ (∃ xs, SqT K H1 a xs) ∧ tDc (fun _ H2 R => R (Itt K a) H2) g tt tk tv vs σ H1 Q) : tDc (iTup K tl) g tt tk tv vs σ H Q := h
theorem r_dcTs {a : Addr} {g : TG} {tt : TT} {tk tv : TE} {vs : List Nat} {σ : L2.St} {H : Hp} {Q : VK} (xs : List V) (Pv : Addr → Nat → Hp → Prop) (h0 : ∀ D, H D = none → Pv D 0 (upd H D (.dK []))) (hl : ∀ D i H', H D = none → i ≤ xs.length → Pv D i H' → SqT K H' a xs)
    (hs : ∀ D i x H', H D = none → xs[i]? = some x → Pv D i H' → g x (wipe σ vs) H' fun σ2 H2 => wipe σ2 vs = wipe σ vs ∧ tt σ2 H2 fun b H3 =>
      if b = true then tk σ2 H3 fun y H4 => tv σ2 H4 fun z H5 => ∃ kvs k, y = kV k ∧ H5 D = some (.dK kvs) ∧ kvs.length < sizeLine ∧ Pv D (i + 1) (upd H5 D (.dK (putK kvs k z))) else Pv D (i + 1) H3)
    (hd : ∀ D H', H D = none → Pv D xs.length H' → Q (.ref D) H') : tDc (fun _ H2 R => R (Itt K a) H2) g tt tk tv vs σ H Q :=
  fun D hD => dc_tup (Pv D) (h0 D hD) (fun i H' hi p => hl D i H' hD hi p) (fun i x H' hx p => hs D i x H' hD hx p) (fun H' p => hd D H' hD p)
theorem flat_ints : ∀ ns : List Int, (ns.map V.int).all flatV = true
  | [] => rfl
  | n :: ns => by
    rw [List.map_cons, List.all_cons, flat_ints ns]
    rfl
theorem inV_ints (k : Int) (ns : List Int) : inV (.int k) (ns.map V.int) = true ↔ k ∈ ns := by
  unfold inV
  rw [List.any_eq_true]
  constructor
  · intro ⟨y, hy, e⟩
    obtain ⟨j, hj, rfl⟩ := List.mem_map.mp hy
    have : (j == k) = true := e
    rw [beq_iff_eq] at this
    rw [← this]
    exact hj
  · intro h
    refine ⟨.int k, List.mem_map.mpr ⟨k, h, rfl⟩, ?_⟩
    show (k == k) = true
    exact beq_self_eq_true k
theorem pslope_ne {p : List Int} (h : Canon p) : pslope p ≠ [] := by
  obtain ⟨f', d, i⟩ := slope_ok (show IsP p (pval p) (l1 p) (p.length - 1) from ⟨h, fun _ => rfl, Nat.le_refl _, by have := h.len; omega⟩)
  exact i.cn.1
def sp_tbp (K : PySem.W.Frag) : Sp := fun vs H Q _ => ∃ (a : Addr) (p : List Int) (q e : Nat), vs = [.ref a, .int (q : Int), .int (e : Int)] ∧ SqT K H a (p.map V.int) ∧ Right p ∧ 1 ≤ q ∧ q ≤ 1000 ∧
  ∀ b H', Same H H' → (b = true ↔ Inj (pval p) q ∧ (e = 1 ∨ ∀ x : Int, ¬ (q : Int) ∣ pval (pslope p) x)) → Q (.bl b) H'
theorem ok__turns_by_power (T : Top K mg) : Ok P w K mg base 3 "_turns_by_power" s__turns_by_power ["terms", "prime", "often"] (sp_tbp K) := by
  have G_table_of := ok_table_of (P := P) (w := w) (base := base) T
  have G_slope_of := ok_slope_of (P := P) (w := w) (base := base) T
  refine T.d__turns_by_power.ok sc__turns_by_power (fun vs H Q E h => ?_) (fun f cdv A outer s H vs Q E hg hr h => ?_)
  · obtain ⟨a, p, q, e, rfl, _⟩ := h
    rfl
  · obtain ⟨a, p, n, e, rfl, sv, R, n0, n1, q⟩ := h
    refine ⟨_, (pss_cons (ps_setDc (i := 3) (by rfl) sc__turns_by_power.nd rfl rfl (sw_dict rfl rfl rfl (by decide +kernel)) (i_tup' rfl (pe_g G_table_of (fun _ _ F => bd_table_of F) hg (hr.mono (by decide)) passL (by rfl) (pa_cons (pv 0) (pa_cons (pv 1) pa_nil)))) (blkOk_by (own := [("rest", 4)]) (N := ["terms", "prime", "often", "shown", "rest"]) (sc := defScope s__turns_by_power) (by decide +kernel)) (fun _ _ _ _ _ => (pg_name (i := 4) sc__turns_by_power.nd rfl (by first | exact Or.inl rfl | exact Or.inr rfl))) (fun _ _ _ _ _ => pts_nil) (fun _ _ _ _ _ => (pv 4)) (fun _ _ _ _ _ => pe_bl))
    (pss_cons (ps_if (pt_cmpR op_lt (pe_callB (id := "len") cr_lenDk (by rfl) T.b_len (by decide +kernel) (pa_cons (pv 3) pa_nil)) (pv 1) (nomark _)) (pss_one (ps_ret pe_bl)) pss_nil)
    (pss_one (ps_ret (pe_or (pe_cmpR op_eqZ (pv 2) pe_int (nomark _)) (pe_one (pe_cmpR (o_notIn rfl) pe_int (pe_g G_table_of (fun _ _ F => bd_table_of F) hg (hr.mono (by decide)) passL (by rfl) (pa_cons (pe_g G_slope_of (fun _ _ F => bd_slope_of F) hg (hr.mono (by decide)) passL (by rfl) (pa_cons (pv 0) pa_nil)) (pa_cons (pv 1) pa_nil))) (by rfl)))))))), ?_⟩
    walk_at "sti"
    refine r_dcTi ?_
    walk_at "gi"
    refine ⟨a, p, n, rfl, sv, R.1.1, n0, n1, fun b H1 s1 nb eb => ?_⟩
    refine ⟨b, rfl, ⟨_, SqT.of eb⟩, ?_⟩
    refine r_dcTs ((tabOf p n).map V.int) (fun D i H' => Same H1 H' ∧ ∃ kvs : List (Key × V), H' D = some (.dK kvs) ∧ (∀ k : Int, (valV kvs (Sum.inl k)).isSome = true ↔ ∃ j < i, (tabOf p n).getD j 0 = k) ∧ kvs.length ≤ i ∧ (kvs.length = i ↔ ∀ x < i, ∀ y < i, (tabOf p n).getD x 0 = (tabOf p n).getD y 0 → x = y))
      (fun D hD => ⟨Same.new hD, [], upd_same, fun k => ⟨fun h => by simp [valV_nil] at h, fun ⟨j, hj, _⟩ => absurd hj (by omega)⟩, Nat.le_refl _, ⟨fun _ x hx => absurd hx (by omega), fun _ => rfl⟩⟩) (fun D i H' hD hi hP => ?_) (fun D i v H' hD hi hP => ?_) (fun D H' hD hP => ?_)
    · exact Same.tup hP.1 (SqT.of eb)
    · obtain ⟨s2, kvs, dk, hk, h1, h2⟩ := hP
      obtain ⟨c, ec, rfl⟩ := ints_at hi
      have ci' := getD_at ec
      have hi' := (List.getElem?_eq_some_iff.mp ec).1
      rw [tabOf_len] at hi'
      walk_at "go"
      refine ⟨rfl, ?_⟩
      walk_at "go"
      refine ⟨kvs, Sum.inl c, rfl, dk, Nat.lt_of_le_of_lt (show kvs.length ≤ 1000 by omega) (by decide), fun b' o e => ?_, _, upd_same, fun k => ?_, ?_⟩
      · rw [upd_ne (ne_of_none e hD)]
        exact s2 _ _ e
      · rw [valV_put]
        by_cases ek : k = c
        · rw [if_pos (by rw [ek])]
          exact ⟨fun _ => ⟨i, Nat.lt_succ_self i, by rw [ci', ek]⟩, fun _ => rfl⟩
        · rw [if_neg (fun z => ek (Sum.inl.inj z)), hk k]
          exact ⟨fun ⟨j, hj, e⟩ => ⟨j, by omega, e⟩, fun ⟨j, hj, e⟩ => ⟨j, by
            rcases Nat.lt_or_ge j i with z | z
            · exact z
            · have : j = i := by omega
              rw [this, ci'] at e
              exact absurd e.symm ek, e⟩⟩
      · rw [put_len]
        exact cnt_step h1 h2 (by rw [hk c, ci'])
    · obtain ⟨s2, kvs, dk, hk, h1, h2⟩ := hP
      rw [List.length_map, tabOf_len] at h1 h2
      have hI := h2.trans (tab_inj (p := p) (show 0 < n by omega))
      walk_at "gi"
      refine r_lenDk dk ?_
      walk_at "gi"
      refine ifd (fun c => ?_) (fun c => ?_)
      · walk_at "gi"
        exact q false H' (s1.trans s2) ⟨fun z => (Bool.false_ne_true z).elim, fun z => absurd (hI.mpr z.1) (by omega)⟩
      · have hinj := hI.mp (by omega)
        walk_at "gi"
        refine ifd (fun c1 => ?_) (fun c1 => ?_)
        · exact q true H' (s1.trans s2) ⟨fun _ => ⟨hinj, .inl (by omega)⟩, fun _ => rfl⟩
        · walk_at "gi"
          refine ⟨a, p, rfl, Same.tup (s1.trans s2) sv, R.1.1, R.2.1, Nat.le_trans R.2.2 (by decide), fun r H3 s3 nr er => ?_⟩
          walk_at "gi"
          refine ⟨r, pslope p, n, rfl, SqT.of er, pslope_ne R.1, by omega, n1, fun b2 H4 s4 nb2 eb2 => ?_⟩
          refine ⟨b2, _, rfl, .inr (SqT.of eb2), rfl, flat_ints _, ?_⟩
          refine q _ H4 (((s1.trans s2).trans s3).trans s4) ?_
          have hz := (inV_ints 0 (tabOf (pslope p) n)).trans (tab_zero (s := pslope p) (show 0 < n by omega))
          rw [if_pos rfl, Bool.not_eq_true', ← Bool.not_eq_true, hz]
          exact ⟨fun h => ⟨hinj, .inr fun x hx => h ⟨x, hx⟩⟩, fun h ⟨x, hx⟩ => by
            rcases h.2 with z | z
            · exact c1 (by omega)
            · exact z x hx⟩
def sp_turns (K : PySem.W.Frag) : Sp := fun vs H Q _ => ∃ (a : Addr) (p : List Int) (n : Nat), vs = [.ref a, .int (n : Int)] ∧ SqT K H a (p.map V.int) ∧ Right p ∧ 1 ≤ n ∧ n ≤ 1000000000000 ∧ (∀ q, Pr q → q ∣ n → q ≤ 1000) ∧
  ∀ b H', Same H H' → (b = true ↔ Inj (pval p) n) → Q (.bl b) H'
theorem slope_dv {p : List Int} (h : Canon p) : Dv (pval p) (pval (pslope p)) := by
  obtain ⟨f', d, i⟩ := slope_ok (show IsP p (pval p) (l1 p) (p.length - 1) from ⟨h, fun _ => rfl, Nat.le_refl _, by have := h.len; omega⟩)
  exact d.as (fun _ => rfl) fun x => (i.v x).symm
theorem ok_turns (T : Top K mg) : Ok P w K mg base 7 "turns" s_turns ["terms", "base"] (sp_turns K) := by
  have G_check_sum := ok_check_sum (P := P) (w := w) (base := base) T
  have G_apart_in_small := ok_apart_in_small (P := P) (w := w) (base := base) T
  have G__turns_by_power := ok__turns_by_power (P := P) (w := w) (base := base) T
  refine T.d_turns.ok sc_turns (fun vs H Q E h => ?_) (fun f cdv A outer s H vs Q E hg hr h => ?_)
  · obtain ⟨a, p, n, rfl, _⟩ := h
    rfl
  · obtain ⟨a, p, n, rfl, sv, R, n1, n2, hq, q⟩ := h
    refine ⟨_, (pss_cons (ps_expr (pe_g G_check_sum (fun _ _ F => bd_check_sum F) hg (hr.mono (by decide)) passL (by rfl) (pa_cons (pv 0) pa_nil)))
    (pss_cons (ps_for (passes_of rfl) rfl (i_tup' rfl (pe_g G_apart_in_small (fun _ _ F => bd_apart_in_small F) hg (hr.mono (by decide)) passL (by rfl) (pa_cons (pv 1) pa_nil))) (g_tup rfl rfl (pgs_cons (pg_name (i := 2) sc_turns.nd rfl (.inl rfl)) (pgs_cons (pg_name (i := 3) sc_turns.nd rfl (.inl rfl)) pgs_nil)) rfl rfl) (pss_one (ps_if (pt_not (pt_val (pe_g G__turns_by_power (fun _ _ F => bd__turns_by_power F) hg (hr.mono (by decide)) passL (by rfl) (pa_cons (pv 0) (pa_cons (pv 2) (pa_cons (pv 3) pa_nil)))))) (pss_one (ps_ret pe_bl)) pss_nil)))
    (pss_one (ps_ret pe_bl)))), ?_⟩
    walk_at "sti"
    refine ⟨a, p, rfl, sv, R, ?_⟩
    walk_at "gi"
    refine ⟨n, rfl, n1, n2, hq, fun b ps H1 s1 fb hl Ap => ?_⟩
    obtain ⟨vs, sb, pb⟩ := fb
    have tr := Ap.turn (slope_dv R.1)
    refine ⟨b, rfl, ⟨vs, sb⟩, ?_⟩
    refine r_forTs vs (fun i σ H' => ∃ x2 x3, σ = [some (.ref a), some (.int (n : Int)), x2, x3] ∧ Same H1 H' ∧ ∀ j < i, ∀ z, ps[j]? = some z → Inj (pval p) z.1 ∧ (z.2 = 1 ∨ ∀ x : Int, ¬ (z.1 : Int) ∣ pval (pslope p) x)) ⟨_, _, rfl, Same.refl _, fun j hj => absurd hj (by omega)⟩ (fun i σ H' hi hP => ?_) (fun i v σ H' hi hP => ?_) (fun σ H' hP => ?_)
    · obtain ⟨x2, x3, rfl, s2, _⟩ := hP
      exact Same.tup s2 sb
    · obtain ⟨x2, x3, rfl, s2, hj⟩ := hP
      obtain ⟨z, hz, t, rfl, st⟩ := pb.get hi
      obtain ⟨c, hc, rfl⟩ := ci_at hz
      have hm := List.mem_of_getElem? hc
      have h1 := Ap.p c hm
      have h2 := hq c.1 h1.1 (by rw [← Ap.m]; exact (made_dvd ps c hm h1.2).1)
      refine r_gtup (Same.tup s2 st) rfl ?_
      walk_at "gi"
      refine ⟨a, p, c.1, c.2, rfl, Same.tup (s1.trans s2) sv, R, by have := h1.1.1; omega, h2, fun k H2 s3 hk => ?_⟩
      cases k with
      | false =>
        walk_at "gi"
        refine q false H2 ((s1.trans s2).trans s3) ⟨fun h => (Bool.false_ne_true h).elim, fun h => ?_⟩
        exact hk.mpr (tr.mp h c hm)
      | true =>
        walk_at "gi"
        refine ⟨s2.trans s3, fun j hj' z ez => ?_⟩
        rcases Nat.lt_or_ge j i with y | y
        · exact hj j y z ez
        · have : j = i := by omega
          rw [this, hc] at ez
          rw [← Option.some.inj ez]
          exact hk.mp rfl
    · obtain ⟨x2, x3, rfl, s2, hj⟩ := hP
      walk_at "gi"
      refine q true H' (s1.trans s2) ⟨fun _ => tr.mpr fun z hz => ?_, fun _ => rfl⟩
      obtain ⟨j, hjl, e⟩ := List.mem_iff_getElem.mp hz
      have hlen : vs.length = ps.length := by rw [pb.length]; simp [ci]
      exact hj j (by omega) z (by rw [← e]; exact List.getElem?_eq_getElem hjl)
end
section
variable {P : Program} {w : World} {K : PySem.W.Frag} {mg : Str → Option Value} {base : Heap}
/-! ### what is told of one number -/
theorem tup_int (L : List Int) (t : Int) : (PyData.list [tupD L, .int t]).canLay0 = true ∧ (PyData.list [tupD L, .int t]).depth ≤ 64 := by
  have s : SeqAt.shaped (tupD L) = true := shapedTup L
  unfold SeqAt.shaped at s
  rw [Bool.and_eq_true] at s
  have d : (tupD L).depth = PyData.depthAll (L.map PyData.int) + 1 := rfl
  rw [depthInts] at d
  constructor
  · show ((tupD L).canLay0 && ((PyData.int t).canLay0 && true)) = true
    rw [s.1]
    rfl
  · show max (tupD L).depth (max 0 0) + 1 ≤ 64
    omega
def sp_numr (K : PySem.W.Frag) : Sp := fun vs H Q _ => ∃ (a b : Addr) (p : List Int) (n : Nat) (x : Int) (k : Nat), vs = [.ref a, .int (n : Int), .ref b, .int x, .int (k : Int)] ∧ SqT K H a (p.map V.int) ∧ Right p ∧ SqT K H b ((Tb (led p n) n).map V.int) ∧ 1 ≤ n ∧ n ≤ 60 ∧ -(10 ^ 40) ≤ x ∧ x ≤ 10 ^ 40 ∧ k ≤ 10 ^ 40 ∧ ∀ H', Same H H' → Q (.bl true) H'
theorem ok__law_number_right (T : Top K mg) : Ok P w K mg base 8 "_law_number_right" s__law_number_right ["_law_row_here", "_law_base", "_law_table_here", "_law_number", "_law_times"] (sp_numr K) := by
  have G__law_path := ok__law_path (P := P) (w := w) (base := base) T
  have G_tail := ok_tail (P := P) (w := w) (base := base) T
  have G_ring_of := ok_ring_of (P := P) (w := w) (base := base) T
  have G__law_ring := ok__law_ring (P := P) (w := w) (base := base) T
  have G_after := ok_after (P := P) (w := w) (base := base) T
  refine T.d__law_number_right.ok sc__law_number_right (fun vs H Q E h => ?_) (fun f cdv A outer s H vs Q E hg hr h => ?_)
  · obtain ⟨a, b, p, n, x, k, rfl, _⟩ := h
    rfl
  · obtain ⟨a, b, p, n, x, k, rfl, sa, hR, sb, n0, n1, x0, x1, k1, q⟩ := h
    have hF : ∀ y, y < n → led p n y < n := fun y _ => led_lt p n0 y
    have hr0 := rst_lt x n0
    refine ⟨_, (pss_cons (ps_asg (pe_g G__law_path (fun _ _ F => bd__law_path F) hg (hr.mono (by decide)) passL (by rfl) (pa_cons (pv 2) (pa_cons (pe_op op_mod (pe_callTy (T := "int") c_int (by rfl) T.b_int (by decide +kernel) (pa_cons (pv 3) pa_nil)) (pv 1)) pa_nil))) (g_tup rfl rfl (pgs_cons (pg_name (i := 5) sc__law_number_right.nd rfl (.inl rfl)) (pgs_cons (pg_name (i := 6) sc__law_number_right.nd rfl (.inl rfl)) pgs_nil)) rfl rfl))
    (pss_cons (ps_set (i := 7) sc__law_number_right.nd rfl (.inl rfl) (pe_op op_sub (pe_callB (id := "len") (c_len rfl) (by rfl) T.b_len (by decide +kernel) (pa_cons (pv 5) pa_nil)) (pv 6)))
    (pss_cons (ps_set (i := 8) sc__law_number_right.nd rfl (.inl rfl) (pe_ix (x_list rfl) (pv 5) (pe_ifExp (pt_cmpR op_lt (pv 4) (pe_callB (id := "len") (c_len rfl) (by rfl) T.b_len (by decide +kernel) (pa_cons (pv 5) pa_nil)) (nomark _)) (pv 4) (pe_op op_add (pv 6) (pe_op op_mod (pe_callTy (T := "int") c_int (by rfl) T.b_int (by decide +kernel) (pa_cons (pe_op op_sub (pv 4) (pv 6)) pa_nil)) (pv 7)))) (fun _ _ => rfl)))
    (pss_cons (ps_if (pt_cmpR (o_neD rfl hr.units) (pe_lst (pa_cons (pe_g G_ring_of (fun _ _ F => bd_ring_of F) hg (hr.mono (by decide)) passL (by rfl) (pa_cons (pv 0) (pa_cons (pv 1) (pa_cons (pv 3) pa_nil)))) (pa_cons (pe_g G_tail (fun _ _ F => bd_tail F) hg (hr.mono (by decide)) passL (by rfl) (pa_cons (pv 0) (pa_cons (pv 1) (pa_cons (pv 3) pa_nil)))) pa_nil))) (pe_lst (pa_cons (pe_g G__law_ring (fun _ _ F => bd__law_ring F) hg (hr.mono (by decide)) passL (by rfl) (pa_cons (pv 2) (pa_cons (pe_op op_mod (pe_callTy (T := "int") c_int (by rfl) T.b_int (by decide +kernel) (pa_cons (pv 3) pa_nil)) (pv 1)) pa_nil))) (pa_cons (pv 6) pa_nil))) (nomark _)) (pss_one (ps_ret pe_bl)) pss_nil)
    (pss_cons (ps_if (PW.pt (pw_or (pt_cmpR op_neZ (pe_g G_after (fun _ _ F => bd_after F) hg (hr.mono (by decide)) passL (by rfl) (pa_cons (pv 0) (pa_cons (pv 1) (pa_cons (pv 3) (pa_cons (pv 4) pa_nil))))) (pv 8) (nomark _)) (pw_or1 (pt_cmpR op_neZ (pe_gk0 G_after (fun _ _ F => kb_after_0 F) hg (hr.mono (by decide)) passL (by rfl) (pk_cons (pv 4) (pk_cons (pv 3) (pk_cons (pv 1) (pk_cons (pv 0) pk_nil))))) (pv 8) (nomark _))))) (pss_one (ps_ret pe_bl)) pss_nil)
    (pss_one (ps_ret (pe_cmpR op_eqZ (pe_gk0 G_tail (fun _ _ F => kb_tail_1 F) hg (hr.mono (by decide)) passL (by rfl) (pk_cons (pv 3) (pk_cons (pv 1) (pk_cons (pv 0) pk_nil)))) (pv 6) (nomark _))))))))), ?_⟩
    walk_at "sti"
    refine r_rI (show (0 : Int) < (n : Int) by omega) ?_
    rw [← rst_int x n0]
    refine ⟨b, led p n, n, rst x n, rfl, sb, hF, hr0, by omega, fun z l t c H1 s1 ez el R => ?_⟩
    refine r_gtup (SqT.of ez) rfl ?_
    have R0 := R.pos
    walk_at "go"
    rw [List.length_map, way_len]
    walk_at "go"
    refine j_if (fun v H' => H' = H1 ∧ ∃ i : Nat, v = .int (i : Int) ∧ i < t + c ∧ Vf.itf (led p n) (rst x n) i = Vf.itf (led p n) (rst x n) k) (fun Q' q' => ?_) (fun v H' hv => ?_)
    · walk_at "gi"
      rw [List.length_map, way_len]
      refine ifd (fun h1 => ?_) (fun h1 => ?_)
      · walk_at "gi"
        exact q' _ _ ⟨rfl, k, rfl, by omega, rfl⟩
      · walk_at "gi"
        refine r_rI (show (0 : Int) < ((t + c : Nat) : Int) - (t : Int) by omega) ?_
        walk_at "gi"
        have em : (t : Int) + ((k : Int) - (t : Int)) % (((t + c : Nat) : Int) - (t : Int)) = ((t + (k - t) % c : Nat) : Int) := by
          rw [show ((t + c : Nat) : Int) - (t : Int) = (c : Int) by omega, show (k : Int) - (t : Int) = ((k - t : Nat) : Int) by omega, ← Int.natCast_emod, ← Int.natCast_add]
        rw [em]
        exact q' _ _ ⟨rfl, _, rfl, Nat.add_lt_add_left (Nat.mod_lt _ R0) _, (R.far (show t ≤ k by omega)).symm⟩
    obtain ⟨rfl, i, rfl, il, ei⟩ := hv
    walk_at "go"
    refine r_ixL (SqL.of el) (atI_nat (j := i) (by rw [List.getElem?_map, way_at il]; rfl)) ?_
    rw [ei]
    walk_at "gi"
    refine ⟨a, p, n, x, rfl, Same.tup s1 sa, hR, n0, by omega, x0, x1, fun b1 L1 H2 s2 eb1 R1 => ?_⟩
    walk_at "gi"
    refine ⟨a, p, n, x, rfl, Same.tup (s1.trans s2) sa, hR, n0, by omega, x0, x1, fun t2 c2 H3 s3 R2 => ?_⟩
    obtain ⟨rfl, rfl⟩ := R.uniq2 R2
    walk_at "gi"
    rename_i l4 hl4
    refine r_rI (show (0 : Int) < (n : Int) by omega) ?_
    rw [← rst_int x n0]
    walk_at "gi"
    have s14 := (s1.trans s2).trans (s3.trans (Same.new hl4 (o := .lst [.ref b1, .int (t : Int)])))
    refine ⟨b, led p n, n, rst x n, rfl, Same.tup s14 sb, hF, hr0, by omega, fun b5 L5 H5 s5 eb5 R5 => ?_⟩
    obtain rfl := R1.one R5
    walk_at "gi"
    rename_i l6 hl6
    obtain ⟨sh1, sh2⟩ := tup_int L1 (t : Int)
    have s6 := Same.new hl6 (o := .lst [.ref b5, .int (t : Int)])
    refine r_neSame (PyData.list [tupD L1, .int (t : Int)]) (.lst (SqL.of ((s5.trans s6) _ _ upd_same)) (.cons (Dp.tupD (Same.tup (((s3.trans (Same.new hl4)).trans s5).trans s6) eb1)) (.cons (.int _) .nil))) (.lst (SqL.of upd_same) (.cons (Dp.tupD (SqT.of (s6 _ _ eb5))) (.cons (.int _) .nil))) sh1 sh2 ?_
    have s16 := (s14.trans s5).trans s6
    walk_at "gi"
    refine ⟨a, p, n, x, k, rfl, Same.tup s16 sa, hR, n0, by omega, x0, x1, k1, fun H7 s7 => ?_⟩
    walk_at "go"
    refine ifnd (fun c => absurd rfl c) (fun _ => ?_)
    walk_at "gi"
    refine ⟨a, p, n, x, k, rfl, Same.tup (s16.trans s7) sa, hR, n0, by omega, x0, x1, k1, fun H8 s8 => ?_⟩
    walk_at "go"
    refine ifnd (fun c => absurd rfl c) (fun _ => ?_)
    walk_at "gi"
    refine ⟨a, p, n, x, rfl, Same.tup ((s16.trans s7).trans s8) sa, hR, n0, by omega, x0, x1, fun t9 c9 H9 s9 R9 => ?_⟩
    obtain ⟨rfl, rfl⟩ := R.uniq2 R9
    walk_at "gi"
    rw [decide_eq_true rfl]
    exact q _ (((s16.trans s7).trans s8).trans s9)
end
section
variable {P : Program} {w : World} {K : PySem.W.Frag} {mg : Str → Option Value} {base : Heap}
def tupsD (nss : List (List Int)) : PyData := .tuple (nss.map tupD)
theorem Dp.tups {H : Hp} {a : Addr} {vs : List V} {nss : List (List Int)} (h : SqT K H a vs) (R : RowsAt K H vs nss) : Dp K H (.ref a) (tupsD nss) := .tup h R.dp
end
section
variable {P : Program} {w : World} {K : PySem.W.Frag} {mg : Str → Option Value} {base : Heap}
/-! ### all of it -/
theorem cast_sum (l : List Nat) : (l.map fun c : Nat => (c : Int)).sum = (l.sum : Int) := by
  induction l with
  | nil => rfl
  | cons a l ih => rw [List.map_cons, List.sum_cons, ih, List.sum_cons, Int.natCast_add]
theorem mem_le_sum {c : Nat} : ∀ {l : List Nat}, c ∈ l → c ≤ l.sum
  | a :: l, h => by
    rw [List.sum_cons]
    rcases List.mem_cons.mp h with e | e
    · omega
    · have := mem_le_sum e
      omega
theorem count_zero (f : Nat → Nat) (n : Nat) : ((List.range n).map fun y => (f y : Int)).count 0 = (List.range n).countP fun y => decide (f y = 0) := by
  rw [List.count, List.countP_map]
  refine List.countP_congr fun y _ => ?_
  show ((f y : Int) == 0) = true ↔ decide (f y = 0) = true
  simp
theorem tab_led {p : List Int} {n : Nat} (n0 : 0 < n) : (∀ a, a < n → ∀ b, b < n → led p n a = led p n b → a = b) ↔ Inj (pval p) n := by
  rw [← tab_inj n0]
  constructor
  · intro h a ha b hb e
    rw [tabOf_at p ha, tabOf_at p hb, ← led_int p n0, ← led_int p n0] at e
    exact h a ha b hb (Int.ofNat_inj.mp e)
  · intro h a ha b hb e
    refine h a ha b hb ?_
    rw [tabOf_at p ha, tabOf_at p hb, ← led_int p n0, ← led_int p n0, e]
theorem two_sh (X : List (List Int)) : (tupsD X).canLay0 = true ∧ (tupsD X).depth ≤ 64 := by
  have s : SeqAt.shaped (tupsD X) = true := shapedRows X
  unfold SeqAt.shaped at s
  rw [Bool.and_eq_true] at s
  exact ⟨s.1, of_decide_eq_true s.2⟩
def sp_right (K : PySem.W.Frag) : Sp := fun vs H Q _ => ∃ k : Addr, vs = [.ref k] ∧ Cask 0 k H ∧ ∀ H', Kx k H H' → Q (.bl true) H'
theorem ok__law_right (T : Top K mg) : Ok P w K mg base 9 "_law_right" s__law_right ["_law_cask_here"] (sp_right K) := by
  have G__law_row := ok__law_row (P := P) (w := w) (base := base) T
  have G__law_tap := ok__law_tap (P := P) (w := w) (base := base) T
  have G__law_of := ok__law_of (P := P) (w := w) (base := base) T
  have G__law_table := ok__law_table (P := P) (w := w) (base := base) T
  have G__law_number_right := ok__law_number_right (P := P) (w := w) (base := base) T
  have G__law_path := ok__law_path (P := P) (w := w) (base := base) T
  have G_rings := ok_rings (P := P) (w := w) (base := base) T
  have G__law_rings := ok__law_rings (P := P) (w := w) (base := base) T
  have G_longest_tail := ok_longest_tail (P := P) (w := w) (base := base) T
  have G_turns := ok_turns (P := P) (w := w) (base := base) T
  refine T.d__law_right.ok sc__law_right (fun vs H Q E h => ?_) (fun f cdv A outer s H vs Q E hg hr h => ?_)
  · obtain ⟨k, rfl, _⟩ := h
    rfl
  · obtain ⟨k, rfl, hk, q⟩ := h
    have E60 : (2 : Nat) ^ 60 = 1152921504606846976 := by decide
    have E59 : (2 : Nat) ^ 59 = 576460752303423488 := by decide
    have E40 : (2 : Nat) ^ 40 = 1099511627776 := by decide
    have E50 : (2 : Nat) ^ 50 = 1125899906842624 := by decide
    have T40 : (10 : Int) ^ (40 : Int).toNat = 10000000000000000000000000000000000000000 := by decide
    have N40 : (10 : Int) ^ 40 = 10000000000000000000000000000000000000000 := by decide
    have M40 : (10 : Nat) ^ 40 = 10000000000000000000000000000000000000000 := by decide
    refine ⟨_, (pss_cons (ps_for (passes_of rfl) rfl (pi_range1 (by rfl) T.b_range (pa_cons pe_int pa_nil)) (pg_name (i := 1) sc__law_right.nd rfl (.inl rfl)) (pss_cons (ps_par (i := 2) (j := 3) (by rfl) sc__law_right.nd rfl rfl (by decide) rfl rfl (pa_cons (pe_op op_add pe_int (pe_g G__law_tap (fun _ _ F => bd__law_tap F) hg (hr.mono (by decide)) passL (by rfl) (pa_cons (pv 0) (pa_cons (pe_g G__law_of (fun _ _ F => bd__law_of F) hg (hr.mono (by decide)) passL (by rfl) (pa_cons (pv 0) (pa_cons (pe_lst (pa_cons pe_int (pa_cons pe_int (pa_cons pe_int pa_nil)))) pa_nil))) pa_nil)))) (pa_cons (pe_g G__law_row (fun _ _ F => bd__law_row F) hg (hr.mono (by decide)) passL (by rfl) (pa_cons (pv 0) (pa_cons pe_int (pa_cons pe_int pa_nil)))) pa_nil)) (by rfl))
    (pss_cons (ps_set (i := 4) sc__law_right.nd rfl (.inr rfl) (pe_g G__law_table (fun _ _ F => bd__law_table F) hg (hr.mono (by decide)) passL (by rfl) (pa_cons (pv 3) (pa_cons (pv 2) pa_nil))))
    (pss_cons (ps_for (passes_of rfl) rfl (i_list rfl (pe_lst (pa_cons (pe_g G__law_tap (fun _ _ F => bd__law_tap F) hg (hr.mono (by decide)) passL (by rfl) (pa_cons (pv 0) (pa_cons pe_int pa_nil))) (pa_cons (pe_op op_sub (pe_op op_pow pe_int pe_int) (pe_g G__law_tap (fun _ _ F => bd__law_tap F) hg (hr.mono (by decide)) passL (by rfl) (pa_cons (pv 0) (pa_cons pe_int pa_nil)))) (pa_cons (pe_un un_neg (pe_g G__law_tap (fun _ _ F => bd__law_tap F) hg (hr.mono (by decide)) passL (by rfl) (pa_cons (pv 0) (pa_cons pe_int pa_nil)))) pa_nil))))) (pg_name (i := 5) sc__law_right.nd rfl (.inl rfl)) (pss_cons (ps_set (i := 6) sc__law_right.nd rfl (.inl rfl) (pe_g G__law_of (fun _ _ F => bd__law_of F) hg (hr.mono (by decide)) passL (by rfl) (pa_cons (pv 0) (pa_cons (pe_lst (pa_cons pe_int (pa_cons pe_int (pa_cons (pe_g G__law_tap (fun _ _ F => bd__law_tap F) hg (hr.mono (by decide)) passL (by rfl) (pa_cons (pv 0) (pa_cons pe_int pa_nil))) (pa_cons (pe_op op_sub (pe_op op_pow pe_int pe_int) (pe_g G__law_tap (fun _ _ F => bd__law_tap F) hg (hr.mono (by decide)) passL (by rfl) (pa_cons (pv 0) (pa_cons pe_int pa_nil)))) pa_nil))))) pa_nil))))
    (pss_one (ps_if (pt_not (pt_val (pe_g G__law_number_right (fun _ _ F => bd__law_number_right F) hg (hr.mono (by decide)) passL (by rfl) (pa_cons (pv 3) (pa_cons (pv 2) (pa_cons (pv 4) (pa_cons (pv 5) (pa_cons (pv 6) pa_nil)))))))) (pss_one (ps_ret pe_bl)) pss_nil))))
    (pss_cons (ps_setLc (i := 7) (own := [("_law_rest", 8)]) (by rfl) sc__law_right.nd rfl rfl (sw_true rfl rfl rfl (by decide +kernel)) (pi_range1 (by rfl) T.b_range (pa_cons (pv 2) pa_nil)) (blkOk_by (own := [("_law_rest", 8)]) (N := ["_law_cask_here", "_law_turn", "_law_base", "_law_row_here", "_law_table_here", "_law_number", "_law_times", "_law_tails", "_law_rest", "_law_size", "_law_many"]) (sc := defScope s__law_right) (by decide +kernel)) (fun _ _ _ _ _ => (pg_name (i := 8) sc__law_right.nd rfl (by first | exact Or.inl rfl | exact Or.inr rfl))) (fun _ _ _ _ _ => pts_nil) (fun _ _ _ _ _ => (pe_ix (x_tup rfl) (pe_g G__law_path (fun _ _ F => bd__law_path F) hg (hr.mono (by decide)) passL (by rfl) (pa_cons (pv 4) (pa_cons (pv 8) pa_nil))) pe_int (fun _ _ => rfl))))
    (pss_cons (ps_if (PW.pt (pw_or (pt_cmpR (o_neD rfl hr.units) (pe_g G_rings (fun _ _ F => bd_rings F) hg (hr.mono (by decide)) passL (by rfl) (pa_cons (pv 3) (pa_cons (pv 2) pa_nil))) (pe_g G__law_rings (fun _ _ F => bd__law_rings F) hg (hr.mono (by decide)) passL (by rfl) (pa_cons (pv 4) pa_nil)) (nomark _)) (pw_or1 (pt_cmpR (o_neD rfl hr.units) (pe_gk0 G_rings (fun _ _ F => kb_rings_2 F) hg (hr.mono (by decide)) passL (by rfl) (pk_cons (pv 2) (pk_cons (pv 3) pk_nil))) (pe_g G__law_rings (fun _ _ F => bd__law_rings F) hg (hr.mono (by decide)) passL (by rfl) (pa_cons (pv 4) pa_nil)) (nomark _))))) (pss_one (ps_ret pe_bl)) pss_nil)
    (pss_cons (ps_if (PW.pt (pw_or (pt_cmpR op_neZ (pe_g G_longest_tail (fun _ _ F => bd_longest_tail F) hg (hr.mono (by decide)) passL (by rfl) (pa_cons (pv 3) (pa_cons (pv 2) pa_nil))) (pe_callB (id := "max") (c_maxQ rfl rfl hr.units) (by rfl) T.b_max (by decide +kernel) (pa_cons (pv 7) pa_nil)) (nomark _)) (pw_or1 (pt_cmpR op_ne (pe_g G_turns (fun _ _ F => bd_turns F) hg (hr.mono (by decide)) passL (by rfl) (pa_cons (pv 3) (pa_cons (pv 2) pa_nil))) (pe_cmpR op_eqZ (pe_callB (id := "max") (c_maxQ rfl rfl hr.units) (by rfl) T.b_max (by decide +kernel) (pa_cons (pv 7) pa_nil)) pe_int (nomark _)) (nomark _))))) (pss_one (ps_ret pe_bl)) pss_nil)
    (pss_one (ps_if (pt_cmpR op_neZ (pe_callB (id := "sum") (c_sum rfl rfl) (by rfl) T.b_sum (by decide +kernel) (pa_cons (pe_lc (own := [("_law_size", 9), ("_law_many", 10)]) (by rfl) sc__law_right.nd (i_tup' rfl (pe_g G_rings (fun _ _ F => bd_rings F) hg (hr.mono (by decide)) passL (by rfl) (pa_cons (pv 3) (pa_cons (pv 2) pa_nil)))) (blkOk_by (own := [("_law_size", 9), ("_law_many", 10)]) (N := ["_law_cask_here", "_law_turn", "_law_base", "_law_row_here", "_law_table_here", "_law_number", "_law_times", "_law_tails", "_law_rest", "_law_size", "_law_many"]) (sc := defScope s__law_right) (by decide +kernel)) (fun _ _ _ _ _ => (g_tup (n := 2) rfl rfl (pgs_cons (pg_name (i := 9) sc__law_right.nd rfl (by first | exact Or.inl rfl | exact Or.inr rfl)) (pgs_cons (pg_name (i := 10) sc__law_right.nd rfl (by first | exact Or.inl rfl | exact Or.inr rfl)) pgs_nil)) rfl rfl)) (fun _ _ _ _ _ => pts_nil) (fun _ _ _ _ _ => (pe_op op_mulX (pv 9) (pv 10)))) pa_nil)) (pe_bmK rfl PySem.F.plainAttrs_list PySem.F.slot_list_count PySem.F.type_list_count (c_lcount rfl) (pv 7) (pa_cons pe_int pa_nil)) (nomark _)) (pss_one (ps_ret pe_bl)) pss_nil)))))))))
    (pss_one (ps_ret pe_bl))), ?_⟩
    walk_at "st"
    refine ⟨by omega, by omega, ?_⟩
    refine r_forR (fun i σ G => ∃ x1 x2 x3 x4 x5 x6 x7 : Option V, σ = [some (.ref k), x1, x2, x3, x4, x5, x6, x7, none, none, none] ∧ Kx k H G ∧ Cask (100 * i) k G)
      ⟨_, _, _, _, _, _, _, rfl, Kx.refl _, hk⟩ (fun i σ G hi hP => ?_) (fun σ G hP => ?_)
    · obtain ⟨x1, x2, x3, x4, x5, x6, x7, rfl, y0, k0⟩ := hP
      have i2 : i < 2 := hi
      walk_at "go"
      rename_i l1 hl1
      refine i_cof _ [V.int 5, V.int 20, V.int 60] (k0.new hl1) (by omega) (k0.ne hl1) (SqL.of upd_same) (Nat.le_of_ble_eq_true rfl) (Nat.le_of_ble_eq_true rfl) fun j v H2 hv y2 k2 => ?_
      obtain ⟨u, rfl, u0, u1⟩ : ∃ u : Int, v = .int u ∧ 0 < u ∧ u ≤ 60 := by
        rcases j with _ | _ | _ | j
        · exact ⟨5, (Option.some.inj hv).symm, by decide, by decide⟩
        · exact ⟨20, (Option.some.inj hv).symm, by decide, by decide⟩
        · exact ⟨60, (Option.some.inj hv).symm, by decide, by decide⟩
        · exact absurd hv (by simp)
      have y02 : Kx k H H2 := y0.trans (Same.kx (Same.new hl1) y2)
      walk_at "go"
      refine ⟨k, u, _, rfl, k2, by omega, u0, by omega, fun f3 H3 f30 f31 y3 k3 => ?_⟩
      obtain ⟨n, hn⟩ : ∃ n : Nat, 1 + f3 = (n : Int) := ⟨(1 + f3).toNat, by omega⟩
      have n0 : 1 ≤ n := by omega
      have n1 : n ≤ 60 := by omega
      walk_at "go"
      rw [hn]
      refine ⟨k, 4, 30, _, rfl, k3, by omega, by omega, by omega, fun a p H4 y4 na k4 ea ca la ll _ => ?_⟩
      have hR : Right p := ⟨ca, by omega, by omega⟩
      walk_at "go"
      refine ⟨a, p, n, rfl, SqT.of ea, by omega, by omega, by omega, by omega, fun b H5 s5 nb eb => ?_⟩
      rw [tabOf_led (by omega)] at eb
      have hF : ∀ y, y < n → led p n y < n := fun y _ => led_lt p (by omega) y
      have y05 : Kx k H H5 := ((y02.trans y3).trans y4).same s5
      have k5 := k4.same s5
      have ea5 : SqT K H5 a (p.map V.int) := Same.tup s5 (SqT.of ea)
      have eb5 : SqT K H5 b ((Tb (led p n) n).map V.int) := SqT.of eb
      clear s5 y4 y3 y2 ea eb na nb
      walk_at "go"
      refine i_ctap _ k5 (by omega) (by omega) (by omega) fun f6 H6 f60 f61 y6 k6 => ?_
      walk_at "go"
      refine r_rI ⟨by omega, by omega, by decide⟩ ?_
      rw [T40]
      walk_at "go"
      refine i_ctap _ k6 (by omega) (by omega) (by omega) fun f7 H7 f70 f71 y7 k7 => ?_
      walk_at "go"
      refine i_ctap _ k7 (by omega) (by omega) (by omega) fun f8 H8 f80 f81 y8 k8 => ?_
      walk_at "go"
      rename_i l9 hl9
      have y58 : Kx k H5 H8 := (y6.trans y7).trans y8
      have nk9 := k8.ne hl9
      have s9 := Same.new hl9 (o := .lst [.int f6, .int (10000000000000000000000000000000000000000 - f7), .int (-f8)])
      have ea9 := Same.tup s9 ((k5.tt y58) K _ _ ea5)
      have eb9 := Same.tup s9 ((k5.tt y58) K _ _ eb5)
      have y09 := (y05.trans y58).same s9
      have k9 := k8.same s9
      have e9 : (upd H8 l9 (.lst [.int f6, .int (10000000000000000000000000000000000000000 - f7), .int (-f8)])) l9 = some (.lst [.int f6, .int (10000000000000000000000000000000000000000 - f7), .int (-f8)]) := upd_same
      generalize upd H8 l9 (.lst [.int f6, .int (10000000000000000000000000000000000000000 - f7), .int (-f8)]) = H9 at *
      clear y58 y6 y7 y8 ea5 eb5 s9
      refine r_forLs [.int f6, .int (10000000000000000000000000000000000000000 - f7), .int (-f8)] (fun j σ G' => ∃ z5 z6 : Option V, σ = [some (.ref k), some (.int (0 + (i : Int))), some (.int (n : Int)), some (.ref a), some (.ref b), z5, z6, x7, none, none, none] ∧ Kx k H9 G' ∧ Cask (100 * i + 40 + 5 * j) k G')
        ⟨_, _, rfl, Kx.refl _, k9.mono (by omega)⟩ (fun j σ G' hj hP => ?_) (fun j v σ G' hj hP => ?_) (fun σ G' hP => ?_)
      · obtain ⟨z5, z6, rfl, y10, _⟩ := hP
        exact SqL.of (y10 _ _ nk9 e9)
      · obtain ⟨z5, z6, rfl, y10, k10⟩ := hP
        have j3 : j < 3 := (List.getElem?_eq_some_iff.mp hj).1
        obtain ⟨x, rfl, xa, xb⟩ : ∃ x : Int, v = .int x ∧ -(10 ^ 40) ≤ x ∧ x ≤ 10 ^ 40 := by
          rcases j with _ | _ | _ | j
          · exact ⟨_, (Option.some.inj hj).symm, by omega, by omega⟩
          · exact ⟨_, (Option.some.inj hj).symm, by omega, by omega⟩
          · exact ⟨_, (Option.some.inj hj).symm, by omega, by omega⟩
          · omega
        walk_at "go"
        refine i_ctap _ k10 (by omega) (by omega) (by omega) fun f11 H11 f110 f111 y11 k11 => ?_
        walk_at "go"
        refine r_rI ⟨by omega, by omega, by decide⟩ ?_
        rw [T40]
        walk_at "go"
        refine i_ctap _ k11 (by omega) (by omega) (by omega) fun f12 H12 f120 f121 y12 k12 => ?_
        walk_at "go"
        rename_i l13 hl13
        refine i_cof _ [V.int 0, V.int 1, V.int f11, V.int (10000000000000000000000000000000000000000 - f12)] (k12.new hl13) (by omega) (k12.ne hl13) (SqL.of upd_same) (Nat.le_of_ble_eq_true rfl) (Nat.le_of_ble_eq_true rfl) fun j' v H14 hv y14 k14 => ?_
        obtain ⟨tm, rfl, tm1⟩ : ∃ tm : Nat, v = .int (tm : Int) ∧ tm ≤ 10 ^ 40 := by
          have mk : ∀ z : Int, 0 ≤ z → z ≤ 10 ^ 40 → V.int z = v → ∃ tm : Nat, v = .int (tm : Int) ∧ tm ≤ 10 ^ 40 := fun z z0 z1 e => ⟨z.toNat, by rw [← e, Int.toNat_of_nonneg z0], by omega⟩
          rcases j' with _ | _ | _ | _ | j'
          · exact mk 0 (by decide) (by omega) (Option.some.inj hv)
          · exact mk 1 (by decide) (by omega) (Option.some.inj hv)
          · exact mk f11 f110 (by omega) (Option.some.inj hv)
          · exact mk _ (by omega) (by omega) (Option.some.inj hv)
          · exact absurd hv (by simp)
        have y1014 : Kx k G' H14 := (y11.trans y12).trans (Same.kx (Same.new hl13) y14)
        have y914 := y10.trans y1014
        walk_at "gi"
        refine ⟨a, b, p, n, x, tm, rfl, k9.tt y914 K _ _ ea9, hR, k9.tt y914 K _ _ eb9, n0, n1, xa, xb, tm1, fun H15 s15 => ?_⟩
        walk_at "gi"
        exact ⟨y914.same s15, (k14.same s15).mono (by omega)⟩
      · obtain ⟨z5, z6, rfl, y10, k10⟩ := hP
        have ea10 := k9.tt y10 K _ _ ea9
        have eb10 := k9.tt y10 K _ _ eb9
        have y010 := y09.trans y10
        have k10' : Cask (100 * i + 60) k G' := k10.mono (by show 100 * i + 40 + 5 * 3 ≤ _; omega)
        clear ea9 eb9 y10 k10 y09
        walk_at "go"
        refine ⟨by omega, by omega, ?_⟩
        rw [Int.toNat_natCast]
        refine r_lcR (fun D j G2 => Same G' G2 ∧ G2 D = some (.lst (((List.range j).map fun y => (Vf.tl (led p n) y : Int)).map V.int))) (fun D hD => ⟨Same.new hD, upd_same⟩) (fun D j G2 hD hj hP => ?_) (fun D G2 hD hP => ?_)
        · obtain ⟨s11, d11⟩ := hP
          rw [Int.zero_add]
          walk_at "go"
          refine ⟨rfl, ?_⟩
          walk_at "go"
          refine ⟨b, led p n, n, j, rfl, Same.tup s11 eb10, hF, hj, by omega, fun z l t c H12 s12 ez el R => ?_⟩
          walk_at "go"
          refine r_ixT (SqT.of ez) (atI_nat (j := 1) rfl) ?_
          refine ⟨_, s12 _ _ d11, Nat.lt_of_le_of_lt (show _ ≤ 60 by rw [List.length_map, List.length_map, List.length_range]; omega) (by decide), fun x o e => ?_, ?_⟩
          · rw [upd_ne (ne_of_none e hD)]
            exact s12 _ _ (s11 _ _ e)
          · rw [List.range_succ, List.map_append, List.map_append, upd_same, ← Vf.tl_eq R]
            rfl
        obtain ⟨s11, d11⟩ := hP
        have ea11 := Same.tup s11 ea10
        have eb11 := Same.tup s11 eb10
        walk_at "gi"
        refine ⟨a, p, n, rfl, ea11, hR, n0, by omega, fun r3 ws3 bg3 RS S3 H3 s3 nr3 er3 R3 Fd hS3 => ?_⟩
        walk_at "gi"
        refine ⟨b, led p n, n, rfl, Same.tup s3 eb11, hF, n0, n1, fun r4 ws4 ks S4 H4 s4 nr4 er4 R4 hS4 kn km ke => ?_⟩
        have PM := lens_perm hF Fd ke kn km
        have hSS : S4 = S3 := SzOf.one (SzOf.perm PM hS4) hS3
        have rowE : S4.map (szRow (ks.map List.length)) = S3.map (szRow (RS.map fun p => p.2)) := by
          rw [hSS]
          exact List.map_congr_left fun c _ => szRow_perm PM c
        rw [rowE] at R4
        obtain ⟨sh1, sh2⟩ := two_sh (S3.map (szRow (RS.map fun p => p.2)))
        refine r_neSame (tupsD (S3.map (szRow (RS.map fun p => p.2)))) (Dp.tups (SqT.of (s4 _ _ er3)) (RowsAt.same R3 s4)) (Dp.tups (SqT.of er4) R4) sh1 sh2 ?_
        have s34 := s3.trans s4
        clear R3 R4 er3 er4
        walk_at "gi"
        refine ⟨a, p, n, rfl, Same.tup s34 ea11, hR, n0, by omega, fun r5 ws5 bg5 RS5 S5 H5 s5 nr5 er5 R5 Fd5 hS5 => ?_⟩
        walk_at "gi"
        have s35 := s34.trans s5
        refine ⟨b, led p n, n, rfl, Same.tup s35 eb11, hF, n0, n1, fun r6 ws6 ks6 S6 H6 s6 nr6 er6 R6 hS6 kn6 km6 ke6 => ?_⟩
        have PM6 := lens_perm hF Fd5 ke6 kn6 km6
        have hSS6 : S6 = S5 := SzOf.one (SzOf.perm PM6 hS6) hS5
        have rowE6 : S6.map (szRow (ks6.map List.length)) = S5.map (szRow (RS5.map fun p => p.2)) := by
          rw [hSS6]
          exact List.map_congr_left fun c _ => szRow_perm PM6 c
        rw [rowE6] at R6
        obtain ⟨sh5, sh6⟩ := two_sh (S5.map (szRow (RS5.map fun p => p.2)))
        refine r_neSame (tupsD (S5.map (szRow (RS5.map fun p => p.2)))) (Dp.tups (SqT.of (s6 _ _ er5)) (RowsAt.same R5 s6)) (Dp.tups (SqT.of er6) R6) sh5 sh6 ?_
        have s36 := s35.trans s6
        clear R5 R6 er5 er6
        walk_at "gi"
        refine ⟨a, p, n, rfl, Same.tup s36 ea11, hR, n0, by omega, fun m H7 s7 Tm => ?_⟩
        have s37 := s36.trans s7
        have len_n : (((List.range n).map fun y => (Vf.tl (led p n) y : Int))).length = n := by simp
        have mxE : ∀ mx : Int, mx ∈ ((List.range n).map fun y => (Vf.tl (led p n) y : Int)) → (∀ y ∈ ((List.range n).map fun y => (Vf.tl (led p n) y : Int)), y ≤ mx) → mx = (m : Int) := fun mx m1 m2 => by
          obtain ⟨y, hy, rfl⟩ := List.mem_map.mp m1
          obtain ⟨z, hz, ez⟩ := Tm.1
          have a1 := Tm.2 y (List.mem_range.mp hy)
          have a2 := m2 _ (List.mem_map.mpr ⟨z, List.mem_range.mpr hz, rfl⟩)
          omega
        walk_at "gi"
        refine .inl ⟨D, (List.range n).map fun y => (Vf.tl (led p n) y : Int), rfl, SqL.of (s37 _ _ d11), by rw [len_n]; omega, fun mx m1 m2 => ?_⟩
        obtain rfl := mxE mx m1 m2
        walk_at "go"
        refine ifnd (fun c => absurd rfl c) (fun _ => ?_)
        walk_at "gi"
        refine ⟨a, p, n, rfl, Same.tup s37 ea11, hR, n0, by omega, fun q' _ hq' => Nat.le_trans (Nat.le_of_dvd (by omega) hq') (by omega), fun bb H8 s8 hb => ?_⟩
        walk_at "gi"
        have s38 := s37.trans s8
        refine .inl ⟨D, (List.range n).map fun y => (Vf.tl (led p n) y : Int), rfl, SqL.of (s38 _ _ d11), by rw [len_n]; omega, fun mx m1 m2 => ?_⟩
        obtain rfl := mxE mx m1 m2
        have bE : bb = decide ((m : Int) = 0) := by
          rw [Bool.eq_iff_iff, hb, ← tab_led (by omega), Vf.turn_top hF Tm, decide_eq_true_eq]
          omega
        rw [bE]
        walk_at "gi"
        refine ⟨rfl, false, by rw [decide_eq_true rfl]; rfl, ?_⟩
        walk_at "gi"
        refine ⟨a, p, n, rfl, Same.tup s38 ea11, hR, n0, by omega, fun r9 ws9 bg9 RS9 S9 H9' s9 nr9 er9 R9 Fd9 hS9 => ?_⟩
        have s39 := s38.trans s9
        have lR9 := RowsAt.len R9
        rw [List.length_map] at lR9
        have lRS9 := ring_len hF Fd9
        have cs_sum : (RS9.map fun p => p.2).sum ≤ n := by
          rw [← Vf.ring_sum hF Fd9 (fun y => decide (Vf.tl (led p n) y = 0)) fun y hy => by rw [decide_eq_true_eq]; exact (Vf.tl_on hF hy).symm]
          have := List.countP_le_length (p := fun y => decide (Vf.tl (led p n) y = 0)) (l := List.range n)
          rwa [List.length_range] at this
        have S_len : S9.length ≤ n := by
          have := List.Nodup.length_le_of_subset (hS9.1.imp fun l => by omega : S9.Nodup) (l₂ := RS9.map fun p => p.2) fun c hc => (hS9.2 c).mp hc
          rw [List.length_map] at this
          omega
        walk_at "gi"
        refine r_lcTs ws9 (fun D2 j G3 => Same H9' G3 ∧ G3 D2 = some (.lst (((S9.take j).map fun c => ((c * (RS9.map fun p => p.2).count c : Nat) : Int)).map V.int))) (fun D2 hD2 => ⟨Same.new hD2, upd_same⟩) (fun D2 j G3 hD2 hj hP => Same.tup hP.1 (SqT.of er9)) (fun D2 j v G3 hD2 hj hP => ?_) (fun D2 G3 hD2 hP => ?_)
        · obtain ⟨s10, e10⟩ := hP
          obtain ⟨y, hy, t, rfl, st⟩ := pget R9 hj
          rw [List.getElem?_map, Option.map_eq_some_iff] at hy
          obtain ⟨c, hc, rfl⟩ := hy
          have st2 : SqT K G3 t [.int (c : Int), .int (((RS9.map fun p => p.2).count c : Nat) : Int)] := Same.tup s10 st
          have cm := (hS9.2 c).mp (List.mem_of_getElem? hc)
          have c1 : c ≤ n := Nat.le_trans (mem_le_sum cm) cs_sum
          have c2 : (RS9.map fun p => p.2).count c ≤ n := by
            refine Nat.le_trans List.count_le_length ?_
            rw [List.length_map]
            exact lRS9
          refine r_gtup st2 rfl ?_
          walk_at "gi"
          refine ⟨rfl, ?_⟩
          walk_at "gi"
          refine r_rI (bit_mul (a := 13) (b := 13) (bit_of (by omega)) (bit_of (by omega)) (by decide)) ?_
          refine ⟨_, e10, Nat.lt_of_le_of_lt (show _ ≤ 60 by rw [List.length_map, List.length_map, List.length_take]; omega) (by decide), fun x o e => ?_, ?_⟩
          · rw [upd_ne (ne_of_none e hD2)]
            exact s10 _ _ e
          · have tj : S9.take (j + 1) = S9.take j ++ [c] := by rw [List.take_add_one, hc]; rfl
            rw [upd_same, tj]
            simp only [List.map_append, List.map_cons, List.map_nil, Int.natCast_mul]
        obtain ⟨s10, e10⟩ := hP
        rw [List.take_of_length_le (by omega)] at e10
        have sumE : (S9.map fun c => ((c * (RS9.map fun p => p.2).count c : Nat) : Int)).sum = (((List.range n).map fun y => (Vf.tl (led p n) y : Int)).count 0 : Nat) := by
          rw [show (S9.map fun c => ((c * (RS9.map fun p => p.2).count c : Nat) : Int)) = (S9.map fun c => c * (RS9.map fun p => p.2).count c).map fun c : Nat => (c : Int) by rw [List.map_map]; rfl, cast_sum,
            Vf.sum_times S9 (hS9.1.imp fun l => by omega) _ (fun c hc => (hS9.2 c).mpr hc), count_zero, Vf.ring_sum hF Fd9 (fun y => decide (Vf.tl (led p n) y = 0)) fun y hy => by rw [decide_eq_true_eq]; exact (Vf.tl_on hF hy).symm]
        walk_at "gi"
        refine ⟨D2, _, rfl, SqL.of e10, ?_⟩
        walk_at "gi"
        refine ⟨.inl ⟨rfl, _, SqL.of (s10 _ _ (s39 _ _ d11))⟩, ?_⟩
        walk_at "gi"
        refine r_lcount ((List.range n).map fun y => (Vf.tl (led p n) y : Int)) (SqL.of (s10 _ _ (s39 _ _ d11))) ?_
        rw [sumE]
        walk_at "go"
        refine ifnd (fun c => absurd rfl c) (fun _ => ?_)
        walk_at "gi"
        have sF := s11.trans (s39.trans s10)
        exact ⟨_, _, _, _, _, _, _, rfl, y010.same sF, (k10'.same sF).mono (by omega)⟩
    · obtain ⟨x1, x2, x3, x4, x5, x6, x7, rfl, y0, k0⟩ := hP
      walk_at "go"
      exact q G y0
end
section
variable {P : Program} {w : World} {K : PySem.W.Frag} {mg : Str → Option Value} {base : Heap}
def sp_law (K : PySem.W.Frag) : Sp := fun vs H Q _ => ∃ (c : Addr) (ns : List Int), vs = [.ref c] ∧ SqL K H c (ns.map V.int) ∧ Script ns ∧ ∀ H', Q (.bl true) H'
theorem ok_law (T : Top K mg) : Ok P w K mg base 10 "law" s_law ["_law_script"] (sp_law K) := by
  have G__law_right := ok__law_right (P := P) (w := w) (base := base) T
  have G__law_cask := ok__law_cask (P := P) (w := w) (base := base) T
  refine T.d_law.ok sc_law (fun vs H Q E h => ?_) (fun f cdv A outer s H vs Q E hg hr h => ?_)
  · obtain ⟨c, ns, rfl, _⟩ := h
    rfl
  · obtain ⟨c, ns, rfl, hs, hn, q⟩ := h
    refine ⟨_, (pss_one (ps_ret (pe_callB (id := "all") (c_all rfl rfl) (by rfl) T.b_all (by decide +kernel) (pa_cons (pe_lc (own := [("_law_k", 1)]) (by rfl) sc_law.nd (pi_range1 (by rfl) T.b_range (pa_cons (pe_callB (id := "max") (c_max2 rfl) (by rfl) T.b_max (by decide +kernel) (pa_cons pe_int (pa_cons (pe_callB (id := "min") (c_min2 rfl) (by rfl) T.b_min (by decide +kernel) (pa_cons (pe_callB (id := "len") (c_len rfl) (by rfl) T.b_len (by decide +kernel) (pa_cons (pv 0) pa_nil)) (pa_cons pe_int pa_nil))) pa_nil))) pa_nil)) (blkOk_by (own := [("_law_k", 1)]) (N := ["_law_script", "_law_k"]) (sc := defScope s_law) (by decide +kernel)) (fun _ _ _ _ _ => (pg_name (i := 1) sc_law.nd rfl (by first | exact Or.inl rfl | exact Or.inr rfl))) (fun _ _ _ _ _ => pts_nil) (fun _ _ _ _ _ => (pe_g G__law_right (fun _ _ F => bd__law_right F) hg (hr.mono (by decide)) passL (by rfl) (pa_cons (pe_g G__law_cask (fun _ _ F => bd__law_cask F) hg (hr.mono (by decide)) passL (by rfl) (pa_cons (pv 0) (pa_cons (pv 1) pa_nil))) pa_nil)))) pa_nil)))), ?_⟩
    walk_at "st"
    have E62 := e62
    rw [List.length_map]
    refine ⟨by omega, by omega, ?_⟩
    have hm : (max 2 (min (ns.length : Int) 3)).toNat ≤ 3 := by omega
    generalize (max 2 (min (ns.length : Int) 3)).toNat = m at *
    refine r_lcR (fun D i H' => Same H H' ∧ H' D = some (.lst ((List.replicate i true).map V.bl))) (fun D hD => ⟨Same.new hD, upd_same⟩) (fun D i H' hD hi hP => ?_) (fun D H' hD hP => ?_)
    · obtain ⟨s1, d1⟩ := hP
      walk_at "go"
      refine ⟨rfl, ?_⟩
      walk_at "go"
      rw [Int.zero_add]
      refine i_cask ns i (Same.list s1 hs) hn (by omega) fun p H2 s2 n2 k2 => ?_
      have npD : D ≠ p := ne_of_none d1 n2
      walk_at "go"
      refine ⟨p, rfl, k2, fun H3 x3 => ?_⟩
      have d3 : H3 D = some (.lst ((List.replicate i true).map V.bl)) := x3 _ _ npD (s2 _ _ d1)
      refine ⟨_, d3, ?_, fun b o e => ?_, ?_⟩
      · rw [List.length_map, List.length_replicate]
        exact Nat.lt_of_le_of_lt (show i ≤ 3 by omega) (by decide)
      · have nb : b ≠ D := ne_of_none e hD
        have e1 := s1 _ _ e
        rw [upd_ne nb]
        exact x3 _ _ (ne_of_none e1 n2) (s2 _ _ e1)
      · rw [upd_same, List.replicate_succ', List.map_append]
        rfl
    obtain ⟨s1, d1⟩ := hP
    refine r_all (SqL.of d1) ?_
    rw [show (List.replicate m true).all id = true by simp]
    exact q _
end
end K37
open PySem PySem.W PyProof.Rows
set_option maxHeartbeats 0 in
theorem PySem.Challenge.cw_restworld_k37_whole_rings_of_sums_holds : PySem.Challenge.rw_restworld_k37_whole_rings_of_sums.Holds := by
  w_on; o_law; k_head; (case hw => w_witness2)
  k_fill
  refine Vf.walk_g (l := PySem.Challenge.rw_restworld_k37_whole_rings_of_sums) (n := 63) (k := 10) (y := "_law_script") (st := K37.s_law) (sp := K37.sp_law) rfl (by decide) rfl ⟨rfl, by decide, by decide⟩ (fun w h Y => PySem.W.kIn_of Y) ?F (fun w f fd G => K37.bd_law G) (fun w H a ns hl hb hS => ⟨a, ns, rfl, hS, ⟨hl, hb⟩, fun _ => rfl⟩)
  case F =>
    intro w mg h KX G base kb gb
    refine' K37.ok_law (K37.top_mk KX G ?a0 ?l0 ?c0 ?k0 ?a1 ?l1 ?c1 ?k1 ?a2 ?l2 ?c2 ?k2 ?a3 ?l3 ?c3 ?k3 ?a4 ?l4 ?c4 ?k4 ?a5 ?l5 ?c5 ?k5 ?a6 ?l6 ?c6 ?k6 ?a7 ?l7 ?c7 ?k7 ?a8 ?l8 ?c8 ?k8 ?a9 ?l9 ?c9 ?k9 ?a10 ?l10 ?c10 ?k10 ?a11 ?l11 ?c11 ?k11 ?a12 ?l12 ?c12 ?k12 ?a13 ?l13 ?c13 ?k13 ?a14 ?l14 ?c14 ?k14 ?a15 ?l15 ?c15 ?k15 ?a16 ?l16 ?c16 ?k16 ?a17 ?l17 ?c17 ?k17 ?a18 ?l18 ?c18 ?k18 ?a19 ?l19 ?c19 ?k19 ?a20 ?l20 ?c20 ?k20 ?a21 ?l21 ?c21 ?k21 ?a22 ?l22 ?c22 ?k22 ?a23 ?l23 ?c23 ?k23 ?a24 ?l24 ?c24 ?k24 ?a25 ?l25 ?c25 ?k25 ?a26 ?l26 ?c26 ?k26 ?a27 ?l27 ?c27 ?k27 ?a28 ?l28 ?c28 ?k28 ?a29 ?l29 ?c29 ?k29 ?a30 ?l30 ?c30 ?k30 ?a31 ?l31 ?c31 ?k31 ?a32 ?l32 ?c32 ?k32 ?a33 ?l33 ?c33 ?k33 ?a34 ?l34 ?c34 ?k34 ?a35 ?l35 ?c35 ?k35 ?a36 ?l36 ?c36 ?k36 ?a37 ?l37 ?c37 ?k37 ?a38 ?l38 ?c38 ?k38 ?q_MOST_NUMBER ?q_MOST_BASE ?q_MOST_DEGREE ?q_MOST_PRIME ?q_MOST_WALKED ?q_MOST_COEFFICIENT ?b_abs ?b_all ?b_bool ?b_dict ?b_divmod ?b_enumerate ?b_int ?b_isinstance ?b_len ?b_list ?b_max ?b_min ?b_range ?b_reversed ?b_set ?b_sorted ?b_sum ?b_tuple)
    (case a0 => k_is)
    (case l0 => k_is)
    (case c0 => k_is)
    (case k0 => k_is)
    (case a1 => k_is)
    (case l1 => k_is)
    (case c1 => k_is)
    (case k1 => k_is)
    (case a2 => k_is)
    (case l2 => k_is)
    (case c2 => k_is)
    (case k2 => k_is)
    (case a3 => k_is)
    (case l3 => k_is)
    (case c3 => k_is)
    (case k3 => k_is)
    (case a4 => k_is)
    (case l4 => k_is)
    (case c4 => k_is)
    (case k4 => k_is)
    (case a5 => k_is)
    (case l5 => k_is)
    (case c5 => k_is)
    (case k5 => k_is)
    (case a6 => k_is)
    (case l6 => k_is)
    (case c6 => k_is)
    (case k6 => k_is)
    (case a7 => k_is)
    (case l7 => k_is)
    (case c7 => k_is)
    (case k7 => k_is)
    (case a8 => k_is)
    (case l8 => k_is)
    (case c8 => k_is)
    (case k8 => k_is)
    (case a9 => k_is)
    (case l9 => k_is)
    (case c9 => k_is)
    (case k9 => k_is)
    (case a10 => k_is)
    (case l10 => k_is)
    (case c10 => k_is)
    (case k10 => k_is)
    (case a11 => k_is)
    (case l11 => k_is)
    (case c11 => k_is)
    (case k11 => k_is)
    (case a12 => k_is)
    (case l12 => k_is)
    (case c12 => k_is)
    (case k12 => k_is)
    (case a13 => k_is)
    (case l13 => k_is)
    (case c13 => k_is)
    (case k13 => k_is)
    (case a14 => k_is)
    (case l14 => k_is)
    (case c14 => k_is)
    (case k14 => k_is)
    (case a15 => k_is)
    (case l15 => k_is)
    (case c15 => k_is)
    (case k15 => k_is)
    (case a16 => k_is)
    (case l16 => k_is)
    (case c16 => k_is)
    (case k16 => k_is)
    (case a17 => k_is)
    (case l17 => k_is)
    (case c17 => k_is)
    (case k17 => k_is)
    (case a18 => k_is)
    (case l18 => k_is)
    (case c18 => k_is)
    (case k18 => k_is)
    (case a19 => k_is)
    (case l19 => k_is)
    (case c19 => k_is)
    (case k19 => k_is)
    (case a20 => k_is)
    (case l20 => k_is)
    (case c20 => k_is)
    (case k20 => k_is)
    (case a21 => k_is)
    (case l21 => k_is)
    (case c21 => k_is)
    (case k21 => k_is)
    (case a22 => k_is)
    (case l22 => k_is)
    (case c22 => k_is)
    (case k22 => k_is)
    (case a23 => k_is)
    (case l23 => k_is)
    (case c23 => k_is)
    (case k23 => k_is)
    (case a24 => k_is)
    (case l24 => k_is)
    (case c24 => k_is)
    (case k24 => k_is)
    (case a25 => k_is)
    (case l25 => k_is)
    (case c25 => k_is)
    (case k25 => k_is)
    (case a26 => k_is)
    (case l26 => k_is)
    (case c26 => k_is)
    (case k26 => k_is)
    (case a27 => k_is)
    (case l27 => k_is)
    (case c27 => k_is)
    (case k27 => k_is)
    (case a28 => k_is)
    (case l28 => k_is)
    (case c28 => k_is)
    (case k28 => k_is)
    (case a29 => k_is)
    (case l29 => k_is)
    (case c29 => k_is)
    (case k29 => k_is)
    (case a30 => k_is)
    (case l30 => k_is)
    (case c30 => k_is)
    (case k30 => k_is)
    (case a31 => k_is)
    (case l31 => k_is)
    (case c31 => k_is)
    (case k31 => k_is)
    (case a32 => k_is)
    (case l32 => k_is)
    (case c32 => k_is)
    (case k32 => k_is)
    (case a33 => k_is)
    (case l33 => k_is)
    (case c33 => k_is)
    (case k33 => k_is)
    (case a34 => k_is)
    (case l34 => k_is)
    (case c34 => k_is)
    (case k34 => k_is)
    (case a35 => k_is)
    (case l35 => k_is)
    (case c35 => k_is)
    (case k35 => k_is)
    (case a36 => k_is)
    (case l36 => k_is)
    (case c36 => k_is)
    (case k36 => k_is)
    (case a37 => k_is)
    (case l37 => k_is)
    (case c37 => k_is)
    (case k37 => k_is)
    (case a38 => k_is)
    (case l38 => k_is)
    (case c38 => k_is)
    (case k38 => k_is)
    (case q_MOST_NUMBER => k_is)
    (case q_MOST_BASE => k_is)
    (case q_MOST_DEGREE => k_is)
    (case q_MOST_PRIME => k_is)
    (case q_MOST_WALKED => k_is)
    (case q_MOST_COEFFICIENT => k_is)
    (case b_abs => k_is)
    (case b_all => k_is)
    (case b_bool => k_is)
    (case b_dict => k_is)
    (case b_divmod => k_is)
    (case b_enumerate => k_is)
    (case b_int => k_is)
    (case b_isinstance => k_is)
    (case b_len => k_is)
    (case b_list => k_is)
    (case b_max => k_is)
    (case b_min => k_is)
    (case b_range => k_is)
    (case b_reversed => k_is)
    (case b_set => k_is)
    (case b_sorted => k_is)
    (case b_sum => k_is)
    (case b_tuple => k_is)

