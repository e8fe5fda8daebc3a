import PyProof.Rows.All
import Wide.All
import OpenK.AllK
import Wide.FinOn
import HandS.ForMost
import HandS.WideBits
import HandS.WideMore
import HandS.Gcd
import HandS.IsInst
import HandS.EndBits
import HandS.WordsExc
import HandS.Style
import PyProof.ReprRoads
import HandS.Zip
import HandS.Zip0
import PyProof.EnumMake
import PyProof.Draws
import PyProof.AutoIntOps
import HandS.Conv
import KE.GoesZip
import KE.GoesMore
import HandS.Rev
import HandS.TupAny
import HandS.DictComp
import HandS.WordsDict
import HandS.ExcInit
import HandS.ExcField
import HandS.TryMany
import KE.KExcInit
import KE.KIntText
import HandS.Lambda
import HandS.EndTab
import KE.KNest
import PyProof.AttrMiss
import HandS.SortRule
import HandS.SortInts
import PyProof.P3Eq
import HandS.ExcOwn
import HandS.SortKw
import PyProof.WalkInts
import HandS.TupMul
import HandS.Strs
import HandS.Dict
import HandS.DictTup
import HandS.More
import KE.SortData
import HandS.Deep
import HandS.Sort
import PyProof.TupleOfGen
import KE.KStateDown
import KE.KMathGC
import HandS.ExcIs
import KE.KTryMore
import HandS.HotCalls
import HandS.SetFor
import KE.KMathG
import HandS.Iter
import HandS.TupLen
import PySem.Challenge.RW_restworld_k62_whole_entries_and_common_v
set_option Elab.async false
set_option linter.all false
set_option maxRecDepth 100000
set_option maxHeartbeats 2000000
set_option exponentiation.threshold 256
namespace Vf
open PySem PySem.Spec PyProof.Rows L2

/-! ## a def of the text, known by its name, with its promise; entered only where no repr is under way -/
structure Ok (P : Program) (w : World) (K : PySem.W.Frag) (mg : Str → Option Value) (base : Heap) (k : Nat) (x : Str) (st : Stmt) (ps : List Str) (sp : Sp) : Prop where
  mk ::
  ex : ∃ f fd, L2.Fun K x x st f fd ∧ mg x = some (.ref f) ∧
    (∀ (A : Around) (outer : List Env) (s : Shared) (H : Hp) (args : Args) (us : List Value) (vs : List V) (Q : VK) (E : XK),
      A.guards = some [] → Room k A → Env0 P w K mg base A outer s H → BindsTo s fd args (ps.zip us) → Vals vs us → sp vs H Q E →
        codeAny (model P w) A (.call (.ref f) args) (CR (CX P w) outer P w H s Q E) s)
  len : ∀ vs H Q E, sp vs H Q E → vs.length = ps.length

/-- where a def of the text stands -/
def At (K : PySem.W.Frag) (mg : Str → Option Value) (x : Str) (st : Stmt) : Prop :=
  ∃ f fd, L2.Fun K x x st f fd ∧ mg x = some (.ref f)

section
variable {P : Program} {w : World} {K : PySem.W.Frag} {mg : Str → Option Value} {base : Heap} {k j : Nat} {x : Str} {st : Stmt} {ps N : List Str} {sp sp' : Sp}
theorem Ok.mono (G : Ok P w K mg base j x st ps sp) (h : j ≤ k) : Ok P w K mg base k x st ps sp := by
  obtain ⟨⟨f, fd, F, g, r⟩, l⟩ := G
  exact ⟨⟨f, fd, F, g, fun A outer s H args us vs Q E hg hr => r A outer s H args us vs Q E hg (hr.mono h)⟩, l⟩
theorem Ok.imp (G : Ok P w K mg base k x st ps sp) (h : ∀ vs H Q E, sp' vs H Q E → sp vs H Q E) : Ok P w K mg base k x st ps sp' := by
  obtain ⟨⟨f, fd, F, g, r⟩, l⟩ := G
  exact ⟨⟨f, fd, F, g, fun A outer s H args us vs Q E hg hr he hb hv hs => r A outer s H args us vs Q E hg hr he hb hv (h _ _ _ _ hs)⟩, fun vs H Q E q => l vs H Q E (h _ _ _ _ q)⟩

/-- the rule for a def: the term of its body, then its reading -/
theorem At.ok (a : At K mg x st) (S : FnScope N ps (defScope st)) (len : ∀ vs H Q E, sp vs H Q E → vs.length = ps.length)
    (hbody : ∀ (f : Addr) (cdv : Value) (A : Around) (outer : List Env) (s : Shared) (H : Hp) (vs : List V) (Q : VK) (E : XK),
      (A.deeper (envOfC x (defScope st) s.heap.objs.size f cdv)).guards = some [] →
      Room k (A.deeper (envOfC x (defScope st) s.heap.objs.size f cdv)) → sp vs H Q E →
      ∃ t, PSs (cxOf (CX P w) P w K mg base N x (defScope st) f cdv A outer s H E) (defBody st) t ∧
        t { nx := fun _ H' => Q .non H', rt := Q } (L2.start N vs) H) : Ok P w K mg base (k + 1) x st ps sp := by
  obtain ⟨f, fd, F, g⟩ := a
  have F2 := F
  obtain ⟨⟨oc, od, kV, doc, pm, an, cdv, ct, osl, rfl, lk, hcd⟩, kp⟩ := F
  refine ⟨⟨f, _, F2, g, fun A outer s H args us vs Q E hg hr e0 hb r hsp => ?_⟩, len⟩
  have hl := len _ _ _ _ hsp
  have stay : ∀ b o, base.get? b = some o → s.heap.get? b = some o := fun b o e => (e0.bs b o e).1
  have KX : K.In s.heap := e0.mod.kin.keeps stay
  have lim : s.heap.NoLimit := e0.mod.nolimit.keeps stay
  refine codeAny_call_function hr.depth (KX _ _ lk) rfl S.co S.gen rfl
    (PySem.W.codeRec_of KX hcd) (hb _ _ _ _ ?_)
  refine wpAny_newFunctionEnv_cells S.kind (fun ⟨n, v⟩ hy => ?_) fun env he s1 x1 => ?_
  · rcases S.par n (List.of_mem_zip hy).1 with q | q
    · exact Or.inl q
    · exact Or.inr ⟨q, PySem.W.cellsFrom_some _ _ _ (Or.inl q)⟩
  subst he
  refine ⟨lim.keeps x1.toInCall.keep, codeAny_func ?_⟩
  obtain ⟨t, ht, hq⟩ := hbody f cdv A outer s H vs Q E hg (hr.deeper _) hsp
  have I := inv_start (CX := CX P w) (E := E) S hr.hd e0 hl r x1
  refine wpAny_mono (ht.run [] s1 _ H _ I hq) (fun fl s' hs => ?_) fun e s' hs => hs
  cases fl with
  | ret u =>
    obtain ⟨v, σ', H', J, rv, q⟩ := hs
    exact ⟨v, H', J.os, J.bare, J.base, J.hok, rv, q⟩
  | next =>
    obtain ⟨σ', H', J, q⟩ := hs
    exact ⟨V.non, H', J.os, J.bare, J.base, J.hok, rfl, q⟩
  | brk =>
    obtain ⟨_, _, _, z⟩ := hs
    exact (show False from z).elim
  | cont =>
    obtain ⟨_, _, _, z⟩ := hs
    exact (show False from z).elim
end

section
variable {X : Cx} {k : Nat} {ps ks : List Str} {sp : Sp} {E : XK} {x : Str} {st : Stmt} {p pos : Pos} {e : Expr} {es : List Expr} {kws : List Keyword} {t tk : TA}
/-- the callee runs -/
theorem run_g {pins : List (Addr × Obj)} {σ : L2.St} {H : Hp} {s : Shared} {Q : VK} {us : List Value} {vs : List V} {f : Addr} {fd : FuncData} {args : Args}
    (r : ∀ (A : Around) (outer : List Env) (s : Shared) (H : Hp) (args : Args) (us : List Value) (vs : List V) (Q : VK) (E : XK),
      A.guards = some [] → Room k A → Env0 X.prog X.w X.K X.mg X.base A outer s H → BindsTo s fd args (ps.zip us) → Vals vs us → sp vs H Q E →
        codeAny (model X.prog X.w) A (.call (.ref f) args) (CR (CX X.prog X.w) outer X.prog X.w H s Q E) s)
    (hg : X.A.guards = some []) (hr : Room k X.A) (hx : Passes (CX X.prog X.w) X E)
    (I : Inv X pins σ H s) (hb : BindsTo s fd args (ps.zip us)) (hv : Vals vs us) (h : sp vs H Q E) :
    codeAny (model X.prog X.w) X.A (.call (.ref f) args)
      (fun r s' => match r with | .ok (.ret u) => EP X pins σ Q u s' | .ok _ => False | .error e => X.xe e s') s := by
  refine codeAny_mono (r X.A X.stack s H args us vs Q E hg hr I.env0 hb hv h) fun r s' hq => ?_
  cases r with
  | error e => exact hx pins σ H s e s' I hq
  | ok fl =>
    cases fl with
    | ret u => exact I.after hq
    | next => exact hq
    | brk => exact hq
    | cont => exact hq

/-- f(e, ..), every parameter given by its place -/
theorem pe_g (G : Ok X.prog X.w X.K X.mg X.base k x st ps sp) (b : ∀ f fd, L2.Fun X.K x x st f fd → L2.Binds X.K fd ps [])
    (hg : X.A.guards = some []) (hr : Room k X.A) (hx : Passes (CX X.prog X.w) X E) (gl : Gl X x) (ha : PA X (e :: es) t)
    (hdb : (x == ("__debug__" : Str)) = false := by decide)
    (he : starEach (e :: es) X.env = (false, eval e X.env) :: starEach es X.env := by rfl)
    (hpl : (backTo pos (starEach es X.env)).any (·.1) = false := by rfl) :
    PE X (.Call (.Name x p) (e :: es) [] pos) (tCall sp [] E t) := by
  obtain ⟨⟨f, fd, F, hm, r⟩, l⟩ := G
  refine ⟨fun pins s σ H Q I h => ?_⟩
  refine wpAny_Call_Name_kw (ld_glob I gl hm ?_ hdb)
  refine PySem.W.callWith_K (h₀ := X.base) I.ok.mod.kin F.kp
    (thn (ha.run pos pins s σ H _ I h) fun us s1 ⟨vs, H1, I1, r1, q⟩ => ⟨I1.kIn, ?_⟩) he hpl
  have q1 : sp (vs ++ []) H1 Q E := q
  rw [List.append_nil] at q1
  have hl : us.length = ps.length := by rw [← r1.length]; exact l _ _ _ _ q1
  have bb := b f fd F s1 us I1.kIn (by rw [List.append_nil]; exact hl)
  rw [List.append_nil] at bb
  refine wpAny_call (codeAny_mono (run_g r hg hr hx I1 bb r1 q1) fun z s' hz => ?_)
  cases z with
  | error e => exact hz
  | ok fl => cases fl <;> exact hz
/-- f(.., k = v) -/
theorem pe_gk {gf : List Value → List Value → List Value} {gV : List V → List V → List V} (G : Ok X.prog X.w X.K X.mg X.base k x st ps sp)
    (b : ∀ f fd, L2.Fun X.K x x st f fd → KBinds X.K fd ps ks gf gV)
    (hg : X.A.guards = some []) (hr : Room k X.A) (hx : Passes (CX X.prog X.w) X E) (gl : Gl X x) (ha : PA X (e :: es) t) (hkw : PK X kws tk)
    (hall : (backToKw pos (keywordEach kws X.env)).all (·.1.isSome) = true := by rfl)
    (hks : (backToKw pos (keywordEach kws X.env)).filterMap (·.1) = ks := by rfl) (hdb : (x == ("__debug__" : Str)) = false := by decide)
    (he : starEach (e :: es) X.env = (false, eval e X.env) :: starEach es X.env := by rfl)
    (hpl : ((backTo pos (starEach (e :: es) X.env)).any (·.1) || (backToKw pos (keywordEach kws X.env)).any (·.1.isNone)) = false := by rfl) :
    PE X (.Call (.Name x p) (e :: es) kws pos) (tCallK sp gV E t tk) := by
  obtain ⟨⟨f, fd, F, hm, r⟩, l⟩ := G
  refine ⟨fun pins s σ H Q I h => ?_⟩
  refine wpAny_Call_Name_kw (ld_glob I gl hm ?_ hdb)
  refine PySem.W.callWith_KW (h₀ := X.base) I.ok.mod.kin F.kp hall
    (thn (ha.run pos pins s σ H _ I h) fun us s1 ⟨vs, H1, I1, r1, q⟩ => ?_) hpl he
  refine thn (hkw.run pos pins s1 σ H1 _ I1 q) fun ws s2 ⟨zs, H2, I2, rz, q2⟩ => ⟨I2.kIn, ?_⟩
  rw [hks]
  have B := b f fd F
  have r2 := B.rel r1 rz
  have hl : (gf us ws).length = ps.length := by rw [← r2.length]; exact l _ _ _ _ q2
  refine wpAny_call (codeAny_mono (run_g r hg hr hx I2 (B.to s2 us ws I2.kIn hl) r2 q2) fun z s' hz => ?_)
  cases z with
  | error e => exact hz
  | ok fl => cases fl <;> exact hz
/-- f(k = v, ..): keywords alone -/
theorem pe_gk0 {gf : List Value → List Value → List Value} {gV : List V → List V → List V} (G : Ok X.prog X.w X.K X.mg X.base k x st ps sp)
    (b : ∀ f fd, L2.Fun X.K x x st f fd → KBinds X.K fd ps ks gf gV)
    (hg : X.A.guards = some []) (hr : Room k X.A) (hx : Passes (CX X.prog X.w) X E) (gl : Gl X x) (hkw : PK X kws tk)
    (hall : (backToKw pos (keywordEach kws X.env)).all (·.1.isSome) = true := by rfl)
    (hks : (backToKw pos (keywordEach kws X.env)).filterMap (·.1) = ks := by rfl) (hdb : (x == ("__debug__" : Str)) = false := by decide)
    (hpl : ((backTo pos (starEach [] X.env)).any (·.1) || (backToKw pos (keywordEach kws X.env)).any (·.1.isNone)) = false := by rfl) :
    PE X (.Call (.Name x p) [] kws pos) (tCallK sp gV E tNil tk) := by
  obtain ⟨⟨f, fd, F, hm, r⟩, l⟩ := G
  refine ⟨fun pins s σ H Q I h => ?_⟩
  refine wpAny_Call_Name_kw (ld_glob I gl hm ?_ hdb)
  refine PySem.W.callWith_KW0 (h₀ := X.base) I.ok.mod.kin F.kp hall
    (thn (hkw.run pos pins s σ H _ I h) fun ws s2 ⟨zs, H2, I2, rz, q2⟩ => ⟨I2.kIn, ?_⟩) hpl
  rw [hks]
  have B := b f fd F
  have r2 := B.rel .nil rz
  have hl : (gf [] ws).length = ps.length := by rw [← r2.length]; exact l _ _ _ _ q2
  refine wpAny_call (codeAny_mono (run_g r hg hr hx I2 (B.to s2 [] ws I2.kIn hl) r2 q2) fun z s' hz => ?_)
  cases z with
  | error e => exact hz
  | ok fl => cases fl <;> exact hz
/-- f() -/
theorem pe_g0 (G : Ok X.prog X.w X.K X.mg X.base k x st ps sp) (b : ∀ f fd, L2.Fun X.K x x st f fd → L2.Binds X.K fd ps [])
    (hg : X.A.guards = some []) (hr : Room k X.A) (hx : Passes (CX X.prog X.w) X E) (gl : Gl X x)
    (hdb : (x == ("__debug__" : Str)) = false := by decide) : PE X (.Call (.Name x p) [] [] pos) (tCall sp [] E tNil) := by
  obtain ⟨⟨f, fd, F, hm, r⟩, l⟩ := G
  refine ⟨fun pins s σ H Q I h => ?_⟩
  refine wpAny_Call_Name_kw (ld_glob I gl hm ?_ hdb)
  have q1 : sp [] H Q E := h
  have bb := b f fd F s [] I.kIn (by rw [List.append_nil]; have := l _ _ _ _ q1; exact this)
  rw [List.append_nil] at bb
  refine PySem.W.callWith_K0 I.kIn F.kp (wpAny_call (codeAny_mono (run_g r hg hr hx I bb .nil q1) fun z s' hz => ?_))
  cases z with
  | error e => exact hz
  | ok fl => cases fl <;> exact hz
end
end Vf

namespace Vf
open PySem PySem.Spec PyProof.Rows L2
/-! ## more rules -/
theorem Dp.noDict {K : PySem.W.Frag} {H : Hp} : ∀ (d : PyData) (v : V), Dp K H v d → d.hasDict = false
  | .none, _, _ => rfl
  | .bool _, _, _ => rfl
  | .int _, _, _ => rfl
  | .str _, _, _ => rfl
  | .list ds, _, h => by
    cases h with
    | lst _ ha => exact DpAllN ds _ ha
  | .tuple ds, _, h => by
    cases h with
    | tup _ ha => exact DpAllN ds _ ha
  | .dict _, _, h => by cases h
where
  DpAllN {K : PySem.W.Frag} {H : Hp} : ∀ (ds : List PyData) (vs : List V), DpAll K H vs ds → PyData.hasDictAll ds = false
  | [], _, _ => rfl
  | d :: ds, _, h => by
    cases h with
    | cons h1 h2 =>
      have e1 := Dp.noDict d _ h1
      have e2 := DpAllN ds _ h2
      simp only [PyData.hasDictAll, e1, e2, Bool.or_self]
section
variable {X : Cx}
/-- repr of a list or a tuple of data -/
def rRepr (K : PySem.W.Frag) : List V → Hp → VK → Prop := fun xs H Q => ∃ (a : Addr) (d : PyData), xs = [.ref a] ∧ Dp K H (.ref a) d ∧ d.showable = true ∧
  d.depth ≤ 40 ∧ d.shown.length ≤ sizeLine ∧ Q (.str d.shown) H
theorem cr_repr (hg : X.A.guards = some []) (hu : X.A.units + 64 < cLine) : CallR X (.builtin "repr") (rRepr X.K) := by
  intro pins s σ H xs us Q I r h
  obtain ⟨a, d, rfl, hd, hs, hdp, hz, q⟩ := h
  have e := Vals.ref1 r
  subst e
  obtain ⟨as, rd⟩ := Dp.reads I d _ (.ref a) hd rfl
  refine repr_of_reads' rd hs (fun z => ?_) hg (by omega) (fun _ _ z => z) (fun h' u tk k => ⟨.str d.shown, H, I.kept k, ⟨_, rfl⟩, q⟩) hz
  rw [Dp.noDict d _ hd] at z
  cases z
/-- math.lcm of two ints -/
def rLcm : List V → Hp → VK → Prop := fun vs H Q => ∃ a b : Int, vs = [.int a, .int b] ∧ a.natAbs < 2 ^ 9000 ∧ b.natAbs < 2 ^ 9000 ∧ Q (.int ((Nat.lcm a.natAbs b.natAbs : Nat) : Int)) H
theorem log_lim {n k : Nat} (h : n < 2 ^ k) (hk : 0 < k) : n.log2 < k := PySem.Flt.log2_lt_of hk h
theorem cr_lcm : CallR X (.builtin "math.lcm") rLcm := by
  intro pins s σ H vs us Q I r h
  obtain ⟨a, b, rfl, ha, hb, q⟩ := h
  obtain ⟨t, u, rfl⟩ := Vals.int2 r
  have h1 : (max 1 a.natAbs).log2 < 9000 := log_lim (Nat.max_lt.mpr ⟨Nat.one_lt_two_pow (by decide), ha⟩) (by decide)
  have h2 : (max a.natAbs b.natAbs).log2 < 9000 := log_lim (Nat.max_lt.mpr ⟨ha, hb⟩) (by decide)
  have e1 : Nat.lcm 1 a.natAbs = a.natAbs := Nat.lcm_one_left _
  have hz : (((Nat.lcm 1 a.natAbs).lcm b.natAbs : Nat) : Int).natAbs.log2 < bitsLine := by
    rw [e1, Int.natAbs_natCast]
    have hl : Nat.lcm a.natAbs b.natAbs ≤ a.natAbs * b.natAbs := by
      rcases Nat.eq_zero_or_pos (a.natAbs * b.natAbs) with z | z
      · have : Nat.lcm a.natAbs b.natAbs = 0 := by unfold Nat.lcm; rw [z]; exact Nat.zero_div _
        omega
      · exact Nat.le_of_dvd z (Nat.lcm_dvd (Nat.dvd_mul_right _ _) (Nat.dvd_mul_left _ _))
    have hm : a.natAbs * b.natAbs < 2 ^ 18000 := by
      have := Nat.mul_lt_mul'' ha hb
      rw [← Nat.pow_add] at this
      exact this
    have : Nat.log2 (Nat.lcm a.natAbs b.natAbs) < 18000 := log_lim (Nat.lt_of_le_of_lt hl hm) (by decide)
    have e : bitsLine = 134217728 := by decide
    omega
  have g := PySem.W.mg_run_lcm a t b u (by omega) (by omega) hz
  rw [e1] at g
  exact call_function_meets PySem.W.MGF.kind_lcm PySem.W.MGF.plain_lcm PySem.W.MGF.entry_lcm (PySem.W.MGF.args_lcm _ _) g.meets ⟨.int _, H, I.tok _, ⟨_, rfl⟩, q⟩

/-- // by any divisor of fewer than 9000 bits -/
def CDivG (_ j : Int) : Prop := j ≠ 0 ∧ j.natAbs < 2 ^ 9000
theorem op_fdivG : OpR X (binaryOp .FloorDiv) (rI CDivG fun i j => .int (i.fdiv j)) :=
  opI fun i j _ _ _ _ _ hc q => floordiv_int hc.1 q (.inl (PyProof.noPylong_of_log2 (log_lim hc.2 (by decide))))
/-- == and != of two ints -/
theorem op_eqZ : OpR X (compareOp .Eq) (rI0 fun i j => .bl (decide (i = j))) := by
  intro pins s σ H x y u v Q I rx ry h
  obtain ⟨i, j, rfl, rfl, q⟩ := h
  refine op_eq pins s σ H _ _ u v Q I rx ry ⟨rfl, ?_⟩
  have e : decide (V.int i = V.int j) = decide (i = j) := by
    by_cases z : i = j
    · subst z; simp
    · simp [z]
  rw [e]
  exact q
theorem op_neZ : OpR X (compareOp .NotEq) (rI0 fun i j => .bl (!decide (i = j))) := by
  intro pins s σ H x y u v Q I rx ry h
  obtain ⟨i, j, rfl, rfl, q⟩ := h
  refine op_ne pins s σ H _ _ u v Q I rx ry ⟨rfl, ?_⟩
  have e : decide (V.int i = V.int j) = decide (i = j) := by
    by_cases z : i = j
    · subst z; simp
    · simp [z]
  rw [e]
  exact q
/-- == and != of two texts -/
theorem op_eqS : OpR X (compareOp .Eq) (fun x y H Q => ∃ i j, x = .str i ∧ y = .str j ∧ Q (.bl (decide (i = j))) H) := by
  intro pins s σ H x y u v Q I rx ry h
  obtain ⟨i, j, rfl, rfl, q⟩ := h
  refine op_eq pins s σ H _ _ u v Q I rx ry ⟨rfl, ?_⟩
  have e : decide (V.str i = V.str j) = decide (i = j) := by
    by_cases z : i = j
    · subst z; simp
    · simp [z]
  rw [e]
  exact q
theorem op_neS : OpR X (compareOp .NotEq) (fun x y H Q => ∃ i j, x = .str i ∧ y = .str j ∧ Q (.bl (!decide (i = j))) H) := by
  intro pins s σ H x y u v Q I rx ry h
  obtain ⟨i, j, rfl, rfl, q⟩ := h
  refine op_ne pins s σ H _ _ u v Q I rx ry ⟨rfl, ?_⟩
  have e : decide (V.str i = V.str j) = decide (i = j) := by
    by_cases z : i = j
    · subst z; simp
    · simp [z]
  rw [e]
  exact q
/-- a module's int -/
theorem pe_gi {x : Str} {i : Int} {pos : Pos} (hm : ∃ t, X.mg x = some (.int i t)) (hg : Gl X x) (hd : (x == ("__debug__" : Str)) = false := by decide) : PE X (.Name x pos) (tC (.int i)) := by
  obtain ⟨t, hm⟩ := hm
  exact pe_glob hg hm ⟨t, rfl⟩ hd
end
/-! ## the rules by the written part K alone, each with a name for its reading -/
def rLenQ (K : PySem.W.Frag) : List V → Hp → VK → Prop := fun xs H Q => ∃ p ys, xs = [.ref p] ∧ (SqL K H p ys ∨ SqT K H p ys) ∧ Q (.int ys.length) H
def rLenStr : List V → Hp → VK → Prop := fun xs H Q => ∃ z, xs = [.str z] ∧ z.length ≤ sizeLine ∧ Q (.int z.length) H
def rListQ (K : PySem.W.Frag) : List V → Hp → VK → Prop := fun xs H Q => ∃ p ys, xs = [.ref p] ∧ (SqL K H p ys ∨ SqT K H p ys) ∧ ∀ l, H l = none → Q (.ref l) (upd H l (.lst ys))
def rTupQ (K : PySem.W.Frag) : List V → Hp → VK → Prop := fun xs H Q => ∃ p ys, xs = [.ref p] ∧ ((SqL K H p ys ∧ ∀ l, H l = none → Q (.ref l) (upd H l (.tup ys))) ∨ (SqT K H p ys ∧ Q (.ref p) H))
def rAbs : List V → Hp → VK → Prop := fun xs H Q => ∃ i, xs = [.int i] ∧ Q (.int (if i < 0 then -i else i)) H
def rMax2 : List V → Hp → VK → Prop := fun xs H Q => ∃ i j, xs = [.int i, .int j] ∧ Q (.int (if j > i then j else i)) H
def rMin2 : List V → Hp → VK → Prop := fun xs H Q => ∃ i j, xs = [.int i, .int j] ∧ Q (.int (if j < i then j else i)) H
def rInt1 : List V → Hp → VK → Prop := fun xs H Q => (∃ i, xs = [.int i] ∧ Q (.int i) H) ∨ ∃ k, xs = [.bl k] ∧ Q (.int (if k then 1 else 0)) H
def rDivmod : List V → Hp → VK → Prop := fun xs H Q => ∃ i j, xs = [.int i, .int j] ∧ CDivP i j ∧ ∀ p, H p = none → Q (.ref p) (upd H p (.tup [.int (i / j), .int (i % j)]))
section
variable {X : Cx} {K : PySem.W.Frag}
theorem c_len (e : X.K = K) : CallR X (.builtin "len") (rLenQ K) := by subst e; exact call_len_seq
theorem c_lenS : CallR X (.builtin "len") rLenStr := call_len_str
theorem c_list (e : X.K = K) : CallR X (.type "list") (rListQ K) := by subst e; exact call_list_of
theorem c_tuple (e : X.K = K) : CallR X (.type "tuple") (rTupQ K) := by subst e; exact call_tuple_of
theorem c_abs : CallR X (.builtin "abs") rAbs := call_abs
theorem c_max2 (h : X.calm = true) : CallR X (.builtin "max") rMax2 := call_max2 h
theorem c_min2 (h : X.calm = true) : CallR X (.builtin "min") rMin2 := call_min2 h
theorem c_int : CallR X (.type "int") rInt1 := call_int1
theorem c_divmod : CallR X (.builtin "divmod") rDivmod := call_divmodW
theorem c_isi (e : X.K = K) : CallR X (.builtin "isinstance") (rIsi K) := by subst e; exact call_isi
theorem c_repr (e : X.K = K) (hg : X.A.guards = some []) (hu : X.A.units + 64 < cLine) : CallR X (.builtin "repr") (rRepr K) := by subst e; exact cr_repr hg hu
theorem c_all (e : X.K = K) (h : X.calm = true) : CallR X (.builtin "all") (rAll K) := by subst e; exact cr_all h
theorem c_any (e : X.K = K) (h : X.calm = true) : CallR X (.builtin "any") (rAny K) := by subst e; exact cr_any h
theorem c_sum (e : X.K = K) (h : X.calm = true) : CallR X (.builtin "sum") (rSum K) := by subst e; exact cr_sum h
theorem c_maxL (e : X.K = K) (h : X.calm = true) : CallR X (.builtin "max") (rMax K) := by subst e; exact cr_max h
theorem c_minL (e : X.K = K) (h : X.calm = true) : CallR X (.builtin "min") (rMin K) := by subst e; exact cr_min h
theorem x_list (e : X.K = K) : IxR X (rIxL K) := by subst e; exact ix_list
theorem x_tup (e : X.K = K) : IxR X (rIxT K) := by subst e; exact ix_tup
theorem o_eqD (e : X.K = K) (hu : X.A.units + 64 < cLine) : OpR X (compareOp .Eq) (rEqD K) := by subst e; exact op_eqD hu
theorem o_neD (e : X.K = K) (hu : X.A.units + 64 < cLine) : OpR X (compareOp .NotEq) (rNeD K) := by subst e; exact op_neD hu
theorem o_in (e : X.K = K) : OpR X (compareOp .In) (rIn K false) := by subst e; exact op_in_seq
theorem o_notIn (e : X.K = K) : OpR X (compareOp .NotIn) (rIn K true) := by subst e; exact op_notIn_seq
theorem o_catT (e : X.K = K) : OpR X (binaryOp .Add) (rCatT K) := by subst e; exact op_catT
theorem s_list (e : X.K = K) : SlR X (rSlL K) := by subst e; exact sl_list
theorem s_tup (e : X.K = K) : SlR X (rSlT K) := by subst e; exact sl_tup
theorem i_list {tg l : Expr} {tl : TE} (e : X.K = K) (hl : PE X l tl) : PI X tg l (iList K tl) := by subst e; exact pi_list hl
theorem i_tup' {tg l : Expr} {tl : TE} (e : X.K = K) (hl : PE X l tl) : PI X tg l (iTup K tl) := by subst e; exact pi_tup hl
theorem g_tup {es : List Expr} {k : Nat} {t : TGs} {n : Nat} {pos : Pos} (e : X.K = K) (hc : X.calm = true) (h : PGs X es t) (hn : (assignEach es X.env).length = n)
    (hst : (assignEach es X.env).findIdx? (·.1) = none) : PG X (.Tuple es k pos) (gTup K n t) := by
  subst e
  exact pg_tup hc h hn hst
end
end Vf

namespace Vf
open PySem PySem.Spec PyProof.Rows L2
/-! ## heaps -/
/-- all but what stands at k is as it was -/
def Kx (k : Addr) (H H' : Hp) : Prop := ∀ b o, b ≠ k → H b = some o → H' b = some o
theorem Kx.refl {k : Addr} (H : Hp) : Kx k H H := fun _ _ _ h => h
theorem Kx.trans {k : Addr} {H H1 H2 : Hp} (a : Kx k H H1) (b : Kx k H1 H2) : Kx k H H2 := fun c o n h => b c o n (a c o n h)
theorem Kx.same {k : Addr} {H H1 H2 : Hp} (a : Kx k H H1) (b : Same H1 H2) : Kx k H H2 := fun c o n h => b c o (a c o n h)
theorem Same.kx {k : Addr} {H H1 H2 : Hp} (a : Same H H1) (b : Kx k H1 H2) : Kx k H H2 := fun c o n h => b c o n (a c o h)
theorem Same.toKx {k : Addr} {H H1 : Hp} (a : Same H H1) : Kx k H H1 := fun c o _ h => a c o h
theorem Same.new {H : Hp} {p : Addr} {o : HO} (h : H p = none) : Same H (upd H p o) := fun a u e => by
  rw [upd_ne (ne_of_none e h)]
  exact e
theorem Kx.upd {H : Hp} {k : Addr} {o : HO} : Kx k H (upd H k o) := fun a u n e => by
  rw [upd_ne n]
  exact e
theorem at_new {H : Hp} {a p : Addr} {o u : HO} (h : H p = none) (e : H a = some u) : upd H p o a = some u := Same.new h a u e
theorem at_ne {H : Hp} {a p : Addr} {o u : HO} (h : a ≠ p) (e : H a = some u) : upd H p o a = some u := by rw [upd_ne h]; exact e
theorem at_same {H H' : Hp} {a : Addr} {u : HO} (h : Same H H') (e : H a = some u) : H' a = some u := h a u e
theorem at_kx {k : Addr} {H H' : Hp} {a : Addr} {u : HO} (h : Kx k H H') (n : a ≠ k) (e : H a = some u) : H' a = some u := h a u n e
theorem Kx.list {K : PySem.W.Frag} {k : Addr} {H H' : Hp} {a : Addr} {xs : List V} (e : Kx k H H') (n : a ≠ k) (h : SqL K H a xs) : SqL K H' a xs := by
  rcases h with (h | ⟨o, h⟩) | h
  · exact Or.inl (Or.inl (e _ _ n h))
  · exact Or.inl (Or.inr ⟨o, e _ _ n h⟩)
  · exact Or.inr h
theorem Kx.tup {K : PySem.W.Frag} {k : Addr} {H H' : Hp} {a : Addr} {xs : List V} (e : Kx k H H') (n : a ≠ k) (h : SqT K H a xs) : SqT K H' a xs := by
  rcases h with (h | ⟨o, h⟩) | h
  · exact Or.inl (Or.inl (e _ _ n h))
  · exact Or.inl (Or.inr ⟨o, e _ _ n h⟩)
  · exact Or.inr h
theorem Same.list {K : PySem.W.Frag} {H H' : Hp} {a : Addr} {xs : List V} (e : Same H H') (h : SqL K H a xs) : SqL K H' a xs := e.seq h
theorem Same.tup {K : PySem.W.Frag} {H H' : Hp} {a : Addr} {xs : List V} (e : Same H H') (h : SqT K H a xs) : SqT K H' a xs := by
  rcases h with (h | ⟨o, h⟩) | h
  · exact Or.inl (Or.inl (e _ _ h))
  · exact Or.inl (Or.inr ⟨o, e _ _ h⟩)
  · exact Or.inr h
theorem new_list {K : PySem.W.Frag} {H : Hp} {a p : Addr} {o : HO} {xs : List V} (h : H p = none) (e : SqL K H a xs) : SqL K (upd H p o) a xs := (Same.new h).seq e
theorem new_tup {K : PySem.W.Frag} {H : Hp} {a p : Addr} {o : HO} {xs : List V} (h : H p = none) (e : SqT K H a xs) : SqT K (upd H p o) a xs := Same.tup (Same.new h) e
theorem ne_list {K : PySem.W.Frag} {H : Hp} {a p : Addr} {o : HO} {xs : List V} (h : a ≠ p) (e : SqL K H a xs) : SqL K (upd H p o) a xs := Kx.list Kx.upd h e
theorem ne_tup {K : PySem.W.Frag} {H : Hp} {a p : Addr} {o : HO} {xs : List V} (h : a ≠ p) (e : SqT K H a xs) : SqT K (upd H p o) a xs := Kx.tup Kx.upd h e

theorem none_up {H : Hp} {p q : Addr} {o : HO} (h : upd H p o q = none) : H q = none := by
  by_cases e : q = p
  · subst e
    rw [upd_same] at h
    cases h
  · rw [upd_ne e] at h
    exact h
theorem none_same {H H' : Hp} {q : Addr} (e : Same H H') (h : H' q = none) : H q = none := e.free h
theorem none_kx {H H' : Hp} {k q : Addr} {o : HO} (e : Kx k H H') (hk : H' k = some o) (h : H' q = none) : H q = none := by
  cases z : H q with
  | none => rfl
  | some u =>
    have n : q ≠ k := fun c => by rw [c, hk] at h; cases h
    rw [e q u n z] at h
    cases h
/-- a new tuple, a new list, handed back -/
def NewT (xs : List V) (H : Hp) (Q : VK) : Prop := ∀ p H', Same H H' → H p = none → H' p = some (.tup xs) → Q (.ref p) H'
def NewL (xs : List V) (H : Hp) (Q : VK) : Prop := ∀ p H', Same H H' → H p = none → H' p = some (.lst xs) → Q (.ref p) H'
/-! ## readings, one step each -/
section
variable {K : PySem.W.Frag} {D : Ends} {σ : L2.St} {H : Hp} {Q : VK} {t u : TS} {te ta tb tc : TE} {tt tt2 : TT} {v x y : V} {i j : Nat} {g : TG} {gs : TGs} {tas : TA}
theorem r_seq (h : t { D with nx := u D } σ H) : tSeq t u D σ H := h
theorem r_asg (h : te σ H fun v H1 => g v σ H1 D.nx) : tAsg te g D σ H := h
theorem r_name {R : L2.St → Hp → Prop} (h : R (σ.set i (some v)) H) : gName i v σ H R := h
theorem r_gtup {R : L2.St → Hp → Prop} {a : Addr} {xs : List V} {n : Nat} (hs : SqT K H a xs) (hn : xs.length = n) (h : gs xs σ H R) : gTup K n gs (.ref a) σ H R := ⟨a, xs, rfl, hs, hn, h⟩
theorem r_gcons {R : L2.St → Hp → Prop} {r : List V} (h : g v σ H fun σ' H' => gs r σ' H' R) : gCons g gs (v :: r) σ H R := ⟨v, r, rfl, h⟩
theorem r_gnil {R : L2.St → Hp → Prop} (h : R σ H) : gNil [] σ H R := ⟨rfl, h⟩
theorem r_gsub {R : L2.St → Hp → Prop} {ts : TSet} (h : ta σ H fun o H1 => tb σ H1 fun i H2 => ts o i v H2 fun H3 => R σ H3) : gSub ta tb ts v σ H R := h
theorem r_setL {R : Hp → Prop} {p : Addr} {k : Int} {xs : List V} (hp : H p = some (.lst xs)) (hj : ixN xs.length k = some j) (h : R (upd H p (.lst (xs.set j v)))) : rSetL (.ref p) (.int k) v H R := ⟨p, xs, k, j, rfl, rfl, hp, hj, h⟩
theorem r_par (h : tas σ H fun vs H1 => ∃ v w, vs = [v, w] ∧ D.nx ((σ.set i (some v)).set j (some w)) H1) : tPar i j tas D σ H := h
theorem r_par3 {l : Nat} (h : tas σ H fun vs H1 => ∃ u v w, vs = [u, v, w] ∧ D.nx (((σ.set i (some u)).set j (some v)).set l (some w)) H1) : tPar3 i j l tas D σ H := h
theorem r_aug {ti : TIp} (e : σ[i]? = some (some x)) (h : te σ H fun y H1 => ti x y H1 fun z H2 => D.nx (σ.set i (some z)) H2) : tAug i te ti D σ H := ⟨x, e, h⟩
theorem r_ip {f : Int → Int → Int} {a b : Int} (h : Q (.int (f a b)) H) : ipI f (.int a) (.int b) H Q := ⟨a, b, rfl, rfl, h⟩
theorem r_drop (h : te σ H fun _ H1 => D.nx σ H1) : tDrop te D σ H := h
theorem r_ret (h : te σ H D.rt) : tRet te D σ H := h
theorem r_retN (h : D.rt .non H) : tRetN D σ H := h
theorem r_if (h : tt σ H fun b H1 => if b = true then t D σ H1 else u D σ H1) : tIfS tt t u D σ H := h
theorem r_next (h : D.nx σ H) : tNext D σ H := h
theorem r_break (h : D.bk σ H) : tBreak D σ H := h
theorem r_cont (h : D.ct σ H) : tCont D σ H := h
theorem r_var (e : σ[i]? = some (some v)) (h : Q v H) : tVar i σ H Q := ⟨v, e, h⟩
theorem r_yes {R : Bool → Hp → Prop} (h : R true H) : tYes σ H R := h
theorem r_c (h : Q v H) : tC v σ H Q := h
theorem r_op {r : R2} (h : ta σ H fun x H1 => tb σ H1 fun y H2 => r x y H2 Q) : tOp r ta tb σ H Q := h
theorem r_un {r : V → Hp → VK → Prop} (h : ta σ H fun x H1 => r x H1 Q) : tUn r ta σ H Q := h
theorem r_rI0 {f : Int → Int → V} {a b : Int} (h : Q (f a b) H) : rI0 f (.int a) (.int b) H Q := ⟨a, b, rfl, rfl, h⟩
theorem r_rU {f : Int → V} {a : Int} (h : Q (f a) H) : rU f (.int a) H Q := ⟨a, rfl, h⟩
theorem r_rI {C : Int → Int → Prop} {f : Int → Int → V} {a b : Int} (c : C a b) (h : Q (f a b) H) : rI C f (.int a) (.int b) H Q := ⟨a, b, rfl, rfl, c, h⟩
theorem r_test {R : Bool → Hp → Prop} (h : te σ H fun x H1 => ∃ k, x = .bl k ∧ R k H1) : tTest te σ H R := h
theorem r_B {R : Bool → Hp → Prop} (h : te σ H fun x H1 => ∃ k, x = .bl k ∧ R k H1) : tB te σ H R := h
theorem r_and {R : Bool → Hp → Prop} (h : tt σ H fun c H1 => if c = true then tt2 σ H1 R else R false H1) : tAnd tt tt2 σ H R := h
theorem r_or {R : Bool → Hp → Prop} (h : tt σ H fun c H1 => if c = true then R true H1 else tt2 σ H1 R) : tOr tt tt2 σ H R := h
theorem r_not {R : Bool → Hp → Prop} (h : tt σ H fun c H1 => R (!c) H1) : tNot tt σ H R := h
theorem r_andV (h : ta σ H fun x H1 => ∃ c, x = .bl c ∧ if c = true then tb σ H1 Q else Q (.bl false) H1) : tAndV ta tb σ H Q := h
theorem r_orV (h : ta σ H fun x H1 => ∃ c, x = .bl c ∧ if c = true then Q (.bl true) H1 else tb σ H1 Q) : tOrV ta tb σ H Q := h
theorem r_notV (h : ta σ H fun x H1 => ∃ c, x = .bl c ∧ Q (.bl (!c)) H1) : tNotV ta σ H Q := h
theorem r_ifE (h : tt σ H fun c H1 => if c = true then ta σ H1 Q else tb σ H1 Q) : tIf tt ta tb σ H Q := h
theorem r_chain {r r' : R2} (h : ta σ H fun x H1 => tb σ H1 fun y H2 => r x y H2 fun z H3 => ∃ k, z = .bl k ∧
  (if k = true then tc σ H3 fun w' H4 => r' y w' H4 Q else Q (.bl false) H3)) : tChain r r' ta tb tc σ H Q := h
theorem r_cons {R : List V → Hp → Prop} (h : ta σ H fun x H1 => tas σ H1 fun xs H2 => R (x :: xs) H2) : tCons ta tas σ H R := h
theorem r_nil {R : List V → Hp → Prop} (h : R [] H) : tNil σ H R := h
theorem r_tup (h : tas σ H fun xs H1 => xs.length ≤ sizeLine ∧ ∀ p, H1 p = none → Q (.ref p) (upd H1 p (.tup xs))) : tTup tas σ H Q := h
theorem r_lst (h : tas σ H fun xs H1 => xs.length ≤ sizeLine ∧ ∀ p, H1 p = none → Q (.ref p) (upd H1 p (.lst xs))) : tLst tas σ H Q := h
theorem r_call {sp : Sp} {E : XK} (h : tas σ H fun vs H1 => sp vs H1 Q E) : tCall sp [] E tas σ H Q := by
  have e : tCall sp [] E tas σ H Q = tas σ H fun vs H1 => sp vs H1 Q E := by
    unfold tCall
    simp only [List.append_nil]
  rw [e]
  exact h
theorem r_callK {sp : Sp} {gV : List V → List V → List V} {E : XK} {tk : TA} (h : tas σ H fun vs H1 => tk σ H1 fun zs H2 => sp (gV vs zs) H2 Q E) : tCallK sp gV E tas tk σ H Q := h
theorem r_cb {r : List V → Hp → VK → Prop} (h : tas σ H fun vs H1 => r vs H1 Q) : tCB r tas σ H Q := h
theorem r_ixL {a : Addr} {xs : List V} {k : Int} (h1 : SqL K H a xs) (h2 : atI xs k = some v) (h : Q v H) : rIxL K (.ref a) (.int k) H Q := ⟨a, xs, k, v, rfl, rfl, h1, h2, h⟩
theorem r_ixT {a : Addr} {xs : List V} {k : Int} (h1 : SqT K H a xs) (h2 : atI xs k = some v) (h : Q v H) : rIxT K (.ref a) (.int k) H Q := ⟨a, xs, k, v, rfl, rfl, h1, h2, h⟩
theorem r_lenL {a : Addr} {xs : List V} (hs : SqL K H a xs) (h : Q (.int xs.length) H) : rLenQ K [.ref a] H Q := ⟨a, xs, rfl, .inl hs, h⟩
theorem r_lenT {a : Addr} {xs : List V} (hs : SqT K H a xs) (h : Q (.int xs.length) H) : rLenQ K [.ref a] H Q := ⟨a, xs, rfl, .inr hs, h⟩
theorem r_tupL {a : Addr} {xs : List V} (hs : SqL K H a xs) (h : ∀ l, H l = none → Q (.ref l) (upd H l (.tup xs))) : rTupQ K [.ref a] H Q := ⟨a, xs, rfl, .inl ⟨hs, h⟩⟩
theorem r_tupT {a : Addr} {xs : List V} (hs : SqT K H a xs) (h : Q (.ref a) H) : rTupQ K [.ref a] H Q := ⟨a, xs, rfl, .inr ⟨hs, h⟩⟩
theorem r_listL {a : Addr} {xs : List V} (hs : SqL K H a xs) (h : ∀ l, H l = none → Q (.ref l) (upd H l (.lst xs))) : rListQ K [.ref a] H Q := ⟨a, xs, rfl, .inl hs, h⟩
theorem r_listT {a : Addr} {xs : List V} (hs : SqT K H a xs) (h : ∀ l, H l = none → Q (.ref l) (upd H l (.lst xs))) : rListQ K [.ref a] H Q := ⟨a, xs, rfl, .inr hs, h⟩
theorem r_abs {i : Int} (h : Q (.int (i.natAbs : Int)) H) : rAbs [.int i] H Q := by
  have e : (if i < 0 then -i else i) = (i.natAbs : Int) := by split <;> omega
  exact ⟨i, rfl, by rw [e]; exact h⟩
theorem r_max2 {i j : Int} (h : Q (.int (max i j)) H) : rMax2 [.int i, .int j] H Q := by
  have e : (if j > i then j else i) = max i j := by split <;> omega
  exact ⟨i, j, rfl, by rw [e]; exact h⟩
theorem r_min2 {i j : Int} (h : Q (.int (min i j)) H) : rMin2 [.int i, .int j] H Q := by
  have e : (if j < i then j else i) = min i j := by split <;> omega
  exact ⟨i, j, rfl, by rw [e]; exact h⟩
theorem r_int1 {i : Int} (h : Q (.int i) H) : rInt1 [.int i] H Q := .inl ⟨i, rfl, h⟩
theorem r_divmod {i j : Int} (c : CDivP i j) (h : ∀ p, H p = none → Q (.ref p) (upd H p (.tup [.int (i / j), .int (i % j)]))) : rDivmod [.int i, .int j] H Q := ⟨i, j, rfl, c, h⟩
theorem r_gcd {a b : Int} (h : Q (.int ((Nat.gcd a.natAbs b.natAbs : Nat) : Int)) H) : rGcd [.int a, .int b] H Q := ⟨a, b, rfl, h⟩
theorem r_lcm {a b : Int} (ha : a.natAbs < 2 ^ 9000) (hb : b.natAbs < 2 ^ 9000) (h : Q (.int ((Nat.lcm a.natAbs b.natAbs : Nat) : Int)) H) : rLcm [.int a, .int b] H Q := ⟨a, b, rfl, ha, hb, h⟩
theorem r_repr {a : Addr} {d : PyData} (hd : Dp K H (.ref a) d) (hs : d.showable = true) (hp : d.depth ≤ 40) (hz : d.shown.length ≤ sizeLine) (h : Q (.str d.shown) H) : rRepr K [.ref a] H Q := ⟨a, d, rfl, hd, hs, hp, hz, h⟩
theorem r_isi {x c : V} {t u : Value} {b : Bool} (h1 : ClsV c u) (h2 : TyX K H x t) (h3 : PySem.W.kitOne K t u = some b) (h : Q (.bl b) H) : rIsi K [x, c] H Q := ⟨x, c, t, u, b, rfl, h1, h2, h3, h⟩
theorem r_all {a : Addr} {bs : List Bool} (hs : SqL K H a (bs.map V.bl)) (h : Q (.bl (bs.all id)) H) : rAll K [.ref a] H Q := ⟨a, bs, rfl, hs, h⟩
theorem r_any {a : Addr} {bs : List Bool} (hs : SqL K H a (bs.map V.bl)) (h : Q (.bl (bs.any id)) H) : rAny K [.ref a] H Q := ⟨a, bs, rfl, hs, h⟩
theorem r_neD {x y : V} {d e : PyData} (h1 : Dp K H x d) (h2 : Dp K H y e) (h3 : SeqAt.shaped d = true) (h4 : SeqAt.shaped e = true) (h : Q (.bl (!PyData.eqv d e)) H) : rNeD K x y H Q := ⟨d, e, h1, h2, h3, h4, h⟩
theorem r_eqD {x y : V} {d e : PyData} (h1 : Dp K H x d) (h2 : Dp K H y e) (h3 : SeqAt.shaped d = true) (h4 : SeqAt.shaped e = true) (h : Q (.bl (PyData.eqv d e)) H) : rEqD K x y H Q := ⟨d, e, h1, h2, h3, h4, h⟩
end
/-- tests that are known, and both ways of one that is not -/
theorem ifd {p A B : Prop} {_i : Decidable p} (h1 : p → A) (h2 : ¬ p → B) : if decide p = true then A else B := by
  by_cases h : p
  · rw [if_pos (decide_eq_true h)]; exact h1 h
  · rw [if_neg (by rw [decide_eq_false h]; exact Bool.false_ne_true)]; exact h2 h
theorem ifnd {p A B : Prop} {_i : Decidable p} (h1 : ¬ p → A) (h2 : p → B) : if (!decide p) = true then A else B := by
  by_cases h : p
  · rw [if_neg (by rw [decide_eq_true h]; decide)]; exact h2 h
  · rw [if_pos (by rw [decide_eq_false h]; decide)]; exact h1 h
theorem ifb {b : Bool} {A B : Prop} (h1 : b = true → A) (h2 : b = false → B) : if b = true then A else B := by
  cases b with
  | true => rw [if_pos rfl]; exact h1 rfl
  | false => rw [if_neg Bool.false_ne_true]; exact h2 rfl
theorem ifT {b : Bool} {A B : Prop} (hb : b = true) (h : A) : if b = true then A else B := by rw [if_pos hb]; exact h
theorem ifF {b : Bool} {A B : Prop} (hb : b = false) (h : B) : if b = true then A else B := by rw [if_neg (by rw [hb]; exact Bool.false_ne_true)]; exact h
theorem ifTT {A B : Prop} (h : A) : if true = true then A else B := by rw [if_pos rfl]; exact h
theorem ifFF {A B : Prop} (h : B) : if false = true then A else B := by rw [if_neg Bool.false_ne_true]; exact h
theorem ifNT {A B : Prop} (h : B) : if (!true) = true then A else B := by rw [if_neg (by decide)]; exact h
theorem ifNF {A B : Prop} (h : A) : if (!false) = true then A else B := by rw [if_pos (by decide)]; exact h
theorem small {n : Nat} (h : n ≤ 100000) : n ≤ sizeLine := Nat.le_trans h (by decide)
/-! ## data -/
theorem DpAll.ints {K : PySem.W.Frag} {H : Hp} : ∀ ns : List Int, DpAll K H (ns.map V.int) (ns.map PyData.int)
  | [] => .nil
  | n :: ns => .cons (.int n) (DpAll.ints ns)

/-! ## isinstance, type by type -/
section
variable {K : PySem.W.Frag} {H : Hp} {Q : VK} {a : Addr} {xs : List V} {i : Int} {b : Bool}
theorem is_int_int (h : Q (.bl true) H) : rIsi K [(.int i), .ty "int"] H Q := r_isi (.ty "int") (.base (.int i)) (kit_ty (by decide +kernel)) h
theorem is_int_bool (h : Q (.bl false) H) : rIsi K [(.int i), .ty "bool"] H Q := r_isi (.ty "bool") (.base (.int i)) (kit_ty (by decide +kernel)) h
theorem is_int_tuple (h : Q (.bl false) H) : rIsi K [(.int i), .ty "tuple"] H Q := r_isi (.ty "tuple") (.base (.int i)) (kit_ty (by decide +kernel)) h
theorem is_int_list (h : Q (.bl false) H) : rIsi K [(.int i), .ty "list"] H Q := r_isi (.ty "list") (.base (.int i)) (kit_ty (by decide +kernel)) h
theorem is_int_str (h : Q (.bl false) H) : rIsi K [(.int i), .ty "str"] H Q := r_isi (.ty "str") (.base (.int i)) (kit_ty (by decide +kernel)) h
theorem is_bool_int (h : Q (.bl true) H) : rIsi K [(.bl b), .ty "int"] H Q := r_isi (.ty "int") (.base (.bl b)) (kit_ty (by decide +kernel)) h
theorem is_bool_bool (h : Q (.bl true) H) : rIsi K [(.bl b), .ty "bool"] H Q := r_isi (.ty "bool") (.base (.bl b)) (kit_ty (by decide +kernel)) h
theorem is_bool_tuple (h : Q (.bl false) H) : rIsi K [(.bl b), .ty "tuple"] H Q := r_isi (.ty "tuple") (.base (.bl b)) (kit_ty (by decide +kernel)) h
theorem is_bool_list (h : Q (.bl false) H) : rIsi K [(.bl b), .ty "list"] H Q := r_isi (.ty "list") (.base (.bl b)) (kit_ty (by decide +kernel)) h
theorem is_bool_str (h : Q (.bl false) H) : rIsi K [(.bl b), .ty "str"] H Q := r_isi (.ty "str") (.base (.bl b)) (kit_ty (by decide +kernel)) h
theorem is_NoneType_int (h : Q (.bl false) H) : rIsi K [.non, .ty "int"] H Q := r_isi (.ty "int") (.base .non) (kit_ty (by decide +kernel)) h
theorem is_NoneType_bool (h : Q (.bl false) H) : rIsi K [.non, .ty "bool"] H Q := r_isi (.ty "bool") (.base .non) (kit_ty (by decide +kernel)) h
theorem is_NoneType_tuple (h : Q (.bl false) H) : rIsi K [.non, .ty "tuple"] H Q := r_isi (.ty "tuple") (.base .non) (kit_ty (by decide +kernel)) h
theorem is_NoneType_list (h : Q (.bl false) H) : rIsi K [.non, .ty "list"] H Q := r_isi (.ty "list") (.base .non) (kit_ty (by decide +kernel)) h
theorem is_NoneType_str (h : Q (.bl false) H) : rIsi K [.non, .ty "str"] H Q := r_isi (.ty "str") (.base .non) (kit_ty (by decide +kernel)) h
theorem is_str_int {z : Str} (h : Q (.bl false) H) : rIsi K [(.str z), .ty "int"] H Q := r_isi (.ty "int") (.base (.str z)) (kit_ty (by decide +kernel)) h
theorem is_str_bool {z : Str} (h : Q (.bl false) H) : rIsi K [(.str z), .ty "bool"] H Q := r_isi (.ty "bool") (.base (.str z)) (kit_ty (by decide +kernel)) h
theorem is_str_tuple {z : Str} (h : Q (.bl false) H) : rIsi K [(.str z), .ty "tuple"] H Q := r_isi (.ty "tuple") (.base (.str z)) (kit_ty (by decide +kernel)) h
theorem is_str_list {z : Str} (h : Q (.bl false) H) : rIsi K [(.str z), .ty "list"] H Q := r_isi (.ty "list") (.base (.str z)) (kit_ty (by decide +kernel)) h
theorem is_str_str {z : Str} (h : Q (.bl true) H) : rIsi K [(.str z), .ty "str"] H Q := r_isi (.ty "str") (.base (.str z)) (kit_ty (by decide +kernel)) h
theorem is_tuple_int (e : H a = some (.tup xs)) (h : Q (.bl false) H) : rIsi K [(.ref a), .ty "int"] H Q := r_isi (.ty "int") (.base (.tup e)) (kit_ty (by decide +kernel)) h
theorem is_tuple_bool (e : H a = some (.tup xs)) (h : Q (.bl false) H) : rIsi K [(.ref a), .ty "bool"] H Q := r_isi (.ty "bool") (.base (.tup e)) (kit_ty (by decide +kernel)) h
theorem is_tuple_tuple (e : H a = some (.tup xs)) (h : Q (.bl true) H) : rIsi K [(.ref a), .ty "tuple"] H Q := r_isi (.ty "tuple") (.base (.tup e)) (kit_ty (by decide +kernel)) h
theorem is_tuple_list (e : H a = some (.tup xs)) (h : Q (.bl false) H) : rIsi K [(.ref a), .ty "list"] H Q := r_isi (.ty "list") (.base (.tup e)) (kit_ty (by decide +kernel)) h
theorem is_tuple_str (e : H a = some (.tup xs)) (h : Q (.bl false) H) : rIsi K [(.ref a), .ty "str"] H Q := r_isi (.ty "str") (.base (.tup e)) (kit_ty (by decide +kernel)) h
theorem is_list_int (e : H a = some (.lst xs)) (h : Q (.bl false) H) : rIsi K [(.ref a), .ty "int"] H Q := r_isi (.ty "int") (.base (.lst e)) (kit_ty (by decide +kernel)) h
theorem is_list_bool (e : H a = some (.lst xs)) (h : Q (.bl false) H) : rIsi K [(.ref a), .ty "bool"] H Q := r_isi (.ty "bool") (.base (.lst e)) (kit_ty (by decide +kernel)) h
theorem is_list_tuple (e : H a = some (.lst xs)) (h : Q (.bl false) H) : rIsi K [(.ref a), .ty "tuple"] H Q := r_isi (.ty "tuple") (.base (.lst e)) (kit_ty (by decide +kernel)) h
theorem is_list_list (e : H a = some (.lst xs)) (h : Q (.bl true) H) : rIsi K [(.ref a), .ty "list"] H Q := r_isi (.ty "list") (.base (.lst e)) (kit_ty (by decide +kernel)) h
theorem is_list_str (e : H a = some (.lst xs)) (h : Q (.bl false) H) : rIsi K [(.ref a), .ty "str"] H Q := r_isi (.ty "str") (.base (.lst e)) (kit_ty (by decide +kernel)) h
end

/-! ## two ways that meet -/
section
variable {D : Ends} {σ : L2.St} {H : Hp} {Q : VK} {tt : TT} {ta tb : TE} {t u : TS}
theorem j_e {te : TE} (Pv : V → Hp → Prop) (hF : ∀ Q' : VK, (∀ v H', Pv v H' → Q' v H') → te σ H Q') (hQ : ∀ v H', Pv v H' → Q v H') : te σ H Q := hF Q hQ
theorem j_if (Pv : V → Hp → Prop) (hF : ∀ Q' : VK, (∀ v H', Pv v H' → Q' v H') → tIf tt ta tb σ H Q') (hQ : ∀ v H', Pv v H' → Q v H') : tIf tt ta tb σ H Q := hF Q hQ
theorem j_s {ts : TS} (M : L2.St → Hp → Prop) (hF : ∀ nx' : L2.St → Hp → Prop, (∀ σ' H', M σ' H' → nx' σ' H') → ts { D with nx := nx' } σ H) (hQ : ∀ σ' H', M σ' H' → D.nx σ' H') : ts D σ H := hF D.nx hQ
end
/-! ## loops -/
section
variable {K : PySem.W.Frag} {D : Ends} {σ : L2.St} {H : Hp} {tt : TT} {tb : TS} {g : TG} {x : V}
abbrev Wp (W : Nat → L2.St → Hp → Prop) (m : Nat) (σ : L2.St) (H : Hp) : Prop := W m σ H
theorem r_while (W : Nat → L2.St → Hp → Prop) (m : Nat) (w0 : W m σ H)
    (hs : ∀ m σ H, W m σ H → tt σ H fun b H1 => if b = true then ∃ N : L2.St → Hp → Prop, (∀ σ' H', N σ' H' → ∃ m', m' < m ∧ Wp W m' σ' H') ∧ tb { D with nx := N, ct := N, bk := D.nx } σ H1 else D.nx σ H1) :
    tWhile tt tb D σ H := ⟨W, ⟨m, w0⟩, hs⟩
theorem r_wb {D : (L2.St → Hp → Prop) → Ends} {W : Nat → L2.St → Hp → Prop} {m : Nat} (h : tb (D fun σ' H' => ∃ m', m' < m ∧ Wp W m' σ' H') σ H) :
    ∃ N : L2.St → Hp → Prop, (∀ σ' H', N σ' H' → ∃ m', m' < m ∧ Wp W m' σ' H') ∧ tb (D N) σ H := ⟨_, fun _ _ h => h, h⟩
theorem tru_int {i : Int} {R : Bool → Prop} (h : R (i != 0)) : ∃ k, TruV K (.int i) H k ∧ R k := ⟨_, rfl, h⟩
theorem tru_list {a : Addr} {xs : List V} {R : Bool → Prop} (hs : SqL K H a xs) (h : R (!xs.isEmpty)) : ∃ k, TruV K (.ref a) H k ∧ R k := ⟨_, .inl ⟨xs, hs, rfl⟩, h⟩
theorem tru_tup {a : Addr} {xs : List V} {R : Bool → Prop} (hs : SqT K H a xs) (h : R (!xs.isEmpty)) : ∃ k, TruV K (.ref a) H k ∧ R k := ⟨_, .inr (.inl ⟨xs, hs, rfl⟩), h⟩
theorem r_for1 {ta : TA} (h : ta σ H fun vs H1 => ∃ j : Int, vs = [.int j] ∧ -(2 ^ 62) ≤ j ∧ j < 2 ^ 62 ∧ tFor (fun _ H2 R => R (Itr 0 j.toNat) H2) g tb D σ H1) : tFor (iRng1 ta) g tb D σ H := h
theorem r_for2 {ta : TA} (h : ta σ H fun vs H1 => ∃ i j : Int, vs = [.int i, .int j] ∧ (-(2 ^ 62) ≤ i ∧ i < 2 ^ 62 ∧ -(2 ^ 62) ≤ j ∧ j < 2 ^ 62) ∧ tFor (fun _ H2 R => R (Itr i (j - i).toNat) H2) g tb D σ H1) : tFor (iRng2 ta) g tb D σ H := h
theorem r_forR {lo : Int} {n : Nat} (Pv : Nat → L2.St → Hp → Prop) (h0 : Pv 0 σ H)
    (hs : ∀ i σ H, i < n → Pv i σ H → g (.int (lo + i)) σ H fun σ2 H2 => tb { D with nx := Pv (i + 1), ct := Pv (i + 1), bk := D.nx } σ2 H2) (hd : ∀ σ H, Pv n σ H → D.nx σ H) :
    tFor (fun _ H2 R => R (Itr lo n) H2) g tb D σ H := for_range Pv h0 hs hd
theorem r_forL {te : TE} (h : te σ H fun x H1 => ∃ a, x = .ref a ∧ (∃ xs, SqL K H1 a xs) ∧ tFor (fun _ H2 R => R (Itl K a) H2) g tb D σ H1) : tFor (iList K te) g tb D σ H := h
theorem r_forT {te : TE} (h : te σ H fun x H1 => ∃ a, x = .ref a ∧ (∃ xs, SqT K H1 a xs) ∧ tFor (fun _ H2 R => R (Itt K a) H2) g tb D σ H1) : tFor (iTup K te) g tb D σ H := h
theorem r_forLs {a : Addr} (xs : List V) (Pv : Nat → L2.St → Hp → Prop) (h0 : Pv 0 σ H) (hl : ∀ i σ H, i ≤ xs.length → Pv i σ H → SqL K H a xs)
    (hs : ∀ i x σ H, xs[i]? = some x → Pv i σ H → g x σ H fun σ2 H2 => tb { D with nx := Pv (i + 1), ct := Pv (i + 1), bk := D.nx } σ2 H2) (hd : ∀ σ H, Pv xs.length σ H → D.nx σ H) :
    tFor (fun _ H2 R => R (Itl K a) H2) g tb D σ H := for_list Pv h0 hl hs hd
theorem r_forTs {a : Addr} (xs : List V) (Pv : Nat → L2.St → Hp → Prop) (h0 : Pv 0 σ H) (hl : ∀ i σ H, i ≤ xs.length → Pv i σ H → SqT K H a xs)
    (hs : ∀ i x σ H, xs[i]? = some x → Pv i σ H → g x σ H fun σ2 H2 => tb { D with nx := Pv (i + 1), ct := Pv (i + 1), bk := D.nx } σ2 H2) (hd : ∀ σ H, Pv xs.length σ H → D.nx σ H) :
    tFor (fun _ H2 R => R (Itt K a) H2) g tb D σ H := for_tup Pv h0 hl hs hd
/-! comprehensions -/
variable {te : TE} {vs : List Nat} {Q : VK}
theorem r_lcR1 {ta : TA} (h : ta σ H fun ws H1 => ∃ j : Int, ws = [.int j] ∧ -(2 ^ 62) ≤ j ∧ j < 2 ^ 62 ∧ tLc (fun _ H2 R => R (Itr 0 j.toNat) H2) g tt te vs σ H1 Q) : tLc (iRng1 ta) g tt te vs σ H Q := h
theorem r_lcR2 {ta : TA} (h : ta σ H fun ws H1 => ∃ i j : Int, ws = [.int i, .int j] ∧ (-(2 ^ 62) ≤ i ∧ i < 2 ^ 62 ∧ -(2 ^ 62) ≤ j ∧ j < 2 ^ 62) ∧ tLc (fun _ H2 R => R (Itr i (j - i).toNat) H2) g tt te vs σ H1 Q) : tLc (iRng2 ta) g tt te vs σ H Q := h
theorem r_lcL {tl : TE} (h : tl σ H fun x H1 => ∃ a, x = .ref a ∧ (∃ xs, SqL K H1 a xs) ∧ tLc (fun _ H2 R => R (Itl K a) H2) g tt te vs σ H1 Q) : tLc (iList K tl) g tt te vs σ H Q := h
theorem r_lcT {tl : TE} (h : tl σ H fun x H1 => ∃ a, x = .ref a ∧ (∃ xs, SqT K H1 a xs) ∧ tLc (fun _ H2 R => R (Itt K a) H2) g tt te vs σ H1 Q) : tLc (iTup K tl) g tt te vs σ H Q := h
theorem r_lcR {lo : Int} {n : Nat} (Pv : Addr → Nat → Hp → Prop) (h0 : ∀ D, H D = none → Pv D 0 (upd H D (.lst [])))
    (hs : ∀ D i H', H D = none → i < n → Pv D i H' → g (.int (lo + i)) (wipe σ vs) H' fun σ2 H2 => wipe σ2 vs = wipe σ vs ∧ tt σ2 H2 fun b H3 =>
      if b = true then te σ2 H3 fun y H4 => ∃ acc, H4 D = some (.lst acc) ∧ acc.length < sizeLine ∧ Pv D (i + 1) (upd H4 D (.lst (acc ++ [y]))) else Pv D (i + 1) H3)
    (hd : ∀ D H', H D = none → Pv D n H' → Q (.ref D) H') : tLc (fun _ H2 R => R (Itr lo n) H2) g tt te vs σ H Q :=
  fun D hD => lc_range (Pv D) (h0 D hD) (fun i H' hi p => hs D i H' hD hi p) (fun H' p => hd D H' hD p)
theorem r_lcLs {a : Addr} (xs : List V) (Pv : Addr → Nat → Hp → Prop) (h0 : ∀ D, H D = none → Pv D 0 (upd H D (.lst []))) (hl : ∀ D i H', H D = none → i ≤ xs.length → Pv D i H' → SqL K H' a xs)
    (hs : ∀ D i x H', H D = none → xs[i]? = some x → Pv D i H' → g x (wipe σ vs) H' fun σ2 H2 => wipe σ2 vs = wipe σ vs ∧ tt σ2 H2 fun b H3 =>
      if b = true then te σ2 H3 fun y H4 => ∃ acc, H4 D = some (.lst acc) ∧ acc.length < sizeLine ∧ Pv D (i + 1) (upd H4 D (.lst (acc ++ [y]))) else Pv D (i + 1) H3)
    (hd : ∀ D H', H D = none → Pv D xs.length H' → Q (.ref D) H') : tLc (fun _ H2 R => R (Itl K a) H2) g tt te vs σ H Q :=
  fun D hD => lc_list (Pv D) (h0 D hD) (fun i H' hi p => hl D i H' hD hi p) (fun i x H' hx p => hs D i x H' hD hx p) (fun H' p => hd D H' hD p)
theorem r_lcTs {a : Addr} (xs : List V) (Pv : Addr → Nat → Hp → Prop) (h0 : ∀ D, H D = none → Pv D 0 (upd H D (.lst []))) (hl : ∀ D i H', H D = none → i ≤ xs.length → Pv D i H' → SqT K H' a xs)
    (hs : ∀ D i x H', H D = none → xs[i]? = some x → Pv D i H' → g x (wipe σ vs) H' fun σ2 H2 => wipe σ2 vs = wipe σ vs ∧ tt σ2 H2 fun b H3 =>
      if b = true then te σ2 H3 fun y H4 => ∃ acc, H4 D = some (.lst acc) ∧ acc.length < sizeLine ∧ Pv D (i + 1) (upd H4 D (.lst (acc ++ [y]))) else Pv D (i + 1) H3)
    (hd : ∀ D H', H D = none → Pv D xs.length H' → Q (.ref D) H') : tLc (fun _ H2 R => R (Itt K a) H2) g tt te vs σ H Q :=
  fun D hD => lc_tup (Pv D) (h0 D hD) (fun i H' hi p => hl D i H' hD hi p) (fun i x H' hx p => hs D i x H' hD hx p) (fun H' p => hd D H' hD p)
end
end Vf

namespace Vf
open PySem PySem.Spec PyProof.Rows L2
/-! ## the law's source of numbers -/
theorem bits_mono {x y : Int} (h : x.natAbs ≤ y.natAbs) : Builtin.Int.intBits x ≤ Builtin.Int.intBits y := by
  by_cases z : y = 0
  · subst z
    have : x = 0 := by omega
    subst this
    exact Nat.le_refl _
  · have e : Builtin.Int.intBits y = y.natAbs.log2 + 1 := by
      unfold Builtin.Int.intBits
      rw [if_neg (by simpa using z)]
    rw [e]
    exact PyProof.Rows.intBits_le (Nat.lt_of_le_of_lt h Nat.lt_log2_self)
structure KegOk (a b c : Int) (n : Nat) : Prop where
  a0 : 0 ≤ a
  ab : Builtin.Int.intBits a ≤ 1048600
  b0 : 0 ≤ b
  bM : b < 2147482801
  c0 : 0 ≤ c
  cn : c ≤ n
def Keg (n : Nat) (k : Addr) (H : Hp) : Prop := ∃ a b c : Int, H k = some (.lst [.int a, .int b, .int c]) ∧ KegOk a b c n
theorem Keg.mono {n m : Nat} {k : Addr} {H : Hp} (h : Keg n k H) (l : n ≤ m) : Keg m k H := by
  obtain ⟨a, b, c, e, o⟩ := h
  exact ⟨a, b, c, e, o.a0, o.ab, o.b0, o.bM, o.c0, by have := o.cn; omega⟩
theorem Keg.same {n : Nat} {k : Addr} {H H' : Hp} (h : Keg n k H) (s : Same H H') : Keg n k H' := by
  obtain ⟨a, b, c, e, o⟩ := h
  exact ⟨a, b, c, s _ _ e, o⟩
theorem Keg.new {n : Nat} {k p : Addr} {H : Hp} {o : HO} (h : Keg n k H) (hp : H p = none) : Keg n k (upd H p o) := h.same (Same.new hp)
theorem Keg.ne {n : Nat} {k p : Addr} {H : Hp} (h : Keg n k H) (hp : H p = none) : p ≠ k := by
  obtain ⟨a, b, c, e, o⟩ := h
  exact (ne_of_none e hp).symm
theorem Keg.none {n : Nat} {k q : Addr} {H H' : Hp} (h : Keg n k H') (e : Kx k H H') (hq : H' q = Option.none) : H q = Option.none := by
  obtain ⟨a, b, c, z, o⟩ := h
  exact none_kx e z hq
def sp_tap : Sp := fun vs H Q _ => ∃ (k : Addr) (u : Int) (n : Nat), vs = [.ref k, .int u] ∧ Keg n k H ∧ n ≤ 2 ^ 60 ∧ 0 < u ∧ u < 2 ^ 62 ∧
  ∀ f H', 0 ≤ f → f < u → Kx k H H' → Keg (n + 1) k H' → Q (.int f) H'
theorem i_tap {k : Addr} {u : Int} {H : Hp} {Q : VK} {E : XK} (n : Nat) (hk : Keg n k H) (hn : n ≤ 2 ^ 60) (h0 : 0 < u) (h1 : u < 2 ^ 62)
    (q : ∀ f H', 0 ≤ f → f < u → Kx k H H' → Keg (n + 1) k H' → Q (.int f) H') : sp_tap [.ref k, .int u] H Q E := ⟨k, u, n, rfl, hk, hn, h0, h1, q⟩
def sp_any (K : PySem.W.Frag) : Sp := fun vs H Q _ => ∃ (k t : Addr) (xs : List V) (n : Nat), vs = [.ref k, .ref t] ∧ Keg n k H ∧ n ≤ 2 ^ 60 ∧ t ≠ k ∧ SqL K H t xs ∧ 0 < xs.length ∧ xs.length ≤ 100000 ∧
  ∀ (i : Nat) (x : V) H', xs[i]? = some x → Kx k H H' → Keg (n + 1) k H' → Q x H'
theorem i_any {K : PySem.W.Frag} {k t : Addr} {H : Hp} {Q : VK} {E : XK} (n : Nat) (xs : List V) (hk : Keg n k H) (hn : n ≤ 2 ^ 60) (ht : t ≠ k) (hs : SqL K H t xs) (h0 : 0 < xs.length) (h1 : xs.length ≤ 100000)
    (q : ∀ (i : Nat) x H', xs[i]? = some x → Kx k H H' → Keg (n + 1) k H' → Q x H') : sp_any K [.ref k, .ref t] H Q E := ⟨k, t, xs, n, rfl, hk, hn, ht, hs, h0, h1, q⟩
/-- the script's ints are of at most 2 ^ 20 bits -/
def Script (ns : List Int) : Prop := ns.length ≤ 63 ∧ ∀ z ∈ ns, Builtin.Int.intBits z ≤ 1048576
def sp_keg (K : PySem.W.Frag) : Sp := fun vs H Q _ => ∃ (c : Addr) (ns : List Int) (j : Nat), vs = [.ref c, .int (j : Int)] ∧ SqL K H c (ns.map V.int) ∧ Script ns ∧ j ≤ 1000 ∧
  ∀ p H', Same H H' → H p = none → Keg 1 p H' → Q (.ref p) H'
theorem i_keg {K : PySem.W.Frag} {c : Addr} {H : Hp} {Q : VK} {E : XK} (ns : List Int) (j : Nat) (hs : SqL K H c (ns.map V.int)) (hn : Script ns) (hj : j ≤ 1000)
    (q : ∀ p H', Same H H' → H p = none → Keg 1 p H' → Q (.ref p) H') : sp_keg K [.ref c, .int (j : Int)] H Q E := ⟨c, ns, j, rfl, hs, hn, hj, q⟩
/-- a product of two ints of so many bits at most -/
theorem bit_mul {i j : Int} {a b : Nat} (ha : Builtin.Int.intBits i ≤ a) (hb : Builtin.Int.intBits j ≤ b) (h : a + b ≤ 134217728) : CMulX i j := by
  unfold CMulX
  omega
theorem bit_of {i : Int} {a : Nat} (h : i.natAbs < 2 ^ a) : Builtin.Int.intBits i ≤ a := PyProof.Rows.intBits_le h
theorem divp_of {i j : Int} (h : 0 < j) (hj : j < 2 ^ 62) : CDivP i j :=
  ⟨h, PyProof.noPylong_of_log2 (Nat.lt_of_lt_of_le (log_lim (k := 62) (by omega) (by decide)) (by decide))⟩
theorem divw_of {i j : Int} (h : 0 < j) (hj : j < 2 ^ 62) : CDivW i j := wide_div (b := 62) h (by omega) (by decide) (by decide)
end Vf

namespace Vf
open PySem PySem.Spec PyProof.Rows L2
/-! ## data: what repr of it is like, and == -/
mutual
/-- no text, no dict; each number of fewer than 1920 bits -/
def tame : PyData → Bool
  | .none | .bool _ => true
  | .int i => decide (i.natAbs.log2 < 1920)
  | .list xs | .tuple xs => tameAll xs
  | _ => false
def tameAll : List PyData → Bool
  | [] => true
  | x :: xs => tame x && tameAll xs
end
mutual
def room : PyData → Nat
  | .list xs | .tuple xs => 4 + roomAll xs
  | _ => 2000
def roomAll : List PyData → Nat
  | [] => 0
  | x :: xs => room x + 2 + roomAll xs
end
theorem from_le : ∀ (ts : List Str) (k : Nat) (acc : Str), (textFrom k acc ts).length ≤ acc.length + piled ts
  | [], _, _ => Nat.le_add_right _ _
  | t :: r, k, acc => by
    refine Nat.le_trans (from_le r (k + 1) _) ?_
    rw [strLen_append, strLen_append, piled_cons]
    have e : (Str.ofString (if k > 0 then ", " else "" : String)).length ≤ 2 := by
      split
      · decide +kernel
      · decide +kernel
    omega
theorem listText_le (ts : List Str) : (listText ts).length ≤ 4 + piled ts := by
  show (textFrom 0 "[" ts ++ "]").length ≤ _
  rw [strLen_append]
  have h := from_le ts 0 "["
  have e1 : ("[" : Str).length = 1 := by decide +kernel
  have e2 : ("]" : Str).length = 1 := by decide +kernel
  omega
theorem tupleText_le (ts : List Str) : (tupleText ts).length ≤ 4 + piled ts := by
  unfold tupleText
  rw [strLen_append, strLen_append]
  have e1 : ("(" : Str).length = 1 := by decide +kernel
  have e2 : (if (ts.length == 1) = true then ",)" else ")" : String) = ",)" ∨ (if (ts.length == 1) = true then ",)" else ")" : String) = ")" := by split <;> simp
  have e3 : (Str.ofString (if (ts.length == 1) = true then ",)" else ")" : String)).length ≤ 2 := by
    rcases e2 with e | e <;> rw [e] <;> decide +kernel
  have e4 : (Str.join ", " ts).length ≤ piled ts := by
    by_cases z : ts = []
    · subst z; decide +kernel
    · have := join_length_add ts z; omega
  show ("(" : Str).length + _ + (Str.ofString _).length ≤ _
  omega
mutual
theorem shown_le : ∀ d : PyData, tame d = true → d.showable = true ∧ d.hasDict = false ∧ (d.shown).length ≤ room d
  | .none, _ => ⟨rfl, rfl, by show ("None" : Str).length ≤ 2000; decide +kernel⟩
  | .bool b, _ => ⟨rfl, rfl, by cases b <;> decide +kernel⟩
  | .int i, h => by
    have h1 : i.natAbs.log2 < 1920 := of_decide_eq_true h
    refine ⟨by simpa [PyData.showable] using h1, rfl, ?_⟩
    have e := int_text_length_le (k := 1920) (by decide) h1
    show (Str.ofString (toString i)).length ≤ 2000
    rw [PySem.ofString_length]
    omega
  | .str _, h => by cases h
  | .dict _, h => by cases h
  | .list xs, h => by
    obtain ⟨a, b, c⟩ := shown_leAll xs h
    refine ⟨a, b, ?_⟩
    have := listText_le (PyData.shownAll xs)
    show (listText (PyData.shownAll xs)).length ≤ 4 + roomAll xs
    omega
  | .tuple xs, h => by
    obtain ⟨a, b, c⟩ := shown_leAll xs h
    refine ⟨a, b, ?_⟩
    have := tupleText_le (PyData.shownAll xs)
    show (tupleText (PyData.shownAll xs)).length ≤ 4 + roomAll xs
    omega
theorem shown_leAll : ∀ ds : List PyData, tameAll ds = true → PyData.showableAll ds = true ∧ PyData.hasDictAll ds = false ∧ piled (PyData.shownAll ds) ≤ roomAll ds
  | [], _ => ⟨rfl, rfl, Nat.le_refl _⟩
  | d :: ds, h => by
    have h2 : (tame d && tameAll ds) = true := h
    rw [Bool.and_eq_true] at h2
    obtain ⟨a, b, c⟩ := shown_le d h2.1
    obtain ⟨a2, b2, c2⟩ := shown_leAll ds h2.2
    refine ⟨by simp [PyData.showableAll, a, a2], by simp [PyData.hasDictAll, b, b2], ?_⟩
    show piled (d.shown :: PyData.shownAll ds) ≤ room d + 2 + roomAll ds
    rw [piled_cons]
    omega
end
theorem tameInts : ∀ ns : List Int, (∀ n ∈ ns, n.natAbs < 2 ^ 1900) → tameAll (ns.map PyData.int) = true
  | [], _ => rfl
  | n :: ns, h => by
    show (tame (.int n) && tameAll (ns.map PyData.int)) = true
    rw [tameInts ns fun m hm => h m (List.mem_cons_of_mem _ hm), Bool.and_true]
    refine decide_eq_true (log_lim (Nat.lt_of_lt_of_le (h n List.mem_cons_self) (Nat.pow_le_pow_right (by decide) (by decide))) (by decide))
theorem roomInts : ∀ ns : List Int, roomAll (ns.map PyData.int) = 2002 * ns.length
  | [] => rfl
  | n :: ns => by
    show 2000 + 2 + roomAll (ns.map PyData.int) = 2002 * (ns.length + 1)
    rw [roomInts ns]; omega
theorem depthInts : ∀ ns : List Int, PyData.depthAll (ns.map PyData.int) = 0
  | [] => rfl
  | n :: ns => by
    show max (PyData.depth (.int n)) (PyData.depthAll (ns.map PyData.int)) = 0
    rw [depthInts ns]; rfl
/-- what repr gives of a list of ints -/
def intsD (ns : List Int) : PyData := .list (ns.map PyData.int)
section
variable {K : PySem.W.Frag} {H : Hp} {Q : VK}
theorem r_reprD {a : Addr} (d : PyData) (hd : Dp K H (.ref a) d) (ht : tame d = true) (hp : d.depth ≤ 40) (hz : room d ≤ 100000) (h : Q (.str d.shown) H) : rRepr K [.ref a] H Q := by
  obtain ⟨h1, _, h2⟩ := shown_le d ht
  exact r_repr hd h1 hp (small (Nat.le_trans h2 hz)) h
theorem Dp.intsD {a : Addr} {ns : List Int} (h : SqL K H a (ns.map V.int)) : Dp K H (.ref a) (intsD ns) := .lst h (DpAll.ints ns)
theorem r_reprI {a : Addr} (ns : List Int) (hs : SqL K H a (ns.map V.int)) (hb : ∀ n ∈ ns, n.natAbs < 2 ^ 1900) (hl : ns.length ≤ 40) (h : Q (.str (intsD ns).shown) H) : rRepr K [.ref a] H Q := by
  refine r_reprD (intsD ns) (Dp.intsD hs) (tameInts ns hb) ?_ ?_ h
  · show PyData.depthAll (ns.map PyData.int) + 1 ≤ 40
    rw [depthInts]; decide
  · show 4 + roomAll (ns.map PyData.int) ≤ 100000
    rw [roomInts]; omega
/-- a list times a number -/
theorem r_rep {a : Addr} {xs : List V} {k : Int} (hl : H a = some (.lst xs)) (h0 : 0 ≤ k) (h1 : k ≤ 1000) (hx : xs.length ≤ 1000) (h : ∀ p, H p = none → Q (.ref p) (upd H p (.lst (List.replicate k.toNat xs).flatten))) : rRep (.ref a) (.int k) H Q := by
  refine ⟨a, k, xs, rfl, rfl, hl, by omega, by omega, ?_, h⟩
  have : xs.length * k.toNat ≤ 1000 * 1000 := Nat.mul_le_mul hx (by omega)
  exact Nat.le_trans this (by decide)
theorem eqvInts : ∀ ns ms : List Int, PyData.eqvAll (ns.map PyData.int) (ms.map PyData.int) = decide (ns = ms)
  | [], [] => rfl
  | [], _ :: _ => rfl
  | _ :: _, [] => rfl
  | n :: ns, m :: ms => by
    show (n == m && PyData.eqvAll (ns.map PyData.int) (ms.map PyData.int)) = _
    rw [eqvInts ns ms]
    by_cases e : n = m
    · subst e
      by_cases e2 : ns = ms
      · subst e2; simp
      · simp [e2]
    · simp [e]
theorem canInts : ∀ ns : List Int, PyData.canLayAll0 (ns.map PyData.int) = true
  | [] => rfl
  | n :: ns => by
    show (PyData.canLay0 (.int n) && PyData.canLayAll0 (ns.map PyData.int)) = true
    rw [canInts ns]; rfl
theorem shapedInts (ns : List Int) : SeqAt.shaped (intsD ns) = true := by
  unfold SeqAt.shaped
  rw [Bool.and_eq_true]
  refine ⟨canInts ns, decide_eq_true ?_⟩
  show PyData.depthAll (ns.map PyData.int) + 1 ≤ 64
  rw [depthInts]; decide
/-- two lists of ints compared -/
theorem r_neI {a b : Addr} (ns ms : List Int) (h1 : SqL K H a (ns.map V.int)) (h2 : SqL K H b (ms.map V.int)) (h : Q (.bl (!decide (ns = ms))) H) : rNeD K (.ref a) (.ref b) H Q := by
  refine r_neD (Dp.intsD h1) (Dp.intsD h2) (shapedInts ns) (shapedInts ms) ?_
  rw [show PyData.eqv (intsD ns) (intsD ms) = decide (ns = ms) from eqvInts ns ms]
  exact h
theorem r_eqI {a b : Addr} (ns ms : List Int) (h1 : SqL K H a (ns.map V.int)) (h2 : SqL K H b (ms.map V.int)) (h : Q (.bl (decide (ns = ms))) H) : rEqD K (.ref a) (.ref b) H Q := by
  refine r_eqD (Dp.intsD h1) (Dp.intsD h2) (shapedInts ns) (shapedInts ms) ?_
  rw [show PyData.eqv (intsD ns) (intsD ms) = decide (ns = ms) from eqvInts ns ms]
  exact h
end
end Vf

namespace Vf
open PySem PySem.Spec PyProof.Rows L2
/-! ## the law's own call, from the promise of its def -/
section
variable {P : Program} {w : World} {K : PySem.W.Frag} {mg mb : Str → Option Value} {k : Nat} {fa a : Addr} {st : Stmt} {x y : Str} {sp : Sp} {s₁ : Shared} {vs : List Value} {ns : List Int}
/-- what the whole call is to come to -/
abbrev Told (s₁ : Shared) (r : Result) (s' : Shared) : Prop :=
  r = .ok (.ret (.bool true)) ∧ OldK s₁.heap s'.heap ∧ s'.os = s₁.os ∧ AllBare s'.gens
theorem law_g (KX : K.In s₁.heap) (hns : s₁.heap.Ns mainGlobals mg) (hb : s₁.heap.Ns builtinsNs mb) (hbb : ∀ z : Str, z ≠ "__name__" → mb z = bootBuiltins z)
    (hlim : s₁.heap.NoLimit) (hg : s₁.gens = #[]) (ha : s₁.heap.get? a = some { cls := .type "list", data := .seq vs.toArray }) (hi : IntsAre vs ns) (hl : ns.length ≤ sizeLine)
    (hr : Room k callerA) (hfa : mg x = some (.ref fa)) (F : ∀ base : Heap, K.In base → base.Ns mainGlobals mg → Ok P w K mg base k x st [y] sp)
    (B : ∀ f fd, L2.Fun K x x st f fd → L2.Binds K fd [y] [])
    (hsp : ∀ H : Hp, L2.Only H → SqL K H a (ns.map V.int) → sp [.ref a] H (fun v _ => v = .bl true) fun _ _ _ => False) :
    codeAny (model P w) callerA (.call (.ref fa) ⟨[.ref a], []⟩) (Told s₁) s₁ := by
  have rv := vals_ints hi
  -- over a heap that tracks the script alone, or nothing
  have run : ∀ H : Hp, L2.Only H → SqL K H a (ns.map V.int) → HOk P w H s₁.heap → (∀ b o, H b = some o → b = a ∧ K.lookup a = none) →
      codeAny (model P w) callerA (.call (.ref fa) ⟨[.ref a], []⟩) (Told s₁) s₁ := by
    intro H hO hS hok only
    -- the base: all that H does not track
    have dictNone : ∀ {b : Addr} {o : Obj} {es : Array DictEntry} {ep : Nat}, s₁.heap.get? b = some o → o.data = .dict es ep → H b = none := by
      intro b o es ep e d
      rcases hz : H b with _ | u
      · rfl
      · obtain ⟨rfl, _⟩ := only b u hz
        rw [ha] at e
        injection e with e
        rw [← e] at d
        exact absurd d (by intro z; injection z)
    have space : ∀ {b : Addr} {m : Str → Option Value}, s₁.heap.Ns b m → (hidT s₁.heap H).Ns b m := by
      rintro b m ⟨o, es, ep, e, d, rest⟩
      exact ⟨o, es, ep, hidT_get e (dictNone e d), d, rest⟩
    have kin : K.In (hidT s₁.heap H) := by
      intro b o e
      refine hidT_get (KX b o e) ?_
      rcases hz : H b with _ | u
      · rfl
      · obtain ⟨rfl, n⟩ := only b u hz
        rw [n] at e
        cases e
    obtain ⟨mc, hc1, hc2⟩ := hlim
    have env : Env0 P w K mg (hidT s₁.heap H) callerA [] s₁ H :=
      { frames := rfl, mod := ⟨kin, space hns, ⟨mb, space hb, hbb⟩, ⟨mc, space hc1, hc2⟩⟩, bs := fun b o e => of_hidT e, bsz := Nat.le_of_eq (hidT_size _ _)
        funs := trivial, frf := fun b z => absurd (show b ∈ ([] : List Addr) from z) List.not_mem_nil, hok := hok, bare := .of_eq hg }
    obtain ⟨⟨f, fd, G, hm, go⟩, _⟩ := F _ kin (space hns)
    have ef : f = fa := by
      rw [hfa] at hm
      injection hm with hm
      injection hm with hm
      exact hm.symm
    subst ef
    have bind := B f fd G s₁ [.ref a] KX rfl
    rw [List.append_nil] at bind
    refine codeAny_mono (go callerA [] s₁ H ⟨[.ref a], []⟩ [.ref a] [.ref a] (fun v _ => v = .bl true) (fun _ _ _ => False) rfl hr env bind (.cons rfl .nil) (hsp H hO hS)) ?_
    intro r s' h
    rcases r with e | fl
    · obtain ⟨_, _, _, _, _, _, _, _, _, _, _, _, z⟩ := h
      exact z.elim
    · rcases fl with _ | _ | _ | u
      · exact False.elim h
      · exact False.elim h
      · exact False.elim h
      · obtain ⟨v, H', os, bare, un, hok', rr, q⟩ := h
        have q2 : v = .bl true := q
        subst q2
        have eu : u = Value.bool true := rr
        subst eu
        refine ⟨rfl, OldK.of_keep (fun b o e => ?_), os, bare⟩
        rcases hz : H b with _ | u
        · exact un.keep b o e hz (fun z => absurd (show b ∈ ([] : List Addr) from z) List.not_mem_nil) List.not_mem_nil
        · rcases hO b with z | ⟨ob, xs, z⟩
          · rw [hz] at z; cases z
          · have e1 := (hok b _ z).1
            have e2 := (hok' b _ (un.frzs b ob _ z)).1
            rw [e] at e1
            rw [e2, e1]
  rcases hk : K.lookup a with _ | o
  · -- the script is no object of the module: it is tracked, as a locked list
    let sc : Obj := { cls := .type "list", data := .seq vs.toArray }
    let H : Hp := fun b => if b = a then some (.frz sc (.lst (ns.map V.int))) else none
    have at_ : H a = some (.frz sc (.lst (ns.map V.int))) := if_pos rfl
    have off : ∀ b, b ≠ a → H b = none := fun b n => if_neg n
    have here : ∀ b o, H b = some o → b = a := fun b o e => by
      by_cases n : b = a
      · exact n
      · rw [off b n] at e; cases e
    refine run H (fun b => ?_) (Or.inl (Or.inr ⟨sc, at_⟩)) (fun b o e => ?_) (fun b o e => ⟨here b o e, hk⟩)
    · by_cases n : b = a
      · subst n; exact Or.inr ⟨_, _, at_⟩
      · exact Or.inl (off b n)
    · have n := here b o e
      subst n
      rw [at_] at e
      injection e with e
      subst e
      exact ⟨ha, by rw [List.length_map]; exact hl, vs, _, rv, ha⟩
  · -- it is one
    have e := KX a o hk
    rw [ha] at e
    injection e with e
    subst e
    refine run (fun _ => none) (fun _ => Or.inl rfl) (Or.inr ⟨_, vs.toArray, _, hk, rfl, rfl, rfl, ?_, ?_⟩) (fun b u z => ?_) (fun b u z => ?_)
    · rw [List.size_toArray, hi.length]; exact hl
    · simpa using rv
    · cases (show (none : Option HO) = some u from z)
    · cases (show (none : Option HO) = some u from z)
end
/-- the end of a law: the promise of its def, with the script's bits told -/
theorem walk_g {l : PySem.W.OpenLaw} {n k : Nat} {q : Program} {loose : List Str} {XP : (Str → Option Value) → Heap → Prop} {YP : World → Heap → Prop} {d : DefRec} {K : Params → PySem.W.Frag} {sp : PySem.W.Frag → Sp} {y : Str} {st : Stmt}
    (hn : l.most = some n) (hn2 : n ≤ sizeLine) (hdf : d.params.defaults = []) (hr : Room k callerA) (hY : ∀ (w : World) (h : Heap), YP w h → (K w.params).In h)
    (F : ∀ (w : World) (mg : Str → Option Value) (h : Heap), (K w.params).In h → h.Ns mainGlobals mg → ∀ base : Heap, (K w.params).In base → base.Ns mainGlobals mg → Ok l.prog w (K w.params) mg base k d.name st [y] (sp (K w.params)))
    (B : ∀ (w : World) f fd, L2.Fun (K w.params) d.name d.name st f fd → L2.Binds (K w.params) fd [y] [])
    (hsp : ∀ (w : World) (H : Hp) (a : Addr) (ns : List Int), ns.length ≤ n → (∀ z ∈ ns, Builtin.Int.intBits z ≤ 1048576) → SqL (K w.params) H a (ns.map V.int) → sp (K w.params) [.ref a] H (fun v _ => v = .bl true) fun _ _ _ => False) :
    PySem.W.WalkO q loose XP YP l.row.toRowW d [] (fun f vs => PySem.call f vs) := by
  refine Att.attach_callB hn hdf fun w s₀ s₁ mg mb fa o pm cd doc a vs ns G Y ho hd hcd hmg hobj hints hlen hbits hg => ?_
  have KX := hY w _ Y
  exact law_g KX G.T.g G.T.b G.T.builtins G.T.nolimit hg hobj hints (Nat.le_trans hlen hn2) hr hmg (F w mg _ KX G.T.g) (B w) fun H hO hS => hsp w H a ns hlen hbits hS
end Vf

namespace Vf
open PySem PySem.Spec PyProof.Rows L2
/-! ## enumerate(t), t a tuple -/
section
open AutoSeq1 (wpAny_loadPart')
/-- what enumerate makes of a tuple: its iterator, then the object that counts -/
def enT (h : Heap) (a : Addr) : Heap := h.push { cls := .type "tuple_iterator", data := .fields #[.ref a, .int 0 0] }
def enE (h : Heap) : Obj := { cls := .type "enumerate", data := .fields #[.none, .bool false, .ref h.objs.size, rawInt 0, .none, .none] }
theorem meets_enT (a : Addr) (items : Array Value) (n : Nat) (dct : Option Addr) (sl : Array (Option Value)) :
    Meets (Builtin.«enumerate.__new__» ⟨[.type "enumerate", .ref a], []⟩)
      (fun _ R s => s.heap.get? a = some { cls := .type "tuple", dict := dct, data := .seq items n, slots := sl } ∧
        R (.ok (.ret (.ref (enT s.heap a).objs.size))) { s with heap := (enT s.heap a).push (enE s.heap) }) :=
  .of_wp fun prog w A R s h => by
    obtain ⟨hp, g, d, tk, os⟩ := s
    obtain ⟨ho, h⟩ := h
    have sub := sub_enumerate
    have tup : Heap.IsTuple (Shared.heap ⟨hp, g, d, tk, os⟩) a items := ⟨_, ho, rfl, n, rfl⟩
    wp_walk using wpAny_loadPart' ho
    refine wpAny_stack_any fun st => wpAny_pure ?_
    split
    · rename_i c _ _ _ _ _
      rcases (c == Value.type "enumerate") with _ | _
      · wp_walk using wpAny_loadPart' ho, wpAny_pyIter_tuple tup
        exact ⟨_, rfl, h⟩
      · wp_walk using wpAny_loadPart' ho, wpAny_pyIter_tuple tup
        exact ⟨_, rfl, h⟩
    · wp_walk using wpAny_loadPart' ho, wpAny_pyIter_tuple tup
      exact ⟨_, rfl, h⟩
end
section
variable {prog : Program} {w : World} {A : Around} {E : Value → Shared → Prop} {s : Shared}
theorem call_enT {a : Addr} {items : Array Value} {Q : Value → Shared → Prop} (tup : s.heap.IsTuple a items)
    (h : ∀ h', IsEnum h' (s.heap.objs.size + 1) s.heap.objs.size 0 .none → h'.IsTupleIter s.heap.objs.size a 0 →
      (∀ b o, s.heap.get? b = some o → h'.get? b = some o) → Q (.ref (s.heap.objs.size + 1)) { s with heap := h' }) :
    wpAny (model prog w) A (call (.type "enumerate") [.ref a]) Q E s := by
  obtain ⟨⟨c, dct, dt, sl⟩, ho, hc, n, hd⟩ := tup
  cases (show c = .type "tuple" from hc)
  cases (show dt = .seq items n from hd)
  have sz : (enT s.heap a).objs.size = s.heap.objs.size + 1 := Heap.size_push ..
  have it0 : (enT s.heap a).get? s.heap.objs.size = some { cls := .type "tuple_iterator", data := .fields #[.ref a, .int 0 0] } := Heap.get?_push_size _ rfl
  have en0 : ((enT s.heap a).push (enE s.heap)).get? (s.heap.objs.size + 1) = some (enE s.heap) := by
    rw [← sz]
    exact Heap.get?_push_size _ rfl
  refine callType_new F.called_enumerate (by decide) (F.typeCall_enumerate_1 _) (F.newCall_enumerate_1 _)
    (fun obj => F.args_object_init_2 obj _) F.entry_enumerate_new (meets_enT a items n dct sl) ⟨ho, ?_⟩
  show _ ∧ _
  rw [sz]
  exact ⟨⟨_, en0, rfl⟩, h _ en0 ⟨_, Heap.get?_push_of_some _ it0, rfl, rfl⟩ fun b o e => Heap.get?_push_of_some _ (Heap.get?_push_of_some _ e)⟩
end
theorem drawsT {prog : Program} {w : World} {A : Around} (hh : A.handled = none) (it a : Addr) (ne : a ≠ it) (items : Array Value) :
    Draws prog w A it [it, a] items.size (fun i v => items[i]? = some v) (fun i h => h.IsTupleIter it a i ∧ h.IsTuple a items) where
  live := fun i h st => by
    obtain ⟨⟨o, ho, _⟩, _⟩ := st
    exact ⟨o, ho⟩
  frame := fun i h h' st k => by
    obtain ⟨⟨o, ho, r⟩, ⟨o2, ho2, r2⟩⟩ := st
    exact ⟨⟨o, k it (by simp) o ho, r⟩, ⟨o2, k a (by simp) o2 ho2, r2⟩⟩
  item := fun i s Q E hi st q => RZ.nextOf_tuple_item st.1 st.2 (x := items[i]) (by simp [hi]) fun h' hit sb =>
    q _ h' s.toks (by simp [hi]) ⟨hit, by
      obtain ⟨o2, ho2, r2⟩ := st.2
      exact ⟨o2, (sb.2 a ne).trans ho2, r2⟩⟩ sb
  done := fun s Q E st q => RZ.nextOf_tuple_end hh st.1 st.2 (by simp) q
/-- the tuple at a, each item in a new pair with its place -/
def ItE (K : PySem.W.Frag) (a : Addr) : It :=
  ⟨fun i H => ∃ (xs : List V) (x : V), SqT K H a xs ∧ xs[i]? = some x,
   fun i H v H' => ∃ T x, v = .ref T ∧ H T = none ∧ H' = upd H T (.tup [.int (i : Nat), x]) ∧ ∀ xs, SqT K H a xs → xs[i]? = some x,
   fun i H => ∃ xs : List V, SqT K H a xs ∧ xs.length ≤ i⟩
def EnAt (a e it : Addr) (i : Nat) (h : Heap) : Prop := (∃ old, IsEnum h e it ((i : Nat) : Int) old) ∧ h.IsTupleIter it a i ∧ e ≠ it ∧ e ≠ a ∧ it ≠ a
theorem turn_enT {P : Program} {w : World} {K : PySem.W.Frag} {elts : List Expr} {kk : Nat} {tpos : Pos} (a e it : Addr) :
    Turn P w K (.Tuple elts kk tpos) (ItE K a) [e, it] e (EnAt a e it) where
  mem := List.mem_cons_self
  obj := fun i h st b hb => by
    obtain ⟨⟨old, he⟩, ⟨o, ho, hc, hd⟩, _⟩ := st
    rcases List.mem_cons.mp hb with rfl | hb
    · exact ⟨_, he, fun v q => nomatch q⟩
    · rw [List.mem_singleton.mp hb]
      exact ⟨o, ho, fun v q => by rw [hd] at q; cases q⟩
  keep := fun i h h' st k => by
    obtain ⟨⟨old, he⟩, ⟨o, ho, r⟩, n⟩ := st
    exact ⟨⟨old, k e (by simp) _ he⟩, ⟨o, k it (by simp) _ ho, r⟩, n⟩
  item := by
    intro X hP hw hK hc i pins s σ H E I hf st hg
    subst hP hw hK
    obtain ⟨⟨old, he⟩, hit, n1, n2, n3⟩ := st
    obtain ⟨xs, x, hq, hx⟩ := hg
    obtain ⟨its, rv, p, hz⟩ := I.tuple hq
    obtain ⟨u, hu, ru⟩ := rv.get hx
    have tup : s.heap.IsTuple a its.toArray := p
    have hel := Heap.lt_size he
    have hil : it < s.heap.objs.size := by
      obtain ⟨_, q, _⟩ := hit
      exact Heap.lt_size q
    have hi : i < its.toArray.size := by
      rw [List.size_toArray]
      exact (List.getElem?_eq_some_iff.mp hu).1
    refine wpAny_pyNext_enum_itemD (drawsT (A := X.A.in1) (I.ok.hd hc) it a n3.symm its.toArray) he ⟨hit, tup⟩ hi n1 (by simp [n1, n2]) fun y h' tk hy ho st' hT hsz hk => ?_
    have eyu : y = u := by
      have h1 : its[i]? = some y := by simpa using hy
      rw [hu] at h1
      exact (Option.some.inj h1).symm
    subst eyu
    refine ⟨_, rfl, wpAny_letOwnedTupleGo_enum (s := { s with heap := h', toks := tk + 1 }) ho fun h'' he' sb => ?_⟩
    have hT2 : h''.get? s.heap.objs.size = some { cls := .type "tuple", data := .seq #[.int i tk, y] } := (sb.2 _ (Nat.ne_of_gt hel)).trans hT
    have new : ObjOk X.prog X.w (upd H s.heap.objs.size (.tup [.int (i : Nat), x])) h'' s.heap.objs.size (.tup [.int (i : Nat), x]) :=
      ⟨by show 2 ≤ sizeLine; decide, [.int i tk, y], .cons ⟨_, rfl⟩ (.cons ru .nil), ⟨_, hT2, rfl, _, rfl⟩⟩
    have stay : ∀ b ob, b ∉ [e, it] → s.heap.get? b = some ob → h''.get? b = some ob := fun b ob hb q =>
      (sb.2 b (fun z => hb (by simp [z]))).trans (hk b ob (fun z => hb (by simp [z])) (fun z => hb (by simp [z])) q)
    have I1 := I.turnedNew (t' := tk + 1) (ch := [e, it]) stay hf (Nat.le_refl _) new
    refine ⟨.ref s.heap.objs.size, _, I1, rfl, ⟨_, x, rfl, I.hok.fresh (Nat.le_refl _), rfl, fun ys hy2 => by rw [I.tuple_inj hy2 hq]; exact hx⟩, ⟨⟨y, ?_⟩, ?_, n1, n2, n3⟩, fun b hb => ?_⟩
    · rw [show ((i + 1 : Nat) : Int) = (i : Int) + 1 by omega]
      exact he'
    · obtain ⟨o, ho2, r⟩ := st'.1
      exact ⟨o, (sb.2 it n1.symm).trans ho2, r⟩
    · have lt : b < s.heap.objs.size := by
        rcases List.mem_cons.mp hb with rfl | hb
        · exact hel
        · rw [List.mem_singleton.mp hb]; exact hil
      rw [upd_ne (Nat.ne_of_lt lt)]
      exact (hf b hb).1
  done := by
    intro X hP hw hK hc i pins s σ H E I hf st hg
    subst hP hw hK
    obtain ⟨⟨old, he⟩, hit, n1, n2, n3⟩ := st
    obtain ⟨xs, hq, hx⟩ := hg
    obtain ⟨its, rv, p, hz⟩ := I.tuple hq
    obtain ⟨f0, f1, f2, f3, f4, f5⟩ := hf it (by simp)
    have tup : s.heap.IsTuple a its.toArray := p
    have hT : s.TypeIs (.ref e) "enumerate" := ⟨_, he, rfl⟩
    have hl := rv.length
    unfold pyNext
    refine wpAny_bind (wpAny_attempt (wpAny_callSpecial?_slot (name := Str.ofString "__next__") hT F.slot_enumerate_next
      (wpAny_call_entry F.slot_enumerate_next hT F.entry_enumerate_next ?_ (F.args_enumerate_next_1 _))))
    show wpAny _ _ (field (.ref e) 2 >>= _) _ _ _
    refine wpAny_bind (wpAny_field he rfl (x := .ref it) rfl ?_)
    refine wpAny_bind (RZ.nextOf_tuple_end (A := X.A.in1) (I.ok.hd hc) hit tup (by simp; omega) fun h' z hb hz2 => ?_)
    obtain ⟨o, ho, hcl⟩ := hz2
    refine wpAny_bind (wpAny_isInstance (T := "StopIteration") (b := true) ⟨o, ho, hcl⟩ isSubtype_stop ?_)
    exact wpAny_pure ⟨rfl, I.turned (t' := s.toks) (fun b o hb2 q => hb b o hb2 q) f0 f1 f3 f4 f5⟩
  self := fun A i s Q E st h => by
    obtain ⟨⟨_, he⟩, _⟩ := st
    exact wpAny_pyIter_enum he h
def iEn (K : PySem.W.Frag) (ta : TA) : TI := fun σ H R => ta σ H fun vs H1 => ∃ a xs, vs = [.ref a] ∧ SqT K H1 a xs ∧ R (ItE K a) H1
theorem i_enT {X : Cx} {K : PySem.W.Frag} {e : Expr} {ta : TA} {p pos tpos : Pos} {elts : List Expr} {kk : Nat} (ek : X.K = K) (hg : Gl X "enumerate") (hm : X.mg "enumerate" = none) (ha : PA X [e] ta)
    (hs : starEach [e] X.env = [(false, eval e X.env)] := by rfl) : PI X (.Tuple elts kk tpos) (.Call (.Name "enumerate" p) [e] [] pos) (iEn K ta) := by
  subst ek
  refine ⟨fun pins s σ H R I h => ?_⟩
  refine Call_ (ld_blt I hg hm boot_enumerate (PyProof.Rows.callWith_type1 (thn (ha.run pos pins s σ H _ I h) fun us s1 ⟨vs, H1, I1, r1, q1⟩ => ?_) hs rfl))
  obtain ⟨a, xs, rfl, hq, q⟩ := q1
  have eu := Vals.ref1 r1
  subst eu
  obtain ⟨its, rv, tup, hz⟩ := I1.tuple hq
  have hal : a < s1.heap.objs.size := tup.lt
  refine call_enT tup fun h' he hit hk => wpAny_pyIter_enum he ?_
  refine ⟨s1.heap.objs.size + 1, [s1.heap.objs.size + 1, s1.heap.objs.size], EnAt a (s1.heap.objs.size + 1) s1.heap.objs.size, _, H1, rfl, I1.kept (t' := s1.toks) hk, turn_enT a _ _,
    ⟨⟨.none, he⟩, hit, Nat.succ_ne_self _, Nat.ne_of_gt (Nat.lt_succ_of_lt hal), Nat.ne_of_gt hal⟩, fun b hb => ?_, q⟩
  have le : s1.heap.objs.size ≤ b := by
    rcases List.mem_cons.mp hb with rfl | hb
    · exact Nat.le_succ _
    · rw [List.mem_singleton.mp hb]; exact Nat.le_refl _
  exact I1.fpOk le (I1.hok.fresh le)
/-- slices -/
theorem r_slL {K : PySem.W.Frag} {H : Hp} {Q : VK} {a : Addr} {xs : List V} {lo hi : Option Int} (hs : SqL K H a xs) (h : ∀ p, H p = none → Q (.ref p) (upd H p (.lst (cutV xs lo hi)))) : rSlL K (.ref a) lo hi H Q := ⟨a, xs, rfl, hs, h⟩
theorem r_sl {r : V → Option Int → Option Int → Hp → VK → Prop} {te : TE} {tl th : TO} {σ : L2.St} {H : Hp} {Q : VK} (h : te σ H fun x H1 => tl σ H1 fun l H2 => th σ H2 fun u H3 => r x l u H3 Q) : tSl r te tl th σ H Q := h
theorem r_noPart {σ : L2.St} {H : Hp} {R : Option Int → Hp → Prop} (h : R none H) : tNoPart σ H R := h
theorem r_part {t : TE} {σ : L2.St} {H : Hp} {R : Option Int → Hp → Prop} (h : t σ H fun x H1 => ∃ i, x = .int i ∧ R (some i) H1) : tPart t σ H R := h
theorem cut_to (xs : List V) (n : Nat) : cutV xs none (some (n : Int)) = xs.take n := by
  unfold cutV
  rw [HT.sIx_none, HT.sIx_nat, List.drop_zero, Nat.sub_zero]
  rcases Nat.le_total n xs.length with h | h
  · rw [Nat.min_eq_left h]
  · rw [Nat.min_eq_right h, List.take_length, List.take_of_length_le h]
/-- a walk of a tuple with its places -/
theorem r_forEn {K : PySem.W.Frag} {g : TG} {tb : TS} {D : Ends} {σ : L2.St} {H : Hp} {a : Addr} (xs : List V) (Pv : Nat → L2.St → Hp → Prop) (h0 : Pv 0 σ H) (hl : ∀ i σ H, i ≤ xs.length → Pv i σ H → SqT K H a xs)
    (hs : ∀ i x σ H T, xs[i]? = some x → Pv i σ H → H T = none → g (.ref T) σ (upd H T (.tup [.int (i : Nat), x])) fun σ2 H2 => tb { D with nx := Pv (i + 1), ct := Pv (i + 1), bk := D.nx } σ2 H2)
    (hd : ∀ σ H, Pv xs.length σ H → D.nx σ H) : tFor (fun _ H2 R => R (ItE K a) H2) g tb D σ H := by
  refine ⟨fun i m σ H => m = xs.length - i ∧ i ≤ xs.length ∧ Pv i σ H, ⟨xs.length, by omega, Nat.zero_le _, h0⟩, ?_⟩
  rintro i m σ H ⟨rfl, hi, p⟩
  have q := hl i σ H hi p
  by_cases lt : i < xs.length
  · refine Or.inr ⟨⟨xs, xs[i], q, by simp [lt]⟩, Pv (i + 1), fun σ' H' p' => ⟨xs.length - (i + 1), by omega, rfl, lt, p'⟩, fun x H' y => ?_⟩
    obtain ⟨T, z, rfl, nT, rfl, fz⟩ := y
    exact hs i z σ H T (fz xs q) p nT
  · have e : i = xs.length := by omega
    subst e
    exact Or.inl ⟨⟨xs, q, Nat.le_refl _⟩, hd σ H p⟩
theorem r_forE {K : PySem.W.Frag} {g : TG} {tb : TS} {D : Ends} {σ : L2.St} {H : Hp} {ta : TA} (h : ta σ H fun vs H1 => ∃ a xs, vs = [.ref a] ∧ SqT K H1 a xs ∧ tFor (fun _ H2 R => R (ItE K a) H2) g tb D σ H1) : tFor (iEn K ta) g tb D σ H := h
end Vf

namespace Vf
/-! ## the greatest common divisor as a sum of both -/
/-- behind the first turn: both rests have one sign s, the factors of the first number go up and down by turns -/
def Bl (y u nu l r : Int) : Prop := ∃ (s e : Int) (p q a b : Nat), (s = 1 ∨ s = -1) ∧ (e = 1 ∨ e = -1) ∧ l = s * a ∧ r = s * b ∧ u = e * p ∧ nu = -(e * q) ∧ p * b + q * a = y.natAbs ∧ b < a ∧ p ≤ y.natAbs ∧ a ≤ y.natAbs
structure Bz (x y u v nu nv l r : Int) : Prop where
  e1 : u * x + v * y = l
  e2 : nu * x + nv * y = r
  g : Nat.gcd l.natAbs r.natAbs = Nat.gcd x.natAbs y.natAbs
  st : (u = 1 ∧ v = 0 ∧ nu = 0 ∧ nv = 1 ∧ l = x ∧ r = y) ∨ (y ≠ 0 ∧ Bl y u nu l r)
theorem Bz.first (x y : Int) : Bz x y 1 0 0 1 x y := ⟨by omega, by omega, rfl, .inl ⟨rfl, rfl, rfl, rfl, rfl, rfl⟩⟩
theorem nat_gcd_sub (l r t : Int) : Nat.gcd r.natAbs (l - t * r).natAbs = Nat.gcd l.natAbs r.natAbs := by
  have h : Int.gcd r (l - t * r) = Int.gcd r l := Int.gcd_sub_mul_right_right r l t
  rw [show Nat.gcd r.natAbs (l - t * r).natAbs = Int.gcd r (l - t * r) from rfl, h, Int.gcd_comm]
  rfl
theorem sgn_abs {s : Int} (h : s = 1 ∨ s = -1) (n : Nat) : (s * n).natAbs = n := by
  rcases h with h | h <;> subst h <;> omega
theorem fmod_neg (l r : Int) (h : r < 0) : l.fmod r ≤ 0 ∧ r < l.fmod r := by
  have e := Int.neg_fmod_neg (-l) (-r)
  rw [Int.neg_neg, Int.neg_neg] at e
  have h1 := Int.fmod_nonneg_of_pos (-l) (show 0 < -r by omega)
  have h2 := Int.fmod_lt_of_pos (-l) (show 0 < -r by omega)
  omega
theorem Bl.step {y u nu l r : Int} (h : Bl y u nu l r) (hr : r ≠ 0) : Bl y nu (u - l.fdiv r * nu) r (l - l.fdiv r * r) := by
  obtain ⟨s, e, p, q, a, b, hs, he, hl, hrr, hu, hnu, hy, hab, hp, ha⟩ := h
  have hb : 0 < b := by
    rcases Nat.eq_zero_or_pos b with z | z
    · subst z
      exact absurd (by rw [hrr]; simp) hr
    · exact z
  have ht : l.fdiv r = ((a / b : Nat) : Int) := by
    rw [hl, hrr]
    rcases hs with z | z <;> subst z
    · rw [Int.one_mul, Int.one_mul, Int.fdiv_eq_ediv_of_nonneg _ (by omega)]
      rfl
    · rw [Int.neg_mul, Int.neg_mul, Int.one_mul, Int.one_mul, Int.neg_fdiv_neg, Int.fdiv_eq_ediv_of_nonneg _ (by omega)]
      rfl
  have hd := Nat.div_add_mod a b
  have hm := Nat.mod_lt a hb
  rw [ht]
  generalize a / b = d at *
  generalize a % b = m at *
  have hd' : (b : Int) * d + m = a := by rw [← hd, Int.natCast_add, Int.natCast_mul]
  refine ⟨s, -e, q, p + d * q, b, m, hs, by omega, hrr, ?_, ?_, ?_, ?_, hm, ?_, by omega⟩
  · rw [hl, hrr, ← hd']
    grind
  · rw [hnu]; grind
  · rw [hu, hnu, Int.natCast_add, Int.natCast_mul]; grind
  · rw [← hy, ← hd]; grind
  · rw [← hy]
    have : q * 1 ≤ q * a := Nat.mul_le_mul_left q (by omega)
    omega
theorem Bz.step {x y u v nu nv l r : Int} (h : Bz x y u v nu nv l r) (hr : r ≠ 0) :
    Bz x y nu nv (u - l.fdiv r * nu) (v - l.fdiv r * nv) r (l - l.fdiv r * r) ∧ (l - l.fdiv r * r).natAbs < r.natAbs := by
  have key : l - l.fdiv r * r = l.fmod r := by rw [Int.fmod_def, Int.mul_comm]
  have lt : (l - l.fdiv r * r).natAbs < r.natAbs := by
    rw [key]
    rcases Int.lt_or_gt_of_ne hr with z | z
    · have h1 := fmod_neg l r z
      omega
    · have h1 := Int.fmod_nonneg_of_pos l z
      have h2 := Int.fmod_lt_of_pos l z
      omega
  refine ⟨⟨h.e2, ?_, ?_, .inr ?_⟩, lt⟩
  · have h1 := h.e1
    have h2 := h.e2
    grind
  · rw [nat_gcd_sub]; exact h.g
  · rcases h.st with ⟨e1, e2, e3, e4, e5, e6⟩ | ⟨hy, b⟩
    · subst e1 e2 e3 e4 e5 e6
      refine ⟨hr, ?_⟩
      rcases Int.lt_or_gt_of_ne hr with z | z
      · have h1 := (fmod_neg l r z).1
        refine ⟨-1, -1, 0, 1, r.natAbs, (l - l.fdiv r * r).natAbs, .inr rfl, .inr rfl, by omega, by omega, by omega, by omega, by omega, lt, by omega, by omega⟩
      · have h1 := Int.fmod_nonneg_of_pos l z
        refine ⟨1, -1, 0, 1, r.natAbs, (l - l.fdiv r * r).natAbs, .inl rfl, .inr rfl, by omega, by omega, by omega, by omega, by omega, lt, by omega, by omega⟩
    · exact ⟨hy, b.step hr⟩
theorem abs_of_mul {v y : Int} {B : Nat} (hy : y ≠ 0) (h : (v * y).natAbs ≤ B) : v.natAbs ≤ B := by
  rw [Int.natAbs_mul] at h
  exact Nat.le_trans (Nat.le_mul_of_pos_right _ (by omega)) h
theorem Bz.bounds {x y u v nu nv l r : Int} {B : Nat} (h : Bz x y u v nu nv l r) (hx : x.natAbs ≤ B) (hy : y.natAbs ≤ B) (hB : 1 ≤ B) :
    u.natAbs ≤ B ∧ nu.natAbs ≤ B ∧ l.natAbs ≤ B ∧ r.natAbs ≤ B ∧ v.natAbs ≤ B + B * B ∧ nv.natAbs ≤ B + B * B := by
  rcases h.st with ⟨e1, e2, e3, e4, e5, e6⟩ | ⟨h0, s, e, p, q, a, b, hs, he, hl, hrr, hu, hnu, hyy, hab, hp, ha⟩
  · subst e1 e2 e3 e4 e5 e6
    refine ⟨by omega, by omega, hx, hy, by omega, by omega⟩
  · have q1 : q ≤ y.natAbs := by
      rw [← hyy]
      have : q * 1 ≤ q * a := Nat.mul_le_mul_left q (by omega)
      omega
    have hub : u.natAbs ≤ B := by rw [hu, sgn_abs he]; omega
    have hnub : nu.natAbs ≤ B := by rw [hnu, Int.natAbs_neg, sgn_abs he]; omega
    have ra : r.natAbs = b := by rw [hrr, sgn_abs hs]
    have la : l.natAbs = a := by rw [hl, sgn_abs hs]
    have mb : ∀ (f : Int), f.natAbs ≤ B → (f * x).natAbs ≤ B * B := fun f hf => by
      rw [Int.natAbs_mul]; exact Nat.mul_le_mul hf hx
    have m1 := mb u hub
    have m2 := mb nu hnub
    have e1 := h.e1
    have e2 := h.e2
    refine ⟨hub, hnub, by omega, by omega, abs_of_mul h0 (by omega), abs_of_mul h0 (by omega)⟩
end Vf

namespace Vf
/-! ## two rests made one -/
theorem emod_unique {x r n q : Int} (h : x = r + n * q) (h0 : 0 ≤ r) (h1 : r < n) : x % n = r := by
  rw [h, Int.add_mul_emod_self_left]
  exact Int.emod_eq_of_lt h0 h1
/-- u is, by the step, what turns b / g back -/
theorem merge_math {x b c g bt ct u w : Int} (hb : 0 < b) (hc : 0 < c) (hg : 0 < g) (eb : b = g * bt) (ec : c = g * ct) (hu : u * bt = 1 + ct * w) :
    (x % c - x % b) % g = 0 ∧ x % b + b * (((x % c - x % b) / g * (u % ct)) % ct) = x % (b * ct) := by
  have hct : 0 < ct := by
    rcases Int.lt_trichotomy ct 0 with z | z | z
    · have := Int.mul_neg_of_pos_of_neg hg z; omega
    · subst z; omega
    · exact z
  have d1 := Int.emod_add_mul_ediv x b
  have d2 := Int.emod_add_mul_ediv x c
  generalize hr : x % b = r at *
  generalize hs : x % c = s at *
  generalize x / b = q at *
  generalize x / c = v at *
  have hr0 : 0 ≤ r := by rw [← hr]; exact Int.emod_nonneg _ (by omega)
  have hrb : r < b := by rw [← hr]; exact Int.emod_lt_of_pos _ hb
  -- the difference of the rests is g times d
  have hd : s - r = g * (bt * q - ct * v) := by
    subst eb ec
    have h1 : g * (bt * q - ct * v) = g * bt * q - g * ct * v := by grind
    rw [h1]
    omega
  have e0 : (s - r) % g = 0 := by rw [hd]; exact Int.mul_emod_right g _
  refine ⟨e0, ?_⟩
  have e1 : (s - r) / g = bt * q - ct * v := by rw [hd]; exact Int.mul_ediv_cancel_left _ (by omega)
  rw [e1]
  -- times is q, by the step
  have e2 : ((bt * q - ct * v) * (u % ct)) % ct = q % ct := by
    rw [Int.mul_emod, Int.emod_emod_of_dvd _ (Int.dvd_refl ct), ← Int.mul_emod]
    have : (bt * q - ct * v) * u = q + ct * (w * q - v * u) := by grind
    rw [this, Int.add_mul_emod_self_left]
  rw [e2]
  have dq := Int.emod_add_mul_ediv q ct
  have t0 := Int.emod_nonneg q (show ct ≠ 0 by omega)
  have t1 := Int.emod_lt_of_pos q hct
  generalize q % ct = t at *
  generalize q / ct = k at *
  refine (emod_unique (q := k) ?_ ?_ ?_).symm
  · rw [← d1, ← dq]; grind
  · have := Int.mul_nonneg (show 0 ≤ b by omega) t0
    omega
  · have h2 : b * (t + 1) ≤ b * ct := Int.mul_le_mul_of_nonneg_left (by omega) (by omega)
    rw [Int.mul_add, Int.mul_one] at h2
    omega
/-- least common multiples of some bases -/
def lcmAll (fs : List (Int × Int)) : Nat := fs.foldl (fun m p => Nat.lcm m p.2.natAbs) 1
theorem lcmAll_append (fs gs : List (Int × Int)) : lcmAll (fs ++ gs) = gs.foldl (fun m p => Nat.lcm m p.2.natAbs) (lcmAll fs) := by
  unfold lcmAll
  rw [List.foldl_append]
theorem lcmAll_snoc (fs : List (Int × Int)) (p : Int × Int) : lcmAll (fs ++ [p]) = Nat.lcm (lcmAll fs) p.2.natAbs := lcmAll_append fs [p]
/-- facts that are right: a base from 1 on, a rest by it -/
def Fact (p : Int × Int) : Prop := 1 ≤ p.2 ∧ p.2 ≤ 10 ^ 30 ∧ 0 ≤ p.1 ∧ p.1 < p.2
theorem lcmAll_pos : ∀ (fs : List (Int × Int)) (m : Nat), (∀ p ∈ fs, Fact p) → 0 < m → 0 < fs.foldl (fun m p => Nat.lcm m p.2.natAbs) m
  | [], _, _, h => h
  | p :: fs, m, hf, h => by
    have hp := hf p List.mem_cons_self
    exact lcmAll_pos fs _ (fun q hq => hf q (List.mem_cons_of_mem _ hq)) (Nat.lcm_pos h (by have := hp.1; omega))
theorem lcm_le_mul (a b : Nat) : Nat.lcm a b ≤ a * b := Nat.div_le_self _ _
theorem lcmAll_le : ∀ (fs : List (Int × Int)) (m e : Nat), (∀ p ∈ fs, Fact p) → m ≤ 2 ^ e → fs.foldl (fun m p => Nat.lcm m p.2.natAbs) m ≤ 2 ^ (e + 100 * fs.length)
  | [], _, _, _, h => h
  | p :: fs, m, e, hf, h => by
    have hp := hf p List.mem_cons_self
    have h2 : p.2.natAbs ≤ 2 ^ 100 := by
      obtain ⟨h1, h2, _⟩ := hp
      omega
    have h3 : Nat.lcm m p.2.natAbs ≤ 2 ^ (e + 100) := by
      rw [Nat.pow_add]
      exact Nat.le_trans (lcm_le_mul _ _) (Nat.mul_le_mul h h2)
    have := lcmAll_le fs _ (e + 100) (fun q hq => hf q (List.mem_cons_of_mem _ hq)) h3
    have e1 : e + 100 + 100 * fs.length = e + 100 * (p :: fs).length := by rw [List.length_cons]; omega
    rw [e1] at this
    exact this
theorem dvd_lcmAll : ∀ (fs : List (Int × Int)) (m : Nat), m ∣ fs.foldl (fun m p => Nat.lcm m p.2.natAbs) m ∧ ∀ p ∈ fs, p.2.natAbs ∣ fs.foldl (fun m p => Nat.lcm m p.2.natAbs) m
  | [], m => ⟨Nat.dvd_refl m, fun _ h => nomatch h⟩
  | p :: fs, m => by
    obtain ⟨h1, h2⟩ := dvd_lcmAll fs (Nat.lcm m p.2.natAbs)
    refine ⟨Nat.dvd_trans (Nat.dvd_lcm_left _ _) h1, fun q hq => ?_⟩
    rcases List.mem_cons.mp hq with rfl | hq
    · exact Nat.dvd_trans (Nat.dvd_lcm_right _ _) h1
    · exact h2 q hq
theorem lcmAll_dvd : ∀ (fs : List (Int × Int)) (m d : Nat), m ∣ d → (∀ p ∈ fs, p.2.natAbs ∣ d) → fs.foldl (fun m p => Nat.lcm m p.2.natAbs) m ∣ d
  | [], _, _, h, _ => h
  | p :: fs, m, d, h, hf => lcmAll_dvd fs _ d (Nat.lcm_dvd h (hf p List.mem_cons_self)) fun q hq => hf q (List.mem_cons_of_mem _ hq)
/-- a number fits some facts -/
def Fits (x : Int) (fs : List (Int × Int)) : Prop := ∀ p ∈ fs, x % p.2 = p.1
/-- whoever fits the facts that x fits leaves the rest of x by their multiple -/
theorem fits_iff {x y : Int} {fs : List (Int × Int)} (hf : ∀ p ∈ fs, Fact p) (hx : Fits x fs) : Fits y fs ↔ (lcmAll fs : Int) ∣ y - x := by
  constructor
  · intro hy
    have : lcmAll fs ∣ (y - x).natAbs := by
      refine lcmAll_dvd fs 1 _ (Nat.one_dvd _) fun p hp => ?_
      have h := Int.emod_emod_of_dvd (y - x) (Int.dvd_refl p.2)
      have e : y % p.2 = x % p.2 := by rw [hx p hp, hy p hp]
      have d : p.2 ∣ y - x := Int.dvd_of_emod_eq_zero (Int.emod_eq_emod_iff_emod_sub_eq_zero.mp e)
      exact Int.natAbs_dvd_natAbs.mpr d
    exact Int.dvd_natAbs.mp (Int.natCast_dvd_natCast.mpr this)
  · intro h p hp
    rw [← hx p hp]
    refine Int.emod_eq_emod_iff_emod_sub_eq_zero.mpr (Int.emod_eq_zero_of_dvd ?_)
    have d := (dvd_lcmAll fs 1).2 p hp
    have d2 : (p.2.natAbs : Int) ∣ (lcmAll fs : Int) := Int.natCast_dvd_natCast.mpr d
    have e : (p.2.natAbs : Int) = p.2 := by have := (hf p hp).1; omega
    rw [e] at d2
    exact Int.dvd_trans d2 h
end Vf

namespace Vf
open PySem PySem.Spec PyProof.Rows L2
/-! ## tuples stay, whatever a list does -/
theorem Kx.tupI {K : PySem.W.Frag} {k : Addr} {H H' : Hp} {l : List V} {a : Addr} {xs : List V} (e : Kx k H H') (hk : H k = some (.lst l)) (h : SqT K H a xs) : SqT K H' a xs := by
  rcases h with (h | ⟨o, h⟩) | h
  · exact Or.inl (Or.inl (e _ _ (ne_of h hk (by intro z; cases z)) h))
  · exact Or.inl (Or.inr ⟨o, e _ _ (ne_of h hk (by intro z; cases z)) h⟩)
  · exact Or.inr h
/-- what keeps all tuples -/
def Tt (H H' : Hp) : Prop := ∀ (K : PySem.W.Frag) a xs, SqT K H a xs → SqT K H' a xs
theorem Tt.refl (H : Hp) : Tt H H := fun _ _ _ h => h
theorem Tt.trans {H H1 H2 : Hp} (a : Tt H H1) (b : Tt H1 H2) : Tt H H2 := fun K x xs h => b K x xs (a K x xs h)
theorem Same.tt {H H' : Hp} (s : Same H H') : Tt H H' := fun _ _ _ h => Same.tup s h
theorem Kx.tt {k : Addr} {H H' : Hp} {l : List V} (e : Kx k H H') (hk : H k = some (.lst l)) : Tt H H' := fun _ _ _ h => e.tupI hk h
theorem new_tt {H : Hp} {p : Addr} {o : HO} (h : H p = none) : Tt H (upd H p o) := Same.tt (Same.new h)
theorem upd_tt {H : Hp} {k : Addr} {l : List V} {o : HO} (hk : H k = some (.lst l)) : Tt H (upd H k o) := Kx.tt Kx.upd hk
/-! ## pairs of ints, tuples of them -/
def PairAt (K : PySem.W.Frag) (H : Hp) (v : V) (p : Int × Int) : Prop := ∃ t, v = .ref t ∧ SqT K H t [.int p.1, .int p.2]
def PairsAt (K : PySem.W.Frag) (H : Hp) (vs : List V) (fs : List (Int × Int)) : Prop := Paired (PairAt K H) vs fs
def FactsAt (K : PySem.W.Frag) (H : Hp) (a : Addr) (fs : List (Int × Int)) : Prop := ∃ vs, SqT K H a vs ∧ PairsAt K H vs fs
theorem PairAt.tt {K : PySem.W.Frag} {H H' : Hp} {v : V} {p : Int × Int} (h : PairAt K H v p) (e : Tt H H') : PairAt K H' v p := by
  obtain ⟨t, rfl, s⟩ := h
  exact ⟨t, rfl, e K t _ s⟩
theorem PairsAt.tt {K : PySem.W.Frag} {H H' : Hp} (e : Tt H H') : ∀ {vs : List V} {fs : List (Int × Int)}, PairsAt K H vs fs → PairsAt K H' vs fs
  | _, _, .nil => .nil
  | _, _, .cons r t => .cons (r.tt e) (PairsAt.tt e t)
theorem FactsAt.tt {K : PySem.W.Frag} {H H' : Hp} {a : Addr} {fs : List (Int × Int)} (h : FactsAt K H a fs) (e : Tt H H') : FactsAt K H' a fs := by
  obtain ⟨vs, s, p⟩ := h
  exact ⟨vs, e K a _ s, PairsAt.tt e p⟩
theorem PairsAt.length {K : PySem.W.Frag} {H : Hp} {vs : List V} {fs : List (Int × Int)} (h : PairsAt K H vs fs) : vs.length = fs.length := Paired.length h
theorem PairsAt.get {K : PySem.W.Frag} {H : Hp} : ∀ {vs : List V} {fs : List (Int × Int)} {i : Nat} {x : V}, PairsAt K H vs fs → vs[i]? = some x → ∃ p, fs[i]? = some p ∧ PairAt K H x p
  | _, _, _, _, .nil, e => by simp at e
  | _, _, 0, x, .cons (b := q) r _, e => by
    simp at e
    subst e
    exact ⟨q, rfl, r⟩
  | _, _, i + 1, x, .cons _ t, e => by
    obtain ⟨p, h1, h2⟩ := PairsAt.get (i := i) (x := x) t (by simpa using e)
    exact ⟨p, by simpa using h1, h2⟩
theorem PairsAt.at {K : PySem.W.Frag} {H : Hp} {vs : List V} {fs : List (Int × Int)} {i : Nat} {p : Int × Int} (h : PairsAt K H vs fs) (e : fs[i]? = some p) : ∃ x, vs[i]? = some x ∧ PairAt K H x p := by
  have hl := h.length
  have hi : i < vs.length := by
    rw [hl]
    exact (List.getElem?_eq_some_iff.mp e).1
  obtain ⟨q, h1, h2⟩ := h.get (List.getElem?_eq_getElem hi)
  rw [e] at h1
  cases h1
  exact ⟨_, List.getElem?_eq_getElem hi, h2⟩
theorem PairsAt.append {K : PySem.W.Frag} {H : Hp} : ∀ {vs ws : List V} {fs gs : List (Int × Int)}, PairsAt K H vs fs → PairsAt K H ws gs → PairsAt K H (vs ++ ws) (fs ++ gs)
  | _, _, _, _, .nil, s => s
  | _, _, _, _, .cons r t, s => .cons r (PairsAt.append t s)
/-- facts that are right, at most forty -/
def Facts (fs : List (Int × Int)) : Prop := fs.length ≤ 40 ∧ ∀ p ∈ fs, Fact p
theorem Facts.at {fs : List (Int × Int)} (h : Facts fs) {i : Nat} {p : Int × Int} (e : fs[i]? = some p) : Fact p := h.2 p (List.mem_of_getElem? e)
theorem Facts.lcm_pos {fs : List (Int × Int)} (h : Facts fs) : 0 < lcmAll fs := lcmAll_pos fs 1 h.2 (by decide)
theorem Facts.lcm_bits {fs : List (Int × Int)} (h : Facts fs) : lcmAll fs ≤ 2 ^ (100 * fs.length) := by
  have := lcmAll_le fs 1 0 h.2 (Nat.le_refl 1)
  rwa [Nat.zero_add] at this
/-- a number of so many bits that all can be reckoned with it -/
def Bt (n : Nat) (i : Int) : Prop := Builtin.Int.intBits i ≤ n
theorem Bt.mul {a b : Nat} {i j : Int} (h1 : Bt a i) (h2 : Bt b j) (h : a + b ≤ 100000000) : CMulX i j := by
  unfold Bt at h1 h2
  unfold CMulX
  omega
theorem Bt.of {a : Nat} {i : Int} (h : i.natAbs < 2 ^ a) : Bt a i := bit_of h
theorem Bt.mono {a b : Nat} {i : Int} (h : Bt a i) (l : a ≤ b) : Bt b i := Nat.le_trans h l
theorem pow_lt_of_le {a b n : Nat} (h : n ≤ 2 ^ a) (l : a < b) : n < 2 ^ b := Nat.lt_of_le_of_lt h (Nat.pow_lt_pow_right (by decide) l)
theorem Bt.le {a : Nat} {i : Int} (h : i.natAbs ≤ 2 ^ a) : Bt (a + 1) i := Bt.of (pow_lt_of_le h (Nat.lt_succ_self a))
/-! ## the law's jug -/
def Jug (n : Nat) (k : Addr) (H : Hp) : Prop := ∃ a b c : Int, H k = some (.lst [.int b, .int a, .int c]) ∧ KegOk a b c n
theorem Jug.mono {n m : Nat} {k : Addr} {H : Hp} (h : Jug n k H) (l : n ≤ m) : Jug m k H := by
  obtain ⟨a, b, c, e, o⟩ := h
  exact ⟨a, b, c, e, o.a0, o.ab, o.b0, o.bM, o.c0, by have := o.cn; omega⟩
theorem Jug.same {n : Nat} {k : Addr} {H H' : Hp} (h : Jug n k H) (s : Same H H') : Jug n k H' := by
  obtain ⟨a, b, c, e, o⟩ := h
  exact ⟨a, b, c, s _ _ e, o⟩
theorem Jug.new {n : Nat} {k p : Addr} {H : Hp} {o : HO} (h : Jug n k H) (hp : H p = none) : Jug n k (upd H p o) := h.same (Same.new hp)
theorem Jug.ne {n : Nat} {k p : Addr} {H : Hp} (h : Jug n k H) (hp : H p = none) : p ≠ k := by
  obtain ⟨a, b, c, e, o⟩ := h
  exact (ne_of_none e hp).symm
theorem Jug.tt {n : Nat} {k : Addr} {H H' : Hp} (h : Jug n k H) (e : Kx k H H') : Tt H H' := by
  obtain ⟨a, b, c, z, o⟩ := h
  exact e.tt z
theorem Jug.kx {n m : Nat} {k j : Addr} {H H' : Hp} (h : Jug n k H) (e : Kx j H H') (ne : k ≠ j) : Jug n k H' := by
  obtain ⟨a, b, c, z, o⟩ := h
  exact ⟨a, b, c, e _ _ ne z, o⟩
def sp_pour : Sp := fun vs H Q _ => ∃ (k : Addr) (u : Int) (n : Nat), vs = [.ref k, .int u] ∧ Jug n k H ∧ n ≤ 2 ^ 60 ∧ 0 < u ∧ u < 2 ^ 62 ∧
  ∀ f H', 0 ≤ f → f < u → Kx k H H' → Jug (n + 1) k H' → Q (.int f) H'
theorem i_pour {k : Addr} {u : Int} {H : Hp} {Q : VK} {E : XK} (n : Nat) (hk : Jug n k H) (hn : n ≤ 2 ^ 60) (h0 : 0 < u) (h1 : u < 2 ^ 62)
    (q : ∀ f H', 0 ≤ f → f < u → Kx k H H' → Jug (n + 1) k H' → Q (.int f) H') : sp_pour [.ref k, .int u] H Q E := ⟨k, u, n, rfl, hk, hn, h0, h1, q⟩
def sp_one_of (K : PySem.W.Frag) : Sp := fun vs H Q _ => ∃ (k t : Addr) (xs : List V) (n : Nat), vs = [.ref k, .ref t] ∧ Jug n k H ∧ n ≤ 2 ^ 60 ∧ t ≠ k ∧ SqL K H t xs ∧ 0 < xs.length ∧ xs.length ≤ 100000 ∧
  ∀ (i : Nat) (x : V) H', xs[i]? = some x → Kx k H H' → Jug (n + 1) k H' → Q x H'
theorem i_one_of {K : PySem.W.Frag} {k t : Addr} {H : Hp} {Q : VK} {E : XK} (n : Nat) (xs : List V) (hk : Jug n k H) (hn : n ≤ 2 ^ 60) (ht : t ≠ k) (hs : SqL K H t xs) (h0 : 0 < xs.length) (h1 : xs.length ≤ 100000)
    (q : ∀ (i : Nat) x H', xs[i]? = some x → Kx k H H' → Jug (n + 1) k H' → Q x H') : sp_one_of K [.ref k, .ref t] H Q E := ⟨k, t, xs, n, rfl, hk, hn, ht, hs, h0, h1, q⟩
def sp_jug (K : PySem.W.Frag) : Sp := fun vs H Q _ => ∃ (c : Addr) (ns : List Int) (j : Nat), vs = [.ref c, .int (j : Int)] ∧ SqL K H c (ns.map V.int) ∧ Script ns ∧ j ≤ 1000 ∧
  ∀ p H', Same H H' → H p = none → Jug 1 p H' → Q (.ref p) H'
theorem i_jug {K : PySem.W.Frag} {c : Addr} {H : Hp} {Q : VK} {E : XK} (ns : List Int) (j : Nat) (hs : SqL K H c (ns.map V.int)) (hn : Script ns) (hj : j ≤ 1000)
    (q : ∀ p H', Same H H' → H p = none → Jug 1 p H' → Q (.ref p) H') : sp_jug K [.ref c, .int (j : Int)] H Q E := ⟨c, ns, j, rfl, hs, hn, hj, q⟩
def sp_great : Sp := fun vs H Q _ => ∃ (k : Addr) (u : Int) (n : Nat), vs = [.ref k, .int u] ∧ Jug n k H ∧ n ≤ 2 ^ 59 ∧ 0 < u ∧
  ∀ f H', 0 ≤ f → f < u → f < 10 ^ 37 → Kx k H H' → Jug (n + 10) k H' → Q (.int f) H'
theorem i_great {k : Addr} {u : Int} {H : Hp} {Q : VK} {E : XK} (n : Nat) (hk : Jug n k H) (hn : n ≤ 2 ^ 59) (h0 : 0 < u)
    (q : ∀ f H', 0 ≤ f → f < u → f < 10 ^ 37 → Kx k H H' → Jug (n + 10) k H' → Q (.int f) H') : sp_great [.ref k, .int u] H Q E := ⟨k, u, n, rfl, hk, hn, h0, q⟩
end Vf

namespace Vf
open PySem PySem.Spec PyProof.Rows L2
/-! ## two walks in one comprehension -/
/-- the inner walk: item by item, then Nx -/
def Inn (D : Addr) (J1 : It) (g1 : TG) (tt1 : TT) (te : TE) (vs1 : List Nat) (σ2 : L2.St) (H4 : Hp) (Nx : Hp → Prop) : Prop :=
  ∃ W1 : Nat → Nat → Hp → Prop, (∃ m, W1 0 m H4) ∧ ∀ j k H, W1 j k H →
      (J1.stop j H ∧ Nx H) ∨ (J1.go j H ∧ ∃ Nx1 : Hp → Prop, (∀ H', Nx1 H' → ∃ k', k' < k ∧ W1 (j + 1) k' H') ∧ ∀ x H', J1.yld j H x H' → g1 x (wipe σ2 vs1) H' fun σ3 H5 => wipe σ3 vs1 = wipe σ2 vs1 ∧ tt1 σ3 H5 fun b H6 =>
        if b = true then te σ3 H6 fun y H7 => ∃ acc, H7 D = some (.lst acc) ∧ acc.length < sizeLine ∧ Nx1 (upd H7 D (.lst (acc ++ [y]))) else Nx1 H6)
theorem inn_range {D : Addr} {g1 : TG} {tt1 : TT} {te : TE} {vs1 : List Nat} {σ2 : L2.St} {H4 : Hp} {Nx : Hp → Prop} {lo : Int} {n : Nat} (Pv : Nat → Hp → Prop) (h0 : Pv 0 H4)
    (hs : ∀ j H, j < n → Pv j H → g1 (.int (lo + j)) (wipe σ2 vs1) H fun σ3 H5 => wipe σ3 vs1 = wipe σ2 vs1 ∧ tt1 σ3 H5 fun b H6 =>
        if b = true then te σ3 H6 fun y H7 => ∃ acc, H7 D = some (.lst acc) ∧ acc.length < sizeLine ∧ Pv (j + 1) (upd H7 D (.lst (acc ++ [y]))) else Pv (j + 1) H6)
    (hd : ∀ H, Pv n H → Nx H) : Inn D (Itr lo n) g1 tt1 te vs1 σ2 H4 Nx := by
  refine ⟨fun i m H => m = n - i ∧ i ≤ n ∧ Pv i H, ⟨n, by omega, Nat.zero_le _, h0⟩, ?_⟩
  rintro i m H ⟨rfl, hi, p⟩
  by_cases lt : i < n
  · refine Or.inr ⟨lt, Pv (i + 1), fun H' p' => ⟨n - (i + 1), by omega, rfl, lt, p'⟩, fun x H' y => ?_⟩
    obtain ⟨e, y⟩ := y
    subst e y
    exact hs i _ lt p
  · have e : i = n := by omega
    subst e
    exact Or.inl ⟨Nat.le_refl _, hd H p⟩
section
variable {σ : L2.St} {H : Hp} {Q : VK} {g g1 : TG} {tt tt1 : TT} {te : TE} {vs vs1 : List Nat} {wi1 : TI}
theorem r_lc2R {lo : Int} {n : Nat} (Pv : Addr → Nat → Hp → Prop) (h0 : ∀ D, H D = none → Pv D 0 (upd H D (.lst [])))
    (hs : ∀ D i H', H D = none → i < n → Pv D i H' → g (.int (lo + i)) (wipe σ vs) H' fun σ2 H2 => wipe σ2 vs = wipe σ vs ∧ tt σ2 H2 fun b H3 =>
      if b = true then wi1 σ2 H3 fun J1 H4 => Inn D J1 g1 tt1 te vs1 σ2 H4 (Pv D (i + 1)) else Pv D (i + 1) H3)
    (hd : ∀ D H', H D = none → Pv D n H' → Q (.ref D) H') : tLc2 (fun _ H2 R => R (Itr lo n) H2) g tt wi1 g1 tt1 te vs vs1 σ H Q := by
  refine fun D hD => ⟨fun i m H => m = n - i ∧ i ≤ n ∧ Pv D i H, ⟨n, by omega, Nat.zero_le _, h0 D hD⟩, ?_⟩
  rintro i m H' ⟨rfl, hi, p⟩
  by_cases lt : i < n
  · refine Or.inr ⟨lt, Pv D (i + 1), fun H' p' => ⟨n - (i + 1), by omega, rfl, lt, p'⟩, fun x H' y => ?_⟩
    obtain ⟨e, y⟩ := y
    subst e y
    exact hs D i _ hD lt p
  · have e : i = n := by omega
    subst e
    exact Or.inl ⟨Nat.le_refl _, hd D H' hD p⟩
theorem r_lc2R1 {ta : TA} (h : ta σ H fun ws H1 => ∃ j : Int, ws = [.int j] ∧ -(2 ^ 62) ≤ j ∧ j < 2 ^ 62 ∧ tLc2 (fun _ H2 R => R (Itr 0 j.toNat) H2) g tt wi1 g1 tt1 te vs vs1 σ H1 Q) : tLc2 (iRng1 ta) g tt wi1 g1 tt1 te vs vs1 σ H Q := h
theorem r_w2 {ta : TA} {R : It → Hp → Prop} (h : ta σ H fun ws H1 => ∃ i j : Int, ws = [.int i, .int j] ∧ (-(2 ^ 62) ≤ i ∧ i < 2 ^ 62 ∧ -(2 ^ 62) ≤ j ∧ j < 2 ^ 62) ∧ R (Itr i (j - i).toNat) H1) : iRng2 ta σ H R := h
end
theorem is_T_T {K : PySem.W.Frag} {H : Hp} {Q : VK} {a : Addr} {xs : List V} (hs : SqT K H a xs) (h : Q (.bl true) H) : rIsi K [.ref a, .ty "tuple"] H Q := by
  have t : TyX K H (.ref a) (.type "tuple") := by
    rcases hs with (e | ⟨o, e⟩) | ⟨o, _, _, e, c, _⟩
    · exact .base (.tup e)
    · exact .fTuple e
    · exact .kTuple e c
  exact r_isi (.ty "tuple") t (kit_ty (by decide +kernel)) h
theorem r_bm {K : PySem.W.Frag} {T : String} {r : V → List V → Hp → VK → Prop} {to : TE} {t : TA} {σ : L2.St} {H : Hp} {Q : VK} (h : to σ H fun x H1 => tyV K T x H1 ∧ t σ H1 fun xs H2 => r x xs H2 Q) : tBM K T r to t σ H Q := h
theorem r_app {H : Hp} {Q : VK} {l : Addr} {xs : List V} {y : V} (e : H l = some (.lst xs)) (hz : xs.length ≤ 100000) (h : Q .non (upd H l (.lst (xs ++ [y])))) : rAppend (.ref l) [y] H Q :=
  ⟨l, xs, y, rfl, rfl, e, Nat.lt_of_le_of_lt hz (by decide), h⟩
/-! ## how great all that is reckoned can get -/
def Bq : Nat := 2 ^ 4001
theorem Bq_one : 1 ≤ Bq := by decide +kernel
theorem Bq_two : 2 * Bq < 2 ^ 4003 := by decide +kernel
theorem Bq_sq : Bq + Bq * Bq < 2 ^ 8010 := by decide +kernel
theorem Bq_lt : Bq < 2 ^ 4003 := by decide +kernel
theorem Bq_90 : Bq < 2 ^ 9000 := by decide +kernel
theorem Facts.lcm_Bq {fs : List (Int × Int)} (h : ∀ p ∈ fs, Fact p) (hl : fs.length ≤ 40) : lcmAll fs ≤ Bq := by
  refine Nat.le_trans (Facts.lcm_bits ⟨hl, h⟩) (Nat.pow_le_pow_right (by decide) ?_)
  omega
theorem Bq_div {i j : Int} (h0 : 0 < j) (h : j.natAbs ≤ Bq) : CDivW i j := wide_div (b := 4003) h0 (Nat.lt_of_le_of_lt h Bq_lt) (by decide) (by decide)
theorem Bq_bits {i : Int} (h : i.natAbs ≤ Bq) : Builtin.Int.intBits i ≤ 4003 := bit_of (Nat.lt_of_le_of_lt h Bq_lt)
theorem lcmAll_small : ∀ (fs : List (Int × Int)) (m e : Nat), (∀ p ∈ fs, p.2.natAbs ≤ 2 ^ 6) → m ≤ 2 ^ e → fs.foldl (fun m p => Nat.lcm m p.2.natAbs) m ≤ 2 ^ (e + 6 * fs.length)
  | [], _, _, _, h => h
  | p :: fs, m, e, hf, h => by
    have h3 : Nat.lcm m p.2.natAbs ≤ 2 ^ (e + 6) := by
      rw [Nat.pow_add]
      exact Nat.le_trans (lcm_le_mul _ _) (Nat.mul_le_mul h (hf p List.mem_cons_self))
    have := lcmAll_small fs _ (e + 6) (fun q hq => hf q (List.mem_cons_of_mem _ hq)) h3
    have e1 : e + 6 + 6 * fs.length = e + 6 * (p :: fs).length := by rw [List.length_cons]; omega
    rw [e1] at this
    exact this
/-- drawn facts: at most four, of small bases -/
def Drawn (fs : List (Int × Int)) : Prop := fs.length ≤ 4 ∧ ∀ p ∈ fs, 1 ≤ p.2 ∧ p.2 ≤ 36 ∧ 0 ≤ p.1 ∧ p.1 < p.2
theorem Drawn.facts {fs : List (Int × Int)} (h : Drawn fs) : Facts fs := by
  refine ⟨by have := h.1; omega, fun p hp => ?_⟩
  obtain ⟨h1, h2, h3, h4⟩ := h.2 p hp
  exact ⟨h1, by omega, h3, h4⟩
theorem Drawn.lcm {fs : List (Int × Int)} (h : Drawn fs) : lcmAll fs ≤ 2 ^ 24 := by
  have := lcmAll_small fs 1 0 (fun p hp => by have := h.2 p hp; omega) (Nat.le_refl 1)
  refine Nat.le_trans this (Nat.pow_le_pow_right (by decide) ?_)
  have := h.1
  omega
end Vf

namespace Vf
open PySem PySem.Spec PyProof.Rows L2
/-! ## zip(t, u) of two tuples, each pair under one name -/
/-- a zip in any state: what it gave out last, whether it knows that this lives -/
def Zst (h : Heap) (u TI TO : Addr) (f0 f1 : Value) : Prop := h.get? u = some ⟨.type "zip", none, .fields #[f0, f1, .bool false, .ref TI, .ref TO], #[]⟩
def Out (f0 : Value) : Prop := f0 = .none ∨ ∃ T : Nat, f0 = rawInt (T : Int)
def Flag (f1 : Value) : Prop := ∃ b, f1 = .bool b
section
variable {prog : Program} {w : World} {A : Around} {E : Value → Shared → Prop} {s : Shared}
theorem alive_any {a : Addr} {Q : Option Obj → Shared → Prop} (h : Q (s.heap.get? a) s) : wpAny (model prog w) A (loadIfAlive a) Q E s := fun _ _ _ => h
theorem z_free {u TI TO : Addr} {f0 f1 : Value} {Q : Bool → Shared → Prop} (o0 : Out f0) (o1 : Flag f1) (zz : Zst s.heap u TI TO f0 f1) (h1 : Q true s)
    (h2 : ∀ h' g1, Flag g1 → Zst h' u TI TO f0 g1 → Heap.SameBut u s.heap h' → Q false { s with heap := h' }) : wpAny (model prog w) A (Builtin.SmallTypes.ownedTupleIsFree (.ref u)) Q E s := by
  unfold Builtin.SmallTypes.ownedTupleIsFree
  refine wpAny_bind (wpAny_field (x := f0) zz rfl rfl ?_)
  rcases o0 with e | ⟨T, e⟩
  · subst e
    exact wpAny_pure h1
  · subst e
    show wpAny _ _ (loadIfAlive _ >>= _) _ _ _
    refine wpAny_bind (alive_any ?_)
    cases s.heap.get? (T : Int).toNat with
    | none => exact wpAny_pure h1
    | some o =>
      obtain ⟨b, e⟩ := o1
      subst e
      show wpAny _ _ (field (.ref u) 1 >>= _) _ _ _
      refine wpAny_bind (wpAny_field (x := .bool b) zz rfl rfl ?_)
      cases b with
      | true => exact wpAny_pure (h2 s.heap _ ⟨true, rfl⟩ zz (Heap.SameBut.refl _ _))
      | false =>
        exact wpAny_bind (wpAny_setField_rec zz (by simp) fun h' z' sb => wpAny_pure (h2 h' _ ⟨true, rfl⟩ z' sb))
/-- what a turn leaves -/
def ZNext (s : Shared) (u TI TO i1 i2 l1 l2 : Addr) (k1 k2 : Nat) (x y : Value) (h' : Heap) : Prop :=
  (∃ g0 g1, Out g0 ∧ Flag g1 ∧ Zst h' u TI TO g0 g1) ∧ (∃ a b, IsPair h' TO a b) ∧ h'.IsTupleIter i1 l1 (k1 + 1) ∧ h'.IsTupleIter i2 l2 (k2 + 1) ∧ IsPair h' s.heap.objs.size x y ∧ h'.objs.size = s.heap.objs.size + 1 ∧
    ∀ c o, c ≠ u → c ≠ TO → c ≠ i1 → c ≠ i2 → s.heap.get? c = some o → h'.get? c = some o
theorem zn_item {u TI TO i1 i2 l1 l2 : Addr} {f0 f1 : Value} {k1 k2 : Nat} {xs ys : Array Value} {x y a b : Value} {Q : Value → Shared → Prop} (D : ZipApart u TI TO i1 i2 l1 l2) (o0 : Out f0) (o1 : Flag f1)
    (zz : Zst s.heap u TI TO f0 f1) (ti : IsPair s.heap TI (.ref i1) (.ref i2)) (to : IsPair s.heap TO a b) (h1 : s.heap.IsTupleIter i1 l1 k1) (h2 : s.heap.IsTupleIter i2 l2 k2)
    (t1 : s.heap.IsTuple l1 xs) (t2 : s.heap.IsTuple l2 ys) (ex : xs[k1]? = some x) (ey : ys[k2]? = some y) (q : ∀ h', ZNext s u TI TO i1 i2 l1 l2 k1 k2 x y h' → Q (.ref s.heap.objs.size) { s with heap := h' }) :
    wpAny (model prog w) A (Builtin.«zip.__next__» ⟨[.ref u], []⟩) (fun r s' => ∃ v, r = .done (.ret v) ∧ Q v s') E s := by
  show wpAny _ _ (field (.ref u) 2 >>= _) _ _ _
  refine wpAny_bind (wpAny_field (x := .bool false) zz rfl rfl ?_)
  show wpAny _ _ (field (.ref u) 3 >>= _) _ _ _
  refine wpAny_bind (wpAny_field (x := .ref TI) zz rfl rfl ?_)
  refine wpAny_bind (wpAny_seqItems ti rfl ?_)
  show wpAny _ _ (Builtin.SmallTypes.ownedTupleIsFree (.ref u) >>= _) _ _ _
  refine wpAny_bind (z_free o0 o1 zz ?_ fun m1 g1 og zm sb1 => ?_)
  · simp only [if_true]
    refine wpAny_bind <| wpAny_rule ?_
    refine wpAny_bind (wpAny_field (x := .ref TO) zz rfl rfl ?_)
    refine wpAny_bind (wpAny_setField_rec zz (by simp) fun m1 zm sb1 => ?_)
    replace zm : Zst m1 u TI TO .ellipsis f1 := zm
    refine wpAny_bind ?_
    rw [List.zipIdx_cons, List.zipIdx_cons, List.zipIdx_nil]
    simp only [List.forIn_cons, List.forIn_nil]
    refine wpAny_bind <| wpAny_bind <| wpAny_onRaise ?_
    show wpAny _ _ (Builtin.SmallTypes.nextOf (Value.ref i1) >>= _) _ _ _
    refine wpAny_bind (RZ.nextOf_tuple_item (h1.extBut sb1.extBut D.i1z) (t1.extBut sb1.extBut D.l1z) ex fun m2 n1 sb2 => wpAny_pure ?_)
    have to2 : IsPair m2 TO a b := sb2.extBut _ _ D.TOi1 (sb1.extBut _ _ D.TOz to)
    refine wpAny_bind (wpAny_seqItems to2 rfl ?_)
    refine wpAny_bind (wpAny_updateSeq_pair to2 fun m3 to3 sb3 => ?_)
    replace to3 : IsPair m3 TO x b := to3
    refine wpAny_bind <| wpAny_letGo <| wpAny_pure ?_
    refine wpAny_bind <| wpAny_bind <| wpAny_onRaise ?_
    show wpAny _ _ (Builtin.SmallTypes.nextOf (Value.ref i2) >>= _) _ _ _
    have p2 : m3.IsTupleIter i2 l2 k2 := ((h2.extBut sb1.extBut D.i2z).extBut sb2.extBut D.i12.symm).extBut sb3.extBut D.TOi2.symm
    have q2 : m3.IsTuple l2 ys := ((t2.extBut sb1.extBut D.l2z).extBut sb2.extBut D.l2i1).extBut sb3.extBut D.l2TO
    refine wpAny_bind (RZ.nextOf_tuple_item p2 q2 ey fun m4 n2 sb4 => wpAny_pure ?_)
    have to4 : IsPair m4 TO x b := sb4.extBut _ _ D.TOi2 to3
    refine wpAny_bind (wpAny_seqItems to4 rfl ?_)
    refine wpAny_bind (wpAny_updateSeq_pair to4 fun m5 to5 sb5 => ?_)
    replace to5 : IsPair m5 TO x y := to5
    refine wpAny_bind <| wpAny_letGo <| wpAny_pure <| wpAny_pure ?_
    refine wpAny_bind (wpAny_seqItems to5 rfl ?_)
    refine wpAny_bind <| wpAny_newTuple ?_
    have sz : m5.objs.size = s.heap.objs.size := by rw [sb5.1, sb4.1, sb3.1, sb2.1, sb1.1]
    have z5 : Zst m5 u TI TO .ellipsis f1 := sb5.extBut _ _ D.TOz.symm (sb4.extBut _ _ D.i2z.symm (sb3.extBut _ _ D.TOz.symm (sb2.extBut _ _ D.i1z.symm zm)))
    have k5 : ∀ c o, c ≠ u → c ≠ TO → c ≠ i1 → c ≠ i2 → s.heap.get? c = some o → m5.get? c = some o := fun c o c1 c2 c3 c4 e => sb5.extBut _ _ c2 (sb4.extBut _ _ c4 (sb3.extBut _ _ c2 (sb2.extBut _ _ c3 (sb1.extBut _ _ c1 e))))
    have r1 : m5.IsTupleIter i1 l1 (k1 + 1) := ((n1.extBut sb3.extBut D.TOi1.symm).extBut sb4.extBut D.i12).extBut sb5.extBut D.TOi1.symm
    have r2 : m5.IsTupleIter i2 l2 (k2 + 1) := n2.extBut sb5.extBut D.TOi2.symm
    have ul : u < m5.objs.size := Heap.lt_size z5
    show wpAny _ _ (Builtin.SmallTypes.ownedTupleHandOut (.ref u) (.ref m5.objs.size) >>= _) _ _ _
    refine wpAny_bind ?_
    unfold Builtin.SmallTypes.ownedTupleHandOut
    have z6 : Zst (m5.push { cls := .type "tuple", data := .seq #[x, y] }) u TI TO .ellipsis f1 := Heap.get?_push_of_some _ z5
    refine wpAny_bind (wpAny_setField_rec z6 (by simp) fun m7 z7 sb7 => ?_)
    replace z7 : Zst m7 u TI TO (rawInt m5.objs.size) f1 := z7
    refine wpAny_setField_rec z7 (by simp) fun m8 z8 sb8 => ?_
    replace z8 : Zst m8 u TI TO (rawInt m5.objs.size) (.bool false) := z8
    have up : ∀ c o, c ≠ u → m5.get? c = some o → m8.get? c = some o := fun c o c1 e => sb8.extBut _ _ c1 (sb7.extBut _ _ c1 (Heap.get?_push_of_some _ e))
    have np : IsPair m8 m5.objs.size x y := sb8.extBut _ _ (Nat.ne_of_gt ul) (sb7.extBut _ _ (Nat.ne_of_gt ul) (Heap.get?_push_size _ rfl))
    have sz8 : m8.objs.size = m5.objs.size + 1 := by rw [sb8.1, sb7.1, Heap.size_push]
    refine wpAny_pure ⟨_, rfl, ?_⟩
    show Q (.ref m5.objs.size) _
    rw [sz] at z8 np sz8 ⊢
    exact q m8 ⟨⟨_, _, .inr ⟨_, rfl⟩, ⟨_, rfl⟩, z8⟩, ⟨x, y, up _ _ D.TOz to5⟩, r1.at fun o e => up _ o D.i1z e, r2.at fun o e => up _ o D.i2z e, np, sz8, fun c o c1 c2 c3 c4 e => up c o c1 (k5 c o c1 c2 c3 c4 e)⟩
  · simp only [Bool.false_eq_true, if_false]
    refine wpAny_bind ?_
    rw [← Array.forIn_toList]
    simp only [List.forIn_cons, List.forIn_nil]
    refine wpAny_bind <| wpAny_bind <| wpAny_holding ?_
    show wpAny _ _ (Builtin.SmallTypes.nextOf (Value.ref i1) >>= _) _ _ _
    refine wpAny_bind (RZ.nextOf_tuple_item (s := { s with heap := m1 }) (h1.extBut sb1.extBut D.i1z) (t1.extBut sb1.extBut D.l1z) ex fun m2 n1 sb2 => wpAny_pure ?_)
    refine wpAny_pure ?_
    refine wpAny_bind <| wpAny_bind <| wpAny_holding ?_
    show wpAny _ _ (Builtin.SmallTypes.nextOf (Value.ref i2) >>= _) _ _ _
    refine wpAny_bind (RZ.nextOf_tuple_item (s := { s with heap := m2 }) ((h2.extBut sb1.extBut D.i2z).extBut sb2.extBut D.i12.symm) ((t2.extBut sb1.extBut D.l2z).extBut sb2.extBut D.l2i1) ey fun m3 n2 sb3 => wpAny_pure ?_)
    refine wpAny_pure <| wpAny_pure ?_
    show wpAny _ _ (newTuple [x, y] >>= _) _ _ _
    refine wpAny_bind <| wpAny_newTuple ?_
    have sz : m3.objs.size = s.heap.objs.size := by rw [sb3.1, sb2.1, sb1.1]
    have z3 : Zst m3 u TI TO f0 g1 := sb3.extBut _ _ D.i2z.symm (sb2.extBut _ _ D.i1z.symm zm)
    have k3 : ∀ c o, c ≠ u → c ≠ i1 → c ≠ i2 → s.heap.get? c = some o → m3.get? c = some o := fun c o c1 c2 c3 e => sb3.extBut _ _ c3 (sb2.extBut _ _ c2 (sb1.extBut _ _ c1 e))
    have r1 : m3.IsTupleIter i1 l1 (k1 + 1) := n1.extBut sb3.extBut D.i12
    refine wpAny_pure ⟨_, rfl, ?_⟩
    show Q (.ref m3.objs.size) _
    have np : IsPair (m3.push { cls := .type "tuple", data := .seq #[x, y] }) m3.objs.size x y := Heap.get?_push_size _ rfl
    have sz4 : (m3.push { cls := .type "tuple", data := .seq #[x, y] }).objs.size = m3.objs.size + 1 := Heap.size_push ..
    rw [sz] at np sz4 ⊢
    exact q _ ⟨⟨_, _, o0, og, Heap.get?_push_of_some _ z3⟩, ⟨a, b, Heap.get?_push_of_some _ (k3 _ _ D.TOz D.TOi1 D.TOi2 to)⟩, r1.at fun o e => Heap.get?_push_of_some _ e, n2.at fun o e => Heap.get?_push_of_some _ e, np, sz4,
      fun c o c1 _ c3 c4 e => Heap.get?_push_of_some _ (k3 c o c1 c3 c4 e)⟩
/-- what the end leaves -/
def ZEnd (s : Shared) (u TO i1 i2 : Addr) (h' : Heap) : Prop := ∀ c o, c ≠ u → c ≠ TO → c ≠ i1 → c ≠ i2 → s.heap.get? c = some o → h'.get? c = some o
theorem zn_end {u TI TO i1 i2 l1 l2 : Addr} {f0 f1 : Value} {k1 k2 : Nat} {xs ys : Array Value} {a b : Value} {Q : Fin → Shared → Prop} (hh : A.handled = none) (D : ZipApart u TI TO i1 i2 l1 l2) (o0 : Out f0) (o1 : Flag f1)
    (zz : Zst s.heap u TI TO f0 f1) (ti : IsPair s.heap TI (.ref i1) (.ref i2)) (to : IsPair s.heap TO a b) (h1 : s.heap.IsTupleIter i1 l1 k1) (h2 : s.heap.IsTupleIter i2 l2 k2)
    (t1 : s.heap.IsTuple l1 xs) (t2 : s.heap.IsTuple l2 ys) (no : xs[k1]? = none ∨ ys[k2]? = none) (q : ∀ h' e, ZEnd s u TO i1 i2 h' → (∃ o, h'.get? e = some o ∧ o.cls = .type "StopIteration") → E (.ref e) { s with heap := h' }) :
    wpAny (model prog w) A (Builtin.«zip.__next__» ⟨[.ref u], []⟩) Q E s := by
  show wpAny _ _ (field (.ref u) 2 >>= _) _ _ _
  refine wpAny_bind (wpAny_field (x := .bool false) zz rfl rfl ?_)
  show wpAny _ _ (field (.ref u) 3 >>= _) _ _ _
  refine wpAny_bind (wpAny_field (x := .ref TI) zz rfl rfl ?_)
  refine wpAny_bind (wpAny_seqItems ti rfl ?_)
  show wpAny _ _ (Builtin.SmallTypes.ownedTupleIsFree (.ref u) >>= _) _ _ _
  refine wpAny_bind (z_free o0 o1 zz ?_ fun m1 g1 og zm sb1 => ?_)
  · simp only [if_true]
    refine wpAny_bind <| wpAny_rule ?_
    refine wpAny_bind (wpAny_field (x := .ref TO) zz rfl rfl ?_)
    refine wpAny_bind (wpAny_setField_rec zz (by simp) fun m1 zm sb1 => ?_)
    replace zm : Zst m1 u TI TO .ellipsis f1 := zm
    refine wpAny_bind ?_
    rw [List.zipIdx_cons, List.zipIdx_cons, List.zipIdx_nil]
    simp only [List.forIn_cons, List.forIn_nil]
    refine wpAny_bind <| wpAny_bind <| wpAny_onRaise ?_
    show wpAny _ _ (Builtin.SmallTypes.nextOf (Value.ref i1) >>= _) _ _ _
    cases ex : xs[k1]? with
    | none =>
      refine wpAny_bind (RZ.nextOf_tuple_end hh (h1.extBut sb1.extBut D.i1z) (t1.extBut sb1.extBut D.l1z) ex fun m2 e sb2 se => ?_)
      obtain ⟨oe, e1, e2⟩ := se
      have z2 : Zst m2 u TI TO .ellipsis f1 := sb2 _ _ D.i1z.symm zm
      have ne : e ≠ u := fun eq => by
        subst eq
        rw [show m2.get? e = _ from z2] at e1
        cases e1
        simp at e2
      exact wpAny_setField_rec z2 (by simp) fun m3 _ sb3 => q m3 e (fun c o c1 _ c3 _ eq => sb3.extBut _ _ c1 (sb2 _ _ c3 (sb1.extBut _ _ c1 eq))) ⟨oe, sb3.extBut _ _ ne e1, e2⟩
    | some x =>
      have ey : ys[k2]? = none := by
        rcases no with n | n
        · rw [ex] at n; cases n
        · exact n
      refine wpAny_bind (RZ.nextOf_tuple_item (h1.extBut sb1.extBut D.i1z) (t1.extBut sb1.extBut D.l1z) ex fun m2 n1 sb2 => wpAny_pure ?_)
      have to2 : IsPair m2 TO a b := sb2.extBut _ _ D.TOi1 (sb1.extBut _ _ D.TOz to)
      refine wpAny_bind (wpAny_seqItems to2 rfl ?_)
      refine wpAny_bind (wpAny_updateSeq_pair to2 fun m3 to3 sb3 => ?_)
      refine wpAny_bind <| wpAny_letGo <| wpAny_pure ?_
      refine wpAny_bind <| wpAny_bind <| wpAny_onRaise ?_
      show wpAny _ _ (Builtin.SmallTypes.nextOf (Value.ref i2) >>= _) _ _ _
      have p2 : m3.IsTupleIter i2 l2 k2 := ((h2.extBut sb1.extBut D.i2z).extBut sb2.extBut D.i12.symm).extBut sb3.extBut D.TOi2.symm
      have q2 : m3.IsTuple l2 ys := ((t2.extBut sb1.extBut D.l2z).extBut sb2.extBut D.l2i1).extBut sb3.extBut D.l2TO
      refine wpAny_bind (RZ.nextOf_tuple_end hh p2 q2 ey fun m4 e sb4 se => ?_)
      obtain ⟨oe, e1, e2⟩ := se
      have z4 : Zst m4 u TI TO .ellipsis f1 := sb4 _ _ D.i2z.symm (sb3.extBut _ _ D.TOz.symm (sb2.extBut _ _ D.i1z.symm zm))
      have ne : e ≠ u := fun eq => by
        subst eq
        rw [show m4.get? e = _ from z4] at e1
        cases e1
        simp at e2
      exact wpAny_setField_rec z4 (by simp) fun m5 _ sb5 => q m5 e (fun c o c1 c2 c3 c4 eq => sb5.extBut _ _ c1 (sb4 _ _ c4 (sb3.extBut _ _ c2 (sb2.extBut _ _ c3 (sb1.extBut _ _ c1 eq))))) ⟨oe, sb5.extBut _ _ ne e1, e2⟩
  · simp only [Bool.false_eq_true, if_false]
    refine wpAny_bind ?_
    rw [← Array.forIn_toList]
    simp only [List.forIn_cons, List.forIn_nil]
    refine wpAny_bind <| wpAny_bind <| wpAny_holding ?_
    show wpAny _ _ (Builtin.SmallTypes.nextOf (Value.ref i1) >>= _) _ _ _
    cases ex : xs[k1]? with
    | none =>
      exact wpAny_bind (RZ.nextOf_tuple_end (s := { s with heap := m1 }) hh (h1.extBut sb1.extBut D.i1z) (t1.extBut sb1.extBut D.l1z) ex fun m2 e sb2 se => q m2 e (fun c o c1 _ c3 _ eq => sb2 _ _ c3 (sb1.extBut _ _ c1 eq)) se)
    | some x =>
      have ey : ys[k2]? = none := by
        rcases no with n | n
        · rw [ex] at n; cases n
        · exact n
      refine wpAny_bind (RZ.nextOf_tuple_item (s := { s with heap := m1 }) (h1.extBut sb1.extBut D.i1z) (t1.extBut sb1.extBut D.l1z) ex fun m2 n1 sb2 => wpAny_pure ?_)
      refine wpAny_pure ?_
      refine wpAny_bind <| wpAny_bind <| wpAny_holding ?_
      show wpAny _ _ (Builtin.SmallTypes.nextOf (Value.ref i2) >>= _) _ _ _
      exact wpAny_bind (RZ.nextOf_tuple_end (s := { s with heap := m2 }) hh ((h2.extBut sb1.extBut D.i2z).extBut sb2.extBut D.i12.symm) ((t2.extBut sb1.extBut D.l2z).extBut sb2.extBut D.l2i1) ey
        fun m3 e sb3 se => q m3 e (fun c o c1 _ c3 c4 eq => sb3 _ _ c4 (sb2.extBut _ _ c3 (sb1.extBut _ _ c1 eq))) se)
theorem zp_item {u TI TO i1 i2 l1 l2 : Addr} {f0 f1 : Value} {k1 k2 : Nat} {xs ys : Array Value} {x y a b : Value} {Q : Option Value → Shared → Prop} (D : ZipApart u TI TO i1 i2 l1 l2) (o0 : Out f0) (o1 : Flag f1)
    (zz : Zst s.heap u TI TO f0 f1) (ti : IsPair s.heap TI (.ref i1) (.ref i2)) (to : IsPair s.heap TO a b) (h1 : s.heap.IsTupleIter i1 l1 k1) (h2 : s.heap.IsTupleIter i2 l2 k2)
    (t1 : s.heap.IsTuple l1 xs) (t2 : s.heap.IsTuple l2 ys) (ex : xs[k1]? = some x) (ey : ys[k2]? = some y) (q : ∀ h', ZNext s u TI TO i1 i2 l1 l2 k1 k2 x y h' → Q (some (.ref s.heap.objs.size)) { s with heap := h' }) :
    wpAny (model prog w) A (pyNext (.ref u)) Q E s := by
  have ty : s.TypeIs (.ref u) "zip" := ⟨_, zz, rfl⟩
  unfold pyNext
  refine wpAny_bind <| wpAny_attempt <| wpAny_callSpecial?_slot (name := Str.ofString "__next__") ty F.slot_zip_next ?_
  exact wpAny_call_entry F.slot_zip_next ty F.entry_zip_next (zn_item D o0 o1 zz ti to h1 h2 t1 t2 ex ey fun h' z => wpAny_pure (q h' z)) (F.args_zip_next_1 _)
theorem zp_end {u TI TO i1 i2 l1 l2 : Addr} {f0 f1 : Value} {k1 k2 : Nat} {xs ys : Array Value} {a b : Value} {Q : Option Value → Shared → Prop} (hh : A.handled = none) (D : ZipApart u TI TO i1 i2 l1 l2) (o0 : Out f0) (o1 : Flag f1)
    (zz : Zst s.heap u TI TO f0 f1) (ti : IsPair s.heap TI (.ref i1) (.ref i2)) (to : IsPair s.heap TO a b) (h1 : s.heap.IsTupleIter i1 l1 k1) (h2 : s.heap.IsTupleIter i2 l2 k2)
    (t1 : s.heap.IsTuple l1 xs) (t2 : s.heap.IsTuple l2 ys) (no : xs[k1]? = none ∨ ys[k2]? = none) (q : ∀ h', ZEnd s u TO i1 i2 h' → Q none { s with heap := h' }) :
    wpAny (model prog w) A (pyNext (.ref u)) Q E s := by
  have ty : s.TypeIs (.ref u) "zip" := ⟨_, zz, rfl⟩
  unfold pyNext
  refine wpAny_bind <| wpAny_attempt <| wpAny_callSpecial?_slot (name := Str.ofString "__next__") ty F.slot_zip_next ?_
  refine wpAny_call_entry F.slot_zip_next ty F.entry_zip_next (zn_end hh D o0 o1 zz ti to h1 h2 t1 t2 no fun h' e z se => ?_) (F.args_zip_next_1 _)
  obtain ⟨oe, e1, e2⟩ := se
  refine wpAny_bind (wpAny_isInstance (b := true) (T := "StopIteration") ⟨oe, e1, e2⟩ isSubtype_stop ?_)
  exact wpAny_pure (q _ z)
end
end Vf

namespace Vf
open PySem PySem.Spec PyProof.Rows L2
theorem z_iter {prog : Program} {w : World} {A : Around} {E : Value → Shared → Prop} {s : Shared} {u TI TO : Addr} {f0 f1 : Value} {Q : Value → Shared → Prop} (zz : Zst s.heap u TI TO f0 f1) (q : Q (.ref u) s) : wpAny (model prog w) A (pyIter (.ref u)) Q E s := by
  have ty : s.TypeIs (.ref u) "zip" := ⟨_, zz, rfl⟩
  refine wpAny_pyIter_slot ty F.slot_zip_iter (wpAny_call_entry F.slot_zip_iter ty F.entry_zip_iter ?_ (F.args_zip_iter_1 _))
  show wpAny _ _ (ret (Value.ref u)) _ _ s
  exact wpAny_pure ⟨_, rfl, "zip", _, ty, F.slot_zip_next.lookup, q⟩
def ZTn (u TI TO i1 i2 a b : Addr) (i : Nat) (h : Heap) : Prop :=
  (∃ f0 f1, Out f0 ∧ Flag f1 ∧ Zst h u TI TO f0 f1) ∧ IsPair h TI (.ref i1) (.ref i2) ∧ (∃ x y, IsPair h TO x y) ∧ h.IsTupleIter i1 a i ∧ h.IsTupleIter i2 b i
theorem turn_zipN {P : Program} {w : World} {K : PySem.W.Frag} {nm : Str} {npos : Pos} {a b u TI TO i1 i2 : Addr} (D : ZipApart u TI TO i1 i2 a b) :
    Turn P w K (.Name nm npos) (RZ.ItzT K a b) [u, TI, TO, i1, i2] u (ZTn u TI TO i1 i2 a b) where
  mem := List.mem_cons_self
  obj := fun i h st c hc => by
    obtain ⟨⟨f0, f1, _, _, zz⟩, ti, ⟨x, y, to⟩, ⟨o1, e1, _, d1⟩, ⟨o2, e2, _, d2⟩⟩ := st
    simp only [List.mem_cons, List.not_mem_nil, or_false] at hc
    rcases hc with e | e | e | e | e
    · subst e; exact ⟨_, zz, fun v q => nomatch q⟩
    · subst e; exact ⟨_, ti, fun v q => nomatch q⟩
    · subst e; exact ⟨_, to, fun v q => nomatch q⟩
    · subst e; exact ⟨o1, e1, fun v q => by rw [d1] at q; cases q⟩
    · subst e; exact ⟨o2, e2, fun v q => by rw [d2] at q; cases q⟩
  keep := fun i h h' st k => by
    obtain ⟨⟨f0, f1, p0, p1, zz⟩, ti, ⟨x, y, to⟩, h1, h2⟩ := st
    exact ⟨⟨f0, f1, p0, p1, k u (by simp) _ zz⟩, k TI (by simp) _ ti, ⟨x, y, k TO (by simp) _ to⟩, h1.at fun o q => k i1 (by simp) o q, h2.at fun o q => k i2 (by simp) o q⟩
  item := by
    intro X hP hw hK hc i pins s σ H E I hf st hg
    subst hP hw hK
    obtain ⟨⟨f0, f1, p0, p1, zz⟩, ti, ⟨x0, y0, to⟩, h1, h2⟩ := st
    obtain ⟨xs, ys, x, y, qx, qy, ex, ey⟩ := hg
    obtain ⟨its, rv, tp, _⟩ := I.tuple qx
    obtain ⟨its2, rv2, tp2, _⟩ := I.tuple qy
    obtain ⟨v1, g1, w1⟩ := rv.get ex
    obtain ⟨v2, g2, w2⟩ := rv2.get ey
    have b0 : u < s.heap.objs.size := Heap.lt_size zz
    have bI : TI < s.heap.objs.size := Heap.lt_size ti
    have bO : TO < s.heap.objs.size := Heap.lt_size to
    have b1 : i1 < s.heap.objs.size := by
      obtain ⟨_, q, _⟩ := h1
      exact Heap.lt_size q
    have b2 : i2 < s.heap.objs.size := by
      obtain ⟨_, q, _⟩ := h2
      exact Heap.lt_size q
    refine zp_item D p0 p1 zz ti to h1 h2 tp tp2 (x := v1) (y := v2) (by simpa using g1) (by simpa using g2) fun m zn => ?_
    obtain ⟨z', ⟨ta, tb, to'⟩, n1, n2, np, sz, kp⟩ := zn
    refine ⟨_, rfl, ?_⟩
    unfold letOwnedTupleGo
    refine wpAny_pure ?_
    have fresh : ObjOk X.prog X.w (upd H s.heap.objs.size (.tup [x, y])) m s.heap.objs.size (.tup [x, y]) :=
      ⟨by show 2 ≤ sizeLine; decide, [v1, v2], .cons w1 (.cons w2 .nil), ⟨_, np, rfl, _, rfl⟩⟩
    have stay : ∀ c o, c ∉ [u, TI, TO, i1, i2] → s.heap.get? c = some o → m.get? c = some o := fun c o hb q => kp c o (fun e => hb (by simp [e])) (fun e => hb (by simp [e])) (fun e => hb (by simp [e])) (fun e => hb (by simp [e])) q
    have I1 := I.turnedNew (t' := s.toks) (ch := [u, TI, TO, i1, i2]) stay hf (Nat.le_refl _) fresh
    refine ⟨.ref s.heap.objs.size, _, I1, rfl, ⟨_, x, y, rfl, I.hok.fresh (Nat.le_refl _), rfl, fun l hl => by rw [I.tuple_inj hl qx]; exact ex, fun l hl => by rw [I.tuple_inj hl qy]; exact ey⟩,
      ⟨z', kp _ _ D.TIz D.TITO D.TIi1 D.TIi2 ti, ⟨ta, tb, to'⟩, n1, n2⟩, fun c hcm => ?_⟩
    have lt : c < s.heap.objs.size := by
      have hcm2 := hcm
      simp only [List.mem_cons, List.not_mem_nil, or_false] at hcm2
      rcases hcm2 with e | e | e | e | e <;> (subst e; assumption)
    rw [upd_ne (Nat.ne_of_lt lt)]
    exact (hf c hcm).1
  done := by
    intro X hP hw hK hc i pins s σ H E I hf st hg
    subst hP hw hK
    obtain ⟨⟨f0, f1, p0, p1, zz⟩, ti, ⟨x0, y0, to⟩, h1, h2⟩ := st
    obtain ⟨xs, ys, qx, qy, en⟩ := hg
    obtain ⟨its, rv, tp, _⟩ := I.tuple qx
    obtain ⟨its2, rv2, tp2, _⟩ := I.tuple qy
    have l1 := rv.length
    have l2 := rv2.length
    have no : its.toArray[i]? = none ∨ its2.toArray[i]? = none := by
      rcases en with q | q
      · exact .inl (by simp; omega)
      · exact .inr (by simp; omega)
    refine zp_end (I.ok.hd hc) D p0 p1 zz ti to h1 h2 tp tp2 no fun m ze => ⟨rfl, ?_⟩
    exact I.turnedL (t' := s.toks) (ch := [u, TI, TO, i1, i2]) (fun c o hb q => ze c o (fun e => hb (by simp [e])) (fun e => hb (by simp [e])) (fun e => hb (by simp [e])) (fun e => hb (by simp [e])) q) hf
  self := fun A i s Q E st h => by
    obtain ⟨⟨f0, f1, _, _, zz⟩, _⟩ := st
    exact z_iter zz h
/-- zip(t, u) of tuples -/
def iZn (K : PySem.W.Frag) (ta : TA) : TI := fun σ H R => ta σ H fun vs H1 => ∃ a b xs ys, vs = [.ref a, .ref b] ∧ SqT K H1 a xs ∧ SqT K H1 b ys ∧ R (RZ.ItzT K a b) H1
theorem i_zipN {X : Cx} {K : PySem.W.Frag} {e e2 : Expr} {ta : TA} {p pos npos : Pos} {nm : Str} (ek : X.K = K) (hg : Gl X "zip") (hm : X.mg "zip" = none) (ha : PA X [e, e2] ta)
    (hs : starEach [e, e2] X.env = (false, eval e X.env) :: starEach [e2] X.env := by rfl) (hp : (backTo pos (starEach [e2] X.env)).any (·.1) = false := by rfl) :
    PI X (.Name nm npos) (.Call (.Name "zip" p) [e, e2] [] pos) (iZn K ta) := by
  subst ek
  refine ⟨fun pins s σ H R I h => ?_⟩
  refine Call_ (ld_blt I hg hm PyProof.Rows.boot_zip (PyProof.Rows.callWith_type1 (thn (ha.run pos pins s σ H _ I h) fun us s1 ⟨vs, H1, I1, r1, q1⟩ => ?_) hs hp))
  obtain ⟨a, b, xs, ys, rfl, qx, qy, q⟩ := q1
  obtain ⟨ua, ub, rfl, ra, rb⟩ : ∃ ua ub, us = [ua, ub] ∧ RelV (.ref a) ua ∧ RelV (.ref b) ub := by
    cases r1 with
    | cons r rr =>
      cases rr with
      | cons r' rr =>
        cases rr
        exact ⟨_, _, rfl, r, r'⟩
  cases ra
  cases rb
  obtain ⟨its, rv, tp, _⟩ := I1.tuple qx
  obtain ⟨its2, rv2, tp2, _⟩ := I1.tuple qy
  have la : a < s1.heap.objs.size := tp.lt
  have lb : b < s1.heap.objs.size := tp2.lt
  refine RZ.call_zipT tp tp2 fun m hz hTI hTO n1 n2 hsz hk => z_iter (f0 := .none) (f1 := .bool false) hz ?_
  refine ⟨s1.heap.objs.size + 4, [s1.heap.objs.size + 4, s1.heap.objs.size + 2, s1.heap.objs.size + 3, s1.heap.objs.size, s1.heap.objs.size + 1], _, _, H1, rfl, I1.kept (t' := s1.toks) hk,
    turn_zipN (PySem.W.ktu_apart s1.heap.objs.size a b la lb), ⟨⟨.none, .bool false, .inl rfl, ⟨false, rfl⟩, hz⟩, hTI, ⟨_, _, hTO⟩, n1, n2⟩, fun c hcm => ?_, q⟩
  have le : s1.heap.objs.size ≤ c := by
    simp only [List.mem_cons, List.not_mem_nil, or_false] at hcm
    rcases hcm with e | e | e | e | e <;> subst e
    · exact Nat.le_add_right _ _
    · exact Nat.le_add_right _ _
    · exact Nat.le_add_right _ _
    · exact Nat.le_refl _
    · exact Nat.le_add_right _ _
  exact I1.fpOk le (I1.hok.fresh le)
/-- a walk of two tuples, pair by pair -/
theorem r_forZ {K : PySem.W.Frag} {g : TG} {tb : TS} {D : Ends} {σ : L2.St} {H : Hp} {a b : Addr} (xs ys : List V) (n : Nat) (hx : xs.length = n) (hy : ys.length = n) (Pv : Nat → L2.St → Hp → Prop) (h0 : Pv 0 σ H)
    (hl : ∀ i σ H, i ≤ n → Pv i σ H → SqT K H a xs ∧ SqT K H b ys)
    (hs : ∀ i x y σ H T, xs[i]? = some x → ys[i]? = some y → Pv i σ H → H T = none → g (.ref T) σ (upd H T (.tup [x, y])) fun σ2 H2 => tb { D with nx := Pv (i + 1), ct := Pv (i + 1), bk := D.nx } σ2 H2)
    (hd : ∀ σ H, Pv n σ H → D.nx σ H) : tFor (fun _ H2 R => R (RZ.ItzT K a b) H2) g tb D σ H := by
  refine ⟨fun i m σ H => m = n - i ∧ i ≤ n ∧ Pv i σ H, ⟨n, by omega, Nat.zero_le _, h0⟩, ?_⟩
  rintro i m σ H ⟨rfl, hi, p⟩
  obtain ⟨qx, qy⟩ := hl i σ H hi p
  by_cases lt : i < n
  · have ix : i < xs.length := by omega
    have iy : i < ys.length := by omega
    refine Or.inr ⟨⟨xs, ys, xs[i], ys[i], qx, qy, by simp [ix], by simp [iy]⟩, Pv (i + 1), fun σ' H' p' => ⟨n - (i + 1), by omega, rfl, lt, p'⟩, fun v H' yy => ?_⟩
    obtain ⟨T, x, y, rfl, nT, rfl, f1, f2⟩ := yy
    exact hs i x y σ H T (f1 xs qx) (f2 ys qy) p nT
  · have e : i = n := by omega
    subst e
    exact Or.inl ⟨⟨xs, ys, qx, qy, .inl (by omega)⟩, hd σ H p⟩
theorem r_forZn {K : PySem.W.Frag} {g : TG} {tb : TS} {D : Ends} {σ : L2.St} {H : Hp} {ta : TA} (h : ta σ H fun vs H1 => ∃ a b xs ys, vs = [.ref a, .ref b] ∧ SqT K H1 a xs ∧ SqT K H1 b ys ∧ tFor (fun _ H2 R => R (RZ.ItzT K a b) H2) g tb D σ H1) :
    tFor (iZn K ta) g tb D σ H := h
end Vf

namespace Vf
open PySem PySem.Spec PyProof.Rows L2
/-! ## *= and //= of ints -/
def ipC (C : Int → Int → Prop) (f : Int → Int → Int) : TIp := fun x y H Q => ∃ i j, x = .int i ∧ y = .int j ∧ C i j ∧ Q (.int (f i j)) H
theorem r_ipC {C : Int → Int → Prop} {f : Int → Int → Int} {i j : Int} {H : Hp} {Q : VK} (c : C i j) (q : Q (.int (f i j)) H) : ipC C f (.int i) (.int j) H Q := ⟨i, j, rfl, rfl, c, q⟩
section
variable {X : Cx}
theorem ip_mulX : PIp X .Mult (ipC CMulX fun i j => i * j) := by
  intro pins s σ H x y v u Q I rx ry h
  obtain ⟨i, j, rfl, rfl, c, q⟩ := h
  obtain ⟨t1, rfl⟩ := rx
  obtain ⟨t2, rfl⟩ := ry
  exact PySem.AutoIntOps.imul_0 ⟨.int _, H, I.tok _, ⟨_, rfl⟩, q⟩ c.ok
theorem ip_fdivW : PIp X .FloorDiv (ipC CDivW fun i j => i / j) := by
  intro pins s σ H x y v u Q I rx ry h
  obtain ⟨i, j, rfl, rfl, c, q⟩ := h
  obtain ⟨t1, rfl⟩ := rx
  obtain ⟨t2, rfl⟩ := ry
  have j0 : (0 : Int) < j := c.1
  refine PySem.AutoIntOps.ifloordiv_1 (by simp; omega) (by rw [PyProof.noPylong_of_log2 c.2]; decide) ?_
  rw [Int.fdiv_eq_ediv_of_nonneg i (by omega)]
  exact ⟨.int _, H, I.tok _, ⟨_, rfl⟩, q⟩
end
/-! ## zip under two names -/
theorem r_forZa {K : PySem.W.Frag} {g : TG} {tb : TS} {D : Ends} {σ : L2.St} {H : Hp} {ta : TA} (h : ta σ H fun vs H1 => ∃ a b xs ys, vs = [.ref a, .ref b] ∧ ((SqL K H1 a xs ∧ SqL K H1 b ys ∧ tFor (fun _ H2 R => R (Itz K a b) H2) g tb D σ H1) ∨
    (SqT K H1 a xs ∧ SqT K H1 b ys ∧ tFor (fun _ H2 R => R (RZ.ItzT K a b) H2) g tb D σ H1))) : tFor (RZ.iZipA K ta) g tb D σ H := h
end Vf

namespace Vf
open PySem PySem.Spec PyProof.Rows L2
/-! ## tuples of ints, compared and shown -/
section
variable {K : PySem.W.Frag} {H : Hp} {Q : VK}
def tupD (ns : List Int) : PyData := .tuple (ns.map PyData.int)
theorem Dp.tupD {a : Addr} {ns : List Int} (h : SqT K H a (ns.map V.int)) : Dp K H (.ref a) (tupD ns) := .tup h (DpAll.ints ns)
theorem shapedTup (ns : List Int) : SeqAt.shaped (tupD ns) = true := by
  unfold SeqAt.shaped
  rw [Bool.and_eq_true]
  refine ⟨canInts ns, decide_eq_true ?_⟩
  show PyData.depthAll (ns.map PyData.int) + 1 ≤ 64
  rw [depthInts]; decide
theorem r_neT {a b : Addr} (ns ms : List Int) (h1 : SqT K H a (ns.map V.int)) (h2 : SqT K H b (ms.map V.int)) (h : Q (.bl (!decide (ns = ms))) H) : rNeD K (.ref a) (.ref b) H Q := by
  refine r_neD (Dp.tupD h1) (Dp.tupD h2) (shapedTup ns) (shapedTup ms) ?_
  rw [show PyData.eqv (tupD ns) (tupD ms) = decide (ns = ms) from eqvInts ns ms]
  exact h
def twoD (ns ms : List Int) : PyData := .list [tupD ns, tupD ms]
theorem r_reprTT {a t1 t2 : Addr} (ns ms : List Int) (hs : SqL K H a [.ref t1, .ref t2]) (h1 : SqT K H t1 (ns.map V.int)) (h2 : SqT K H t2 (ms.map V.int)) (b1 : ∀ n ∈ ns, n.natAbs < 2 ^ 1900) (b2 : ∀ n ∈ ms, n.natAbs < 2 ^ 1900)
    (l1 : ns.length ≤ 20) (l2 : ms.length ≤ 20) (h : Q (.str (twoD ns ms).shown) H) : rRepr K [.ref a] H Q := by
  refine r_reprD (twoD ns ms) (Dp.lst hs (.cons (Dp.tupD h1) (.cons (Dp.tupD h2) .nil))) ?_ ?_ ?_ h
  · show (tameAll (ns.map PyData.int) && (tameAll (ms.map PyData.int) && true)) = true
    rw [tameInts ns b1, tameInts ms b2]
    rfl
  · show max (PyData.depthAll (ns.map PyData.int) + 1) (max (PyData.depthAll (ms.map PyData.int) + 1) 0) + 1 ≤ 40
    rw [depthInts, depthInts]
    decide
  · show 4 + ((4 + roomAll (ns.map PyData.int)) + 2 + ((4 + roomAll (ms.map PyData.int)) + 2 + 0)) ≤ 100000
    rw [roomInts, roomInts]
    omega
end
end Vf

namespace Vf
open PySem PySem.Spec PyProof.Rows L2
/-! ## zip of three tuples -/
/-- the tuples at a, b, c, item by item in new triples -/
def ItT3 (K : PySem.W.Frag) (a b c : Addr) : It :=
  ⟨fun i H => ∃ (xs ys zs : List V), (SqT K H a xs ∧ SqT K H b ys ∧ SqT K H c zs) ∧ i < xs.length ∧ i < ys.length ∧ i < zs.length,
   fun i H v H' => ∃ T x y z, v = .ref T ∧ H T = none ∧ H' = upd H T (.tup [x, y, z]) ∧ (∀ xs, SqT K H a xs → xs[i]? = some x) ∧ (∀ ys, SqT K H b ys → ys[i]? = some y) ∧ ∀ zs, SqT K H c zs → zs[i]? = some z,
   fun i H => ∃ (xs ys zs : List V), (SqT K H a xs ∧ SqT K H b ys ∧ SqT K H c zs) ∧ (i ≤ xs.length ∧ i ≤ ys.length ∧ i ≤ zs.length) ∧ (i = xs.length ∨ i = ys.length ∨ i = zs.length)⟩
/-- the cells of it -/
structure Six (u TI TO i1 i2 i3 a b c : Addr) : Prop where
  ap : u ≠ TI ∧ u ≠ TO ∧ u ≠ i1 ∧ u ≠ i2 ∧ u ≠ i3 ∧ TI ≠ TO ∧ TI ≠ i1 ∧ TI ≠ i2 ∧ TI ≠ i3 ∧ TO ≠ i1 ∧ TO ≠ i2 ∧ TO ≠ i3 ∧ i1 ≠ i2 ∧ i1 ≠ i3 ∧ i2 ≠ i3
  a0 : a ≠ u ∧ a ≠ TI ∧ a ≠ TO ∧ a ≠ i1 ∧ a ≠ i2 ∧ a ≠ i3
  b0 : b ≠ u ∧ b ≠ TI ∧ b ≠ TO ∧ b ≠ i1 ∧ b ≠ i2 ∧ b ≠ i3
  c0 : c ≠ u ∧ c ≠ TI ∧ c ≠ TO ∧ c ≠ i1 ∧ c ≠ i2 ∧ c ≠ i3
theorem Six.sep {u TI TO i1 i2 i3 a b c : Addr} (S : Six u TI TO i1 i2 i3 a b c) : ZipSep3 u TI TO i1 i2 i3 [i1, a] [i2, b] [i3, c] := by
  obtain ⟨⟨s1, s2, s3, s4, s5, s6, s7, s8, s9, s10, s11, s12, s13, s14, s15⟩, ⟨a1, a2, a3, a4, a5, a6⟩, ⟨b1, b2, b3, b4, b5, b6⟩, ⟨c1, c2, c3, c4, c5, c6⟩⟩ := S
  constructor <;> simp [*, Ne.symm s1, Ne.symm s2, Ne.symm s3, Ne.symm s6, Ne.symm a1, Ne.symm a3, Ne.symm a4, Ne.symm a5, Ne.symm a6, Ne.symm b1, Ne.symm b3, Ne.symm b4, Ne.symm b5, Ne.symm b6, Ne.symm c1, Ne.symm c3, Ne.symm c4, Ne.symm c5, Ne.symm c6, Ne.symm s13, Ne.symm s14, Ne.symm s15]
def Z3At (u TI TO i1 i2 i3 a b c : Addr) (i : Nat) (h : Heap) : Prop :=
  IsZip h u TI TO .none ∧ IsTupOf3 h TI (.ref i1) (.ref i2) (.ref i3) ∧ (∃ x y z, IsTupOf3 h TO x y z) ∧ h.IsTupleIter i1 a i ∧ h.IsTupleIter i2 b i ∧ h.IsTupleIter i3 c i
theorem turn_zip3 {P : Program} {w : World} {K : PySem.W.Frag} {elts : List Expr} {kk : Nat} {tpos : Pos} {u TI TO i1 i2 i3 a b c : Addr} (S : Six u TI TO i1 i2 i3 a b c) :
    Turn P w K (.Tuple elts kk tpos) (ItT3 K a b c) [u, TI, TO, i1, i2, i3] u (Z3At u TI TO i1 i2 i3 a b c) where
  mem := List.mem_cons_self
  obj := fun i h st d hd => by
    obtain ⟨zz, ti, ⟨x, y, z, to⟩, ⟨o1, e1, _, d1⟩, ⟨o2, e2, _, d2⟩, ⟨o3, e3, _, d3⟩⟩ := st
    simp only [List.mem_cons, List.not_mem_nil, or_false] at hd
    rcases hd with e | e | e | e | e | e
    · subst e; exact ⟨_, zz, fun v q => nomatch q⟩
    · subst e; exact ⟨_, ti, fun v q => nomatch q⟩
    · subst e; exact ⟨_, to, fun v q => nomatch q⟩
    · subst e; exact ⟨o1, e1, fun v q => by rw [d1] at q; cases q⟩
    · subst e; exact ⟨o2, e2, fun v q => by rw [d2] at q; cases q⟩
    · subst e; exact ⟨o3, e3, fun v q => by rw [d3] at q; cases q⟩
  keep := fun i h h' st k => by
    obtain ⟨zz, ti, ⟨x, y, z, to⟩, h1, h2, h3⟩ := st
    exact ⟨k u (by simp) _ zz, k TI (by simp) _ ti, ⟨x, y, z, k TO (by simp) _ to⟩, h1.at fun o q => k i1 (by simp) o q, h2.at fun o q => k i2 (by simp) o q, h3.at fun o q => k i3 (by simp) o q⟩
  item := by
    intro X hP hw hK hc i pins s σ H E I hf st hg
    subst hP hw hK
    obtain ⟨zz, ti, ⟨x0, y0, z0, to⟩, h1, h2, h3⟩ := st
    obtain ⟨xs, ys, zs, ⟨qx, qy, qz⟩, lx, ly, lz⟩ := hg
    obtain ⟨v1, r1, t1, _⟩ := I.tuple qx
    obtain ⟨v2, r2, t2, _⟩ := I.tuple qy
    obtain ⟨v3, r3, t3, _⟩ := I.tuple qz
    obtain ⟨y1, g1, w1⟩ := r1.get (List.getElem?_eq_getElem lx)
    obtain ⟨y2, g2, w2⟩ := r2.get (List.getElem?_eq_getElem ly)
    obtain ⟨y3, g3, w3⟩ := r3.get (List.getElem?_eq_getElem lz)
    have n1 := r1.length
    have n2 := r2.length
    have n3 := r3.length
    have hd := I.ok.hd hc
    have b0 : u < s.heap.objs.size := Heap.lt_size zz
    have bI : TI < s.heap.objs.size := Heap.lt_size ti
    have bO : TO < s.heap.objs.size := Heap.lt_size to
    have b1 : i1 < s.heap.objs.size := by
      obtain ⟨_, q, _⟩ := h1
      exact Heap.lt_size q
    have b2 : i2 < s.heap.objs.size := by
      obtain ⟨_, q, _⟩ := h2
      exact Heap.lt_size q
    have b3 : i3 < s.heap.objs.size := by
      obtain ⟨_, q, _⟩ := h3
      exact Heap.lt_size q
    refine wpAny_pyNext_zipD3_item S.sep (drawsT (A := X.A.in1) hd i1 a S.a0.2.2.2.1 v1.toArray) (drawsT (A := X.A.in1) hd i2 b S.b0.2.2.2.2.1 v2.toArray) (drawsT (A := X.A.in1) hd i3 c S.c0.2.2.2.2.2 v3.toArray)
      zz ti to ⟨h1, t1⟩ ⟨h2, t2⟩ ⟨h3, t3⟩ (by simp; omega) (by simp; omega) (by simp; omega) fun x1 x2 x3 m tk p1 p2 p3 zz' to' st1 st2 st3 np sz kp => ?_
    obtain rfl : y1 = x1 := by
      have : v1[i]? = some x1 := by simpa using p1
      rw [g1] at this
      exact Option.some.inj this
    obtain rfl : y2 = x2 := by
      have : v2[i]? = some x2 := by simpa using p2
      rw [g2] at this
      exact Option.some.inj this
    obtain rfl : y3 = x3 := by
      have : v3[i]? = some x3 := by simpa using p3
      rw [g3] at this
      exact Option.some.inj this
    refine ⟨_, rfl, wpAny_letOwnedTupleGo_zip (s := { s with heap := m, toks := tk }) zz' fun m2 zz2 sb => ?_⟩
    have np2 : IsTupOf3 m2 s.heap.objs.size y1 y2 y3 := (sb.2 _ (Nat.ne_of_gt b0)).trans np
    have fresh : ObjOk X.prog X.w (upd H s.heap.objs.size (.tup [xs[i], ys[i], zs[i]])) m2 s.heap.objs.size (.tup [xs[i], ys[i], zs[i]]) :=
      ⟨by show 3 ≤ sizeLine; decide, [y1, y2, y3], .cons w1 (.cons w2 (.cons w3 .nil)), ⟨_, np2, rfl, _, rfl⟩⟩
    have stay : ∀ d o, d ∉ [u, TI, TO, i1, i2, i3] → s.heap.get? d = some o → m2.get? d = some o := fun d o hb q =>
      (sb.2 d (fun e => hb (by simp [e]))).trans (kp d o (fun e => hb (by simp [e])) (fun e => hb (by simp [e])) (fun e => hb (by simp [e])) (fun e => hb (by simp [e])) (fun e => hb (by simp [e])) q)
    have I1 := I.turnedNew (t' := tk) (ch := [u, TI, TO, i1, i2, i3]) stay hf (Nat.le_refl _) fresh
    obtain ⟨⟨s1, s2, s3, s4, s5, s6, s7, s8, s9, s10, s11, s12, s13, s14, s15⟩, _, _, _⟩ := S
    refine ⟨.ref s.heap.objs.size, _, I1, rfl, ⟨_, xs[i], ys[i], zs[i], rfl, I.hok.fresh (Nat.le_refl _), rfl, fun l hl => by rw [I.tuple_inj hl qx]; exact List.getElem?_eq_getElem lx, fun l hl => by rw [I.tuple_inj hl qy]; exact List.getElem?_eq_getElem ly,
      fun l hl => by rw [I.tuple_inj hl qz]; exact List.getElem?_eq_getElem lz⟩, ⟨zz2, (sb.2 _ (Ne.symm s1)).trans (kp _ _ (Ne.symm s1) s6 s7 s8 s9 ti), ⟨_, _, _, (sb.2 _ (Ne.symm s2)).trans to'⟩, st1.1.at fun o q => (sb.2 _ (Ne.symm s3)).trans q, st2.1.at fun o q => (sb.2 _ (Ne.symm s4)).trans q,
      st3.1.at fun o q => (sb.2 _ (Ne.symm s5)).trans q⟩, fun d hdm => ?_⟩
    have lt : d < s.heap.objs.size := by
      have h2 := hdm
      simp only [List.mem_cons, List.not_mem_nil, or_false] at h2
      rcases h2 with e | e | e | e | e | e <;> (subst e; assumption)
    rw [upd_ne (Nat.ne_of_lt lt)]
    exact (hf d hdm).1
  done := by
    intro X hP hw hK hc i pins s σ H E I hf st hg
    subst hP hw hK
    obtain ⟨zz, ti, ⟨x0, y0, z0, to⟩, h1, h2, h3⟩ := st
    obtain ⟨xs, ys, zs, ⟨qx, qy, qz⟩, ⟨lx, ly, lz⟩, en⟩ := hg
    obtain ⟨v1, r1, t1, _⟩ := I.tuple qx
    obtain ⟨v2, r2, t2, _⟩ := I.tuple qy
    obtain ⟨v3, r3, t3, _⟩ := I.tuple qz
    have n1 := r1.length
    have n2 := r2.length
    have n3 := r3.length
    have hd := I.ok.hd hc
    refine wpAny_pyNext_zipD3_end S.sep (drawsT (A := X.A.in1) hd i1 a S.a0.2.2.2.1 v1.toArray) (drawsT (A := X.A.in1) hd i2 b S.b0.2.2.2.2.1 v2.toArray) (drawsT (A := X.A.in1) hd i3 c S.c0.2.2.2.2.2 v3.toArray)
      zz ti to ⟨h1, t1⟩ ⟨h2, t2⟩ ⟨h3, t3⟩ (by simp; omega) (by simp; omega) (by simp; omega) (by simp; omega) fun m tk kp => ⟨rfl, ?_⟩
    exact I.turnedL (t' := tk) (ch := [u, TI, TO, i1, i2, i3]) (fun d o hb q => kp d o (fun e => hb (by simp [e])) (fun e => hb (by simp [e])) (fun e => hb (by simp [e])) (fun e => hb (by simp [e])) (fun e => hb (by simp [e])) q) hf
  self := fun A i s Q E st h => wpAny_pyIter_zip st.1 h
end Vf

namespace Vf
open PySem PySem.Spec PyProof.Rows L2
/-! ## zip of three tuples: the rule, and a comprehension over it -/
def iZ3 (K : PySem.W.Frag) (ta : TA) : TI := fun σ H R => ta σ H fun vs H1 => ∃ a b c xs ys zs, vs = [.ref a, .ref b, .ref c] ∧ (SqT K H1 a xs ∧ SqT K H1 b ys ∧ SqT K H1 c zs) ∧ R (ItT3 K a b c) H1
theorem six_new (n a b c : Nat) (ha : a < n) (hb : b < n) (hc : c < n) : Six (n + 5) (n + 3) (n + 4) n (n + 1) (n + 2) a b c := by
  refine ⟨⟨?_, ?_, ?_, ?_, ?_, ?_, ?_, ?_, ?_, ?_, ?_, ?_, ?_, ?_, ?_⟩, ⟨?_, ?_, ?_, ?_, ?_, ?_⟩, ⟨?_, ?_, ?_, ?_, ?_, ?_⟩, ⟨?_, ?_, ?_, ?_, ?_, ?_⟩⟩ <;> (show _ ≠ _; intro e; have e2 : (_ : Nat) = _ := e; omega)
theorem i_zip3 {X : Cx} {K : PySem.W.Frag} {e1 e2 e3 : Expr} {ta : TA} {p pos tpos : Pos} {elts : List Expr} {kk : Nat} (ek : X.K = K) (hg : Gl X "zip") (hm : X.mg "zip" = none) (ha : PA X [e1, e2, e3] ta)
    (hs : starEach [e1, e2, e3] X.env = (false, eval e1 X.env) :: starEach [e2, e3] X.env := by rfl) (hp : (backTo pos (starEach [e2, e3] X.env)).any (·.1) = false := by rfl) :
    PI X (.Tuple elts kk tpos) (.Call (.Name "zip" p) [e1, e2, e3] [] pos) (iZ3 K ta) := by
  subst ek
  refine ⟨fun pins s σ H R I h => ?_⟩
  refine Call_ (ld_blt I hg hm PyProof.Rows.boot_zip (PyProof.Rows.callWith_type1 (thn (ha.run pos pins s σ H _ I h) fun us s1 ⟨vs, H1, I1, r1, q1⟩ => ?_) hs hp))
  obtain ⟨a, b, c, xs, ys, zs, rfl, ⟨qx, qy, qz⟩, q⟩ := q1
  obtain ⟨ua, ub, uc, rfl, ra, rb, rc⟩ : ∃ ua ub uc, us = [ua, ub, uc] ∧ RelV (.ref a) ua ∧ RelV (.ref b) ub ∧ RelV (.ref c) uc := by
    cases r1 with
    | cons r rr =>
      cases rr with
      | cons r' rr =>
        cases rr with
        | cons r'' rr =>
          cases rr
          exact ⟨_, _, _, rfl, r, r', r''⟩
  cases ra
  cases rb
  cases rc
  obtain ⟨v1, _, t1, _⟩ := I1.tuple qx
  obtain ⟨v2, _, t2, _⟩ := I1.tuple qy
  obtain ⟨v3, _, t3, _⟩ := I1.tuple qz
  have la : a < s1.heap.objs.size := t1.lt
  have lb : b < s1.heap.objs.size := t2.lt
  have lc : c < s1.heap.objs.size := t3.lt
  refine zip_begins3 (begins_tuple a v1.toArray) (begins_tuple b v2.toArray) (begins_tuple c v3.toArray) t1 t2 t3 fun m hz hTI hTO g1 g2 g3 hsz hk => wpAny_pyIter_zip hz ?_
  refine ⟨s1.heap.objs.size + 5, [s1.heap.objs.size + 5, s1.heap.objs.size + 3, s1.heap.objs.size + 4, s1.heap.objs.size, s1.heap.objs.size + 1, s1.heap.objs.size + 2], _, _, H1, rfl, I1.kept (t' := s1.toks) hk,
    turn_zip3 (six_new s1.heap.objs.size a b c la lb lc), ⟨hz, hTI, ⟨_, _, _, hTO⟩, ⟨_, g1, rfl, rfl⟩, ⟨_, g2, rfl, rfl⟩, ⟨_, g3, rfl, rfl⟩⟩, fun d hd => ?_, q⟩
  have le : s1.heap.objs.size ≤ d := by
    simp only [List.mem_cons, List.not_mem_nil, or_false] at hd
    rcases hd with e | e | e | e | e | e <;> subst e
    · exact Nat.le_add_right _ _
    · exact Nat.le_add_right _ _
    · exact Nat.le_add_right _ _
    · exact Nat.le_refl _
    · exact Nat.le_add_right _ _
    · exact Nat.le_add_right _ _
  exact I1.fpOk le (I1.hok.fresh le)
section
variable {K : PySem.W.Frag} {σ : L2.St} {H : Hp} {Q : VK} {g : TG} {tt : TT} {te : TE} {vs : List Nat}
theorem r_lcZ3i {ta : TA} (h : ta σ H fun ws H1 => ∃ a b c xs ys zs, ws = [.ref a, .ref b, .ref c] ∧ (SqT K H1 a xs ∧ SqT K H1 b ys ∧ SqT K H1 c zs) ∧ tLc (fun _ H2 R => R (ItT3 K a b c) H2) g tt te vs σ H1 Q) : tLc (iZ3 K ta) g tt te vs σ H Q := h
theorem r_lcZ3 {a b c : Addr} (xs ys zs : List V) (n : Nat) (nx : xs.length = n) (ny : ys.length = n) (nz : zs.length = n) (Pv : Addr → Nat → Hp → Prop) (h0 : ∀ D, H D = none → Pv D 0 (upd H D (.lst [])))
    (hl : ∀ D i H', H D = none → i ≤ n → Pv D i H' → SqT K H' a xs ∧ SqT K H' b ys ∧ SqT K H' c zs)
    (hs : ∀ D i x y z H' T, H D = none → xs[i]? = some x → ys[i]? = some y → zs[i]? = some z → Pv D i H' → H' T = none → g (.ref T) (wipe σ vs) (upd H' T (.tup [x, y, z])) fun σ2 H2 => wipe σ2 vs = wipe σ vs ∧ tt σ2 H2 fun b H3 =>
      if b = true then te σ2 H3 fun y H4 => ∃ acc, H4 D = some (.lst acc) ∧ acc.length < sizeLine ∧ Pv D (i + 1) (upd H4 D (.lst (acc ++ [y]))) else Pv D (i + 1) H3)
    (hd : ∀ D H', H D = none → Pv D n H' → Q (.ref D) H') : tLc (fun _ H2 R => R (ItT3 K a b c) H2) g tt te vs σ H Q := by
  refine fun D hD => ⟨fun i m H => m = n - i ∧ i ≤ n ∧ Pv D i H, ⟨n, by omega, Nat.zero_le _, h0 D hD⟩, ?_⟩
  rintro i m H' ⟨rfl, hi, p⟩
  obtain ⟨qx, qy, qz⟩ := hl D i H' hD hi p
  by_cases lt : i < n
  · refine Or.inr ⟨⟨xs, ys, zs, ⟨qx, qy, qz⟩, by omega, by omega, by omega⟩, Pv D (i + 1), fun H' p' => ⟨n - (i + 1), by omega, rfl, lt, p'⟩, fun v H'' yy => ?_⟩
    obtain ⟨T, x, y, z, rfl, nT, rfl, f1, f2, f3⟩ := yy
    exact hs D i x y z H' T hD (f1 xs qx) (f2 ys qy) (f3 zs qz) p nT
  · have e : i = n := by omega
    subst e
    exact Or.inl ⟨⟨xs, ys, zs, ⟨qx, qy, qz⟩, ⟨by omega, by omega, by omega⟩, .inl (by omega)⟩, hd D H' hD p⟩
end
end Vf

namespace Vf
open PySem PySem.Spec PyProof.Rows L2
/-! ## defs as values: named in a list, called by a name of the caller's -/
/-- a def at an address, with its promise -/
def OkL (P : Program) (w : World) (K : PySem.W.Frag) (mg : Str → Option Value) (base : Heap) (k : Nat) (f : Addr) (sp : Sp) : Prop :=
  ∃ (x : Str) (st : Stmt) (ps : List Str) (fd : FuncData), L2.Fun K x x st f fd ∧ L2.Binds K fd ps [] ∧
    (∀ (A : Around) (outer : List Env) (s : Shared) (H : Hp) (args : Args) (us : List Value) (vs : List V) (Q : VK) (E : XK),
      A.guards = some [] → Room k A → Env0 P w K mg base A outer s H → BindsTo s fd args (ps.zip us) → Vals vs us → sp vs H Q E →
        codeAny (model P w) A (.call (.ref f) args) (CR (CX P w) outer P w H s Q E) s) ∧
    ∀ vs H Q E, sp vs H Q E → vs.length = ps.length
section
variable {P : Program} {w : World} {K : PySem.W.Frag} {mg : Str → Option Value} {base : Heap} {k j : Nat} {x : Str} {st : Stmt} {ps : List Str} {sp : Sp}
theorem Ok.val (G : Ok P w K mg base k x st ps sp) (b : ∀ f fd, L2.Fun K x x st f fd → L2.Binds K fd ps []) : ∃ f, mg x = some (.ref f) ∧ OkL P w K mg base k f sp := by
  obtain ⟨⟨f, fd, F, hm, r⟩, l⟩ := G
  exact ⟨f, hm, x, st, ps, fd, F, b f fd F, r, l⟩
end
section
variable {X : Cx} {k i : Nat} {E : XK} {x : Str} {p pos : Pos} {e : Expr} {es : List Expr} {t : TA}
/-- the slot holds one of some defs -/
def tCallH (i : Nat) (S : Addr → Sp → Prop) (E : XK) (t : TA) : TE := fun σ H Q => ∃ f sp, σ[i]? = some (some (.ref f)) ∧ S f sp ∧ t σ H fun vs H1 => sp vs H1 Q E
theorem pe_gl {S : Addr → Sp → Prop} (A : ∀ f sp, S f sp → OkL X.prog X.w X.K X.mg X.base k f sp) (hg : X.A.guards = some []) (hr : Room k X.A) (hx : Passes (CX X.prog X.w) X E)
    (hN : X.N[i]? = some x) (hv : Vis X.env.scope x) (ha : PA X (e :: es) t)
    (hdb : (x == ("__debug__" : Str)) = false := by decide) (hcd : (x == ("__classdict__" : Str)) = false := by decide)
    (he : starEach (e :: es) X.env = (false, eval e X.env) :: starEach es X.env := by rfl)
    (hpl : (backTo pos (starEach es X.env)).any (·.1) = false := by rfl) :
    PE X (.Call (.Name x p) (e :: es) [] pos) (tCallH i S E t) := by
  refine ⟨fun pins s σ H Q I h => ?_⟩
  obtain ⟨f, sp, hs, hS, ht⟩ := h
  obtain ⟨_, _, ps, fd, F, hb, r, l⟩ := A f sp hS
  refine wpAny_Call_Name_kw (thn ((pe_var (pos := p) hN hv hdb hcd).run pins s σ H (fun v H1 => v = .ref f ∧ H1 = H) I ⟨.ref f, hs, rfl, rfl⟩) fun u s1 ⟨v, H1, I1, r1, q1⟩ => ?_)
  obtain ⟨rfl, rfl⟩ := q1
  cases r1
  refine PySem.W.callWith_K (h₀ := X.base) I.ok.mod.kin F.kp
    (thn (ha.run pos pins s1 σ _ _ I1 ht) fun us s2 ⟨vs, H2, I2, r2, q⟩ => ⟨I2.kIn, ?_⟩) he hpl
  have hl : us.length = ps.length := by rw [← r2.length]; exact l _ _ _ _ q
  have bb := hb s2 us I2.kIn (by rw [List.append_nil]; exact hl)
  rw [List.append_nil] at bb
  refine wpAny_call (codeAny_mono (run_g r hg hr hx I2 bb r2 q) fun z s' hz => ?_)
  cases z with
  | error e => exact hz
  | ok fl => cases fl <;> exact hz
/-- the name of a def, as a value -/
theorem pe_gd {f : Addr} {pos : Pos} (gl : Gl X x) (hm : X.mg x = some (.ref f)) (hd : (x == ("__debug__" : Str)) = false := by decide) : PE X (.Name x pos) (tC (.ref f)) :=
  pe_glob gl hm rfl hd
end
theorem r_callH {i : Nat} {S : Addr → Sp → Prop} {E : XK} {t : TA} {σ : L2.St} {H : Hp} {Q : VK} (f : Addr) (sp : Sp) (h1 : σ[i]? = some (some (.ref f))) (h2 : S f sp) (h : t σ H fun vs H1 => sp vs H1 Q E) : tCallH i S E t σ H Q := ⟨f, sp, h1, h2, h⟩
end Vf

namespace Vf
open PySem PySem.Spec PyProof.Rows L2
/-! ## lists of rows -/
section
variable {K : PySem.W.Frag} {H H' : Hp} {Q : VK}
/-- a list of refs to tuples of ints -/
def RowsAt (K : PySem.W.Frag) (H : Hp) (vs : List V) (nss : List (List Int)) : Prop := Paired (fun v ns => ∃ p, v = V.ref p ∧ SqT K H p (ns.map V.int)) vs nss
theorem RowsAt.mono {vs : List V} {nss : List (List Int)} (h : RowsAt K H vs nss) (s : ∀ p xs, SqT K H p xs → SqT K H' p xs) : RowsAt K H' vs nss := by
  induction h with
  | nil => exact .nil
  | cons h1 h2 ih =>
    obtain ⟨p, e, t⟩ := h1
    exact .cons ⟨p, e, s p _ t⟩ ih
theorem RowsAt.same {vs : List V} {nss : List (List Int)} (h : RowsAt K H vs nss) (s : Same H H') : RowsAt K H' vs nss := h.mono fun _ _ t => Same.tup s t
theorem RowsAt.snoc {vs : List V} {nss : List (List Int)} {p : Addr} {ns : List Int} (h : RowsAt K H vs nss) (t : SqT K H p (ns.map V.int)) : RowsAt K H (vs ++ [.ref p]) (nss ++ [ns]) := by
  induction h with
  | nil => exact .cons ⟨p, rfl, t⟩ .nil
  | cons h1 h2 ih => exact .cons h1 ih
theorem RowsAt.len {vs : List V} {nss : List (List Int)} (h : RowsAt K H vs nss) : vs.length = nss.length := Paired.length h
theorem RowsAt.dp {vs : List V} {nss : List (List Int)} (h : RowsAt K H vs nss) : DpAll K H vs (nss.map tupD) := by
  induction h with
  | nil => exact .nil
  | cons h1 h2 ih =>
    obtain ⟨p, e, t⟩ := h1
    rw [e]
    exact .cons (Dp.tupD t) ih
def linesD (nss : List (List Int)) : PyData := .list (nss.map tupD)
theorem tameLines : ∀ nss : List (List Int), (∀ ns ∈ nss, ∀ n ∈ ns, n.natAbs < 2 ^ 1900) → tameAll (nss.map tupD) = true
  | [], _ => rfl
  | ns :: nss, h => by
    show (tameAll (ns.map PyData.int) && tameAll (nss.map tupD)) = true
    rw [tameInts ns (h ns List.mem_cons_self), tameLines nss (fun m hm => h m (List.mem_cons_of_mem _ hm))]
    rfl
theorem roomLines : ∀ nss : List (List Int), (∀ ns ∈ nss, ns.length ≤ 12) → roomAll (nss.map tupD) ≤ 24030 * nss.length
  | [], _ => Nat.le_refl _
  | ns :: nss, h => by
    have h1 := h ns List.mem_cons_self
    have h2 := roomLines nss (fun m hm => h m (List.mem_cons_of_mem _ hm))
    show (4 + roomAll (ns.map PyData.int)) + 2 + roomAll (nss.map tupD) ≤ 24030 * (nss.length + 1)
    rw [roomInts]
    omega
theorem depthLines : ∀ nss : List (List Int), PyData.depthAll (nss.map tupD) ≤ 1
  | [] => Nat.zero_le _
  | ns :: nss => by
    have h2 := depthLines nss
    show max (PyData.depthAll (ns.map PyData.int) + 1) (PyData.depthAll (nss.map tupD)) ≤ 1
    rw [depthInts]
    omega
theorem r_reprTs {a : Addr} {vs : List V} (nss : List (List Int)) (hs : SqL K H a vs) (R : RowsAt K H vs nss) (b : ∀ ns ∈ nss, ∀ n ∈ ns, n.natAbs < 2 ^ 1900) (l1 : nss.length ≤ 4) (l2 : ∀ ns ∈ nss, ns.length ≤ 12)
    (h : Q (.str (linesD nss).shown) H) : rRepr K [.ref a] H Q := by
  refine r_reprD (linesD nss) (Dp.lst hs R.dp) ?_ ?_ ?_ h
  · exact tameLines nss b
  · have := depthLines nss
    show PyData.depthAll (nss.map tupD) + 1 ≤ 40
    omega
  · have := roomLines nss l2
    show 4 + roomAll (nss.map tupD) ≤ 100000
    omega
end
end Vf

namespace Vf
/-! ## sums of powers: lists of ints, lowest first -/
def pval : List Int → Int → Int
  | [], _ => 0
  | c :: t, x => c + x * pval t x
def l1 : List Int → Nat
  | [] => 0
  | c :: t => c.natAbs + l1 t
theorem pval_append : ∀ (p q : List Int) (x : Int), pval (p ++ q) x = pval p x + x ^ p.length * pval q x
  | [], q, x => by simp [pval]
  | c :: p, q, x => by
    have h := pval_append p q x
    simp only [List.cons_append, pval, List.length_cons, h, Int.pow_succ]
    grind
theorem l1_append : ∀ (p q : List Int), l1 (p ++ q) = l1 p + l1 q
  | [], q => by simp [l1]
  | c :: p, q => by
    have h := l1_append p q
    simp only [List.cons_append, l1, h]
    omega
theorem pval_zeros : ∀ (n : Nat) (x : Int), pval (List.replicate n 0) x = 0
  | 0, _ => rfl
  | n + 1, x => by
    rw [List.replicate_succ, pval, pval_zeros n x]
    simp
theorem l1_zeros : ∀ (n : Nat), l1 (List.replicate n 0) = 0
  | 0 => rfl
  | n + 1 => by
    rw [List.replicate_succ, l1, l1_zeros n]
    rfl
theorem pval_set : ∀ {p : List Int} {i : Nat} {c v x : Int}, p[i]? = some c → pval (p.set i (c + v)) x = pval p x + v * x ^ i
  | [], i, c, v, x, h => by simp at h
  | a :: p, 0, c, v, x, h => by
    have e : a = c := by simpa using h
    subst e
    simp only [List.set_cons_zero, pval, Int.pow_zero]
    grind
  | a :: p, i + 1, c, v, x, h => by
    have h2 : p[i]? = some c := by simpa using h
    have ih := pval_set (v := v) (x := x) h2
    simp only [List.set_cons_succ, pval, ih, Int.pow_succ]
    grind
theorem l1_set : ∀ {p : List Int} {i : Nat} {c v : Int}, p[i]? = some c → l1 (p.set i (c + v)) ≤ l1 p + v.natAbs
  | [], i, c, v, h => by simp at h
  | a :: p, 0, c, v, h => by
    have e : a = c := by simpa using h
    subst e
    simp only [List.set_cons_zero, l1]
    omega
  | a :: p, i + 1, c, v, h => by
    have h2 : p[i]? = some c := by simpa using h
    have ih := l1_set (v := v) h2
    simp only [List.set_cons_succ, l1]
    omega
theorem take_nx {α : Type} {p : List α} {i : Nat} {c : α} (h : p[i]? = some c) : p.take (i + 1) = p.take i ++ [c] := by
  rw [List.take_add_one, h]
  rfl
theorem len_tk {p : List Int} {i : Nat} {c : Int} (h : p[i]? = some c) : (p.take i).length = i := by
  have := (List.getElem?_eq_some_iff.mp h).1
  rw [List.length_take]
  omega
theorem pval_take {p : List Int} {i : Nat} {c x : Int} (h : p[i]? = some c) : pval (p.take (i + 1)) x = pval (p.take i) x + c * x ^ i := by
  rw [take_nx h, pval_append, len_tk h]
  simp only [pval]
  grind
theorem l1_take {p : List Int} {i : Nat} {c : Int} (h : p[i]? = some c) : l1 (p.take (i + 1)) = l1 (p.take i) + c.natAbs := by
  rw [take_nx h, l1_append]
  simp only [l1]
  omega
theorem l1_take_le : ∀ (p : List Int) (i : Nat), l1 (p.take i) ≤ l1 p
  | [], i => by simp [l1]
  | a :: p, 0 => by simp [l1]
  | a :: p, i + 1 => by
    have := l1_take_le p i
    simp only [List.take_succ_cons, l1]
    omega
theorem drop_at {α : Type} {p : List α} {i : Nat} {c : α} (h : p[i]? = some c) : p.drop i = c :: p.drop (i + 1) := by
  have hl := (List.getElem?_eq_some_iff.mp h)
  obtain ⟨h1, h2⟩ := hl
  rw [List.drop_eq_getElem_cons h1, h2]
theorem pval_drop {p : List Int} {i : Nat} {c x : Int} (h : p[i]? = some c) : pval (p.drop i) x = c + x * pval (p.drop (i + 1)) x := by
  rw [drop_at h]
  rfl
theorem l1_drop {p : List Int} {i : Nat} {c : Int} (h : p[i]? = some c) : l1 (p.drop i) = c.natAbs + l1 (p.drop (i + 1)) := by
  rw [drop_at h]
  rfl
theorem l1_drop_le : ∀ (p : List Int) (i : Nat), l1 (p.drop i) ≤ l1 p
  | [], i => by simp [l1]
  | a :: p, 0 => Nat.le_refl _
  | a :: p, i + 1 => by
    have := l1_drop_le p i
    simp only [List.drop_succ_cons, l1]
    omega
theorem l1_mem : ∀ {p : List Int} {c : Int}, c ∈ p → c.natAbs ≤ l1 p
  | a :: p, c, h => by
    simp only [l1]
    rcases List.mem_cons.mp h with e | e
    · subst e; omega
    · have := l1_mem e; omega
theorem pval_le : ∀ (p : List Int) (x : Int) (X : Nat), 1 ≤ X → x.natAbs ≤ X → (pval p x).natAbs ≤ l1 p * X ^ p.length
  | [], x, X, _, _ => by simp [pval, l1]
  | c :: p, x, X, h1, hx => by
    have ih := pval_le p x X h1 hx
    simp only [pval, l1, List.length_cons]
    have e1 : (c + x * pval p x).natAbs ≤ c.natAbs + x.natAbs * (pval p x).natAbs := by
      have := Int.natAbs_add_le c (x * pval p x)
      rw [Int.natAbs_mul] at this
      exact this
    have e2 : x.natAbs * (pval p x).natAbs ≤ X * (l1 p * X ^ p.length) := Nat.mul_le_mul hx ih
    have e3 : X * (l1 p * X ^ p.length) = l1 p * X ^ (p.length + 1) := by rw [Nat.pow_succ]; grind
    have e4 : c.natAbs ≤ c.natAbs * X ^ (p.length + 1) := Nat.le_mul_of_pos_right _ (Nat.pow_pos h1)
    rw [Nat.add_mul]
    omega
/-- no number but 0 is divided by all -/
theorem no_div {d : Int} (h : ∀ x : Int, x ≠ 0 → x ∣ d) : d = 0 := by
  rcases Int.lt_trichotomy d 0 with c | c | c
  · have h1 := h (d - 1) (by omega)
    have := Int.le_of_dvd (show 0 < -d by omega) (Int.dvd_neg.mpr ((Int.neg_dvd).mpr h1))
    omega
  · exact c
  · have := Int.le_of_dvd c (h (d + 1) (by omega))
    omega
theorem pval_none : ∀ {p : List Int}, (∀ x : Int, x ≠ 0 → pval p x = 0) → ∀ c ∈ p, c = 0
  | [], _, _, h => by simp at h
  | a :: p, h, c, hc => by
    have ha : a = 0 := no_div fun x hx => by
      have := h x hx
      rw [pval] at this
      exact ⟨-pval p x, by grind⟩
    subst ha
    rcases List.mem_cons.mp hc with e | e
    · exact e
    · refine pval_none (p := p) (fun x hx => ?_) c e
      have := h x hx
      rw [pval, Int.zero_add] at this
      rcases Int.mul_eq_zero.mp this with z | z
      · exact absurd z hx
      · exact z
def psub : List Int → List Int → List Int
  | [], q => q.map fun c => -c
  | p, [] => p
  | a :: p, b :: q => (a - b) :: psub p q
theorem pval_neg : ∀ (q : List Int) (x : Int), pval (q.map fun c => -c) x = -pval q x
  | [], _ => rfl
  | c :: q, x => by
    simp only [List.map_cons, pval, pval_neg q x]
    grind
theorem pval_sub : ∀ (p q : List Int) (x : Int), pval (psub p q) x = pval p x - pval q x
  | [], q, x => by
    have e : psub [] q = q.map fun c => -c := by cases q <;> rfl
    rw [e, pval_neg]
    simp [pval]
  | a :: p, [], x => by simp [psub, pval]
  | a :: p, b :: q, x => by
    simp only [psub, pval, pval_sub p q x]
    grind
theorem psub_all : ∀ (p q : List Int), (∀ c ∈ psub p q, c = 0) → ∀ i, p.getD i 0 = q.getD i 0
  | [], q, h, i => by
    have e : psub [] q = q.map fun c => -c := by cases q <;> rfl
    rw [e] at h
    rw [List.getD_eq_getElem?_getD, List.getD_eq_getElem?_getD]
    cases hq : q[i]? with
    | none => rfl
    | some c =>
      have := h (-c) (List.mem_map.mpr ⟨c, List.mem_of_getElem? hq, rfl⟩)
      have : c = 0 := by omega
      subst this
      rfl
  | a :: p, [], h, i => by
    have h : ∀ c ∈ a :: p, c = 0 := h
    rw [List.getD_eq_getElem?_getD, List.getD_eq_getElem?_getD]
    cases hq : (a :: p)[i]? with
    | none => rfl
    | some c =>
      have := h c (List.mem_of_getElem? hq)
      subst this
      rfl
  | a :: p, b :: q, h, i => by
    have h0 : a - b = 0 := h (a - b) List.mem_cons_self
    have h1 := psub_all p q (fun c hc => h c (List.mem_cons_of_mem _ hc))
    cases i with
    | zero =>
      show a = b
      omega
    | succ i => exact h1 i
/-- without needless 0s at its end -/
def Canon (p : List Int) : Prop := p ≠ [] ∧ (p.length = 1 ∨ p.getD (p.length - 1) 0 ≠ 0)
theorem Canon.len {p : List Int} (h : Canon p) : 1 ≤ p.length := by
  cases p with
  | nil => exact absurd rfl h.1
  | cons a p => simp
theorem getD_out {p : List Int} {i : Nat} (h : p.length ≤ i) : p.getD i 0 = 0 := by
  rw [List.getD_eq_getElem?_getD, List.getElem?_eq_none h]
  rfl
theorem Canon.eq {p q : List Int} (hp : Canon p) (hq : Canon q) (h : ∀ x, pval p x = pval q x) : p = q := by
  have e := psub_all p q (pval_none fun x _ => by rw [pval_sub, h x]; omega)
  have lp := hp.len
  have lq := hq.len
  have el : p.length = q.length := by
    rcases Nat.lt_trichotomy p.length q.length with c | c | c
    · rcases hq.2 with z | z
      · omega
      · exact absurd ((e (q.length - 1)).symm.trans (getD_out (by omega))) z
    · exact c
    · rcases hp.2 with z | z
      · omega
      · exact absurd ((e (p.length - 1)).trans (getD_out (by omega))) z
  refine List.ext_getElem el fun i h1 h2 => ?_
  have := e i
  rw [List.getD_eq_getElem?_getD, List.getD_eq_getElem?_getD, List.getElem?_eq_getElem h1, List.getElem?_eq_getElem h2] at this
  exact this
theorem Canon.one (c : Int) : Canon [c] := ⟨by simp, .inl rfl⟩
theorem Canon.zero {p : List Int} (hp : Canon p) (h : ∀ x, pval p x = 0) : p = [0] := hp.eq (Canon.one 0) fun x => by rw [h x]; simp [pval]
/-- a sum, as a function, with bounds of its size and its degree -/
structure IsP (p : List Int) (f : Int → Int) (B d : Nat) : Prop where
  cn : Canon p
  v : ∀ x, pval p x = f x
  b : l1 p ≤ B
  l : p.length ≤ d + 1
theorem IsP.mono {p : List Int} {f : Int → Int} {B B' d d' : Nat} (h : IsP p f B d) (hb : B ≤ B') (hd : d ≤ d') : IsP p f B' d' := ⟨h.cn, h.v, Nat.le_trans h.b hb, by have := h.l; omega⟩
theorem IsP.eq {p q : List Int} {f g : Int → Int} {B B' d d' : Nat} (h : IsP p f B d) (h' : IsP q g B' d') (e : ∀ x, f x = g x) : p = q := h.cn.eq h'.cn fun x => by rw [h.v, h'.v, e]
theorem IsP.as {p : List Int} {f g : Int → Int} {B d : Nat} (h : IsP p f B d) (e : ∀ x, f x = g x) : IsP p g B d := ⟨h.cn, fun x => by rw [h.v, e], h.b, h.l⟩
/-- how a sum leans -/
def Dv (f g : Int → Int) : Prop := ∀ x h : Int, ∃ k : Int, f (x + h) = f x + h * g x + h * h * k
theorem Dv.uniq {f g g' : Int → Int} (a : Dv f g) (b : Dv f g') (x : Int) : g x = g' x := by
  have : g x - g' x = 0 := no_div fun h hh => by
    obtain ⟨k, e⟩ := a x h
    obtain ⟨k', e'⟩ := b x h
    refine ⟨k' - k, ?_⟩
    have : h * (g x - g' x - h * (k' - k)) = 0 := by grind
    rcases Int.mul_eq_zero.mp this with z | z
    · exact absurd z hh
    · omega
  omega
theorem Dv.add {f g f' g' : Int → Int} (a : Dv f f') (b : Dv g g') : Dv (fun x => f x + g x) (fun x => f' x + g' x) := fun x h => by
  obtain ⟨k, e⟩ := a x h
  obtain ⟨k', e'⟩ := b x h
  exact ⟨k + k', by simp only [e, e']; grind⟩
theorem Dv.mul {f g f' g' : Int → Int} (a : Dv f f') (b : Dv g g') : Dv (fun x => f x * g x) (fun x => f' x * g x + f x * g' x) := fun x h => by
  obtain ⟨k, e⟩ := a x h
  obtain ⟨k', e'⟩ := b x h
  exact ⟨f' x * g' x + f x * k' + k * g x + h * (f' x * k' + k * g' x) + h * h * k * k', by simp only [e, e']; grind⟩
theorem Dv.comp {f g f' g' : Int → Int} (a : Dv f f') (b : Dv g g') : Dv (fun x => f (g x)) (fun x => f' (g x) * g' x) := fun x h => by
  obtain ⟨k', e'⟩ := b x h
  obtain ⟨k, e⟩ := a (g x) (h * g' x + h * h * k')
  refine ⟨k' * f' (g x) + (g' x + h * k') * (g' x + h * k') * k, ?_⟩
  show f (g (x + h)) = _
  rw [e', show g x + h * g' x + h * h * k' = g x + (h * g' x + h * h * k') by omega, e]
  grind
theorem Dv.const (c : Int) : Dv (fun _ => c) (fun _ => 0) := fun x h => ⟨0, by grind⟩
theorem Dv.pow : ∀ (c : Int) (n : Nat), Dv (fun x => c * x ^ (n + 1)) (fun x => ((n + 1 : Nat) : Int) * c * x ^ n)
  | c, 0 => fun x h => ⟨0, by grind⟩
  | c, n + 1 => fun x h => by
    obtain ⟨k, e⟩ := Dv.pow c n x h
    have e : c * (x + h) ^ (n + 1) = c * x ^ (n + 1) + h * (((n + 1 : Nat) : Int) * c * x ^ n) + h * h * k := e
    refine ⟨((n + 1 : Nat) : Int) * c * x ^ n + (x + h) * k, ?_⟩
    show c * (x + h) ^ (n + 1 + 1) = c * x ^ (n + 1 + 1) + h * (((n + 1 + 1 : Nat) : Int) * c * x ^ (n + 1)) + h * h * (((n + 1 : Nat) : Int) * c * x ^ n + (x + h) * k)
    rw [Int.pow_succ (x + h), ← Int.mul_assoc, e, Int.pow_succ x (n + 1)]
    have e2 : x ^ (n + 1) = x ^ n * x := Int.pow_succ ..
    rw [e2]
    have e3 : ((n + 1 + 1 : Nat) : Int) = ((n + 1 : Nat) : Int) + 1 := rfl
    rw [e3]
    grind
theorem Dv.as {f f' g g' : Int → Int} (a : Dv f g) (e : ∀ x, f x = f' x) (e' : ∀ x, g x = g' x) : Dv f' g' := fun x h => by
  obtain ⟨k, z⟩ := a x h
  exact ⟨k, by rw [← e, ← e, ← e', z]⟩
/-- the slope's coefficients -/
def psl (p : List Int) (n : Nat) : List Int := (List.range n).map fun i : Nat => ((i + 1 : Nat) : Int) * p.getD (i + 1) 0
theorem psl_len (p : List Int) (n : Nat) : (psl p n).length = n := by simp [psl]
theorem psl_succ (p : List Int) (n : Nat) : psl p (n + 1) = psl p n ++ [((n + 1 : Nat) : Int) * p.getD (n + 1) 0] := by
  unfold psl
  rw [List.range_succ, List.map_append]
  rfl
theorem psl_dv (p : List Int) : ∀ n, n + 1 ≤ p.length → Dv (pval (p.take (n + 1))) (pval (psl p n))
  | 0, h => by
    obtain ⟨c, hc⟩ : ∃ c, p[0]? = some c := ⟨_, List.getElem?_eq_getElem (by omega)⟩
    refine (Dv.const c).as (fun x => ?_) (fun x => rfl)
    rw [take_nx hc]
    simp [pval]
  | n + 1, h => by
    obtain ⟨c, hc⟩ : ∃ c, p[n + 1]? = some c := ⟨_, List.getElem?_eq_getElem (by omega)⟩
    have ih := psl_dv p n (by omega)
    refine (ih.add (Dv.pow c n)).as (fun x => (pval_take hc).symm) (fun x => ?_)
    rw [psl_succ, pval_append, psl_len, List.getD_eq_getElem?_getD, hc]
    simp only [pval, Option.getD_some]
    grind
theorem psl_l1 (p : List Int) : ∀ n, n + 1 ≤ p.length → l1 (psl p n) ≤ n * l1 (p.take (n + 1))
  | 0, h => by simp [psl, l1]
  | n + 1, h => by
    obtain ⟨c, hc⟩ : ∃ c, p[n + 1]? = some c := ⟨_, List.getElem?_eq_getElem (by omega)⟩
    have ih := psl_l1 p n (by omega)
    rw [psl_succ, l1_append, l1_take hc, List.getD_eq_getElem?_getD, hc]
    simp only [l1, Option.getD_some]
    rw [Int.natAbs_mul, Int.natAbs_natCast, Nat.mul_add]
    have : n * l1 (p.take (n + 1)) ≤ (n + 1) * l1 (p.take (n + 1)) := Nat.mul_le_mul_right _ (by omega)
    omega
theorem IsP.slope {p : List Int} {f : Int → Int} {B d : Nat} (h : IsP p f B d) (hl : 2 ≤ p.length) : ∃ f', Dv f f' ∧ IsP (psl p (p.length - 1)) f' (d * B) (d - 1) := by
  have hd := h.l
  have hv := psl_dv p (p.length - 1) (by omega)
  have hb := psl_l1 p (p.length - 1) (by omega)
  rw [show p.length - 1 + 1 = p.length by omega, List.take_length] at hv hb
  refine ⟨_, hv.as h.v (fun _ => rfl), ⟨⟨fun e => ?_, .inr ?_⟩, fun _ => rfl, ?_, ?_⟩⟩
  · have := psl_len p (p.length - 1)
    rw [e] at this
    simp at this
    omega
  · rw [psl_len]
    have e : p.length - 1 = (p.length - 1 - 1) + 1 := by omega
    rw [List.getD_eq_getElem?_getD]
    unfold psl
    rw [List.getElem?_map, List.getElem?_range (by omega)]
    show ((p.length - 1 - 1 + 1 : Nat) : Int) * p.getD (p.length - 1 - 1 + 1) 0 ≠ 0
    rw [← e]
    rcases h.cn.2 with z | z
    · omega
    · exact Int.mul_ne_zero (by omega) z
  · refine Nat.le_trans hb (Nat.mul_le_mul (by omega) h.b)
  · rw [psl_len]; omega
end Vf

namespace Vf
open PySem PySem.Spec PyProof.Rows L2
/-! ## t[::-1], t a tuple -/
section
variable {prog : Program} {w : World} {A : Around} {E : Value → Shared → Prop} {s : Shared}
theorem adj_rev (n : Nat) : Builtin.Slice.sliceAdjust none none (-1) (n : Int) = ((n : Int) - 1, -1) := rfl
theorem plc_rev (n : Nat) : Builtin.Slice.slicePlaces ((n : Int) - 1) (-1) (-1) = n := by
  show (if (-1 : Int) > 0 then _ else (if (n : Int) - 1 > -1 then ((n : Int) - 1 - (-1) - 1) / (-(-1)) + 1 else 0)).toNat = n
  rw [if_neg (by decide)]
  split
  · rw [show (-(-1) : Int) = 1 from rfl, Int.ediv_one]
    omega
  · show (0 : Int).toNat = n
    have : n = 0 := by omega
    rw [this]
    rfl
theorem fm_some {α β : Type} {f : α → Option β} {g : α → β} : ∀ (l : List α), (∀ a ∈ l, f a = some (g a)) → l.filterMap f = l.map g
  | [], _ => rfl
  | a :: l, h => by
    rw [List.filterMap_cons, h a List.mem_cons_self, List.map_cons, fm_some l fun b hb => h b (List.mem_cons_of_mem _ hb)]
theorem pick_rev (xs : List Value) : ((List.range xs.length).filterMap fun m : Nat => xs.toArray[(((xs.length : Nat) : Int) - 1 + (m : Int) * -1).toNat]?) = xs.reverse := by
  have e1 : ∀ m ∈ List.range xs.length, xs.toArray[(((xs.length : Nat) : Int) - 1 + (m : Int) * -1).toNat]? = some (xs.reverse.getD m .none) := fun m hm => by
    have lt := List.mem_range.mp hm
    rw [show (((xs.length : Nat) : Int) - 1 + (m : Int) * -1).toNat = xs.length - 1 - m by omega, List.getElem?_toArray, List.getD_eq_getElem?_getD, List.getElem?_reverse lt, List.getElem?_eq_getElem (by omega)]
    rfl
  have e2 : ((List.range xs.length).filterMap fun m : Nat => xs.toArray[(((xs.length : Nat) : Int) - 1 + (m : Int) * -1).toNat]?) = (List.range xs.length).map fun m => xs.reverse.getD m .none := by
    exact fm_some _ e1
  rw [e2]
  refine List.ext_getElem (by simp) fun i h1 h2 => ?_
  rw [List.getElem_map, List.getElem_range, List.getD_eq_getElem?_getD, List.getElem?_eq_getElem h2]
  rfl
theorem applied_rev {sl : Addr} {t : Tok} {n : Nat} {Q : Int × Int × Nat → Shared → Prop} (hs : s.heap.IsSliceOf sl .none .none (.int (-1) t))
    (h : Q ((n : Int) - 1, -1, n) s) : wpAny (model prog w) A (Builtin.Slice.sliceApplied (.ref sl) (pure (n : Int))) Q E s := by
  obtain ⟨o, ho, hc, hd⟩ := id hs
  unfold Builtin.Slice.sliceApplied Builtin.Slice.sliceFields
  refine wpAny_bind (wpAny_bind (wpAny_field ho hd (x := .none) rfl
    (wpAny_bind (wpAny_field ho hd (x := .none) rfl (wpAny_bind (wpAny_field ho hd (x := .int (-1) t) rfl (wpAny_pure ?_)))))))
  refine wpAny_bind (slicePart_int ?_)
  show wpAny _ _ (if ((-1 : Int) == 0) = true then _ else _) _ _ s
  rw [if_neg (by decide)]
  refine wpAny_bind (slicePart_none (wpAny_bind (slicePart_none (wpAny_bind (wpAny_pure ?_)))))
  show wpAny _ _ (match Builtin.Slice.sliceAdjust none none (-1) (n : Int) with | (lo, hi) => pure (lo, (-1 : Int), Builtin.Slice.slicePlaces lo hi (-1))) _ _ s
  rw [adj_rev]
  show wpAny _ _ (pure ((n : Int) - 1, (-1 : Int), Builtin.Slice.slicePlaces ((n : Int) - 1) (-1) (-1))) _ _ s
  rw [plc_rev]
  exact wpAny_pure h
theorem item_rev {t sl : Addr} {its : List Value} {tk : Tok} {Q : Value → Shared → Prop} (ht : IsTup s.heap t its.toArray) (hs : s.heap.IsSliceOf sl .none .none (.int (-1) tk))
    (h : Q (.ref s.heap.objs.size) { s with heap := s.heap.push { cls := .type "tuple", data := .seq its.reverse.toArray } })
    (hz : its.length ≤ sizeLine) : wpAny (model prog w) A (getItem (.ref t) (.ref sl)) Q E s := by
  have ok : sizeOk (.seq its.reverse.toArray) := by
    show its.reverse.toArray.size ≤ sizeLine
    rw [List.size_toArray, List.length_reverse]
    exact hz
  obtain ⟨os, hos, hcs, hds⟩ := id hs
  have ty : s.TypeIs (.ref sl) "slice" := ⟨os, hos, hcs⟩
  unfold getItem
  try with_reducible refine wpAny_holding ?_
  first | refine wpAny_bind (wpAny_pure ?_) | skip
  refine wpAny_bind (wpAny_sequenceKey ht.typeIs (by decide) ?_)
  refine wpAny_bind (wpAny_callSpecial?_slot (name := Str.ofString "__getitem__") ht.typeIs
    PyProof.Rows.slot_tuple_getitem (wpAny_call_entry PyProof.Rows.slot_tuple_getitem
      ht.typeIs entry_tuple_getitem ?_ (args_tuple_getitem _ _)))
  show wpAny _ _ (Builtin.Tuple.tupleItemsOf (.ref t) >>= _) _ _ s
  refine wpAny_bind (tupleItemsOf_ ht ?_)
  refine wpAny_bind (wpAny_typeOf ty ?_)
  rw [if_pos (by decide)]
  rw [List.size_toArray]
  refine wpAny_bind (applied_rev hs ?_)
  have no : ¬ (((((its.length : Nat) : Int) - 1 == 0) && ((-1 : Int) == 1) && (its.length == its.length)) = true) := by
    rw [Bool.and_eq_true, Bool.and_eq_true]
    exact fun q => absurd q.1.2 (by decide)
  show wpAny _ _ (if ((((its.length : Nat) : Int) - 1 == 0) && ((-1 : Int) == 1) && (its.length == its.length)) = true then _ else _) _ _ s
  rw [if_neg no, pick_rev]
  first
    | exact wpAny_bind (m := Builtin.Tuple.tupleExact _) (wpAny_newObj_type (wpAny_pure ⟨_, rfl, wpAny_pure h⟩) ok)
    | exact wpAny_bind (m := Builtin.Tuple.tupleExact _) (wpAny_newObj_type (wpAny_bind (wpAny_pure (wpAny_pure ⟨_, rfl, wpAny_pure h⟩))) ok)
    | exact wpAny_bind (wpAny_bind (m := Builtin.Tuple.tupleExact _) (wpAny_newObj_type (wpAny_pure (wpAny_pure ⟨_, rfl, wpAny_pure h⟩)) ok))
    | exact wpAny_bind (wpAny_bind (m := Builtin.Tuple.tupleExact _) (wpAny_newObj_type (wpAny_pure ⟨_, rfl, wpAny_pure h⟩) ok))
end
def tRevT (K : PySem.W.Frag) (te : TE) : TE := fun σ H Q => te σ H fun x H1 => ∃ a xs, x = .ref a ∧ SqT K H1 a xs ∧ ∀ p, H1 p = none → Q (.ref p) (upd H1 p (.tup xs.reverse))
theorem pe_revT {X : Cx} {K : PySem.W.Frag} {e : Expr} {te : TE} {k : Nat} {p1 p2 p3 pos : Pos} (ek : X.K = K) (he : PE X e te) :
    PE X (.Subscript e (.Slice none none (some (.UnaryOp .USub (.Constant (.int 1) k p1) p2)) p3) pos) (tRevT K te) := by
  subst ek
  refine ⟨fun pins s σ H Q I h => ?_⟩
  refine Subscript_ (thn (he.run pins s σ H _ I h) fun v s1 ⟨x, H1, I1, r1, q1⟩ => ?_)
  obtain ⟨a, xs, rfl, hx, q⟩ := q1
  cases r1
  have st : PO X (some (.UnaryOp .USub (.Constant (.int 1) k p1) p2))
      (tPart (tUn (rU fun i => .int (-i)) (tC (.int 1)))) := po_some (pe_un un_neg pe_int)
  refine wpAny_Slice (thn (po_none.run pins s1 σ H1
    (fun o H2 => o = none ∧ H2 = H1) I1 ⟨rfl, rfl⟩) fun vl s2 ⟨l, H2, I2, pl, el, e2⟩ => ?_)
  subst el e2
  refine thn (po_none.run pins s2 σ H2
    (fun o H3 => o = none ∧ H3 = H2) I2 ⟨rfl, rfl⟩) fun vu s3 ⟨u, H3, I3, pu, eu, e3⟩ => ?_
  subst eu e3
  refine thn (st.run pins s3 σ H3
    (fun o H4 => o = some (-1) ∧ H4 = H3) I3 ⟨1, rfl, -1, rfl, rfl, rfl⟩) fun vs s4 ⟨o, H4, I4, ps, eo, e4⟩ => ?_
  subst eo e4
  cases pl
  cases pu
  cases ps with
  | int _ tk =>
  have I5 : Inv X pins σ H4 { s4 with heap := s4.heap.push { cls := .type "slice", data := .fields #[.none, .none, .int (-1) tk] } } :=
    I4.kept (t' := s4.toks) fun b ob q => Heap.get?_push_of_some _ q
  obtain ⟨its, r, ht, hz⟩ := I5.tuple hx
  have hl := r.length
  show wpAny (model X.prog X.w) X.A (subscriptTail e _ (.ref a) (.ref s4.heap.objs.size)) (EP X pins σ Q) X.xe _
  refine tail_any (ops := [.ref a, .ref s4.heap.objs.size]) ht.typeIs PyProof.Rows.slot_tuple_getitem.lookup ?_ (by with_unfolding_all rfl)
  refine item_rev ht (Heap.IsSliceOf.new _ _ _ _) ?_ (by rw [← hl]; exact hz)
  refine ⟨.ref _, _, I5.laid (t' := s4.toks) (o := .tup xs.reverse)
    (fun b ob q => Heap.get?_push_of_some _ q) (Nat.le_refl _) ?_, rfl, q _ (I5.hok.fresh (Nat.le_refl _))⟩
  exact ⟨by rw [List.length_reverse]; exact hz, its.reverse, r.reverse, IsTup.new _ _⟩
theorem r_revT {K : PySem.W.Frag} {te : TE} {σ : L2.St} {H : Hp} {Q : VK} (h : te σ H fun x H1 => ∃ a xs, x = .ref a ∧ SqT K H1 a xs ∧ ∀ p, H1 p = none → Q (.ref p) (upd H1 p (.tup xs.reverse))) : tRevT K te σ H Q := h
/-! ## reversed(t) -/
theorem i_rev {X : Cx} {K : PySem.W.Frag} {tg e : Expr} {te : TE} {p pos : Pos} (ek : X.K = K) (hg : Gl X "reversed") (hm : X.mg "reversed" = none) (he : PE X e te)
    (hs : starEach [e] X.env = (false, eval e X.env) :: starEach [] X.env := by rfl) : PI X tg (.Call (.Name "reversed" p) [e] [] pos) (RT.iRevA K te) := by
  subst ek
  exact RT.pi_revA hg hm he hs
theorem r_forRv {K : PySem.W.Frag} {g : TG} {tb : TS} {D : Ends} {σ : L2.St} {H : Hp} {te : TE} (h : te σ H fun v H1 => ∃ (a : Addr) (xs : List V), v = .ref a ∧ SqT K H1 a xs ∧ tFor (fun _ H2 R => R (RT.ItvT K a xs.length) H2) g tb D σ H1)
    (mono : ∀ (R R' : VK), (∀ v H1, R v H1 → R' v H1) → te σ H R → te σ H R') : tFor (RT.iRevA K te) g tb D σ H :=
  mono _ _ (fun v H1 ⟨a, xs, e, sv, r⟩ => ⟨a, xs, e, .inr ⟨sv, r⟩⟩) h
theorem mono_var {i : Nat} {σ : L2.St} {H : Hp} (R R' : VK) (h : ∀ v H1, R v H1 → R' v H1) (q : tVar i σ H R) : tVar i σ H R' := by
  obtain ⟨v, e, r⟩ := q
  exact ⟨v, e, h _ _ r⟩
theorem r_forRvV {K : PySem.W.Frag} {g : TG} {tb : TS} {D : Ends} {σ : L2.St} {H : Hp} {i : Nat} {a : Addr} (xs : List V) (e : σ[i]? = some (some (.ref a))) (sv : SqT K H a xs) (Pv : Nat → L2.St → Hp → Prop) (h0 : Pv 0 σ H)
    (hl : ∀ i σ H, Pv i σ H → SqT K H a xs)
    (hs : ∀ (i : Nat) (x : V) (σ : L2.St) (H : Hp), i < xs.length → xs[xs.length - 1 - i]? = some x → Pv i σ H → g x σ H fun σ2 H2 => tb { D with nx := Pv (i + 1), ct := Pv (i + 1), bk := D.nx } σ2 H2)
    (hd : ∀ σ H, Pv xs.length σ H → D.nx σ H) : tFor (RT.iRevA K (tVar i)) g tb D σ H :=
  r_forRv ⟨.ref a, e, a, xs, rfl, sv, RT.for_ItvT Pv h0 hl hs hd⟩ mono_var
/-! ## xs[i] += e -/
def rGetL (K : PySem.W.Frag) : V → V → Hp → VK → Prop := fun o i H Q => ∃ (p : Addr) (xs : List V) (k : Nat) (z : V), o = .ref p ∧ i = .int (k : Int) ∧ SqL K H p xs ∧ xs[k]? = some z ∧ Q z H
theorem get_list {X : Cx} {K : PySem.W.Frag} (ek : X.K = K) : PGet X (rGetL K) := by
  subst ek
  intro pins s σ H o i ov iv Q I ro ri h
  obtain ⟨p, xs, k, z, rfl, rfl, hq, he, q⟩ := h
  cases ro
  obtain ⟨t, rfl⟩ := ri
  obtain ⟨its, r, pl, hz⟩ := I.list hq
  obtain ⟨w, ew, rw'⟩ := r.get he
  have hn := line63
  have hk := (List.getElem?_eq_some_iff.mp he).1
  have hl := r.length
  refine PySem.wpAny_getItem_list pl.isList (by omega) (by omega) ?_ ⟨z, H, I, rw', q⟩
  rw [Int.toNat_natCast]
  simpa using ew
theorem r_getL {K : PySem.W.Frag} {H : Hp} {Q : VK} {p : Addr} {k : Nat} {z : V} (xs : List V) (h1 : SqL K H p xs) (h2 : xs[k]? = some z) (h : Q z H) : rGetL K (.ref p) (.int (k : Int)) H Q := ⟨p, xs, k, z, rfl, rfl, h1, h2, h⟩
theorem r_augS {to ti te : TE} {tget : V → V → Hp → VK → Prop} {tip : TIp} {tset : TSet} {D : Ends} {σ : L2.St} {H : Hp}
    (h : to σ H fun o H1 => ti σ H1 fun i H2 => tget o i H2 fun x H3 => te σ H3 fun y H4 => tip x y H4 fun z H5 => tset o i z H5 fun H6 => D.nx σ H6) : tAugS to ti te tget tip tset D σ H := h
/-! ## xs.pop() -/
theorem r_popL {H : Hp} {Q : VK} {l : Addr} (xs : List V) (y : V) (h1 : H l = some (.lst (xs ++ [y]))) (h : Q y (upd H l (.lst xs))) : rPop (.ref l) [] H Q :=
  ⟨l, _, y, rfl, rfl, h1, by simp, by rw [List.dropLast_concat]; exact h⟩
end Vf

namespace Vf
open PySem PySem.Spec PyProof.Rows L2
/-! ## the law's cask -/
def Cask (n : Nat) (k : Addr) (H : Hp) : Prop := ∃ a b c : Int, H k = some (.lst [.int b, .int c, .int a]) ∧ KegOk a b c (17 + 11 * n)
theorem Cask.mono {n m : Nat} {k : Addr} {H : Hp} (h : Cask n k H) (l : n ≤ m) : Cask m k H := by
  obtain ⟨a, b, c, e, o⟩ := h
  exact ⟨a, b, c, e, o.a0, o.ab, o.b0, o.bM, o.c0, by have := o.cn; omega⟩
theorem Cask.same {n : Nat} {k : Addr} {H H' : Hp} (h : Cask n k H) (s : Same H H') : Cask n k H' := by
  obtain ⟨a, b, c, e, o⟩ := h
  exact ⟨a, b, c, s _ _ e, o⟩
theorem Cask.new {n : Nat} {k p : Addr} {H : Hp} {o : HO} (h : Cask n k H) (hp : H p = none) : Cask n k (upd H p o) := h.same (Same.new hp)
theorem Cask.ne {n : Nat} {k p : Addr} {H : Hp} (h : Cask n k H) (hp : H p = none) : p ≠ k := by
  obtain ⟨a, b, c, e, o⟩ := h
  exact (ne_of_none e hp).symm
theorem Cask.tt {n : Nat} {k : Addr} {H H' : Hp} (h : Cask n k H) (e : Kx k H H') : Tt H H' := by
  obtain ⟨a, b, c, z, o⟩ := h
  exact e.tt z
theorem Cask.kx {n m : Nat} {k j : Addr} {H H' : Hp} (h : Cask n k H) (e : Kx j H H') (ne : k ≠ j) : Cask n k H' := by
  obtain ⟨a, b, c, z, o⟩ := h
  exact ⟨a, b, c, e _ _ ne z, o⟩
def sp_ctap : Sp := fun vs H Q _ => ∃ (k : Addr) (u : Int) (n : Nat), vs = [.ref k, .int u] ∧ Cask n k H ∧ n ≤ 2 ^ 60 ∧ 0 < u ∧ u < 2 ^ 62 ∧
  ∀ f H', 0 ≤ f → f < u → Kx k H H' → Cask (n + 1) k H' → Q (.int f) H'
theorem i_ctap {k : Addr} {u : Int} {H : Hp} {Q : VK} {E : XK} (n : Nat) (hk : Cask n k H) (hn : n ≤ 2 ^ 60) (h0 : 0 < u) (h1 : u < 2 ^ 62)
    (q : ∀ f H', 0 ≤ f → f < u → Kx k H H' → Cask (n + 1) k H' → Q (.int f) H') : sp_ctap [.ref k, .int u] H Q E := ⟨k, u, n, rfl, hk, hn, h0, h1, q⟩
def sp_cof (K : PySem.W.Frag) : Sp := fun vs H Q _ => ∃ (k t : Addr) (xs : List V) (n : Nat), vs = [.ref k, .ref t] ∧ Cask n k H ∧ n ≤ 2 ^ 60 ∧ t ≠ k ∧ SqL K H t xs ∧ 0 < xs.length ∧ xs.length ≤ 100000 ∧
  ∀ (i : Nat) (x : V) H', xs[i]? = some x → Kx k H H' → Cask (n + 1) k H' → Q x H'
theorem i_cof {K : PySem.W.Frag} {k t : Addr} {H : Hp} {Q : VK} {E : XK} (n : Nat) (xs : List V) (hk : Cask n k H) (hn : n ≤ 2 ^ 60) (ht : t ≠ k) (hs : SqL K H t xs) (h0 : 0 < xs.length) (h1 : xs.length ≤ 100000)
    (q : ∀ (i : Nat) x H', xs[i]? = some x → Kx k H H' → Cask (n + 1) k H' → Q x H') : sp_cof K [.ref k, .ref t] H Q E := ⟨k, t, xs, n, rfl, hk, hn, ht, hs, h0, h1, q⟩
def sp_cask (K : PySem.W.Frag) : Sp := fun vs H Q _ => ∃ (c : Addr) (ns : List Int) (j : Nat), vs = [.ref c, .int (j : Int)] ∧ SqL K H c (ns.map V.int) ∧ Script ns ∧ j ≤ 1000 ∧
  ∀ p H', Same H H' → H p = none → Cask 0 p H' → Q (.ref p) H'
theorem i_cask {K : PySem.W.Frag} {c : Addr} {H : Hp} {Q : VK} {E : XK} (ns : List Int) (j : Nat) (hs : SqL K H c (ns.map V.int)) (hn : Script ns) (hj : j ≤ 1000)
    (q : ∀ p H', Same H H' → H p = none → Cask 0 p H' → Q (.ref p) H') : sp_cask K [.ref c, .int (j : Int)] H Q E := ⟨c, ns, j, rfl, hs, hn, hj, q⟩
theorem Cask.none {n : Nat} {k q : Addr} {H H' : Hp} (h : Cask n k H') (e : Kx k H H') (hq : H' q = Option.none) : H q = Option.none := by
  obtain ⟨a, b, c, z, o⟩ := h
  exact none_kx e z hq
theorem r_bm0 {K : PySem.W.Frag} {T : String} {r : V → List V → Hp → VK → Prop} {to : TE} {σ : L2.St} {H : Hp} {Q : VK} (h : to σ H fun x H1 => tyV K T x H1 ∧ r x [] H1 Q) : tBM0 K T r to σ H Q := h
end Vf

namespace Vf
/-! ## sums by their steps -/
def nval : List Int → Int → Int → Int
  | [], _, _ => 0
  | s :: t, j, x => s + (x - j) * nval t (j + 1) x
def lb : List Int → Nat → Nat
  | [], _ => 0
  | s :: t, j => s.natAbs + (1 + j) * lb t (j + 1)
theorem lb_le (S : Nat) : ∀ (s : List Int) (j : Nat), (∀ c ∈ s, c.natAbs ≤ S) → j + s.length ≤ 19 → lb s j ≤ S * 20 ^ s.length
  | [], _, _, _ => Nat.zero_le _
  | c :: t, j, h, hl => by
    rw [List.length_cons] at hl
    have h1 := h c List.mem_cons_self
    have h2 := lb_le S t (j + 1) (fun d hd => h d (List.mem_cons_of_mem _ hd)) (by omega)
    have h3 : (1 + j) * lb t (j + 1) ≤ 19 * (S * 20 ^ t.length) := Nat.mul_le_mul (by omega) h2
    have h4 : S ≤ S * 20 ^ t.length := Nat.le_mul_of_pos_right _ (Nat.pow_pos (by decide))
    rw [lb, List.length_cons, Nat.pow_succ, ← Nat.mul_assoc]
    omega
theorem nval_zeros (n : Nat) : ∀ (s : List Int) (j x : Int), nval (s ++ List.replicate n 0) j x = nval s j x
  | [], j, x => by
    rw [List.nil_append]
    induction n generalizing j with
    | zero => rfl
    | succ n ih =>
      show 0 + (x - j) * nval (List.replicate n 0) (j + 1) x = 0
      rw [ih]
      simp [nval]
  | c :: s, j, x => by
    rw [List.cons_append, nval, nval, nval_zeros n s (j + 1) x]
theorem far_div {d : Int} (N : Int) (h : ∀ y : Int, N < y → 0 < y → y ∣ d) : d = 0 := by
  have h1 := h (max N 0 + d.natAbs + 1) (by omega) (by omega)
  rcases Int.lt_trichotomy d 0 with c | c | c
  · have := Int.le_of_dvd (show 0 < -d by omega) (Int.dvd_neg.mpr h1)
    omega
  · exact c
  · have := Int.le_of_dvd c h1
    omega
theorem nval_none : ∀ {s : List Int} {j : Int} (N : Int), (∀ x : Int, N < x → nval s j x = 0) → ∀ c ∈ s, c = 0
  | [], _, _, _, _, h => by simp at h
  | a :: s, j, N, h, c, hc => by
    have ha : a = 0 := far_div (N - j) fun y h1 h2 => by
      have := h (y + j) (by omega)
      rw [nval, show y + j - j = y by omega] at this
      exact ⟨-nval s (j + 1) (y + j), by rw [Int.mul_neg]; omega⟩
    subst ha
    rcases List.mem_cons.mp hc with e | e
    · exact e
    · refine nval_none (s := s) (j := j + 1) (max N j) (fun x hx => ?_) c e
      have := h x (by omega)
      rw [nval, Int.zero_add] at this
      rcases Int.mul_eq_zero.mp this with z | z
      · omega
      · exact z
def nsub : List Int → List Int → List Int
  | a :: p, b :: q => (a - b) :: nsub p q
  | _, _ => []
theorem nval_sub : ∀ (p q : List Int) (j x : Int), p.length = q.length → nval (nsub p q) j x = nval p j x - nval q j x
  | [], [], j, x, _ => by simp [nsub, nval]
  | [], b :: q, j, x, h => by simp at h
  | a :: p, [], j, x, h => by simp at h
  | a :: p, b :: q, j, x, h => by
    have h1 := nval_sub p q (j + 1) x (by simpa using h)
    simp only [nsub, nval, h1]
    grind
theorem nsub_all : ∀ (p q : List Int), p.length = q.length → (∀ c ∈ nsub p q, c = 0) → p = q
  | [], [], _, _ => rfl
  | [], b :: q, h, _ => by simp at h
  | a :: p, [], h, _ => by simp at h
  | a :: p, b :: q, h, hz => by
    have h1 := nsub_all p q (by simpa using h) (fun c hc => hz c (List.mem_cons_of_mem _ hc))
    have h2 := hz (a - b) List.mem_cons_self
    rw [h1, show a = b by omega]
theorem nval_inj {p q : List Int} (hl : p.length = q.length) (h : ∀ x, nval p 0 x = nval q 0 x) : p = q :=
  nsub_all p q hl (nval_none (j := 0) 0 fun x _ => by rw [nval_sub p q 0 x hl, h x]; omega)
/-- the first r of a list as steps, the rest as coefficients -/
def mval : Nat → List Int → Int → Int → Int
  | 0, l, _, x => pval l x
  | _ + 1, [], _, _ => 0
  | r + 1, s :: t, j, x => s + (x - j) * mval r t (j + 1) x
theorem mval_all : ∀ (r : Nat) (l : List Int) (j x : Int), l.length ≤ r → mval r l j x = nval l j x
  | 0, l, j, x, h => by
    have : l = [] := List.eq_nil_of_length_eq_zero (by omega)
    subst this
    rfl
  | r + 1, [], j, x, h => rfl
  | r + 1, s :: t, j, x, h => by
    rw [mval, nval, mval_all r t (j + 1) x (by simpa using h)]
/-- one stage: the rest divided by x less the next number -/
theorem mval_stage : ∀ (r : Nat) (l l' : List Int) (j : Int) (x : Int), l'.length = l.length → r < l.length → l'.take r = l.take r →
    pval (l.drop r) x = l'.getD r 0 + (x - (j + r)) * pval (l'.drop (r + 1)) x → mval r l j x = mval (r + 1) l' j x
  | 0, l, l', j, x, hl, hr, ht, h => by
    match l', hl, h with
    | [], hl, _ => simp at hl; omega
    | s :: t, _, h =>
      rw [mval, mval, mval]
      rw [List.drop_zero] at h
      rw [h]
      simp
  | r + 1, l, l', j, x, hl, hr, ht, h => by
    match l, l', hl, hr, ht, h with
    | [], _, _, hr, _, _ => simp at hr
    | a :: l, [], hl, _, _, _ => simp at hl
    | a :: l, b :: l', hl, hr, ht, h =>
      rw [List.take_succ_cons, List.take_succ_cons] at ht
      obtain ⟨e1, e2⟩ := List.cons.inj ht
      have ih := mval_stage r l l' (j + 1) x (by simpa using hl) (by simpa using hr) e2 (by
        have h2 : pval (l.drop r) x = l'.getD r 0 + (x - (j + ((r + 1 : Nat) : Int))) * pval (l'.drop (r + 1)) x := h
        rw [show (j + 1 + (r : Int)) = j + ((r + 1 : Nat) : Int) by omega]
        exact h2)
      rw [mval, ih, ← e1]
      rfl
theorem mval_one (l : List Int) (x : Int) (h : l ≠ []) : mval 1 l 0 x = pval l x := by
  match l, h with
  | s :: t, _ => rw [mval, mval, pval, Int.sub_zero]
/-- how great steps of seven coefficients can be -/
def row : Nat → List Nat
  | 0 => [1, 1, 1, 1, 1, 1, 1]
  | 1 => [1, 6, 5, 4, 3, 2, 1]
  | 2 => [1, 6, 57, 26, 11, 4, 1]
  | 3 => [1, 6, 57, 122, 32, 7, 1]
  | 4 => [1, 6, 57, 122, 76, 11, 1]
  | 5 => [1, 6, 57, 122, 76, 16, 1]
  | _ => [1, 6, 57, 122, 76, 16, 1]
theorem row_ok : ∀ n < 6, ∀ i < 7, (row (n + 1)).getD i 0 = if i < n + 1 then (row n).getD i 0 else (row n).getD i 0 + (n + 1) * (row (n + 1)).getD (i + 1) 0 := by decide
theorem row_top : ∀ n < 7, ∀ i < 7, (row n).getD i 0 ≤ 122 := by decide
theorem row_up : ∀ n < 6, ∀ i < 7, (row n).getD i 0 ≤ (row (n + 1)).getD i 0 := by decide
end Vf

namespace Vf
open PySem PySem.Spec PyProof.Rows L2
/-! ## ranges downwards -/
section
variable {K : PySem.W.Frag} {g : TG} {tb : TS} {D : Ends} {σ : L2.St} {H : Hp}
theorem r_for3 {ta : TA} (h : ta σ H fun vs H1 => ∃ (i j c : Int) (n : Nat), vs = [.int i, .int j, .int c] ∧ RgC i j c n ∧ tFor (fun _ H2 R => R (Itc i c n) H2) g tb D σ H1) : tFor (iRng3 ta) g tb D σ H := h
theorem r_forC {lo c : Int} {n : Nat} (Pv : Nat → L2.St → Hp → Prop) (h0 : Pv 0 σ H)
    (hs : ∀ i σ H, i < n → Pv i σ H → g (.int (lo + (i : Nat) * c)) σ H fun σ2 H2 => tb { D with nx := Pv (i + 1), ct := Pv (i + 1), bk := D.nx } σ2 H2)
    (hd : ∀ σ H, Pv n σ H → D.nx σ H) : tFor (fun _ H2 R => R (Itc lo c n) H2) g tb D σ H := for_rangeC Pv h0 hs hd
end
end Vf

namespace Vf
open PySem PySem.Spec PyProof.Rows L2
/-! ## zip of a tuple and a list -/
def ItTL (K : PySem.W.Frag) (a b : Addr) : It :=
  ⟨fun i H => ∃ (xs ys : List V), (SqT K H a xs ∧ SqL K H b ys) ∧ i < xs.length ∧ i < ys.length,
   fun i H v H' => ∃ T x y, v = .ref T ∧ H T = none ∧ H' = upd H T (.tup [x, y]) ∧ (∀ xs, SqT K H a xs → xs[i]? = some x) ∧ ∀ ys, SqL K H b ys → ys[i]? = some y,
   fun i H => ∃ (xs ys : List V), (SqT K H a xs ∧ SqL K H b ys) ∧ (i ≤ xs.length ∧ i ≤ ys.length) ∧ (i = xs.length ∨ i = ys.length)⟩
structure Five (u TI TO i1 i2 a b : Addr) : Prop where
  ap : u ≠ TI ∧ u ≠ TO ∧ u ≠ i1 ∧ u ≠ i2 ∧ TI ≠ TO ∧ TI ≠ i1 ∧ TI ≠ i2 ∧ TO ≠ i1 ∧ TO ≠ i2 ∧ i1 ≠ i2
  a0 : a ≠ u ∧ a ≠ TI ∧ a ≠ TO ∧ a ≠ i1 ∧ a ≠ i2
  b0 : b ≠ u ∧ b ≠ TI ∧ b ≠ TO ∧ b ≠ i1 ∧ b ≠ i2
theorem Five.sep {u TI TO i1 i2 a b : Addr} (S : Five u TI TO i1 i2 a b) : ZipSep2 u TI TO i1 i2 [i1, a] [i2, b] := by
  obtain ⟨⟨s1, s2, s3, s4, s5, s6, s7, s8, s9, s10⟩, ⟨a1, a2, a3, a4, a5⟩, ⟨b1, b2, b3, b4, b5⟩⟩ := S
  constructor <;> simp [*, Ne.symm s1, Ne.symm s2, Ne.symm s3, Ne.symm s4, Ne.symm s5, Ne.symm s8, Ne.symm s9, Ne.symm s10, Ne.symm a1, Ne.symm a3, Ne.symm a4, Ne.symm a5, Ne.symm b1, Ne.symm b3, Ne.symm b4, Ne.symm b5]
def ZTL (u TI TO i1 i2 a b : Addr) (i : Nat) (h : Heap) : Prop :=
  IsZip h u TI TO .none ∧ IsTupOf2 h TI (.ref i1) (.ref i2) ∧ (∃ x y, IsTupOf2 h TO x y) ∧ h.IsTupleIter i1 a i ∧ h.IsListIter i2 b i
theorem turn_zipTL {P : Program} {w : World} {K : PySem.W.Frag} {elts : List Expr} {kk : Nat} {tpos : Pos} {u TI TO i1 i2 a b : Addr} (S : Five u TI TO i1 i2 a b) :
    Turn P w K (.Tuple elts kk tpos) (ItTL K a b) [u, TI, TO, i1, i2] u (ZTL u TI TO i1 i2 a b) where
  mem := List.mem_cons_self
  obj := fun i h st d hd => by
    obtain ⟨zz, ti, ⟨x, y, to⟩, ⟨o1, e1, _, d1⟩, ⟨o2, e2, _, d2⟩⟩ := st
    simp only [List.mem_cons, List.not_mem_nil, or_false] at hd
    rcases hd with e | e | e | e | e
    · subst e; exact ⟨_, zz, fun v q => nomatch q⟩
    · subst e; exact ⟨_, ti, fun v q => nomatch q⟩
    · subst e; exact ⟨_, to, fun v q => nomatch q⟩
    · subst e; exact ⟨o1, e1, fun v q => by rw [d1] at q; cases q⟩
    · subst e; exact ⟨o2, e2, fun v q => by rw [d2] at q; cases q⟩
  keep := fun i h h' st k => by
    obtain ⟨zz, ti, ⟨x, y, to⟩, h1, h2⟩ := st
    exact ⟨k u (by simp) _ zz, k TI (by simp) _ ti, ⟨x, y, k TO (by simp) _ to⟩, h1.at fun o q => k i1 (by simp) o q, h2.at fun o q => k i2 (by simp) o q⟩
  item := by
    intro X hP hw hK hc i pins s σ H E I hf st hg
    subst hP hw hK
    obtain ⟨zz, ti, ⟨x0, y0, to⟩, h1, h2⟩ := st
    obtain ⟨xs, ys, ⟨qx, qy⟩, lx, ly⟩ := hg
    obtain ⟨v1, r1, t1, _⟩ := I.tuple qx
    obtain ⟨v2, r2, t2, _⟩ := I.list qy
    obtain ⟨y1, g1, w1⟩ := r1.get (List.getElem?_eq_getElem lx)
    obtain ⟨y2, g2, w2⟩ := r2.get (List.getElem?_eq_getElem ly)
    have n1 := r1.length
    have n2 := r2.length
    have hd := I.ok.hd hc
    have b0 : u < s.heap.objs.size := Heap.lt_size zz
    have bI : TI < s.heap.objs.size := Heap.lt_size ti
    have bO : TO < s.heap.objs.size := Heap.lt_size to
    have b1 : i1 < s.heap.objs.size := by
      obtain ⟨_, q, _⟩ := h1
      exact Heap.lt_size q
    have b2 : i2 < s.heap.objs.size := by
      obtain ⟨_, q, _⟩ := h2
      exact Heap.lt_size q
    refine wpAny_pyNext_zipD2_item S.sep (drawsT (A := X.A.in1) hd i1 a S.a0.2.2.2.1 v1.toArray) (Draws.list (A := X.A.in1) hd i2 b S.b0.2.2.2.2 v2.toArray)
      zz ti to ⟨h1, t1⟩ ⟨h2, t2.isList⟩ (by simp; omega) (by simp; omega) fun x1 x2 m tk p1 p2 zz' to' st1 st2 np sz kp => ?_
    obtain rfl : y1 = x1 := by
      have : v1[i]? = some x1 := by simpa using p1
      rw [g1] at this
      exact Option.some.inj this
    obtain rfl : y2 = x2 := by
      have : v2[i]? = some x2 := by simpa using p2
      rw [g2] at this
      exact Option.some.inj this
    refine ⟨_, rfl, wpAny_letOwnedTupleGo_zip (s := { s with heap := m, toks := tk }) zz' fun m2 zz2 sb => ?_⟩
    have np2 : IsTupOf2 m2 s.heap.objs.size y1 y2 := (sb.2 _ (Nat.ne_of_gt b0)).trans np
    have fresh : ObjOk X.prog X.w (upd H s.heap.objs.size (.tup [xs[i], ys[i]])) m2 s.heap.objs.size (.tup [xs[i], ys[i]]) :=
      ⟨by show 2 ≤ sizeLine; decide, [y1, y2], .cons w1 (.cons w2 .nil), ⟨_, np2, rfl, _, rfl⟩⟩
    have stay : ∀ d o, d ∉ [u, TI, TO, i1, i2] → s.heap.get? d = some o → m2.get? d = some o := fun d o hb q =>
      (sb.2 d (fun e => hb (by simp [e]))).trans (kp d o (fun e => hb (by simp [e])) (fun e => hb (by simp [e])) (fun e => hb (by simp [e])) (fun e => hb (by simp [e])) q)
    have I1 := I.turnedNew (t' := tk) (ch := [u, TI, TO, i1, i2]) stay hf (Nat.le_refl _) fresh
    obtain ⟨⟨s1, s2, s3, s4, s5, s6, s7, s8, s9, s10⟩, _, _⟩ := S
    refine ⟨.ref s.heap.objs.size, _, I1, rfl, ⟨_, xs[i], ys[i], rfl, I.hok.fresh (Nat.le_refl _), rfl, fun l hl => by rw [I.tuple_inj hl qx]; exact List.getElem?_eq_getElem lx, fun l hl => by rw [I.list_inj hl qy]; exact List.getElem?_eq_getElem ly⟩,
      ⟨zz2, (sb.2 _ (Ne.symm s1)).trans (kp _ _ (Ne.symm s1) s5 s6 s7 ti), ⟨_, _, (sb.2 _ (Ne.symm s2)).trans to'⟩, st1.1.at fun o q => (sb.2 _ (Ne.symm s3)).trans q, st2.1.at fun o q => (sb.2 _ (Ne.symm s4)).trans q⟩, fun d hdm => ?_⟩
    have lt : d < s.heap.objs.size := by
      have h2 := hdm
      simp only [List.mem_cons, List.not_mem_nil, or_false] at h2
      rcases h2 with e | e | e | e | e <;> (subst e; assumption)
    rw [upd_ne (Nat.ne_of_lt lt)]
    exact (hf d hdm).1
  done := by
    intro X hP hw hK hc i pins s σ H E I hf st hg
    subst hP hw hK
    obtain ⟨zz, ti, ⟨x0, y0, to⟩, h1, h2⟩ := st
    obtain ⟨xs, ys, ⟨qx, qy⟩, ⟨lx, ly⟩, en⟩ := hg
    obtain ⟨v1, r1, t1, _⟩ := I.tuple qx
    obtain ⟨v2, r2, t2, _⟩ := I.list qy
    have n1 := r1.length
    have n2 := r2.length
    have hd := I.ok.hd hc
    refine wpAny_pyNext_zipD2_end S.sep (drawsT (A := X.A.in1) hd i1 a S.a0.2.2.2.1 v1.toArray) (Draws.list (A := X.A.in1) hd i2 b S.b0.2.2.2.2 v2.toArray)
      zz ti to ⟨h1, t1⟩ ⟨h2, t2.isList⟩ (by simp; omega) (by simp; omega) (by simp; omega) fun m tk kp => ⟨rfl, ?_⟩
    exact I.turnedL (t' := tk) (ch := [u, TI, TO, i1, i2]) (fun d o hb q => kp d o (fun e => hb (by simp [e])) (fun e => hb (by simp [e])) (fun e => hb (by simp [e])) (fun e => hb (by simp [e])) q) hf
  self := fun A i s Q E st h => wpAny_pyIter_zip st.1 h
def iZTL (K : PySem.W.Frag) (ta : TA) : TI := fun σ H R => ta σ H fun vs H1 => ∃ a b xs ys, vs = [.ref a, .ref b] ∧ (SqT K H1 a xs ∧ SqL K H1 b ys) ∧ R (ItTL K a b) H1
theorem five_new (n a b : Nat) (ha : a < n) (hb : b < n) : Five (n + 4) (n + 2) (n + 3) n (n + 1) a b := by
  refine ⟨⟨?_, ?_, ?_, ?_, ?_, ?_, ?_, ?_, ?_, ?_⟩, ⟨?_, ?_, ?_, ?_, ?_⟩, ⟨?_, ?_, ?_, ?_, ?_⟩⟩ <;> (show _ ≠ _; intro e; have e2 : (_ : Nat) = _ := e; omega)
theorem i_zipTL {X : Cx} {K : PySem.W.Frag} {e1 e2 : Expr} {ta : TA} {p pos tpos : Pos} {elts : List Expr} {kk : Nat} (ek : X.K = K) (hg : Gl X "zip") (hm : X.mg "zip" = none) (ha : PA X [e1, e2] ta)
    (hs : starEach [e1, e2] X.env = (false, eval e1 X.env) :: starEach [e2] X.env := by rfl) (hp : (backTo pos (starEach [e2] X.env)).any (·.1) = false := by rfl) :
    PI X (.Tuple elts kk tpos) (.Call (.Name "zip" p) [e1, e2] [] pos) (iZTL K ta) := by
  subst ek
  refine ⟨fun pins s σ H R I h => ?_⟩
  refine Call_ (ld_blt I hg hm PyProof.Rows.boot_zip (PyProof.Rows.callWith_type1 (thn (ha.run pos pins s σ H _ I h) fun us s1 ⟨vs, H1, I1, r1, q1⟩ => ?_) hs hp))
  obtain ⟨a, b, xs, ys, rfl, ⟨qx, qy⟩, q⟩ := q1
  obtain ⟨ua, ub, rfl, ra, rb⟩ : ∃ ua ub, us = [ua, ub] ∧ RelV (.ref a) ua ∧ RelV (.ref b) ub := by
    cases r1 with
    | cons r rr =>
      cases rr with
      | cons r' rr =>
        cases rr
        exact ⟨_, _, rfl, r, r'⟩
  cases ra
  cases rb
  obtain ⟨v1, _, t1, _⟩ := I1.tuple qx
  obtain ⟨v2, _, t2, _⟩ := I1.list qy
  have la : a < s1.heap.objs.size := t1.lt
  have lb : b < s1.heap.objs.size := by
    obtain ⟨o, ho, _⟩ := t2.isList
    exact Heap.lt_size ho
  refine zip_begins2 (begins_tuple a v1.toArray) (begins_list b v2.toArray) t1 t2.isList fun m hz hTI hTO g1 g2 hsz hk => wpAny_pyIter_zip hz ?_
  refine ⟨s1.heap.objs.size + 4, [s1.heap.objs.size + 4, s1.heap.objs.size + 2, s1.heap.objs.size + 3, s1.heap.objs.size, s1.heap.objs.size + 1], _, _, H1, rfl, I1.kept (t' := s1.toks) hk,
    turn_zipTL (five_new s1.heap.objs.size a b la lb), ⟨hz, hTI, ⟨_, _, hTO⟩, ⟨_, g1, rfl, rfl⟩, ⟨_, g2, rfl, rfl⟩⟩, fun d hd => ?_, q⟩
  have le : s1.heap.objs.size ≤ d := by
    simp only [List.mem_cons, List.not_mem_nil, or_false] at hd
    rcases hd with e | e | e | e | e <;> subst e
    · exact Nat.le_add_right _ _
    · exact Nat.le_add_right _ _
    · exact Nat.le_add_right _ _
    · exact Nat.le_refl _
    · exact Nat.le_add_right _ _
  exact I1.fpOk le (I1.hok.fresh le)
section
variable {K : PySem.W.Frag} {σ : L2.St} {H : Hp} {Q : VK} {g : TG} {tt : TT} {te : TE} {vs : List Nat}
theorem r_lcTLi {ta : TA} (h : ta σ H fun ws H1 => ∃ a b xs ys, ws = [.ref a, .ref b] ∧ (SqT K H1 a xs ∧ SqL K H1 b ys) ∧ tLc (fun _ H2 R => R (ItTL K a b) H2) g tt te vs σ H1 Q) : tLc (iZTL K ta) g tt te vs σ H Q := h
theorem r_lcTL {a b : Addr} (xs ys : List V) (n : Nat) (nx : xs.length = n) (ny : ys.length = n) (Pv : Addr → Nat → Hp → Prop) (h0 : ∀ D, H D = none → Pv D 0 (upd H D (.lst [])))
    (hl : ∀ D i H', H D = none → i ≤ n → Pv D i H' → SqT K H' a xs ∧ SqL K H' b ys)
    (hs : ∀ D i x y H' T, H D = none → xs[i]? = some x → ys[i]? = some y → Pv D i H' → H' T = none → g (.ref T) (wipe σ vs) (upd H' T (.tup [x, y])) fun σ2 H2 => wipe σ2 vs = wipe σ vs ∧ tt σ2 H2 fun b H3 =>
      if b = true then te σ2 H3 fun y H4 => ∃ acc, H4 D = some (.lst acc) ∧ acc.length < sizeLine ∧ Pv D (i + 1) (upd H4 D (.lst (acc ++ [y]))) else Pv D (i + 1) H3)
    (hd : ∀ D H', H D = none → Pv D n H' → Q (.ref D) H') : tLc (fun _ H2 R => R (ItTL K a b) H2) g tt te vs σ H Q := by
  refine fun D hD => ⟨fun i m H => m = n - i ∧ i ≤ n ∧ Pv D i H, ⟨n, by omega, Nat.zero_le _, h0 D hD⟩, ?_⟩
  rintro i m H' ⟨rfl, hi, p⟩
  obtain ⟨qx, qy⟩ := hl D i H' hD hi p
  by_cases lt : i < n
  · refine Or.inr ⟨⟨xs, ys, ⟨qx, qy⟩, by omega, by omega⟩, Pv D (i + 1), fun H' p' => ⟨n - (i + 1), by omega, rfl, lt, p'⟩, fun v H'' yy => ?_⟩
    obtain ⟨T, x, y, rfl, nT, rfl, f1, f2⟩ := yy
    exact hs D i x y H' T hD (f1 xs qx) (f2 ys qy) p nT
  · have e : i = n := by omega
    subst e
    exact Or.inl ⟨⟨xs, ys, ⟨qx, qy⟩, ⟨by omega, by omega⟩, .inl (by omega)⟩, hd D H' hD p⟩
end
/-- an item of a list or a tuple -/
theorem x_seq {X : Cx} {K : PySem.W.Frag} (e : X.K = K) : IxR X (rIx K) := by subst e; exact ix_seq
/-- a walk of a list with its places -/
theorem r_forEnL {K : PySem.W.Frag} {g : TG} {tb : TS} {D : Ends} {σ : L2.St} {H : Hp} {a : Addr} (xs : List V) (Pv : Nat → L2.St → Hp → Prop) (h0 : Pv 0 σ H) (hl : ∀ i σ H, i ≤ xs.length → Pv i σ H → SqL K H a xs)
    (hs : ∀ i x σ H T, xs[i]? = some x → Pv i σ H → H T = none → g (.ref T) σ (upd H T (.tup [.int (i : Nat), x])) fun σ2 H2 => tb { D with nx := Pv (i + 1), ct := Pv (i + 1), bk := D.nx } σ2 H2)
    (hd : ∀ σ H, Pv xs.length σ H → D.nx σ H) : tFor (fun _ H2 R => R (Ite K a) H2) g tb D σ H := by
  refine ⟨fun i m σ H => m = xs.length - i ∧ i ≤ xs.length ∧ Pv i σ H, ⟨xs.length, by omega, Nat.zero_le _, h0⟩, ?_⟩
  rintro i m σ H ⟨rfl, hi, p⟩
  have q := hl i σ H hi p
  by_cases lt : i < xs.length
  · refine Or.inr ⟨⟨xs, xs[i], q, by simp [lt]⟩, Pv (i + 1), fun σ' H' p' => ⟨xs.length - (i + 1), by omega, rfl, lt, p'⟩, fun x H' y => ?_⟩
    obtain ⟨T, z, rfl, nT, rfl, fz⟩ := y
    exact hs i z σ H T (fz xs q) p nT
  · have e : i = xs.length := by omega
    subst e
    exact Or.inl ⟨⟨xs, q, Nat.le_refl _⟩, hd σ H p⟩
theorem r_forEi {K : PySem.W.Frag} {g : TG} {tb : TS} {D : Ends} {σ : L2.St} {H : Hp} {ta : TA} (h : ta σ H fun vs H1 => ∃ a xs, vs = [.ref a] ∧ SqL K H1 a xs ∧ tFor (fun _ H2 R => R (Ite K a) H2) g tb D σ H1) : tFor (iEnum K ta) g tb D σ H := h
/-- a list or a tuple -/
def SqS (K : PySem.W.Frag) (H : Hp) (a : Addr) (xs : List V) : Prop := SqT K H a xs ∨ SqL K H a xs
theorem r_ixS {K : PySem.W.Frag} {H : Hp} {Q : VK} {a : Addr} {xs : List V} {k : Int} {v : V} (h1 : SqS K H a xs) (h2 : atI xs k = some v) (h : Q v H) : rIx K (.ref a) (.int k) H Q := by
  rcases h1 with h1 | h1
  · exact .inr (.inl (r_ixT h1 h2 h))
  · exact .inl (r_ixL h1 h2 h)
theorem tru_seq {K : PySem.W.Frag} {H : Hp} {a : Addr} {xs : List V} {R : Bool → Prop} (hs : SqS K H a xs) (h : R (!xs.isEmpty)) : ∃ k, TruV K (.ref a) H k ∧ R k := by
  rcases hs with h1 | h1
  · exact tru_tup h1 h
  · exact tru_list h1 h
theorem r_lenS {K : PySem.W.Frag} {H : Hp} {Q : VK} {a : Addr} {xs : List V} (hs : SqS K H a xs) (h : Q (.int xs.length) H) : rLenQ K [.ref a] H Q := by
  rcases hs with h1 | h1
  · exact r_lenT h1 h
  · exact r_lenL h1 h
end Vf

namespace Vf
open PySem PySem.Spec PyProof.Rows L2
/-! ## t + u and slices of tuples, of any length -/
section
variable {X : Cx} {K : PySem.W.Frag}
theorem o_catA (e : X.K = K) : OpR X (binaryOp .Add) (rCatA K) := by subst e; exact op_catA
theorem s_tupA (e : X.K = K) : SlR X (rSlA K) := by subst e; exact sl_tupA
end
section
variable {K : PySem.W.Frag} {H : Hp} {Q : VK}
theorem r_catA {a b : Addr} {xs ys : List V} (h1 : SqT K H a xs) (h2 : SqT K H b ys) (hl : xs.length + ys.length ≤ 1000) (h : ∀ p H', Same H H' → SqT K H' p (xs ++ ys) → Q (.ref p) H') : rCatA K (.ref a) (.ref b) H Q := by
  refine ⟨a, b, xs, ys, rfl, rfl, h1, h2, small (Nat.le_trans hl (by decide)), fun e => ?_, fun _ e => ?_, fun _ _ p hp => ?_⟩
  · subst e
    exact h b H (Same.refl _) h2
  · subst e
    exact h a H (Same.refl _) (by rw [List.append_nil]; exact h1)
  · exact h p _ (Same.new hp) (SqT.of upd_same)
theorem r_slA {a : Addr} {xs : List V} {lo hi : Option Int} (h1 : SqT K H a xs) (h : ∀ p H', Same H H' → SqT K H' p (cutV xs lo hi) → Q (.ref p) H') : rSlA K (.ref a) lo hi H Q := by
  refine ⟨a, xs, rfl, h1, fun e => ?_, fun _ p hp => ?_⟩
  · have : cutV xs lo hi = xs := by
      unfold cutV
      rw [e.1, e.2, Nat.sub_zero, List.drop_zero, List.take_length]
    exact h a H (Same.refl _) (by rw [this]; exact h1)
  · exact h p _ (Same.new hp) (SqT.of upd_same)
theorem r_eqT {a b : Addr} (ns ms : List Int) (h1 : SqT K H a (ns.map V.int)) (h2 : SqT K H b (ms.map V.int)) (h : Q (.bl (decide (ns = ms))) H) : rEqD K (.ref a) (.ref b) H Q := by
  refine r_eqD (Dp.tupD h1) (Dp.tupD h2) (shapedTup ns) (shapedTup ms) ?_
  rw [show PyData.eqv (tupD ns) (tupD ms) = decide (ns = ms) from eqvInts ns ms]
  exact h
end
end Vf

namespace Vf
open PySem PySem.Spec PyProof.Rows L2
/-! ## how many unlike integers a list holds: by a set, by a dict's keys -/
theorem met_len (f : Nat → Int) : ∀ i, (firstMet f i).length ≤ i ∧ ((firstMet f i).length = i ↔ ∀ a < i, ∀ b < i, f a = f b → a = b)
  | 0 => ⟨Nat.le_refl _, ⟨fun _ a ha => absurd ha (by omega), fun _ => rfl⟩⟩
  | i + 1 => by
    obtain ⟨h1, h2⟩ := met_len f i
    rw [firstMet_succ, step_length]
    have hm : (firstMet f i).any (· == f i) = true ↔ ∃ a < i, f a = f i := by
      rw [firstMet_any]
      simp
    by_cases c : (firstMet f i).any (· == f i) = true
    · rw [if_pos c]
      refine ⟨by omega, fun e => absurd e (by omega), fun e => ?_⟩
      obtain ⟨a, ha, ea⟩ := hm.mp c
      have := e a (by omega) i (by omega) ea
      omega
    · rw [if_neg c]
      refine ⟨by omega, fun e a ha b hb eab => ?_, fun e => ?_⟩
      · have e1 := h2.mp (by omega)
        by_cases ca : a = i
        · by_cases cb : b = i
          · omega
          · rw [ca] at eab
            exact absurd (hm.mpr ⟨b, by omega, eab.symm⟩) c
        · by_cases cb : b = i
          · rw [cb] at eab
            exact absurd (hm.mpr ⟨a, by omega, eab⟩) c
          · exact e1 a (by omega) b (by omega) eab
      · have := h2.mpr fun a ha b hb => e a (by omega) b (by omega)
        omega
def rSetLi (K : PySem.W.Frag) : List V → Hp → VK → Prop := fun xs H Q => ∃ (l : Addr) (ns : List Int), xs = [.ref l] ∧ SqL K H l (ns.map V.int) ∧ ns.length ≤ 4000 ∧
  ∀ p S c, H p = none → c ≤ ns.length → (c = ns.length ↔ ∀ a < ns.length, ∀ b < ns.length, ns.getD a 0 = ns.getD b 0 → a = b) → Q (.ref p) (upd H p (.set S c))
def rLenSe : List V → Hp → VK → Prop := fun xs H Q => ∃ (a : Addr) (S : Int → Bool) (c : Nat), xs = [.ref a] ∧ H a = some (.set S c) ∧ c ≤ 5000 ∧ Q (.int (c : Int)) H
def rLenDk : List V → Hp → VK → Prop := fun xs H Q => ∃ a kvs, xs = [V.ref a] ∧ H a = some (.dK kvs) ∧ Q (.int kvs.length) H
section
variable {X : Cx} {K : PySem.W.Frag}
theorem cr_setLi (hc : X.calm = true) : CallR X (.type "set") (rSetLi X.K) := by
  intro pins s σ H xs us Q I r h
  obtain ⟨l, ns, rfl, hs, hl, q⟩ := h
  obtain ⟨u, rfl, ru⟩ := vals1 r
  cases ru
  obtain ⟨its, rv, pl, hz⟩ := I.list hs
  have hlen : its.toArray.size = ns.length := by rw [List.size_toArray, ← rv.length, List.length_map]
  refine call_set_list (I.ok.hd hc) pl.isList (ns := ns) (by simpa using RZ.intsAre_vals rv) (by rw [hlen]; unfold scanBound; omega) fun h' tk hS hk => ?_
  obtain ⟨m1, m2⟩ := met_len (fun i => ns.getD i 0) its.toArray.size
  refine ⟨.ref s.heap.objs.size, _, I.laid (t' := tk) (o := .set _ _) (fun b u e => hk b u (Heap.lt_size e) e) (Nat.le_refl _) hS, rfl, q _ _ _ (I.hok.fresh (Nat.le_refl _)) (by rw [← hlen]; exact m1) ?_⟩
  rw [← hlen]
  exact m2
theorem cr_lenSe : CallR X (.builtin "len") rLenSe := by
  intro pins s σ H xs us Q I r h
  obtain ⟨a, S, c, rfl, ha, hc, q⟩ := h
  obtain ⟨u, rfl, ru⟩ := vals1 r
  cases ru
  obtain ⟨o, es, ep, t, ho, hex, hd, _, _, _, hf, hn⟩ := I.hok a _ ha
  exact call_len_set ho hex hd hf (by rw [hn]; omega) ⟨.int c, H, I.tok _, ⟨_, by rw [hn]⟩, q⟩
theorem cr_lenDk : CallR X (.builtin "len") rLenDk := call_lenD
theorem c_setLi (e : X.K = K) (hc : X.calm = true) : CallR X (.type "set") (rSetLi K) := by subst e; exact cr_setLi hc
end
section
variable {K : PySem.W.Frag} {H : Hp} {Q : VK}
theorem r_setLi {l : Addr} (ns : List Int) (h1 : SqL K H l (ns.map V.int)) (h2 : ns.length ≤ 4000) (h : ∀ p S c, H p = none → c ≤ ns.length → (c = ns.length ↔ ∀ a < ns.length, ∀ b < ns.length, ns.getD a 0 = ns.getD b 0 → a = b) → Q (.ref p) (upd H p (.set S c))) : rSetLi K [.ref l] H Q := ⟨l, ns, rfl, h1, h2, h⟩
theorem r_lenSe {a : Addr} {S : Int → Bool} {c : Nat} (h : H a = some (.set S c)) (hc : c ≤ 5000) (q : Q (.int (c : Int)) H) : rLenSe [.ref a] H Q := ⟨a, S, c, rfl, h, hc, q⟩
theorem r_lenDk {a : Addr} {kvs : List (Key × V)} (h : H a = some (.dK kvs)) (q : Q (.int kvs.length) H) : rLenDk [.ref a] H Q := ⟨a, kvs, rfl, h, q⟩
end
/-! ## x = {k: v for ..} -/
section
variable {X : Cx}
theorem sw_dict {kx vx : Expr} {gs : List Comprehension} {scope : Scope} {pos py : Pos} {y : Str} {l : Nat} {env : Env} (h1 : env.scope.kind = .function) (h2 : env.scope.names.lookup y = some .local) (h3 : (py.line == pos.line) = true)
    (h4 : (scope.names.any fun (n, k) => n == y && (k == .local || k == .cell)) = false) : swapsWith (.DictComp kx vx gs scope pos) (some (.Name y py)) l env = pure true := by
  have a : env.kindOf y = some .local := h2
  have b : env.blockKind = .function := by
    unfold Env.blockKind
    rw [h1]
    rfl
  unfold swapsWith
  simp only [a, b, h4, Expr.pos, h3]
  rfl
theorem ps_setDc {i : Nat} {y : Str} {py : Pos} {kx vx tg iter : Expr} {ifs : List Expr} {scope : Scope} {own : List (Str × Nat)} {pos spos : Pos} {wi : TI} {g : TG} {tt : TT} {tk tv : TE} (calm : X.calm = true) (nd : X.N.Nodup) (at_i : X.N[i]? = some y) (loc : X.env.scope.names.lookup y = some .local)
    (sw : swapsWith (.DictComp kx vx [⟨tg, iter, ifs, 0⟩] scope pos) (some (.Name y py)) spos.line X.env = pure true) (it : PI X tg iter wi) (blk : BlkOk X.N X.env.scope scope own)
    (pg : ∀ (s : Shared) (H : Hp) (C : Addr) (cl : List (Str × Addr)) (fp : List Addr), PG (X.blk s H scope (compEnvC scope cl C X.env) fp) tg g) (pt : ∀ (s : Shared) (H : Hp) (C : Addr) (cl : List (Str × Addr)) (fp : List Addr), PTs (X.blk s H scope (compEnvC scope cl C X.env) fp) ifs tt)
    (pk : ∀ (s : Shared) (H : Hp) (C : Addr) (cl : List (Str × Addr)) (fp : List Addr), PE (X.blk s H scope (compEnvC scope cl C X.env) fp) kx tk) (pv' : ∀ (s : Shared) (H : Hp) (C : Addr) (cl : List (Str × Addr)) (fp : List Addr), PE (X.blk s H scope (compEnvC scope cl C X.env) fp) vx tv)
    (fold : ∀ x, foldedSetIterable iter X.env x = pure x := by intro _; rfl) :
    PS X (.Assign [.Name y py] (.DictComp kx vx [⟨tg, iter, ifs, 0⟩] scope pos) spos) (tAsg (tDc wi g tt tk tv (own.map (·.2))) (gName i)) := by
  refine ⟨fun pins s σ H D I h => ?_⟩
  rw [exec_Assign_Name_used _ _ _ _ sw]
  refine wpAny_bind (wpAny_standAt (wpAny_bind ?_))
  show wpAny _ X.A (do let _ ← comprehension (.DictComp kx vx [⟨tg, iter, ifs, 0⟩] scope pos) scope X.env (firstIterPos [⟨tg, iter, ifs, 0⟩] pos) newDict false (eval iter X.env) (some (assign (.Name y py) X.env))) _ _ s
  have dc := dc_core (pos := pos) (Qf := fun _ s' => SP X pins D .next s') (Q := fun x H1 => gName i x σ H1 D.nx) (use := some (assign (.Name y py) X.env)) (pos' := firstIterPos [⟨tg, iter, ifs, 0⟩] pos) calm nd I it blk pg pt pk pv' fold h
  refine wpAny_bind (thn (dc fun L C s' m H' J q hn fp => ?_) fun _ s' hq => wpAny_pure (wpAny_pure hq))
  show wpAny _ _ (assign (.Name y py) X.env (.ref L)) _ _ _
  refine wpAny_assign_Name (store_ok2 (v := V.ref L) J nd at_i (.inl loc) rfl (fun s2 J2 hst => ?_) (.inr loc))
  obtain ⟨a, sb, ha⟩ := hst
  obtain ⟨g0, g1, g2, g3, g4, g5⟩ := fp
  have ne : C ≠ a := ha.elim (fun z => z ▸ g1) (fun z e => g4 y a z e.symm)
  exact ⟨m, hn.sameBut sb ne, fun h3 sb3 => ⟨_, H', J2.turned (t' := s2.toks) (fun b o hb e => (sb3.2 b hb).trans e) g0 g1 g3 g4 g5, q⟩⟩
end
end Vf

namespace Vf
open PySem PySem.Spec PyProof.Rows L2
/-! ## an own exception class over any built-in one, its fields stored by its __init__ -/
structure EC (K : PySem.W.Frag) (C : Addr) (tail : List Value) (nid : String) : Prop where
  cl : ∃ nm q N bs bm sn sub ab col dd k0 k1 k2 k3 k5,
    K.lookup C = some (excClassObj nm q C N bs bm true sn sub ab col dd k0 k1 k2 k3 k5 nid) ∧ PySem.W.excTail tail bm = true
  st : PySem.W.findIn K (.ref C) "__setattr__" = some (some (.builtin "object.__setattr__"))
  xf : XfC K C
  tt : PySem.W.typeIn K (.ref C) = some (.type "type")
  kk : PySem.W.keepIn K (.ref C) = true
theorem EC.over {K : PySem.W.Frag} {C : Addr} {tail : List Value} {nid : String} (T : EC K C tail nid) : PySem.W.excOver K C tail = true := by
  obtain ⟨nm, q, N, bs, bm, sn, sub, ab, col, dd, k0, k1, k2, k3, k5, hC, hb⟩ := T.cl
  unfold PySem.W.excOver PySem.W.clsIn
  rw [hC]
  show ((C == C) && PySem.W.excTail tail bm) = true
  rw [hb, beq_self_eq_true, Bool.and_self]
theorem taker_none {K : PySem.W.Frag} {C : Addr} {f : Str} (h : PySem.W.findIn K (.ref C) f = some none) : PySem.W.takerIn K C f = some none := by
  unfold PySem.W.takerIn
  rw [h] <;> rfl
/-- what of the built-in base the stores want -/
abbrev SFa (B : String) (tail : List Value) := StoreFacts B tail "object.__setattr__" "object"
section
variable {X : Cx} {pins : List (Addr × Obj)} {σ : L2.St} {H : Hp} {s : Shared} {a C dx : Addr} {f : Str} {y : V} {u : Value} {fs : List (Str × V)}
variable {Q : Unit → Shared → Prop} {E : Value → Shared → Prop} {A : Around} {B nid iid : String} {tail : List Value}
/-- self.f = y on an exception without a dict -/
theorem est_new (T : EC X.K C tail nid) (SF : SFa B tail) (I : Inv X pins σ H s) (e : H a = some (exo a C none)) (hno : PySem.W.findIn X.K (.ref C) f = some none) (ry : RelV y u)
    (h : ∀ dx s', H dx = none → dx ≠ a → Inv X pins σ (upd (upd H dx (exd dx [(f, y)])) a (exo a C (some dx))) s' → Q () s') :
    wpAny (model X.prog X.w) A (setAttr (.ref a) f u) Q E s := by
  obtain ⟨t1, ho⟩ := exo_at I.hok e
  obtain ⟨hp, g, d, t, os⟩ := s
  have hx : hp.get? a = some (PySem.W.excObj C t1 none .none) := ho
  refine PySem.W.set_plain (od := none) I.kIn ⟨hx, rfl, rfl, trivial⟩ T.st ?_
  refine PySem.W.osa_openX (od := none) (r := none) SF I.kIn ⟨hx, rfl, rfl, trivial⟩ T.over (taker_none hno) fun b => ?_
  obtain ⟨cd, hc, hd'⟩ := PySem.W.any_some T.xf.hdC
  have ltA : a < hp.objs.size := Heap.lt_size hx
  refine wpAny_bind (wpAny_pure (wpAny_bind (PySem.W.instanceDict_exc hx (PySem.W.looks_clsIn I.kIn hc) hd' ?_)))
  show wpAny _ _ (Builtin.ObjectAttr.storeInDict hp.objs.size (.str f _) f u) _ _ _
  have nax : a ≠ hp.objs.size := Nat.ne_of_lt ltA
  have xN : ((hp.push (PySem.W.dictOf [] 0)).update a fun o => { o with dict := some hp.objs.size }).get? a = some (PySem.W.excObj C t1 (some hp.objs.size) .none) :=
    Heap.get?_update_self _ (Heap.get?_push_of_some _ hx) rfl
  refine PySem.HandSPX.store_in_new ⟨PySem.W.dictOf [] 0, #[], _, (Heap.get?_update_ne _ _ _ _ nax.symm).trans (Heap.get?_push_at rfl rfl), rfl, fun e he => absurd he (by simp), fun _ => rfl⟩ fun h' tk' hn sb => ?_
  have k : ∀ b o, b ≠ a → hp.get? b = some o → h'.get? b = some o := fun b o hb ob =>
    (sb.2 b (Nat.ne_of_lt (Heap.lt_size ob))).trans ((Heap.get?_update_ne _ _ _ _ hb).trans (Heap.get?_push_of_some _ ob))
  have xE : h'.get? a = some (PySem.W.excObj C t1 (some hp.objs.size) .none) := (sb.2 a nax).trans xN
  have hnd : H hp.objs.size = none := I.hok.fresh (Nat.le_refl _)
  have nD : ∀ {b : Addr} {o : Obj}, hp.get? b = some o → b ≠ hp.objs.size := fun {b o} q => Nat.ne_of_lt (Heap.lt_size q)
  have nA : ∀ {b : Addr}, H b = none → b ≠ a := fun {b} n z => by
    rw [z, e] at n
    cases n
  have oT : ∀ {b : Addr} {o : HO}, H b = some o → exo a C none ≠ o → upd (upd H hp.objs.size (exd hp.objs.size [(f, y)])) a (exo a C (some hp.objs.size)) b = some o := fun {b o} q ne => by
    rw [upd_ne (L2.at_ne e q ne), upd_ne (ne_of_none q hnd)]
    exact q
  have U : Un X.fs [] H (upd (upd H hp.objs.size (exd hp.objs.size [(f, y)])) a (exo a C (some hp.objs.size))) hp h' := by
    refine ⟨fun b o q n _ _ => k b o (nA n) q, fun b o q n _ _ => ⟨o.slots, k b o (nA n) q⟩, fun b o q n _ => ?_, fun b o q _ => ?_, fun b xs q => oT q exo_tup, fun b o v q => oT q exo_frz, fun b ps q => ⟨#[], ?_⟩⟩
    · rw [upd_ne (nA n), upd_ne (nD q)]
      exact n
    · by_cases hb : b = a
      · rw [hb]
        exact ⟨_, xE⟩
      · exact ⟨o, k b o hb q⟩
    · rw [oT q exo_tbl, Array.append_empty]
  refine h hp.objs.size _ hnd nax.symm (I.un (t' := tk') U fun b o q => ?_)
  by_cases hb : b = a
  · rw [hb, upd_same] at q
    cases q
    rw [hb]
    exact exo_ok xE
  · rw [upd_ne hb] at q
    by_cases hd : b = hp.objs.size
    · rw [hd, upd_same] at q
      cases q
      rw [hd]
      exact exd_ok hn (relO_put (fs := []) ry fun g => True.intro)
    · rw [upd_ne hd] at q
      refine (I.hok b o q).stay (fun c v hc z => k c v ?_ z) (fun c hc => oT hc exo_own) fun c xs hc => oT hc exo_tup
      rcases hc with hc | hc
      · rw [hc]
        exact hb
      · exact L2.at_ne e hc exo_own
/-- a further one -/
theorem est_old (T : EC X.K C tail nid) (SF : SFa B tail) (I : Inv X pins σ H s) (e : H a = some (exo a C (some dx))) (ed : H dx = some (exd dx fs)) (hl : fs.length ≤ 900)
    (hno : PySem.W.findIn X.K (.ref C) f = some none) (ry : RelV y u) (h : ∀ s', Inv X pins σ (upd H dx (exd dx ((f, y) :: fs))) s' → Q () s') :
    wpAny (model X.prog X.w) A (setAttr (.ref a) f u) Q E s := by
  obtain ⟨t1, ho⟩ := exo_at I.hok e
  obtain ⟨mA, hns, rel⟩ := exd_at I.hok ed
  have hw := within_of rel
  obtain ⟨hp, g, d, t, os⟩ := s
  obtain ⟨oD, _, _, hoD, _, _⟩ := hns.count hw
  have hx : hp.get? a = some (PySem.W.excObj C t1 (some dx) .none) := ho
  refine PySem.W.set_plain (od := some oD) I.kIn ⟨hx, rfl, rfl, hoD⟩ T.st ?_
  refine PySem.W.osa_openX (od := some oD) (r := none) SF I.kIn ⟨hx, rfl, rfl, hoD⟩ T.over (taker_none hno) fun b => ?_
  obtain ⟨cd, hc, hd'⟩ := PySem.W.any_some T.xf.hdC
  refine wpAny_bind (wpAny_pure (wpAny_bind (wpAny_bind (wpAny_loadPart hx (wpAny_bind ((PySem.W.looks_clsIn I.kIn hc).at ?_))))))
  rw [hd']
  refine wpAny_pure (a := some dx) ?_
  refine PySem.OEX.store_in_old hns hw (by rw [List.length_map]; omega) fun h' tk' hn sb => ?_
  have there : ∃ o, h'.get? dx = some o := by
    obtain ⟨o, _, _, e', _⟩ := hn
    exact ⟨o, e'⟩
  exact h _ (I.write (t' := tk') (x := dx) (e := dx) (o := exd dx ((f, y) :: fs)) (by rw [ed]; exact True.intro) (.inl rfl) (fun b o hb ob => (sb.2 b hb).trans ob) there (exd_ok hn (relO_put ry rel)))
end
/-- what the making of an exception at C asks of its arguments -/
def MkB (C : Addr) (sp : Sp) (vs : List V) (H1 : Hp) (Q : XK) : Prop := vs.length ≤ 1000 ∧ ∀ a, H1 a = none → sp (.ref a :: vs) (upd H1 a (exo a C none))
  (fun v H2 => v = .non ∧ ∃ (d : Addr) (fs : List (Str × V)), H2 a = some (exo a C (some d)) ∧ H2 d = some (exd d fs) ∧ H1 d = none ∧ Q (.ref C) (some d) (upd (del H2 a) d (.xd fs)))
  (fun _ _ _ => False)
/-- self.f = e, in the __init__ of the class at C -/
def tEst (C : Addr) (f : Str) (to te : TE) : TS := fun D σ H => te σ H fun y H1 => to σ H1 fun x H2 => ∃ a : Addr, x = .ref a ∧
  ((H2 a = some (exo a C none) ∧ ∀ dx, H2 dx = none → dx ≠ a → D.nx σ (upd (upd H2 dx (exd dx [(f, y)])) a (exo a C (some dx)))) ∨
    ∃ (dx : Addr) (fs : List (Str × V)), H2 a = some (exo a C (some dx)) ∧ H2 dx = some (exd dx fs) ∧ fs.length ≤ 900 ∧ D.nx σ (upd H2 dx (exd dx ((f, y) :: fs))))
section
variable {X : Cx} {o e : Expr} {es : List Expr} {to te : TE} {ta : TA} {f : Str} {p p' p1 p2 pos : Pos} {C : Addr} {B nid iid : String} {tail : List Value}
theorem ps_est (T : EC X.K C tail nid) (SF : SFa B tail) (hno : PySem.W.findIn X.K (.ref C) f = some none) (ho : PE X o to) (he : PE X e te)
    (hs : swapsWith e (some (.Attribute o f p')) pos.line X.env = pure false := by rfl) : PS X (.Assign [.Attribute o f p'] e pos) (tEst C f to te) := by
  refine ⟨fun pins s σ H D I h => ?_⟩
  refine plainObj_wpAny_Assign_Attribute (thn (he.run pins s σ H _ I h) fun v s1 ⟨y, H1, I1, r1, q1⟩ => ?_) hs
  refine thn (ho.run pins s1 σ H1 _ I1 q1) fun u s2 ⟨x, H2, I2, r2, a, ex, q⟩ => ?_
  subst ex
  obtain rfl : u = Value.ref a := r2
  rcases q with ⟨ea, q⟩ | ⟨dx, fs, ea, ed, hl, q⟩
  · exact est_new T SF I2 ea hno r1 fun dx s' n ne J => ⟨σ, _, J, q dx n ne⟩
  · exact est_old T SF I2 ea ed hl hno r1 fun s' J => ⟨σ, _, J, q⟩
/-- C(e, ..): an exception is made, its __init__ being known -/
theorem pmk_ec {CX : CXT} {x : Str} {fI : Addr} {k : Nat} {fd : FuncData} {ps : List Str} {sp : Sp} (T : EC X.K C tail nid) (EB : ExcBaseFacts B nid iid tail)
    (iC : PySem.W.findIn X.K (.ref C) "__init__" = some (some (.ref fI))) (tI : PySem.W.typeIn X.K (.ref fI) = some (.type "function"))
    (F1 : FnOk X.prog X.w X.K X.mg X.base CX k fI fd ps sp) (hr : Room (k + 1) X.A) (hb : Binds X.K fd ps []) (hx : Passes CX X (fun _ _ _ => False)) (hg : Gl X x) (hm : X.mg x = some (.ref C)) (ha : PA X (e :: es) ta)
    (hdb : (x == ("__debug__" : Str)) = false := by decide) (he : starEach (e :: es) X.env = (false, eval e X.env) :: starEach es X.env := by rfl)
    (hpl : (backTo pos (starEach es X.env)).any (·.1) = false := by rfl) {R : List V → Hp → XK → Prop} (hR : ∀ vs H1 Q, R vs H1 Q → MkB C sp vs H1 Q) :
    PMk X (.Call (.Name x p) (e :: es) [] pos) (fun σ H Q => ta σ H fun vs H1 => R vs H1 Q) := by
  intro pins s σ H Q I h
  obtain ⟨nm, q, N, bs, bm, sn, sub, ab, col, dd, k0, k1, k2, k3, k5, hC, hbm⟩ := T.cl
  refine wpAny_Call_Name_kw (ld_glob I hg hm ?_ hdb)
  refine PySem.W.callWith_K (h₀ := X.base) I.ok.mod.kin T.kk (thn (ha.run pos pins s σ H _ I h) fun us s1 ⟨vs, H1, I1, r1, qR⟩ => ⟨I1.kIn, ?_⟩) he hpl
  obtain ⟨hz, q1⟩ := hR _ _ _ qR
  show wpAny _ _ (call (.ref C) us) _ _ _
  obtain ⟨hp, g, dr, tk, os⟩ := s1
  have hsz : hp.objs.size ≤ hp.objs.size + 1 := Nat.le_succ _
  have hq := q1 _ (I1.hok.fresh hsz)
  have up : ∀ b o, hp.get? b = some o → ((hp.push (PySem.W.kdv_tup us)).push (PySem.HandSPX.excO C hp.objs.size)).get? b = some o :=
    fun b o e => Heap.get?_push_of_some _ (Heap.get?_push_of_some _ e)
  have hget : ((hp.push (PySem.W.kdv_tup us)).push (PySem.HandSPX.excO C hp.objs.size)).get? (hp.objs.size + 1) = some (PySem.HandSPX.excO C hp.objs.size) := by heap_get
  have I2 := I1.laid (t' := tk) (a := hp.objs.size + 1) (o := exo (hp.objs.size + 1) C none) (h' := (hp.push (PySem.W.kdv_tup us)).push (PySem.HandSPX.excO C hp.objs.size)) up hsz (exo_ok hget)
  have r2 : Vals (V.ref (hp.objs.size + 1) :: vs) (Value.ref (hp.objs.size + 1) :: us) := .cons rfl r1
  have hl : (Value.ref (hp.objs.size + 1) :: us).length = ps.length := r2.length.symm.trans (F1.len _ _ _ _ hq)
  have hb' := hb _ (Value.ref (hp.objs.size + 1) :: us) I2.kIn (by rw [List.append_nil]; exact hl)
  rw [List.append_nil] at hb'
  have hus : us.length ≤ sizeLine := by
    rw [← Paired.length r1, sizeLine_eq]
    omega
  refine wpAny_call (PySem.HandSPX.call_own EB (fun Y => PySem.W.excTail_contains Y bm hbm) (I1.kIn _ _ hC) (PySem.W.looks_findIn I1.kIn iC) (fun self => PySem.W.bind_fn I1.kIn self tI) hus ?_)
  refine codeAny_mono (F1.run _ X.stack _ _ _ _ _ _ (fun _ _ _ => False) (hr.make C us []) (I2.env0.make C us []) hb' r2 hq) fun r s' z => ?_
  cases r with
  | error er => exact hx pins σ _ _ er s' I2 z
  | ok fl =>
    cases fl with
    | next => exact False.elim z
    | brk => exact False.elim z
    | cont => exact False.elim z
    | ret u =>
      obtain ⟨v, H2, os2, bare2, un2, hok2, rv, ev, d, fs, ea, ed, hd1, q2⟩ := z
      subst ev
      obtain ⟨h2, g2, d2, t2, os'⟩ := s'
      exact ⟨rv, mk_end (raises_own T.xf.exC T.tt) I1 hsz up un2 hok2 os2 bare2 ea ed hd1 q2⟩
end
/-- where the class stands that the module calls so -/
def cA (mg : Str → Option Value) (x : Str) : Addr := match mg x with
  | some (.ref a) => a
  | _ => 0
theorem cA_eq {mg : Str → Option Value} {x : Str} {a : Addr} (h : mg x = some (.ref a)) : cA mg x = a := by
  unfold cA
  rw [h]
/-! ## __init__ with one field, with two -/
def spI1 (C : Addr) (f : Str) : Sp := fun vs H Q _ => ∃ (a : Addr) (v : V), vs = [.ref a, v] ∧ H a = some (exo a C none) ∧
  ∀ dx, H dx = none → dx ≠ a → Q .non (upd (upd H dx (exd dx [(f, v)])) a (exo a C (some dx)))
def spI2 (C : Addr) (f g : Str) : Sp := fun vs H Q _ => ∃ (a : Addr) (v w : V), vs = [.ref a, v, w] ∧ H a = some (exo a C none) ∧
  ∀ dx, H dx = none → dx ≠ a → Q .non (upd (upd (upd H dx (exd dx [(f, v)])) a (exo a C (some dx))) dx (exd dx [(g, w), (f, v)]))
/-- C(e) of one field; C(e, e') of two: the exception's dict stands at a new place -/
def tMk1 (C : Addr) (f : Str) (ta : TA) : L2.St → Hp → XK → Prop := fun σ H Q => ta σ H fun vs H1 => ∃ v, vs = [v] ∧ ∀ d, H1 d = none → Q (.ref C) (some d) (upd H1 d (.xd [(f, v)]))
def tMk2 (C : Addr) (f g : Str) (ta : TA) : L2.St → Hp → XK → Prop := fun σ H Q => ta σ H fun vs H1 => ∃ v w, vs = [v, w] ∧ ∀ d, H1 d = none → Q (.ref C) (some d) (upd H1 d (.xd [(g, w), (f, v)]))
theorem mk1_of {C : Addr} {f : Str} (vs : List V) (H1 : Hp) (Q : XK) : (∃ v, vs = [v] ∧ ∀ d, H1 d = none → Q (.ref C) (some d) (upd H1 d (.xd [(f, v)]))) → MkB C (spI1 C f) vs H1 Q := by
  rintro ⟨v, rfl, q⟩
  refine ⟨Nat.le_of_ble_eq_true rfl, fun a ha => ⟨a, v, rfl, upd_same, fun dx hd ne => ⟨rfl, dx, [(f, v)], upd_same, ?_, ?_, ?_⟩⟩⟩
  · rw [upd_ne ne, upd_same]
  · rw [upd_ne ne] at hd
    exact hd
  · have z := q dx (by rw [upd_ne ne] at hd; exact hd)
    have e : upd (del (upd (upd (upd H1 a (exo a C none)) dx (exd dx [(f, v)])) a (exo a C (some dx))) a) dx (.xd [(f, v)]) = upd H1 dx (.xd [(f, v)]) := by
      funext b
      by_cases h1 : b = dx
      · rw [h1, upd_same, upd_same]
      · rw [upd_ne h1, upd_ne h1]
        by_cases h2 : b = a
        · rw [h2, del_same, ha]
        · rw [del_ne h2, upd_ne h2, upd_ne h1, upd_ne h2]
    rw [e]
    exact z
theorem mk2_of {C : Addr} {f g : Str} (vs : List V) (H1 : Hp) (Q : XK) : (∃ v w, vs = [v, w] ∧ ∀ d, H1 d = none → Q (.ref C) (some d) (upd H1 d (.xd [(g, w), (f, v)]))) → MkB C (spI2 C f g) vs H1 Q := by
  rintro ⟨v, w, rfl, q⟩
  refine ⟨Nat.le_of_ble_eq_true rfl, fun a ha => ⟨a, v, w, rfl, upd_same, fun dx hd ne => ⟨rfl, dx, [(g, w), (f, v)], ?_, upd_same, ?_, ?_⟩⟩⟩
  · rw [upd_ne ne.symm, upd_same]
  · rw [upd_ne ne] at hd
    exact hd
  · have z := q dx (by rw [upd_ne ne] at hd; exact hd)
    have e : upd (del (upd (upd (upd (upd H1 a (exo a C none)) dx (exd dx [(f, v)])) a (exo a C (some dx))) dx (exd dx [(g, w), (f, v)])) a) dx (.xd [(g, w), (f, v)]) = upd H1 dx (.xd [(g, w), (f, v)]) := by
      funext b
      by_cases h1 : b = dx
      · rw [h1, upd_same, upd_same]
      · rw [upd_ne h1, upd_ne h1]
        by_cases h2 : b = a
        · rw [h2, del_same, ha]
        · rw [del_ne h2, upd_ne h1, upd_ne h2, upd_ne h1, upd_ne h2]
    rw [e]
    exact z
/-! ## calls of defs that may raise, by the caller's slots -/
def tCallW (sp : Sp) (W : WX) (t : TA) : TE := fun σ H Q => t σ H fun vs H1 => sp vs H1 Q fun cls d H' => W cls d σ H'
def tCallKW (sp : Sp) (gV : List V → List V → List V) (W : WX) (t tk : TA) : TE := fun σ H Q => t σ H fun vs H1 => tk σ H1 fun zs H2 => sp (gV vs zs) H2 Q fun cls d H' => W cls d σ H'
section
variable {X : Cx} {k : Nat} {ps ks : List Str} {sp : Sp} {W : WX} {x : Str} {st : Stmt} {p pos : Pos} {e : Expr} {es : List Expr} {kws : List Keyword} {t tq : TA}
theorem run_gS {pins : List (Addr × Obj)} {σ : L2.St} {H : Hp} {s : Shared} {Q : VK} {us : List Value} {vs : List V} {f : Addr} {fd : FuncData} {args : Args}
    (r : ∀ (A : Around) (outer : List Env) (s : Shared) (H : Hp) (args : Args) (us : List Value) (vs : List V) (Q : VK) (E : XK),
      A.guards = some [] → Room k A → Env0 X.prog X.w X.K X.mg X.base A outer s H → BindsTo s fd args (ps.zip us) → Vals vs us → sp vs H Q E →
        codeAny (model X.prog X.w) A (.call (.ref f) args) (CR (CX X.prog X.w) outer X.prog X.w H s Q E) s)
    (hg : X.A.guards = some []) (hr : Room k X.A) (tk : Takes X W) (I : Inv X pins σ H s) (hb : BindsTo s fd args (ps.zip us)) (hv : Vals vs us)
    (h : sp vs H Q fun cls d H' => W cls d σ H') :
    codeAny (model X.prog X.w) X.A (.call (.ref f) args)
      (fun r s' => match r with | .error e => X.xe e s' | .ok (.ret u) => EP X pins σ Q u s' | .ok _ => False) s := by
  refine codeAny_mono (r X.A X.stack s H args us vs Q _ hg hr I.env0 hb hv h) fun r s' hq => ?_
  cases r with
  | error e => exact tk _ _ (XE.of_call I (fun _ _ _ z => z) hq)
  | ok fl =>
    cases fl with
    | ret u => exact I.after hq
    | next => exact hq
    | brk => exact hq
    | cont => exact hq
theorem pe_gS (G : Ok X.prog X.w X.K X.mg X.base k x st ps sp) (b : ∀ f fd, L2.Fun X.K x x st f fd → L2.Binds X.K fd ps [])
    (hg : X.A.guards = some []) (hr : Room k X.A) (tk : Takes X W) (gl : Gl X x) (ha : PA X (e :: es) t)
    (hdb : (x == ("__debug__" : Str)) = false := by decide)
    (he : starEach (e :: es) X.env = (false, eval e X.env) :: starEach es X.env := by rfl)
    (hpl : (backTo pos (starEach es X.env)).any (·.1) = false := by rfl) :
    PE X (.Call (.Name x p) (e :: es) [] pos) (tCallW sp W t) := by
  obtain ⟨⟨f, fd, F, hm, r⟩, l⟩ := G
  refine ⟨fun pins s σ H Q I h => wpAny_Call_Name_kw (ld_glob I gl hm ?_ hdb)⟩
  refine PySem.W.callWith_K (h₀ := X.base) I.ok.mod.kin F.kp (thn (ha.run pos pins s σ H _ I h) fun us s1 ⟨vs, H1, I1, r1, q1⟩ => ⟨I1.kIn, ?_⟩) he hpl
  have hl : us.length = ps.length := r1.length.symm.trans (l _ _ _ _ q1)
  have bb := b f fd F s1 us I1.kIn (by rw [List.append_nil]; exact hl)
  rw [List.append_nil] at bb
  refine wpAny_call (codeAny_mono (run_gS r hg hr tk I1 bb r1 q1) fun z s' hz => ?_)
  rcases z with e | fl
  · exact hz
  · cases fl <;> exact hz
theorem pe_gkS0 {gf : List Value → List Value → List Value} {gV : List V → List V → List V} (G : Ok X.prog X.w X.K X.mg X.base k x st ps sp)
    (b : ∀ f fd, L2.Fun X.K x x st f fd → KBinds X.K fd ps ks gf gV)
    (hg : X.A.guards = some []) (hr : Room k X.A) (tk : Takes X W) (gl : Gl X x) (hkw : PK X kws tq)
    (hall : (backToKw pos (keywordEach kws X.env)).all (·.1.isSome) = true := by rfl)
    (hks : (backToKw pos (keywordEach kws X.env)).filterMap (·.1) = ks := by rfl) (hdb : (x == ("__debug__" : Str)) = false := by decide)
    (hpl : ((backTo pos (starEach [] X.env)).any (·.1) || (backToKw pos (keywordEach kws X.env)).any (·.1.isNone)) = false := by rfl) :
    PE X (.Call (.Name x p) [] kws pos) (tCallKW sp gV W tNil tq) := by
  obtain ⟨⟨f, fd, F, hm, r⟩, l⟩ := G
  refine ⟨fun pins s σ H Q I h => wpAny_Call_Name_kw (ld_glob I gl hm ?_ hdb)⟩
  refine PySem.W.callWith_KW0 (h₀ := X.base) I.ok.mod.kin F.kp hall (thn (hkw.run pos pins s σ H _ I h) fun ws s2 ⟨zs, H2, I2, rz, q2⟩ => ⟨I2.kIn, ?_⟩) hpl
  rw [hks]
  have B := b f fd F
  have r2 := B.rel .nil rz
  refine wpAny_call (codeAny_mono (run_gS r hg hr tk I2 (B.to s2 [] ws I2.kIn (r2.length.symm.trans (l _ _ _ _ q2))) r2 q2) fun z s' hz => ?_)
  rcases z with e | fl
  · exact hz
  · cases fl <;> exact hz
theorem pe_gkS {gf : List Value → List Value → List Value} {gV : List V → List V → List V} (G : Ok X.prog X.w X.K X.mg X.base k x st ps sp)
    (b : ∀ f fd, L2.Fun X.K x x st f fd → KBinds X.K fd ps ks gf gV)
    (hg : X.A.guards = some []) (hr : Room k X.A) (tk : Takes X W) (gl : Gl X x) (ha : PA X (e :: es) t) (hkw : PK X kws tq)
    (hall : (backToKw pos (keywordEach kws X.env)).all (·.1.isSome) = true := by rfl)
    (hks : (backToKw pos (keywordEach kws X.env)).filterMap (·.1) = ks := by rfl) (hdb : (x == ("__debug__" : Str)) = false := by decide)
    (he : starEach (e :: es) X.env = (false, eval e X.env) :: starEach es X.env := by rfl)
    (hpl : ((backTo pos (starEach (e :: es) X.env)).any (·.1) || (backToKw pos (keywordEach kws X.env)).any (·.1.isNone)) = false := by rfl) :
    PE X (.Call (.Name x p) (e :: es) kws pos) (tCallKW sp gV W t tq) := by
  obtain ⟨⟨f, fd, F, hm, r⟩, l⟩ := G
  refine ⟨fun pins s σ H Q I h => wpAny_Call_Name_kw (ld_glob I gl hm ?_ hdb)⟩
  refine PySem.W.callWith_KW (h₀ := X.base) I.ok.mod.kin F.kp hall (thn (ha.run pos pins s σ H _ I h) fun us s1 ⟨vs, H1, I1, r1, q⟩ => ?_) hpl he
  refine thn (hkw.run pos pins s1 σ H1 _ I1 q) fun ws s2 ⟨zs, H2, I2, rz, q2⟩ => ⟨I2.kIn, ?_⟩
  rw [hks]
  have B := b f fd F
  have r2 := B.rel r1 rz
  refine wpAny_call (codeAny_mono (run_gS r hg hr tk I2 (B.to s2 us ws I2.kIn (r2.length.symm.trans (l _ _ _ _ q2))) r2 q2) fun z s' hz => ?_)
  rcases z with e | fl
  · exact hz
  · cases fl <;> exact hz
end
section
variable {sp : Sp} {W : WX} {t tq : TA} {gV : List V → List V → List V} {σ : L2.St} {H : Hp} {Q : VK} {a C : Addr} {cls : Value} {d : Option Addr} {f : Str} {te : TE}
theorem r_callW (h : t σ H fun vs H1 => sp vs H1 Q fun cls d H' => W cls d σ H') : tCallW sp W t σ H Q := h
theorem r_callKW (h : t σ H fun vs H1 => tq σ H1 fun zs H2 => sp (gV vs zs) H2 Q fun cls d H' => W cls d σ H') : tCallKW sp gV W t tq σ H Q := h
theorem r_xf (h : te σ H fun x H1 => x = .ref a ∧ cls = .ref C ∧ ∃ (dd : Addr) (fs : List (Str × V)) (v : V), d = some dd ∧ H1 dd = some (.xd fs) ∧ fs.lookup f = some v ∧ Q v H1) :
    tXf a cls d C f te σ H Q := h
/-- the clause 'except x as n' takes it; it goes by -/
theorem w_as {K : PySem.W.Frag} {c : Value} {i : Nat} {ts : Addr → Value → Option Addr → TS} {Wout : WX} {D : Ends} (h1 : PySem.W.exmOne K cls c = some true)
    (h : ∀ a, H a = none → ts a cls d { nx := fun σ' H' => D.nx (σ'.set i none) H', rt := D.rt, bk := fun σ' H' => D.bk (σ'.set i none) H', ct := fun σ' H' => D.ct (σ'.set i none) H' } (σ.set i (some (.ref a))) H) :
    wAs K c i ts Wout D cls d σ H := ⟨true, h1, fun _ a ha => h a ha, fun z => Bool.noConfusion z⟩
theorem w_by {K : PySem.W.Frag} {c : Value} {i : Nat} {ts : Addr → Value → Option Addr → TS} {Wout : WX} {D : Ends} (h1 : PySem.W.exmOne K cls c = some false) (h : Wout cls d σ H) :
    wAs K c i ts Wout D cls d σ H := ⟨false, h1, fun z => Bool.noConfusion z, fun _ => h⟩
end
/-- whether an except clause takes an exception of an own class -/
theorem exm_cls {K : PySem.W.Frag} {C D : Addr} {b : Bool} (h1 : PySem.W.subIn K (.ref D) (.type "BaseException") = some true) (h2 : PySem.W.hasDictIn K D = true)
    (h3 : PySem.W.typeIn K (.ref D) = some (.type "type")) (h4 : PySem.W.subIn K (.ref C) (.ref D) = some b) : PySem.W.exmOne K (.ref C) (.ref D) = some b := by
  obtain ⟨cd, hc, _⟩ := PySem.W.any_some h2
  unfold PySem.W.exmOne
  rw [if_pos (by rw [h1]; decide)]
  unfold PySem.W.kitCls
  dsimp only
  rw [if_pos (by rw [h3, hc] <;> rfl)]
  exact h4
/-! ## is None, is not None -/
theorem r_isn_ref {p : Addr} {R : Bool → Prop} (h : R false) : V.non = V.non ∧ ∃ k, V.bl (decide (V.ref p = V.non)) = V.bl k ∧ R k := ⟨rfl, _, rfl, by rw [show decide (V.ref p = V.non) = false by simp]; exact h⟩
theorem r_nn_ref {p : Addr} {R : Bool → Prop} (h : R true) : V.non = V.non ∧ ∃ k, V.bl (!decide (V.ref p = V.non)) = V.bl k ∧ R k := ⟨rfl, _, rfl, by rw [show (!decide (V.ref p = V.non)) = true by simp]; exact h⟩
theorem r_isn_int {i : Int} {R : Bool → Prop} (h : R false) : V.non = V.non ∧ ∃ k, V.bl (decide (V.int i = V.non)) = V.bl k ∧ R k := ⟨rfl, _, rfl, by rw [show decide (V.int i = V.non) = false by simp]; exact h⟩
theorem r_nn_int {i : Int} {R : Bool → Prop} (h : R true) : V.non = V.non ∧ ∃ k, V.bl (!decide (V.int i = V.non)) = V.bl k ∧ R k := ⟨rfl, _, rfl, by rw [show (!decide (V.int i = V.non)) = true by simp]; exact h⟩
theorem r_isn_non {R : Bool → Prop} (h : R true) : V.non = V.non ∧ ∃ k, V.bl (decide (V.non = V.non)) = V.bl k ∧ R k := ⟨rfl, _, rfl, by rw [show decide (V.non = V.non) = true by simp]; exact h⟩
theorem r_nn_non {R : Bool → Prop} (h : R false) : V.non = V.non ∧ ∃ k, V.bl (!decide (V.non = V.non)) = V.bl k ∧ R k := ⟨rfl, _, rfl, by rw [show (!decide (V.non = V.non)) = false by simp]; exact h⟩
/-! ## lists put together -/
theorem r_cat {l b : Addr} {xs zs : List V} {H : Hp} {Q : VK} (h1 : H l = some (.lst xs)) (h2 : H b = some (.lst zs)) (hz : xs.length + zs.length ≤ 100000) (h : ∀ p, H p = none → Q (.ref p) (upd H p (.lst (xs ++ zs)))) :
    rCat (.ref l) (.ref b) H Q := ⟨l, b, xs, zs, rfl, rfl, h1, h2, small hz, h⟩
/-! ## >>= 1, signs of a text -/
def ipH : TIp := fun x y H Q => ∃ i : Int, x = .int i ∧ y = .int 1 ∧ Q (.int (i / 2)) H
theorem ip_half {X : Cx} : PIp X .RShift ipH := fun pins s σ H x y v u Q I rx ry h => iop_halfI pins s σ H x y v u Q I rx ry h
theorem r_half {i : Int} {H : Hp} {Q : VK} (h : Q (.int (i / 2)) H) : ipH (.int i) (.int 1) H Q := ⟨i, rfl, rfl, h⟩
def rOdd : V → V → Hp → VK → Prop := fun x y H Q => ∃ n : Nat, x = .int (n : Int) ∧ y = .int 1 ∧ Q (.int ((n % 2 : Nat) : Int)) H
theorem r_odd {n : Nat} {H : Hp} {Q : VK} (h : Q (.int ((n % 2 : Nat) : Int)) H) : ∃ m : Nat, (V.int (n : Int)) = .int (m : Int) ∧ V.int 1 = .int 1 ∧ Q (.int ((m % 2 : Nat) : Int)) H := ⟨n, rfl, rfl, h⟩
theorem r_forStr {g : TG} {tb : TS} {D : Ends} {σ : L2.St} {H : Hp} {te : TE} (h : te σ H fun v H1 => ∃ x, v = .str x ∧ tFor (fun _ H2 R => R (Its x) H2) g tb D σ H1) : tFor (iStr te) g tb D σ H := h
theorem r_forSs {x : Str} {g : TG} {tb : TS} {D : Ends} {σ : L2.St} {H : Hp} (Pv : Nat → L2.St → Hp → Prop) (h0 : Pv 0 σ H)
    (hs : ∀ i c σ H, x.cps[i]? = some c → Pv i σ H → g (.str ⟨#[c]⟩) σ H fun σ2 H2 => tb { D with nx := Pv (i + 1), ct := Pv (i + 1), bk := D.nx } σ2 H2) (hd : ∀ σ H, Pv x.cps.size σ H → D.nx σ H) :
    tFor (fun _ H2 R => R (Its x) H2) g tb D σ H := by
  refine ⟨fun i l σ H => i + l = x.cps.size ∧ Pv i σ H, ⟨x.cps.size, Nat.zero_add _, h0⟩, ?_⟩
  rintro i l σ H ⟨e, p⟩
  by_cases c : i < x.cps.size
  · refine .inr ⟨c, Pv (i + 1), fun σ' H' p' => ⟨l - 1, by omega, by omega, p'⟩, ?_⟩
    rintro y H' ⟨eH, c0, hc, ey⟩
    subst eH
    subst ey
    exact hs i c0 σ _ hc p
  · have z : i = x.cps.size := by omega
    subst z
    exact .inl ⟨Nat.le_refl _, hd σ H p⟩
end Vf

namespace Vf
open PySem PySem.Spec PyProof.Rows L2
/-! ## the decimal signs of a number, read one by one -/
def sgn (k : Nat) : Str := PySem.Str.ofString (toString ((k : Nat) : Int))
/-- what the first signs tell -/
def dv (k i : Nat) : Nat := NumText.digitsVal ((sgn k).cps.toList.take i)
theorem sgn_list (k : Nat) : (sgn k).cps.toList = (Nat.toDigits 10 k).map Char.toNat := PySem.W.KIN.signs_num k
theorem dv_zero (k : Nat) : dv k 0 = 0 := rfl
theorem dv_all (k : Nat) : dv k (sgn k).cps.size = k := by
  unfold dv
  rw [List.take_of_length_le (by rw [Array.length_toList]; exact Nat.le_refl _), sgn_list]
  exact PySem.W.KIN.val_back k
theorem sgn_digit {k i c : Nat} (h : (sgn k).cps[i]? = some c) : 48 ≤ c ∧ c ≤ 57 := by
  have m : c ∈ (sgn k).cps.toList := Array.mem_toList_iff.mpr (Array.mem_of_getElem? h)
  rw [sgn_list] at m
  obtain ⟨ch, hch, e⟩ := List.mem_map.mp m
  have r := PyProof.Rows.digit_range (Nat.isDigit_of_mem_toDigits (by decide) (by decide) hch)
  rw [← e]
  exact r
theorem dv_next {k i c : Nat} (h : (sgn k).cps[i]? = some c) : dv k (i + 1) = dv k i * 10 + (c - 48) := by
  have h' : (sgn k).cps.toList[i]? = some c := by rw [Array.getElem?_toList]; exact h
  unfold dv
  rw [List.take_add_one, h']
  exact PySem.NumText.digitsVal_snoc _ _
theorem one_sign {c : Nat} (h1 : 48 ≤ c) (h2 : c ≤ 57) : PySem.intText? (⟨#[c]⟩ : Str) = some (((c - 48 : Nat) : Nat) : Int) := by
  have e := PySem.intText_digits (x := (⟨#[c]⟩ : Str)) (fun d hd => by
    have : d = c := by simpa using hd
    subst this
    exact ⟨h1, h2⟩) (by simp) (show 1 ≤ 4300 by decide)
  rw [e]
  congr 2
  show 0 * 10 + (c - 48) = c - 48
  omega
theorem r_intS {c : Nat} {H : Hp} {Q : VK} (h1 : 48 ≤ c) (h2 : c ≤ 57) (h : Q (.int ((c - 48 : Nat) : Int)) H) :
    ∃ a n, [V.str ⟨#[c]⟩] = [V.str a] ∧ PySem.intText? a = some n ∧ a.length ≤ 640 ∧ Q (.int n) H := ⟨_, _, rfl, one_sign h1 h2, (by decide : 1 ≤ 640), h⟩
theorem r_strI {k : Nat} {H : Hp} {Q : VK} (hk : k.log2 < 1920) (h : Q (.str (sgn k)) H) : ∃ i : Int, [V.int (k : Int)] = [V.int i] ∧ i.natAbs.log2 < 1920 ∧ Q (.str (toString i)) H := ⟨_, rfl, hk, h⟩
end Vf

namespace Vf
open PySem PySem.Spec PyProof.Rows L2 LamX
/-! ## a lambda without parameters handed to a def of the text, where repr may be used -/
section
variable {X : Cx} {pins : List (Addr × Obj)} {σ : L2.St} {H : Hp} {s s1 : Shared}
/-- the context of the def at g, entered from X at s -/
abbrev gcx (X : Cx) (Ng : List Str) (x : Str) (st : Stmt) (g : Addr) (cdg : Value) (s : Shared) (H : Hp) (E : XK) : Cx :=
  cxOf (CX X.prog X.w) X.prog X.w X.K X.mg X.base Ng x (defScope st) g cdg X.A X.stack s H E
/-- x(), in the def that got the lambda -/
theorem pe_actG {Eg : XK} {Ng : List Str} {x : Str} {st : Stmt} {g f c' : Addr} {cdg pm ctv : Value} {params : Arguments} {body : Expr} {scope : Scope} {k i : Nat} {a : Str} {pn : List (Addr × Obj)} {xe : Value → Shared → Prop} {W : WX} {tb : XK → TE} {p1 p2 : Pos}
    (I : Inv X pins σ H s) (L : LamS X.env.scope scope) (hf : s.heap.get? f = some (PySem.W.kla_obj "<lambda>" (X.env.qual ++ "<lambda>") params body scope (cloFrom X.env.cells scope.names []) pm c' ctv)) (hfn : H f = none) (hfr : f ∉ frs X.stack)
    (hbind : bindArgs (PySem.W.kla_fn "<lambda>" (X.env.qual ++ "<lambda>") params body scope (cloFrom X.env.cells scope.names []) pm (.ref c') ctv) ⟨[], []⟩ = pure [])
    (tk : Takes ((gcx X Ng x st g cdg s H Eg).tr pn xe) W) (hgA : X.A.guards = some []) (hr : Room (k + 1) (X.A.deeper (envOfC x (defScope st) s.heap.objs.size g cdg)))
    (hbody : ∀ (A : Around) (outer : List Env) (s : Shared) (H : Hp) (E : XK), (A.deeper (lamEnv X scope s.heap.objs.size f c')).guards = some [] → Room k (A.deeper (lamEnv X scope s.heap.objs.size f c')) → PE (lamCx X A outer s H E scope f c') body (tb E))
    (hN : Ng[i]? = some a) (hv : Vis (defScope st) a) (hd : (a == ("__debug__" : Str)) = false := by decide) (hcd : (a == ("__classdict__" : Str)) = false := by decide) :
    PE ((gcx X Ng x st g cdg s H Eg).tr pn xe) (.Call (.Name a p1) [] [] p2) (fun σZ HZ Q => σZ[i]? = some (some (.ref f)) ∧ HZ c' = some (CodeO c' (X.env.qual ++ "<lambda>")) ∧ tb (fun cls d H' => W cls d σZ H') σ HZ Q) := by
  refine ⟨fun pinsZ sZ σZ HZ Q IZ h => ?_⟩
  obtain ⟨hs, hc, ht⟩ := h
  have named := (pe_var (X := (gcx X Ng x st g cdg s H Eg).tr pn xe) (pos := p1) (i := i) hN hv hd hcd).run pinsZ sZ σZ HZ (fun v H1 => v = .ref f ∧ H1 = HZ) IZ ⟨.ref f, hs, rfl, rfl⟩
  refine wpAny_Call_Name_kw (thn named fun u s1 ⟨v, H1, I1, r1, ev, eH⟩ => ?_)
  subst ev
  subst eH
  obtain rfl : u = Value.ref f := r1
  have of1 := I1.base.keep f _ hf hfn hfr (fun z => nomatch (show f ∈ ([] : List Addr) from z))
  refine PySem.W.callWith_F0 ⟨_, _, _, _, of1⟩ ?_
  have un : Un (frs X.stack) [] H H1 s.heap s1.heap := I1.base
  obtain ⟨⟨oc, vs, t, hoc, hdc, hvc⟩, _, _⟩ := I1.hok c' _ hc
  have rc : codeAny (model X.prog X.w) (X.A.deeper (envOfC x (defScope st) s.heap.objs.size g cdg)) (.call (.ref f) ⟨[], []⟩)
      (CR (CX X.prog X.w) (envOfC x (defScope st) s.heap.objs.size g cdg :: X.stack) X.prog X.w H1 s1 Q fun cls d H' => W cls d σZ H') s1 := by
    refine PySem.W.kla_callFunE hr.depth of1 rfl L.co L.gen rfl ⟨c', oc, vs, t, rfl, hoc, hdc, hvc⟩ ?_
    rw [hbind]
    refine wpAny_pure (wpAny_newFunctionEnv (fun y hy => (L.own y hy).2) (fun y hy => absurd hy (by simp)) (fun h₁ hns hsb => ⟨I1.nolimit.fresh _ hsb, ?_⟩) L.kind)
    show codeAny _ _ (.expr body (lamEnv X scope s1.heap.objs.size f c')) _ _
    have kp : ∀ b o, s1.heap.get? b = some o → h₁.get? b = some o := fun b o e => hsb.extBut b o (Nat.ne_of_lt (Heap.lt_size e)) (Heap.get?_push_of_some _ e)
    have J := lam_start2 (E := fun cls d H' => W cls d σZ H') (f := f) (c' := c') (tk := s1.toks + ([] : List (Str × Value)).length) I L I1.env0 hr.hd un hns kp
    refine PySem.W.kla_codeExpr (wpAny_mono ((hbody (X.A.deeper (envOfC x (defScope st) s.heap.objs.size g cdg)) _ s1 H1 _ hgA (hr.deeper _)).run [] _ _ H1 Q J ht) (fun v s' hq => ?_) fun e s' hq => hq)
    obtain ⟨w', H', J', rv, q⟩ := hq
    exact ⟨w', H', J'.os, J'.bare, J'.base, J'.hok, rv, q⟩
  refine wpAny_call (codeAny_mono rc fun r s' hq => ?_)
  rcases r with e | fl
  · exact tk _ _ (XE.of_call I1 (fun _ _ _ z => z) hq)
  · rcases fl with _ | _ | _ | u
    · exact False.elim hq
    · exact False.elim hq
    · exact False.elim hq
    · exact I1.after hq
end
/-- the def x that calls what it got (by the name a): TT is what it makes of the lambda's reading -/
def Gives (X : Cx) (k : Nat) (Ng : List Str) (x : Str) (st : Stmt) (a : Str) (q : Str) (TT : (XK → Hp → VK → Prop) → Hp → VK → Prop) : Prop :=
  ∀ (g : Addr) (cdg : Value) (f c' : Addr) (s : Shared) (H : Hp) (Q : VK) (tl : XK → Hp → VK → Prop), (X.A.deeper (envOfC x (defScope st) s.heap.objs.size g cdg)).guards = some [] → Room (k + 1) (X.A.deeper (envOfC x (defScope st) s.heap.objs.size g cdg)) →
    (∀ (W : WX) (pn : List (Addr × Obj)) (xe : Value → Shared → Prop) (p1 p2 : Pos), Takes ((gcx X Ng x st g cdg s H E0).tr pn xe) W →
      PE ((gcx X Ng x st g cdg s H E0).tr pn xe) (.Call (.Name a p1) [] [] p2) (fun σZ HZ Q => σZ[0]? = some (some (.ref f)) ∧ HZ c' = some (CodeO c' q) ∧ tl (fun cls d H' => W cls d σZ H') HZ Q)) →
    H c' = some (CodeO c' q) → TT tl H Q → ∃ t, PSs (gcx X Ng x st g cdg s H E0) (defBody st) t ∧ t { nx := fun _ H' => Q .non H', rt := Q } (L2.start Ng [.ref f]) H
section
variable {X : Cx}
/-- x(lambda: body) -/
theorem pe_lamG {T : List (Addr × Str)} {TT : (XK → Hp → VK → Prop) → Hp → VK → Prop} {x a : Str} {st : Stmt} {c P : Addr} {k : Nat} {Ng : List Str} {params : Arguments} {body : Expr} {scope : Scope} {t : XK → TE} {p lpos pos : Pos}
    (hA : At X.K X.mg x st) (hb : ∀ f fd, L2.Fun X.K x x st f fd → L2.Binds X.K fd [a] []) (Sg : FnScope Ng [a] (defScope st)) (hNg : Ng[0]? = some a) (hva : Vis (defScope st) a)
    (hgA : X.A.guards = some []) (hr : Room (k + 2) X.A) (hg : Gl X x) (hG : Gives X k Ng x st a (X.env.qual ++ "<lambda>") TT)
    (TB : TabB X.base X.mg c P) (hcode : X.env.code = .ref c) (hmT : (P, X.env.qual ++ "<lambda>") ∈ T) (hu : ∀ p ∈ T, p.1 = P → p.2 = X.env.qual ++ "<lambda>") (L : LamS X.env.scope scope) (hdef : defaultsOf params X.env = ([], []))
    (hbind : ∀ (q : Str) (cl : List (Str × Addr)) (pm cv ctv : Value), bindArgs (PySem.W.kla_fn "<lambda>" q params body scope cl pm cv ctv) ⟨[], []⟩ = pure [])
    (hbody : ∀ (A : Around) (outer : List Env) (s : Shared) (H : Hp) (E : XK) (f c' : Addr), (A.deeper (lamEnv X scope s.heap.objs.size f c')).guards = some [] → Room k (A.deeper (lamEnv X scope s.heap.objs.size f c')) → PE (lamCx X A outer s H E scope f c') body (t E))
    (hdb : (x == ("__debug__" : Str)) = false := by decide) (hd : (a == ("__debug__" : Str)) = false := by decide) (hcd : (a == ("__classdict__" : Str)) = false := by decide) :
    PE X (.Call (.Name x p) [.Lambda params body scope lpos] [] pos) (tLam T TT t) := by
  obtain ⟨g, fd, F, hm⟩ := hA
  refine ⟨fun pins s σ H Q I ⟨hT, h⟩ => ?_⟩
  refine wpAny_Call_Name_kw (ld_glob I hg hm ?_ hdb)
  refine PySem.W.callWith_K (h₀ := X.base) I.ok.mod.kin F.kp ?_ (by rfl) (by rfl)
  show wpAny _ _ (spliced ((false, eval (.Lambda params body scope lpos) X.env) :: backTo pos (starEach [] X.env))) _ _ s
  refine Calls.spliced_cons (lam_make2 I TB hcode hmT hu hT hdef (L.has I.ok) fun f c' pm' ctv H1 s' I1 eN T1 hf hfn hfr hco => ?_)
  refine Calls.spliced_nil ⟨I1.kIn, ?_⟩
  have bd := hb g fd F s' [.ref f] I1.kIn rfl
  obtain ⟨oc, od, kV, doc, pm, an, cdv, ct, osl, efd, lk, hcg⟩ := F.ex
  subst efd
  have rc : codeAny (model X.prog X.w) X.A (.call (.ref g) ⟨[.ref f], []⟩) (CR (CX X.prog X.w) X.stack X.prog X.w H1 s' Q E0) s' := by
    refine run_ofS (N := Ng) (ps := [a]) (us := [.ref f]) (vs := [.ref f]) (k := k + 1) lk hcg Sg hr I1.env0 bd (.cons rfl .nil) rfl fun hr' => ?_
    exact hG g cdv f c' s' H1 Q (fun E H' Q' => t E σ H' Q') hgA hr' (fun W pn xe p1 p2 tk => pe_actG (i := 0) I1 L hf hfn hfr (hbind _ _ _ _ _) tk hgA hr' (fun A outer s H E hga hr2 => hbody A outer s H E f c' hga hr2) hNg hva hd hcd) hco (h H1 eN T1)
  refine wpAny_call (codeAny_mono rc fun r s2 hq => ?_)
  rcases r with e | fl
  · obtain ⟨_, _, _, _, _, _, _, _, _, _, _, _, z⟩ := hq
    exact z.elim
  · rcases fl with _ | _ | _ | u
    · exact False.elim hq
    · exact False.elim hq
    · exact False.elim hq
    · exact I1.after hq
end
/-- a def whose code object is known -/
def AtC (K : PySem.W.Frag) (mg : Str → Option Value) (x : Str) (st : Stmt) (c : Addr) : Prop :=
  ∃ (f : Addr) (oc : Value) (od : Option Addr) (kV doc pm : Value) (an : Option Addr) (ct : Value) (osl : Array (Option Value)),
    K.lookup f = some ⟨oc, od, .func (PySem.W.fnOf x x (defArgs st) (defBody st) (defScope st) .none kV doc pm an (.ref c) ct), osl⟩ ∧ PySem.W.codeIn K (.ref c) x = true ∧ PySem.W.keepIn K (.ref f) = true ∧ mg x = some (.ref f)
/-- where the code object and its table stand -/
def tabP (K : PySem.W.Frag) (x : Str) : Addr × Addr := (PySem.W.tabIn K x).getD (0, 0)
theorem tabP_eq {K : PySem.W.Frag} {x : Str} {p : Addr × Addr} (h : PySem.W.tabIn K x = some p) : tabP K x = p := by
  unfold tabP
  rw [h]
  rfl
section
variable {P : Program} {w : World} {K : PySem.W.Frag} {mg : Str → Option Value} {base : Heap} {k : Nat} {x : Str} {st : Stmt} {ps N : List Str} {sp : Sp} {c : Addr}
theorem AtC.ok (a : AtC K mg x st c) (S : FnScope N ps (defScope st)) (len : ∀ vs H Q E, sp vs H Q E → vs.length = ps.length)
    (hbody : ∀ (f : Addr) (A : Around) (outer : List Env) (s : Shared) (H : Hp) (vs : List V) (Q : VK) (E : XK),
      (A.deeper (envOfC x (defScope st) s.heap.objs.size f (.ref c))).guards = some [] → Room k (A.deeper (envOfC x (defScope st) s.heap.objs.size f (.ref c))) → sp vs H Q E →
      ∃ t, PSs (cxOf (CX P w) P w K mg base N x (defScope st) f (.ref c) A outer s H E) (defBody st) t ∧ t { nx := fun _ H' => Q .non H', rt := Q } (L2.start N vs) H) : Ok P w K mg base (k + 1) x st ps sp := by
  obtain ⟨f, oc, od, kV, doc, pm, an, ct, osl, lk, hcd, kp, hm⟩ := a
  refine ⟨⟨f, _, fun_mk lk hcd kp, hm, fun A outer s H args us vs Q E hg hr e0 hb r hsp => ?_⟩, len⟩
  exact run_ofS lk hcd S hr e0 hb r (len _ _ _ _ hsp) fun hr' => hbody f A outer s H vs Q E hg hr' hsp
end
end Vf
namespace Vf
open PySem PySem.Spec PyProof.Rows L2 LamX
/-! ## the law's own call where its defs make lambdas: cs are their code objects with the tables -/
section
variable {P : Program} {w : World} {K : PySem.W.Frag} {mg mb : Str → Option Value} {k : Nat} {fa a : Addr} {st : Stmt} {x y : Str} {sp : Sp} {s₁ : Shared} {vs : List Value} {ns : List Int} {cs : List (Addr × Addr)}
structure TabIn (cs : List (Addr × Addr)) (K : PySem.W.Frag) (mg : Str → Option Value) (h : Heap) : Prop where
  tab : ∀ p ∈ cs, h.get? p.2 = some { cls := .none, data := .fields #[] }
  non : ∀ p ∈ cs, K.lookup p.2 = none
  code : ∀ p ∈ cs, PySem.W.CodeHd h p.1 p.2
  bm : ∃ (bm : Addr) (ob : Obj), mg "__builtins__" = some (.ref bm) ∧ bm ≠ builtinsNs ∧ h.get? bm = some ob ∧ ob.cls = .type "module" ∧ ob.dict = some builtinsNs ∧ ob.data = .plain
theorem TabIn.at {h : Heap} (C : TabIn cs K mg h) {b : Addr} (hb : b ∈ cs.map (·.2)) : h.get? b = some { cls := .none, data := .fields #[] } := by
  obtain ⟨p, hp, rfl⟩ := List.mem_map.mp hb
  exact C.tab p hp
/-- what a heap that hides the tables and the script keeps of the tables -/
theorem TabIn.base {h : Heap} {H : Hp} (C : TabIn cs K mg h) (hns : h.Ns mainGlobals mg) (off : ∀ {b : Addr} {o : Obj}, h.get? b = some o → (∀ us n, o.data ≠ .seq us n) → o.data ≠ .fields #[] → H b = none) :
    ∀ p ∈ cs, TabB (hidT h H) mg p.1 p.2 := fun p hp => by
  have hT := C.tab p hp
  obtain ⟨oG, es, ep, eG, dG, rG⟩ := hns
  have nG : mainGlobals ≠ p.2 := fun z => by
    rw [z, hT] at eG
    cases eG
    cases dG
  refine ⟨?_, ?_, nG⟩
  · obtain ⟨o, us, file, tf, flags, tg, inF, text, tt, e1, r1, r2, r3, rest⟩ := C.code p hp
    refine ⟨o, us, file, tf, flags, tg, inF, text, tt, hidT_get e1 (off e1 (fun vs n z => ?_) fun z => ?_), r1, r2, r3, rest⟩
    · rw [r2] at z; cases z
    · rw [r2] at z; cases z; simp at r3
  · obtain ⟨bm, ob, b1, b2, b3, b4, b5, b6⟩ := C.bm
    have n1 : bm ≠ mainGlobals := fun z => by
      rw [z, eG] at b3
      cases b3
      rw [dG] at b6
      cases b6
    have n2 : bm ≠ p.2 := fun z => by
      rw [z, hT] at b3
      cases b3
      cases b6
    refine ⟨bm, ob, b1, b2, n1, n2, hidT_get b3 (off b3 (fun vs n z => ?_) fun z => ?_), b4, b5, b6⟩
    · rw [b6] at z; cases z
    · rw [b6] at z; cases z
theorem law_gT (KX : K.In s₁.heap) (hns : s₁.heap.Ns mainGlobals mg) (hb : s₁.heap.Ns builtinsNs mb) (hbb : ∀ z : Str, z ≠ "__name__" → mb z = bootBuiltins z)
    (hlim : s₁.heap.NoLimit) (hg : s₁.gens = #[]) (C : TabIn cs K mg s₁.heap) (ha : s₁.heap.get? a = some { cls := .type "list", data := .seq vs.toArray }) (hi : IntsAre vs ns) (hl : ns.length ≤ sizeLine)
    (hr : Room k callerA) (hfa : mg x = some (.ref fa)) (F : ∀ base : Heap, K.In base → base.Ns mainGlobals mg → (∀ p ∈ cs, TabB base mg p.1 p.2) → Ok P w K mg base k x st [y] sp)
    (B : ∀ f fd, L2.Fun K x x st f fd → L2.Binds K fd [y] [])
    (hsp : ∀ H : Hp, (∀ p ∈ cs, H p.2 = some (.tbl #[])) → SqL K H a (ns.map V.int) → sp [.ref a] H (fun v _ => v = .bl true) fun _ _ _ => False) :
    codeAny (model P w) callerA (.call (.ref fa) ⟨[.ref a], []⟩) (Told s₁) s₁ := by
  have rv := vals_ints hi
  have aT : a ∉ cs.map (·.2) := fun z => by
    have q := C.at z
    rw [ha] at q
    cases q
  -- over a heap that tracks the tables, and the script perhaps
  have run : ∀ H : Hp, (∀ p ∈ cs, H p.2 = some (.tbl #[])) → (∀ b, b ∉ cs.map (·.2) → b ≠ a → H b = none) → (H a = none ∨ (K.lookup a = none ∧ ∃ o xs, H a = some (.frz o (.lst xs)))) → SqL K H a (ns.map V.int) → HOk P w H s₁.heap →
      codeAny (model P w) callerA (.call (.ref fa) ⟨[.ref a], []⟩) (Told s₁) s₁ := by
    intro H hT hO hA hS hok
    have off : ∀ {b : Addr} {o : Obj}, s₁.heap.get? b = some o → (∀ us n, o.data ≠ .seq us n) → o.data ≠ .fields #[] → H b = none := by
      intro b o e h1 h2
      refine hO b (fun z => ?_) fun z => ?_
      · rw [C.at z] at e
        cases e
        exact h2 rfl
      · rw [z, ha] at e
        cases e
        exact h1 _ _ rfl
    have space : ∀ {b : Addr} {m : Str → Option Value}, s₁.heap.Ns b m → (hidT s₁.heap H).Ns b m := by
      rintro b m ⟨o, es, ep, e, d, rest⟩
      refine ⟨o, es, ep, hidT_get e (off e (fun us n z => ?_) fun z => ?_), d, rest⟩
      · rw [d] at z; cases z
      · rw [d] at z; cases z
    have kin : K.In (hidT s₁.heap H) := by
      intro b o e
      refine hidT_get (KX b o e) ?_
      by_cases z : b ∈ cs.map (·.2)
      · obtain ⟨p, hp, rfl⟩ := List.mem_map.mp z
        rw [C.non p hp] at e
        cases e
      · by_cases z2 : b = a
        · rcases hA with n | ⟨n, _⟩
          · rw [z2]; exact n
          · rw [z2, n] at e
            cases e
        · exact hO b z z2
    obtain ⟨mc, hc1, hc2⟩ := hlim
    have env : Env0 P w K mg (hidT s₁.heap H) callerA [] s₁ H :=
      { frames := rfl, mod := ⟨kin, space hns, ⟨mb, space hb, hbb⟩, ⟨mc, space hc1, hc2⟩⟩, bs := fun b o e => of_hidT e, bsz := Nat.le_of_eq (hidT_size _ _)
        funs := trivial, frf := fun b z => absurd (show b ∈ ([] : List Addr) from z) List.not_mem_nil, hok := hok, bare := .of_eq hg }
    obtain ⟨⟨f, fd, G, hm, go⟩, _⟩ := F _ kin (space hns) (C.base hns off)
    have ef : f = fa := by
      rw [hfa] at hm
      injection hm with hm
      injection hm with hm
      exact hm.symm
    subst ef
    have bind := B f fd G s₁ [.ref a] KX rfl
    rw [List.append_nil] at bind
    refine codeAny_mono (go callerA [] s₁ H ⟨[.ref a], []⟩ [.ref a] [.ref a] (fun v _ => v = .bl true) (fun _ _ _ => False) rfl hr env bind (.cons rfl .nil) (hsp H hT hS)) ?_
    intro r s' h
    rcases r with e | fl
    · obtain ⟨_, _, _, _, _, _, _, _, _, _, _, _, z⟩ := h
      exact z.elim
    · rcases fl with _ | _ | _ | u
      · exact False.elim h
      · exact False.elim h
      · exact False.elim h
      · obtain ⟨v, H', os, bare, un, hok', rr, q⟩ := h
        have q2 : v = .bl true := q
        subst q2
        have eu : u = Value.bool true := rr
        subst eu
        have same_ : ∀ b o, b ∉ cs.map (·.2) → s₁.heap.get? b = some o → s'.heap.get? b = some o := by
          intro b o nb e
          rcases hz : H b with _ | u
          · exact un.keep b o e hz (fun z => absurd (show b ∈ ([] : List Addr) from z) List.not_mem_nil) List.not_mem_nil
          · by_cases z : b = a
            · subst z
              rcases hA with n | ⟨_, ob, xs, n⟩
              · rw [hz] at n; cases n
              · have e1 := (hok b _ n).1
                have e2 := (hok' b _ (un.frzs b ob _ n)).1
                rw [e] at e1
                rw [e2, e1]
            · rw [hO b nb z] at hz
              cases hz
        have grown : ∀ b, b ∈ cs.map (·.2) → ∃ more : Array Value, s'.heap.get? b = some { cls := .none, data := .fields more } := by
          intro b hb
          obtain ⟨p, hp, rfl⟩ := List.mem_map.mp hb
          obtain ⟨more, z⟩ := un.tbls p.2 #[] (hT p hp)
          exact ⟨_, hok' p.2 _ z⟩
        refine ⟨rfl, ⟨fun b o e => ?_, fun b o e => ?_⟩, os, bare⟩
        · by_cases hb : b ∈ cs.map (·.2)
          · obtain ⟨more, hm⟩ := grown b hb
            rw [C.at hb] at e
            cases e
            obtain ⟨p, hp, rfl⟩ := List.mem_map.mp hb
            exact .inr (.inl ⟨((C.code p hp).tab (C.tab p hp)).isCodeTable, rfl, #[], more, rfl, by rw [Array.empty_append]; exact hm⟩)
          · exact .inl (same_ b o hb e)
        · by_cases hb : b ∈ cs.map (·.2)
          · obtain ⟨more, hm⟩ := grown b hb
            exact ⟨_, hm⟩
          · exact ⟨o, same_ b o hb e⟩
  let H0 : Hp := fun b => if b ∈ cs.map (·.2) then some (.tbl #[]) else none
  have at0 : ∀ b, b ∈ cs.map (·.2) → H0 b = some (.tbl #[]) := fun b h => if_pos h
  have no0 : ∀ b, b ∉ cs.map (·.2) → H0 b = none := fun b h => if_neg h
  have mem : ∀ p ∈ cs, p.2 ∈ cs.map (·.2) := fun p hp => List.mem_map.mpr ⟨p, hp, rfl⟩
  rcases hk : K.lookup a with _ | o
  · -- the script is tracked, locked
    let sc : Obj := { cls := .type "list", data := .seq vs.toArray }
    have atA : upd H0 a (.frz sc (.lst (ns.map V.int))) a = some (.frz sc (.lst (ns.map V.int))) := upd_same
    refine run (upd H0 a (.frz sc (.lst (ns.map V.int)))) (fun p hp => ?_) (fun b h1 h2 => by rw [upd_ne h2]; exact no0 b h1) (.inr ⟨hk, _, _, atA⟩) (Or.inl (Or.inr ⟨sc, atA⟩)) (fun b o e => ?_)
    · rw [upd_ne (fun z => aT (by rw [← z]; exact mem p hp))]
      exact at0 _ (mem p hp)
    · by_cases n : b = a
      · subst n
        rw [atA] at e
        injection e with e
        subst e
        exact ⟨ha, by rw [List.length_map]; exact hl, vs, _, rv, ha⟩
      · rw [upd_ne n] at e
        by_cases z : b ∈ cs.map (·.2)
        · rw [at0 b z] at e
          injection e with e
          subst e
          exact C.at z
        · rw [no0 b z] at e
          cases e
  · -- it is an object of the module
    have e := KX a o hk
    rw [ha] at e
    injection e with e
    subst e
    refine run H0 (fun p hp => at0 _ (mem p hp)) (fun b h1 _ => no0 b h1) (.inl (no0 a aT)) (Or.inr ⟨_, vs.toArray, _, hk, rfl, rfl, rfl, ?_, ?_⟩) (fun b u z => ?_)
    · rw [List.size_toArray, hi.length]; exact hl
    · simpa using rv
    · by_cases h : b ∈ cs.map (·.2)
      · rw [at0 b h] at z
        injection z with z
        subst z
        exact C.at h
      · rw [no0 b h] at z
        cases z
end
/-- the end of such a law: for each def that makes lambdas its code object and its table, read off the written part -/
theorem walk_gT {l : PySem.W.OpenLaw} {n k : Nat} {q : Program} {loose : List Str} {XP : (Str → Option Value) → Heap → Prop} {YP : World → Heap → Prop} {d : DefRec} {K : Params → PySem.W.Frag} {sp : PySem.W.Frag → List (Addr × Addr) → Sp} {y : Str} {st : Stmt}
    (cs : List (Str × DefRec × Addr × Addr))
    (hn : l.most = some n) (hn2 : n ≤ sizeLine) (hdf : d.params.defaults = []) (hr : Room k callerA) (hY : ∀ (w : World) (h : Heap), YP w h → (K w.params).In h)
    (hrec : ∀ c ∈ cs, (recsOf q).find? (fun e => e.name == c.1) = some c.2.1) (htab : ∀ w : World, ∀ c ∈ cs, PySem.W.tabIn (K w.params) c.1 = some c.2.2) (hnon : ∀ w : World, ∀ c ∈ cs, (K w.params).lookup c.2.2.2 = none)
    (F : ∀ (w : World) (mg : Str → Option Value) (h : Heap), (K w.params).In h → h.Ns mainGlobals mg → ∀ base : Heap, (K w.params).In base → base.Ns mainGlobals mg → (∀ c ∈ cs, TabB base mg c.2.2.1 c.2.2.2) →
      Ok l.prog w (K w.params) mg base k d.name st [y] (sp (K w.params) (cs.map (·.2.2))))
    (B : ∀ (w : World) f fd, L2.Fun (K w.params) d.name d.name st f fd → L2.Binds (K w.params) fd [y] [])
    (hsp : ∀ (w : World) (H : Hp) (a : Addr) (ns : List Int), ns.length ≤ n → (∀ z ∈ ns, Builtin.Int.intBits z ≤ 1048576) → (∀ c ∈ cs, H c.2.2.2 = some (.tbl #[])) → SqL (K w.params) H a (ns.map V.int) →
      sp (K w.params) (cs.map (·.2.2)) [.ref a] H (fun v _ => v = .bl true) fun _ _ _ => False) :
    PySem.W.WalkO q loose XP YP l.row.toRowW d [] (fun f vs => PySem.call f vs) := by
  refine Att.attach_callB hn hdf fun w s₀ s₁ mg mb fa o pm cd doc a vs ns G Y ho hd hcd hmg hobj hints hlen hbits hg => ?_
  have KX := hY w _ Y
  have C : TabIn (cs.map (·.2.2)) (K w.params) mg s₁.heap := by
    refine ⟨fun p hp => ?_, fun p hp => ?_, fun p hp => ?_, G.T.bmain⟩
    · obtain ⟨c, hc, rfl⟩ := List.mem_map.mp hp
      exact (PySem.W.tab_of G.T KX (hrec c hc) (htab w c hc)).2
    · obtain ⟨c, hc, rfl⟩ := List.mem_map.mp hp
      exact hnon w c hc
    · obtain ⟨c, hc, rfl⟩ := List.mem_map.mp hp
      exact (PySem.W.tab_of G.T KX (hrec c hc) (htab w c hc)).1
  refine law_gT KX G.T.g G.T.b G.T.builtins G.T.nolimit hg C hobj hints (Nat.le_trans hlen hn2) hr hmg (fun base kb gb tb => F w mg _ KX G.T.g base kb gb fun c hc => tb _ (List.mem_map.mpr ⟨c, hc, rfl⟩)) (B w) fun H hH hS => ?_
  exact hsp w H a ns hlen hbits (fun c hc => hH _ (List.mem_map.mpr ⟨c, hc, rfl⟩)) hS
end Vf
namespace Vf
open PySem PySem.Spec PyProof.Rows L2 LamX
theorem tabIn_of {K : PySem.W.Frag} {x qn : Str} {f c P : Addr} {oc oc2 dV kV doc pm ct : Value} {od od2 an : Option Addr} {sl sl2 : Array (Option Value)} {vs : Array Value} {ar : Arguments} {bd : List Stmt} {sc : Scope}
    (a : PySem.W.nsIn K mainGlobals x = some (some (.ref f))) (l : K.lookup f = some ⟨oc, od, .func (PySem.W.fnOf x qn ar bd sc dV kV doc pm an (.ref c) ct), sl⟩)
    (y : K.lookup c = some ⟨oc2, od2, .fields vs, sl2⟩) (z : (vs[11]? : Option Value) = some (.ref P)) : PySem.W.tabIn K x = some (c, P) := by
  unfold PySem.W.tabIn
  rw [a]
  dsimp only
  rw [l]
  dsimp only [PySem.W.fnOf]
  rw [y]
  dsimp only
  rw [z]
/-! ## a list or a tuple walked -/
def iSeq (K : PySem.W.Frag) (te : TE) : TI := fun σ H R => te σ H fun x H1 => ∃ a, x = .ref a ∧ (((∃ xs, SqL K H1 a xs) ∧ R (Itl K a) H1) ∨ ((∃ xs, SqT K H1 a xs) ∧ R (Itt K a) H1))
section
variable {X : Cx} {K : PySem.W.Frag} {tg l : Expr} {tl : TE}
theorem pi_seq (hl : PE X l tl) : PI X tg l (iSeq X.K tl) := by
  refine ⟨fun pins s σ H R I h => thn (hl.run pins s σ H _ I h) fun v s1 ⟨x, H1, I1, r1, a, e, q⟩ => ?_⟩
  subst e
  cases r1
  have fp : ∀ b ∈ [s1.heap.objs.size], FpOk X pins H1 b := fun b hb => by
    rw [List.mem_singleton.mp hb]
    exact I1.fpOk (Nat.le_refl _) (I1.hok.fresh (Nat.le_refl _))
  rcases q with ⟨⟨xs, hq⟩, q⟩ | ⟨⟨xs, hq⟩, q⟩
  · obtain ⟨its, rv, pl, _⟩ := I1.list hq
    exact wpAny_pyIter_list pl.isList ⟨_, [s1.heap.objs.size], _, _, H1, rfl, I1.kept (t' := s1.toks) fun b o e => Heap.get?_push_of_some _ e, turn_list a _, ⟨_, Heap.get?_push_size _ rfl, rfl, rfl⟩, fp, q⟩
  · obtain ⟨its, rv, pt, _⟩ := I1.tuple hq
    exact wpAny_pyIter_tuple (show s1.heap.IsTuple a its.toArray from pt) ⟨_, [s1.heap.objs.size], _, _, H1, rfl, I1.kept (t' := s1.toks) fun b o e => Heap.get?_push_of_some _ e, turn_tuple a _, ⟨_, Heap.get?_push_size _ rfl, rfl, rfl⟩, fp, q⟩
theorem i_seq (e : X.K = K) (hl : PE X l tl) : PI X tg l (iSeq K tl) := by subst e; exact pi_seq hl
end
section
variable {K : PySem.W.Frag} {σ : L2.St} {H : Hp} {D : Ends} {g : TG} {tb : TS} {te tl : TE} {tt : TT} {vs : List Nat} {Q : VK}
theorem r_forQ (h : tl σ H fun x H1 => ∃ a, x = .ref a ∧ (((∃ xs, SqL K H1 a xs) ∧ tFor (fun _ H2 R => R (Itl K a) H2) g tb D σ H1) ∨ ((∃ xs, SqT K H1 a xs) ∧ tFor (fun _ H2 R => R (Itt K a) H2) g tb D σ H1))) : tFor (iSeq K tl) g tb D σ H := h
theorem r_lcQ (h : tl σ H fun x H1 => ∃ a, x = .ref a ∧ (((∃ xs, SqL K H1 a xs) ∧ tLc (fun _ H2 R => R (Itl K a) H2) g tt te vs σ H1 Q) ∨ ((∃ xs, SqT K H1 a xs) ∧ tLc (fun _ H2 R => R (Itt K a) H2) g tt te vs σ H1 Q))) : tLc (iSeq K tl) g tt te vs σ H Q := h
end
/-- a list or a tuple stands at a -/
def Sq (K : PySem.W.Frag) (H : Hp) (a : Addr) (xs : List V) : Prop := SqL K H a xs ∨ SqT K H a xs
theorem Sq.same {K : PySem.W.Frag} {H H' : Hp} {a : Addr} {xs : List V} (h : Sq K H a xs) (s : Same H H') : Sq K H' a xs := by
  rcases h with h | h
  · exact .inl (Same.list s h)
  · exact .inr (Same.tup s h)
section
variable {K : PySem.W.Frag} {σ : L2.St} {H : Hp} {D : Ends} {g : TG} {tb : TS} {te tl : TE} {tt : TT} {vs : List Nat} {Q : VK} {a : Addr}
theorem r_forQs (xs : List V) (hq : Sq K H a xs) (Pv : Nat → L2.St → Hp → Prop) (h0 : Pv 0 σ H) (hl : ∀ i σ H', i ≤ xs.length → Pv i σ H' → Same H H')
    (hs : ∀ i x σ H', xs[i]? = some x → Pv i σ H' → g x σ H' fun σ2 H2 => tb { D with nx := Pv (i + 1), ct := Pv (i + 1), bk := D.nx } σ2 H2) (hd : ∀ σ H', Pv xs.length σ H' → D.nx σ H') :
    ((∃ xs, SqL K H a xs) ∧ tFor (fun _ H2 R => R (Itl K a) H2) g tb D σ H) ∨ ((∃ xs, SqT K H a xs) ∧ tFor (fun _ H2 R => R (Itt K a) H2) g tb D σ H) := by
  rcases hq with hq | hq
  · exact .inl ⟨⟨_, hq⟩, r_forLs xs Pv h0 (fun i σ H' hi p => Same.list (hl i σ H' hi p) hq) hs hd⟩
  · exact .inr ⟨⟨_, hq⟩, r_forTs xs Pv h0 (fun i σ H' hi p => Same.tup (hl i σ H' hi p) hq) hs hd⟩
theorem r_lcQs (xs : List V) (hq : Sq K H a xs) (Pv : Addr → Nat → Hp → Prop) (h0 : ∀ D, H D = none → Pv D 0 (upd H D (.lst []))) (hl : ∀ D i H', H D = none → i ≤ xs.length → Pv D i H' → Same H H')
    (hs : ∀ D i x H', H D = none → xs[i]? = some x → Pv D i H' → g x (wipe σ vs) H' fun σ2 H2 => wipe σ2 vs = wipe σ vs ∧ tt σ2 H2 fun b H3 =>
      if b = true then te σ2 H3 fun y H4 => ∃ acc, H4 D = some (.lst acc) ∧ acc.length < sizeLine ∧ Pv D (i + 1) (upd H4 D (.lst (acc ++ [y]))) else Pv D (i + 1) H3)
    (hd : ∀ D H', H D = none → Pv D xs.length H' → Q (.ref D) H') :
    ((∃ xs, SqL K H a xs) ∧ tLc (fun _ H2 R => R (Itl K a) H2) g tt te vs σ H Q) ∨ ((∃ xs, SqT K H a xs) ∧ tLc (fun _ H2 R => R (Itt K a) H2) g tt te vs σ H Q) := by
  rcases hq with hq | hq
  · exact .inl ⟨⟨_, hq⟩, r_lcLs xs Pv h0 (fun D i H' hD hi p => Same.list (hl D i H' hD hi p) hq) hs hd⟩
  · exact .inr ⟨⟨_, hq⟩, r_lcTs xs Pv h0 (fun D i H' hD hi p => Same.tup (hl D i H' hD hi p) hq) hs hd⟩
end
/-- where the lambdas of a def bear their name -/
def lamQ (x : Str) : Str := x ++ ".<locals>." ++ "<lambda>"
end Vf

namespace Vf
open PySem PySem.Spec PyProof.Rows L2
/-! ## list(zip(t, u)) of two tuples -/
theorem zip_len0 : typeLookup (.type "zip") "__len__" = pure none := am_miss_of_fast (by decide +kernel)
theorem zip_hint0 : typeLookup (.type "zip") "__length_hint__" = pure none := am_miss_of_fast (by decide +kernel)
/-- the pairs laid so far, all above S -/
structure PrsL (S : Nat) (xs ys : List Value) (h : Heap) (ad : List Nat) : Prop where
  inc : ad.Pairwise (· < ·)
  big : ∀ p : Nat, p ∈ ad → S < p
  prs : ∀ (j : Nat) (p : Nat), ad[j]? = some p → ∃ x y, xs[j]? = some x ∧ ys[j]? = some y ∧ IsPair h p x y
theorem PrsL.lt {S : Nat} {xs ys : List Value} {h : Heap} {ad : List Nat} (g : PrsL S xs ys h ad) {p : Nat} (hp : p ∈ ad) : p < h.objs.size := by
  obtain ⟨j, hj⟩ := List.mem_iff_getElem?.mp hp
  obtain ⟨x, y, _, _, e⟩ := g.prs j p hj
  exact Heap.lt_size e
theorem PrsL.stay {S : Nat} {xs ys : List Value} {h h' : Heap} {ad : List Nat} (g : PrsL S xs ys h ad) (k : ∀ (c : Nat) o, S < c → h.get? c = some o → h'.get? c = some o) : PrsL S xs ys h' ad :=
  ⟨g.inc, g.big, fun j p hj => by
    obtain ⟨x, y, e1, e2, e3⟩ := g.prs j p hj
    exact ⟨x, y, e1, e2, k _ _ (g.big p (List.mem_of_getElem? hj)) e3⟩⟩
theorem PrsL.snoc {S : Nat} {xs ys : List Value} {h : Heap} {ad : List Nat} {x y : Value} {q : Nat} (g : PrsL S xs ys h ad) (ex : xs[ad.length]? = some x) (ey : ys[ad.length]? = some y) (e : IsPair h q x y) (l1 : S < q) (l2 : ∀ p : Nat, p ∈ ad → p < q) : PrsL S xs ys h (ad ++ [q]) := by
  refine ⟨List.pairwise_append.mpr ⟨g.inc, List.pairwise_singleton _ _, fun a ha b hb => ?_⟩, fun p hp => ?_, fun j p hj => ?_⟩
  · rw [List.mem_singleton.mp hb]
    exact l2 a ha
  · rcases List.mem_append.mp hp with hp | hp
    · exact g.big p hp
    · rw [List.mem_singleton.mp hp]
      exact l1
  · by_cases c : j < ad.length
    · rw [List.getElem?_append_left c] at hj
      exact g.prs j p hj
    · by_cases c2 : j = ad.length
      · subst c2
        have z : q = p := by simpa using hj
        subst z
        exact ⟨x, y, ex, ey, e⟩
      · have z : (ad ++ [q])[j]? = none := List.getElem?_eq_none (by rw [List.length_append, List.length_singleton]; omega)
        rw [z] at hj
        cases hj
abbrev lsO (acc : Array Value) (c : Nat) : Obj := { cls := .type "list", dict := none, data := .seq acc c, slots := #[] }
section
variable {prog : Program} {w : World} {A : Around} {s : Shared} {R : Result → Shared → Prop} {u TI TO i1 i2 a b S : Nat} {xs ys : List Value}
theorem ZTn.stay {i : Nat} {h h' : Heap} (st : ZTn u TI TO i1 i2 a b i h) (k : ∀ (c : Nat) o, (c = u ∨ c = TI ∨ c = TO ∨ c = i1 ∨ c = i2) → h.get? c = some o → h'.get? c = some o) : ZTn u TI TO i1 i2 a b i h' := by
  obtain ⟨⟨f0, f1, p0, p1, zz⟩, ti, ⟨x, y, to⟩, h1, h2⟩ := st
  exact ⟨⟨f0, f1, p0, p1, k u _ (by simp) zz⟩, k TI _ (by simp) ti, ⟨x, y, k TO _ (by simp) to⟩, h1.at fun o q => k i1 o (by simp) q, h2.at fun o q => k i2 o (by simp) q⟩
theorem zl_loop (hh : A.handled = none) (D : ZipApart u TI TO i1 i2 a b) (lu : u < S) (lI : TI < S) (lO : TO < S) (l1 : i1 < S) (l2 : i2 < S) (la : a < S) (lb : b < S) (res : Value) {h₁ : Heap} {n : Nat} (en : n = min xs.length ys.length) (hn : n ≤ sizeLine)
    (hR : ∀ h' tk acc c ad, (∀ (d : Nat) o, d < S → d ≠ u → d ≠ TO → d ≠ i1 → d ≠ i2 → h₁.get? d = some o → h'.get? d = some o) → h'.get? S = some (lsO acc c) → ad.length = n → PrsL S xs ys h' ad → acc.toList = ad.map Value.ref → R (.ok (.ret res)) { s with heap := h', toks := tk }) :
    ∀ (k i : Nat) (h : Heap) (tk c : Nat) (acc : Array Value) (ad : List Nat), n - i = k → i ≤ n → ZTn u TI TO i1 i2 a b i h → h.IsTuple a xs.toArray → h.IsTuple b ys.toArray → (∀ (d : Nat) o, d < S → d ≠ u → d ≠ TO → d ≠ i1 → d ≠ i2 → h₁.get? d = some o → h.get? d = some o) →
      h.get? S = some (lsO acc c) → acc.toList = ad.map Value.ref → ad.length = i → PrsL S xs ys h ad → codeAny (model prog w) A (.builtin "list.extend.loop" ⟨[.ref S, .ref u, res], []⟩) R { s with heap := h, toks := tk } := by
  have hne : ∀ d : Nat, S ≤ d → d ≠ u ∧ d ≠ TO ∧ d ≠ i1 ∧ d ≠ i2 := fun d h => ⟨Nat.ne_of_gt (Nat.lt_of_lt_of_le lu h), Nat.ne_of_gt (Nat.lt_of_lt_of_le lO h), Nat.ne_of_gt (Nat.lt_of_lt_of_le l1 h), Nat.ne_of_gt (Nat.lt_of_lt_of_le l2 h)⟩
  have aS := hne S (Nat.le_refl _)
  intro k
  induction k with
  | zero =>
    intro i h tk c acc ad hk hi st ta tb kp hS ha hl G
    have hin : i = n := by omega
    obtain ⟨⟨f0, f1, p0, p1, zz⟩, ti, ⟨x0, y0, to⟩, t1, t2⟩ := st
    have no : xs.toArray[i]? = none ∨ ys.toArray[i]? = none := by
      by_cases c : xs.length ≤ ys.length
      · exact .inl (by simp; omega)
      · exact .inr (by simp; omega)
    refine codeAny_builtin PySem.F.entry_extend_loop ?_
    rw [Around.under_plainId PySem.F.plain_extend_loop _]
    show wpAny _ _ (pyNext (.ref u) >>= _) _ _ _
    refine wpAny_bind (zp_end (s := { s with heap := h, toks := tk }) (A := A.in1) hh D p0 p1 zz ti to t1 t2 ta tb no fun h' ze => wpAny_pure ?_)
    exact hR h' tk acc c ad (fun d o c0 c1 c2 c3 c4 e => ze d o c1 c2 c3 c4 (kp d o c0 c1 c2 c3 c4 e)) (ze S _ aS.1 aS.2.1 aS.2.2.1 aS.2.2.2 hS) (by omega) (G.stay fun d o ld e => let z := hne d (Nat.le_of_lt ld); ze d o z.1 z.2.1 z.2.2.1 z.2.2.2 e) ha
  | succ k ih =>
    intro i h tk c acc ad hk hi st ta tb kp hS ha hl G
    obtain ⟨⟨f0, f1, p0, p1, zz⟩, ti, ⟨x0, y0, to⟩, t1, t2⟩ := st
    have ix : i < xs.length := by omega
    have iy : i < ys.length := by omega
    have sz : acc.size = i := by rw [← Array.length_toList, ha, List.length_map, hl]
    refine codeAny_builtin PySem.F.entry_extend_loop ?_
    rw [Around.under_plainId PySem.F.plain_extend_loop _]
    show wpAny _ _ (pyNext (.ref u) >>= _) _ _ _
    refine wpAny_bind (zp_item (s := { s with heap := h, toks := tk }) (x := xs[i]) (y := ys[i]) D p0 p1 zz ti to t1 t2 ta tb (by simp [ix]) (by simp [iy]) fun h' zn => ?_)
    obtain ⟨z', ⟨tx, ty, to'⟩, n1, n2, np, sz', kp'⟩ := zn
    dsimp only at np sz' kp' ⊢
    have lS : S < h.objs.size := Heap.lt_size hS
    have hS' := kp' S _ aS.1 aS.2.1 aS.2.2.1 aS.2.2.2 hS
    have up : ∀ (d : Nat) o, d ≠ S → h'.get? d = some o → (h'.update S (Obj.mapSeq (·.push (Value.ref h.objs.size)))).get? d = some o := fun d o ne e => (Heap.get?_update_other _ _ (Ne.symm ne)).trans e
    show wpAny _ _ (updateSeq S (·.push (Value.ref h.objs.size)) >>= _) _ _ _
    refine wpAny_bind (wpAny_updateSeq hS' rfl (wpAny_pure ⟨plainId_quiet PySem.F.plain_extend_loop _, ?_⟩) (by rw [sz]; omega) (by show (acc.push (Value.ref h.objs.size)).size ≤ sizeLine + 1; rw [Array.size_push, sz]; omega))
    refine ih (i + 1) _ tk _ (acc.push (Value.ref h.objs.size)) (ad ++ [h.objs.size]) (by omega) (by omega) ?_ ?_ ?_ (fun d o c0 c1 c2 c3 c4 e => up d o (Nat.ne_of_lt c0) (kp' d o c1 c2 c3 c4 (kp d o c0 c1 c2 c3 c4 e))) (Heap.get?_update_self _ hS' rfl) (by rw [Array.toList_push, ha, List.map_append]; rfl) (by rw [List.length_append, hl]; rfl) ?_
    · exact ZTn.stay ⟨z', kp' TI _ D.TIz D.TITO D.TIi1 D.TIi2 ti, ⟨tx, ty, to'⟩, n1, n2⟩ fun d o c e => up d o (by rcases c with c | c | c | c | c <;> (subst c; exact Nat.ne_of_lt (by assumption))) e
    · exact (ta.at fun o e => up a o (Nat.ne_of_lt la) (kp' a o D.l1z D.l1TO D.l1i1 D.l1i2 e))
    · exact (tb.at fun o e => up b o (Nat.ne_of_lt lb) (kp' b o D.l2z D.l2TO D.l2i1 D.l2i2 e))
    · exact ((G.stay fun d o ld e => let z := hne d (Nat.le_of_lt ld); kp' d o z.1 z.2.1 z.2.2.1 z.2.2.2 e).stay fun d o ld e => up d o (Nat.ne_of_gt ld) e).snoc (by rw [hl]; simp [ix]) (by rw [hl]; simp [iy]) (up _ _ (Nat.ne_of_gt lS) np) lS fun p hp => G.lt hp
theorem zl_call {E : Value → Shared → Prop} {Q : Value → Shared → Prop} (hh : A.handled = none) (D : ZipApart u TI TO i1 i2 a b) {i : Nat} (e0 : i = 0) (st : ZTn u TI TO i1 i2 a b i s.heap) (ta : s.heap.IsTuple a xs.toArray) (tb : s.heap.IsTuple b ys.toArray) (hn : min xs.length ys.length ≤ sizeLine)
    (hQ : ∀ h' tk acc c ad, (∀ (d : Nat) o, d ≠ u → d ≠ TO → d ≠ i1 → d ≠ i2 → s.heap.get? d = some o → h'.get? d = some o) → h'.get? s.heap.objs.size = some (lsO acc c) → ad.length = min xs.length ys.length → PrsL s.heap.objs.size xs ys h' ad → acc.toList = ad.map Value.ref → Q (.ref s.heap.objs.size) { s with heap := h', toks := tk }) :
    wpAny (model prog w) A (call (.type "list") [.ref u]) Q E s := by
  subst e0
  obtain ⟨⟨f0, f1, p0, p1, zz⟩, ti, ⟨x0, y0, to⟩, t1, t2⟩ := id st
  generalize eS : s.heap.objs.size = S at *
  have lu : u < S := eS ▸ Heap.lt_size zz
  have lI : TI < S := eS ▸ Heap.lt_size ti
  have lO : TO < S := eS ▸ Heap.lt_size to
  have k1 : i1 < S := by
    obtain ⟨_, q, _⟩ := t1
    exact eS ▸ Heap.lt_size q
  have k2 : i2 < S := by
    obtain ⟨_, q, _⟩ := t2
    exact eS ▸ Heap.lt_size q
  have la : a < S := by
    obtain ⟨_, q, _⟩ := ta
    exact eS ▸ Heap.lt_size q
  have lb : b < S := by
    obtain ⟨_, q, _⟩ := tb
    exact eS ▸ Heap.lt_size q
  refine callType_codes (Q₁ := fun obj s1 => obj = .ref S ∧ s1 = { s with heap := s.heap.push (lsO #[] 0) }) PySem.F.called_list (PySem.F.typeCall_list_1 _) PySem.F.entry_list_init (by rw [← eS]; exact code_list_new _ ⟨rfl, rfl⟩) fun obj s1 g1 => ?_
  obtain ⟨rfl, rfl⟩ := g1
  have hS : (s.heap.push (lsO #[] 0)).get? S = some (lsO #[] 0) := eS ▸ Heap.get?_push_size _ rfl
  refine ⟨⟨_, hS, rfl⟩, PySem.F.args_list_init_2 _ _, ?_⟩
  show wpAny _ _ (do let old ← Builtin.List.listItems (.ref S); Builtin.List.listUpdate (.ref S) (fun _ => #[]); letGo old.toList.reverse; Builtin.List.listExtendWith (.ref S) (.ref u) .none) _ _ _
  refine wpAny_bind ?_
  unfold Builtin.List.listItems
  refine wpAny_bind (wpAny_seqItems hS rfl (wpAny_pure ?_))
  show wpAny _ _ (updateSeq S (fun _ => #[]) >>= fun _ => letGo (#[] : Array Value).toList.reverse >>= fun _ => Builtin.List.listExtendWith (.ref S) (.ref u) .none) _ _ _
  refine wpAny_bind (wpAny_updateSeq hS rfl ?_)
  have hS2 := Heap.get?_update_self (Obj.mapSeq (fun _ => (#[] : Array Value))) hS rfl
  refine wpAny_bind (wpAny_letGo ?_)
  unfold Builtin.List.listExtendWith
  have up : ∀ (h : Heap) (f : Obj → Obj), (∀ (d : Nat) o, s.heap.get? d = some o → h.get? d = some o) → ∀ (d : Nat) o, s.heap.get? d = some o → (h.update S f).get? d = some o := fun h f q d o e =>
    (Heap.get?_update_other _ _ (Ne.symm (Nat.ne_of_lt (eS ▸ Heap.lt_size e)))).trans (q d o e)
  have g1 : ∀ (d : Nat) o, s.heap.get? d = some o → (s.heap.push (lsO #[] 0)).get? d = some o := fun d o e => Heap.get?_push_of_some _ e
  have g2 := up _ (Obj.mapSeq (fun _ => (#[] : Array Value))) g1
  have ty : ∀ {s' : Shared}, (∀ (d : Nat) o, s.heap.get? d = some o → s'.heap.get? d = some o) → s'.TypeIs (.ref u) "zip" := fun q => ⟨_, q _ _ zz, rfl⟩
  refine wpAny_bind (wpAny_typeOf (ty g2) ?_)
  have n1 : Builtin.List.listSameRef (.ref S) (.ref u) = false := by simp only [Builtin.List.listSameRef]; exact beq_false_of_ne (Nat.ne_of_gt lu)
  have n2 : (Value.type "zip" == Value.type "list") = false := by decide
  have n3 : (Value.type "zip" == Value.type "tuple") = false := by decide
  simp only [n1, n2, n3, Bool.or_false, Bool.false_eq_true, if_false]
  refine wpAny_bind (z_iter (f0 := f0) (f1 := f1) (TI := TI) (TO := TO) (g2 _ _ zz) ?_)
  refine wpAny_bind (wpAny_holding ?_)
  unfold Builtin.List.listLengthHint
  refine wpAny_bind (wpAny_specialOf (ty g2) zip_len0 ?_)
  show wpAny _ _ (specialOf (Value.ref u) (Str.ofString "__length_hint__") >>= _) _ _ _
  refine wpAny_bind (wpAny_specialOf (ty g2) zip_hint0 ?_)
  refine wpAny_pure ?_
  show wpAny _ _ (rule "list.extend.makes-room" >>= fun _ => Builtin.List.listTouch (.ref S) >>= fun _ => again (.builtin "list.extend.loop" ⟨[.ref S, .ref u, .none], []⟩)) _ _ _
  refine wpAny_bind (wpAny_rule ?_)
  refine wpAny_bind ?_
  show wpAny _ _ (updateSeq S (·.push .none) >>= fun _ => updateSeq S (·.pop)) _ _ _
  refine wpAny_bind (wpAny_updateSeq hS2 rfl ?_)
  have hS3 := Heap.get?_update_self (Obj.mapSeq (·.push Value.none)) hS2 rfl
  refine wpAny_updateSeq (hz := by seq_fits) hS3 rfl ?_
  have hS4 := Heap.get?_update_self (Obj.mapSeq (·.pop)) hS3 rfl
  have g4 := up _ (Obj.mapSeq (·.pop)) (up _ (Obj.mapSeq (·.push Value.none)) g2)
  refine wpAny_pure ⟨plainId_quiet PySem.F.plain_extend_loop _, ?_⟩
  refine zl_loop (s := s) (h₁ := s.heap) (A := A.in1) hh D lu lI lO k1 k2 la lb .none rfl hn (fun h' tk acc c ad kp e1 e2 e3 e4 => ⟨rfl, hQ h' tk acc c ad (fun d o c1 c2 c3 c4 e => kp d o (eS ▸ Heap.lt_size e) c1 c2 c3 c4 e) e1 e2 e3 e4⟩)
    _ 0 _ _ _ #[] [] rfl (Nat.zero_le _) (ZTn.stay st fun d o _ e => g4 d o e) (ta.at fun o e => g4 a o e) (tb.at fun o e => g4 b o e) (fun d o _ _ _ _ _ e => g4 d o e) hS4 rfl rfl ⟨List.Pairwise.nil, (fun _ z => nomatch z), (fun j p z => by simp at z)⟩
end
section
variable {X : Cx} {pins : List (Addr × Obj)} {σ : L2.St} {H H' : Hp} {s : Shared} {h' : Heap}
/-- several new objects are laid at once -/
theorem laidN {t' : Nat} (I : Inv X pins σ H s) (k : ∀ b o, s.heap.get? b = some o → h'.get? b = some o) (old : ∀ b, b < s.heap.objs.size → H' b = H b)
    (new : ∀ b u, s.heap.objs.size ≤ b → H' b = some u → ObjOk X.prog X.w H' h' b u) : Inv X pins σ H' { s with heap := h', toks := t' } := by
  have same : ∀ b u, H b = some u → H' b = some u := fun b u e => (old b (I.hok.lt e)).trans e
  refine I.step (g' := s.gens) (d' := s.drawn) (ch := []) (fun b hb => nomatch hb) (fun b o _ _ _ e _ => k b o e) (fun b o _ _ _ e _ => ⟨o.slots, k b o e⟩)
    (fun b o _ e n => (old b (Heap.lt_size e)).trans n) (fun b o _ e => ⟨o, k b o e⟩) (fun b _ e => same b _ e) (fun b _ _ e => same b _ e) (fun b ps e => ⟨#[], by rw [same b _ e]; simp⟩) (fun m hm => ?_) (fun b u e => ?_) I.bare
  · obtain ⟨o, es, ep, ho, r⟩ := hm
    exact ⟨o, es, ep, k _ o ho, r⟩
  · by_cases c : b < s.heap.objs.size
    · rw [old b c] at e
      exact (I.hok b u e).stay (fun d v _ q => k d v q) (fun d q => same d _ q) fun d _ q => same d _ q
    · exact new b u (Nat.le_of_not_lt c) e
end
end Vf
namespace Vf
open PySem PySem.Spec PyProof.Rows L2
/-- what lies at the pairs' places -/
def tblP (ad : List Nat) (xs ys : List V) (q : Nat) : Option HO := ((ad.zip (xs.zip ys)).find? fun e => e.1 == q).map fun e => HO.tup [e.2.1, e.2.2]
theorem tblP_some {ad : List Nat} {xs ys : List V} {q : Nat} {o : HO} (h : tblP ad xs ys q = some o) : ∃ (j : Nat) (x y : V), ad[j]? = some q ∧ xs[j]? = some x ∧ ys[j]? = some y ∧ o = .tup [x, y] := by
  unfold tblP at h
  obtain ⟨e, he, rfl⟩ := Option.map_eq_some_iff.mp h
  have h1 := List.find?_some he
  have h2 := List.mem_of_find?_eq_some he
  obtain ⟨j, hj⟩ := List.mem_iff_getElem?.mp h2
  obtain ⟨p, x, y⟩ := e
  obtain ⟨e1, e2⟩ := List.getElem?_zip_eq_some.mp hj
  obtain ⟨e3, e4⟩ := List.getElem?_zip_eq_some.mp e2
  have z : p = q := by simpa using h1
  subst z
  exact ⟨j, x, y, e1, e3, e4, rfl⟩
theorem tblP_at {ad : List Nat} {xs ys : List V} (inc : ad.Pairwise (· < ·)) {j : Nat} {p : Nat} {x y : V} (e1 : ad[j]? = some p) (e2 : xs[j]? = some x) (e3 : ys[j]? = some y) : tblP ad xs ys p = some (.tup [x, y]) := by
  cases h : tblP ad xs ys p with
  | none =>
    exfalso
    unfold tblP at h
    have h1 := Option.map_eq_none_iff.mp h
    have h2 := List.find?_eq_none.mp h1 (p, x, y) (List.mem_of_getElem? (i := j) (List.getElem?_zip_eq_some.mpr ⟨e1, List.getElem?_zip_eq_some.mpr ⟨e2, e3⟩⟩))
    simp at h2
  | some o =>
    obtain ⟨i, x', y', a1, a2, a3, rfl⟩ := tblP_some h
    have ij : i = j := by
      rw [List.pairwise_iff_getElem] at inc
      obtain ⟨li, gi⟩ := List.getElem?_eq_some_iff.mp a1
      obtain ⟨lj, gj⟩ := List.getElem?_eq_some_iff.mp e1
      rcases Nat.lt_trichotomy i j with c | c | c
      · have := inc i j li lj c
        rw [gi, gj] at this
        exact absurd this (Nat.lt_irrefl _)
      · exact c
      · have := inc j i lj li c
        rw [gi, gj] at this
        exact absurd this (Nat.lt_irrefl _)
    subst ij
    rw [a2] at e2
    rw [a3] at e3
    cases e2
    cases e3
    rfl
def lzH (H : Hp) (sz l : Nat) (ad : List Nat) (xs ys : List V) : Hp := fun q => if q < sz then H q else if q = l then some (.lst (ad.map V.ref)) else tblP ad xs ys q
/-- list(zip(t, u)) -/
def tListZip (K : PySem.W.Frag) (ta : TA) : TE := fun σ H Q => ta σ H fun vs H1 => ∃ a b xs ys, vs = [.ref a, .ref b] ∧ SqT K H1 a xs ∧ SqT K H1 b ys ∧
  ∀ (l : Nat) (ad : List Nat) H2, Same H1 H2 → H1 l = none → H2 l = some (.lst (ad.map V.ref)) → ad.length = min xs.length ys.length → (∀ (j : Nat) (p : Nat) (x y : V), ad[j]? = some p → xs[j]? = some x → ys[j]? = some y → H1 p = none ∧ H2 p = some (.tup [x, y])) → Q (.ref l) H2
theorem Vals_refs : ∀ ad : List Nat, Vals (ad.map V.ref) (ad.map Value.ref)
  | [] => .nil
  | a :: ad => .cons rfl (Vals_refs ad)
theorem pe_listZip {X : Cx} {K : PySem.W.Frag} {e e2 : Expr} {ta : TA} {p p2 pos2 pos : Pos} (ek : X.K = K) (hc : X.calm = true) (hg : Gl X "zip") (hm : X.mg "zip" = none) (hg2 : Gl X "list") (hm2 : X.mg "list" = none) (ha : PA X [e, e2] ta)
    (hs : starEach [e, e2] X.env = (false, eval e X.env) :: starEach [e2] X.env := by rfl) (hp : (backTo pos2 (starEach [e2] X.env)).any (·.1) = false := by rfl)
    (na : starEach [.Call (.Name "zip" p2) [e, e2] [] pos2] X.env = (false, eval (.Call (.Name "zip" p2) [e, e2] [] pos2) X.env) :: starEach [] X.env := by rfl) :
    PE X (.Call (.Name "list" p) [.Call (.Name "zip" p2) [e, e2] [] pos2] [] pos) (tListZip K ta) := by
  subst ek
  refine ⟨fun pins s σ H Q I h => ?_⟩
  refine Call_ (ld_blt I hg2 hm2 PyProof.Rows.boot_list ?_)
  refine PyProof.Rows.callWith_type1 (PyProof.Rows.args_cons ?_ na) na rfl
  refine Call_ (ld_blt I hg hm PyProof.Rows.boot_zip (PyProof.Rows.callWith_type1 (thn (ha.run pos2 pins s σ H _ I h) fun us s1 ⟨vs, H1, I1, r1, q1⟩ => ?_) hs hp))
  obtain ⟨a, b, xs, ys, rfl, qx, qy, q⟩ := q1
  obtain ⟨ua, ub, rfl, ra, rb⟩ : ∃ ua ub, us = [ua, ub] ∧ RelV (.ref a) ua ∧ RelV (.ref b) ub := by
    cases r1 with
    | cons r rr =>
      cases rr with
      | cons r' rr =>
        cases rr
        exact ⟨_, _, rfl, r, r'⟩
  cases ra
  cases rb
  obtain ⟨its, rv, tp, hz1⟩ := I1.tuple qx
  obtain ⟨its2, rv2, tp2, hz2⟩ := I1.tuple qy
  have hB : ∀ B d : Nat, d < B → d ≠ B + 4 ∧ d ≠ B + 3 ∧ d ≠ B ∧ d ≠ B + 1 := fun B d h => by omega
  have le1 := rv.length
  have le2 := rv2.length
  have la : a < s1.heap.objs.size := tp.lt
  have lb : b < s1.heap.objs.size := tp2.lt
  refine RZ.call_zipT tp tp2 fun m hz hTI hTO n1 n2 hsz hk => ?_
  refine PyProof.Rows.args_nil ?_
  have D := PySem.W.ktu_apart s1.heap.objs.size a b la lb
  have st : ZTn (s1.heap.objs.size + 4) (s1.heap.objs.size + 2) (s1.heap.objs.size + 3) s1.heap.objs.size (s1.heap.objs.size + 1) a b 0 m := ⟨⟨.none, .bool false, .inl rfl, ⟨false, rfl⟩, hz⟩, hTI, ⟨_, _, hTO⟩, n1, n2⟩
  refine zl_call (s := { s1 with heap := m }) (xs := its) (ys := its2) (I1.ok.hd hc) D rfl st (let ⟨o, z, r⟩ := tp; ⟨o, hk _ _ z, r⟩) (let ⟨o, z, r⟩ := tp2; ⟨o, hk _ _ z, r⟩) (Nat.le_trans (Nat.min_le_left _ _) (le1 ▸ hz1)) fun h' tk acc c ad kp hl el G ea => ?_
  dsimp only at kp hl G ⊢
  rw [← le1, ← le2] at el
  have sS : m.objs.size = s1.heap.objs.size + 5 := hsz
  have G2 := G.prs
  have big := G.big
  have ltS : ∀ {p : Nat}, p ∈ ad → s1.heap.objs.size ≤ p ∧ m.objs.size ≠ p := fun hp => by
    have := big _ hp
    exact ⟨by omega, by omega⟩
  have I2 : Inv X pins σ (lzH H1 s1.heap.objs.size m.objs.size ad xs ys) { s1 with heap := h', toks := tk } := by
    refine laidN I1 (fun d o w => let z := hB _ d (Heap.lt_size w); kp d o z.1 z.2.1 z.2.2.1 z.2.2.2 (hk d o w)) (fun d hd => if_pos hd) fun d o hd ho => ?_
    unfold lzH at ho
    rw [if_neg (Nat.not_lt.mpr hd)] at ho
    by_cases c2 : d = m.objs.size
    · subst c2
      rw [if_pos rfl] at ho
      cases ho
      have hlen : acc.size = ad.length := by rw [← Array.length_toList, ea, List.length_map]
      refine ⟨?_, ad.map Value.ref, c, Vals_refs ad, ?_⟩
      · rw [List.length_map, el]
        omega
      · rw [← ea]
        exact hl
    · rw [if_neg c2] at ho
      obtain ⟨j, x, y, e1, e3, e4, rfl⟩ := tblP_some ho
      obtain ⟨x', y', f1, f2, f3⟩ := G2 j d e1
      obtain ⟨v1, g1, w1⟩ := rv.get e3
      obtain ⟨v2, g2, w2⟩ := rv2.get e4
      rw [f1] at g1
      rw [f2] at g2
      cases g1
      cases g2
      exact ⟨by show 2 ≤ sizeLine; decide, [x', y'], .cons w1 (.cons w2 .nil), ⟨_, f3, rfl, _, rfl⟩⟩
  have fr : ∀ {d : Nat}, s1.heap.objs.size ≤ d → H1 d = none := fun hd => I1.hok.fresh hd
  refine ⟨.ref m.objs.size, _, I2, rfl, q m.objs.size ad _ (fun d o w => ?_) (fr (sS ▸ Nat.le_add_right _ _)) ?_ el fun j p x y e1 e3 e4 => ?_⟩
  · unfold lzH
    rw [if_pos (I1.hok.lt w)]
    exact w
  · unfold lzH
    rw [if_neg (Nat.not_lt.mpr (sS ▸ Nat.le_add_right _ _)), if_pos rfl]
  · have hp := ltS (List.mem_of_getElem? e1)
    refine ⟨fr hp.1, ?_⟩
    unfold lzH
    rw [if_neg (Nat.not_lt.mpr hp.1), if_neg (fun z => hp.2 z.symm)]
    exact tblP_at G.inc e1 e3 e4
theorem r_listZip {K : PySem.W.Frag} {ta : TA} {σ : L2.St} {H : Hp} {Q : VK} (h : ta σ H fun vs H1 => ∃ a b xs ys, vs = [.ref a, .ref b] ∧ SqT K H1 a xs ∧ SqT K H1 b ys ∧
  ∀ (l : Nat) (ad : List Nat) H2, Same H1 H2 → H1 l = none → H2 l = some (.lst (ad.map V.ref)) → ad.length = min xs.length ys.length → (∀ (j : Nat) (p : Nat) (x y : V), ad[j]? = some p → xs[j]? = some x → ys[j]? = some y → H1 p = none ∧ H2 p = some (.tup [x, y])) → Q (.ref l) H2) : tListZip K ta σ H Q := h
theorem paired_of {α β : Type} {F : α → β → Prop} : ∀ {xs : List α} {ys : List β}, xs.length = ys.length → (∀ (j : Nat) (x : α) (y : β), xs[j]? = some x → ys[j]? = some y → F x y) → Paired F xs ys
  | [], [], _, _ => .nil
  | [], _ :: _, h, _ => by simp at h
  | _ :: _, [], h, _ => by simp at h
  | x :: xs, y :: ys, h, f => .cons (f 0 x y rfl rfl) (paired_of (by simpa using h) fun j a b e1 e2 => f (j + 1) a b (by simpa using e1) (by simpa using e2))
end Vf

namespace Vf
open PySem PySem.Spec PyProof.Rows L2
/-! ## sorted; the same data twice -/
section
variable {X : Cx} {K : PySem.W.Frag}
theorem c_sortedPO (e : X.K = K) : CallR X (.builtin "sorted") (rSortedPO K) := by subst e; exact cr_sortedPO
theorem c_sortedI (e : X.K = K) : CallR X (.builtin "sorted") (rSortedI K) := by subst e; exact cr_sortedI
end
section
variable {K : PySem.W.Frag} {H H' : Hp} {Q : VK}
/-- pairs of ints that lie in the heap itself -/
def PrsH (H : Hp) (vs : List V) (ps : List (Int × Int)) : Prop := Paired (fun v p => ∃ t, v = V.ref t ∧ H t = some (.tup [.int p.1, .int p.2])) vs ps
theorem PrsH.at_ {vs : List V} {ps : List (Int × Int)} (h : PrsH H vs ps) : PairsAt K H vs ps := by
  induction h with
  | nil => exact .nil
  | cons h1 h2 ih =>
    obtain ⟨t, e, z⟩ := h1
    exact .cons ⟨t, e, SqT.of z⟩ ih
theorem PrsH.mono {vs : List V} {ps : List (Int × Int)} (h : PrsH H vs ps) (k : ∀ t xs, H t = some (.tup xs) → H' t = some (.tup xs)) : PrsH H' vs ps := by
  induction h with
  | nil => exact .nil
  | cons h1 h2 ih =>
    obtain ⟨t, e, z⟩ := h1
    exact .cons ⟨t, e, k _ _ z⟩ ih
theorem PrsH.snoc {vs : List V} {ps : List (Int × Int)} {t : Addr} {p : Int × Int} (h : PrsH H vs ps) (e : H t = some (.tup [.int p.1, .int p.2])) : PrsH H (vs ++ [.ref t]) (ps ++ [p]) := by
  induction h with
  | nil => exact .cons ⟨t, rfl, e⟩ .nil
  | cons h1 h2 ih => exact .cons h1 ih
theorem PrsH.len {vs : List V} {ps : List (Int × Int)} (h : PrsH H vs ps) : vs.length = ps.length := Paired.length h
theorem paired_get {α β : Type} {F : α → β → Prop} : ∀ {xs : List α} {ys : List β} {j : Nat} {x : α}, Paired F xs ys → xs[j]? = some x → ∃ y, ys[j]? = some y ∧ F x y
  | _, _, 0, _, .cons h _, e => ⟨_, rfl, by cases e; exact h⟩
  | _, _, j + 1, _, .cons _ t, e => paired_get (j := j) t e
  | _, _, _, _, .nil, e => by simp at e
/-- what pair stands at a value -/
def kyP (H : Hp) : V → Int × Int
  | .ref t => match H t with
    | some (.tup [.int i, .int j]) => (i, j)
    | _ => (0, 0)
  | _ => (0, 0)
theorem kyP_of {t : Addr} {i j : Int} (h : H t = some (.tup [.int i, .int j])) : kyP H (.ref t) = (i, j) := by
  simp only [kyP, h]
theorem PrsH.srtd {vs : List V} {ps : List (Int × Int)} (h : PrsH H vs ps) (asc : ps.Pairwise fun p q => SrtO.lexB q p = false) : SrtO.Srtd (ltP (kyP H)) vs := by
  induction h with
  | nil => exact .nil
  | @cons v p vs ps h1 h2 ih =>
    obtain ⟨a1, a2⟩ := List.pairwise_cons.mp asc
    refine List.pairwise_cons.mpr ⟨fun u hu => ?_, ih a2⟩
    obtain ⟨t, rfl, e⟩ := h1
    have key : ∀ {vs : List V} {ps : List (Int × Int)}, PrsH H vs ps → u ∈ vs → ∃ q, q ∈ ps ∧ kyP H u = q := by
      intro vs ps hp
      induction hp with
      | nil => exact fun z => nomatch z
      | cons g1 g2 ih2 =>
        intro z
        rcases List.mem_cons.mp z with z | z
        · obtain ⟨t', rfl, e'⟩ := g1
          subst z
          exact ⟨_, List.mem_cons_self, kyP_of e'⟩
        · obtain ⟨q, hq, r⟩ := ih2 z
          exact ⟨q, List.mem_cons_of_mem _ hq, r⟩
    obtain ⟨q, hq, r⟩ := key h2 hu
    show SrtO.lexB (kyP H u) (kyP H (.ref t)) = false
    rw [r, kyP_of e]
    exact a1 q hq
/-- sorted of pairs that ascend already -/
theorem r_sortedP {a : Addr} {vs : List V} {ps : List (Int × Int)} (h1 : SqL K H a vs) (h2 : PrsH H vs ps) (asc : ps.Pairwise fun p q => SrtO.lexB q p = false) (h : ∀ p, H p = none → Q (.ref p) (upd H p (.lst vs))) : rSortedPO K [.ref a] H Q := by
  refine ⟨a, vs, kyP H, rfl, h1, fun x hx => ?_, fun ys p g1 g2 hp => ?_⟩
  · obtain ⟨j, hj⟩ := List.mem_iff_getElem?.mp hx
    obtain ⟨q, _, t, rfl, e⟩ := paired_get h2 hj
    rw [kyP_of e]
    exact ⟨t, rfl, e⟩
  · rw [SrtO.stb_uniq (ltP_swo _) g1 (h2.srtd asc) g2]
    exact h p hp
theorem shaped_of {d : PyData} (h1 : d.canLay0 = true) (h2 : d.depth ≤ 64) : SeqAt.shaped d = true := by
  unfold SeqAt.shaped
  rw [Bool.and_eq_true]
  exact ⟨h1, decide_eq_true h2⟩
theorem r_eqSame {x y : V} (d : PyData) (h1 : Dp K H x d) (h2 : Dp K H y d) (h3 : d.canLay0 = true) (h4 : d.depth ≤ 64) (h : Q (.bl true) H) : rEqD K x y H Q := by
  refine r_eqD h1 h2 (shaped_of h3 h4) (shaped_of h3 h4) ?_
  rw [SeqAt.eqv_refl d h3]
  exact h
theorem r_neSame {x y : V} (d : PyData) (h1 : Dp K H x d) (h2 : Dp K H y d) (h3 : d.canLay0 = true) (h4 : d.depth ≤ 64) (h : Q (.bl false) H) : rNeD K x y H Q := by
  refine r_neD h1 h2 (shaped_of h3 h4) (shaped_of h3 h4) ?_
  rw [SeqAt.eqv_refl d h3]
  exact h
end
end Vf

namespace Vf
open PySem PySem.Spec PyProof.Rows L2
/-! ## several except clauses, some of them with a name -/
abbrev Cls := Value × Option Nat × (Addr → Value → Option Addr → TS)
def offD (i : Nat) (D : Ends) : Ends := { nx := fun u G => D.nx (u.set i none) G, rt := D.rt, bk := fun u G => D.bk (u.set i none) G, ct := fun u G => D.ct (u.set i none) G }
def clsT (c : Cls) (a : Addr) (k : Value) (d : Option Addr) (D : Ends) (σ : L2.St) (H : Hp) : Prop := match c with
  | (_, none, ts) => ts a k d D σ H
  | (_, some i, ts) => ts a k d (offD i D) (σ.set i (some (.ref a))) H
def wMix (K : PySem.W.Frag) (Wout : WX) (D : Ends) : List Cls → WX
  | [] => Wout
  | c :: r => fun k d σ H => ∃ b, PySem.W.exmOne K k c.1 = some b ∧ (b = true → ∀ a, H a = none → clsT c a k d D σ H) ∧ (b = false → wMix K Wout D r k d σ H)
inductive Mix (X : Cx) : List ExceptHandler → List Cls → Prop
  | nil : Mix X [] []
  | plain {x : Str} {c : Value} {ts : Addr → Value → Option Addr → TS} {b0 : Stmt} {suite : List Stmt} {p1 p2 : Pos} {hds : List ExceptHandler} {l : List Cls} (hc : Names X x c)
      (su : ∀ (a : Addr) (oe : Obj) (k : Value) (d : Option Addr) (pn : List (Addr × Obj)), Zc k d oe → (∃ vs, oe.data = .fields vs) → PSs (X.suite a ((a, oe) :: pn)) (b0 :: suite) (ts a k d)) (r : Mix X hds l) :
      Mix X (.ExceptHandler (some (.Name x p1)) none (b0 :: suite) p2 :: hds) ((c, none, ts) :: l)
  | named {x n : Str} {i : Nat} {c : Value} {ts : Addr → Value → Option Addr → TS} {b0 : Stmt} {suite : List Stmt} {p1 p2 : Pos} {hds : List ExceptHandler} {l : List Cls} (hc : Names X x c) (hN : X.N.Nodup) (hi : X.N[i]? = some n) (hl : X.env.kindOf n = some .local)
      (su : ∀ (a : Addr) (oe : Obj) (k : Value) (d : Option Addr) (pn : List (Addr × Obj)), Zc k d oe → (∃ vs, oe.data = .fields vs) → PSs (X.suite a ((a, oe) :: pn)) (b0 :: suite) (ts a k d)) (r : Mix X hds l) :
      Mix X (.ExceptHandler (some (.Name x p1)) (some n) (b0 :: suite) p2 :: hds) ((c, some i, ts) :: l)
section
variable {X : Cx} {body : List Stmt} {h0 : ExceptHandler} {hds : List ExceptHandler} {l : List Cls} {pos : Pos} {tb : WX → TS} {Wout : WX}
theorem ps_try_mix (st : X.stack = X.env :: X.outer) (fm : X.env.frame = some X.env.locals) (tk : Takes X Wout)
    (hb : ∀ (W : WX) (pn : List (Addr × Obj)) (xe : Value → Shared → Prop), Takes (X.tr pn xe) W → PassesOwn (model X.prog X.w) X.A X.env xe → PSs (X.tr pn xe) body (tb W)) (hm : Mix X (h0 :: hds) l) :
    PS X (.Try body (h0 :: hds) [] [] pos) (fun D σ H => tb (wMix X.K Wout D l) D σ H) := by
  refine ⟨fun pins s σ H D I h => ?_⟩
  have ok := I.ok
  have fr : X.A.frames = some (X.env :: X.outer) := by rw [ok.frames, st]
  refine wpAny_Try_except ?_
  refine wpAny_mono ((hb (wMix X.K Wout D l) (X.pn ++ pins) (fun ev t1 => wpAny (model X.prog X.w) X.A (noteFrame ev X.env) (fun _ t2 => wpAny (model X.prog X.w) X.A (setFlight ev none) (fun _ t3 => wpAny (model X.prog X.w) X.A (handleBy ev X.env (h0 :: hds)) (SP X pins D) X.xe t3) X.xe t2) X.xe t1)
    (fun u t' xx => ?_) PassesOwn.looking).run [] s σ H D (I.toTry _) h) (fun f s1 hsp => ?_) (fun e s1 he => he)
  · obtain ⟨a, B, sI, pq, σ1, G, k, d, rfl, J0, nb, up, sky, na, os, ag, wi⟩ := xx
    have J : Inv X pins σ1 G sI := J0.ofTry ok
    have sky1 : Sky B (X.env :: X.outer) a (Zc k d) X.env.locals t'.heap := by rw [← st]; exact sky
    show wpAny (model X.prog X.w) X.A (noteFrame (.ref a) X.env) _ _ _
    refine Sky.land Zc.steady fr fm sky1 fun m3 fl3 up3 => ?_
    have J3 : Inv X pins σ1 G { t' with heap := m3 } := J.landed nb fl3.1 (up.trans up3) os ag
    obtain ⟨o3, v3, e3, z3, d3⟩ := fl3.there
    have nfs : ∀ {m : Heap} {o : Obj} {vs : Array Value}, m.FunFrames B (X.env :: X.outer) → m.get? a = some o → o.data = .fields vs → a ∉ frs (X.env :: X.outer) := fun {m o vs} ff e dd hm => by
      obtain ⟨_, o', e', hnf⟩ := ff.mem hm
      rw [e] at e'
      cases e'
      exact hnf _ dd
    have nfr := nfs fl3.2.2.1 e3 d3
    have nL : a ≠ X.env.locals := fun z => nfr (List.mem_filterMap.mpr ⟨X.env, List.mem_cons_self, by rw [fm, z]⟩)
    have nF : a ∉ X.fs := fun hm => by
      obtain ⟨e, he, q⟩ := List.mem_filterMap.mp hm
      exact nfr (List.mem_filterMap.mpr ⟨e, List.mem_cons_of_mem _ he, q⟩)
    have S3 := J3.suite e3 d3 na nL nF
    have LT : PySem.W.Looks (model X.prog X.w) m3 (typeOf (.ref a)) k := fun A Q E s kk q => wpAny_typeOf_ref (kk _ _ e3) (by rw [z3.1]; exact q)
    have tst : ∀ {x : Str} {c : Value} {np : Pos} {Q : Value → Shared → Prop} {E : Value → Shared → Prop}, Names X x c → Q c { t' with heap := m3 } → wpAny (model X.prog X.w) (X.A.mark (some (.ref a))) (eval (.Name x np) X.env) Q E { t' with heap := m3 } := fun {x c np Q E} hc q => by
      obtain ⟨hg, hdb, hm | ⟨hm, hv, hnn⟩⟩ := hc
      · exact ld_glob (X := X.suite a ((a, o3) :: (X.pn ++ pins))) S3 hg hm q hdb
      · exact ld_blt (X := X.suite a ((a, o3) :: (X.pn ++ pins))) S3 hg hm hv q hnn hdb
    have go : ∀ {hd' : List ExceptHandler} {l' : List Cls}, Mix X hd' l' → wMix X.K Wout D l' k d σ1 G → wpAny (model X.prog X.w) X.A (handleBy (.ref a) X.env hd') (SP X pins D) X.xe { t' with heap := m3 } := by
      intro hd' l' hk
      induction hk with
      | nil =>
        intro wi
        refine wpAny_handleBy_nil ?_
        obtain ⟨q1, q2, q3, oe, vs, T, oT, ts', he, hz, hd, g1, gr⟩ := id fl3
        unfold PySem.passOn
        refine wpAny_bind (wpAny_field he hd g1 ?_)
        rw [if_neg (show ¬ ((Value.ref T == Value.none) = true) by simp)]
        have fin : wpAny (model X.prog X.w) X.A (setFlight (.ref a) X.env.frame) (fun _ t4 => wpAny (model X.prog X.w) X.A (throw (.ref a) : Sem Flow) (SP X pins D) X.xe t4) X.xe { t' with heap := m3 } := by
          rw [fm]
          refine HandSPX.setFlight_upZ fl3 fun m4 hh4 up4 => wpAny_throw (tk _ _ ?_)
          exact ⟨a, B, sI, pins, σ1, G, k, d, rfl, J, nb, (up.trans up3).trans up4, .inr (.inr (by rw [st]; exact hh4)), na, os, ag, wi⟩
        first | exact wpAny_bind (wpAny_pure (wpAny_bind fin)) | exact wpAny_bind fin
      | @plain x c ts b0 suite p1 p2 hd2 l2 hc su r ih =>
        intro wi
        obtain ⟨b, b1, yes, no⟩ := wi
        refine wpAny_handleBy_cons (codeAny_handlers_test ?_) (fun q => nomatch q)
        have LM := PySem.W.exm_one (M := model X.prog X.w) (J3.kIn) LT b1
        refine tst hc (LM.here ?_)
        cases b with
        | true =>
          refine codeAny_handlers_suite <| HandSPX.lands_againZ fl3 fun m4 fl4 up4 => ?_
          have J4 : Inv X pins σ1 G { t' with heap := m4 } := J.landed nb fl4.1 ((up.trans up3).trans up4) os ag
          obtain ⟨o4, v4, e4, z4, d4⟩ := fl4.there
          have S4 := J4.suite e4 d4 na nL nF
          refine wpAny_mono ((su a o4 k d (X.pn ++ pins) z4 ⟨_, d4⟩).run [] _ _ G _ S4 (yes rfl a na)) (fun f s6 hsp => ?_) (fun _ _ z => False.elim z)
          cases f with
          | next => obtain ⟨u6, G6, S6, q6⟩ := hsp; exact ⟨_, _, S6.unsuite ok, q6⟩
          | brk => obtain ⟨u6, G6, S6, q6⟩ := hsp; exact ⟨_, _, S6.unsuite ok, q6⟩
          | cont => obtain ⟨u6, G6, S6, q6⟩ := hsp; exact ⟨_, _, S6.unsuite ok, q6⟩
          | ret u => obtain ⟨v6, u6, G6, S6, r6, q6⟩ := hsp; exact ⟨_, _, _, S6.unsuite ok, r6, q6⟩
        | false =>
          show wpAny _ X.A (handleBy (.ref a) X.env hd2) _ _ _
          exact ih (no rfl)
      | @named x n i c ts b0 suite p1 p2 hd2 l2 hc hN hi hl su r ih =>
        intro wi
        obtain ⟨b, b1, yes, no⟩ := wi
        refine wpAny_handleBy_cons (codeAny_handlers_test ?_) (fun q => nomatch q)
        have LM := PySem.W.exm_one (M := model X.prog X.w) (J3.kIn) LT b1
        refine tst hc (LM.here ?_)
        cases b with
        | true =>
          refine codeAny_handlers_suite_as <| HandSPX.lands_againZ fl3 fun m4 fl4 up4 => ?_
          have J4 : Inv X pins σ1 G { t' with heap := m4 } := J.landed nb fl4.1 ((up.trans up3).trans up4) os ag
          obtain ⟨o4, v4, e4, z4, d4⟩ := fl4.there
          have S4 := J4.suite e4 d4 na nL nF
          refine store_ok (X := X.suite a ((a, o4) :: (X.pn ++ pins))) (v := .ref a) S4 hN hi (.inl hl) rfl (fun s5 S5 => ?_) (.inr hl)
          refine wpAny_mono ((su a o4 k d (X.pn ++ pins) z4 ⟨_, d4⟩).run [] s5 _ G _ S5 (yes rfl a na)) (fun f s6 hsp => ?_) (fun _ _ z => False.elim z)
          have fin : ∀ {u6 : L2.St} {G6 : Hp} {Q : Shared → Prop}, Inv (X.suite a ((a, o4) :: (X.pn ++ pins))) [] u6 G6 s6 → (∀ s7, Inv X pins (u6.set i none) G6 s7 → Q s7) →
              wpAny (model X.prog X.w) X.A (do bindName X.env n .none; unbindBehindTheSuite X.env n p2) (fun _ s7 => Q s7) X.xe s6 := fun {u6 G6 Q} S6 hq => gone_ok (S6.unsuite ok) hN hi hl hq
          cases f with
          | next => obtain ⟨u6, G6, S6, q6⟩ := hsp; exact fin S6 fun s7 J7 => ⟨_, _, J7, q6⟩
          | brk => obtain ⟨u6, G6, S6, q6⟩ := hsp; exact fin S6 fun s7 J7 => ⟨_, _, J7, q6⟩
          | cont => obtain ⟨u6, G6, S6, q6⟩ := hsp; exact fin S6 fun s7 J7 => ⟨_, _, J7, q6⟩
          | ret u => obtain ⟨v6, u6, G6, S6, r6, q6⟩ := hsp; exact fin S6 fun s7 J7 => ⟨_, _, _, J7, r6, q6⟩
        | false =>
          show wpAny _ X.A (handleBy (.ref a) X.env hd2) _ _ _
          exact ih (no rfl)
    exact go hm wi
  · cases f with
    | next => obtain ⟨u1, G1, J1, q⟩ := hsp; exact wpAny_execs_nil ⟨u1, G1, J1.ofTry ok, q⟩
    | brk => obtain ⟨u1, G1, J1, q⟩ := hsp; exact ⟨u1, G1, J1.ofTry ok, q⟩
    | cont => obtain ⟨u1, G1, J1, q⟩ := hsp; exact ⟨u1, G1, J1.ofTry ok, q⟩
    | ret u => obtain ⟨v, u1, G1, J1, r, q⟩ := hsp; exact ⟨v, u1, G1, J1.ofTry ok, r, q⟩
end
section
variable {K : PySem.W.Frag} {c : Value} {Wout : WX} {D : Ends} {k : Value} {d : Option Addr} {σ : L2.St} {H : Hp} {ts : Addr → Value → Option Addr → TS} {l : List Cls}
theorem w_mixN (h1 : PySem.W.exmOne K k c = some true) (h : ∀ a, H a = none → ts a k d D σ H) : wMix K Wout D ((c, none, ts) :: l) k d σ H := ⟨true, h1, fun _ a ha => h a ha, fun z => Bool.noConfusion z⟩
theorem w_mixA {i : Nat} (h1 : PySem.W.exmOne K k c = some true) (h : ∀ a, H a = none → ts a k d (offD i D) (σ.set i (some (.ref a))) H) : wMix K Wout D ((c, some i, ts) :: l) k d σ H := ⟨true, h1, fun _ a ha => h a ha, fun z => Bool.noConfusion z⟩
theorem w_mixO {o : Option Nat} (h1 : PySem.W.exmOne K k c = some false) (h : wMix K Wout D l k d σ H) : wMix K Wout D ((c, o, ts) :: l) k d σ H := ⟨false, h1, fun z => Bool.noConfusion z, fun _ => h⟩
end
/-! ## an own exception class without own __init__, made with nothing -/
structure EC0 (K : PySem.W.Frag) (C : Addr) (tail : List Value) (nid : String) : Prop where
  q : PySem.W.excIn K C tail nid = true
  kk : PySem.W.keepIn K (.ref C) = true
  ba : PySem.W.subIn K (.ref C) (.type "BaseException") = some true
  tt : PySem.W.typeIn K (.ref C) = some (.type "type")
theorem pmk_ec0 {X : Cx} {C : Addr} {tail : List Value} {B nid iid : String} {x : Str} {p pos : Pos} (T : EC0 X.K C tail nid) (F : ExcBaseFacts B nid iid tail) (hg : Gl X x) (hm : X.mg x = some (.ref C)) (hdb : (x == ("__debug__" : Str)) = false := by decide) :
    PMk X (.Call (.Name x p) [] [] pos) (fun _ H Q => Q (.ref C) none H) := by
  intro pins s σ H Q I h
  refine wpAny_Call_Name_kw (ld_glob I hg hm ?_ hdb)
  refine PySem.W.callWith_K0 I.kIn T.kk ?_
  show wpAny _ _ (call (.ref C) []) _ _ _
  obtain ⟨bm, N, nm, qn, bs, hdct, sn, sub, ab, col, dd, k0, k1, k2, k3, k5, mN, hC, hN, hni, ot⟩ := exc_obj I.kIn T.q
  exact wpAny_call_exc_subT F ot hC hN hni (fun h' e hm' => mk_of I hm' (raises_own T.ba T.tt) h (I.hok.gone hm'.new)) (Nat.zero_le _)
end Vf

namespace Vf
open PySem PySem.Spec PyProof.Rows L2
/-! ## max(xs, default = d) -/
section
variable {prog : Program} {w : World} {A : Around} {J : Addr} {far put : List Addr} {N : Nat} {Pn : Nat → Value → Prop} {Sn : Nat → Heap → Prop}
theorem mx_name : (toString "max" ++ toString ".loop" : String) = "max.loop" := by decide
theorem mx_args (x d : Value) : argsOk "max" ⟨[x], [(Str.ofString "default", d)]⟩ := by
  unfold argsOk
  kernel_rfl
/-- the loop behind its first item, whatever keywords go with it -/
theorem mx_on (kw : List (Str × Value)) (Y : Walks prog w A.in1 J far put N Pn Sn) (gt : Nat → Nat → Bool) (hgt : CmpOf prog w A.in1 .Gt Pn gt) (B : Addr) (nB : B ∉ far) {Z : Result → Shared → Prop} :
    ∀ (left i : Nat) (s : Shared) (best : Value) (ep : Nat), N - (i + 1) = left → i + 1 ≤ N → Sn (i + 1) s.heap → Pn (argBest gt i) best →
    s.heap.get? B = some { cls := .type "list", dict := none, data := .seq #[best, best] ep, slots := #[] } →
    (∀ v h2 t2, Pn (argBest gt (N - 1)) v → (∀ b o, b ∉ put → b ≠ B → s.heap.get? b = some o → h2.get? b = some o) → Z (.ok (.ret v)) { s with heap := h2, toks := t2 }) →
    codeAny (model prog w) A (.builtin "max.loop" ⟨[.ref J, .none, .ref B], kw⟩) Z s
  | 0, i, s, best, ep, e, li, hS, hP, hB, q => by
    have eN : i + 1 = N := by omega
    have nP : B ∉ put := fun h => nB (Y.sub _ h)
    refine codeAny_builtin F.entry_max_loop ?_
    rw [Around.under_plainId F.plain_max_loop _]
    show wpAny _ A.in1 (seqItems? (.ref B) >>= _) _ _ s
    refine wpAny_bind (wpAny_seqItems hB rfl ?_)
    show wpAny _ A.in1 (tryCatch (pyNext (.ref J)) _ >>= _) _ _ s
    refine wpAny_bind (wpAny_tryCatch (Y.done s _ _ (eN ▸ hS) fun h1 t1 k1 => ?_))
    show wpAny _ A.in1 (updateSeq B (fun _ => #[]) >>= _) _ _ _
    refine wpAny_bind (wpAny_updateSeq (k1 B _ nP hB) rfl (wpAny_bind (wpAny_letGo (wpAny_pure ?_))))
    exact q best _ t1 (by rw [← eN]; exact hP) fun b o c1 c2 g => (Heap.get?_update_other _ _ (Ne.symm c2)).trans (k1 b o c1 g)
  | left + 1, i, s, best, ep, e, li, hS, hP, hB, q => by
    have lt : i + 1 < N := by omega
    have nP : B ∉ put := fun h => nB (Y.sub _ h)
    refine codeAny_builtin F.entry_max_loop ?_
    rw [Around.under_plainId F.plain_max_loop _]
    show wpAny _ A.in1 (seqItems? (.ref B) >>= _) _ _ s
    refine wpAny_bind (wpAny_seqItems hB rfl ?_)
    show wpAny _ A.in1 (tryCatch (pyNext (.ref J)) _ >>= _) _ _ s
    refine wpAny_bind (wpAny_tryCatch (Y.item (i + 1) s _ _ lt hS fun u h1 t1 pu su k1 => ?_))
    have hB1 := k1 B _ nP hB
    show wpAny _ A.in1 (tryCatch (holding [u, u] (richCompare .Gt u best >>= _)) _ >>= _) _ _ _
    refine wpAny_bind (wpAny_tryCatch (wpAny_holding (wpAny_bind (hgt (i + 1) (argBest gt i) u best _ _ _ pu hP ?_))))
    refine wpAny_bind (wpAny_holding (wpAny_truthy_bool (wpAny_bind (wpAny_letGo (wpAny_pure ?_)))))
    by_cases c : gt (i + 1) (argBest gt i) = true
    · rw [if_pos c]
      refine wpAny_bind (wpAny_updateSeq hB1 rfl (wpAny_bind (wpAny_letGo ?_)))
      rw [mx_name]
      refine wpAny_pure ⟨plainId_quiet F.plain_max_loop _, mx_on kw Y gt hgt B nB left (i + 1) _ u _ (by omega) lt (Y.frame _ _ _ su fun b hb o g => ?_) (by rw [argBest, if_pos c]; exact pu) (Heap.get?_update_self _ hB1 rfl) fun v h2 t2 pv k2 => ?_⟩
      · exact (Heap.get?_update_other _ _ (fun z : B = b => nB (by rw [z]; exact hb))).trans g
      · exact q v h2 t2 pv fun b o c1 c2 g => k2 b o c1 c2 ((Heap.get?_update_other _ _ (Ne.symm c2)).trans (k1 b o c1 g))
    · rw [if_neg c]
      refine wpAny_bind (wpAny_letGo ?_)
      rw [mx_name]
      refine wpAny_pure ⟨plainId_quiet F.plain_max_loop _, mx_on kw Y gt hgt B nB left (i + 1) _ best ep (by omega) lt su (by rw [argBest, if_neg c]; exact hP) hB1 fun v h2 t2 pv k2 => ?_⟩
      exact q v h2 t2 pv fun b o c1 c2 g => k2 b o c1 c2 (k1 b o c1 g)
/-- the loop from its start: an item, or none and the default -/
theorem mx_start (d : Value) (Y : Walks prog w A.in1 J far put N Pn Sn) (gt : Nat → Nat → Bool) (hgt : CmpOf prog w A.in1 .Gt Pn gt) (B : Addr) (nB : B ∉ far) {Z : Result → Shared → Prop} {s : Shared} {ep : Nat} (hS : Sn 0 s.heap)
    (hB : s.heap.get? B = some { cls := .type "list", dict := none, data := .seq #[] ep, slots := #[] })
    (q : ∀ v h2 t2, ((N = 0 ∧ v = d) ∨ (0 < N ∧ Pn (argBest gt (N - 1)) v)) → (∀ b o, b ∉ put → b ≠ B → s.heap.get? b = some o → h2.get? b = some o) → Z (.ok (.ret v)) { s with heap := h2, toks := t2 }) :
    codeAny (model prog w) A (.builtin "max.loop" ⟨[.ref J, .none, .ref B], [(Str.ofString "default", d)]⟩) Z s := by
  have nP : B ∉ put := fun h => nB (Y.sub _ h)
  refine codeAny_builtin F.entry_max_loop ?_
  rw [Around.under_plainId F.plain_max_loop _]
  show wpAny _ A.in1 (seqItems? (.ref B) >>= _) _ _ s
  refine wpAny_bind (wpAny_seqItems hB rfl ?_)
  show wpAny _ A.in1 (tryCatch (pyNext (.ref J)) _ >>= _) _ _ s
  rcases Nat.eq_zero_or_pos N with z | z
  · subst z
    refine wpAny_bind (wpAny_tryCatch (Y.done s _ _ hS fun h1 t1 k1 => ?_))
    refine wpAny_bind (wpAny_rule (wpAny_pure ?_))
    exact q d h1 t1 (.inl ⟨rfl, rfl⟩) fun b o c1 _ g => k1 b o c1 g
  · refine wpAny_bind (wpAny_tryCatch (Y.item 0 s _ _ z hS fun u h1 t1 pu su k1 => ?_))
    have hB1 := k1 B _ nP hB
    show wpAny _ A.in1 (updateSeq B (fun _ => #[u, u]) >>= _) _ _ _
    refine wpAny_bind (wpAny_updateSeq hB1 rfl ?_)
    rw [mx_name]
    refine wpAny_pure ⟨plainId_quiet F.plain_max_loop _, mx_on _ Y gt hgt B nB _ 0 _ u _ rfl z (Y.frame _ _ _ su fun b hb o g => ?_) pu (Heap.get?_update_self _ hB1 rfl) fun v h2 t2 pv k2 => ?_⟩
    · exact (Heap.get?_update_other _ _ (fun y : B = b => nB (by rw [y]; exact hb))).trans g
    · exact q v h2 t2 (.inr ⟨z, pv⟩) fun b o c1 c2 g => k2 b o c1 c2 ((Heap.get?_update_other _ _ (Ne.symm c2)).trans (k1 b o c1 g))
end
section
variable {prog : Program} {w : World} {A : Around} {E : Value → Shared → Prop} {s : Shared}
theorem mx_call {l : Addr} {xs : Array (Int × Tok)} {d : Value} {Q : Value → Shared → Prop} (hh : A.handled = none) (hl : s.heap.IsList l (intItems xs))
    (h : ∀ v h2 t2, ((xs.size = 0 ∧ v = d) ∨ (0 < xs.size ∧ (intItems xs)[argBest (fun i j => decide (numAt xs i > numAt xs j)) (xs.size - 1)]? = some v)) → (∀ b o, s.heap.get? b = some o → h2.get? b = some o) → Q v { s with heap := h2, toks := t2 }) :
    wpAny (model prog w) A (call (.builtin "max") [.ref l] [(Str.ofString "default", d)]) Q E s := by
  refine wpAny_call (codeAny_call_builtin F.plain_max F.entry_max ?_)
  have body : wpAny (model prog w) A.in1 (Builtin.«max» ⟨[.ref l], [(Str.ofString "default", d)]⟩) (fun fin s' => match fin with
      | .done f => (match (Except.ok f : Result) with | .ok (.ret v) => Q v s' | .ok _ => False | .error e => E e s')
      | .again c' => c'.quiet = true ∧ codeAny (model prog w) A c' (fun r s' => match r with | .ok (.ret v) => Q v s' | .ok _ => False | .error e => E e s') s') E s := by
    show wpAny _ A.in1 (Builtin.Builtins.bindParams "max" ["key", "default"] 0 ⟨[], [(Str.ofString "default", d)]⟩ >>= _) _ _ s
    refine wpAny_bind (wpAny_of_eq (show Builtin.Builtins.bindParams "max" ["key", "default"] 0 ⟨[], [(Str.ofString "default", d)]⟩ = pure [none, some d] from rfl) (wpAny_bind (wpAny_pure ?_)))
    refine wpAny_bind (iter_intList hl fun s2 e st hf nl => ?_)
    subst e
    refine wpAny_bind (wpAny_newObj_type ?_)
    rw [mx_name]
    refine wpAny_pure ⟨plainId_quiet F.plain_max_loop _, mx_start d (Walks.list (prog := prog) (w := w) (A := A.in1) hh _ l nl (intItems xs)) _ (CmpOf.ints_gt (numAt xs) fun _ _ => intItems_at) _ (fun hm => Nat.lt_irrefl _ (hf _ hm)) ((Walks.list (prog := prog) (w := w) (A := A.in1) hh _ l nl (intItems xs)).frame _ _ _ st fun b _ o g => Heap.get?_push_of_some _ g) (Heap.get?_push_size _ rfl) fun v h2 t2 hv k => ?_⟩
    refine h v h2 t2 (by simpa [intItems] using hv) (old_kept (l := l) fun b o hb g => ?_)
    exact k b o hb (Nat.ne_of_lt (Heap.lt_size g)) (Heap.get?_push_of_some _ g)
  simp only [checkBuiltinCall, F.kind_max]
  have ha := mx_args (.ref l) d
  cases hsig : Manifest.signature? "max" with
  | none => exact wpAny_pure body
  | some sig =>
    have ha' : Bind.checkArgs "max" sig ⟨[.ref l], [(Str.ofString "default", d)]⟩ = pure () := by simpa only [argsOk, hsig] using ha
    simp only [ha']
    exact wpAny_pure body
end
section
variable {X : Cx}
def rMaxD (K : PySem.W.Frag) : List V → List V → Hp → VK → Prop := fun vs zs H Q => ∃ (a : Addr) (ns : List Int) (d : Int), vs = [V.ref a] ∧ zs = [.int d] ∧ SqL K H a (ns.map V.int) ∧ ∀ m, (ns = [] → m = d) → (ns ≠ [] → m ∈ ns ∧ ∀ y ∈ ns, y ≤ m) → Q (.int m) H
theorem cr_maxDf {K : PySem.W.Frag} (eK : X.K = K) (hc : X.calm = true) : CallRK X (.builtin "max") [Str.ofString "default"] (rMaxD K) := by
  subst eK
  intro pins s σ H vs zs us ws Q I r rz h
  obtain ⟨a, ns, d, rfl, rfl, hs, q⟩ := h
  obtain ⟨its, rv, hl, _⟩ := I.list hs
  obtain rfl := Vals.ref1 r
  obtain ⟨w1, rfl, t, rfl⟩ := vals1 rz
  have hi := rv.ints
  obtain ⟨xs, e⟩ := hi.allInts.items
  have hn : numsOf (intItems xs).toList = ns := by rw [← e]; exact hi.numsOf
  rw [nums_intItems] at hn
  have hl' := hl.isList
  rw [e] at hl'
  have ln : ns.length = xs.size := by rw [← hn, List.length_map, Array.length_toList]
  refine mx_call (I.ok.hd hc) hl' fun v h2 t2 hv k => ?_
  rcases hv with ⟨z, rfl⟩ | ⟨z, hv⟩
  · exact ⟨.int d, H, I.kept k, ⟨_, rfl⟩, q d (fun _ => rfl) fun c => absurd (List.eq_nil_of_length_eq_zero (by omega)) c⟩
  · obtain ⟨t', rfl⟩ := intItems_at hv
    obtain ⟨g1, g2⟩ := argBest_gt (numAt xs) (xs.size - 1)
    refine ⟨.int _, H, I.kept k, ⟨_, rfl⟩, q _ (fun c => by rw [c] at ln; simp at ln; omega) fun _ => ⟨?_, fun y hy => ?_⟩⟩
    · rw [numAt_eq, ← hn]
      exact PySem.getD_mem (by rw [List.length_map, Array.length_toList]; omega)
    · rw [← hn] at hy
      obtain ⟨j, hj, rfl⟩ := mem_getD hy
      rw [List.length_map, Array.length_toList] at hj
      rw [← numAt_eq]
      exact g2 j (by omega)
theorem r_maxD {K : PySem.W.Frag} {H : Hp} {Q : VK} {a : Addr} {d : Int} (ns : List Int) (hs : SqL K H a (ns.map V.int)) (h : ∀ m, (ns = [] → m = d) → (ns ≠ [] → m ∈ ns ∧ ∀ y ∈ ns, y ≤ m) → Q (.int m) H) : rMaxD K [.ref a] [.int d] H Q := ⟨a, ns, d, rfl, rfl, hs, h⟩
theorem r_ckw {r : List V → List V → Hp → VK → Prop} {t tk : TA} {σ : L2.St} {H : Hp} {Q : VK} (h : t σ H fun vs H1 => tk σ H1 fun zs H2 => r vs zs H2 Q) : tCKw r t tk σ H Q := h
end
end Vf

namespace Vf
open PySem PySem.Spec PyProof.Rows L2
/-! ## a tuple times a number, 0 too -/
theorem tup_none (l : Addr) (items : Array Value) (n : Nat) (dd : Option Addr) (sl : Array (Option Value)) (u : Tok) (ne : items.isEmpty = false) :
    Meets (Builtin.«tuple.__mul__» ⟨[.ref l, .int 0 u], []⟩) (fun _ R s => s.heap.get? l = some { cls := .type "tuple", dict := dd, data := .seq items n, slots := sl } ∧
      R (.ok (.ret (Value.ref s.heap.objs.size))) { s with heap := s.heap.push { cls := Value.type "tuple", data := Data.seq #[] }, toks := s.toks }) :=
  .of_wp fun prog w A R s h => by
    obtain ⟨hp, g, d, tk, os⟩ := s
    obtain ⟨hl, h⟩ := h
    have f1 := AutoSeq1.idx_int
    have c1 : ¬ (items.isEmpty || (0 : Int) == 1) = true := by rw [ne]; decide
    have c2 : (decide ((0 : Int) ≤ 0) || items.isEmpty) = true := by rw [decide_eq_true (by decide)]; rfl
    wp_walk using wpAny_loadPart' hl
    repeat (first
      | (refine wpAny_ite_false (decide_eq_false (by decide)) ?_; wp_walk using wpAny_loadPart' hl)
      | (refine wpAny_ite_false (decide_eq_false c1) ?_; wp_walk using wpAny_loadPart' hl)
      | (refine wpAny_ite_true (decide_eq_true c2) ?_; wp_walk using wpAny_loadPart' hl))
    exact ⟨_, rfl, h⟩
def rRepA (K : PySem.W.Frag) : R2 := fun x y H Q => ∃ l k xs, x = .ref l ∧ y = .int k ∧ SqT K H l xs ∧ xs ≠ [] ∧ ((k = 0 ∧ ∀ p, H p = none → Q (.ref p) (upd H p (.tup []))) ∨
  (2 ≤ k ∧ k ≤ 1000 ∧ xs.length ≤ 1000 ∧ ∀ p, H p = none → Q (.ref p) (upd H p (.tup (List.replicate k.toNat xs).flatten))))
theorem op_repA {X : Cx} {K : PySem.W.Frag} (eK : X.K = K) : OpR X (binaryOp .Mult) (rRepA K) := by
  subst eK
  intro pins s σ H x y v u Q I rx ry h
  obtain ⟨l, k, xs, rfl, rfl, hT, hne, h⟩ := h
  rcases h with ⟨rfl, q⟩ | ⟨h1, h2, h3, q⟩
  · cases rx
    obtain ⟨t, rfl⟩ := ry
    obtain ⟨its, r, ⟨⟨cls, dd, data, sl⟩, ho, hc, n, hd⟩, hs⟩ := I.tuple hT
    simp only at hc hd
    subst hc hd
    have hi : its.toArray.isEmpty = false := by
      cases its with
      | nil => exact absurd (List.eq_nil_of_length_eq_zero r.length) hne
      | cons a b => rfl
    refine wpAny_binaryOp_repeat_ref (T := "tuple") (U := "int") (by decide) ⟨_, ho, rfl⟩ (fun s' => typeIs_int s' 0 t) noFill_tuple_mul F.fills_int_mul F.slot_int_rmul repeat_tuple F.slot_int_index.lookup
      (call_meets F.slot_int_rmul (typeIs_int s 0 t) F.entry_int_rmul (F.args_int_rmul_2 _ _) (int_rmul_tuple 0 t l its.toArray n dd sl)
        ⟨ho, rfl, ⟨_, ho, rfl⟩, call_meets F.slot_tuple_mul ⟨_, ho, rfl⟩ F.entry_tuple_mul (F.args_tuple_mul_2 _ _) (tup_none l its.toArray n dd sl t hi) ⟨ho, ?_⟩⟩)
    refine ⟨.ref s.heap.objs.size, _, I.laid (t' := s.toks) (o := .tup []) (fun b ob g => Heap.get?_push_of_some _ g) (Nat.le_refl _) ⟨Nat.zero_le _, [], .nil, IsTup.new _ _⟩, rfl, q _ (I.hok.fresh (Nat.le_refl _))⟩
  · exact op_repT pins s σ H _ _ v u Q I rx ry ⟨l, k, xs, rfl, rfl, hT, hne, h1, h2, h3, q⟩
/-- (0,) * k -/
theorem r_zerosT {K : PySem.W.Frag} {H : Hp} {Q : VK} {a : Addr} {k : Nat} (h : SqT K H a [.int 0]) (hk : k = 0 ∨ 2 ≤ k) (k1 : k ≤ 1000) (q : ∀ p, H p = none → Q (.ref p) (upd H p (.tup ((List.replicate k (0 : Int)).map V.int)))) : rRepA K (.ref a) (.int (k : Int)) H Q := by
  refine ⟨a, _, _, rfl, rfl, h, (fun e => by simp at e), ?_⟩
  rcases hk with z | z
  · subst z
    exact .inl ⟨rfl, q⟩
  · refine .inr ⟨by omega, by omega, by simp, fun p hp => ?_⟩
    have e : (List.replicate (k : Int).toNat [V.int 0]).flatten = (List.replicate k (0 : Int)).map V.int := by
      rw [Int.toNat_natCast, List.map_replicate]
      clear z k1 q
      induction k with
      | zero => rfl
      | succ n ih => rw [List.replicate_succ, List.flatten_cons, ih, List.replicate_succ]; rfl
    rw [e]
    exact q p hp
end Vf

namespace Vf
open PySem PySem.Spec PyProof.Rows L2
/-! ## t.index(n), xs.index(n) of ints -/
def rTix (K : PySem.W.Frag) : V → List V → Hp → VK → Prop := fun x xs H Q => ∃ (p : Addr) (ys : List Int) (z : Int) (j : Nat), x = .ref p ∧ xs = [.int z] ∧ SqT K H p (ys.map V.int) ∧ ys[j]? = some z ∧ (∀ m, m < j → ys[m]? ≠ some z) ∧ Q (.int (j : Nat)) H
theorem flat_intsV : ∀ ns : List Int, (ns.map V.int).all flatV = true
  | [] => rfl
  | n :: ns => by
    rw [List.map_cons, List.all_cons, flat_intsV ns]
    rfl
theorem mt_tix {X : Cx} {K : PySem.W.Frag} (eK : X.K = K) : MtR X "tuple.index" (rTix K) := by
  subst eK
  intro pins s σ H x xs v us Q I rx rs h
  obtain ⟨p, ys, z, j, rfl, rfl, hq, hy, hno, q⟩ := h
  cases rx
  obtain ⟨u, rfl, t, rfl⟩ := vals1 rs
  obtain ⟨its, r, pl, hz⟩ := I.tuple hq
  obtain ⟨⟨cls, dd, dt, sl⟩, ho, hc, n, hd⟩ := pl
  simp only at hc hd
  subst hc hd
  have ln : its.toArray.size = ys.length := by rw [List.size_toArray, ← r.length, List.length_map]
  have lj : j < its.toArray.size := by rw [ln]; exact (List.getElem?_eq_some_iff.mp hy).1
  have look : ∀ (m : Nat) (hm : m < its.toArray.size), ∃ y t', ys[m]? = some y ∧ its.toArray[m] = Value.int y t' := fun m hm => by
    have ml : m < ys.length := by omega
    obtain ⟨w, hw, t', rfl⟩ := r.get (i := m) (x := .int ys[m]) (by simp [ml])
    refine ⟨ys[m], t', List.getElem?_eq_getElem ml, ?_⟩
    rw [← (List.getElem?_eq_some_iff.mp hw).2]
    simp
  refine call_meets PySem.F.slot_tuple_index ⟨_, ho, rfl⟩ PySem.F.entry_tuple_index (PySem.F.args_tuple_index_2 _ _) (TI.tuple_indexAt p its.toArray n dd sl (.int z t) (eqU (.int z)) j lj ?_ ?_)
    ⟨ho, fun w hw => mem_eqAt (x := .int z) ⟨t, rfl⟩ rfl r (flat_intsV ys) w (by simpa using hw), ⟨.int (j : Nat), H, I.tok _, ⟨_, rfl⟩, q⟩⟩
  · obtain ⟨y, t', g1, g2⟩ := look j lj
    rw [hy] at g1
    cases g1
    rw [g2]
    exact beq_self_eq_true z
  · intro m hm mj
    obtain ⟨y, t', g1, g2⟩ := look m hm
    rw [g2]
    show (y == z) = false
    rw [beq_eq_false_iff_ne]
    exact fun c => hno m mj (by rw [g1, c])
theorem r_tix {K : PySem.W.Frag} {H : Hp} {Q : VK} {p : Addr} {z : Int} {j : Nat} (ys : List Int) (hs : SqT K H p (ys.map V.int)) (hj : ys[j]? = some z) (hno : ∀ m, m < j → ys[m]? ≠ some z) (q : Q (.int (j : Nat)) H) : rTix K (.ref p) [.int z] H Q := ⟨p, ys, z, j, rfl, rfl, hs, hj, hno, q⟩
/-! ## a tuple whose object is known; a method of it -/
def rTupF (K : PySem.W.Frag) : List V → Hp → VK → Prop := fun xs H Q => ∃ (p : Addr) (ys : List V), xs = [.ref p] ∧ SqL K H p ys ∧ ∀ (l : Addr) (o : Obj), H l = none → o.cls = .type "tuple" → o.dict = none → Q (.ref l) (upd H l (.frz o (.tup ys)))
theorem c_tupF {X : Cx} {K : PySem.W.Frag} (eK : X.K = K) : CallR X (.type "tuple") (rTupF K) := by
  subst eK
  intro pins s σ H xs us Q I r h
  obtain ⟨p, ys, rfl, hq, q⟩ := h
  obtain rfl := Vals.ref1 r
  obtain ⟨its, r', pl, hz⟩ := I.list hq
  have ln := r'.length
  refine call_tuple_list pl.isList (fun h2 kp => ?_) (by simp only [List.size_toArray] <;> omega)
  have I1 : Inv X pins σ H { s with heap := h2 } := I.kept (t' := s.toks) kp
  have I2 : Inv X pins σ (upd H h2.objs.size (.frz { cls := .type "tuple", data := .seq its.toArray } (.tup ys))) { s with heap := h2.push { cls := .type "tuple", data := .seq its.toArray } } :=
    I1.laid (t' := s.toks) (fun b o g => Heap.get?_push_of_some _ g) (Nat.le_refl _) ⟨Heap.get?_push_size _ rfl, hz, its, r', IsTup.new _ _⟩
  exact ⟨.ref h2.objs.size, _, I2, rfl, q _ _ (I1.hok.fresh (Nat.le_refl _)) rfl rfl⟩
def tBF (T : String) (r : V → List V → Hp → VK → Prop) (to : TE) (t : TA) : TE := fun σ H Q => to σ H fun x H1 => (∃ (p : Addr) (o : Obj) (u : HO), x = .ref p ∧ H1 p = some (.frz o u) ∧ o.cls = .type T ∧ o.dict = none) ∧ t σ H1 fun xs H2 => r x xs H2 Q
theorem pe_bmF {X : Cx} {o e : Expr} {es : List Expr} {to : TE} {t : TA} {name : Str} {at_ ps : Pos} {T id : String} {r : V → List V → Hp → VK → Prop}
    (pa : PlainAttrs T) (slot : Slot T name id) (md : typeOf (.builtin id) = pure (.type "method_descriptor")) (hm : MtR X id r) (ho : PE X o to) (ha : PA X (e :: es) t)
    (h1 : attributeBase o name X.env (eval o X.env) = eval o X.env := by rfl) (h2 : ((backTo ps (starEach (e :: es) X.env)).all (fun x => !x.1) && (backToKw ps (keywordEach [] X.env)).all (fun x => x.1.isSome) && decide ((e :: es).length + ([] : List Keyword).length + (if ([] : List Keyword).isEmpty then 0 else 1) < 30)) = true := by rfl)
    (h3 : (at_.endLine == ps.line) = true := by rfl) (h4 : starEach (e :: es) X.env = (false, eval e X.env) :: starEach es X.env := by rfl) (h5 : (backTo ps (starEach es X.env)).any (·.1) = false := by rfl) :
    PE X (.Call (.Attribute o name at_) (e :: es) [] ps) (tBF T r to t) := by
  refine ⟨fun pins s σ H Q I h => wpAny_Call_method_late h1 h2 h3 rfl (thn (ho.run pins s σ H _ I h) fun v s1 ⟨x, H1, I1, r1, ty, q1⟩ => ?_)⟩
  obtain ⟨p, ob, u, rfl, hp, hc, hd⟩ := ty
  cases r1
  have look : s1.heap.get? p = some ob := (I1.hok p _ hp).1
  refine ⟨T, id, pa, slot, md, ⟨ob, look, hc⟩, fun a e => by cases e; exact ⟨ob, look, hd⟩, ?_⟩
  have go := ha.run ps pins s1 σ H1 _ I1 q1
  rw [h4] at go ⊢
  refine Calls.callWith_builtin (by show (false || (backTo ps (starEach es X.env)).any (·.1)) = false; rw [h5] <;> rfl) (Calls.evalArgs_plain (thn go fun us s2 ⟨vs, H2, I2, r2, q2⟩ => ?_))
  exact hm pins s2 σ H2 (.ref p) vs (.ref p) us Q I2 rfl r2 q2
theorem r_bmF {T : String} {r : V → List V → Hp → VK → Prop} {to : TE} {t : TA} {σ : L2.St} {H : Hp} {Q : VK} (h : to σ H fun x H1 => (∃ (p : Addr) (o : Obj) (u : HO), x = .ref p ∧ H1 p = some (.frz o u) ∧ o.cls = .type T ∧ o.dict = none) ∧ t σ H1 fun xs H2 => r x xs H2 Q) : tBF T r to t σ H Q := h
theorem r_tupF {K : PySem.W.Frag} {H : Hp} {Q : VK} {a : Addr} {ys : List V} (hs : SqL K H a ys) (h : ∀ (l : Addr) (o : Obj), H l = none → o.cls = .type "tuple" → o.dict = none → Q (.ref l) (upd H l (.frz o (.tup ys)))) : rTupF K [.ref a] H Q := ⟨a, ys, rfl, hs, h⟩
theorem SqT.frz {K : PySem.W.Frag} {H : Hp} {a : Addr} {o : Obj} {ys : List V} (h : H a = some (.frz o (.tup ys))) : SqT K H a ys := Or.inl (Or.inr ⟨o, h⟩)
theorem mt_lix {X : Cx} {K : PySem.W.Frag} (eK : X.K = K) : MtR X "list.index" (rIndex K) := by subst eK; exact mt_index
theorem r_lix {K : PySem.W.Frag} {H : Hp} {Q : VK} {p : Addr} {z : Int} {j : Nat} (ys : List Int) (hs : SqL K H p (ys.map V.int)) (hj : ys[j]? = some z) (hno : ∀ m, m < j → ys[m]? ≠ some z) (q : Q (.int (j : Nat)) H) : rIndex K (.ref p) [.int z] H Q := by
  refine ⟨p, _, .int z, j, .int z, rfl, rfl, hs, rfl, flat_intsV ys, by rw [List.getElem?_map, hj]; rfl, beq_self_eq_true z, fun m z' mj hz => ?_, q⟩
  rw [List.getElem?_map, Option.map_eq_some_iff] at hz
  obtain ⟨y, hy, rfl⟩ := hz
  show (y == z) = false
  rw [beq_eq_false_iff_ne]
  exact fun c => hno m mj (by rw [hy, c])
end Vf

namespace Vf
open PySem PySem.Spec PyProof.Rows L2
/-! ## a module's tuple; zip of two tuples in a comprehension; dicts with pairs as keys -/
theorem pe_gr {X : Cx} {x : Str} {a : Addr} {pos : Pos} (hm : X.mg x = some (.ref a)) (hg : Gl X x) (hd : (x == ("__debug__" : Str)) = false := by decide) : PE X (.Name x pos) (tC (.ref a)) := pe_glob hg hm rfl hd
section
variable {K : PySem.W.Frag} {σ : L2.St} {H : Hp} {Q : VK} {g : TG} {tt : TT} {te : TE} {vs : List Nat}
theorem r_lcZti {ta : TA} (h : ta σ H fun ws H1 => ∃ a b xs ys, ws = [.ref a, .ref b] ∧ ((SqL K H1 a xs ∧ SqL K H1 b ys ∧ tLc (fun _ H2 R => R (Itz K a b) H2) g tt te vs σ H1 Q) ∨
    (SqT K H1 a xs ∧ SqT K H1 b ys ∧ tLc (fun _ H2 R => R (RZ.ItzT K a b) H2) g tt te vs σ H1 Q))) : tLc (RZ.iZipA K ta) g tt te vs σ H Q := h
theorem r_lcZt {a b : Addr} (xs ys : List V) (n : Nat) (nx : xs.length = n) (ny : ys.length = n) (Pv : Addr → Nat → Hp → Prop) (h0 : ∀ D, H D = none → Pv D 0 (upd H D (.lst [])))
    (hl : ∀ D i H', H D = none → i ≤ n → Pv D i H' → SqT K H' a xs ∧ SqT K H' b ys)
    (hs : ∀ D i x y H' T, H D = none → xs[i]? = some x → ys[i]? = some y → Pv D i H' → H' T = none → g (.ref T) (wipe σ vs) (upd H' T (.tup [x, y])) fun σ2 H2 => wipe σ2 vs = wipe σ vs ∧ tt σ2 H2 fun b H3 =>
      if b = true then te σ2 H3 fun y H4 => ∃ acc, H4 D = some (.lst acc) ∧ acc.length < sizeLine ∧ Pv D (i + 1) (upd H4 D (.lst (acc ++ [y]))) else Pv D (i + 1) H3)
    (hd : ∀ D H', H D = none → Pv D n H' → Q (.ref D) H') : tLc (fun _ H2 R => R (RZ.ItzT K a b) H2) g tt te vs σ H Q := by
  refine fun D hD => ⟨fun i m H => m = n - i ∧ i ≤ n ∧ Pv D i H, ⟨n, by omega, Nat.zero_le _, h0 D hD⟩, ?_⟩
  rintro i m H' ⟨rfl, hi, p⟩
  obtain ⟨qx, qy⟩ := hl D i H' hD hi p
  by_cases lt : i < n
  · have ix : i < xs.length := by omega
    have iy : i < ys.length := by omega
    refine Or.inr ⟨⟨xs, ys, xs[i], ys[i], qx, qy, by simp [ix], by simp [iy]⟩, Pv D (i + 1), fun H' p' => ⟨n - (i + 1), by omega, rfl, lt, p'⟩, fun v H'' yy => ?_⟩
    obtain ⟨T, x, y, rfl, nT, rfl, f1, f2⟩ := yy
    exact hs D i x y H' T hD (f1 xs qx) (f2 ys qy) p nT
  · have e : i = n := by omega
    subst e
    exact Or.inl ⟨⟨xs, ys, qx, qy, .inl (by omega)⟩, hd D H' hD p⟩
theorem r_bits {to : TE} {σ : L2.St} {H : Hp} {Q : VK} (h : to σ H fun x H1 => ∃ i, x = .int i ∧ Q (.int (Builtin.Int.intBits i : Nat)) H1) : tBits to σ H Q := h
theorem r_dget {td ty : TE} {σ : L2.St} {H : Hp} {Q : VK} (h : td σ H fun x H1 => ty σ H1 fun y H2 => ∃ a v, x = .ref a ∧ DGet H2 a y (some v) ∧ Q v H2) : tDGet td ty σ H Q := h
theorem r_din {td ty : TE} {σ : L2.St} {H : Hp} {Q : VK} (h : ty σ H fun y H1 => td σ H1 fun x H2 => ∃ a o, x = .ref a ∧ DGet H2 a y o ∧ Q (.bl o.isSome) H2) : tDIn ty td σ H Q := h
theorem r_dput {td ty tv : TE} {D : Ends} {σ : L2.St} {H : Hp} (h : tv σ H fun v H1 => td σ H1 fun x H2 => ty σ H2 fun y H3 => ∃ a H4, x = .ref a ∧ DPut H3 a y v H4 ∧ D.nx σ H4) : sDPut td ty tv D σ H := h
theorem r_dnew {σ : L2.St} {H : Hp} {Q : VK} (h : ∀ p, H p = none → Q (.ref p) (upd H p (.dT []))) : tDNewT σ H Q := h
end
end Vf

namespace Vf
open PySem PySem.Spec PyProof.Rows L2
section
variable {D : Ends} {σ : L2.St} {H : Hp} {ts : TS}
/-- a statement that leaves the names as they are, and what stood: both ways go on together -/
theorem j_sm (hF : ∀ nx' : L2.St → Hp → Prop, (∀ H', Same H H' → nx' σ H') → ts { D with nx := nx' } σ H) (hQ : ∀ H', Same H H' → D.nx σ H') : ts D σ H :=
  j_s (fun σ' H' => σ' = σ ∧ Same H H') (fun nx' q => hF nx' fun H' s => q σ H' ⟨rfl, s⟩) (fun σ' H' h => by
    obtain ⟨rfl, s⟩ := h
    exact hQ H' s)
theorem j_kx {k : Addr} (hF : ∀ nx' : L2.St → Hp → Prop, (∀ H', Kx k H H' → nx' σ H') → ts { D with nx := nx' } σ H) (hQ : ∀ H', Kx k H H' → D.nx σ H') : ts D σ H :=
  j_s (fun σ' H' => σ' = σ ∧ Kx k H H') (fun nx' q => hF nx' fun H' s => q σ H' ⟨rfl, s⟩) (fun σ' H' h => by
    obtain ⟨rfl, s⟩ := h
    exact hQ H' s)
end
/-- a test that a proof decides both ways with one rest -/
theorem thru {c : Prop} [Decidable c] {A B : Prop} (hB : B) (hA : c → B → A) : if decide c = true then A else B := by
  by_cases h : c
  · rw [if_pos (decide_eq_true h)]
    exact hA h hB
  · rw [if_neg (by simp [h])]
    exact hB
theorem neq_same {s : Str} : (!decide (s = s)) = false := by rw [decide_eq_true rfl]; rfl
section
variable {X : Cx} {K : PySem.W.Frag}
/-- repr of None, a list or a tuple of data -/
def rReprO (K : PySem.W.Frag) : List V → Hp → VK → Prop := fun vs H Q => (vs = [.non] ∧ Q (.str "None") H) ∨ rRepr K vs H Q
theorem cr_reprO (hg : X.A.guards = some []) (hu : X.A.units + 64 < cLine) : CallR X (.builtin "repr") (rReprO X.K) := by
  intro pins s σ H xs us Q I r h
  rcases h with ⟨rfl, q⟩ | h
  · obtain ⟨u, rfl, r1⟩ := Vals.one r
    cases r1
    exact PySem.P.repr_of_none ⟨.str "None", H, I.kept fun _ _ z => z, ⟨_, rfl⟩, q⟩
  · exact cr_repr hg hu pins s σ H xs us Q I r h
theorem c_reprO (e : X.K = K) (hg : X.A.guards = some []) (hu : X.A.units + 64 < cLine) : CallR X (.builtin "repr") (rReprO K) := by subst e; exact cr_reprO hg hu
end
end Vf

namespace Vf
open PySem PySem.Spec PyProof.Rows L2
/-- xs.insert(0, y) -/
def rInsert : V → List V → Hp → VK → Prop := fun x vs H Q => ∃ (l : Addr) (xs : List V) (y : V), x = .ref l ∧ vs = [.int 0, y] ∧ H l = some (.lst xs) ∧ xs.length ≤ 100000 ∧ Q .non (upd H l (.lst (y :: xs)))
theorem mt_ins {X : Cx} : MtR X "list.insert" rInsert := by
  intro pins s σ H x vs v us Q I rx rv h
  obtain ⟨l, xs, y, rfl, rfl, hH, hz, q⟩ := h
  exact mt_insert pins s σ H _ _ v us Q I rx rv ⟨l, xs, 0, y, rfl, rfl, hH, Nat.lt_of_le_of_lt hz (by decide), by decide, by decide, q⟩
theorem r_ins {l : Addr} {xs : List V} {y : V} {H : Hp} {Q : VK} (e : H l = some (.lst xs)) (hz : xs.length ≤ 100000) (h : Q .non (upd H l (.lst (y :: xs)))) : rInsert (.ref l) [.int 0, y] H Q := ⟨l, xs, y, rfl, rfl, e, hz, h⟩
end Vf

namespace Vf
open PySem PySem.Spec PyProof.Rows L2
/-! ## sorted of tuples of ints of any length; membership among data -/
section
variable {X : Cx} {K : PySem.W.Frag}
abbrev leR : List Int → List Int → Bool := PySem.W.dataLe false tupD
def rSortedTs (K : PySem.W.Frag) : List V → Hp → VK → Prop := fun vs H Q => ∃ (a : Addr) (xs : List V) (nss : List (List Int)), vs = [.ref a] ∧ SqL K H a xs ∧ RowsAt K H xs nss ∧ (nss.length ≤ 1 ∨ ∀ ns ∈ nss, ns ≠ []) ∧ nss.length ≤ 100000 ∧
  ∀ ys p, RowsAt K H ys (nss.mergeSort leR) → H p = none → Q (.ref p) (upd H p (.lst ys))
theorem rows_refs {H : Hp} : ∀ {xs : List V} {nss : List (List Int)}, RowsAt K H xs nss → ∀ x ∈ xs, ∃ t, x = V.ref t
  | _, _, .nil, x, h => by cases h
  | _, _, .cons h t, x, hx => by
    rcases List.mem_cons.mp hx with z | z
    · obtain ⟨p, e, _⟩ := h
      exact ⟨p, z.trans e⟩
    · exact rows_refs t x z
theorem rows_zip {H : Hp} : ∀ {xs : List V} {nss : List (List Int)} {its : List Value}, RowsAt K H xs nss → Vals xs its → PySem.W.EachIs (fun v b => v = b.1) its (its.zip nss) ∧ (∀ b ∈ its.zip nss, ∃ p, b.1 = Value.ref p ∧ SqT K H p (b.2.map V.int)) ∧ (its.zip nss).map Prod.snd = nss
  | _, _, _, .nil, .nil => ⟨.nil, (fun b h => nomatch h), rfl⟩
  | _, _, _, .cons h t, .cons r1 r2 => by
    obtain ⟨i1, i2, i3⟩ := rows_zip t r2
    obtain ⟨p, rfl, e⟩ := h
    cases r1
    refine ⟨.cons rfl i1, fun b hb => ?_, by rw [List.zip_cons_cons, List.map_cons, i3]⟩
    rcases List.mem_cons.mp hb with z | z
    · rw [z]
      exact ⟨p, rfl, e⟩
    · exact i2 b z
theorem rows_reads {pins : List (Addr × Obj)} {σ : L2.St} {H : Hp} {s : Shared} (I : Inv X pins σ H s) : ∀ {xs : List V} {nss : List (List Int)} {its : List Value}, RowsAt X.K H xs nss → Vals xs its → PySem.W.EachIs (fun v b => ∃ as, Reads s.heap v (tupD b.2) as) its (its.zip nss)
  | _, _, _, .nil, .nil => .nil
  | _, _, _, .cons h t, .cons r1 r2 => by
    obtain ⟨p, rfl, e⟩ := h
    exact .cons (Dp.reads I _ _ _ (Dp.tupD e) r1) (rows_reads I t r2)
theorem each_fst {bs : List (Value × List Int)} : ∀ {out : List Value}, PySem.W.EachIs (fun v b => v = b.1) out bs → out = bs.map Prod.fst := fun {out} h => by
  induction h with
  | nil => rfl
  | cons h _ ih => rw [h, ih]; rfl
theorem rows_of {H : Hp} : ∀ bs : List (Value × List Int), (∀ b ∈ bs, ∃ p, b.1 = Value.ref p ∧ SqT K H p (b.2.map V.int)) → RowsAt K H ((bs.map Prod.fst).map backV) (bs.map Prod.snd)
  | [], _ => .nil
  | b :: bs, h => by
    obtain ⟨p, e, s⟩ := h b List.mem_cons_self
    exact .cons ⟨p, by rw [e]; rfl, s⟩ (rows_of bs fun c hc => h c (List.mem_cons_of_mem _ hc))
theorem cr_sortedTs (hu : X.A.units + 64 < cLine) : CallR X (.builtin "sorted") (rSortedTs X.K) := by
  intro pins s σ H vs us Q I r h
  obtain ⟨a, xs, nss, rfl, hs, R, hne, hb, q⟩ := h
  obtain ⟨its, rv, hl, hz⟩ := I.list hs
  obtain ⟨u, rfl, ru⟩ := vals1 r
  obtain rfl : u = Value.ref a := ru
  obtain ⟨e1, e2⟩ := refs_back rv (rows_refs R)
  obtain ⟨z1, z2, z3⟩ := rows_zip R rv
  have lz : (its.zip nss).length = nss.length := by rw [← List.length_map (f := Prod.snd), z3]
  have li : its.length = nss.length := by rw [← rv.length]; exact Paired.length R
  have fin : ∀ out : List Value, (∀ u ∈ out, u ∈ its) → out.length = its.length → RowsAt X.K H (out.map backV) (nss.mergeSort leR) → ∀ (h' : Heap) (d : Addr), (∀ b o, s.heap.get? b = some o → h'.get? b = some o) → s.heap.objs.size ≤ d → (∃ n, h'.get? d = some (seqObj "list" out.toArray n)) → EP X pins σ Q (.ref d) { s with heap := h' } := fun out hm hl2 hR h' d kp hd hn => by
    have h3 : ∀ u ∈ out, ∃ a, u = Value.ref a := fun u hu => e2 u (hm u hu)
    obtain ⟨n, hn⟩ := hn
    refine ⟨.ref d, upd H d (.lst (out.map backV)), I.laid (t' := s.toks) kp hd ⟨?_, out, n, vals_back h3, hn⟩, rfl, q _ d hR (I.hok.fresh hd)⟩
    rw [List.length_map, hl2, ← rv.length]
    exact hz
  rcases hne with h1 | hne
  · have O : SrtO.Swo (fun _ _ : Value => false) := ⟨fun _ _ h => (nomatch h), fun _ _ _ _ _ => rfl⟩
    refine SrtO.sorted_ord O hl.isList (by rw [← rv.length]; exact hz) (fun h2 => absurd h2 (by omega)) fun out hs hb => ?_
    have eo : out = its := by
      have hp := hb.perm
      match its, li ▸ h1, hp with
      | [], _, hp => exact List.perm_nil.mp hp
      | [x], _, hp => exact List.perm_singleton.mp hp
      | _ :: _ :: _, h, _ => exact absurd h (by simp)
    subst eo
    refine fin out (fun u h => h) rfl ?_ _ _ (fun b o e => sortedAll_old e) (Nat.le_succ _) (sortedAll_at s.heap out out.toArray)
    rw [← e1, show nss.mergeSort leR = nss by
      match nss, h1 with
      | [], _ => simp
      | [x], _ => simp
      | _ :: _ :: _, h => exact absurd h (by simp)]
    exact R
  · refine PySem.W.sorted_data (bs := its.zip nss) (enc := fun b => tupD b.2) (R := fun v b => v = b.1) hl.isList z1 ?_ ?_ ?_ ?_ ?_ fun out hlen ho => ?_
    · exact rows_reads I R rv
    · exact PySem.W.AllAlike.of fun b b' => by
        show PySem.W.alike (.tuple (b.2.map PyData.int)) (.tuple (b'.2.map PyData.int)) = true
        rw [PySem.W.alike]
        exact PySem.W.alike_ints b.2 b'.2
    · refine .inl fun d hd => ?_
      obtain ⟨b, hb2, rfl⟩ := List.mem_map.mp hd
      have hm : b.2 ∈ nss := by
        rw [← z3]
        exact List.mem_map.mpr ⟨b, hb2, rfl⟩
      have := hne b.2 hm
      cases hh : b.2 with
      | nil => exact absurd hh this
      | cons x r => exact ⟨_, _, rfl⟩
    · rw [lz, ← li, ← rv.length]
      exact hz
    · intro b _
      show X.A.units + 2 + (PyData.depthAll (b.2.map PyData.int) + 1) < cLine
      rw [depthInts]
      omega
    · have eo := each_fst ho
      have pm : ((its.zip nss).mergeSort (PySem.W.dataLe false fun b => tupD b.2)).Perm (its.zip nss) := List.mergeSort_perm ..
      have em : ((its.zip nss).mergeSort (PySem.W.dataLe false fun b => tupD b.2)).map Prod.snd = nss.mergeSort leR := by
        have hh := List.map_mergeSort (f := Prod.snd) (r := PySem.W.dataLe false fun b : Value × List Int => tupD b.2) (s := leR) (l := its.zip nss) fun a _ b _ => rfl
        rw [z3] at hh
        exact hh
      have hR := rows_of (K := X.K) (H := H) _ fun b hb2 => z2 b (pm.mem_iff.mp hb2)
      rw [em, ← eo] at hR
      refine fin out (fun u hu2 => ?_) (by rw [hlen, lz, li]) hR _ _ (fun b o e => sortedAll_old e) (Nat.le_succ _) (sortedAll_at s.heap its out.toArray)
      rw [eo] at hu2
      obtain ⟨b, hb2, rfl⟩ := List.mem_map.mp hu2
      exact (List.of_mem_zip (pm.mem_iff.mp hb2)).1
theorem c_sortedTs (e : X.K = K) (hu : X.A.units + 64 < cLine) : CallR X (.builtin "sorted") (rSortedTs K) := by subst e; exact cr_sortedTs hu
/-! the order of rows -/
theorem leR_le (a b : List Int) : leR a b = decide (a ≤ b) := by
  show (!PySem.W.dataLt (.tuple (b.map PyData.int)) (.tuple (a.map PyData.int))) = _
  rw [PySem.W.dataLt_tuple]
  show (!PySem.W.rowLt (b.map PyData.int) (a.map PyData.int)) = _
  rw [PySem.W.dataLt_ints]
  by_cases h : b < a
  · rw [decide_eq_true h, decide_eq_false (List.not_le.mpr h)]
    rfl
  · rw [decide_eq_false h, decide_eq_true (List.not_lt.mp h)]
    rfl
/-- sorting knows only what there is -/
theorem sort_perm {l m : List (List Int)} (h : l.Perm m) : l.mergeSort leR = m.mergeSort leR := by
  have tr : ∀ a b c : List Int, leR a b = true → leR b c = true → leR a c = true := fun a b c h1 h2 => by
    rw [leR_le] at *
    exact decide_eq_true (List.le_trans (of_decide_eq_true h1) (of_decide_eq_true h2))
  have tot : ∀ a b : List Int, (leR a b || leR b a) = true := fun a b => by
    rw [leR_le, leR_le]
    rcases List.le_total a b with h | h <;> simp [h]
  have p1 := List.pairwise_mergeSort (le := leR) tr tot l
  have p2 := List.pairwise_mergeSort (le := leR) tr tot m
  refine List.Perm.eq_of_pairwise (le := fun a b => leR a b = true) (fun a b _ _ h1 h2 => ?_) p1 p2 (((List.mergeSort_perm l leR).trans h).trans (List.mergeSort_perm m leR).symm)
  rw [leR_le] at h1 h2
  exact List.le_antisymm (of_decide_eq_true h1) (of_decide_eq_true h2)
end
section
variable {X : Cx} {K : PySem.W.Frag}
theorem o_inD (e : X.K = K) (hu : X.A.units + 65 < cLine) : OpR X (compareOp .In) (rInD K) := by subst e; exact op_inD hu
theorem o_notInD (e : X.K = K) (hu : X.A.units + 65 < cLine) : OpR X (compareOp .NotIn) (rNotInD K) := by subst e; exact op_notInD hu
/-- a tuple of ints among tuples of ints -/
theorem any_rows (nss : List (List Int)) (ns : List Int) : ((nss.map tupD).any fun z => PyData.eqv z (tupD ns)) = decide (ns ∈ nss) := by
  induction nss with
  | nil => rfl
  | cons a l ih =>
    rw [List.map_cons, List.any_cons, ih, show PyData.eqv (tupD a) (tupD ns) = decide (a = ns) from eqvInts a ns]
    by_cases h : a = ns
    · simp [h]
    · simp [h, Ne.symm h]
theorem shapedRows (nss : List (List Int)) : SeqAt.shaped (.list (nss.map tupD)) = true := by
  have c : ∀ l : List (List Int), PyData.canLayAll0 (l.map tupD) = true := fun l => by
    induction l with
    | nil => rfl
    | cons a l ih =>
      show ((tupD a).canLay0 && PyData.canLayAll0 (l.map tupD)) = true
      rw [ih, show (tupD a).canLay0 = true from canInts a]
      rfl
  have d : ∀ l : List (List Int), PyData.depthAll (l.map tupD) ≤ 1 := fun l => by
    induction l with
    | nil => exact Nat.zero_le _
    | cons a l ih =>
      show max (PyData.depthAll (a.map PyData.int) + 1) (PyData.depthAll (l.map tupD)) ≤ 1
      rw [depthInts]
      omega
  unfold SeqAt.shaped
  rw [Bool.and_eq_true]
  refine ⟨c nss, decide_eq_true ?_⟩
  show PyData.depthAll (nss.map tupD) + 1 ≤ 64
  have := d nss
  omega
theorem r_notInT {H : Hp} {Q : VK} {x y : Addr} {vs : List V} (ns : List Int) (nss : List (List Int)) (h1 : SqT K H x (ns.map V.int)) (h2 : SqL K H y vs) (R : RowsAt K H vs nss) (h : Q (.bl (!decide (ns ∈ nss))) H) : rNotInD K (.ref x) (.ref y) H Q := by
  refine ⟨tupD ns, nss.map tupD, Dp.tupD h1, .lst h2 R.dp, shapedTup ns, shapedRows nss, ?_⟩
  rw [any_rows]
  exact h
end
end Vf

namespace Vf
open PySem PySem.Spec PyProof.Rows L2
/-! ## tuple(zip(t, u)) of two tuples -/
section
variable {prog : Program} {w : World} {A : Around} {s : Shared} {u TI TO i1 i2 a b : Nat} {xs ys : List Value}
theorem zt_collect {R : List Value → Shared → Prop} {E : Value → Shared → Prop} (hh : A.handled = none) (D : ZipApart u TI TO i1 i2 a b) {i : Nat} (e0 : i = 0) (st : ZTn u TI TO i1 i2 a b i s.heap) (ta : s.heap.IsTuple a xs.toArray) (tb : s.heap.IsTuple b ys.toArray) (hn : min xs.length ys.length ≤ sizeLine)
    (hQ : ∀ h' tk acc c ad, (∀ (d : Nat) o, d ≠ u → d ≠ TO → d ≠ i1 → d ≠ i2 → s.heap.get? d = some o → h'.get? d = some o) → h'.get? s.heap.objs.size = some (lsO acc c) → ad.length = min xs.length ys.length → PrsL s.heap.objs.size xs ys h' ad → acc.toList = ad.map Value.ref → R acc.toList { s with heap := h', toks := tk }) :
    wpAny (model prog w) A (collect (.ref u)) R E s := by
  subst e0
  obtain ⟨⟨f0, f1, p0, p1, zz⟩, ti, ⟨x0, y0, to⟩, t1, t2⟩ := id st
  generalize eS : s.heap.objs.size = S at *
  have lu : u < S := eS ▸ Heap.lt_size zz
  have lI : TI < S := eS ▸ Heap.lt_size ti
  have lO : TO < S := eS ▸ Heap.lt_size to
  have k1 : i1 < S := by
    obtain ⟨_, q, _⟩ := t1
    exact eS ▸ Heap.lt_size q
  have k2 : i2 < S := by
    obtain ⟨_, q, _⟩ := t2
    exact eS ▸ Heap.lt_size q
  have la : a < S := by
    obtain ⟨_, q, _⟩ := ta
    exact eS ▸ Heap.lt_size q
  have lb : b < S := by
    obtain ⟨_, q, _⟩ := tb
    exact eS ▸ Heap.lt_size q
  unfold collect
  refine wpAny_bind (wpAny_runValue (codeAny_builtin entry_proto_collect' ?_))
  rw [Around.under_plainId PySem.F.plain_proto_collect _]
  show wpAny _ A.in1 (newList [] >>= fun l => again (.builtin "list.__iadd__" ⟨[l, .ref u], []⟩)) _ _ s
  refine wpAny_bind (wpAny_newObj_type ?_)
  refine wpAny_pure ⟨plainId_quiet PySem.F.plain_list_iadd _, codeAny_builtin entry_list_iadd' ?_⟩
  rw [Around.under_plainId PySem.F.plain_list_iadd _]
  rw [eS]
  have hS2 : (s.heap.push { cls := .type "list", data := .seq ([] : List Value).toArray }).get? S = some (lsO #[] 0) := eS ▸ Heap.get?_push_size _ rfl
  show wpAny _ _ (Builtin.List.listExtendWith (.ref S) (.ref u) (.ref S)) _ _ _
  have up : ∀ (h : Heap) (f : Obj → Obj), (∀ (d : Nat) o, s.heap.get? d = some o → h.get? d = some o) → ∀ (d : Nat) o, s.heap.get? d = some o → (h.update S f).get? d = some o := fun h f q d o e =>
    (Heap.get?_update_other _ _ (Ne.symm (Nat.ne_of_lt (eS ▸ Heap.lt_size e)))).trans (q d o e)
  have g2 : ∀ (d : Nat) o, s.heap.get? d = some o → (s.heap.push { cls := .type "list", data := .seq ([] : List Value).toArray }).get? d = some o := fun d o e => Heap.get?_push_of_some _ e
  have ty : ∀ {s' : Shared}, (∀ (d : Nat) o, s.heap.get? d = some o → s'.heap.get? d = some o) → s'.TypeIs (.ref u) "zip" := fun q => ⟨_, q _ _ zz, rfl⟩
  unfold Builtin.List.listExtendWith
  refine wpAny_bind (wpAny_typeOf (ty g2) ?_)
  have n1 : Builtin.List.listSameRef (.ref S) (.ref u) = false := by simp only [Builtin.List.listSameRef]; exact beq_false_of_ne (Nat.ne_of_gt lu)
  have n2 : (Value.type "zip" == Value.type "list") = false := by decide
  have n3 : (Value.type "zip" == Value.type "tuple") = false := by decide
  simp only [n1, n2, n3, Bool.or_false, Bool.false_eq_true, if_false]
  refine wpAny_bind (z_iter (f0 := f0) (f1 := f1) (TI := TI) (TO := TO) (g2 _ _ zz) ?_)
  refine wpAny_bind (wpAny_holding ?_)
  unfold Builtin.List.listLengthHint
  refine wpAny_bind (wpAny_specialOf (ty g2) zip_len0 ?_)
  show wpAny _ _ (specialOf (Value.ref u) (Str.ofString "__length_hint__") >>= _) _ _ _
  refine wpAny_bind (wpAny_specialOf (ty g2) zip_hint0 ?_)
  refine wpAny_pure ?_
  show wpAny _ _ (rule "list.extend.makes-room" >>= fun _ => Builtin.List.listTouch (.ref S) >>= fun _ => again (.builtin "list.extend.loop" ⟨[.ref S, .ref u, .ref S], []⟩)) _ _ _
  refine wpAny_bind (wpAny_rule ?_)
  refine wpAny_bind ?_
  show wpAny _ _ (updateSeq S (·.push .none) >>= fun _ => updateSeq S (·.pop)) _ _ _
  refine wpAny_bind (wpAny_updateSeq hS2 rfl ?_)
  have hS3 := Heap.get?_update_self (Obj.mapSeq (·.push Value.none)) hS2 rfl
  refine wpAny_updateSeq (hz := by seq_fits) hS3 rfl ?_
  have hS4 := Heap.get?_update_self (Obj.mapSeq (·.pop)) hS3 rfl
  have g4 := up _ (Obj.mapSeq (·.pop)) (up _ (Obj.mapSeq (·.push Value.none)) g2)
  refine wpAny_pure ⟨plainId_quiet PySem.F.plain_extend_loop _, ?_⟩
  refine zl_loop (s := s) (h₁ := s.heap) (A := A) hh D lu lI lO k1 k2 la lb (.ref S) rfl hn (fun h' tk acc c ad kp e1 e2 e3 e4 => ?_)
    _ 0 _ _ _ #[] [] rfl (Nat.zero_le _) (ZTn.stay st fun d o _ e => g4 d o e) (ta.at fun o e => g4 a o e) (tb.at fun o e => g4 b o e) (fun d o _ _ _ _ _ e => g4 d o e) hS4 rfl rfl ⟨List.Pairwise.nil, (fun _ z => nomatch z), (fun j p z => by simp at z)⟩
  show wpAny _ A (load S >>= _) _ _ _
  refine wpAny_bind (wpAny_load e1 ?_)
  exact wpAny_pure (hQ h' tk acc c ad (fun d o c1 c2 c3 c4 e => kp d o (eS ▸ Heap.lt_size e) c1 c2 c3 c4 e) e1 e2 e3 e4)
theorem zt_code {Q₁ : Value → Shared → Prop} {E : Value → Shared → Prop} (hh : A.handled = none) (D : ZipApart u TI TO i1 i2 a b) (st : ZTn u TI TO i1 i2 a b 0 s.heap) (ta : s.heap.IsTuple a xs.toArray) (tb : s.heap.IsTuple b ys.toArray) (hn : min xs.length ys.length ≤ sizeLine)
    (h : ∀ h' tk acc c ad, (∀ (d : Nat) o, d ≠ u → d ≠ TO → d ≠ i1 → d ≠ i2 → s.heap.get? d = some o → h'.get? d = some o) → h'.get? s.heap.objs.size = some (lsO acc c) → ad.length = min xs.length ys.length → PrsL s.heap.objs.size xs ys h' ad → acc.toList = ad.map Value.ref →
      Q₁ (.ref h'.objs.size) { s with heap := h'.push { cls := .type "tuple", data := .seq acc }, toks := tk }) :
    codeAny (model prog w) A (.call (.builtin "tuple.__new__") ⟨[.type "tuple", .ref u], []⟩) (wants Q₁ E) s := by
  refine codeAny_of_tree ?_
  show wpAny _ A.in1 (do checkBuiltinCall "tuple.__new__" ⟨[.type "tuple", .ref u], []⟩; again (.builtin "tuple.__new__" ⟨[.type "tuple", .ref u], []⟩)) _ _ s
  refine wpAny_bind (wpAny_of_eq (F.newCall_tuple_1 _) (wpAny_pure ⟨plainId_quiet F.plain_tuple_new _, codeAny_builtin F.entry_tuple_new ?_⟩))
  rw [Around.under_plainId F.plain_tuple_new _]
  have hsub := sub_tuple_self
  have hinit := init_tuple_lookup
  have hmh := madeHere_tuple
  obtain ⟨⟨f0, f1, p0, p1, zz⟩, _⟩ := id st
  have hTI : s.TypeIs (.ref u) "zip" := ⟨_, zz, rfl⟩
  wp_walk using wpAny_typeOf hTI, zt_collect (A := A.in1) (xs := xs) (ys := ys) hh D rfl st ta tb hn
  intro h' tk acc c ad kp e1 e2 e3 e4
  show wpAny _ _ (Builtin.Tuple.tupleExact acc.toList.toArray >>= fun v => ret v) _ _ _
  unfold Builtin.Tuple.tupleExact
  refine wpAny_bind (wpAny_newObj_type ?_ (by show acc.toList.toArray.size ≤ sizeLine; simp only [Array.toArray_toList]; rw [← Array.length_toList, e4, List.length_map, e2]; exact hn))
  refine wpAny_pure ?_
  have e : acc.toList.toArray = acc := by simp
  rw [e]
  exact h h' tk acc c ad kp e1 e2 e3 e4
theorem zt_call {E : Value → Shared → Prop} {Q : Value → Shared → Prop} (hh : A.handled = none) (D : ZipApart u TI TO i1 i2 a b) (st : ZTn u TI TO i1 i2 a b 0 s.heap) (ta : s.heap.IsTuple a xs.toArray) (tb : s.heap.IsTuple b ys.toArray) (hn : min xs.length ys.length ≤ sizeLine)
    (hQ : ∀ h' tk acc c ad, (∀ (d : Nat) o, d ≠ u → d ≠ TO → d ≠ i1 → d ≠ i2 → s.heap.get? d = some o → h'.get? d = some o) → h'.get? s.heap.objs.size = some (lsO acc c) → ad.length = min xs.length ys.length → PrsL s.heap.objs.size xs ys h' ad → acc.toList = ad.map Value.ref →
      Q (.ref h'.objs.size) { s with heap := h'.push { cls := .type "tuple", data := .seq acc }, toks := tk }) :
    wpAny (model prog w) A (call (.type "tuple") [.ref u]) Q E s := by
  refine callType_codes (Q₁ := fun obj s₁ => s₁.TypeIs obj "tuple" ∧ Q obj s₁) F.called_tuple (F.typeCall_tuple_1 _) F.entry_object_init
    (zt_code (A := A.in1) hh D st ta tb hn fun h' tk acc c ad kp e1 e2 e3 e4 => ⟨⟨_, Heap.get?_push_size _ rfl, rfl⟩, hQ h' tk acc c ad kp e1 e2 e3 e4⟩) fun obj s₁ h₁ => ?_
  exact ⟨h₁.1, F.args_object_init_2 obj _, object_init_meets F.called_tuple.init.lookup F.called_tuple.made (by decide) prog w A.in1 _ s₁ ⟨h₁.1, rfl, h₁.2⟩⟩
end
/-- what a walk laid, and the tuple of it -/
def tzH (H : Hp) (sz l : Nat) (ad : List Nat) (xs ys : List V) : Hp := fun q => if q < sz then H q else if q = l then some (.tup (ad.map V.ref)) else tblP ad xs ys q
/-- tuple(zip(t, u)) -/
def tTupZip (K : PySem.W.Frag) (ta : TA) : TE := fun σ H Q => ta σ H fun vs H1 => ∃ a b xs ys, vs = [.ref a, .ref b] ∧ SqT K H1 a xs ∧ SqT K H1 b ys ∧
  ∀ (l : Nat) (ad : List Nat) H2, Same H1 H2 → H1 l = none → H2 l = some (.tup (ad.map V.ref)) → ad.length = min xs.length ys.length → (∀ (j : Nat) (p : Nat) (x y : V), ad[j]? = some p → xs[j]? = some x → ys[j]? = some y → H1 p = none ∧ H2 p = some (.tup [x, y])) → Q (.ref l) H2
theorem pe_tupZip {X : Cx} {K : PySem.W.Frag} {e e2 : Expr} {ta : TA} {p p2 pos2 pos : Pos} (ek : X.K = K) (hc : X.calm = true) (hg : Gl X "zip") (hm : X.mg "zip" = none) (hg2 : Gl X "tuple") (hm2 : X.mg "tuple" = none) (ha : PA X [e, e2] ta)
    (hs : starEach [e, e2] X.env = (false, eval e X.env) :: starEach [e2] X.env := by rfl) (hp : (backTo pos2 (starEach [e2] X.env)).any (·.1) = false := by rfl)
    (na : starEach [.Call (.Name "zip" p2) [e, e2] [] pos2] X.env = (false, eval (.Call (.Name "zip" p2) [e, e2] [] pos2) X.env) :: starEach [] X.env := by rfl) :
    PE X (.Call (.Name "tuple" p) [.Call (.Name "zip" p2) [e, e2] [] pos2] [] pos) (tTupZip K ta) := by
  subst ek
  refine ⟨fun pins s σ H Q I h => ?_⟩
  refine Call_ (ld_blt I hg2 hm2 PyProof.Rows.boot_tuple ?_)
  refine PyProof.Rows.callWith_type1 (PyProof.Rows.args_cons ?_ na) na rfl
  refine Call_ (ld_blt I hg hm PyProof.Rows.boot_zip (PyProof.Rows.callWith_type1 (thn (ha.run pos2 pins s σ H _ I h) fun us s1 ⟨vs, H1, I1, r1, q1⟩ => ?_) hs hp))
  obtain ⟨a, b, xs, ys, rfl, qx, qy, q⟩ := q1
  obtain ⟨ua, ub, rfl, ra, rb⟩ : ∃ ua ub, us = [ua, ub] ∧ RelV (.ref a) ua ∧ RelV (.ref b) ub := by
    cases r1 with
    | cons r rr =>
      cases rr with
      | cons r' rr =>
        cases rr
        exact ⟨_, _, rfl, r, r'⟩
  cases ra
  cases rb
  obtain ⟨its, rv, tp, hz1⟩ := I1.tuple qx
  obtain ⟨its2, rv2, tp2, hz2⟩ := I1.tuple qy
  have hB : ∀ B d : Nat, d < B → d ≠ B + 4 ∧ d ≠ B + 3 ∧ d ≠ B ∧ d ≠ B + 1 := fun B d h => by omega
  have le1 := rv.length
  have le2 := rv2.length
  have la : a < s1.heap.objs.size := tp.lt
  have lb : b < s1.heap.objs.size := tp2.lt
  refine RZ.call_zipT tp tp2 fun m hz hTI hTO n1 n2 hsz hk => ?_
  refine PyProof.Rows.args_nil ?_
  have D := PySem.W.ktu_apart s1.heap.objs.size a b la lb
  have st : ZTn (s1.heap.objs.size + 4) (s1.heap.objs.size + 2) (s1.heap.objs.size + 3) s1.heap.objs.size (s1.heap.objs.size + 1) a b 0 m := ⟨⟨.none, .bool false, .inl rfl, ⟨false, rfl⟩, hz⟩, hTI, ⟨_, _, hTO⟩, n1, n2⟩
  refine zt_call (s := { s1 with heap := m }) (xs := its) (ys := its2) (I1.ok.hd hc) D st (let ⟨o, z, r⟩ := tp; ⟨o, hk _ _ z, r⟩) (let ⟨o, z, r⟩ := tp2; ⟨o, hk _ _ z, r⟩) (Nat.le_trans (Nat.min_le_left _ _) (le1 ▸ hz1)) fun h' tk acc c ad kp hl el G ea => ?_
  dsimp only at kp hl G ⊢
  rw [← le1, ← le2] at el
  have sS : m.objs.size = s1.heap.objs.size + 5 := hsz
  have G2 := G.prs
  have big := G.big
  have ltS : ∀ {p : Nat}, p ∈ ad → s1.heap.objs.size ≤ p ∧ p < h'.objs.size := fun hp => by
    have := big _ hp
    exact ⟨by omega, G.lt hp⟩
  have S0 : s1.heap.objs.size ≤ h'.objs.size := by
    have : m.objs.size < h'.objs.size := Heap.lt_size hl
    omega
  have I2 : Inv X pins σ (tzH H1 s1.heap.objs.size h'.objs.size ad xs ys) { s1 with heap := h'.push { cls := .type "tuple", data := .seq acc }, toks := tk } := by
    refine laidN I1 (fun d o w => let z := hB _ d (Heap.lt_size w); Heap.get?_push_of_some _ (kp d o z.1 z.2.1 z.2.2.1 z.2.2.2 (hk d o w))) (fun d hd => if_pos hd) fun d o hd ho => ?_
    unfold tzH at ho
    rw [if_neg (Nat.not_lt.mpr hd)] at ho
    by_cases c2 : d = h'.objs.size
    · subst c2
      rw [if_pos rfl] at ho
      cases ho
      refine ⟨?_, ad.map Value.ref, Vals_refs ad, ?_⟩
      · rw [List.length_map, el]
        omega
      · rw [← ea]
        have := IsTup.new h' acc.toList.toArray
        simp only [Array.toArray_toList] at this ⊢
        exact this
    · rw [if_neg c2] at ho
      obtain ⟨j, x, y, e1, e3, e4, rfl⟩ := tblP_some ho
      obtain ⟨x', y', f1, f2, f3⟩ := G2 j d e1
      obtain ⟨v1, g1, w1⟩ := rv.get e3
      obtain ⟨v2, g2, w2⟩ := rv2.get e4
      rw [f1] at g1
      rw [f2] at g2
      cases g1
      cases g2
      exact ⟨by show 2 ≤ sizeLine; decide, [x', y'], .cons w1 (.cons w2 .nil), ⟨_, Heap.get?_push_of_some _ f3, rfl, _, rfl⟩⟩
  have fr : ∀ {d : Nat}, s1.heap.objs.size ≤ d → H1 d = none := fun hd => I1.hok.fresh hd
  refine ⟨.ref h'.objs.size, _, I2, rfl, q h'.objs.size ad _ (fun d o w => ?_) (fr S0) ?_ el fun j p x y e1 e3 e4 => ?_⟩
  · unfold tzH
    rw [if_pos (I1.hok.lt w)]
    exact w
  · unfold tzH
    rw [if_neg (Nat.not_lt.mpr S0), if_pos rfl]
  · have hp := ltS (List.mem_of_getElem? e1)
    refine ⟨fr hp.1, ?_⟩
    unfold tzH
    rw [if_neg (Nat.not_lt.mpr hp.1), if_neg (fun z => Nat.ne_of_lt hp.2 z)]
    exact tblP_at G.inc e1 e3 e4
theorem r_tupZip {K : PySem.W.Frag} {ta : TA} {σ : L2.St} {H : Hp} {Q : VK} (h : ta σ H fun vs H1 => ∃ a b xs ys, vs = [.ref a, .ref b] ∧ SqT K H1 a xs ∧ SqT K H1 b ys ∧
  ∀ (l : Nat) (ad : List Nat) H2, Same H1 H2 → H1 l = none → H2 l = some (.tup (ad.map V.ref)) → ad.length = min xs.length ys.length → (∀ (j : Nat) (p : Nat) (x y : V), ad[j]? = some p → xs[j]? = some x → ys[j]? = some y → H1 p = none ∧ H2 p = some (.tup [x, y])) → Q (.ref l) H2) : tTupZip K ta σ H Q := h
/-! ## two walks in one comprehension: a list, and a range with a step -/
theorem inn_rangeC {D : Addr} {g1 : TG} {tt1 : TT} {te : TE} {vs1 : List Nat} {σ2 : L2.St} {H4 : Hp} {Nx : Hp → Prop} {lo c : Int} {n : Nat} (Pv : Nat → Hp → Prop) (h0 : Pv 0 H4)
    (hs : ∀ j H, j < n → Pv j H → g1 (.int (lo + (j : Nat) * c)) (wipe σ2 vs1) H fun σ3 H5 => wipe σ3 vs1 = wipe σ2 vs1 ∧ tt1 σ3 H5 fun b H6 =>
        if b = true then te σ3 H6 fun y H7 => ∃ acc, H7 D = some (.lst acc) ∧ acc.length < sizeLine ∧ Pv (j + 1) (upd H7 D (.lst (acc ++ [y]))) else Pv (j + 1) H6)
    (hd : ∀ H, Pv n H → Nx H) : Inn D (Itc lo c n) g1 tt1 te vs1 σ2 H4 Nx := by
  refine ⟨fun i m H => m = n - i ∧ i ≤ n ∧ Pv i H, ⟨n, by omega, Nat.zero_le _, h0⟩, ?_⟩
  rintro i m H ⟨rfl, hi, p⟩
  by_cases lt : i < n
  · refine Or.inr ⟨lt, Pv (i + 1), fun H' p' => ⟨n - (i + 1), by omega, rfl, lt, p'⟩, fun x H' y => ?_⟩
    obtain ⟨e, y⟩ := y
    subst e y
    exact hs i _ lt p
  · have e : i = n := by omega
    subst e
    exact Or.inl ⟨Nat.le_refl _, hd H p⟩
section
variable {K : PySem.W.Frag} {σ : L2.St} {H : Hp} {Q : VK} {g g1 : TG} {tt tt1 : TT} {te : TE} {vs vs1 : List Nat} {wi1 : TI}
theorem r_lc2Li {tl : TE} (h : tl σ H fun x H1 => ∃ a, x = .ref a ∧ (∃ xs, SqL K H1 a xs) ∧ tLc2 (fun _ H2 R => R (Itl K a) H2) g tt wi1 g1 tt1 te vs vs1 σ H1 Q) : tLc2 (iList K tl) g tt wi1 g1 tt1 te vs vs1 σ H Q := h
theorem r_lc2L {a : Addr} (xs : List V) (Pv : Addr → Nat → Hp → Prop) (h0 : ∀ D, H D = none → Pv D 0 (upd H D (.lst []))) (hl : ∀ D i H', H D = none → i ≤ xs.length → Pv D i H' → SqL K H' a xs)
    (hs : ∀ D i x H', H D = none → xs[i]? = some x → Pv D i H' → g x (wipe σ vs) H' fun σ2 H2 => wipe σ2 vs = wipe σ vs ∧ tt σ2 H2 fun b H3 =>
      if b = true then wi1 σ2 H3 fun J1 H4 => Inn D J1 g1 tt1 te vs1 σ2 H4 (Pv D (i + 1)) else Pv D (i + 1) H3)
    (hd : ∀ D H', H D = none → Pv D xs.length H' → Q (.ref D) H') : tLc2 (fun _ H2 R => R (Itl K a) H2) g tt wi1 g1 tt1 te vs vs1 σ H Q := by
  refine fun D hD => ⟨fun i m H => m = xs.length - i ∧ i ≤ xs.length ∧ Pv D i H, ⟨xs.length, by omega, Nat.zero_le _, h0 D hD⟩, ?_⟩
  rintro i m H' ⟨rfl, hi, p⟩
  have q := hl D i H' hD hi p
  by_cases lt : i < xs.length
  · refine Or.inr ⟨⟨xs, xs[i], q, by simp [lt]⟩, Pv D (i + 1), fun H' p' => ⟨xs.length - (i + 1), by omega, rfl, lt, p'⟩, fun x H'' y => ?_⟩
    obtain ⟨e, f⟩ := y
    subst e
    have := f xs q
    exact hs D i x H'' hD this p
  · have e : i = xs.length := by omega
    subst e
    exact Or.inl ⟨⟨xs, q, Nat.le_refl _⟩, hd D H' hD p⟩
theorem r_w3 {ta : TA} {R : It → Hp → Prop} (h : ta σ H fun vs H1 => ∃ (i j c : Int) (n : Nat), vs = [.int i, .int j, .int c] ∧ RgC i j c n ∧ R (Itc i c n) H1) : iRng3 ta σ H R := h
end
end Vf
namespace Vf
open PySem PySem.Spec PyProof.Rows L2
theorem r_sortedI {K : PySem.W.Frag} {H : Hp} {Q : VK} {a : Addr} (ns : List Int) (h1 : SqL K H a (ns.map V.int)) (h : ∀ (ns' : List Int) (p : Addr), ns'.Perm ns → ns'.Pairwise (· ≤ ·) → H p = none → Q (.ref p) (upd H p (.lst (ns'.map V.int)))) : rSortedI K [.ref a] H Q := ⟨a, ns, rfl, h1, h⟩
end Vf

namespace Vf
open PySem PySem.Spec PyProof.Rows L2
/-! ## zip of two lists in a comprehension -/
section
variable {K : PySem.W.Frag} {σ : L2.St} {H : Hp} {Q : VK} {g : TG} {tt : TT} {te : TE} {vs : List Nat}
theorem r_lcZli {ta : TA} (h : ta σ H fun ws H1 => ∃ a b xs ys, ws = [.ref a, .ref b] ∧ SqL K H1 a xs ∧ SqL K H1 b ys ∧ tLc (fun _ H2 R => R (Itz K a b) H2) g tt te vs σ H1 Q) : tLc (iZip K ta) g tt te vs σ H Q := h
theorem r_lcZl {a b : Addr} (xs ys : List V) (n : Nat) (nx : xs.length = n) (ny : ys.length = n) (Pv : Addr → Nat → Hp → Prop) (h0 : ∀ D, H D = none → Pv D 0 (upd H D (.lst [])))
    (hl : ∀ D i H', H D = none → i ≤ n → Pv D i H' → SqL K H' a xs ∧ SqL K H' b ys)
    (hs : ∀ D i x y H' T, H D = none → xs[i]? = some x → ys[i]? = some y → Pv D i H' → H' T = none → g (.ref T) (wipe σ vs) (upd H' T (.tup [x, y])) fun σ2 H2 => wipe σ2 vs = wipe σ vs ∧ tt σ2 H2 fun b H3 =>
      if b = true then te σ2 H3 fun y H4 => ∃ acc, H4 D = some (.lst acc) ∧ acc.length < sizeLine ∧ Pv D (i + 1) (upd H4 D (.lst (acc ++ [y]))) else Pv D (i + 1) H3)
    (hd : ∀ D H', H D = none → Pv D n H' → Q (.ref D) H') : tLc (fun _ H2 R => R (Itz K a b) H2) g tt te vs σ H Q := by
  refine fun D hD => ⟨fun i m H => m = n - i ∧ i ≤ n ∧ Pv D i H, ⟨n, by omega, Nat.zero_le _, h0 D hD⟩, ?_⟩
  rintro i m H' ⟨rfl, hi, p⟩
  obtain ⟨qx, qy⟩ := hl D i H' hD hi p
  by_cases lt : i < n
  · have ix : i < xs.length := by omega
    have iy : i < ys.length := by omega
    refine Or.inr ⟨⟨xs, ys, xs[i], ys[i], qx, qy, by simp [ix], by simp [iy]⟩, Pv D (i + 1), fun H' p' => ⟨n - (i + 1), by omega, rfl, lt, p'⟩, fun v H'' yy => ?_⟩
    obtain ⟨T, x, y, rfl, nT, rfl, f1, f2⟩ := yy
    exact hs D i x y H' T hD (f1 xs qx) (f2 ys qy) p nT
  · have e : i = n := by omega
    subst e
    exact Or.inl ⟨⟨xs, ys, qx, qy, .inl (by omega)⟩, hd D H' hD p⟩
end
/-- the truth of a value, told by K alone: for the tests of comprehensions -/
theorem pt_truK {X : Cx} {K : PySem.W.Frag} {a : Expr} {ta : TE} (e : X.K = K) (ha : PE X a ta) (he : ∀ whole, isTrue a X.env whole = (do let v ← whole; standAt a.pos; holding [v] (truthy v))) :
    PT X a (fun σ H Q => ta σ H fun x H' => ∃ k, TruV K x H' k ∧ Q k H') := by
  subst e
  exact pt_truth ha he
end Vf

namespace Vf
open PySem PySem.Spec PyProof.Rows L2
/-! ## any of a tuple of ints -/
theorem iter_anyT {prog : Program} {w : World} {A : Around} {E : Value → Shared → Prop} {s : Shared} {l : Addr} {items : Array Value} {Q : Value → Shared → Prop} (hl : s.heap.IsTuple l items)
    (h : ∀ s₂ : Shared, s₂ = { s with heap := s.heap.push { cls := .type "tuple_iterator", data := .fields #[.ref l, .int 0 0] } } →
      (s₂.heap.IsTupleIter s.heap.objs.size l 0 ∧ s₂.heap.IsTuple l items) → l ≠ s.heap.objs.size → Q (.ref s.heap.objs.size) s₂) : wpAny (model prog w) A (pyIter (.ref l)) Q E s := by
  have hlt : l < s.heap.objs.size := by obtain ⟨_, e, _⟩ := hl; exact Heap.lt_size e
  exact wpAny_pyIter_tuple hl (h _ rfl ⟨⟨_, Heap.get?_push_size _ rfl, rfl, rfl⟩, hl.push _⟩ (Nat.ne_of_lt hlt))
theorem truth_ints {prog : Program} {w : World} {A : Around} {ns : List Int} {its : List Value} (r : Vals (ns.map V.int) its) :
    TruthOf prog w A (fun i v => its.toArray[i]? = some v) (fun i => ns.getD i 0 != 0) := fun i v s Q E hv hq => by
  have hv' : its[i]? = some v := by simpa using hv
  have il := (List.getElem?_eq_some_iff.mp hv').1
  have le := r.length
  rw [List.length_map] at le
  have en : ns[i]? = some (ns[i]'(by omega)) := List.getElem?_eq_getElem (by omega)
  obtain ⟨v2, e2, rel⟩ := r.get (i := i) (x := .int (ns[i]'(by omega))) (by rw [List.getElem?_map, en]; rfl)
  rw [hv'] at e2
  cases e2
  obtain ⟨t, rfl⟩ := rel
  have hg : ns.getD i 0 = ns[i]'(by omega) := by rw [List.getD_eq_getElem?_getD, en] <;> rfl
  have hq' : Q (ns.getD i 0 != 0) s := hq
  rw [hg] at hq'
  exact PySem.P.truthy_int hq'
theorem any_rangeI : ∀ ns : List Int, (List.range ns.length).any (fun i => ns.getD i 0 != 0) = ns.any (· != 0)
  | [] => rfl
  | b :: bs => by
    rw [List.length_cons, List.range_succ_eq_map, List.any_cons, List.any_map, List.any_cons, ← any_rangeI bs]
    all_goals rfl
def rAnyT (K : PySem.W.Frag) : List V → Hp → VK → Prop := fun vs H Q => ∃ (a : Addr) (ns : List Int), vs = [V.ref a] ∧ SqT K H a (ns.map V.int) ∧ Q (.bl (ns.any (· != 0))) H
section
variable {X : Cx} {K : PySem.W.Frag}
theorem cr_anyT (hc : X.calm = true) : CallR X (.builtin "any") (rAnyT X.K) := by
  intro pins s σ H vs us Q I r h
  obtain ⟨a, ns, rfl, hs, q⟩ := h
  obtain ⟨its, rv, hl, _⟩ := I.tuple hs
  rw [Vals.ref1 r]
  refine call_any_walk (iter_anyT hl fun s₂ e2 st hne => ?_)
  subst e2
  refine ⟨_, _, _, _, _, _, _, rfl, Walks.tuple (A := X.A.in1) (I.ok.hd hc) _ a hne its.toArray, st, truth_ints rv, fun h' tk hk => ?_⟩
  refine ⟨.bl _, H, I.kept fun b o eo => hk b o (fun hmem => ?_) (Heap.get?_push_of_some _ eo), ?_, q⟩
  · rcases List.mem_cons.mp hmem with e1 | hmem
    · exact absurd (e1 ▸ Heap.lt_size eo) (Nat.lt_irrefl _)
    · cases hmem
  · show Value.bool _ = Value.bool _
    rw [← any_rangeI, List.size_toArray, ← rv.length, List.length_map]
theorem c_anyT (e : X.K = K) (hc : X.calm = true) : CallR X (.builtin "any") (rAnyT K) := by subst e; exact cr_anyT hc
end
theorem r_anyT {K : PySem.W.Frag} {H : Hp} {Q : VK} {a : Addr} (ns : List Int) (hs : SqT K H a (ns.map V.int)) (h : Q (.bl (ns.any (· != 0))) H) : rAnyT K [.ref a] H Q := ⟨a, ns, rfl, hs, h⟩
/-! ## two walks in one comprehension: two lists -/
theorem inn_list {K : PySem.W.Frag} {D : Addr} {g1 : TG} {tt1 : TT} {te : TE} {vs1 : List Nat} {σ2 : L2.St} {H4 : Hp} {Nx : Hp → Prop} {a : Addr} (xs : List V) (Pv : Nat → Hp → Prop) (h0 : Pv 0 H4)
    (hl : ∀ j H, j ≤ xs.length → Pv j H → SqL K H a xs)
    (hs : ∀ j x H, xs[j]? = some x → Pv j H → g1 x (wipe σ2 vs1) H fun σ3 H5 => wipe σ3 vs1 = wipe σ2 vs1 ∧ tt1 σ3 H5 fun b H6 =>
        if b = true then te σ3 H6 fun y H7 => ∃ acc, H7 D = some (.lst acc) ∧ acc.length < sizeLine ∧ Pv (j + 1) (upd H7 D (.lst (acc ++ [y]))) else Pv (j + 1) H6)
    (hd : ∀ H, Pv xs.length H → Nx H) : Inn D (Itl K a) g1 tt1 te vs1 σ2 H4 Nx := by
  refine ⟨fun i m H => m = xs.length - i ∧ i ≤ xs.length ∧ Pv i H, ⟨xs.length, by omega, Nat.zero_le _, h0⟩, ?_⟩
  rintro i m H ⟨rfl, hi, p⟩
  have q := hl i H hi p
  by_cases lt : i < xs.length
  · refine Or.inr ⟨⟨xs, xs[i], q, by simp [lt]⟩, Pv (i + 1), fun H' p' => ⟨xs.length - (i + 1), by omega, rfl, lt, p'⟩, fun x H' y => ?_⟩
    obtain ⟨e, f⟩ := y
    subst e
    exact hs i x H' (f xs q) p
  · have e : i = xs.length := by omega
    subst e
    exact Or.inl ⟨⟨xs, q, Nat.le_refl _⟩, hd H p⟩
theorem r_wL {K : PySem.W.Frag} {σ : L2.St} {H : Hp} {tl : TE} {R : It → Hp → Prop} (h : tl σ H fun x H1 => ∃ a, x = .ref a ∧ (∃ xs, SqL K H1 a xs) ∧ R (Itl K a) H1) : iList K tl σ H R := h
end Vf

namespace Vf
open PySem PySem.Spec PyProof.Rows L2
/-! ## sorted of a dict's keys: ints, pairs of ints -/
section
variable {X : Cx} {K : PySem.W.Frag}
/-- sorted(d), keys ints, any number of them -/
def rSortedDK : List V → Hp → VK → Prop := fun xs H Q => ∃ (a : Addr) (kvs : List (Key × V)) (ks : List Int), xs = [.ref a] ∧ Rd H a (.dK kvs) ∧ kvs.map (·.1) = ks.map Sum.inl ∧
  ∀ (ys : List Int) (p : Addr), ys.Perm ks → ys.Pairwise (· ≤ ·) → H p = none → Q (.ref p) (upd H p (.lst (ys.map V.int)))
theorem cr_sortedDK (hcalm : X.calm = true) : CallR X (.builtin "sorted") rSortedDK := by
  intro pins s σ H xs us Q I r q
  obtain ⟨a, kvs, ks, ex, hd, hks, q⟩ := q
  subst ex
  obtain ⟨u, eu, rx⟩ := vals1 r
  subst eu
  cases rx
  obtain ⟨z, lo, vs, rel, dd⟩ := dk_rd I.hok hd
  obtain ⟨ep, hat⟩ := dd.dictAt
  have hkeys : vs.map (·.1) = ks.map Sum.inl := rel.keys.symm.trans hks
  have hl : vs.length = ks.length := by
    have e := congrArg List.length hkeys
    rw [List.length_map, List.length_map] at e
    exact e
  have h16 : vs.length ≤ sizeLine := by rw [← rel.length]; exact z
  refine Calls.call_function_entry PyProof.Rows.kind_sorted PyProof.Rows.plain_sorted PyProof.Rows.entry_sorted (PyProof.Rows.args_sorted1 _) ?_
  unfold Builtin.«sorted»
  refine wpAny_bind (m := checkCount "sorted" 1 1 _) (wpAny_pure ?_)
  refine wpAny_bind (PySem.W.kdu_collect (A := X.A.in1) (PySem.W.kdl_dict (knd := mixKind X.prog X.w) (kvs := vs) (ep := ep) lo) (I.ok.hd hcalm) hat h16 fun h' tk acc hk hacc => ?_)
  have hal : acc.toList.length = ks.length := by rw [Array.length_toList, hacc.1, hl]
  have hS : IntsAre acc.toList ks := ints_each hal fun j v e => by
    obtain ⟨k, x, e1, e2⟩ := hacc.2 j v (by rw [← Array.getElem?_toList]; exact e)
    have e3 : (vs.map (·.1))[j]? = some k := by rw [List.getElem?_map, e1]; rfl
    rw [hkeys, List.getElem?_map] at e3
    cases e4 : ks[j]? with
    | none => rw [e4] at e3; cases e3
    | some y =>
      rw [e4] at e3
      have e5 : Sum.inl y = k := Option.some.inj e3
      subst e5
      rcases keyIs_shape (show keyIs (Sum.inl y) v = true from e2) with ⟨i, t, ek, ev⟩ | ⟨z, t, ek, ev⟩
      · cases ek
        exact ⟨y, t, rfl, ev⟩
      · cases ek
  have I1 : Inv X pins σ H { s with heap := h', toks := tk } := I.kept hk
  have hz : acc.toList.length ≤ sizeLine := by rw [hal, ← hl]; exact h16
  refine wpAny_bind (wpAny_newList ?_ hz)
  have hoL : (h'.push (seqObj "list" acc.toList.toArray 0)).get? h'.objs.size = some (seqObj "list" acc.toList.toArray 0) := Heap.get?_push_size _ rfl
  show wpAny _ _ _ _ _ { s with heap := h'.push (seqObj "list" acc.toList.toArray 0), toks := tk }
  refine wpAny_bind (wpAny_holding (wpAny_call_entry PyProof.Rows.slot_list_sort ⟨_, hoL, rfl⟩ PyProof.Rows.entry_list_sort
    (SrtO.list_sort_ord (s := { s with heap := h'.push (seqObj "list" acc.toList.toArray 0), toks := tk }) SrtO.swo_int hoL hz (fun h2 => SrtO.ints_sortable hS h2) fun out g1 g2 => ⟨_, rfl, ?_⟩) (PyProof.Rows.args_list_sort _)))
  obtain ⟨k1, k2, k3⟩ := SrtO.ints_out hS g1 g2
  obtain ⟨e', he'⟩ := PyProof.Rows.sortedHeap_at (vs := acc.toList) (out := out.toArray) hoL
  have hlen : ((out.map SrtO.iv).map V.int).length ≤ sizeLine := by
    rw [List.length_map, k2.length_eq, ← hl]
    exact h16
  refine wpAny_pure ⟨_, rfl, .ref h'.objs.size, upd H h'.objs.size (.lst ((out.map SrtO.iv).map V.int)), I1.laid (t' := tk) (fun b u e => ?_) (Nat.le_refl _)
    (show ObjOk X.prog X.w _ _ _ (.lst ((out.map SrtO.iv).map V.int)) from ⟨hlen, out, e', vals_of_ints k1, he'⟩), rfl, q _ _ k2 k3 (I1.hok.fresh (Nat.le_refl _))⟩
  have hb : b < h'.objs.size := Heap.lt_size e
  rw [PyProof.Rows.sortedHeap_old (Nat.ne_of_lt hb) (by rw [size_push']; exact Nat.lt_succ_of_lt hb)]
  exact Heap.get?_push_of_some _ e
theorem c_sortedDK (hcalm : X.calm = true) : CallR X (.builtin "sorted") rSortedDK := cr_sortedDK hcalm
/-- the pair that a tracked value is -/
def pairV (H : Hp) : V → Int × Int
  | .ref t => match H t with
    | some (.tup [.int i, .int j]) => (i, j)
    | _ => (0, 0)
  | _ => (0, 0)
theorem pairV_of {H : Hp} {t : Addr} {i j : Int} (h : H t = some (.tup [.int i, .int j])) : pairV H (.ref t) = (i, j) := by
  show (match H t with
    | some (.tup [.int i, .int j]) => (i, j)
    | _ => (0, 0)) = (i, j)
  rw [h]
def PairK (H : Hp) (v : V) (k : Int × Int) : Prop := ∃ t, v = .ref t ∧ H t = some (.tup [.int k.1, .int k.2])
def keyP (k : Int × Int) : List Key := [Sum.inl k.1, Sum.inl k.2]
/-- sorted(d), keys pairs of ints: they stand in some order -/
def rSortedDT : List V → Hp → VK → Prop := fun xs H Q => ∃ (a : Addr) (kvs : List (List Key × V)) (ks : List (Int × Int)), xs = [.ref a] ∧ Rd H a (.dT kvs) ∧ kvs.map (·.1) = ks.map keyP ∧
  ∀ (ys : List V) (ks' : List (Int × Int)) (p : Addr), ks'.Perm ks → Paired (PairK H) ys ks' → H p = none → Q (.ref p) (upd H p (.lst ys))
theorem pairs_made {H : Hp} : ∀ (bs : List Addr) (ks : List (Int × Int)), Paired (fun b k => H b = some (.tup [.int k.1, .int k.2])) bs ks → (∀ b ∈ bs, ∃ i j, H b = some (.tup [.int i, .int j])) ∧ (bs.map V.ref).map (pairV H) = ks
  | _, _, .nil => ⟨(fun b hb => nomatch hb), rfl⟩
  | _, _, .cons h t => by
    obtain ⟨h1, h2⟩ := pairs_made _ _ t
    refine ⟨fun b hb => ?_, ?_⟩
    · rcases List.mem_cons.mp hb with e | e
      · rw [e]
        exact ⟨_, _, h⟩
      · exact h1 b e
    · rw [List.map_cons, List.map_cons, h2, pairV_of h]
theorem paired_pairV {H : Hp} : ∀ ys : List V, (∀ y ∈ ys, ∃ t i j, y = .ref t ∧ H t = some (.tup [.int i, .int j])) → Paired (PairK H) ys (ys.map (pairV H))
  | [], _ => .nil
  | y :: ys, h => by
    obtain ⟨t, i, j, rfl, e⟩ := h _ List.mem_cons_self
    refine .cons ⟨t, rfl, by rw [pairV_of e]; exact e⟩ (paired_pairV ys fun z hz => h z (List.mem_cons_of_mem _ hz))
theorem kt_pairs {H : Hp} : ∀ {kvs : List (List Key × V)} {xs : List (List Key × Addr × Value)} (ks : List (Int × Int)), KT H kvs xs → kvs.map (·.1) = ks.map keyP → Paired (fun b k => H b = some (.tup [.int k.1, .int k.2])) (xs.map fun x => x.2.1) ks
  | _, _, [], .nil, _ => .nil
  | _, _, k :: ks, .cons h t, e => by
    obtain ⟨e1, e2⟩ := List.cons.inj e
    refine .cons ?_ (kt_pairs ks t e2)
    have h1 := h.2.1
    dsimp only at e1
    rw [e1] at h1
    exact h1
  | _, _, [], .cons h t, e => by cases e
  | _, _, k :: ks, .nil, e => by cases e
theorem cr_sortedDT (hcalm : X.calm = true) : CallR X (.builtin "sorted") rSortedDT := by
  intro pins s σ H xs us Q I r q
  obtain ⟨d, kvs, ks, rfl, hd, hks, q⟩ := q
  obtain ⟨u, rfl, rx⟩ := r.one
  cases rx
  obtain ⟨z, hs, kx, pr, o, es, ep, ho, hx, hdt, he, hn⟩ := (show ObjOk X.prog X.w H s.heap d (.dT kvs) from hd.ok I.hok)
  have l1 : es.size = kx.length := size_of_entries he
  have l2 : kvs.length = kx.length := Paired.length pr
  refine Calls.call_function_entry PyProof.Rows.kind_sorted PyProof.Rows.plain_sorted PyProof.Rows.entry_sorted (PyProof.Rows.args_sorted1 _) ?_
  unfold Builtin.«sorted»
  refine wpAny_bind (m := checkCount "sorted" 1 1 _) (wpAny_pure ?_)
  refine wpAny_bind (PySem.W.kdu_collect (A := X.A.in1) (kdl_raw hs hx hdt) (I.ok.hd hcalm) ho (by omega) fun h' tk acc hk it => ?_)
  have ea : acc.toList = kx.map fun x => Value.ref x.2.1 := by
    have hl : acc.toList.length = kx.length := by rw [Array.length_toList, it.1]; exact l1
    apply List.ext_getElem?
    intro j
    rw [List.getElem?_map]
    cases hj : acc.toList[j]? with
    | none =>
      have h1 := List.getElem?_eq_none_iff.mp hj
      rw [List.getElem?_eq_none (by omega)]
      all_goals rfl
    | some v =>
      obtain ⟨en, hen, hv⟩ := it.2 j v (by rw [← Array.getElem?_toList]; exact hj)
      have qe := entry_at he j
      rw [hen] at qe
      cases hb : kx[j]? with
      | none =>
        rw [hb] at qe
        exact nomatch (show some en = none from qe)
      | some b =>
        rw [hb] at qe
        have e2 : en = entryOfKey (tupleKind (mixKind X.prog X.w)) b := Option.some.inj qe
        rw [hv, e2]
        all_goals rfl
  have eb : acc.toList = (kx.map fun x => x.2.1).map Value.ref := by rw [ea, List.map_map]; all_goals rfl
  have P := kt_pairs ks pr hks
  generalize (kx.map fun x => x.2.1) = bs at eb P
  have lb : bs.length = kx.length := by
    have := congrArg List.length eb
    rw [List.length_map, Array.length_toList, it.1] at this
    omega
  obtain ⟨P1, P2⟩ := pairs_made _ _ P
  have I1 : Inv X pins σ H { s with heap := h', toks := tk } := I.kept hk
  have hz : acc.toList.length ≤ sizeLine := by rw [eb, List.length_map, lb, ← l2]; exact z
  have hp : ∀ v ∈ acc.toList, Srt.IsPair h' v (pairV H (backV v)).1 (pairV H (backV v)).2 := fun v hv => by
    rw [eb] at hv
    obtain ⟨t, ht, rfl⟩ := List.mem_map.mp hv
    obtain ⟨i, j, e⟩ := P1 t ht
    obtain ⟨_, its2, r2, o2, ho2, hc2, n, hd2⟩ := I1.hok _ _ e
    obtain ⟨u1, u2, rfl, ri, rj⟩ := vals2 r2
    obtain ⟨t1, rfl⟩ := ri
    obtain ⟨t2, rfl⟩ := rj
    rw [show backV (Value.ref t) = V.ref t from rfl, pairV_of e]
    exact ⟨t, o2, t1, t2, n, rfl, ho2, hc2, hd2⟩
  refine wpAny_bind (wpAny_newList ?_ hz)
  have hoL : (h'.push (seqObj "list" acc.toList.toArray 0)).get? h'.objs.size = some (seqObj "list" acc.toList.toArray 0) := Heap.get?_push_size _ rfl
  have keepP : ∀ b u, h'.get? b = some u → (h'.push (seqObj "list" acc.toList.toArray 0)).get? b = some u := fun b u e => Heap.get?_push_of_some _ e
  show wpAny _ _ _ _ _ { s with heap := h'.push (seqObj "list" acc.toList.toArray 0), toks := tk }
  refine wpAny_bind (wpAny_holding (wpAny_call_entry PyProof.Rows.slot_list_sort ⟨_, hoL, rfl⟩ PyProof.Rows.entry_list_sort
    (SrtO.list_sort_ord (s := { s with heap := h'.push (seqObj "list" acc.toList.toArray 0), toks := tk }) (SrtO.swo_lex fun u => pairV H (backV u)) hoL hz (fun h2 => SrtO.pairs_sortableO (by omega) (fun v hv => (hp v hv).keeps fun b o e _ => keepP b o e) fun o e => ?_) fun out g1 g2 => ⟨_, rfl, ?_⟩) (PyProof.Rows.args_list_sort _)))
  · have e' : some o = some (seqObj "list" acc.toList.toArray 0) := e.symm.trans hoL
    cases e'
    intro c
    exact absurd (Value.type.inj c) (by decide)
  · have h3 : ∀ u ∈ out, ∃ t, u = Value.ref t ∧ t ∈ bs := fun u hu => by
      have := g2.perm.mem_iff.mp hu
      rw [eb] at this
      obtain ⟨t, ht, rfl⟩ := List.mem_map.mp this
      exact ⟨t, rfl, ht⟩
    obtain ⟨e', he'⟩ := PyProof.Rows.sortedHeap_at (vs := acc.toList) (out := out.toArray) hoL
    have pm : (out.map backV).Perm (bs.map V.ref) := by
      have := g2.perm.map backV
      rw [eb, List.map_map] at this
      exact this
    have hlen : (out.map backV).length ≤ sizeLine := by
      rw [pm.length_eq, List.length_map, lb, ← l2]
      exact z
    refine wpAny_pure ⟨_, rfl, .ref h'.objs.size, upd H h'.objs.size (.lst (out.map backV)), I1.laid (t' := tk) (fun b u e => ?_) (Nat.le_refl _)
      (show ObjOk X.prog X.w _ _ _ (.lst (out.map backV)) from ⟨hlen, out, e', vals_back (fun u hu => by obtain ⟨t, e, _⟩ := h3 u hu; exact ⟨t, e⟩), he'⟩), rfl, q _ ((out.map backV).map (pairV H)) _ (by have := pm.map (pairV H); rw [P2] at this; exact this) (paired_pairV _ fun y hy => ?_) (I1.hok.fresh (Nat.le_refl _))⟩
    · have hb : b < h'.objs.size := Heap.lt_size e
      rw [PyProof.Rows.sortedHeap_old (Nat.ne_of_lt hb) (by rw [size_push']; exact Nat.lt_succ_of_lt hb)]
      exact Heap.get?_push_of_some _ e
    · obtain ⟨u, hu, rfl⟩ := List.mem_map.mp hy
      obtain ⟨t, rfl, ht⟩ := h3 u hu
      obtain ⟨i, j, e⟩ := P1 t ht
      exact ⟨t, i, j, rfl, e⟩
theorem c_sortedDT (hcalm : X.calm = true) : CallR X (.builtin "sorted") rSortedDT := cr_sortedDT hcalm
end
end Vf

namespace Vf
open PySem PySem.Spec PyProof.Rows L2
/-! ## ranges upwards by a step -/
theorem range_up {i j c : Int} (hc : 0 < c) (h : i < j) : Builtin.Range.rangeSize i j c = (((j - i - 1) / c + 1).toNat : Int) := by
  unfold Builtin.Range.rangeSize
  rw [if_pos (by omega), if_pos h]
  have := Int.ediv_nonneg (a := j - i - 1) (b := c) (by omega) (by omega)
  omega
theorem RgC.up {i j c : Int} (h0 : 0 ≤ i) (h : i < j) (hj : j < 2 ^ 29) (hc : 0 < c) (hc1 : c < 2 ^ 29) : RgC i j c ((j - i - 1) / c + 1).toNat := by
  refine ⟨by omega, by omega, ?_, range_up hc h⟩
  have h1 := Int.ediv_nonneg (a := j - i - 1) (b := c) (by omega) (by omega)
  have h2 := Int.ediv_le_self c (show (0 : Int) ≤ j - i - 1 by omega)
  unfold Builtin.Range.small
  rw [range_up hc h]
  have e : (((j - i - 1) / c + 1).toNat : Int) = (j - i - 1) / c + 1 := by omega
  rw [e]
  generalize (j - i - 1) / c = q at *
  simp only [Builtin.Range.rangeFitsLong, Bool.and_eq_true, Bool.or_eq_true, decide_eq_true_eq, beq_iff_eq]
  simp only [show c > 0 from hc, if_true]
  simp only [Bool.and_eq_true, decide_eq_true_eq]
  omega
/-- the turns are just the numbers of 0..b-1 that leave the rest -/
theorem up_mem {k g b : Int} (h0 : 0 ≤ k) (h1 : k < g) (hb : k < b) (r : Int) : (∃ i : Nat, i < ((b - k - 1) / g + 1).toNat ∧ r = k + (i : Int) * g) ↔ 0 ≤ r ∧ r < b ∧ r % g = k := by
  have q0 := Int.ediv_nonneg (a := b - k - 1) (b := g) (by omega) (by omega)
  have e := Int.mul_ediv_add_emod (b - k - 1) g
  have l := Int.emod_lt_of_pos (b - k - 1) (show 0 < g by omega)
  have l0 := Int.emod_nonneg (b - k - 1) (show g ≠ 0 by omega)
  constructor
  · rintro ⟨i, hi, rfl⟩
    have hi2 : (i : Int) ≤ (b - k - 1) / g := by omega
    have m := Int.mul_le_mul_of_nonneg_right hi2 (show 0 ≤ g by omega)
    have m0 := Int.mul_nonneg (show (0 : Int) ≤ i by omega) (show 0 ≤ g by omega)
    rw [Int.mul_comm g] at e
    refine ⟨by omega, by omega, ?_⟩
    rw [Int.add_mul_emod_self_right, Int.emod_eq_of_lt h0 h1]
  · rintro ⟨r0, r1, hr⟩
    have er := Int.mul_ediv_add_emod r g
    have d0 := Int.ediv_nonneg (a := r) (b := g) r0 (by omega)
    have er2 : r = k + r / g * g := by
      rw [hr] at er
      rw [Int.mul_comm g] at er
      omega
    refine ⟨(r / g).toNat, ?_, by rw [Int.toNat_of_nonneg d0]; exact er2⟩
    have : r / g ≤ (b - k - 1) / g := by
      rw [Int.le_ediv_iff_mul_le (by omega)]
      omega
    omega
/-! ## a walk of two lists, pair by pair -/
section
variable {K : PySem.W.Frag} {g : TG} {tb : TS} {D : Ends} {σ : L2.St} {H : Hp}
theorem r_forZli {ta : TA} (h : ta σ H fun vs H1 => ∃ a b xs ys, vs = [.ref a, .ref b] ∧ SqL K H1 a xs ∧ SqL K H1 b ys ∧ tFor (fun _ H2 R => R (Itz K a b) H2) g tb D σ H1) : tFor (iZip K ta) g tb D σ H := h
theorem r_forZl {a b : Addr} (xs ys : List V) (n : Nat) (hx : xs.length = n) (hy : ys.length = n) (Pv : Nat → L2.St → Hp → Prop) (h0 : Pv 0 σ H)
    (hl : ∀ i σ H, i ≤ n → Pv i σ H → SqL K H a xs ∧ SqL K H b ys)
    (hs : ∀ i x y σ H T, xs[i]? = some x → ys[i]? = some y → Pv i σ H → H T = none → g (.ref T) σ (upd H T (.tup [x, y])) fun σ2 H2 => tb { D with nx := Pv (i + 1), ct := Pv (i + 1), bk := D.nx } σ2 H2)
    (hd : ∀ σ H, Pv n σ H → D.nx σ H) : tFor (fun _ H2 R => R (Itz K a b) H2) g tb D σ H := by
  refine ⟨fun i m σ H => m = n - i ∧ i ≤ n ∧ Pv i σ H, ⟨n, by omega, Nat.zero_le _, h0⟩, ?_⟩
  rintro i m σ H ⟨rfl, hi, p⟩
  obtain ⟨qx, qy⟩ := hl i σ H hi p
  by_cases lt : i < n
  · have ix : i < xs.length := by omega
    have iy : i < ys.length := by omega
    refine Or.inr ⟨⟨xs, ys, xs[i], ys[i], qx, qy, by simp [ix], by simp [iy]⟩, Pv (i + 1), fun σ' H' p' => ⟨n - (i + 1), by omega, rfl, lt, p'⟩, fun v H' yy => ?_⟩
    obtain ⟨T, x, y, rfl, nT, rfl, f1, f2⟩ := yy
    exact hs i x y σ H T (f1 xs qx) (f2 ys qy) p nT
  · have e : i = n := by omega
    subst e
    exact Or.inl ⟨⟨xs, ys, qx, qy, .inl (by omega)⟩, hd σ H p⟩
theorem r_dnewK {Q : VK} (h : ∀ p, H p = none → Q (.ref p) (upd H p (.dK []))) : tDNewK σ H Q := h
end
/-! ## the keys of a dict -/
section
variable {κ : Type} [DecidableEq κ]
theorem putK_keys (kvs : List (κ × V)) (k : κ) (v : V) : (putK kvs k v).map (·.1) = if k ∈ kvs.map (·.1) then kvs.map (·.1) else kvs.map (·.1) ++ [k] := by
  unfold putK
  have any : (kvs.any fun kv => decide (kv.1 = k)) = true ↔ k ∈ kvs.map (·.1) := by
    rw [List.any_eq_true, List.mem_map]
    exact ⟨fun ⟨x, h1, h2⟩ => ⟨x, h1, of_decide_eq_true h2⟩, fun ⟨x, h1, h2⟩ => ⟨x, h1, decide_eq_true h2⟩⟩
  by_cases h : k ∈ kvs.map (·.1)
  · rw [if_pos h, if_pos (any.mpr h), List.map_map]
    refine List.map_congr_left fun x _ => ?_
    show (if x.1 = k then (x.1, v) else x).1 = x.1
    split <;> rfl
  · rw [if_neg h, if_neg (fun z => h (any.mp z)), List.map_append]
    rfl
end
/-- the keys that are ints -/
def IKeys (kvs : List (Key × V)) (ks : List Int) : Prop := kvs.map (·.1) = ks.map Sum.inl ∧ ks.Nodup
theorem IKeys.nil : IKeys [] [] := ⟨rfl, List.nodup_nil⟩
theorem IKeys.len {kvs : List (Key × V)} {ks : List Int} (h : IKeys kvs ks) : kvs.length = ks.length := by
  have := congrArg List.length h.1
  rw [List.length_map, List.length_map] at this
  exact this
theorem inl_mem {ks : List Int} {j : Int} : (Sum.inl j : Key) ∈ ks.map Sum.inl ↔ j ∈ ks := by
  rw [List.mem_map]
  exact ⟨fun ⟨x, h1, h2⟩ => by cases h2; exact h1, fun h => ⟨j, h, rfl⟩⟩
theorem IKeys.put {kvs : List (Key × V)} {ks : List Int} (h : IKeys kvs ks) (j : Int) (v : V) : ∃ ks', IKeys (putK kvs (Sum.inl j) v) ks' ∧ (∀ x, x ∈ ks' ↔ x ∈ ks ∨ x = j) ∧ ks'.length ≤ ks.length + 1 := by
  have e := putK_keys kvs (Sum.inl j : Key) v
  rw [h.1] at e
  by_cases m : j ∈ ks
  · rw [if_pos (inl_mem.mpr m)] at e
    refine ⟨ks, ⟨e, h.2⟩, fun x => ⟨.inl, fun z => z.elim id fun z => by rw [z]; exact m⟩, by omega⟩
  · rw [if_neg fun z => m (inl_mem.mp z)] at e
    refine ⟨ks ++ [j], ⟨by rw [e, List.map_append]; rfl, ?_⟩, fun x => by rw [List.mem_append, List.mem_singleton], by rw [List.length_append]; exact Nat.le_refl _⟩
    rw [List.nodup_append]
    exact ⟨h.2, List.pairwise_singleton _ j, fun a ha b hb => by rw [List.mem_singleton.mp hb]; rintro rfl; exact m ha⟩
/-- the keys that are pairs of ints -/
def PKeys (kvs : List (List Key × V)) (ks : List (Int × Int)) : Prop := kvs.map (·.1) = ks.map keyP
theorem PKeys.len {kvs : List (List Key × V)} {ks : List (Int × Int)} (h : PKeys kvs ks) : kvs.length = ks.length := by
  have := congrArg List.length h
  rw [List.length_map, List.length_map] at this
  exact this
theorem PKeys.put {kvs : List (List Key × V)} {ks : List (Int × Int)} (h : PKeys kvs ks) (j : Int × Int) (v : V) : ∃ ks', PKeys (putK kvs (keyP j) v) ks' ∧ (∀ x, x ∈ ks' ↔ x ∈ ks ∨ x = j) ∧ ks'.length ≤ ks.length + 1 := by
  have inj : ∀ a b : Int × Int, keyP a = keyP b → a = b := fun a b e => by
    unfold keyP at e
    injection e with e1 e2
    injection e2 with e2 _
    cases a; cases b
    cases e1; cases e2
    rfl
  have e := putK_keys kvs (keyP j) v
  rw [show kvs.map (·.1) = ks.map keyP from h] at e
  have mi : keyP j ∈ ks.map keyP ↔ j ∈ ks := by
    rw [List.mem_map]
    exact ⟨fun ⟨x, h1, h2⟩ => by rw [← inj _ _ h2]; exact h1, fun h => ⟨j, h, rfl⟩⟩
  by_cases m : j ∈ ks
  · rw [if_pos (mi.mpr m)] at e
    exact ⟨ks, e, fun x => ⟨.inl, fun z => z.elim id fun z => by rw [z]; exact m⟩, by omega⟩
  · rw [if_neg fun z => m (mi.mp z)] at e
    exact ⟨ks ++ [j], by rw [PKeys, e, List.map_append]; rfl, fun x => by rw [List.mem_append, List.mem_singleton], by rw [List.length_append]; exact Nat.le_refl _⟩
end Vf
namespace Vf
open PySem PySem.Spec PyProof.Rows L2
theorem Kx.tupT {K : PySem.W.Frag} {k : Addr} {H H' : Hp} {l : List (List Key × V)} {a : Addr} {xs : List V} (e : Kx k H H') (hk : H k = some (.dT l)) (h : SqT K H a xs) : SqT K H' a xs := by
  rcases h with (h | ⟨o, h⟩) | h
  · exact Or.inl (Or.inl (e _ _ (ne_of h hk (by intro z; cases z)) h))
  · exact Or.inl (Or.inr ⟨o, e _ _ (ne_of h hk (by intro z; cases z)) h⟩)
  · exact Or.inr h
theorem Kx.tupK {K : PySem.W.Frag} {k : Addr} {H H' : Hp} {l : List (Key × V)} {a : Addr} {xs : List V} (e : Kx k H H') (hk : H k = some (.dK l)) (h : SqT K H a xs) : SqT K H' a xs := by
  rcases h with (h | ⟨o, h⟩) | h
  · exact Or.inl (Or.inl (e _ _ (ne_of h hk (by intro z; cases z)) h))
  · exact Or.inl (Or.inr ⟨o, e _ _ (ne_of h hk (by intro z; cases z)) h⟩)
  · exact Or.inr h
end Vf

namespace Vf
open PySem PySem.Spec PyProof.Rows L2
/-! ## math.comb; the pairs of a dict whose keys are tuples; d.get(key, x) -/
section
variable {X : Cx}
def rComb : List V → Hp → VK → Prop := fun vs H Q => ∃ a b : Int, vs = [.int a, .int b] ∧ 0 ≤ a ∧ 0 ≤ b ∧ a ≤ 18000 ∧ Q (.int (PySem.W.mcComb a b)) H
theorem c_comb : CallR X (.builtin "math.comb") rComb := by
  intro pins s σ H vs us Q I r h
  obtain ⟨a, b, rfl, ha, hb, hl, q⟩ := h
  obtain ⟨t, u, rfl⟩ := Vals.int2 r
  exact PySem.W.mc_comb ha hb (by omega) (.inr hl) fun _ => ⟨.int _, H, I.tok _, ⟨_, rfl⟩, q⟩
theorem r_comb {H : Hp} {Q : VK} {a b : Int} (ha : 0 ≤ a) (hb : 0 ≤ b) (hl : a ≤ 18000) (h : Q (.int (PySem.W.mcComb a b)) H) : rComb [.int a, .int b] H Q := ⟨a, b, rfl, ha, hb, hl, h⟩
end
section
variable {X : Cx} {pins : List (Addr × Obj)} {σ : L2.St} {H : Hp} {s : Shared} {d : Addr} {o : Obj}
theorem frzV {kvs : List (List Key × V)} (I : Inv X pins σ H s) (h : H d = some (.frz o (.dT kvs))) :
    (d == sysModules) = false ∧ s.heap.get? d = some o ∧ o.ExactDict ∧ ∃ (es : Array DictEntry) (ep : Nat), o.data = .dict es ep ∧ es.size = kvs.length ∧
      ∀ (i : Nat) (k : List Key) (v : V), kvs[i]? = some (k, v) → ∃ (en : DictEntry) (q : Addr), es[i]? = some en ∧ en.key = .ref q ∧ H q = some (.tup (k.map kV)) ∧ RelV v en.val := by
  obtain ⟨hd, z, hs, xs, pr, o', es, ep, ho, hx, hdt, he, _⟩ := I.hok d _ h
  rw [hd] at ho
  cases ho
  refine ⟨hs, hd, hx, es, ep, hdt, ?_, fun i k v e => ?_⟩
  · have l1 : es.size = xs.length := size_of_entries he
    have l2 : kvs.length = xs.length := Paired.length pr
    omega
  · obtain ⟨b, hb, e1, e2, e3⟩ := paired_get pr e
    have q := entry_at he i
    rw [hb] at q
    exact ⟨_, b.2.1, q, rfl, e2, e3⟩
/-- the pairs of the locked dict at d, each a new tuple of the key's own tuple and the value -/
def Itit (d : Addr) (o : Obj) (kvs : List (List Key × V)) : It :=
  ⟨fun i H => H d = some (.frz o (.dT kvs)) ∧ i < kvs.length, fun i H x H' => ∃ T k v q, kvs[i]? = some (k, v) ∧ H q = some (.tup (k.map kV)) ∧ x = .ref T ∧ H T = none ∧ H' = upd H T (.tup [.ref q, v]), fun i H => H d = some (.frz o (.dT kvs)) ∧ kvs.length ≤ i⟩
theorem turn_itemsT {P : Program} {w : World} {K : PySem.W.Frag} {es : Array DictEntry} {ep : Nat} {kvs : List (List Key × V)} {elts : List Expr} {kk : Nat} {tpos : Pos} (it : Addr) (hod : o.data = .dict es ep) :
    Turn P w K (.Tuple elts kk tpos) (Itit d o kvs) [it] it (fun i h => ∃ ok ov, IsItemIter h it d i kvs.length ep ok ov) where
  mem := by simp
  obj := fun i h st b hb => by
    have e : b = it := by simpa using hb
    subst e
    obtain ⟨ok, ov, e⟩ := st
    exact ⟨_, e, fun v z => nomatch z⟩
  keep := fun i h h' st k => let ⟨ok, ov, e⟩ := st; ⟨ok, ov, k it (by simp) _ e⟩
  item := by
    intro X hP hw hK hc i pins s σ H E I hf st hg
    subst hP hw hK
    obtain ⟨hd, hi⟩ := hg
    obtain ⟨hs, hgd, hx, es', ep', hdt, hsz, ent⟩ := frzV I hd
    obtain ⟨rfl, rfl⟩ := dict_ep hod hdt
    obtain ⟨⟨k, v⟩, hkv⟩ : ∃ p, kvs[i]? = some p := ⟨kvs[i], List.getElem?_eq_getElem hi⟩
    obtain ⟨en, q, hen, hkey, hq, rv⟩ := ent i k v hkv
    obtain ⟨ok, ov, he⟩ := st
    rw [← hsz] at he
    have hlt : it < s.heap.objs.size := Heap.lt_size he
    have his : i < es'.size := by omega
    have eni : es'[i] = en := by
      rw [Array.getElem?_eq_getElem his] at hen
      exact Option.some.inj hen
    refine DT.nextI he ⟨o, hgd, hx, hdt⟩ his fun h' ho hT hz hk => ?_
    rw [eni] at ho hT
    refine ⟨_, rfl, wpAny_letOwnedTupleGo_items (s := { s with heap := h' }) ho fun h'' he' sb => ?_⟩
    have hT2 : h''.get? s.heap.objs.size = some { cls := .type "tuple", data := .seq #[en.key, en.val] } := (sb.2 _ (Nat.ne_of_gt hlt)).trans hT
    have new : ObjOk X.prog X.w (upd H s.heap.objs.size (.tup [.ref q, v])) h'' s.heap.objs.size (.tup [.ref q, v]) :=
      ⟨by show 2 ≤ sizeLine; decide, [en.key, en.val], .cons hkey (.cons rv .nil), ⟨_, hT2, rfl, _, rfl⟩⟩
    have I1 : Inv X pins σ (upd H s.heap.objs.size (.tup [.ref q, v])) { s with heap := h'' } :=
      I.turnedNew (t' := s.toks) (ch := [it]) (fun b ob hb e => (sb.2 b (by simpa using hb)).trans (hk b ob (by simpa using hb) e)) hf (Nat.le_refl _) new
    refine ⟨.ref s.heap.objs.size, _, I1, rfl, ⟨_, k, v, q, hkv, hq, rfl, I.hok.fresh (Nat.le_refl _), rfl⟩, ⟨en.key, en.val, ?_⟩, fun b hb => ?_⟩
    · rw [← hsz]
      exact he'
    · have e : b = it := by simpa using hb
      rw [e, upd_ne (Nat.ne_of_lt hlt)]
      exact (hf it (by simp)).1
  done := by
    intro X hP hw hK hc i pins s σ H E I hf st hg
    subst hP hw hK
    obtain ⟨hd, hi⟩ := hg
    obtain ⟨f0, f1, f2, f3, f4, f5⟩ := hf it (by simp)
    obtain ⟨hs, hgd, hx, es', ep', hdt, hsz, ent⟩ := frzV I hd
    obtain ⟨rfl, rfl⟩ := dict_ep hod hdt
    obtain ⟨ok, ov, he⟩ := st
    rw [← hsz] at he
    exact DT.endI (I.ok.hd hc) he ⟨o, hgd, hx, hdt⟩ (by omega) fun h' eb => ⟨rfl, I.turned (t' := s.toks) (fun b ob hb e => eb b ob hb e) f0 f1 f3 f4 f5⟩
  self := fun A i s Q E st h => let ⟨_, _, e⟩ := st; PySem.W.kcp_self e h
end
def iItemsT (td : TE) : TI := fun σ H R => td σ H fun x H1 => ∃ d o kvs, x = .ref d ∧ H1 d = some (.frz o (.dT kvs)) ∧ R (Itit d o kvs) H1
theorem pi_itemsT {X : Cx} {e : Expr} {td : TE} {apos cpos : Pos} {elts : List Expr} {kk : Nat} {tpos : Pos} (he : PE X e td) (hbase : attributeBase e "items" X.env (eval e X.env) = eval e X.env := by rfl) (hline : (apos.endLine == cpos.line) = true := by rfl) :
    PI X (.Tuple elts kk tpos) (.Call (.Attribute e "items" apos) [] [] cpos) (iItemsT td) := by
  refine ⟨fun pins s σ H R I h => ?_⟩
  refine wpAny_Call_method (T := "dict") (id := "dict.items") hbase rfl hline F.plainAttrs_dict F.slot_dict_items F.type_dict_items (thn (he.run pins s σ H _ I h) fun u s1 ⟨x, H1, I1, rx, d, o, kvs, ex, hd, q⟩ => ?_)
  subst ex
  obtain rfl : u = Value.ref d := rx
  obtain ⟨hs, hgd, hx, es, ep, hdt, hsz, ent⟩ := frzV I1 hd
  have raw : DT.Raw s1.heap d es ep := ⟨o, hgd, hx, hdt⟩
  refine ⟨raw.typeIs, (fun a e => by cases e; exact ⟨o, hgd, hx.2.1⟩), ?_⟩
  have I2 : Inv X pins σ H1 { s1 with heap := s1.heap.push { cls := .type "dict_items", data := .fields #[.ref d] } } := I1.kept (t' := s1.toks) fun b ob q => Heap.get?_push_of_some _ q
  have fin : wpAny (model X.prog X.w) X.A (pyIter (.ref s1.heap.objs.size)) (PIE X pins σ (.Tuple elts kk tpos) R) X.xe { s1 with heap := s1.heap.push { cls := .type "dict_items", data := .fields #[.ref d] } } := by
    refine DT.iterI (d := d) (es := es) (ep := ep) ⟨_, Heap.get?_push_size _ rfl, rfl, rfl⟩ (raw.push _) (pi_one (tk := s1.toks) I2 _ (turn_itemsT _ hdt) ⟨.none, .none, ?_⟩ q)
    rw [← hsz]
    exact Heap.get?_push_size _ rfl
  show wpAny _ _ (callWith cpos (.builtin "dict.items") [.ref d] [] []) _ X.xe s1
  exact method_meetsIn F.slot_dict_items F.entry_dict_items rfl (PySem.evalArgs_none ⟨rfl, raw.typeIs, F.args_dict_items_1 _, _, DT.meetsItems (es := es) (ep := ep) hs, raw, fin⟩)
section
variable {K : PySem.W.Frag} {σ : L2.St} {H : Hp} {Q : VK} {g : TG} {tt : TT} {te : TE} {vs : List Nat}
theorem r_lcITi {td : TE} (h : td σ H fun x H1 => ∃ d o kvs, x = .ref d ∧ H1 d = some (.frz o (.dT kvs)) ∧ tLc (fun _ H2 R => R (Itit d o kvs) H2) g tt te vs σ H1 Q) : tLc (iItemsT td) g tt te vs σ H Q := h
theorem r_lcIT {d : Addr} {o : Obj} (kvs : List (List Key × V)) (Pv : Addr → Nat → Hp → Prop) (h0 : ∀ D, H D = none → Pv D 0 (upd H D (.lst [])))
    (hl : ∀ D i H', H D = none → i ≤ kvs.length → Pv D i H' → H' d = some (.frz o (.dT kvs)))
    (hs : ∀ D i k v q H' T, H D = none → kvs[i]? = some (k, v) → H' q = some (.tup (k.map kV)) → Pv D i H' → H' T = none → g (.ref T) (wipe σ vs) (upd H' T (.tup [.ref q, v])) fun σ2 H2 => wipe σ2 vs = wipe σ vs ∧ tt σ2 H2 fun b H3 =>
      if b = true then te σ2 H3 fun y H4 => ∃ acc, H4 D = some (.lst acc) ∧ acc.length < sizeLine ∧ Pv D (i + 1) (upd H4 D (.lst (acc ++ [y]))) else Pv D (i + 1) H3)
    (hd : ∀ D H', H D = none → Pv D kvs.length H' → Q (.ref D) H') : tLc (fun _ H2 R => R (Itit d o kvs) H2) g tt te vs σ H Q := by
  refine fun D hD => ⟨fun i m H => m = kvs.length - i ∧ i ≤ kvs.length ∧ Pv D i H, ⟨kvs.length, by omega, Nat.zero_le _, h0 D hD⟩, ?_⟩
  rintro i m H' ⟨rfl, hi, p⟩
  have qx := hl D i H' hD hi p
  by_cases lt : i < kvs.length
  · refine Or.inr ⟨⟨qx, lt⟩, Pv D (i + 1), fun H' p' => ⟨kvs.length - (i + 1), by omega, rfl, lt, p'⟩, fun v H'' yy => ?_⟩
    obtain ⟨T, k, v, q, hkv, hq, rfl, nT, rfl⟩ := yy
    exact hs D i k v q H' T hD hkv hq p nT
  · have e : i = kvs.length := by omega
    rw [e] at p
    exact Or.inl ⟨⟨qx, by omega⟩, hd D H' hD p⟩
theorem r_dget2 {td ty tx : TE} (h : td σ H fun x H1 => ∃ a, x = .ref a ∧ IsD H1 a ∧ ty σ H1 fun y H2 => tx σ H2 fun z H3 => ∃ o, DGet H3 a y o ∧ Q (o.getD z) H3) : tDGet2 td ty tx σ H Q := h
end
end Vf

/-! ## isinstance of a caught exception that has fields -/
namespace Vf
open PySem PySem.W PySem.Spec PySem.Calls PyProof.Rows
section
variable {P : Program} {w : World} {A : Around} {E : Value → Shared → Prop} {s : Shared} {K : Frag} {x D : Addr} {ox : Obj} {od : Option Obj}
theorem fo_data {C : Addr} {nm : Str} {a g : Value} (hc : (clsIn K C).isSome = true) (h1 : findIn K (.ref C) nm = some (some a)) (h2 : specialIn K a "__get__" = some (some g)) (h3 : takesIn K a = some true) :
    findObj K C od nm = some (.bind g a) := by
  obtain ⟨cd, e⟩ := Option.isSome_iff_exists.mp hc
  unfold findObj
  rw [e, Option.bind_some, h1]
  rw [Option.bind_some]
  simp [h2, h3]
theorem cls_attr {Q : Option Value → Shared → Prop} (C : L2.ExcC K D) (X : K.In s.heap) (I : InstAt s.heap x ox D od) (h : Q (some (.ref D)) { s with toks := s.toks + 1 }) :
    wpAny (model P w) A (getAttr? (.ref x) "__class__") Q E s := by
  obtain ⟨g1, g2, g3, g4, g5, g6, g7, g8⟩ := C
  have fb : findObj K D od "__class__" = some (.bind (.builtin "getset_descriptor.__get__") (.builtin "object.__class__")) := fo_data (by obtain ⟨cd, e, _⟩ := any_some g4; rw [e]; rfl) g5 g6 g7
  obtain ⟨m, gs, dr, tk, os⟩ := s
  have T0 := I.type (M := model P w)
  have T1 := looks_findIn (M := model P w) X g1
  have T2 := looks_findIn (M := model P w) X g2
  have T3 := looks_find (M := model P w) X I fb
  have sb : Looks (model P w) m (isInstance (.ref x) (.type "BaseException")) true := T0.andThen (looks_subIn X g3)
  have y0 : (false && onTheHeap (Value.builtin "BaseException.__getattribute__")) = false := rfl
  have y2 : (Value.builtin "BaseException.__getattribute__" == Value.builtin "object.__getattribute__") = false := by decide +kernel
  have y1 : (onTheHeap (Value.ref D) && Value.builtin "BaseException.__getattribute__" == Value.builtin "object.__getattribute__") = false := by
    rw [y2]
    rfl
  unfold getAttr? getAttrBy? getAttrBy
  refine wpAny_bind (wpAny_mkText (wpAny_bind (wpAny_attempt (wpAny_holding (wpAny_bind (T0.at (wpAny_bind (T1.at ?_))))))))
  show wpAny _ _ (if (onTheHeap (Value.ref D) && Value.builtin "BaseException.__getattribute__" == Value.builtin "object.__getattribute__") = true then _ else _) _ _ _
  rw [y1]
  rw [if_neg Bool.false_ne_true]
  unfold getAttrByItsOwn hookBefore
  refine wpAny_bind ?_
  have y3 : onTheHeap (Value.ref D) = true := rfl
  rw [if_pos y3]
  refine T2.at ?_
  refine wpAny_bind (wpAny_attempt <| wpAny_holding ?_)
  unfold callGetattribute
  rw [y0]
  rw [if_neg Bool.false_ne_true]
  unfold boundAndCalled
  rw [(PySem.F.excAttr_ValueError.ga.bind (.ref x))]
  refine wpAny_bind (wpAny_pure ?_)
  show wpAny _ _ (call (.builtin "BaseException.__getattribute__") [.ref x, .str "__class__" tk]) _ _ _
  refine wpAny_call <| codeAny_call_builtin PySem.F.excAttr_ValueError.ga.plain PySem.F.entry_bexc_ga ?_
  refine @check_slot (model P w) _ _ ⟨m, gs, dr, tk + 1, os⟩ "BaseException.__getattribute__" "BaseException" "__getattribute__" (.ref x) [.str "__class__" tk] [] _ (by decide +kernel) (by decide +kernel) sb (PySem.F.args_bexc_ga (.ref x) (.str "__class__" tk)) ?_
  unfold Builtin.«object.__getattribute__»
  refine wpAny_bind (wpAny_of_eq (a := ((Value.ref x : Value), [Value.str "__class__" tk])) (by first | rfl | (simp only [slotArgs] <;> rfl)) ?_)
  refine wpAny_bind (wpAny_pure <| wpAny_bind (T0.at <| wpAny_bind (T3.at ?_)))
  show wpAny _ _ (holding [Value.builtin "object.__class__"] (call (.builtin "getset_descriptor.__get__") [.builtin "object.__class__", .ref x, .ref D]) >>= ret) _ _ _
  refine wpAny_bind (wpAny_holding <| wpAny_call (class_get (s := ⟨m, gs, dr, tk + 1, os⟩) (ox := ox) (od := od) X I g8 ?_))
  refine wpAny_pure ?_
  show wpAny _ _ (handedOut (.ref D)) _ _ _
  rw [handedOut_of (v := .ref D) rfl]
  first
    | exact wpAny_pure <| wpAny_pure h
    | exact wpAny_pure h
    | exact wpAny_pure <| wpAny_bind (wpAny_pure <| wpAny_pure h)
theorem kit_exc (C : L2.ExcC K D) : KitX K (.ref x) (.ref D) (fun h => InstAt h x ox D od) where
  ty := fun _ _ _ I => I.type
  it := fun _ _ X _ => by
    obtain ⟨cd, e, _⟩ := any_some C.hd
    unfold clsIn at e
    split at e
    · rename_i c1 d1 cd1 sl1 ho
      intro A1 Q1 E1 s1 kp q
      unfold isType loadHead
      exact wpAny_bind <| wpAny_loadPart (kp _ _ (X _ _ ho)) (wpAny_pure q)
    · cases e
  ne := fun h tp dd its n sl X htp => by
    obtain ⟨cd, e, _⟩ := any_some C.hd
    refine beq_false_of_ne fun z => ?_
    cases z
    unfold clsIn at e
    split at e
    · rename_i c1 d1 cd1 sl1 ho
      have z := (X _ _ ho).symm.trans htp
      cases z
    · cases e
  ca := fun X I q => cls_attr C X I q
end
end Vf
namespace Vf
open PySem PySem.Spec PyProof.Rows L2
/-- isinstance(e, c): e the exception that the suite holds, c a class -/
def rIsX (K : PySem.W.Frag) (D a : Addr) : List V → Hp → VK → Prop := fun xs H Q => ∃ (c : V) (cv : Value) (b : Bool), xs = [.ref a, c] ∧ (∀ u, RelV c u → u = cv) ∧ PySem.W.kitOne K (.ref D) cv = some b ∧ Q (.bl b) H
theorem cr_isX {X : Cx} {a D : Addr} {d : Option Addr} {oe : Obj} {pn : List (Addr × Obj)} (C : ExcC X.K D) (hz : Zc (.ref D) d oe) (hf : ∃ vs, oe.data = .fields vs)
    (hd : ∀ s : Shared, ∀ dd, d = some dd → ∀ (pins : List (Addr × Obj)) σ H, Inv (X.suite a ((a, oe) :: pn)) pins σ H s → ∃ o, s.heap.get? dd = some o) : CallR (X.suite a ((a, oe) :: pn)) (.builtin "isinstance") (rIsX X.K D a) := by
  intro pins s σ H xs us Q I r h
  obtain ⟨c, cv, b, rfl, hcv, e, q⟩ := h
  cases r with
  | cons rx rr =>
    cases rr with
    | cons rt rr =>
      cases rr
      cases rx
      obtain rfl := hcv _ rt
      obtain ⟨he, _⟩ := I.pin (a, oe) (List.mem_append.mpr (.inl List.mem_cons_self))
      obtain ⟨vs, hv⟩ := hf
      have J : ∃ od, PySem.W.InstAt s.heap a oe D od := by
        obtain ⟨oc, od, oda, osl⟩ := oe
        obtain ⟨h1, h2⟩ := hz
        dsimp only at h1 h2 hv
        subst h1 h2 hv
        cases od with
        | none => exact ⟨none, he, rfl, rfl, trivial⟩
        | some dd =>
          obtain ⟨o, ho⟩ := hd s dd rfl pins σ H I
          exact ⟨some o, he, rfl, rfl, ho⟩
      obtain ⟨od, J⟩ := J
      exact PySem.W.kia_one (kit_exc C) I.kIn J e (fun z => nomatch z) fun tk => ⟨.bl b, H, I.kept (t' := tk) fun _ _ z => z, rfl, q⟩
end Vf

/-! ## except (A, B, C) as n -/
namespace Vf
open PySem PySem.Spec PyProof.Rows L2
/-- a flying exception goes on flying when the heap only grows -/
theorem fly_on {B h h' : Heap} {l : List Env} {e : Addr} {Z : Obj → Prop} (x : HandSPX.FlyingZ B l e Z h) (k : ∀ b o, h.get? b = some o → h'.get? b = some o) : HandSPX.FlyingZ B l e Z h' := by
  obtain ⟨st, nw, ff, r1, r2, r3, r4, r5, w1, w2, w3, w4, w5, w6, w7, w8, w9⟩ := x
  exact ⟨fun b o q => k b o (st b o q), nw, ff.of_keeps fun b o q _ => ⟨o, k b o q, rfl⟩, r1, r2, r3, r4, r5, k _ _ w1, w2, w3, w4, w5, w6, k _ _ w7, w8, w9⟩
/-- what the clause wishes of the body's exceptions: each is one of its kinds -/
def wTup (K : PySem.W.Frag) (cs : List Value) (i : Nat) (ts : Addr → Value → Option Addr → TS) (D : Ends) : WX := fun cls d σ H =>
  PySem.W.exmAny K cls cs = some true ∧ ∀ a, H a = none → ts a cls d { nx := fun τ G => D.nx (τ.set i none) G, rt := D.rt, bk := fun τ G => D.bk (τ.set i none) G, ct := fun τ G => D.ct (τ.set i none) G } (σ.set i (some (.ref a))) H
section
variable {X : Cx} {x1 x2 x3 n : Str} {c1 c2 c3 : Value} {i kk : Nat} {body rest : List Stmt} {b1 : Stmt} {p1 p2 p3 tp pos hp : Pos} {tb : WX → TS} {ts : Addr → Value → Option Addr → TS}
theorem name_val {pins : List (Addr × Obj)} {σ : L2.St} {H : Hp} {s : Shared} {x : Str} {c : Value} {q : Pos} {Q : Value → Shared → Prop} {E : Value → Shared → Prop} (I : Inv X pins σ H s) (m : Names X x c) (h : Q c s) :
    wpAny (model X.prog X.w) X.A (eval (.Name x q) X.env) Q E s := by
  rcases m with ⟨g, db, z | ⟨z, y, ne⟩⟩
  · exact ld_glob I g z h db
  · exact ld_blt I g z y h ne db
/-- the clause's own work, once the exception has landed -/
theorem tup_clause (hs : X.stack = X.env :: X.outer) (hf : X.env.frame = some X.env.locals) (hN : X.N.Nodup) (hi : X.N[i]? = some n) (hln : X.env.kindOf n = some .local) (m1 : Names X x1 c1) (m2 : Names X x2 c2) (m3 : Names X x3 c3)
    (hsu : ∀ (a : Addr) (oe : Obj) (cls : Value) (d : Option Addr) (pn : List (Addr × Obj)), Zc cls d oe → (∃ vs, oe.data = .fields vs) → PSs (X.suite a ((a, oe) :: pn)) (b1 :: rest) (ts a cls d))
    {pins : List (Addr × Obj)} {σ : L2.St} {H : Hp} {sI s : Shared} {D : Ends} {a : Addr} {B : Heap} {cls : Value} {d : Option Addr} (J : Inv X pins σ H sI) (nb : ∀ b o, sI.heap.get? b = some o → b ∉ frs X.stack → B.get? b = some o)
    (fl : HandSPX.FlyingZ B (X.env :: X.outer) a (Zc cls d) s.heap) (up : sI.heap.UpToSlots s.heap) (na : H a = none) (os : s.os = sI.os) (ag : AllBare s.gens) (w : wTup X.K [c1, c2, c3] i ts D cls d σ H) :
    wpAny (model X.prog X.w) X.A (handleBy (.ref a) X.env [.ExceptHandler (some (.Tuple [.Name x1 p1, .Name x2 p2, .Name x3 p3] kk tp)) (some n) (b1 :: rest) hp]) (SP X pins D) X.xe s := by
  have free : ∀ {g : Heap}, HandSPX.FlyingZ B (X.env :: X.outer) a (Zc cls d) g → a ≠ X.env.locals ∧ a ∉ X.fs := fun {g} f => by
    obtain ⟨oe, vs, he, _, hd⟩ := f.there
    have out : a ∉ frs (X.env :: X.outer) := fun z => by
      obtain ⟨_, o, e, no⟩ := f.2.2.1.mem z
      rw [he] at e
      cases e
      exact no _ hd
    exact ⟨fun z => out (List.mem_filterMap.mpr ⟨X.env, List.mem_cons_self, by rw [hf, z]⟩), fun z => by
      obtain ⟨e, h1, h2⟩ := List.mem_filterMap.mp z
      exact out (List.mem_filterMap.mpr ⟨e, List.mem_cons_of_mem _ h1, h2⟩)⟩
  have at_ : ∀ {g : Heap}, HandSPX.FlyingZ B (X.env :: X.outer) a (Zc cls d) g → sI.heap.UpToSlots g → ∃ oe, Zc cls d oe ∧ (∃ vs, oe.data = .fields vs) ∧ g.get? a = some oe ∧ Inv (X.suite a ((a, oe) :: (X.pn ++ pins))) [] σ H { s with heap := g } := fun {g} f u => by
    obtain ⟨oe, vs, he, hz, hd⟩ := f.there
    exact ⟨oe, hz, ⟨vs, hd⟩, he, (J.landed (s' := { s with heap := g }) nb f.1 u os ag).suite he hd na (free f).1 (free f).2⟩
  obtain ⟨oe, hz, _, he, S⟩ := at_ fl up
  refine wpAny_handleBy_cons (codeAny_handlers_test ?_) (by intro q; cases q)
  have nm : ∀ {x : Str} {c : Value} {q : Pos} {Q : Value → Shared → Prop} {E : Value → Shared → Prop}, Names X x c → Q c s → wpAny (model X.prog X.w) (X.A.mark (some (.ref a))) (eval (.Name x q) X.env) Q E s :=
    fun {x c q Q E} m h => name_val (X := X.suite a ((a, oe) :: (X.pn ++ pins))) S m h
  refine wpAny_Tuple (wpAny_items_cons (nm m1 (wpAny_items_cons (nm m2 (wpAny_items_cons (nm m3 (wpAny_items_nil ⟨Nat.le_of_ble_eq_true rfl, ?_⟩)))))))
  have grow : ∀ b o, s.heap.get? b = some o → (s.heap.push { cls := .type "tuple", data := .seq [c1, c2, c3].toArray }).get? b = some o := fun _ _ z => Heap.get?_push_of_some _ z
  have fl2 := fly_on fl grow
  have up2 := up.trans (Heap.UpToSlots.of_keeps grow)
  obtain ⟨oe2, hz2, _, he2, S2⟩ := at_ fl2 up2
  have ty : PySem.W.Looks (model X.prog X.w) (s.heap.push { cls := .type "tuple", data := .seq [c1, c2, c3].toArray }) (typeOf (.ref a)) cls := fun A Q E t k q => wpAny_typeOf_ref (k _ _ he2) (by rw [hz2.1]; exact q)
  refine (PySem.W.exm_tup3 (M := model X.prog X.w) S2.kIn ty (Heap.get?_push_size s.heap rfl) w.1).here ?_
  refine codeAny_handlers_suite_as (HandSPX.lands_againZ fl2 fun g fl3 up3 => ?_)
  obtain ⟨oe3, hz3, hv3, he3, S3⟩ := at_ fl3 (up2.trans up3)
  refine store_ok (X := X.suite a ((a, oe3) :: (X.pn ++ pins))) (v := .ref a) S3 hN hi (.inl hln) rfl (fun t S4 => ?_) (.inr hln)
  have go := (hsu a oe3 cls d (X.pn ++ pins) hz3 hv3).run [] t _ H _ S4 (w.2 a na)
  refine wpAny_mono go (fun f t2 r => ?_) (fun _ _ z => False.elim z)
  have leave : ∀ {τ : L2.St} {G : Hp} {Q : Shared → Prop}, Inv (X.suite a ((a, oe3) :: (X.pn ++ pins))) [] τ G t2 → (∀ t3, Inv X pins (τ.set i none) G t3 → Q t3) →
      wpAny (model X.prog X.w) X.A (do bindName X.env n .none; unbindBehindTheSuite X.env n hp) (fun _ t3 => Q t3) X.xe t2 := fun {τ G Q} y q => gone_ok (y.unsuite J.ok) hN hi hln q
  rcases f with _ | _ | _ | u
  all_goals first
    | (obtain ⟨τ, G, y, q⟩ := r
       exact leave y fun t3 y3 => ⟨_, _, y3, q⟩)
    | (obtain ⟨v, τ, G, y, rv, q⟩ := r
       exact leave y fun t3 y3 => ⟨_, _, _, y3, rv, q⟩)
theorem ps_try_tup (hs : X.stack = X.env :: X.outer) (hf : X.env.frame = some X.env.locals) (hN : X.N.Nodup) (hi : X.N[i]? = some n) (hln : X.env.kindOf n = some .local) (m1 : Names X x1 c1) (m2 : Names X x2 c2) (m3 : Names X x3 c3)
    (hb : ∀ (W : WX) (pn : List (Addr × Obj)) (xe : Value → Shared → Prop), Takes (X.tr pn xe) W → PassesOwn (model X.prog X.w) X.A X.env xe → PSs (X.tr pn xe) body (tb W))
    (hsu : ∀ (a : Addr) (oe : Obj) (cls : Value) (d : Option Addr) (pn : List (Addr × Obj)), Zc cls d oe → (∃ vs, oe.data = .fields vs) → PSs (X.suite a ((a, oe) :: pn)) (b1 :: rest) (ts a cls d)) :
    PS X (.Try body [.ExceptHandler (some (.Tuple [.Name x1 p1, .Name x2 p2, .Name x3 p3] kk tp)) (some n) (b1 :: rest) hp] [] [] pos) (fun D σ H => tb (wTup X.K [c1, c2, c3] i ts D) D σ H) := by
  refine ⟨fun pins s σ H D I h => wpAny_Try_except ?_⟩
  have back : ∀ {q : List (Addr × Obj)} {xe : Value → Shared → Prop} {τ : L2.St} {G : Hp} {t : Shared}, Inv (X.tr (X.pn ++ pins) xe) q τ G t → Inv X pins τ G t := fun y => y.ofTry I.ok
  refine wpAny_mono ((hb (wTup X.K [c1, c2, c3] i ts D) (X.pn ++ pins) _ (fun u t f => ?_) PassesOwn.looking).run [] s σ H D (I.toTry _) h) (fun f t r => ?_) (fun _ _ z => z)
  · obtain ⟨a, B, sI, _, τ, G, cls, d, rfl, y, nb, up, sky, na, os, ag, w⟩ := f
    have sk : Sky B (X.env :: X.outer) a (Zc cls d) X.env.locals t.heap := by rw [← hs]; exact sky
    refine Sky.land Zc.steady (by rw [I.ok.frames, hs]) hf sk fun g fl u2 => ?_
    exact tup_clause hs hf hN hi hln m1 m2 m3 hsu (back y) nb fl (up.trans u2) na os ag w
  · rcases f with _ | _ | _ | u
    · obtain ⟨τ, G, y, q⟩ := r
      exact wpAny_execs_nil ⟨τ, G, back y, q⟩
    all_goals first
      | (obtain ⟨τ, G, y, q⟩ := r
         exact ⟨τ, G, back y, q⟩)
      | (obtain ⟨v, τ, G, y, rv, q⟩ := r
         exact ⟨v, τ, G, back y, rv, q⟩)
end
end Vf

/-! ## defs that are called within an except clause, the caught exception among what they are given -/
namespace Vf
open PySem PySem.Spec PyProof.Rows L2
/-- a promise of such a def: a the exception, of class cls, its own dict at d -/
abbrev SpX := Addr → Value → Option Addr → Sp
structure OkX (P : Program) (w : World) (K : PySem.W.Frag) (mg : Str → Option Value) (base : Heap) (k : Nat) (x : Str) (st : Stmt) (ps : List Str) (sp : SpX) : Prop where
  mk ::
  ex : ∃ f fd, L2.Fun K x x st f fd ∧ mg x = some (.ref f) ∧
    (∀ (A : Around) (outer : List Env) (s : Shared) (H : Hp) (args : Args) (us : List Value) (vs : List V) (Q : VK) (E : XK) (a : Addr) (oe : Obj) (cls : Value) (d : Option Addr),
      A.guards = some [] → L2H.RoomH k A → A.handled = some (.ref a) → L2H.PinOk outer H s (a, oe) → Zc cls d oe → (∃ fs, oe.data = .fields fs) → Env0 P w K mg base A outer s H → BindsTo s fd args (ps.zip us) → Vals vs us → sp a cls d vs H Q E →
        codeAny (model P w) A (.call (.ref f) args) (CR (CX P w) outer P w H s Q E) s)
  len : ∀ a cls d vs H Q E, sp a cls d vs H Q E → vs.length = ps.length
theorem mark_hot {A : Around} {a : Addr} (h : A.handled = some (.ref a)) : A.mark (some (.ref a)) = A := by
  cases A
  cases h
  rfl
section
variable {P : Program} {w : World} {K : PySem.W.Frag} {mg : Str → Option Value} {base : Heap} {k j : Nat} {x : Str} {st : Stmt} {ps N : List Str} {sp sp' : SpX}
theorem OkX.mono (G : OkX P w K mg base j x st ps sp) (h : j ≤ k) : OkX P w K mg base k x st ps sp := by
  obtain ⟨⟨f, fd, F, g, r⟩, l⟩ := G
  exact ⟨⟨f, fd, F, g, fun A outer s H args us vs Q E a oe cls d hg hr => r A outer s H args us vs Q E a oe cls d hg (hr.mono h)⟩, l⟩
theorem At.okX (t0 : At K mg x st) (S : FnScope N ps (defScope st)) (len : ∀ a cls d vs H Q E, sp a cls d vs H Q E → vs.length = ps.length)
    (hbody : ∀ (f : Addr) (cdv : Value) (A : Around) (outer : List Env) (s : Shared) (H : Hp) (vs : List V) (Q : VK) (E : XK) (a : Addr) (oe : Obj) (cls : Value) (d : Option Addr),
      (A.deeper (envOfC x (defScope st) s.heap.objs.size f cdv)).guards = some [] → L2H.RoomH k (A.deeper (envOfC x (defScope st) s.heap.objs.size f cdv)) → Zc cls d oe → (∃ fs, oe.data = .fields fs) → sp a cls d vs H Q E →
      ∃ t, PSs ((cxOf (CX P w) P w K mg base N x (defScope st) f cdv A outer s H E).suite a [(a, oe)]) (defBody st) t ∧
        t { nx := fun _ H' => Q .non H', rt := Q } (L2.start N vs) H) : OkX P w K mg base (k + 1) x st ps sp := by
  obtain ⟨f, fd, F, g⟩ := t0
  have F2 := F
  obtain ⟨⟨oc, od, kV, doc, pm, an, cdv, ct, osl, rfl, lk, hcd⟩, kp⟩ := F
  refine ⟨⟨f, _, F2, g, fun A outer s H args us vs Q E a oe cls d hg hr hot pin hz hv e0 hb r hsp => ?_⟩, len⟩
  have hl := len _ _ _ _ _ _ _ hsp
  have stay : ∀ b o, base.get? b = some o → s.heap.get? b = some o := fun b o e => (e0.bs b o e).1
  have KX : K.In s.heap := e0.mod.kin.keeps stay
  refine codeAny_call_function hr.depth (KX _ _ lk) rfl S.co S.gen rfl (PySem.W.codeRec_of KX hcd) (hb _ _ _ _ ?_)
  refine wpAny_newFunctionEnv_cells S.kind (fun ⟨n, v⟩ hy => ?_) fun env he s1 x1 => ?_
  · rcases S.par n (List.of_mem_zip hy).1 with q | q
    · exact Or.inl q
    · exact Or.inr ⟨q, PySem.W.cellsFrom_some _ _ _ (Or.inl q)⟩
  subst he
  have lim : s.heap.NoLimit := e0.mod.nolimit.keeps stay
  refine ⟨lim.keeps x1.toInCall.keep, codeAny_func ?_⟩
  obtain ⟨t, ht, hq⟩ := hbody f cdv A outer s H vs Q E a oe cls d hg (hr.deeper _) hz hv hsp
  have I0 := (L2H.inv_startH (CX := CX P w) (E := E) S pin e0 hl r x1).toTry fun _ _ => False
  have eA : (A.deeper (envOfC x (defScope st) s.heap.objs.size f cdv)).mark (some (.ref a)) = A.deeper (envOfC x (defScope st) s.heap.objs.size f cdv) := mark_hot hot
  have eY : (cxOf (CX P w) P w K mg base N x (defScope st) f cdv A outer s H E).suite a [(a, oe)] = { L2H.cxH (CX P w) P w K mg base N x (defScope st) f cdv A outer s H E (a, oe) with xe := fun _ _ => False } := by
    show ({ cxOf (CX P w) P w K mg base N x (defScope st) f cdv A outer s H E with A := (A.deeper (envOfC x (defScope st) s.heap.objs.size f cdv)).mark (some (.ref a)), calm := false, pn := [(a, oe)], xe := fun _ _ => False } : Cx) = _
    rw [eA]
    rfl
  rw [eY] at ht
  refine wpAny_mono (ht.run [] s1 _ H _ I0 hq) (fun fl s' hs => ?_) fun e s' hs => False.elim hs
  cases fl with
  | ret u =>
    obtain ⟨v, σ', H', J, rv, q⟩ := hs
    exact ⟨v, H', J.os, J.bare, J.base, J.hok, rv, q⟩
  | next =>
    obtain ⟨σ', H', J, q⟩ := hs
    exact ⟨V.non, H', J.os, J.bare, J.base, J.hok, rfl, q⟩
  | brk =>
    obtain ⟨_, _, _, z⟩ := hs
    exact (show False from z).elim
  | cont =>
    obtain ⟨_, _, _, z⟩ := hs
    exact (show False from z).elim
end
/-- f(e, ..) within the clause -/
def tCallX (sp : SpX) (a : Addr) (cls : Value) (d : Option Addr) (t : TA) : TE := fun σ H Q => t σ H fun vs H1 => sp a cls d vs H1 Q fun _ _ _ => False
section
variable {X : Cx} {k : Nat} {ps : List Str} {sp : SpX} {x : Str} {st : Stmt} {p pos : Pos} {e : Expr} {es : List Expr} {t : TA} {a : Addr} {oe : Obj} {cls : Value} {d : Option Addr} {pn : List (Addr × Obj)}
theorem pe_gX (G : OkX X.prog X.w X.K X.mg X.base k x st ps sp) (b : ∀ f fd, L2.Fun X.K x x st f fd → L2.Binds X.K fd ps [])
    (hg : X.A.guards = some []) (hr : L2H.RoomH k X.A) (hz : Zc cls d oe) (hv : ∃ fs, oe.data = .fields fs) (gl : Gl X x) (ha : PA (X.suite a ((a, oe) :: pn)) (e :: es) t)
    (hdb : (x == ("__debug__" : Str)) = false := by decide)
    (he : starEach (e :: es) X.env = (false, eval e X.env) :: starEach es X.env := by rfl)
    (hpl : (backTo pos (starEach es X.env)).any (·.1) = false := by rfl) :
    PE (X.suite a ((a, oe) :: pn)) (.Call (.Name x p) (e :: es) [] pos) (tCallX sp a cls d t) := by
  obtain ⟨⟨f, fd, F, hm, r⟩, l⟩ := G
  refine ⟨fun pins s σ H Q I h => wpAny_Call_Name_kw (ld_glob (X := X.suite a ((a, oe) :: pn)) I gl hm ?_ hdb)⟩
  refine PySem.W.callWith_K (h₀ := X.base) I.ok.mod.kin F.kp (thn (ha.run pos pins s σ H _ I h) fun us s1 ⟨vs, H1, I1, r1, q1⟩ => ⟨I1.kIn, ?_⟩) he hpl
  have hl : us.length = ps.length := r1.length.symm.trans (l _ _ _ _ _ _ _ q1)
  have bb := b f fd F s1 us I1.kIn (by rw [List.append_nil]; exact hl)
  rw [List.append_nil] at bb
  have pin := I1.pin (a, oe) (List.mem_append_left _ List.mem_cons_self)
  have po : L2H.PinOk X.stack H1 s1 (a, oe) := ⟨pin.1, pin.2.1, fun z => (List.mem_cons.mp (I1.stkSub a z)).elim pin.2.2.1 pin.2.2.2.1, pin.2.2.2.2⟩
  have go := r (X.suite a ((a, oe) :: pn)).A X.stack s1 H1 ⟨us, []⟩ us vs Q (fun _ _ _ => False) a oe cls d hg ⟨hr.dp, hr.un⟩ rfl po hz hv I1.env0 bb r1 q1
  refine wpAny_call (codeAny_mono go fun z s' hq => ?_)
  rcases z with er | fl
  · obtain ⟨_, _, _, _, _, _, _, _, _, _, _, _, no⟩ := hq
    exact no
  · cases fl with
    | ret u => exact I1.after hq
    | next => exact hq
    | brk => exact hq
    | cont => exact hq
end
end Vf
namespace Vf
open PySem PySem.Spec PyProof.Rows L2
/-- isinstance(e, c) where the exception's class is known only when the clause runs -/
def rIsY (K : PySem.W.Frag) (a : Addr) (cls : Value) (d : Option Addr) : List V → Hp → VK → Prop := fun xs H Q => ∃ (D : Addr) (c : V) (cv : Value) (b : Bool), cls = .ref D ∧ ExcC K D ∧ xs = [.ref a, c] ∧ (∀ u, RelV c u → u = cv) ∧ PySem.W.kitOne K (.ref D) cv = some b ∧
  (∀ dd, d = some dd → ∃ fs, H dd = some (.xd fs)) ∧ Q (.bl b) H
theorem cr_isY {X : Cx} {a : Addr} {cls : Value} {d : Option Addr} {oe : Obj} {pn : List (Addr × Obj)} (hz : Zc cls d oe) (hv : ∃ vs, oe.data = .fields vs) : CallR (X.suite a ((a, oe) :: pn)) (.builtin "isinstance") (rIsY X.K a cls d) := by
  intro pins s σ H xs us Q I r h
  obtain ⟨D, c, cv, b, rfl, C, rfl, hcv, e, hd, q⟩ := h
  obtain @⟨_, _⟩ | @⟨_, _, _, _, rx, rr⟩ := r
  cases rr with
  | cons rt rn =>
  cases rn
  cases rx
  obtain rfl := hcv _ rt
  have here := (I.pin (a, oe) (List.mem_append_left _ List.mem_cons_self)).1
  obtain ⟨vs, hvs⟩ := hv
  have J : ∃ od, PySem.W.InstAt s.heap a oe D od := by
    obtain ⟨oc, od, oda, osl⟩ := oe
    obtain ⟨h1, h2⟩ := hz
    dsimp only at h1 h2 hvs
    subst h1 h2 hvs
    cases od with
    | none => exact ⟨none, here, rfl, rfl, trivial⟩
    | some dd =>
      obtain ⟨fs, hx⟩ := hd dd rfl
      obtain ⟨mA, hns, _⟩ := (I.hok dd _ hx : ObjOk X.prog X.w H s.heap dd (.xd fs))
      obtain ⟨o, ho, _⟩ := lookIn_ns hns
      exact ⟨some o, here, rfl, rfl, ho⟩
  obtain ⟨od, J⟩ := J
  exact PySem.W.kia_one (kit_exc C) I.kIn J e (fun z => nomatch z) fun tk => ⟨.bl b, H, I.kept (t' := tk) fun _ _ z => z, rfl, q⟩
end Vf

/-! ## range(a, b) of ints of any size -/
namespace Vf
open PySem PySem.Spec PyProof.Rows L2
theorem turn_long {P : Program} {w : World} {K : PySem.W.Frag} {tg : Expr} (q : Addr) (z : Int) (m : Nat) : Turn P w K tg (Itr z m) [q] q (fun j g => IsLongIter g q (z + (j : Nat) * 1) ((m : Int) - (j : Nat)) 1) where
  mem := List.mem_singleton.mpr rfl
  self := fun _ _ _ _ _ here r => wpAny_pyIter_longiter here r
  keep := fun _ _ _ here up => up q (List.mem_singleton.mpr rfl) _ here
  obj := by
    intro j g here b hb
    obtain rfl := List.mem_singleton.mp hb
    refine ⟨_, here, fun v y => ?_⟩
    have : Data.fields _ = Data.cell v := y
    cases this
  done := by
    rintro X rfl rfl rfl calm j pins s σ H E I room here over
    have over : m ≤ j := over
    have ⟨r0, r1, _, r3, r4, r5⟩ := room q (List.mem_singleton.mpr rfl)
    refine wpAny_pyNext_long_end (I.ok.hd calm) here (by omega) fun g eb => ⟨rfl, ?_⟩
    exact I.turned (t' := s.toks) (fun b o ne e => eb b o ne e) r0 r1 r3 r4 r5
  item := by
    rintro X rfl rfl rfl calm j pins s σ H E I room here more
    have ⟨r0, r1, _, r3, r4, r5⟩ := room q (List.mem_singleton.mpr rfl)
    refine (Walks.longrange (prog := X.prog) (w := X.w) (I.ok.hd calm) q z 1 m).item j s _ _ more here fun v g k hv there same => ?_
    obtain ⟨t, rfl⟩ := hv
    have I2 : Inv X pins σ H { s with heap := g, toks := k } := I.turned (fun b o ne e => same b o (fun y => ne (List.mem_singleton.mp y)) e) r0 r1 r3 r4 r5
    have val : RelV (V.int (z + j)) (Value.int (z + (j : Int) * 1) t) := ⟨t, by rw [Int.mul_one]⟩
    exact ⟨_, rfl, go_of (s := { s with heap := g, toks := k }) (n := "longrange_iterator") there rfl rfl (by decide) ⟨_, H, I2, val, ⟨rfl, rfl⟩, there, fun b hb => (room b hb).1⟩⟩
section
variable {X : Cx} {tg : Expr}
theorem range_any {pins : List (Addr × Obj)} {σ : L2.St} {H : Hp} {s : Shared} {R : It → Hp → Prop} {E : Value → Shared → Prop} {a b : Int} {t u v : Tok} {k : Nat} (I : Inv X pins σ H s) (r : R (Itr a (b - a).toNat) H) :
    wpAny (model X.prog X.w) X.A (pyIter (.ref s.heap.objs.size)) (PIE X pins σ tg R) E { s with heap := s.heap.push { cls := .type "range", data := .fields #[.int a t, .int b u, .int 1 v] }, toks := k } := by
  have len : Builtin.Range.rangeSize a b 1 = (((b - a).toNat : Nat) : Int) - ((0 : Nat) : Int) := by
    rw [rangeSize_one]
    split <;> omega
  have I2 : Inv X pins σ H { s with heap := s.heap.push { cls := .type "range", data := .fields #[.int a t, .int b u, .int 1 v] }, toks := k } := I.kept fun _ _ e => Heap.get?_push_of_some _ e
  have first : a + ((0 : Nat) : Int) * 1 = a := by omega
  cases small : Builtin.Range.small a b 1 with
  | true =>
    refine wpAny_pyIter_range (IsRange.new ..) small ⟨_, [_], _, _, H, rfl, I2.kept (t' := k) fun _ _ e => Heap.get?_push_of_some _ e, turn_range _ a (b - a).toNat, ?_, fun p hp => ?_, r⟩
    · show IsRangeIter _ _ (a + ((0 : Nat) : Int) * 1) ((((b - a).toNat : Nat) : Int) - ((0 : Nat) : Int)) 1
      rw [first, ← len]
      exact Heap.get?_push_size _ rfl
    · rw [List.mem_singleton.mp hp]
      exact I2.fpOk (Nat.le_refl _) (I2.hok.fresh (Nat.le_refl _))
  | false =>
    refine wpAny_pyIter_longrange (IsRange.new ..) small ⟨_, [_], _, _, H, rfl, I2.kept (t' := k) fun _ _ e => Heap.get?_push_of_some _ e, turn_long _ a (b - a).toNat, ?_, fun p hp => ?_, r⟩
    · show IsLongIter _ _ (a + ((0 : Nat) : Int) * 1) ((((b - a).toNat : Nat) : Int) - ((0 : Nat) : Int)) 1
      rw [first, ← len]
      exact Heap.get?_push_size _ rfl
    · rw [List.mem_singleton.mp hp]
      exact I2.fpOk (Nat.le_refl _) (I2.hok.fresh (Nat.le_refl _))
/-- the wish of `for x in range(a, b)`, the ends of any size -/
def iRngA (ta : TA) : TI := fun σ H R => ta σ H fun vs H1 => ∃ a b : Int, vs = [.int a, .int b] ∧ R (Itr a (b - a).toNat) H1
theorem pi_rangeA {a b : Expr} {ta : TA} {p pos : Pos} (gl : Gl X "range") (hm : X.mg "range" = none) (ha : PA X [a, b] ta) (e2 : starEach [a, b] X.env = [(false, eval a X.env), (false, eval b X.env)] := by rfl) (e1 : starEach [b] X.env = [(false, eval b X.env)] := by rfl) :
    PI X tg (.Call (.Name "range" p) [a, b] [] pos) (iRngA ta) := by
  refine ⟨fun pins s σ H R I w => Call_ (ld_blt I gl hm boot_range (PyProof.Rows.callWith_type1 (thn (ha.run pos pins s σ H _ I w) fun us s2 h => ?_) (by rw [e2, e1]) (by rw [e1]; rfl)))⟩
  obtain ⟨vs, H2, I2, rel, x, y, rfl, q⟩ := h
  obtain @⟨_, _⟩ | @⟨_, _, _, _, rx, rest⟩ := rel
  cases rest with
  | cons ry nil =>
  cases nil
  obtain ⟨t, rfl⟩ := rx
  obtain ⟨u, rfl⟩ := ry
  exact call_range_2 (range_any I2 q)
end
end Vf

/-! ## bools counted in a list; a caught exception's field, its class known only at the wish -/
namespace Vf
open PySem PySem.Spec PyProof.Rows L2
theorem bools_vals : ∀ {bs : List Bool} {us : List Value}, Vals (bs.map V.bl) us → us = bs.map Value.bool
  | [], _, .nil => rfl
  | b :: bs, _, .cons h r => by
    have e : _ = Value.bool b := h
    rw [bools_vals r, e]
    rfl
def isB (k : Bool) : Value → Bool
  | .bool b => b == k
  | _ => false
theorem isB_count (k : Bool) : ∀ bs : List Bool, (bs.map Value.bool).countP (isB k) = bs.count k
  | [] => rfl
  | b :: bs => by
    rw [List.map_cons, List.countP_cons, List.count_cons, isB_count k bs]
    rfl
def rCntB (K : PySem.W.Frag) : V → List V → Hp → VK → Prop := fun x xs H Q => ∃ (p : Addr) (bs : List Bool) (k : Bool), x = .ref p ∧ xs = [.bl k] ∧ SqL K H p (bs.map V.bl) ∧ Q (.int (bs.count k : Nat)) H
section
variable {X : Cx}
theorem mt_countB : MtR X "list.count" (rCntB X.K) := by
  intro pins s σ H x xs v us Q I rx rxs h
  obtain ⟨p, bs, k, rfl, rfl, sq, q⟩ := h
  cases rx
  obtain ⟨u, rfl, ru⟩ := rxs.one
  cases ru
  obtain ⟨its, rv, ⟨⟨cls, dd, data, sl⟩, n, ho, hc, hdn, hd⟩, _⟩ := I.list sq
  simp only at hc hd
  subst hc hd
  obtain rfl := bools_vals rv
  refine call_meets PySem.F.slot_list_count ⟨_, ho, rfl⟩ PySem.F.entry_list_count (PySem.F.args_list_count_2 _ _) (SeqAt.list_countAt p (bs.map Value.bool).toArray n dd sl (.bool k) (isB k)) ⟨ho, fun y hy => ?_, ?_⟩
  · obtain ⟨b, _, rfl⟩ := List.mem_map.mp (show y ∈ bs.map Value.bool by simpa using hy)
    exact SeqAt.EqAt.bool_bool b k
  · refine ⟨.int (bs.count k : Nat), H, I.tok _, ⟨s.toks, ?_⟩, q⟩
    show Value.int (((bs.map Value.bool).toArray.toList.countP (isB k) : Nat) : Int) s.toks = Value.int ((bs.count k : Nat) : Int) s.toks
    rw [show (bs.map Value.bool).toArray.toList = bs.map Value.bool from rfl, isB_count]
end
/-- e.n where the class is known only when the clause runs -/
def tXfY (K : PySem.W.Frag) (a : Addr) (cls : Value) (d : Option Addr) (n : Str) (te : TE) : TE := fun σ H Q => te σ H fun x H1 => x = .ref a ∧ ∃ (C dd : Addr) (fs : List (Str × V)) (v : V), cls = .ref C ∧ XfC K C ∧ PySem.W.findIn K (.ref C) n = some none ∧ d = some dd ∧ H1 dd = some (.xd fs) ∧ fs.lookup n = some v ∧ Q v H1
theorem pe_xfY {X : Cx} {a : Addr} {oe : Obj} {cls : Value} {d : Option Addr} {pn : List (Addr × Obj)} {e : Expr} {te : TE} {pos : Pos} {n : Str} (hz : Zc cls d oe) (hv : ∃ vs, oe.data = .fields vs) (he : PE (X.suite a ((a, oe) :: pn)) e te)
    (hb : attributeBase e n X.env (eval e X.env) = eval e X.env := by rfl) : PE (X.suite a ((a, oe) :: pn)) (.Attribute e n pos) (tXfY X.K a cls d n te) := by
  refine ⟨fun pins s σ H Q I h => attr_of hb (thn (he.run pins s σ H _ I h) fun u t y => ?_)⟩
  obtain ⟨x, G, J, rx, rfl, C, dd, fs, v, rfl, T, no, rfl, eq, lk, q⟩ := y
  obtain rfl : u = Value.ref a := rx
  have here := (J.pin (a, oe) (List.mem_append_left _ List.mem_cons_self)).1
  obtain ⟨vs, hvs⟩ := hv
  obtain ⟨mA, hns, hr⟩ := (J.hok dd _ eq : ObjOk X.prog X.w G t.heap dd (.xd fs))
  obtain ⟨od, ho, hl⟩ := lookIn_ns hns
  obtain ⟨w, hw, rw_⟩ := RelO.some_of (v := v) (o := mA n) (by rw [← lk]; exact hr n)
  have inst : PySem.W.InstAt t.heap a oe C (some od) := ⟨here, hz.1, by unfold PySem.W.notCls; rw [hvs] <;> rfl, by rw [hz.2]; exact ho⟩
  exact HandSPX.exc_get J.kIn inst T.ga T.gg T.exC (PySem.W.findObj_own T.hdC no rfl (by rw [hl, hw])) (handed_of rw_) ⟨v, G, J.tok _, rw_, q⟩
end Vf
namespace Vf
open PySem PySem.Spec PyProof.Rows L2
theorem unH {k : Nat} {A : Around} (h : L2H.RoomH k A) : A.units + 64 < cLine := by
  have := h.un
  omega
theorem r_isY {K : PySem.W.Frag} {H : Hp} {Q : VK} {a D : Addr} {d : Option Addr} {c : V} {cv : Value} {b : Bool} (C : ExcC K D) (e : PySem.W.kitOne K (.ref D) cv = some b) (hc : ∀ u, RelV c u → u = cv) (hd : ∀ dd, d = some dd → ∃ fs, H dd = some (.xd fs)) (q : Q (.bl b) H) :
    rIsY K a (.ref D) d [.ref a, c] H Q := ⟨D, c, cv, b, rfl, C, rfl, hc, e, hd, q⟩
end Vf
namespace Vf
open PySem PySem.Spec PyProof.Rows L2
theorem unM {k : Nat} {A : Around} {h : Option Value} (r : L2H.RoomH k A) : (A.mark h).units + 64 < cLine := unH (A := A) r
end Vf
namespace Vf
open PySem PySem.Spec PyProof.Rows L2
theorem r_forA {ta : TA} {g : TG} {tb : TS} {D : Ends} {σ : L2.St} {H : Hp} (h : ta σ H fun ws H1 => ∃ i j : Int, ws = [.int i, .int j] ∧ tFor (fun _ H2 R => R (Itr i (j - i).toNat) H2) g tb D σ H1) : tFor (iRngA ta) g tb D σ H := by
  unfold tFor iRngA
  exact h
theorem r_lcA {ta : TA} {g : TG} {tt : TT} {te : TE} {vs : List Nat} {σ : L2.St} {H : Hp} {Q : VK} (h : ta σ H fun ws H1 => ∃ i j : Int, ws = [.int i, .int j] ∧ tLc (fun _ H2 R => R (Itr i (j - i).toNat) H2) g tt te vs σ H1 Q) : tLc (iRngA ta) g tt te vs σ H Q := by
  unfold tLc iRngA
  exact h
end Vf

/-! ## repr of any value -/
namespace Vf
open PySem PySem.Spec PyProof.Rows L2
def rReprS (K : PySem.W.Frag) : List V → Hp → VK → Prop := fun vs H Q => (vs = [.non] ∧ Q (.str (Str.ofString "None")) H) ∨ (∃ b : Bool, vs = [.bl b] ∧ Q (.str (if b then Str.ofString "True" else Str.ofString "False")) H) ∨
  (∃ i : Int, vs = [.int i] ∧ i.natAbs.log2 < 1920 ∧ Q (.str (Str.ofString (toString i))) H) ∨ (∃ x : Str, vs = [.str x] ∧ (reprText x).length ≤ sizeLine ∧ Q (.str (reprText x)) H) ∨ rRepr K vs H Q
section
variable {X : Cx} {K : PySem.W.Frag}
theorem c_reprS (e : X.K = K) (hg : X.A.guards = some []) (hu : X.A.units + 64 < cLine) : CallR X (.builtin "repr") (rReprS K) := by
  subst e
  intro pins s σ H xs us Q I r h
  have kept : ∀ {t : Nat}, Inv X pins σ H { s with toks := t } := fun {t} => I.kept (t' := t) fun _ _ z => z
  rcases h with ⟨rfl, q⟩ | ⟨b, rfl, q⟩ | ⟨i, rfl, hi, q⟩ | ⟨x, rfl, hx, q⟩ | h
  · obtain ⟨u, rfl, r1⟩ := Vals.one r
    cases r1
    exact PySem.P.repr_of_none ⟨.str (Str.ofString "None"), H, kept, ⟨_, rfl⟩, q⟩
  · obtain ⟨u, rfl, r1⟩ := Vals.one r
    cases r1
    exact PySem.P.repr_of_bool ⟨.str (if b then Str.ofString "True" else Str.ofString "False"), H, kept, ⟨_, rfl⟩, q⟩
  · obtain ⟨u, rfl, r1⟩ := Vals.one r
    obtain ⟨t, rfl⟩ := r1
    exact PySem.P.repr_of_int hi ⟨.str (Str.ofString (toString i)), H, kept, ⟨_, rfl⟩, q⟩
  · obtain ⟨u, rfl, r1⟩ := Vals.one r
    obtain ⟨t, rfl⟩ := r1
    exact PySem.P.repr_of_str ⟨.str (reprText x), H, kept, ⟨_, rfl⟩, q⟩ hx
  · exact cr_repr hg hu pins s σ H xs us Q I r h
end
theorem r_reprBl {K : PySem.W.Frag} {H : Hp} {Q : VK} {b : Bool} (h : Q (.str (if b then Str.ofString "True" else Str.ofString "False")) H) : rReprS K [.bl b] H Q := .inr (.inl ⟨b, rfl, h⟩)
theorem r_reprIn {K : PySem.W.Frag} {H : Hp} {Q : VK} {i : Int} (hi : i.natAbs.log2 < 1920) (h : Q (.str (Str.ofString (toString i))) H) : rReprS K [.int i] H Q := .inr (.inr (.inl ⟨i, rfl, hi, h⟩))
theorem r_reprRef {K : PySem.W.Frag} {H : Hp} {Q : VK} {vs : List V} (h : rRepr K vs H Q) : rReprS K vs H Q := .inr (.inr (.inr (.inr h)))
end Vf

namespace Vf
open PySem
/-! ## whether an exception of an own class is of a kind -/
theorem kit_cls {K : PySem.W.Frag} {C D : Addr} {b : Bool} (h1 : PySem.W.hasDictIn K D = true) (h2 : PySem.W.typeIn K (.ref D) = some (.type "type"))
    (h3 : PySem.W.subIn K (.ref C) (.ref C) = some true) (h4 : PySem.W.subIn K (.ref C) (.ref D) = some b) : PySem.W.kitOne K (.ref C) (.ref D) = some b := by
  obtain ⟨cd, hc, _⟩ := PySem.W.any_some h1
  unfold PySem.W.kitOne
  by_cases e : C = D
  · subst e
    rw [h3] at h4
    rw [if_pos (beq_self_eq_true _)]
    exact h4
  · rw [if_neg (fun z => e (Value.ref.inj (eq_of_beq z)))]
    unfold PySem.W.kitCls
    dsimp only
    rw [if_pos (by rw [h2, hc] <;> rfl)]
    exact h4
theorem kit_typ {K : PySem.W.Frag} {C : Addr} {x : String} {b : Bool} (h1 : PySem.W.kitMeta x = true) (h2 : PySem.W.subIn K (.ref C) (.type x) = some b) : PySem.W.kitOne K (.ref C) (.type x) = some b := by
  unfold PySem.W.kitOne
  rw [if_neg (by intro z; have y := eq_of_beq z; cases y)]
  unfold PySem.W.kitCls
  dsimp only
  rw [if_pos h1]
  exact h2
end Vf

namespace Vf
/-! ## tables of rests, by their differences -/
/-- how many ways to choose k of x -/
def bin : Nat → Nat → Nat
  | _, 0 => 1
  | 0, _ + 1 => 0
  | x + 1, k + 1 => bin x k + bin x (k + 1)
def fac : Nat → Nat
  | 0 => 1
  | n + 1 => (n + 1) * fac n
theorem fac_pos : ∀ n, 0 < fac n
  | 0 => Nat.one_pos
  | n + 1 => Nat.mul_pos (Nat.succ_pos n) (fac_pos n)
theorem bin_zero (x : Nat) : bin x 0 = 1 := by cases x <;> rfl
theorem bin_step (x k : Nat) : bin (x + 1) (k + 1) = bin x k + bin x (k + 1) := rfl
theorem bin_next : ∀ (x k : Nat), ((k : Int) + 1) * (bin x (k + 1) : Int) = ((x : Int) - k) * (bin x k : Int)
  | 0, 0 => by simp [bin]
  | 0, k + 1 => by simp [bin]
  | x + 1, 0 => by
    have h := bin_next x 0
    rw [bin_zero] at h
    rw [bin_step, bin_zero, bin_zero]
    push_cast at *
    grind
  | x + 1, k + 1 => by
    have h1 := bin_next x k
    have h2 := bin_next x (k + 1)
    rw [bin_step, bin_step]
    push_cast at *
    grind
/-- x * (x - 1) * .., k of them, from x - j on -/
def ffj : Int → Nat → Int → Int
  | _, 0, _ => 1
  | j, k + 1, x => (x - j) * ffj (j + 1) k x
theorem ffj_last : ∀ (j : Int) (k : Nat) (x : Int), ffj j (k + 1) x = ffj j k x * (x - j - k)
  | j, 0, x => by simp [ffj]
  | j, k + 1, x => by
    rw [ffj, ffj_last (j + 1) k x, ffj]
    have : ((k + 1 : Nat) : Int) = (k : Int) + 1 := rfl
    rw [this]
    grind
theorem ff_bin (x : Nat) : ∀ k : Nat, ffj 0 k (x : Int) = (fac k : Int) * (bin x k : Int)
  | 0 => by rw [bin_zero]; rfl
  | k + 1 => by
    rw [ffj_last, ff_bin x k, Int.sub_zero]
    have h := bin_next x k
    have e : ((fac (k + 1) : Nat) : Int) = ((k : Int) + 1) * (fac k : Int) := by
      show (((k + 1) * fac k : Nat) : Int) = _
      push_cast
      rfl
    rw [e]
    grind
theorem nval_snoc : ∀ (p : List Int) (c j x : Int), nval (p ++ [c]) j x = nval p j x + c * ffj j p.length x
  | [], c, j, x => by simp [nval, ffj]
  | a :: p, c, j, x => by
    rw [List.cons_append, nval, nval_snoc p c (j + 1) x, nval, List.length_cons, ffj]
    grind
/-- a sum over the ways to choose -/
def nw (G : Nat → Int) : Nat → Nat → Int
  | 0, _ => 0
  | m + 1, x => nw G m x + G m * (bin x m : Int)
theorem nw_zero (G : Nat → Int) : ∀ m, 0 < m → nw G m 0 = G 0
  | 1, _ => by simp [nw, bin]
  | m + 2, _ => by
    rw [nw, nw_zero G (m + 1) (by omega)]
    simp [bin]
theorem nw_step (G : Nat → Int) (x : Nat) : ∀ m, nw G (m + 1) (x + 1) = nw G (m + 1) x + nw (fun k => G (k + 1)) m x
  | 0 => by simp [nw, bin_zero]
  | m + 1 => by
    rw [nw, nw_step G x m, nw.eq_def G (m + 1 + 1) x]
    simp only [nw]
    rw [bin_step]
    push_cast
    grind
theorem nw_sub (F G : Nat → Int) (x : Nat) : ∀ m, nw (fun k => F k - G k) m x = nw F m x - nw G m x
  | 0 => rfl
  | m + 1 => by
    simp only [nw, nw_sub F G x m]
    grind
theorem nw_dvd {n : Int} {G : Nat → Int} {x : Nat} : ∀ {m : Nat}, (∀ k < m, n ∣ G k) → n ∣ nw G m x
  | 0, _ => Int.dvd_zero n
  | m + 1, h => by
    rw [nw]
    exact Int.dvd_add (nw_dvd fun k hk => h k (by omega)) (Int.dvd_trans (h m (by omega)) (Int.dvd_mul_right ..))
/-- nothing but multiples of n -/
theorem nw_none {n : Int} : ∀ (m : Nat) (G : Nat → Int), (∀ x < m, n ∣ nw G m x) → ∀ k < m, n ∣ G k
  | 0, _, _, k, hk => absurd hk (by omega)
  | m + 1, G, h, k, hk => by
    cases k with
    | zero =>
      have := h 0 (by omega)
      rwa [nw_zero G (m + 1) (by omega)] at this
    | succ k =>
      refine nw_none m (fun k => G (k + 1)) (fun x hx => ?_) k (by omega)
      have h1 := h x (by omega)
      have h2 := h (x + 1) (by omega)
      rw [nw_step] at h2
      have := Int.dvd_sub h2 h1
      rwa [show nw G (m + 1) x + nw (fun k => G (k + 1)) m x - nw G (m + 1) x = nw (fun k => G (k + 1)) m x by omega] at this
theorem getD_at {s : List Int} {i : Nat} {c : Int} (h : s[i]? = some c) : s.getD i 0 = c := by
  rw [List.getD_eq_getElem?_getD, h]
  rfl
/-- a sum by its steps, at a number from 0 on -/
theorem nval_nw (s : List Int) (x : Nat) : ∀ m, nval (s.take m) 0 (x : Int) = nw (fun k => s.getD k 0 * (fac k : Int)) m x
  | 0 => rfl
  | m + 1 => by
    rw [nw, ← nval_nw s x m]
    by_cases h : m < s.length
    · have e := List.getElem?_eq_getElem h
      have el : (s.take m).length = m := by rw [List.length_take]; omega
      rw [take_nx e, nval_snoc, el, ff_bin, getD_at e, Int.mul_assoc]
    · rw [List.take_of_length_le (by omega), List.take_of_length_le (by omega), getD_out (by omega)]
      simp
theorem nval_nwl (s : List Int) (x m : Nat) (h : s.length ≤ m) : nval s 0 (x : Int) = nw (fun k => s.getD k 0 * (fac k : Int)) m x := by
  rw [← nval_nw, List.take_of_length_le h]
/-- the next row of differences, by n -/
def drow (n : Int) (r : List Int) : List Int := (List.range (r.length - 1)).map fun i => (r.getD (i + 1) 0 - r.getD i 0) % n
theorem drow_len (n : Int) (r : List Int) : (drow n r).length = r.length - 1 := by simp [drow]
theorem drow_at (n : Int) (r : List Int) {i : Nat} (h : i < r.length - 1) : (drow n r).getD i 0 = (r.getD (i + 1) 0 - r.getD i 0) % n := by
  rw [List.getD_eq_getElem?_getD]
  unfold drow
  rw [List.getElem?_map, List.getElem?_range h]
  rfl
/-- the firsts of a row, of its differences, and so on -/
def firsts (n : Int) : Nat → List Int → List Int
  | 0, _ => []
  | m + 1, r => r.getD 0 0 :: firsts n m (drow n r)
theorem firsts_len (n : Int) : ∀ (m : Nat) (r : List Int), (firsts n m r).length = m
  | 0, _ => rfl
  | m + 1, r => by rw [firsts, List.length_cons, firsts_len n m]
theorem sub_mod (n a : Int) : n ∣ a % n - a := ⟨-(a / n), by
  have := Int.mul_ediv_add_emod a n
  grind⟩
theorem firsts_nw (n : Int) : ∀ (m : Nat) (r : List Int), r.length = m → ∀ x < m, n ∣ nw (fun k => (firsts n m r).getD k 0) m x - r.getD x 0
  | 0, _, _, x, hx => absurd hx (by omega)
  | m + 1, r, hl, 0, hx => by
    rw [nw_zero _ (m + 1) (by omega)]
    show n ∣ r.getD 0 0 - r.getD 0 0
    rw [Int.sub_self]
    exact Int.dvd_zero n
  | m + 1, r, hl, x + 1, hx => by
    have h1 := firsts_nw n (m + 1) r hl x (by omega)
    have h2 := firsts_nw n m (drow n r) (by rw [drow_len]; omega) x (by omega)
    rw [drow_at n r (by omega)] at h2
    have h3 := sub_mod n (r.getD (x + 1) 0 - r.getD x 0)
    rw [nw_step]
    have h4 := Int.dvd_add (Int.dvd_add h1 h2) h3
    have e : nw (fun k => (firsts n (m + 1) r).getD (k + 1) 0) m x = nw (fun k => (firsts n m (drow n r)).getD k 0) m x := rfl
    rw [e]
    have e2 : nw (fun k => (firsts n (m + 1) r).getD k 0) (m + 1) x - r.getD x 0 + (nw (fun k => (firsts n m (drow n r)).getD k 0) m x - (r.getD (x + 1) 0 - r.getD x 0) % n) + ((r.getD (x + 1) 0 - r.getD x 0) % n - (r.getD (x + 1) 0 - r.getD x 0)) = nw (fun k => (firsts n (m + 1) r).getD k 0) (m + 1) x + nw (fun k => (firsts n m (drow n r)).getD k 0) m x - r.getD (x + 1) 0 := by omega
    rw [e2] at h4
    exact h4
def gk (n k : Nat) : Nat := Nat.gcd n (fac k)
def sz (n k : Nat) : Nat := n / gk n k
theorem gk_pos {n : Nat} (k : Nat) (hn : 0 < n) : 0 < gk n k := Nat.gcd_pos_of_pos_left _ hn
theorem sz_mul (n k : Nat) : sz n k * gk n k = n := Nat.div_mul_cancel (Nat.gcd_dvd_left _ _)
theorem sz_pos {n : Nat} (k : Nat) (hn : 0 < n) : 0 < sz n k := by
  have h := sz_mul n k
  rcases Nat.eq_zero_or_pos (sz n k) with z | z
  · rw [z, Nat.zero_mul] at h; omega
  · exact z
/-- the multiples: a step times its size is nothing by n -/
theorem sz_fac (n k : Nat) : (n : Int) ∣ (sz n k : Int) * (fac k : Int) := by
  obtain ⟨c, hc⟩ := Nat.gcd_dvd_right n (fac k)
  refine ⟨(c : Int), ?_⟩
  have h := sz_mul n k
  have e : fac k = gk n k * c := hc
  rw [e, ← Int.natCast_mul, ← Int.natCast_mul, ← Nat.mul_assoc, h]
theorem uniq_step {n k : Nat} (hn : 0 < n) {a b : Int} (ha : 0 ≤ a ∧ a < sz n k) (hb : 0 ≤ b ∧ b < sz n k) (h : (n : Int) ∣ (a - b) * (fac k : Int)) : a = b := by
  have hg := gk_pos k hn
  have h1 : n ∣ (a - b).natAbs * fac k := by
    have := Int.natAbs_dvd_natAbs.mpr h
    rwa [Int.natAbs_mul, Int.natAbs_natCast, Int.natAbs_natCast] at this
  obtain ⟨c, hc⟩ := Nat.gcd_dvd_right n (fac k)
  have e : fac k = gk n k * c := hc
  have h2 : sz n k ∣ (a - b).natAbs * c := by
    obtain ⟨d, hd⟩ := h1
    refine ⟨d, Nat.eq_of_mul_eq_mul_left hg ?_⟩
    have h3 := sz_mul n k
    calc gk n k * ((a - b).natAbs * c) = (a - b).natAbs * (gk n k * c) := by grind
      _ = (a - b).natAbs * fac k := by rw [e]
      _ = n * d := hd
      _ = gk n k * (sz n k * d) := by rw [← Nat.mul_assoc, Nat.mul_comm (gk n k), h3]
  have hco : Nat.Coprime (sz n k) c := by
    have := Nat.coprime_div_gcd_div_gcd (m := n) (n := fac k) hg
    have e2 : fac k / Nat.gcd n (fac k) = c := Nat.div_eq_of_eq_mul_right hg e
    rw [e2] at this
    exact this
  have h4 : sz n k ∣ (a - b).natAbs := hco.dvd_of_dvd_mul_right h2
  have h5 : (a - b).natAbs < sz n k := by omega
  have := Nat.eq_zero_of_dvd_of_lt h4 h5
  omega
/-- the steps of a table, within their sizes -/
structure Good (n : Nat) (v f : List Int) : Prop where
  len : f.length = n
  b : ∀ k < n, 0 ≤ f.getD k 0 ∧ f.getD k 0 < sz n k
  v : ∀ x < n, (n : Int) ∣ nval f 0 (x : Int) - v.getD x 0
theorem steps_firsts {n : Nat} {v s : List Int} (hv : v.length = n) (hs : ∀ x < n, (n : Int) ∣ nval s 0 (x : Int) - v.getD x 0) : ∀ k < n, (n : Int) ∣ s.getD k 0 * (fac k : Int) - (firsts n n v).getD k 0 := by
  refine nw_none (n := (n : Int)) n (fun k => s.getD k 0 * (fac k : Int) - (firsts n n v).getD k 0) fun x hx => ?_
  have h1 := hs x hx
  have h2 := firsts_nw n n v hv x hx
  have h3 : nval s 0 (x : Int) = nw (fun k => s.getD k 0 * (fac k : Int)) n x := by
    rcases Nat.le_total s.length n with c | c
    · exact nval_nwl s x n c
    · rw [nval_nwl s x s.length (Nat.le_refl _)]
      -- beyond x nothing is chosen
      have z : ∀ (G : Nat → Int) (m : Nat), x < m → ∀ d, nw G (m + d) x = nw G m x := by
        intro G m hm d
        induction d with
        | zero => rfl
        | succ d ih =>
          rw [← Nat.add_assoc, nw, ih]
          have : bin x (m + d) = 0 := by
            have zz : ∀ (y k : Nat), y < k → bin y k = 0 := by
              intro y
              induction y with
              | zero => intro k hk; cases k with
                | zero => omega
                | succ k => rfl
              | succ y ih => intro k hk; cases k with
                | zero => omega
                | succ k => rw [bin_step, ih k (by omega), ih (k + 1) (by omega)]
            exact zz x (m + d) (by omega)
          rw [this]
          simp
      have := z (fun k => s.getD k 0 * (fac k : Int)) n hx (s.length - n)
      rw [show n + (s.length - n) = s.length by omega] at this
      exact this
  rw [h3] at h1
  rw [nw_sub]
  have := Int.dvd_sub h1 h2
  rwa [show nw (fun k => s.getD k 0 * (fac k : Int)) n x - v.getD x 0 - (nw (fun k => (firsts n n v).getD k 0) n x - v.getD x 0) = nw (fun k => s.getD k 0 * (fac k : Int)) n x - nw (fun k => (firsts n n v).getD k 0) n x by omega] at this
theorem firsts_steps {n : Nat} {v f : List Int} (hv : v.length = n) (hl : f.length = n) (h : ∀ k < n, (n : Int) ∣ f.getD k 0 * (fac k : Int) - (firsts n n v).getD k 0) : ∀ x < n, (n : Int) ∣ nval f 0 (x : Int) - v.getD x 0 := by
  intro x hx
  have h2 := firsts_nw n n v hv x hx
  rw [nval_nwl f x n (by omega)]
  have h3 := nw_dvd (x := x) h
  rw [nw_sub] at h3
  have := Int.dvd_add h3 h2
  rwa [show nw (fun k => f.getD k 0 * (fac k : Int)) n x - nw (fun k => (firsts n n v).getD k 0) n x + (nw (fun k => (firsts n n v).getD k 0) n x - v.getD x 0) = nw (fun k => f.getD k 0 * (fac k : Int)) n x - v.getD x 0 by omega] at this
/-- a step is the one that the table's steps ask for -/
theorem Good.step {n : Nat} {v f : List Int} (g : Good n v f) (hv : v.length = n) {s : List Int} (hs : ∀ x < n, (n : Int) ∣ nval s 0 (x : Int) - v.getD x 0) {k : Nat} (hk : k < n) (hb : 0 ≤ s.getD k 0 ∧ s.getD k 0 < sz n k) : s.getD k 0 = f.getD k 0 := by
  have h1 := steps_firsts hv hs k hk
  have h2 := steps_firsts hv g.v k hk
  refine uniq_step (by omega) hb (g.b k hk) ?_
  have := Int.dvd_sub h1 h2
  rwa [show s.getD k 0 * (fac k : Int) - (firsts n n v).getD k 0 - (f.getD k 0 * (fac k : Int) - (firsts n n v).getD k 0) = (s.getD k 0 - f.getD k 0) * (fac k : Int) by grind] at this
/-- the product of 1, 2, .. by n, as the program takes it on -/
def pf (n : Nat) : Nat → Int
  | 0 => 1
  | i + 1 => (fac i : Int) % (n : Int)
theorem pf_next (n i : Nat) : pf n i * max (i : Int) 1 % (n : Int) = pf n (i + 1) := by
  cases i with
  | zero => rfl
  | succ i =>
    show (fac i : Int) % (n : Int) * max ((i + 1 : Nat) : Int) 1 % (n : Int) = ((fac (i + 1) : Nat) : Int) % (n : Int)
    have e : ((fac (i + 1) : Nat) : Int) = ((i + 1 : Nat) : Int) * (fac i : Int) := by
      show (((i + 1) * fac i : Nat) : Int) = _
      push_cast
      rfl
    rw [e, show max ((i + 1 : Nat) : Int) 1 = ((i + 1 : Nat) : Int) by omega, Int.mul_comm ((i + 1 : Nat) : Int), Int.mul_emod, Int.emod_emod, ← Int.mul_emod]
theorem gcd_pf (n i : Nat) : Nat.gcd (n : Int).natAbs (pf n (i + 1)).natAbs = gk n i := by
  show Nat.gcd n ((fac i : Int) % (n : Int)).natAbs = Nat.gcd n (fac i)
  rw [← Int.natCast_emod, Int.natAbs_natCast, Nat.gcd_comm, ← Nat.gcd_rec]
theorem pf_nat (n i : Nat) : pf n (i + 1) = ((fac i % n : Nat) : Int) := by
  show (fac i : Int) % (n : Int) = _
  rw [Int.natCast_emod]
theorem pf_small {n i : Nat} (hn : 0 < n) : 0 ≤ pf n (i + 1) ∧ pf n (i + 1) < n := by
  rw [pf_nat]
  have := Nat.mod_lt (fac i) hn
  omega
/-- the step that the program reckons -/
theorem step_ok {n i : Nat} (hn : 0 < n) {F u w : Int} (hF : F % (gk n i : Int) = 0) (hu : u * (pf n (i + 1) / (gk n i : Int)) = 1 + (sz n i : Int) * w) :
    (n : Int) ∣ (F / (gk n i : Int) * (u % (sz n i : Int)) % (sz n i : Int)) * (fac i : Int) - F := by
  have hg : (0 : Int) < (gk n i : Int) := by have := gk_pos i hn; omega
  obtain ⟨F', rfl⟩ := Int.dvd_of_emod_eq_zero hF
  rw [Int.mul_ediv_cancel_left _ (by omega)]
  have hpd : (gk n i : Int) ∣ pf n (i + 1) := by
    rw [← gcd_pf n i]
    have := Int.natCast_dvd_natCast.mpr (Nat.gcd_dvd_right (n : Int).natAbs (pf n (i + 1)).natAbs)
    exact Int.dvd_natAbs.mp this
  obtain ⟨p', hp⟩ := hpd
  rw [hp, Int.mul_ediv_cancel_left _ (by omega)] at hu
  have h1 : (n : Int) ∣ pf n (i + 1) - (fac i : Int) := sub_mod _ _
  have h2 : (sz n i : Int) * (gk n i : Int) = (n : Int) := by
    rw [← Int.natCast_mul, sz_mul]
  obtain ⟨z1, hz1⟩ : ∃ z, u % (sz n i : Int) = u + (sz n i : Int) * z := ⟨-(u / (sz n i : Int)), by have := Int.mul_ediv_add_emod u (sz n i : Int); grind⟩
  obtain ⟨z2, hz2⟩ : ∃ z, F' * (u % (sz n i : Int)) % (sz n i : Int) = F' * (u % (sz n i : Int)) + (sz n i : Int) * z := ⟨-(F' * (u % (sz n i : Int)) / (sz n i : Int)), by have := Int.mul_ediv_add_emod (F' * (u % (sz n i : Int))) (sz n i : Int); grind⟩
  obtain ⟨z3, hz3⟩ := h1
  rw [hz2, hz1]
  -- all by the product
  have hf : (fac i : Int) = (gk n i : Int) * p' - (n : Int) * z3 := by omega
  refine ⟨F' * w + (F' * z1 + z2) * p' - (F' * (u + (sz n i : Int) * z1) + (sz n i : Int) * z2) * z3, ?_⟩
  rw [hf, ← h2]
  have e1 : u * p' = 1 + (sz n i : Int) * w := hu
  have e2 : F' * u * (gk n i : Int) * p' = F' * (gk n i : Int) * (1 + (sz n i : Int) * w) := by rw [← e1]; grind
  grind
theorem cop_pf {n i : Nat} (hn : 0 < n) : Nat.gcd (pf n (i + 1) / (gk n i : Int)).natAbs (sz n i) = 1 := by
  rw [pf_nat, ← Int.natCast_ediv, Int.natAbs_natCast]
  have e : gk n i = Nat.gcd n (fac i % n) := by
    show Nat.gcd n (fac i) = _
    rw [Nat.gcd_comm n (fac i % n), ← Nat.gcd_rec]
  unfold sz
  rw [e, Nat.gcd_comm]
  exact Nat.coprime_div_gcd_div_gcd (Nat.gcd_pos_of_pos_left _ hn)
theorem fac_primes : ∀ n ∈ [2, 3, 5, 7, 11], ∀ k < n, gk n k = 1 := by decide
theorem bin_more : ∀ (y k : Nat), y < k → bin y k = 0
  | 0, 0, h => by omega
  | 0, _ + 1, _ => rfl
  | _ + 1, 0, h => by omega
  | y + 1, k + 1, h => by rw [bin_step, bin_more y k (by omega), bin_more y (k + 1) (by omega)]
theorem bin_self : ∀ k : Nat, bin k k = 1
  | 0 => rfl
  | k + 1 => by rw [bin_step, bin_self k, bin_more k (k + 1) (by omega)]
theorem nw_low (G : Nat → Int) {x m : Nat} (hm : x < m) : ∀ d, nw G (m + d) x = nw G m x
  | 0 => rfl
  | d + 1 => by
    rw [← Nat.add_assoc, nw, nw_low G hm d, bin_more x (m + d) (by omega)]
    simp
theorem nval_low (s : List Int) {x m : Nat} (h : x < m) : nval s 0 (x : Int) = nw (fun k => s.getD k 0 * (fac k : Int)) m x := by
  rcases Nat.le_total s.length m with c | c
  · exact nval_nwl s x m c
  · rw [nval_nwl s x s.length (Nat.le_refl _)]
    have := nw_low (fun k => s.getD k 0 * (fac k : Int)) h (s.length - m)
    rwa [show m + (s.length - m) = s.length by omega] at this
/-- at a number, steps beyond it tell nothing -/
theorem nval_upto (s : List Int) {x m : Nat} (h : x < m) : nval (s.take m) 0 (x : Int) = nval s 0 (x : Int) := by
  rw [nval_nw, nval_low s h]
theorem steps_same {n : Int} {i : Nat} {s t : List Int} (h : ∀ x < i, n ∣ nval s 0 ((x : Nat) : Int) - nval t 0 (x : Int)) : ∀ k < i, n ∣ (s.getD k 0 - t.getD k 0) * (fac k : Int) := by
  intro k hk
  have := nw_none i (fun k => s.getD k 0 * (fac k : Int) - t.getD k 0 * (fac k : Int)) (fun x hx => by
    rw [nw_sub, ← nval_low s hx, ← nval_low t hx]
    exact h x hx) k hk
  rwa [← Int.sub_mul] at this
theorem dvd_fac : ∀ {n : Nat}, 0 < n → n ∣ fac n
  | n + 1, _ => ⟨fac n, rfl⟩
theorem fac_dvd : ∀ {k m : Nat}, k ≤ m → fac k ∣ fac m
  | k, 0, h => by
    have : k = 0 := by omega
    subst this
    exact Nat.dvd_refl _
  | k, m + 1, h => by
    by_cases c : k = m + 1
    · subst c; exact Nat.dvd_refl _
    · exact Nat.dvd_trans (fac_dvd (show k ≤ m by omega)) (Nat.dvd_mul_left _ _)
theorem sz_one {n k : Nat} (hn : 0 < n) : sz n k = 1 ↔ n ∣ fac k := by
  constructor
  · intro h
    have := sz_mul n k
    rw [h, Nat.one_mul] at this
    rw [← this]
    exact Nat.gcd_dvd_right _ _
  · intro h
    unfold sz gk
    rw [Nat.gcd_eq_left h]
    exact Nat.div_self hn
theorem sz_self {n : Nat} (hn : 0 < n) : sz n n = 1 := (sz_one hn).mpr (dvd_fac hn)
theorem sz_up {n k m : Nat} (hn : 0 < n) (h : sz n k = 1) (hk : k ≤ m) : sz n m = 1 := (sz_one hn).mpr (Nat.dvd_trans ((sz_one hn).mp h) (fac_dvd hk))
theorem fac_le : ∀ i < 13, fac i ≤ 479001600 := by decide
theorem ff_self (i : Nat) : ffj 0 i (i : Int) = (fac i : Int) := by
  rw [ff_bin, bin_self]
  simp
theorem ff_more {x i : Nat} (h : x < i) : ffj 0 i (x : Int) = 0 := by
  rw [ff_bin, bin_more x i h]
  simp
/-- the table of a sum -/
def tabOf (p : List Int) (n : Nat) : List Int := (List.range n).map fun x : Nat => pval p (x : Int) % (n : Int)
theorem tabOf_len (p : List Int) (n : Nat) : (tabOf p n).length = n := by simp [tabOf]
theorem tabOf_at (p : List Int) {n x : Nat} (h : x < n) : (tabOf p n).getD x 0 = pval p (x : Int) % (n : Int) := by
  rw [List.getD_eq_getElem?_getD]
  unfold tabOf
  rw [List.getElem?_map, List.getElem?_range h]
  rfl
theorem tabOf_snoc (p : List Int) (n i : Nat) : (List.range (i + 1)).map (fun x => pval p ((x : Nat) : Int) % (n : Int)) = (List.range i).map (fun x => pval p ((x : Nat) : Int) % (n : Int)) ++ [pval p (i : Int) % (n : Int)] := by
  rw [List.range_succ, List.map_append]
  rfl
/-- the least form of a sum tells its table's steps -/
theorem form_good {n : Nat} (hn : 0 < n) {p t h f : List Int} (g : Good n (tabOf p n) f) (ht : ∀ x : Int, nval t 0 x = pval p x) (lt : h.length = t.length) (hh : ∀ k < t.length, h.getD k 0 = t.getD k 0 % (sz n k : Int)) : ∀ k, h.getD k 0 = f.getD k 0 := by
  have hs : ∀ x < n, (n : Int) ∣ nval h 0 (x : Int) - (tabOf p n).getD x 0 := by
    intro x hx
    rw [tabOf_at p hx, ← ht, nval_nwl h x t.length (by omega), nval_nwl t x t.length (Nat.le_refl _)]
    have h1 : (n : Int) ∣ nw (fun k => h.getD k 0 * (fac k : Int) - t.getD k 0 * (fac k : Int)) t.length x := nw_dvd fun k hk => by
      rw [hh k hk, ← Int.sub_mul]
      obtain ⟨z, hz⟩ := sub_mod (sz n k : Int) (t.getD k 0)
      rw [hz, Int.mul_assoc, Int.mul_left_comm]
      exact Int.dvd_mul_of_dvd_right (sz_fac n k)
    rw [nw_sub] at h1
    have h2 := sub_mod (n : Int) (nw (fun k => t.getD k 0 * (fac k : Int)) t.length x)
    have := Int.dvd_sub h1 h2
    rwa [show nw (fun k => h.getD k 0 * (fac k : Int)) t.length x - nw (fun k => t.getD k 0 * (fac k : Int)) t.length x - (nw (fun k => t.getD k 0 * (fac k : Int)) t.length x % (n : Int) - nw (fun k => t.getD k 0 * (fac k : Int)) t.length x) = nw (fun k => h.getD k 0 * (fac k : Int)) t.length x - nw (fun k => t.getD k 0 * (fac k : Int)) t.length x % (n : Int) by omega] at this
  have hb : ∀ k, 0 ≤ h.getD k 0 ∧ h.getD k 0 < sz n k := by
    intro k
    have zp := sz_pos k hn
    by_cases c : k < t.length
    · rw [hh k c]
      exact ⟨Int.emod_nonneg _ (by omega), Int.emod_lt_of_pos _ (by omega)⟩
    · rw [getD_out (by omega)]
      omega
  intro k
  by_cases c : k < n
  · exact g.step (tabOf_len p n) hs c (hb k)
  · have h1 := hb k
    rw [sz_up hn (sz_self hn) (by omega)] at h1
    rw [getD_out (p := f) (by rw [g.len]; omega)]
    omega
/-- equal but for 0s at the end -/
theorem pval_same : ∀ (a b : List Int), (∀ k, a.getD k 0 = b.getD k 0) → ∀ x, pval a x = pval b x
  | [], [], _, _ => rfl
  | [], b :: q, h, x => by
    have h0 : b = 0 := (h 0).symm
    have e : pval [] x = pval q x := pval_same [] q (fun k => h (k + 1)) x
    show 0 = b + x * pval q x
    rw [h0, ← e]
    simp [pval]
  | a :: p, [], h, x => by
    have h0 : a = 0 := h 0
    have e : pval p x = pval [] x := pval_same p [] (fun k => h (k + 1)) x
    show a + x * pval p x = 0
    rw [h0, e]
    simp [pval]
  | a :: p, b :: q, h, x => by
    have h0 : a = b := h 0
    rw [h0, pval, pval, pval_same p q (fun k => h (k + 1)) x]
theorem getD_take {s : List Int} {k i : Nat} (h : k < i) : (s.take i).getD k 0 = s.getD k 0 := by
  rw [List.getD_eq_getElem?_getD, List.getElem?_take_of_lt h, ← List.getD_eq_getElem?_getD]
end Vf

namespace Vf
open PySem PySem.Spec PyProof.Rows L2
/-! ## math.factorial -/
section
variable {X : Cx}
theorem factorialNat_eq : ∀ n : Nat, Builtin.Math.factorialNat n = fac n
  | 0 => rfl
  | n + 1 => by
    have ih := factorialNat_eq n
    unfold Builtin.Math.factorialNat at *
    rw [List.range_succ, List.foldl_append, ih]
    show fac n * (n + 1) = (n + 1) * fac n
    exact Nat.mul_comm _ _
theorem fac_bits : ∀ n : Nat, n ≤ 1000 → fac n ≤ 2 ^ (10 * n)
  | 0, _ => by decide
  | n + 1, h => by
    have ih := fac_bits n (by omega)
    show (n + 1) * fac n ≤ _
    rw [show 10 * (n + 1) = 10 + 10 * n by omega, Nat.pow_add]
    exact Nat.mul_le_mul (by have : (2 : Nat) ^ 10 = 1024 := by decide
                             omega) ih
def rFact : List V → Hp → VK → Prop := fun vs H Q => ∃ a : Nat, vs = [.int (a : Int)] ∧ a ≤ 1000 ∧ Q (.int (fac a : Int)) H
theorem c_fact : CallR X (.builtin "math.factorial") rFact := by
  intro pins s σ H vs us Q I r h
  obtain ⟨a, rfl, hl, q⟩ := h
  obtain ⟨t, rfl⟩ : ∃ t : Tok, us = [.int (a : Int) t] := by
    cases r with
    | cons h1 h2 =>
      cases h2
      obtain ⟨t, e⟩ := h1
      exact ⟨t, by rw [e]⟩
  have h1 : ((a : Nat) : Int) ≤ 1000 := by omega
  refine PySem.W.mg_factorial_v (c := (fac a : Int)) ?_ (by omega) ?_ ?_ ?_ ⟨.int _, H, I.tok _, ⟨_, rfl⟩, q⟩
  · exact Int.not_lt.mpr (Int.le_trans h1 (by decide +kernel))
  · exact Int.not_lt.mpr (Int.le_trans h1 (by decide +kernel))
  · rw [Int.toNat_natCast, factorialNat_eq]
  · rw [Int.natAbs_natCast]
    exact PySem.W.mc_size (k := 200) (Nat.le_trans (fac_bits a hl) (Nat.pow_le_pow_right (by decide) (by omega))) (by decide)
theorem r_fact {H : Hp} {Q : VK} {a : Nat} (hl : a ≤ 1000) (h : Q (.int (fac a : Int)) H) : rFact [.int (a : Int)] H Q := ⟨a, rfl, hl, h⟩
end
/-! ## a dict whose keys are tuples: its len, its keys walked -/
def rLenDT : List V → Hp → VK → Prop := fun xs H Q => ∃ (a : Addr) (kvs : List (List Key × V)), xs = [V.ref a] ∧ H a = some (.dT kvs) ∧ Q (.int kvs.length) H
theorem cr_lenDT {X : Cx} : CallR X (.builtin "len") rLenDT := call_len_dT
section
variable {K : PySem.W.Frag} {σ : L2.St} {H : Hp} {Q : VK} {g : TG} {tt : TT} {te : TE} {vs : List Nat}
theorem r_lenDT {a : Addr} {kvs : List (List Key × V)} (h : H a = some (.dT kvs)) (q : Q (.int kvs.length) H) : rLenDT [.ref a] H Q := ⟨a, kvs, rfl, h, q⟩
theorem r_lcKi {i : Nat} {d : Addr} {o : Obj} {kvs : List (List Key × V)} (e : σ[i]? = some (some (.ref d))) (hd : H d = some (.frz o (.dT kvs)))
    (h : tLc (fun _ H2 R => R (Itkt d o kvs) H2) g tt te vs σ H Q) : tLc (iKeys (tVar i)) g tt te vs σ H Q := by
  exact ⟨_, e, d, o, rfl, .inr ⟨kvs, hd, h⟩⟩
theorem r_lcKT {d : Addr} {o : Obj} (kvs : List (List Key × V)) (Pv : Addr → Nat → Hp → Prop) (h0 : ∀ D, H D = none → Pv D 0 (upd H D (.lst [])))
    (hl : ∀ D i H', H D = none → i ≤ kvs.length → Pv D i H' → H' d = some (.frz o (.dT kvs)))
    (hs : ∀ D i k v q H', H D = none → kvs[i]? = some (k, v) → H' q = some (.tup (k.map kV)) → Pv D i H' → g (.ref q) (wipe σ vs) H' fun σ2 H2 => wipe σ2 vs = wipe σ vs ∧ tt σ2 H2 fun b H3 =>
      if b = true then te σ2 H3 fun y H4 => ∃ acc, H4 D = some (.lst acc) ∧ acc.length < sizeLine ∧ Pv D (i + 1) (upd H4 D (.lst (acc ++ [y]))) else Pv D (i + 1) H3)
    (hd : ∀ D H', H D = none → Pv D kvs.length H' → Q (.ref D) H') : tLc (fun _ H2 R => R (Itkt d o kvs) H2) g tt te vs σ H Q := by
  refine fun D hD => ⟨fun i m H => m = kvs.length - i ∧ i ≤ kvs.length ∧ Pv D i H, ⟨kvs.length, by omega, Nat.zero_le _, h0 D hD⟩, ?_⟩
  rintro i m H' ⟨rfl, hi, p⟩
  have qx := hl D i H' hD hi p
  by_cases lt : i < kvs.length
  · refine Or.inr ⟨⟨qx, lt⟩, Pv D (i + 1), fun H' p' => ⟨kvs.length - (i + 1), by omega, rfl, lt, p'⟩, fun v H'' yy => ?_⟩
    obtain ⟨rfl, k, v, q, hkv, rfl, hq⟩ := yy
    exact hs D i k v q _ hD hkv hq p
  · have e : i = kvs.length := by omega
    rw [e] at p
    exact Or.inl ⟨⟨qx, by omega⟩, hd D H' hD p⟩
end
end Vf

namespace Vf
open PySem PySem.Spec PyProof.Rows L2
/-! ## two walks in one comprehension: tuples -/
section
variable {K : PySem.W.Frag} {σ : L2.St} {H : Hp} {Q : VK} {g g1 : TG} {tt tt1 : TT} {te : TE} {vs vs1 : List Nat} {wi1 : TI}
theorem r_lc2Ti {tl : TE} (h : tl σ H fun x H1 => ∃ a, x = .ref a ∧ (∃ xs, SqT K H1 a xs) ∧ tLc2 (fun _ H2 R => R (Itt K a) H2) g tt wi1 g1 tt1 te vs vs1 σ H1 Q) : tLc2 (iTup K tl) g tt wi1 g1 tt1 te vs vs1 σ H Q := h
theorem r_lc2T {a : Addr} (xs : List V) (Pv : Addr → Nat → Hp → Prop) (h0 : ∀ D, H D = none → Pv D 0 (upd H D (.lst []))) (hl : ∀ D i H', H D = none → i ≤ xs.length → Pv D i H' → SqT K H' a xs)
    (hs : ∀ D i x H', H D = none → xs[i]? = some x → Pv D i H' → g x (wipe σ vs) H' fun σ2 H2 => wipe σ2 vs = wipe σ vs ∧ tt σ2 H2 fun b H3 =>
      if b = true then wi1 σ2 H3 fun J1 H4 => Inn D J1 g1 tt1 te vs1 σ2 H4 (Pv D (i + 1)) else Pv D (i + 1) H3)
    (hd : ∀ D H', H D = none → Pv D xs.length H' → Q (.ref D) H') : tLc2 (fun _ H2 R => R (Itt K a) H2) g tt wi1 g1 tt1 te vs vs1 σ H Q := by
  refine fun D hD => ⟨fun i m H => m = xs.length - i ∧ i ≤ xs.length ∧ Pv D i H, ⟨xs.length, by omega, Nat.zero_le _, h0 D hD⟩, ?_⟩
  rintro i m H' ⟨rfl, hi, p⟩
  have q := hl D i H' hD hi p
  by_cases lt : i < xs.length
  · refine Or.inr ⟨⟨xs, xs[i], q, by simp [lt]⟩, Pv D (i + 1), fun H' p' => ⟨xs.length - (i + 1), by omega, rfl, lt, p'⟩, fun x H'' y => ?_⟩
    obtain ⟨e, f⟩ := y
    subst e
    have := f xs q
    exact hs D i x H'' hD this p
  · have e : i = xs.length := by omega
    subst e
    exact Or.inl ⟨⟨xs, q, Nat.le_refl _⟩, hd D H' hD p⟩
end
theorem inn_tup {K : PySem.W.Frag} {D : Addr} {g1 : TG} {tt1 : TT} {te : TE} {vs1 : List Nat} {σ2 : L2.St} {H4 : Hp} {Nx : Hp → Prop} {a : Addr} (xs : List V) (Pv : Nat → Hp → Prop) (h0 : Pv 0 H4)
    (hl : ∀ j H, j ≤ xs.length → Pv j H → SqT K H a xs)
    (hs : ∀ j x H, xs[j]? = some x → Pv j H → g1 x (wipe σ2 vs1) H fun σ3 H5 => wipe σ3 vs1 = wipe σ2 vs1 ∧ tt1 σ3 H5 fun b H6 =>
        if b = true then te σ3 H6 fun y H7 => ∃ acc, H7 D = some (.lst acc) ∧ acc.length < sizeLine ∧ Pv (j + 1) (upd H7 D (.lst (acc ++ [y]))) else Pv (j + 1) H6)
    (hd : ∀ H, Pv xs.length H → Nx H) : Inn D (Itt K a) g1 tt1 te vs1 σ2 H4 Nx := by
  refine ⟨fun i m H => m = xs.length - i ∧ i ≤ xs.length ∧ Pv i H, ⟨xs.length, by omega, Nat.zero_le _, h0⟩, ?_⟩
  rintro i m H ⟨rfl, hi, p⟩
  have q := hl i H hi p
  by_cases lt : i < xs.length
  · refine Or.inr ⟨⟨xs, xs[i], q, by simp [lt]⟩, Pv (i + 1), fun H' p' => ⟨xs.length - (i + 1), by omega, rfl, lt, p'⟩, fun x H' y => ?_⟩
    obtain ⟨e, f⟩ := y
    subst e
    exact hs i x H' (f xs q) p
  · have e : i = xs.length := by omega
    subst e
    exact Or.inl ⟨⟨xs, q, Nat.le_refl _⟩, hd H p⟩
theorem r_wT {K : PySem.W.Frag} {σ : L2.St} {H : Hp} {tl : TE} {R : It → Hp → Prop} (h : tl σ H fun x H1 => ∃ a, x = .ref a ∧ (∃ xs, SqT K H1 a xs) ∧ R (Itt K a) H1) : iTup K tl σ H R := h
end Vf

namespace Vf
/-! ## sums that turn the rests by a base -/
def Inj (F : Int → Int) (n : Nat) : Prop := ∀ x y : Int, (n : Int) ∣ F x - F y → (n : Int) ∣ x - y
theorem Dv.step {F G : Int → Int} (d : Dv F G) (x y : Int) : ∃ k, F x - F y = (x - y) * (G y + (x - y) * k) := by
  obtain ⟨k, e⟩ := d y (x - y)
  refine ⟨k, ?_⟩
  rw [show y + (x - y) = x by omega] at e
  rw [e]
  grind
theorem Dv.cong {F G : Int → Int} (d : Dv F G) {n x y : Int} (h : n ∣ x - y) : n ∣ F x - F y := by
  obtain ⟨k, e⟩ := d.step x y
  rw [e]
  exact Int.dvd_trans h (Int.dvd_mul_right ..)
theorem noinj : ∀ (n : Nat) (g : Nat → Nat), (∀ x < n + 1, g x < n) → (∀ x < n + 1, ∀ y < n + 1, g x = g y → x = y) → False
  | 0, g, h, _ => absurd (h 0 (by omega)) (by omega)
  | n + 1, g, h, hi => by
    have hv := h (n + 1) (by omega)
    refine noinj n (fun x => if g x > g (n + 1) then g x - 1 else g x) (fun x hx => ?_) (fun x hx y hy e => ?_)
    · have h1 := h x (by omega)
      have h2 : g x ≠ g (n + 1) := fun z => by have := hi x (by omega) (n + 1) (by omega) z; omega
      try dsimp only
      split <;> omega
    · have h2 : g x ≠ g (n + 1) := fun z => by have := hi x (by omega) (n + 1) (by omega) z; omega
      have h3 : g y ≠ g (n + 1) := fun z => by have := hi y (by omega) (n + 1) (by omega) z; omega
      try dsimp only at e
      refine hi x (by omega) y (by omega) ?_
      split at e <;> split at e <;> omega
theorem pig {n : Nat} {g : Nat → Nat} (h : ∀ x < n, g x < n) (hi : ∀ x < n, ∀ y < n, g x = g y → x = y) : ∀ r < n, ∃ x < n, g x = r := by
  intro r hr
  refine Classical.byContradiction fun no => ?_
  cases n with
  | zero => omega
  | succ n =>
    refine noinj n (fun x => if g x > r then g x - 1 else g x) (fun x hx => ?_) (fun x hx y hy e => ?_)
    · have h1 := h x hx
      have h2 : g x ≠ r := fun z => no ⟨x, hx, z⟩
      try dsimp only
      split <;> omega
    · have h2 : g x ≠ r := fun z => no ⟨x, hx, z⟩
      have h3 : g y ≠ r := fun z => no ⟨y, hy, z⟩
      try dsimp only at e
      refine hi x hx y hy ?_
      split at e <;> split at e <;> omega
theorem dvd_mod {n : Nat} (a b : Int) : (n : Int) ∣ a - b ↔ a % (n : Int) = b % (n : Int) :=
  ⟨fun h => Int.emod_eq_emod_iff_emod_sub_eq_zero.mpr (Int.emod_eq_zero_of_dvd h), fun h => Int.dvd_of_emod_eq_zero (Int.emod_eq_emod_iff_emod_sub_eq_zero.mp h)⟩
def rs (n : Nat) (x : Int) : Nat := (x % (n : Int)).toNat
theorem rs_eq {n : Nat} (n0 : 0 < n) (x : Int) : ((rs n x : Nat) : Int) = x % (n : Int) := Int.toNat_of_nonneg (Int.emod_nonneg _ (by omega))
theorem rs_lt {n : Nat} (n0 : 0 < n) (x : Int) : rs n x < n := by
  have h1 := rs_eq n0 x
  have h2 := Int.emod_lt_of_pos x (show (0 : Int) < (n : Int) by omega)
  omega
theorem rs_dvd {n : Nat} (n0 : 0 < n) (x y : Int) : (n : Int) ∣ x - y ↔ rs n x = rs n y := by
  rw [dvd_mod, ← rs_eq n0, ← rs_eq n0]
  omega
theorem rs_self {n : Nat} (n0 : 0 < n) (x : Int) : (n : Int) ∣ x - (rs n x : Nat) := by
  rw [rs_eq n0, dvd_mod, Int.emod_emod]
theorem small_eq {n x y : Nat} (hx : x < n) (hy : y < n) (h : (n : Int) ∣ (x : Int) - (y : Int)) : x = y := by
  rw [dvd_mod, Int.emod_eq_of_lt (by omega) (by omega), Int.emod_eq_of_lt (by omega) (by omega)] at h
  omega
theorem dvd_tr {n a b c : Int} (h1 : n ∣ a - b) (h2 : n ∣ b - c) : n ∣ a - c := by
  have := Int.dvd_add h1 h2
  rwa [show a - b + (b - c) = a - c by omega] at this
theorem dvd_sy {n a b : Int} (h1 : n ∣ a - b) : n ∣ b - a := by
  have := Int.dvd_neg.mpr h1
  rwa [show -(a - b) = b - a by omega] at this
theorem Inj.surj {F G : Int → Int} {n : Nat} (d : Dv F G) (n0 : 0 < n) (h : Inj F n) (r : Int) : ∃ x : Int, (n : Int) ∣ F x - r := by
  obtain ⟨x, hx, e⟩ := pig (n := n) (g := fun x => rs n (F (x : Int))) (fun x _ => rs_lt n0 _) (fun x hx y hy e => small_eq hx hy (h _ _ ((rs_dvd n0 _ _).mpr e))) (rs n r) (rs_lt n0 r)
  exact ⟨(x : Int), (rs_dvd n0 _ _).mpr e⟩
theorem inj_of_surj {F G : Int → Int} {n : Nat} (d : Dv F G) (n0 : 0 < n) (h : ∀ r : Int, ∃ x : Int, (n : Int) ∣ F x - r) : Inj F n := by
  let s : Int → Int := fun r => (h r).choose
  have hs : ∀ r, (n : Int) ∣ F (s r) - r := fun r => (h r).choose_spec
  have hp := pig (n := n) (g := fun r => rs n (s (r : Int))) (fun x _ => rs_lt n0 _) (fun x hx y hy e => small_eq hx hy (dvd_tr (dvd_sy (hs x)) (dvd_tr (d.cong ((rs_dvd n0 _ _).mpr e)) (hs y))))
  intro x y hxy
  obtain ⟨r1, h1, e1⟩ := hp (rs n x) (rs_lt n0 x)
  obtain ⟨r2, h2, e2⟩ := hp (rs n y) (rs_lt n0 y)
  have a1 : (n : Int) ∣ s r1 - x := (rs_dvd n0 _ _).mpr e1
  have a2 : (n : Int) ∣ s r2 - y := (rs_dvd n0 _ _).mpr e2
  have b1 : (n : Int) ∣ (r1 : Int) - F x := dvd_tr (dvd_sy (hs r1)) (d.cong a1)
  have b2 : (n : Int) ∣ (r2 : Int) - F y := dvd_tr (dvd_sy (hs r2)) (d.cong a2)
  have : r1 = r2 := small_eq h1 h2 (dvd_tr b1 (dvd_tr hxy (dvd_sy b2)))
  subst this
  exact dvd_tr (dvd_sy a1) a2
theorem Inj.of_dvd {F G : Int → Int} {m n : Nat} (d : Dv F G) (n0 : 0 < n) (hm : m ∣ n) (h : Inj F n) : Inj F m := by
  have m0 : 0 < m := Nat.pos_of_dvd_of_pos hm n0
  refine inj_of_surj d m0 fun r => ?_
  obtain ⟨x, hx⟩ := h.surj d n0 r
  exact ⟨x, Int.dvd_trans (Int.natCast_dvd_natCast.mpr hm) hx⟩
theorem Inj.mul {F : Int → Int} {a b : Nat} (hc : Nat.Coprime a b) (ha : Inj F a) (hb : Inj F b) : Inj F (a * b) := by
  intro x y h
  have h1 := ha x y (Int.dvd_trans (Int.natCast_dvd_natCast.mpr (Nat.dvd_mul_right a b)) h)
  have h2 := hb x y (Int.dvd_trans (Int.natCast_dvd_natCast.mpr (Nat.dvd_mul_left b a)) h)
  exact Int.ofNat_dvd_left.mpr (hc.mul_dvd_of_dvd_of_dvd (Int.ofNat_dvd_left.mp h1) (Int.ofNat_dvd_left.mp h2))
def Pr (p : Nat) : Prop := 2 ≤ p ∧ ∀ k, k ∣ p → k = 1 ∨ k = p
theorem Pr.euclid {p : Nat} (hp : Pr p) {a b : Int} (h : (p : Int) ∣ a * b) : (p : Int) ∣ a ∨ (p : Int) ∣ b := by
  have h1 := Int.ofNat_dvd_left.mp h
  rw [Int.natAbs_mul] at h1
  rcases hp.2 _ (Nat.gcd_dvd_left p a.natAbs) with c | c
  · exact .inr (Int.ofNat_dvd_left.mpr (Nat.Coprime.dvd_of_dvd_mul_left c h1))
  · exact .inl (Int.ofNat_dvd_left.mpr (by rw [← c]; exact Nat.gcd_dvd_right _ _))
theorem Pr.dvd_pow {p q : Nat} (hp : Pr p) (hq : Pr q) : ∀ e, p ∣ q ^ e → p = q
  | 0, h => by
    have := Nat.le_of_dvd Nat.one_pos h
    have := hp.1
    omega
  | e + 1, h => by
    rw [Nat.pow_succ] at h
    rcases hp.euclid (a := ((q ^ e : Nat) : Int)) (b := (q : Int)) (by rw [← Int.natCast_mul]; exact Int.natCast_dvd_natCast.mpr h) with c | c
    · exact hp.dvd_pow hq e (Int.natCast_dvd_natCast.mp c)
    · rcases hq.2 p (Int.natCast_dvd_natCast.mp c) with d | d
      · have := hp.1
        omega
      · exact d
theorem pow_int (p e : Nat) : ((p ^ e : Nat) : Int) = (p : Int) ^ e := by push_cast; rfl
theorem lift_up {F G : Int → Int} {p : Nat} (d : Dv F G) (hp : Pr p) (h1 : Inj F p) (hg : ∀ x : Int, ¬ (p : Int) ∣ G x) : ∀ e, Inj F (p ^ (e + 1))
  | 0 => by
    rw [Nat.pow_one]
    exact h1
  | e + 1 => by
    intro x y h
    have ih := lift_up d hp h1 hg e
    have p0 : (0 : Int) < ((p ^ (e + 1) : Nat) : Int) := by
      have := Nat.pow_pos (n := e + 1) (show 0 < p by have := hp.1; omega)
      omega
    have e2 : ((p ^ (e + 1 + 1) : Nat) : Int) = ((p ^ (e + 1) : Nat) : Int) * (p : Int) := by rw [← Int.natCast_mul, ← Nat.pow_succ]
    rw [e2] at h ⊢
    obtain ⟨t, ht⟩ := ih x y (Int.dvd_trans (Int.dvd_mul_right ..) h)
    obtain ⟨k, hk⟩ := d.step x y
    rw [hk, ht, Int.mul_assoc] at h
    have h3 : (p : Int) ∣ t * (G y + ((p ^ (e + 1) : Nat) : Int) * t * k) := Int.dvd_of_mul_dvd_mul_left (by omega) h
    rw [ht]
    refine Int.mul_dvd_mul_left _ ?_
    rcases hp.euclid h3 with c | c
    · exact c
    · have h4 : (p : Int) ∣ ((p ^ (e + 1) : Nat) : Int) * t * k := by
        rw [Int.mul_assoc]
        refine Int.dvd_trans ?_ (Int.dvd_mul_right ..)
        exact Int.natCast_dvd_natCast.mpr (by rw [Nat.pow_succ]; exact Nat.dvd_mul_left _ _)
      have := Int.dvd_sub c h4
      rw [show G y + ((p ^ (e + 1) : Nat) : Int) * t * k - ((p ^ (e + 1) : Nat) : Int) * t * k = G y by omega] at this
      exact absurd this (hg y)
theorem lift_down {F G : Int → Int} {p e : Nat} (d : Dv F G) (hp : Pr p) (h : Inj F (p ^ (e + 2))) (x : Int) : ¬ (p : Int) ∣ G x := by
  intro hx
  have p0 : 0 < p ^ (e + 1) := Nat.pow_pos (show 0 < p by have := hp.1; omega)
  obtain ⟨k, hk⟩ := d.step (x + ((p ^ (e + 1) : Nat) : Int)) x
  rw [show x + ((p ^ (e + 1) : Nat) : Int) - x = ((p ^ (e + 1) : Nat) : Int) by omega] at hk
  have e2 : ((p ^ (e + 2) : Nat) : Int) = ((p ^ (e + 1) : Nat) : Int) * (p : Int) := by rw [← Int.natCast_mul, ← Nat.pow_succ]
  have h4 : (p : Int) ∣ ((p ^ (e + 1) : Nat) : Int) * k := Int.dvd_trans (Int.natCast_dvd_natCast.mpr (by rw [Nat.pow_succ]; exact Nat.dvd_mul_left _ _)) (Int.dvd_mul_right ..)
  have h5 := h (x + ((p ^ (e + 1) : Nat) : Int)) x (by rw [hk, e2]; exact Int.mul_dvd_mul_left _ (Int.dvd_add hx h4))
  rw [show x + ((p ^ (e + 1) : Nat) : Int) - x = ((p ^ (e + 1) : Nat) : Int) by omega] at h5
  have h6 := Nat.le_of_dvd p0 (Int.natCast_dvd_natCast.mp h5)
  have h7 : p ^ (e + 2) = p ^ (e + 1) * p := Nat.pow_succ ..
  have := Nat.mul_le_mul_left (p ^ (e + 1)) hp.1
  omega
theorem lift_iff {F G : Int → Int} {p e : Nat} (d : Dv F G) (hp : Pr p) (he : 1 ≤ e) : Inj F (p ^ e) ↔ Inj F p ∧ (e = 1 ∨ ∀ x : Int, ¬ (p : Int) ∣ G x) := by
  have p0 : 0 < p ^ e := Nat.pow_pos (show 0 < p by have := hp.1; omega)
  constructor
  · intro h
    refine ⟨h.of_dvd d p0 (Nat.dvd_trans (by rw [Nat.pow_one]; exact Nat.dvd_refl _) (Nat.pow_dvd_pow p he)), ?_⟩
    rcases Nat.lt_or_ge 1 e with c | c
    · obtain ⟨f, rfl⟩ : ∃ f, e = f + 2 := ⟨e - 2, by omega⟩
      exact .inr (lift_down d hp h)
    · exact .inl (by omega)
  · intro ⟨h1, h2⟩
    rcases h2 with c | c
    · rw [c, Nat.pow_one]
      exact h1
    · obtain ⟨f, rfl⟩ : ∃ f, e = f + 1 := ⟨e - 1, by omega⟩
      exact lift_up d hp h1 c f
/-- the powers of primes that make a base -/
def made : List (Nat × Nat) → Nat
  | [] => 1
  | a :: r => a.1 ^ a.2 * made r
structure Apart (ps : List (Nat × Nat)) (n : Nat) : Prop where
  m : made ps = n
  p : ∀ a ∈ ps, Pr a.1 ∧ 1 ≤ a.2
  s : ps.Pairwise fun a b => a.1 < b.1
theorem cop_primes {p q : Nat} (hp : Pr p) (hq : Pr q) (h : p ≠ q) : Nat.Coprime p q := by
  rcases hp.2 _ (Nat.gcd_dvd_left p q) with c | c
  · exact c
  · have h1 : p ∣ q := by rw [← c]; exact Nat.gcd_dvd_right _ _
    rcases hq.2 p h1 with d | d
    · have := hp.1
      omega
    · exact absurd d h
theorem cop_made {p : Nat} (hp : Pr p) : ∀ (ps : List (Nat × Nat)), (∀ a ∈ ps, Pr a.1 ∧ p < a.1) → Nat.Coprime p (made ps)
  | [], _ => Nat.gcd_one_right p
  | a :: r, h => by
    have h1 := h a List.mem_cons_self
    exact Nat.Coprime.mul_right (Nat.Coprime.pow_right a.2 (cop_primes hp h1.1 (by omega))) (cop_made hp r fun b hb => h b (List.mem_cons_of_mem _ hb))
theorem made_pos : ∀ (ps : List (Nat × Nat)), (∀ a ∈ ps, Pr a.1 ∧ 1 ≤ a.2) → 0 < made ps
  | [], _ => Nat.one_pos
  | a :: r, h => Nat.mul_pos (Nat.pow_pos (by have := (h a List.mem_cons_self).1.1; omega)) (made_pos r fun b hb => h b (List.mem_cons_of_mem _ hb))
theorem made_iff {F G : Int → Int} (d : Dv F G) : ∀ (ps : List (Nat × Nat)), (∀ a ∈ ps, Pr a.1 ∧ 1 ≤ a.2) → ps.Pairwise (fun a b => a.1 < b.1) → (Inj F (made ps) ↔ ∀ a ∈ ps, Inj F (a.1 ^ a.2))
  | [], _, _ => ⟨fun _ a ha => by simp at ha, fun _ x y _ => ⟨x - y, by simp [made]⟩⟩
  | a :: r, hp, hs => by
    have h1 := hp a List.mem_cons_self
    have hr : ∀ b ∈ r, Pr b.1 ∧ 1 ≤ b.2 := fun b hb => hp b (List.mem_cons_of_mem _ hb)
    have ih := made_iff d r hr (List.pairwise_cons.mp hs).2
    have hc : Nat.Coprime (a.1 ^ a.2) (made r) := Nat.Coprime.pow_left _ (cop_made h1.1 r fun b hb => ⟨(hr b hb).1, (List.pairwise_cons.mp hs).1 b hb⟩)
    have pos : 0 < a.1 ^ a.2 * made r := made_pos (a :: r) hp
    show Inj F (a.1 ^ a.2 * made r) ↔ _
    constructor
    · intro h b hb
      rcases List.mem_cons.mp hb with e | e
      · rw [e]
        exact h.of_dvd d pos (Nat.dvd_mul_right _ _)
      · exact ih.mp (h.of_dvd d pos (Nat.dvd_mul_left _ _)) b e
    · intro h
      exact Inj.mul hc (h a List.mem_cons_self) (ih.mpr fun b hb => h b (List.mem_cons_of_mem _ hb))
theorem Apart.turn {F G : Int → Int} {ps : List (Nat × Nat)} {n : Nat} (A : Apart ps n) (d : Dv F G) : Inj F n ↔ ∀ a ∈ ps, Inj F a.1 ∧ (a.2 = 1 ∨ ∀ x : Int, ¬ (a.1 : Int) ∣ G x) := by
  rw [← A.m, made_iff d ps A.p A.s]
  exact ⟨fun h a ha => (lift_iff d (A.p a ha).1 (A.p a ha).2).mp (h a ha), fun h a ha => (lift_iff d (A.p a ha).1 (A.p a ha).2).mpr (h a ha)⟩
theorem line_turn {a s : Int} {n : Nat} (n0 : 0 < n) : Inj (fun x => a + x * s) n ↔ Nat.gcd s.natAbs n = 1 := by
  constructor
  · intro h
    obtain ⟨g, hg⟩ : ∃ g, Nat.gcd s.natAbs n = g := ⟨_, rfl⟩
    rw [hg]
    have g0 : 0 < g := by rw [← hg]; exact Nat.gcd_pos_of_pos_right _ n0
    obtain ⟨c, hc⟩ : g ∣ s.natAbs := by rw [← hg]; exact Nat.gcd_dvd_left _ _
    obtain ⟨m, hm⟩ : g ∣ n := by rw [← hg]; exact Nat.gcd_dvd_right _ _
    have hs : (n : Int) ∣ (m : Int) * s := by
      refine Int.ofNat_dvd_left.mpr ?_
      rw [Int.natAbs_mul, Int.natAbs_natCast, hc, hm]
      exact ⟨c, by rw [Nat.mul_left_comm, Nat.mul_assoc]⟩
    have h1 := h (m : Int) 0 (by
      show (n : Int) ∣ a + (m : Int) * s - (a + 0 * s)
      rw [Int.zero_mul, show a + (m : Int) * s - (a + 0) = (m : Int) * s by omega]
      exact hs)
    rw [Int.sub_zero] at h1
    have m0 : 0 < m := by
      rcases Nat.eq_zero_or_pos m with z | z
      · rw [z, Nat.mul_zero] at hm; omega
      · exact z
    have h2 := Nat.le_of_dvd m0 (Int.natCast_dvd_natCast.mp h1)
    rcases Nat.lt_or_ge 1 g with c2 | c2
    · have := Nat.mul_le_mul_right m c2
      omega
    · omega
  · intro h x y hxy
    have hxy : (n : Int) ∣ a + x * s - (a + y * s) := hxy
    rw [show a + x * s - (a + y * s) = (x - y) * s by grind] at hxy
    have h1 := Int.ofNat_dvd_left.mp hxy
    rw [Int.natAbs_mul] at h1
    exact Int.ofNat_dvd_left.mpr (Nat.Coprime.dvd_of_dvd_mul_right (by rw [Nat.coprime_comm]; exact h) h1)
theorem Inj.comp {F H : Int → Int} {n : Nat} (hf : Inj F n) (hh : Inj H n) : Inj (fun x => F (H x)) n := fun x y h => hh x y (hf _ _ h)
theorem prime_pow_turn {F G : Int → Int} {p e : Nat} (d : Dv F G) (hp : Pr p) (he : 2 ≤ e) : Inj F (p ^ e) ↔ Inj F (p ^ 2) := by
  rw [lift_iff d hp (by omega), lift_iff d hp (show 1 ≤ 2 by decide)]
  constructor
  · intro ⟨a, b⟩
    exact ⟨a, .inr (b.resolve_left (by omega))⟩
  · intro ⟨a, b⟩
    exact ⟨a, .inr (b.resolve_left (by omega))⟩
end Vf

namespace Vf
/-! ## runs: tables of four, values, sums, how they come round -/
structure Mt where
  p : Int
  q : Int
  r : Int
  s : Int
def Mt.mul (a b : Mt) : Mt := ⟨a.p * b.p + a.q * b.r, a.p * b.q + a.q * b.s, a.r * b.p + a.s * b.r, a.r * b.q + a.s * b.s⟩
def Mt.add (a b : Mt) : Mt := ⟨a.p + b.p, a.q + b.q, a.r + b.r, a.s + b.s⟩
def Mt.one : Mt := ⟨1, 0, 0, 1⟩
def Mt.zero : Mt := ⟨0, 0, 0, 0⟩
theorem Mt.ext' {a b : Mt} (h1 : a.p = b.p) (h2 : a.q = b.q) (h3 : a.r = b.r) (h4 : a.s = b.s) : a = b := by
  cases a; cases b; simp_all
theorem Mt.assoc (a b c : Mt) : (a.mul b).mul c = a.mul (b.mul c) := by
  apply Mt.ext' <;> simp only [Mt.mul] <;> grind
theorem Mt.mul_one (a : Mt) : a.mul Mt.one = a := by
  apply Mt.ext' <;> simp [Mt.mul, Mt.one]
theorem Mt.add_mul (a b c : Mt) : (a.add b).mul c = (a.mul c).add (b.mul c) := by
  apply Mt.ext' <;> simp only [Mt.mul, Mt.add] <;> grind
theorem Mt.mul_add (a b c : Mt) : a.mul (b.add c) = (a.mul b).add (a.mul c) := by
  apply Mt.ext' <;> simp only [Mt.mul, Mt.add] <;> grind
theorem Mt.add_assoc (a b c : Mt) : (a.add b).add c = a.add (b.add c) := by
  apply Mt.ext' <;> simp only [Mt.add] <;> omega
theorem Mt.add_swap (a b c : Mt) : (a.add b).add c = (a.add c).add b := by
  apply Mt.ext' <;> simp only [Mt.add] <;> omega
theorem Mt.add_zero (a : Mt) : a.add Mt.zero = a := by
  apply Mt.ext' <;> simp [Mt.add, Mt.zero]
theorem Mt.mul_zero (a : Mt) : a.mul Mt.zero = Mt.zero := by
  apply Mt.ext' <;> simp [Mt.mul, Mt.zero]
def pw (S : Mt) : Nat → Mt
  | 0 => Mt.one
  | k + 1 => (pw S k).mul S
theorem pw_add (S : Mt) (a : Nat) : ∀ b, pw S (a + b) = (pw S a).mul (pw S b)
  | 0 => by rw [Nat.add_zero, pw, Mt.mul_one]
  | b + 1 => by
    show (pw S (a + b)).mul S = (pw S a).mul ((pw S b).mul S)
    rw [pw_add S a b, Mt.assoc]
def sm (S : Mt) : Nat → Mt
  | 0 => Mt.zero
  | k + 1 => ((sm S k).mul S).add Mt.one
theorem sm_next (S : Mt) : ∀ k, sm S (k + 1) = (sm S k).add (pw S k)
  | 0 => by
    apply Mt.ext' <;> simp [sm, pw, Mt.mul, Mt.add, Mt.zero, Mt.one]
  | k + 1 => by
    show ((sm S (k + 1)).mul S).add Mt.one = (sm S (k + 1)).add ((pw S k).mul S)
    rw [sm_next S k, Mt.add_mul, Mt.add_swap, ← sm_next S k]
    rfl
theorem sm_add (S : Mt) (a : Nat) : ∀ b, sm S (a + b) = (sm S a).add ((pw S a).mul (sm S b))
  | 0 => by rw [Nat.add_zero, sm, Mt.mul_zero, Mt.add_zero]
  | b + 1 => by
    show sm S ((a + b) + 1) = _
    rw [sm_next, sm_add S a b, sm_next S b, Mt.mul_add, Mt.add_assoc, pw_add]
/-! the same by n -/
def Cg (n : Int) (a b : Mt) : Prop := n ∣ a.p - b.p ∧ n ∣ a.q - b.q ∧ n ∣ a.r - b.r ∧ n ∣ a.s - b.s
theorem Cg.refl (n : Int) (a : Mt) : Cg n a a := by
  refine ⟨?_, ?_, ?_, ?_⟩ <;> rw [Int.sub_self] <;> exact Int.dvd_zero n
theorem dv_mul {n x x' y y' : Int} (h1 : n ∣ x - x') (h2 : n ∣ y - y') : n ∣ x * y - x' * y' := by
  obtain ⟨u, hu⟩ := h1
  obtain ⟨v, hv⟩ := h2
  refine ⟨u * y + x' * v, ?_⟩
  have e1 : x = x' + n * u := by omega
  have e2 : y = y' + n * v := by omega
  rw [e1, e2]
  grind
theorem dv_add {n x x' y y' : Int} (h1 : n ∣ x - x') (h2 : n ∣ y - y') : n ∣ x + y - (x' + y') := by
  have := Int.dvd_add h1 h2
  rwa [show x - x' + (y - y') = x + y - (x' + y') by omega] at this
theorem dv_mod {n x y : Int} (h : n ∣ x - y) : n ∣ x % n - y := by
  obtain ⟨u, hu⟩ := h
  refine ⟨u - x / n, ?_⟩
  have := Int.mul_ediv_add_emod x n
  grind
theorem Cg.mul {n : Int} {a a' b b' : Mt} (h1 : Cg n a a') (h2 : Cg n b b') : Cg n (a.mul b) (a'.mul b') :=
  ⟨dv_add (dv_mul h1.1 h2.1) (dv_mul h1.2.1 h2.2.2.1), dv_add (dv_mul h1.1 h2.2.1) (dv_mul h1.2.1 h2.2.2.2), dv_add (dv_mul h1.2.2.1 h2.1) (dv_mul h1.2.2.2 h2.2.2.1), dv_add (dv_mul h1.2.2.1 h2.2.1) (dv_mul h1.2.2.2 h2.2.2.2)⟩
theorem Cg.add {n : Int} {a a' b b' : Mt} (h1 : Cg n a a') (h2 : Cg n b b') : Cg n (a.add b) (a'.add b') :=
  ⟨dv_add h1.1 h2.1, dv_add h1.2.1 h2.2.1, dv_add h1.2.2.1 h2.2.2.1, dv_add h1.2.2.2 h2.2.2.2⟩
def Mt.md (n : Int) (a : Mt) : Mt := ⟨a.p % n, a.q % n, a.r % n, a.s % n⟩
theorem Cg.md {n : Int} {a b : Mt} (h : Cg n a b) : Cg n (a.md n) b := ⟨dv_mod h.1, dv_mod h.2.1, dv_mod h.2.2.1, dv_mod h.2.2.2⟩
/-! values -/
def rv (a b x y : Int) : Nat → Int
  | 0 => x
  | 1 => y
  | k + 2 => a * rv a b x y (k + 1) + b * rv a b x y k
theorem rv_shift (a b x y : Int) : ∀ k, rv a b y (a * y + b * x) k = rv a b x y (k + 1)
  | 0 => rfl
  | 1 => rfl
  | k + 2 => by
    rw [rv, rv_shift a b x y (k + 1), rv_shift a b x y k]
    rfl
def sv (a b x y : Int) : Nat → Int
  | 0 => 0
  | k + 1 => sv a b x y k + rv a b x y k
theorem pw_act (a b : Int) : ∀ (k : Nat) (x y : Int), (pw ⟨0, 1, b, a⟩ k).p * x + (pw ⟨0, 1, b, a⟩ k).q * y = rv a b x y k ∧ (pw ⟨0, 1, b, a⟩ k).r * x + (pw ⟨0, 1, b, a⟩ k).s * y = rv a b x y (k + 1)
  | 0, x, y => by simp [pw, Mt.one, rv]
  | k + 1, x, y => by
    have h := pw_act a b k y (a * y + b * x)
    rw [rv_shift, rv_shift] at h
    simp only [pw, Mt.mul]
    refine ⟨?_, ?_⟩
    · rw [← h.1]; grind
    · rw [← h.2]; grind
theorem sm_act (a b x y : Int) : ∀ k : Nat, (sm ⟨0, 1, b, a⟩ k).p * x + (sm ⟨0, 1, b, a⟩ k).q * y = sv a b x y k
  | 0 => by simp [sm, Mt.zero, sv]
  | k + 1 => by
    have h1 := sm_act a b x y k
    have h2 := (pw_act a b k x y).1
    rw [sm_next, sv, ← h1, ← h2]
    simp only [Mt.add]
    grind
theorem rv_le {a b x y : Int} {C m : Nat} (hC : a.natAbs + b.natAbs + 1 ≤ C) (hx : x.natAbs ≤ m) (hy : y.natAbs ≤ m) : ∀ k, (rv a b x y k).natAbs ≤ C ^ k * m
  | 0 => by simp [rv]; exact hx
  | 1 => by
    rw [Nat.pow_one]
    exact Nat.le_trans hy (Nat.le_mul_of_pos_left m (by omega))
  | k + 2 => by
    have h1 := rv_le hC hx hy (k + 1)
    have h2 := rv_le hC hx hy k
    have h3 : C ^ k * m ≤ C ^ (k + 1) * m := Nat.mul_le_mul_right m (Nat.pow_le_pow_right (by omega) (Nat.le_succ k))
    have h4 : (rv a b x y (k + 2)).natAbs ≤ a.natAbs * (C ^ (k + 1) * m) + b.natAbs * (C ^ (k + 1) * m) := by
      rw [rv]
      refine Nat.le_trans (Int.natAbs_add_le _ _) ?_
      rw [Int.natAbs_mul, Int.natAbs_mul]
      exact Nat.add_le_add (Nat.mul_le_mul_left _ h1) (Nat.mul_le_mul_left _ (Nat.le_trans h2 h3))
    rw [← Nat.add_mul] at h4
    refine Nat.le_trans h4 ?_
    rw [Nat.pow_succ C (k + 1), Nat.mul_comm (C ^ (k + 1)) C, Nat.mul_assoc]
    exact Nat.mul_le_mul_right _ (by omega)
/-! coming round -/
theorem rv_per {a b x y n : Int} {i j : Nat} (h0 : n ∣ rv a b x y j - rv a b x y i) (h1 : n ∣ rv a b x y (j + 1) - rv a b x y (i + 1)) : ∀ k, n ∣ rv a b x y (j + k) - rv a b x y (i + k) ∧ n ∣ rv a b x y (j + k + 1) - rv a b x y (i + k + 1)
  | 0 => ⟨h0, h1⟩
  | k + 1 => by
    have ⟨g0, g1⟩ := rv_per h0 h1 k
    refine ⟨g1, ?_⟩
    show n ∣ rv a b x y (j + k + 2) - rv a b x y (i + k + 2)
    rw [rv, rv]
    exact dv_add (dv_mul (by rw [Int.sub_self]; exact Int.dvd_zero n) g1) (dv_mul (by rw [Int.sub_self]; exact Int.dvd_zero n) g0)
theorem sv_per {a b x y n : Int} {i j : Nat} (h0 : n ∣ rv a b x y j - rv a b x y i) (h1 : n ∣ rv a b x y (j + 1) - rv a b x y (i + 1)) : ∀ k, n ∣ (sv a b x y (j + k) - sv a b x y j) - (sv a b x y (i + k) - sv a b x y i)
  | 0 => by
    rw [Nat.add_zero, Nat.add_zero, Int.sub_self, Int.sub_self]
    exact Int.dvd_zero n
  | k + 1 => by
    have g := Int.dvd_add (sv_per h0 h1 k) (rv_per h0 h1 k).1
    show n ∣ (sv a b x y (j + k) + rv a b x y (j + k) - sv a b x y j) - (sv a b x y (i + k) + rv a b x y (i + k) - sv a b x y i)
    rwa [show (sv a b x y (j + k) - sv a b x y j) - (sv a b x y (i + k) - sv a b x y i) + (rv a b x y (j + k) - rv a b x y (i + k)) = (sv a b x y (j + k) + rv a b x y (j + k) - sv a b x y j) - (sv a b x y (i + k) + rv a b x y (i + k) - sv a b x y i) by omega] at g
section
variable {a b x y n : Int} {t r : Nat} (h0 : n ∣ rv a b x y (t + r) - rv a b x y t) (h1 : n ∣ rv a b x y (t + r + 1) - rv a b x y (t + 1))
include h0 h1
theorem rv_round (s : Nat) : ∀ q, n ∣ rv a b x y (t + (r * q + s)) - rv a b x y (t + s)
  | 0 => by rw [Nat.mul_zero, Nat.zero_add, Int.sub_self]; exact Int.dvd_zero n
  | q + 1 => by
    have g := (rv_per h0 h1 (r * q + s)).1
    rw [show t + (r * (q + 1) + s) = t + r + (r * q + s) by rw [Nat.mul_succ]; omega]
    exact dvd_tr g (rv_round s q)
theorem sv_round (s : Nat) : ∀ q, n ∣ sv a b x y (t + (r * q + s)) - (sv a b x y t + (q : Int) * (sv a b x y (t + r) - sv a b x y t) + (sv a b x y (t + s) - sv a b x y t))
  | 0 => by
    rw [Nat.mul_zero, Nat.zero_add]
    refine ⟨0, ?_⟩
    simp
    omega
  | q + 1 => by
    have g := sv_per h0 h1 (r * q + s)
    have g2 := Int.dvd_add g (sv_round s q)
    rw [show t + (r * (q + 1) + s) = t + r + (r * q + s) by rw [Nat.mul_succ]; omega]
    have e : ((q + 1 : Nat) : Int) = (q : Int) + 1 := rfl
    rw [e]
    refine Int.dvd_trans g2 ⟨1, ?_⟩
    grind
end
/-! lists of rests -/
def ws (a b x y n : Int) (m : Nat) : List Int := (List.range m).map fun i => rv a b x y i % n
theorem ws_len (a b x y n : Int) (m : Nat) : (ws a b x y n m).length = m := by simp [ws]
theorem ws_at {a b x y n : Int} {m i : Nat} (h : i < m) : (ws a b x y n m)[i]? = some (rv a b x y i % n) := by
  unfold ws
  rw [List.getElem?_map, List.getElem?_range h]
  rfl
theorem ws_snoc (a b x y n : Int) (m : Nat) : ws a b x y n (m + 1) = ws a b x y n m ++ [rv a b x y m % n] := by
  unfold ws
  rw [List.range_succ, List.map_append]
  rfl
theorem ws_take {a b x y n : Int} {m i : Nat} (h : i ≤ m) : (ws a b x y n m).take i = ws a b x y n i := by
  unfold ws
  rw [← List.map_take, List.take_range, Nat.min_eq_left h]
theorem sum_app (l : List Int) (c : Int) : (l ++ [c]).sum = l.sum + c := by simp
theorem ws_sum (a b x y n : Int) : ∀ m, n ∣ (ws a b x y n m).sum - sv a b x y m
  | 0 => ⟨0, by simp [ws, sv]⟩
  | m + 1 => by
    rw [ws_snoc, sum_app, sv]
    exact dv_add (ws_sum a b x y n m) (dv_mod ⟨0, by omega⟩)
theorem ws_part {a b x y n : Int} {m i j : Nat} (hi : i + j ≤ m) : n ∣ (((ws a b x y n m).drop i).take j).sum - (sv a b x y (i + j) - sv a b x y i) := by
  have e : ((ws a b x y n m).take (i + j)) = (ws a b x y n m).take i ++ ((ws a b x y n m).drop i).take j := by rw [List.take_add]
  rw [ws_take hi, ws_take (show i ≤ m by omega)] at e
  have h1 := ws_sum a b x y n (i + j)
  have h2 := ws_sum a b x y n i
  rw [e, List.sum_append] at h1
  have := Int.dvd_sub h1 h2
  rwa [show (ws a b x y n i).sum + (((ws a b x y n m).drop i).take j).sum - sv a b x y (i + j) - ((ws a b x y n i).sum - sv a b x y i) = (((ws a b x y n m).drop i).take j).sum - (sv a b x y (i + j) - sv a b x y i) by omega] at this
/-- pairs must come again -/
theorem pair_pig {a b x y : Int} {n : Nat} (n0 : 0 < n) (h : ∀ i < n * n + 1, ∀ j < i, ¬ (rv a b x y i % (n : Int) = rv a b x y j % (n : Int) ∧ rv a b x y (i + 1) % (n : Int) = rv a b x y (j + 1) % (n : Int))) : False := by
  have key : ∀ i j : Nat, rs n (rv a b x y i) * n + rs n (rv a b x y (i + 1)) = rs n (rv a b x y j) * n + rs n (rv a b x y (j + 1)) → rv a b x y i % (n : Int) = rv a b x y j % (n : Int) ∧ rv a b x y (i + 1) % (n : Int) = rv a b x y (j + 1) % (n : Int) := fun i j e => by
    have l1 := rs_lt n0 (rv a b x y (i + 1))
    have l2 := rs_lt n0 (rv a b x y (j + 1))
    have d1 : (rs n (rv a b x y i) * n + rs n (rv a b x y (i + 1))) % n = rs n (rv a b x y (i + 1)) := by rw [Nat.mul_add_mod_self_right]; exact Nat.mod_eq_of_lt l1
    have d2 : (rs n (rv a b x y j) * n + rs n (rv a b x y (j + 1))) % n = rs n (rv a b x y (j + 1)) := by rw [Nat.mul_add_mod_self_right]; exact Nat.mod_eq_of_lt l2
    rw [e] at d1
    have e1 : rs n (rv a b x y (i + 1)) = rs n (rv a b x y (j + 1)) := d1.symm.trans d2
    have e2 : rs n (rv a b x y i) = rs n (rv a b x y j) := Nat.eq_of_mul_eq_mul_right n0 (by omega)
    rw [← rs_eq n0, ← rs_eq n0, ← rs_eq n0, ← rs_eq n0, e1, e2]
    exact ⟨rfl, rfl⟩
  refine noinj (n * n) (fun i => rs n (rv a b x y i) * n + rs n (rv a b x y (i + 1))) (fun i _ => ?_) fun i hi j hj e => ?_
  · have l1 := rs_lt n0 (rv a b x y i)
    have l2 := rs_lt n0 (rv a b x y (i + 1))
    have := Nat.mul_le_mul_right n (show rs n (rv a b x y i) + 1 ≤ n by omega)
    rw [Nat.add_mul] at this
    omega
  · rcases Nat.lt_trichotomy i j with c | c | c
    · have k := key i j e
      exact absurd ⟨k.1.symm, k.2.symm⟩ (h j hj i c)
    · exact c
    · exact absurd (key i j e) (h i hi j c)
end Vf

namespace Vf
/-! ## a sum of L coefficients is divided everywhere if it is at 0 to L - 1 -/
theorem padd (j : Int) : ∀ (a b : List Int), b.length ≤ a.length → ∃ r : List Int, r.length = a.length ∧ ∀ x, pval r x = pval a x + j * pval b x
  | [], [], _ => ⟨[], rfl, fun x => by simp [pval]⟩
  | [], _ :: _, h => by simp at h
  | a :: p, [], _ => ⟨a :: p, rfl, fun x => by simp [pval]⟩
  | a :: p, b :: q, h => by
    obtain ⟨r, lr, hr⟩ := padd j p q (by simpa using h)
    refine ⟨(a + j * b) :: r, by simp [lr], fun x => ?_⟩
    rw [pval, hr, pval, pval]
    grind
theorem pquo (j : Int) : ∀ (p : List Int), ∃ r : List Int, r.length = p.length - 1 ∧ ∀ x, pval p x = pval p j + (x - j) * pval r x
  | [] => ⟨[], rfl, fun x => by simp [pval]⟩
  | c :: q => by
    obtain ⟨r, lr, hr⟩ := pquo j q
    obtain ⟨u, lu, hu⟩ := padd j q r (by omega)
    refine ⟨u, by rw [lu]; simp, fun x => ?_⟩
    have h := hr x
    rw [pval, pval, hu]
    grind
theorem newt : ∀ (m : Nat) (p : List Int) (j : Int), p.length = m → ∃ t : List Int, t.length = m ∧ ∀ x, nval t j x = pval p x
  | 0, p, j, h => by
    obtain rfl := List.eq_nil_of_length_eq_zero h
    exact ⟨[], rfl, fun _ => rfl⟩
  | m + 1, p, j, h => by
    obtain ⟨r, lr, hr⟩ := pquo j p
    obtain ⟨t, lt, ht⟩ := newt m r (j + 1) (by omega)
    refine ⟨pval p j :: t, by simp [lt], fun x => ?_⟩
    rw [nval, ht, hr x]
theorem div_all {n : Int} {p : List Int} (h : ∀ x < p.length, n ∣ pval p ((x : Nat) : Int)) (x : Nat) : n ∣ pval p (x : Int) := by
  obtain ⟨t, lt, ht⟩ := newt p.length p 0 rfl
  have h1 : ∀ k < p.length, n ∣ t.getD k 0 * (fac k : Int) := nw_none p.length (fun k => t.getD k 0 * (fac k : Int)) fun y hy => by
    rw [← nval_nwl t y p.length (by omega), ht]
    exact h y hy
  rw [← ht, nval_nwl t x p.length (by omega)]
  exact nw_dvd h1
theorem pval_mod (n : Int) : ∀ (p : List Int) (x y : Int), n ∣ x - y → n ∣ pval p x - pval p y
  | [], x, y, _ => by simp [pval]
  | c :: q, x, y, h => by
    obtain ⟨u, hu⟩ := h
    obtain ⟨v, hv⟩ := pval_mod n q x y ⟨u, hu⟩
    refine ⟨x * v + u * pval q y, ?_⟩
    rw [pval, pval]
    have e : pval q x = pval q y + n * v := by omega
    have e2 : x = y + n * u := by omega
    rw [e, e2]
    grind
/-- all numbers, not those from 0 on alone -/
theorem div_per {n : Nat} (n0 : 0 < n) {p q : List Int} (h : ∀ x < n, (n : Int) ∣ pval p ((x : Nat) : Int) - pval q (x : Int)) (x : Nat) : (n : Int) ∣ pval p (x : Int) - pval q (x : Int) := by
  have h1 := h (x % n) (Nat.mod_lt _ n0)
  have h0 : (n : Int) ∣ (x : Int) - ((x % n : Nat) : Int) := by
    refine ⟨((x / n : Nat) : Int), ?_⟩
    have := Nat.mod_add_div x n
    have e : ((x % n : Nat) : Int) + (n : Int) * ((x / n : Nat) : Int) = (x : Int) := by
      rw [← Int.natCast_mul, ← Int.natCast_add, this]
    omega
  have h2 := pval_mod n p _ _ h0
  have h3 := pval_mod n q _ _ h0
  have := Int.dvd_add (Int.dvd_sub h2 h3) h1
  rwa [show pval p (x : Int) - pval p ((x % n : Nat) : Int) - (pval q (x : Int) - pval q ((x % n : Nat) : Int)) + (pval p ((x % n : Nat) : Int) - pval q ((x % n : Nat) : Int)) = pval p (x : Int) - pval q (x : Int) by omega] at this
/-- the first number at which it is not divided is a rest -/
theorem first_lt {n : Nat} (n0 : 0 < n) {p q : List Int} {x : Nat} (h : ∀ y < x, (n : Int) ∣ pval p ((y : Nat) : Int) - pval q (y : Int)) (hx : ¬ (n : Int) ∣ pval p (x : Int) - pval q (x : Int)) : x < n := by
  rcases Nat.lt_or_ge x n with c | c
  · exact c
  · exact absurd (div_per n0 (fun y hy => h y (by omega)) x) hx
/-- where two sums leave other rests -/
def gapsL (n : Nat) (p q : List Int) (m : Nat) : List Int := ((List.range m).filter fun x : Nat => decide (¬ pval p (x : Int) % (n : Int) = pval q (x : Int) % (n : Int))).map fun x : Nat => (x : Int)
theorem mod_iff {n : Int} (a b : Int) : n ∣ a - b ↔ a % n = b % n := ⟨fun h => Int.emod_eq_emod_iff_emod_sub_eq_zero.mpr (Int.emod_eq_zero_of_dvd h), fun h => Int.dvd_of_emod_eq_zero (Int.emod_eq_emod_iff_emod_sub_eq_zero.mp h)⟩
theorem gaps_nil {n : Nat} {p q : List Int} : gapsL n p q n = [] ↔ ∀ x < n, (n : Int) ∣ pval p ((x : Nat) : Int) - pval q (x : Int) := by
  unfold gapsL
  rw [List.map_eq_nil_iff, List.filter_eq_nil_iff]
  constructor
  · intro h x hx
    have := h x (List.mem_range.mpr hx)
    rw [mod_iff]
    simpa using this
  · intro h x hx
    have := h x (List.mem_range.mp hx)
    rw [mod_iff] at this
    simpa using this
theorem gaps_snoc (n : Nat) (p q : List Int) (m : Nat) : gapsL n p q (m + 1) = gapsL n p q m ++ (if ¬ pval p (m : Int) % (n : Int) = pval q (m : Int) % (n : Int) then [(m : Int)] else []) := by
  unfold gapsL
  rw [List.range_succ, List.filter_append, List.map_append]
  congr 1
  by_cases c : pval p (m : Int) % (n : Int) = pval q (m : Int) % (n : Int)
  · rw [if_neg (by simpa using c)]
    simp [c]
  · rw [if_pos c]
    simp [c]
theorem gaps_len (n : Nat) (p q : List Int) (m : Nat) : (gapsL n p q m).length ≤ m := by
  unfold gapsL
  rw [List.length_map]
  exact Nat.le_trans (List.length_filter_le _ _) (by rw [List.length_range]; exact Nat.le_refl _)
theorem gaps_first {n : Nat} {p q : List Int} {x : Nat} (h : ∀ y < x, (n : Int) ∣ pval p ((y : Nat) : Int) - pval q (y : Int)) (hx : ¬ (n : Int) ∣ pval p (x : Int) - pval q (x : Int)) : ∀ d, ∃ t, gapsL n p q (x + 1 + d) = (x : Int) :: t
  | 0 => by
    have h0 : gapsL n p q x = [] := by
      unfold gapsL
      rw [List.map_eq_nil_iff, List.filter_eq_nil_iff]
      intro y hy
      have := h y (List.mem_range.mp hy)
      rw [mod_iff] at this
      simpa using this
    refine ⟨[], ?_⟩
    rw [Nat.add_zero, gaps_snoc, h0, if_pos (fun c => hx ((mod_iff _ _).mpr c))]
    rfl
  | d + 1 => by
    obtain ⟨t, ht⟩ := gaps_first h hx d
    rw [← Nat.add_assoc, gaps_snoc, ht]
    exact ⟨_, rfl⟩
/-- a least form leaves the rests of its sum, at all numbers from 0 on -/
theorem form_dvd {n : Nat} {p t h : List Int} (ht : ∀ x : Int, nval t 0 x = pval p x) (lt : h.length = t.length) (hh : ∀ k < t.length, h.getD k 0 = t.getD k 0 % (sz n k : Int)) (x : Nat) : (n : Int) ∣ nval h 0 (x : Int) - pval p (x : Int) := by
  rw [← ht, nval_nwl h x t.length (by omega), nval_nwl t x t.length (Nat.le_refl _), ← nw_sub]
  refine nw_dvd fun k hk => ?_
  rw [hh k hk, ← Int.sub_mul]
  obtain ⟨z, hz⟩ := sub_mod (sz n k : Int) (t.getD k 0)
  rw [hz, Int.mul_assoc, Int.mul_left_comm]
  exact Int.dvd_mul_of_dvd_right (sz_fac n k)
/-- two lists alike but for 0s at the end have the same values as steps -/
theorem nval_alike {a b : List Int} (h : ∀ k, a.getD k 0 = b.getD k 0) (x : Nat) : nval a 0 (x : Int) = nval b 0 (x : Int) := by
  rw [nval_nwl a x (max a.length b.length) (by omega), nval_nwl b x (max a.length b.length) (by omega)]
  have e : (fun k => a.getD k 0 * (fac k : Int)) = fun k => b.getD k 0 * (fac k : Int) := by
    funext k
    rw [h k]
  rw [e]
/-- the same values, the same coefficients but for 0s at the end -/
theorem alike {a b : List Int} (h : ∀ x, pval a x = pval b x) : ∀ k, a.getD k 0 = b.getD k 0 :=
  psub_all a b (pval_none fun x _ => by rw [pval_sub, h x, Int.sub_self])
end Vf

namespace Vf
/-! ## a sum that turns the rests is led back by a sum -/
theorem pmulE : ∀ (a b : List Int), ∃ r : List Int, ∀ x, pval r x = pval a x * pval b x
  | [], b => ⟨[], fun x => by simp [pval]⟩
  | c :: a, b => by
    obtain ⟨r, hr⟩ := pmulE a b
    refine ⟨psub (0 :: r) (b.map fun d => -(c * d)), fun x => ?_⟩
    have e : ∀ b : List Int, pval (b.map fun d => -(c * d)) x = -(c * pval b x) := by
      intro b
      induction b with
      | nil => simp [pval]
      | cons d b ih => rw [List.map_cons, pval, ih, pval]; grind
    rw [pval_sub, e, pval, hr, pval]
    grind
theorem pcompE : ∀ (a b : List Int), ∃ r : List Int, ∀ x, pval r x = pval a (pval b x)
  | [], b => ⟨[], fun x => by simp [pval]⟩
  | c :: a, b => by
    obtain ⟨r, hr⟩ := pcompE a b
    obtain ⟨s, hs⟩ := pmulE b r
    refine ⟨psub s [-c], fun x => ?_⟩
    rw [pval_sub, hs, hr]
    simp only [pval]
    grind
def iter (F : Int → Int) : Nat → Int → Int
  | 0, x => x
  | k + 1, x => F (iter F k x)
theorem iter_add (F : Int → Int) (a : Nat) (x : Int) : ∀ b, iter F (b + a) x = iter F b (iter F a x)
  | 0 => by rw [Nat.zero_add]; rfl
  | b + 1 => by
    rw [show b + 1 + a = (b + a) + 1 by omega, iter, iter_add F a x b]
    rfl
theorem iter_poly (p : List Int) : ∀ k, ∃ r : List Int, ∀ x, pval r x = iter (pval p) k x
  | 0 => ⟨[0, 1], fun x => by simp [pval, iter]⟩
  | k + 1 => by
    obtain ⟨r, hr⟩ := iter_poly p k
    obtain ⟨s, hs⟩ := pcompE p r
    exact ⟨s, fun x => by rw [hs, hr]; rfl⟩
theorem iter_cong {F : Int → Int} {n : Int} (hF : ∀ x y, n ∣ x - y → n ∣ F x - F y) : ∀ (k : Nat) (x y : Int), n ∣ x - y → n ∣ iter F k x - iter F k y
  | 0, _, _, h => h
  | k + 1, x, y, h => hF _ _ (iter_cong hF k x y h)
theorem iter_back {F : Int → Int} {n : Nat} (hI : Inj F n) : ∀ (k : Nat) (x y : Int), (n : Int) ∣ iter F k x - iter F k y → (n : Int) ∣ x - y
  | 0, _, _, h => h
  | k + 1, x, y, h => iter_back hI k x y (hI _ _ h)
theorem iter_self {F : Int → Int} {n : Nat} (n0 : 0 < n) (hF : ∀ x y, (n : Int) ∣ x - y → (n : Int) ∣ F x - F y) (hI : Inj F n) (x : Int) : ∃ d, 1 ≤ d ∧ d ≤ n ∧ (n : Int) ∣ iter F d x - x := by
  refine Classical.byContradiction fun hno => ?_
  refine noinj n (fun k => rs n (iter F k x)) (fun k _ => rs_lt n0 _) fun a ha b hb e => ?_
  have key : ∀ a b : Nat, a < b → b < n + 1 → rs n (iter F a x) = rs n (iter F b x) → False := fun a b hab hb e => by
    refine hno ⟨b - a, by omega, by omega, ?_⟩
    have h1 := (rs_dvd n0 _ _).mpr e
    rw [show b = a + (b - a) by omega, iter_add F (b - a) x a] at h1
    exact dvd_sy (iter_back hI a _ _ h1)
  rcases Nat.lt_trichotomy a b with h | h | h
  · exact (key a b h hb e).elim
  · exact h
  · exact (key b a h ha e.symm).elim
theorem iter_mul {F : Int → Int} {n : Int} (hF : ∀ x y, n ∣ x - y → n ∣ F x - F y) {d : Nat} {x : Int} (h : n ∣ iter F d x - x) : ∀ m, n ∣ iter F (d * m) x - x
  | 0 => by rw [Nat.mul_zero]; exact ⟨0, by show x - x = _; omega⟩
  | m + 1 => by
    rw [Nat.mul_succ, iter_add F d x (d * m)]
    exact dvd_tr (iter_cong hF (d * m) _ _ h) (iter_mul hF h m)
theorem dvd_facN {d n : Nat} (h1 : 1 ≤ d) (h : d ≤ n) : d ∣ fac n := Nat.dvd_trans (dvd_fac (show 0 < d by omega)) (fac_dvd h)
/-- what leads back: a sum -/
def Backs (p q : List Int) (n : Nat) : Prop := (∀ x : Int, (n : Int) ∣ pval q (pval p x) - x) ∧ ∀ x : Int, (n : Int) ∣ pval p (pval q x) - x
theorem backs_ex {p : List Int} {n : Nat} (n0 : 0 < n) (hI : Inj (pval p) n) : ∃ q, Backs p q n := by
  have hF : ∀ x y, (n : Int) ∣ x - y → (n : Int) ∣ pval p x - pval p y := fun x y => pval_mod _ p x y
  have all : ∀ x : Int, (n : Int) ∣ iter (pval p) (fac n) x - x := fun x => by
    obtain ⟨d, h1, h2, h3⟩ := iter_self n0 hF hI x
    obtain ⟨m, hm⟩ := dvd_facN h1 h2
    rw [hm]
    exact iter_mul hF h3 m
  obtain ⟨q, hq⟩ := iter_poly p (fac n - 1)
  have f1 := fac_pos n
  refine ⟨q, fun x => ?_, fun x => ?_⟩
  · have h := all x
    rw [show fac n = (fac n - 1) + 1 by omega, iter_add (pval p) 1 x (fac n - 1)] at h
    rw [hq]
    exact h
  · have h := all x
    rw [show fac n = (fac n - 1) + 1 by omega] at h
    rw [hq]
    exact h
theorem Backs.inj {p q : List Int} {n : Nat} (h : Backs p q n) : Inj (pval p) n := fun x y hxy => by
  have h1 := pval_mod _ q _ _ hxy
  exact dvd_tr (dvd_tr (dvd_sy (h.1 x)) h1) (h.1 y)
theorem Backs.sym {p q : List Int} {n : Nat} (h : Backs p q n) : Backs q p n := ⟨h.2, h.1⟩
/-- the same at all rests -/
theorem Backs.of {p q w : List Int} {n : Nat} (h : Backs p q n) (e : ∀ x : Int, (n : Int) ∣ pval w x - pval q x) : Backs p w n :=
  ⟨fun x => dvd_tr (e _) (h.1 x), fun x => dvd_tr (pval_mod _ p _ _ (e x)) (h.2 x)⟩
/-- at the rests, so at all numbers -/
theorem mod_all {w q : List Int} {n : Nat} (n0 : 0 < n) (e : ∀ x < n, (n : Int) ∣ pval w ((x : Nat) : Int) - pval q (x : Int)) (x : Int) : (n : Int) ∣ pval w x - pval q x := by
  have h1 := pval_mod _ w _ _ (rs_self n0 x)
  have h2 := pval_mod _ q _ _ (rs_self n0 x)
  exact dvd_tr h1 (dvd_tr (e (rs n x) (rs_lt n0 x)) (dvd_sy h2))
theorem Backs.same {p q q' : List Int} {n : Nat} (h : Backs p q n) (h' : Backs p q' n) (x : Int) : (n : Int) ∣ pval q x - pval q' x := by
  have h1 := pval_mod _ q _ _ (h'.2 x)
  have h2 := h.1 (pval q' x)
  exact dvd_tr (dvd_sy h1) h2
theorem tab_same {a b : List Int} {n : Nat} (h : ∀ x : Int, (n : Int) ∣ pval a x - pval b x) : tabOf a n = tabOf b n := by
  unfold tabOf
  exact List.map_congr_left fun x _ => (mod_iff _ _).mp (h x)
/-- where a rest comes from -/
theorem Backs.from {p q : List Int} {n : Nat} (n0 : 0 < n) (h : Backs p q n) {x r : Nat} (hx : x < n) (hr : r < n) : (tabOf p n).getD x 0 = (r : Int) ↔ (tabOf q n).getD r 0 = (x : Int) := by
  rw [tabOf_at p hx, tabOf_at q hr]
  have ex : (x : Int) % (n : Int) = x := Int.emod_eq_of_lt (by omega) (by omega)
  have er : (r : Int) % (n : Int) = r := Int.emod_eq_of_lt (by omega) (by omega)
  constructor
  · intro e
    rw [← er] at e
    have h1 := pval_mod _ q _ _ ((mod_iff _ _).mpr e)
    have h2 := dvd_tr (dvd_sy h1) (h.1 x)
    rw [← ex]
    exact (mod_iff _ _).mp h2
  · intro e
    rw [← ex] at e
    have h1 := pval_mod _ p _ _ ((mod_iff _ _).mpr e)
    have h2 := dvd_tr (dvd_sy h1) (h.2 r)
    rw [← er]
    exact (mod_iff _ _).mp h2
end Vf

namespace Vf
/-! ## powers by a base -/
theorem cg_mul {n a b c d : Int} (h1 : a % n = b % n) (h2 : c % n = d % n) : (a * c) % n = (b * d) % n := by
  rw [Int.mul_emod, h1, h2, ← Int.mul_emod]
theorem cg_pow {n a b : Int} (h : a % n = b % n) : ∀ k : Nat, a ^ k % n = b ^ k % n
  | 0 => by rw [Int.pow_zero, Int.pow_zero]
  | k + 1 => by
    rw [Int.pow_succ, Int.pow_succ]
    exact cg_mul (cg_pow h k) h
theorem cg_mod (n a : Int) : (a % n) % n = a % n := Int.emod_emod ..
theorem sq_pow (f : Int) (k : Nat) : (f * f) ^ k = f ^ (2 * k) := by
  rw [Int.pow_mul, show f * f = f ^ 2 by rw [Int.pow_succ, Int.pow_succ, Int.pow_zero, Int.one_mul]]
/-- the turn of raising by squares -/
theorem raise_odd {n p f : Int} {l : Nat} (h : l % 2 = 1) : ((p * f % n) * (f * f % n) ^ (l / 2)) % n = (p * f ^ l) % n := by
  have e : p * f ^ l = (p * f) * (f * f) ^ (l / 2) := by
    have z : l = 2 * (l / 2) + 1 := by omega
    rw [sq_pow]
    conv => lhs; rw [z]
    rw [Int.pow_succ, Int.mul_comm (f ^ (2 * (l / 2))), ← Int.mul_assoc]
  rw [e]
  exact cg_mul (cg_mod _ _) (cg_pow (cg_mod _ _) _)
theorem raise_even {n p f : Int} {l : Nat} (h : l % 2 = 0) : (p * (f * f % n) ^ (l / 2)) % n = (p * f ^ l) % n := by
  have e : p * f ^ l = p * (f * f) ^ (l / 2) := by
    have z : l = 2 * (l / 2) := by omega
    rw [sq_pow]
    conv => lhs; rw [z]
  rw [e]
  exact cg_mul rfl (cg_pow (cg_mod _ _) _)
/-- what turns a number round is one rest -/
theorem inv_one {n x u v : Int} (hu : (u * x) % n = 1 % n) (hv : (v * x) % n = 1 % n) : u % n = v % n := by
  have h1 : (u * (v * x)) % n = (u * 1) % n := cg_mul rfl hv
  have h2 : (v * (u * x)) % n = (v * 1) % n := cg_mul rfl hu
  rw [Int.mul_one] at h1 h2
  rw [← h1, ← h2, Int.mul_left_comm]
theorem inv_pow {n x u : Int} (hu : (u * x) % n = 1 % n) (k : Nat) : (u ^ k * x ^ k) % n = 1 % n := by
  rw [← Int.mul_pow]
  have h := cg_pow hu k
  rw [Int.one_pow] at h
  exact h
/-- open numbers: what turns round one of them tells that it is open -/
theorem open_of {n : Nat} {x u : Int} (hu : (u * x) % (n : Int) = 1 % (n : Int)) : Nat.gcd x.natAbs n = 1 := by
  have d1 : ((Nat.gcd x.natAbs n : Nat) : Int) ∣ x := Int.ofNat_dvd_left.mpr (Nat.gcd_dvd_left _ _)
  have d2 : ((Nat.gcd x.natAbs n : Nat) : Int) ∣ (n : Int) := Int.natCast_dvd_natCast.mpr (Nat.gcd_dvd_right _ _)
  have d3 : (n : Int) ∣ u * x - 1 := Int.dvd_of_emod_eq_zero (Int.emod_eq_emod_iff_emod_sub_eq_zero.mp hu)
  have d4 : ((Nat.gcd x.natAbs n : Nat) : Int) ∣ 1 := by
    have h := Int.dvd_sub (Int.dvd_trans d1 (Int.dvd_mul_left u x)) (Int.dvd_trans d2 d3)
    rw [show u * x - (u * x - 1) = 1 by omega] at h
    exact h
  have := Int.natCast_dvd_natCast.mp (show ((Nat.gcd x.natAbs n : Nat) : Int) ∣ ((1 : Nat) : Int) from d4)
  exact Nat.dvd_one.mp this
end Vf

namespace Vf
/-! ## powers by a base: Fermat, Euler, orders -/
theorem binom (a : Int) : ∀ (x m : Nat) (c : Int), x < m → nw (fun k => c * a ^ k) m x = c * (1 + a) ^ x
  | 0, m, c, h => by
    rw [nw_zero _ m h]
    show c * a ^ 0 = _
    rw [Int.pow_zero, Int.pow_zero]
  | x + 1, m + 1, c, h => by
    rw [nw_step, binom a x (m + 1) c (by omega)]
    rw [show (fun k : Nat => c * a ^ (k + 1)) = fun k => (c * a) * a ^ k by funext k; rw [Int.pow_succ]; grind]
    rw [binom a x m (c * a) (by omega), Int.pow_succ]
    grind
theorem pr_fac {p : Nat} (hp : Pr p) : ∀ k, k < p → ¬ (p : Int) ∣ (fac k : Int)
  | 0, _ => fun h => by
    have h1 := Int.le_of_dvd (by decide) h
    have h2 := hp.1
    rw [show fac 0 = 1 from rfl] at h1
    omega
  | k + 1, hk => fun h => by
    have e : ((fac (k + 1) : Nat) : Int) = ((k + 1 : Nat) : Int) * (fac k : Int) := by
      show (((k + 1) * fac k : Nat) : Int) = _
      push_cast
      rfl
    rw [e] at h
    rcases hp.euclid h with c | c
    · have := Int.le_of_dvd (by omega) c
      omega
    · exact pr_fac hp k (by omega) c
theorem ff_dvd (p : Nat) : ∀ k, (p : Int) ∣ ffj 0 (k + 1) (p : Int)
  | 0 => ⟨1, by simp [ffj]⟩
  | k + 1 => by
    rw [ffj_last]
    exact Int.dvd_trans (ff_dvd p k) (Int.dvd_mul_right ..)
theorem bin_dvd {p : Nat} (hp : Pr p) {k : Nat} (h0 : 0 < k) (h1 : k < p) : (p : Int) ∣ (bin p k : Int) := by
  obtain ⟨j, rfl⟩ : ∃ j, k = j + 1 := ⟨k - 1, by omega⟩
  have h := ff_dvd p j
  rw [ff_bin] at h
  rcases hp.euclid h with c | c
  · exact absurd c (pr_fac hp _ h1)
  · exact c
theorem nw_mid {p : Nat} (hp : Pr p) (G : Nat → Int) : ∀ m, m < p → (p : Int) ∣ nw G (m + 1) p - G 0
  | 0, _ => by
    simp only [nw, bin_zero]
    exact ⟨0, by simp⟩
  | m + 1, h => by
    rw [nw]
    have h1 := nw_mid hp G m (by omega)
    have h2 : (p : Int) ∣ G (m + 1) * (bin p (m + 1) : Int) := Int.dvd_trans (bin_dvd hp (by omega) h) (Int.dvd_mul_left ..)
    have := Int.dvd_add h1 h2
    rwa [show nw G (m + 1) p - G 0 + G (m + 1) * (bin p (m + 1) : Int) = nw G (m + 1) p + G (m + 1) * (bin p (m + 1) : Int) - G 0 by omega] at this
theorem dream {p : Nat} (hp : Pr p) (a : Int) : (p : Int) ∣ (1 + a) ^ p - (1 + a ^ p) := by
  have h := binom a p (p + 1) 1 (by omega)
  obtain ⟨q, rfl⟩ : ∃ q, p = q + 1 := ⟨p - 1, by have := hp.1; omega⟩
  rw [nw] at h
  have h1 := nw_mid hp (fun k => 1 * a ^ k) q (by omega)
  rw [bin_self] at h
  have e : (1 + a) ^ (q + 1) - (1 + a ^ (q + 1)) = nw (fun k => 1 * a ^ k) (q + 1) (q + 1) - 1 * a ^ 0 := by
    simp at h ⊢
    omega
  rw [e]
  exact h1
theorem fermat_nat {p : Nat} (hp : Pr p) : ∀ a : Nat, (p : Int) ∣ (a : Int) ^ p - a
  | 0 => by
    obtain ⟨q, rfl⟩ : ∃ q, p = q + 1 := ⟨p - 1, by have := hp.1; omega⟩
    exact ⟨0, by simp [Int.pow_succ]⟩
  | a + 1 => by
    have h := Int.dvd_add (dream hp (a : Int)) (fermat_nat hp a)
    rwa [show (1 + (a : Int)) ^ p - (1 + (a : Int) ^ p) + ((a : Int) ^ p - a) = ((a + 1 : Nat) : Int) ^ p - ((a + 1 : Nat) : Int) by
      rw [show ((a + 1 : Nat) : Int) = 1 + (a : Int) by omega]
      omega] at h
/-- one by n -/
def One (n : Nat) (y : Int) : Prop := (n : Int) ∣ y - 1
theorem One.mul {n : Nat} {y z : Int} (h1 : One n y) (h2 : One n z) : One n (y * z) := by
  have h := Int.dvd_add (Int.dvd_trans h1 (Int.dvd_mul_right (y - 1) z)) h2
  rwa [show (y - 1) * z + (z - 1) = y * z - 1 by grind] at h
theorem One.pow {n : Nat} {y : Int} (h : One n y) : ∀ k : Nat, One n (y ^ k)
  | 0 => ⟨0, by simp⟩
  | k + 1 => by
    rw [Int.pow_succ]
    exact (One.pow h k).mul h
theorem One.of_mod {n : Nat} {y : Int} : One n y ↔ y % (n : Int) = 1 % (n : Int) :=
  ⟨fun h => Int.emod_eq_emod_iff_emod_sub_eq_zero.mpr (Int.emod_eq_zero_of_dvd h), fun h => Int.dvd_of_emod_eq_zero (Int.emod_eq_emod_iff_emod_sub_eq_zero.mp h)⟩
theorem fermat {p : Nat} (hp : Pr p) {x : Int} (hx : ¬ (p : Int) ∣ x) : One p (x ^ (p - 1)) := by
  have p0 : (0 : Int) < p := by have := hp.1; omega
  have hm : ∀ k : Nat, (p : Int) ∣ x ^ k - (x % p) ^ k := fun k => Int.dvd_of_emod_eq_zero (Int.emod_eq_emod_iff_emod_sub_eq_zero.mp (cg_pow (Int.emod_emod_of_dvd x (Int.dvd_refl _)).symm k))
  obtain ⟨a, ha⟩ := Int.eq_ofNat_of_zero_le (Int.emod_nonneg x (show (p : Int) ≠ 0 by omega))
  have h1 := fermat_nat hp a
  have e : ((a : Int)) ^ p - a = (a : Int) * ((a : Int) ^ (p - 1) - 1) := by
    obtain ⟨q, rfl⟩ : ∃ q, p = q + 1 := ⟨p - 1, by have := hp.1; omega⟩
    rw [Nat.add_sub_cancel, Int.pow_succ]
    grind
  rw [e] at h1
  rcases hp.euclid h1 with c | c
  · refine absurd ?_ hx
    have := Int.emod_emod_of_dvd x (Int.dvd_refl (p : Int))
    rw [ha] at this
    exact Int.dvd_of_emod_eq_zero (by rw [ha]; exact (Int.emod_eq_zero_of_dvd c) ▸ this.symm)
  · have h2 := hm (p - 1)
    rw [ha] at h2
    have := Int.dvd_add h2 c
    show (p : Int) ∣ _
    rwa [show x ^ (p - 1) - (a : Int) ^ (p - 1) + ((a : Int) ^ (p - 1) - 1) = x ^ (p - 1) - 1 by omega] at this
/-! one more of the prime -/
def gs (y : Int) : Nat → Int
  | 0 => 0
  | m + 1 => gs y m + y ^ m
theorem gs_mul (y : Int) : ∀ m, (y - 1) * gs y m = y ^ m - 1
  | 0 => by simp [gs]
  | m + 1 => by
    rw [gs, Int.mul_add, gs_mul y m, Int.pow_succ]
    grind
theorem gs_mod {n : Nat} {y : Int} (h : One n y) : ∀ m : Nat, (n : Int) ∣ gs y m - m
  | 0 => ⟨0, by simp [gs]⟩
  | m + 1 => by
    have := Int.dvd_add (gs_mod h m) (h.pow m)
    rw [gs]
    rwa [show gs y m - (m : Int) + (y ^ m - 1) = gs y m + y ^ m - ((m + 1 : Nat) : Int) by omega] at this
theorem one_up {p e : Nat} (he : 1 ≤ e) {y : Int} (h : One (p ^ e) y) : One (p ^ (e + 1)) (y ^ p) := by
  have hp : One p y := Int.dvd_trans (Int.ofNat_dvd.mpr (by obtain ⟨k, rfl⟩ : ∃ k, e = k + 1 := ⟨e - 1, by omega⟩
                                                            rw [Nat.pow_succ]
                                                            exact Nat.dvd_mul_left ..)) h
  have h1 := gs_mod hp p
  have h2 : (p : Int) ∣ gs y p := by
    have := Int.dvd_add h1 (Int.dvd_refl (p : Int))
    rwa [show gs y p - (p : Int) + p = gs y p by omega] at this
  show (((p ^ (e + 1) : Nat)) : Int) ∣ _
  rw [← gs_mul, Nat.pow_succ]
  push_cast
  have h3 : (((p ^ e : Nat)) : Int) ∣ y - 1 := h
  push_cast at h3
  exact Int.mul_dvd_mul h3 h2
theorem euler {p : Nat} (hp : Pr p) {x : Int} (hx : ¬ (p : Int) ∣ x) : ∀ e : Nat, One (p ^ (e + 1)) (x ^ ((p - 1) * p ^ e))
  | 0 => by
    rw [Nat.pow_zero, Nat.mul_one, Nat.zero_add, Nat.pow_one]
    exact fermat hp hx
  | e + 1 => by
    have := one_up (p := p) (e := e + 1) (by omega) (euler hp hx e)
    rwa [← Int.pow_mul, Nat.mul_assoc, ← Nat.pow_succ] at this
theorem euler_two {x : Int} (hx : ¬ (2 : Int) ∣ x) : ∀ e : Nat, One (2 ^ (e + 3)) (x ^ (2 ^ (e + 1)))
  | 0 => by
    show ((2 ^ 3 : Nat) : Int) ∣ x ^ 2 - 1
    have : x % 8 = 1 ∨ x % 8 = 3 ∨ x % 8 = 5 ∨ x % 8 = 7 := by omega
    have e : x = 8 * (x / 8) + x % 8 := (Int.mul_ediv_add_emod x 8).symm
    generalize x / 8 = k at e
    rcases this with c | c | c | c <;> rw [c] at e <;> rw [e]
    · exact ⟨8 * k * k + 2 * k, by grind⟩
    · exact ⟨8 * k * k + 6 * k + 1, by grind⟩
    · exact ⟨8 * k * k + 10 * k + 3, by grind⟩
    · exact ⟨8 * k * k + 14 * k + 6, by grind⟩
  | e + 1 => by
    have := one_up (p := 2) (e := e + 3) (by omega) (euler_two hx e)
    rwa [← Int.pow_mul, ← Nat.pow_succ] at this
/-! ### primes -/
theorem has_prime : ∀ (n : Nat), 2 ≤ n → ∃ p, Pr p ∧ p ∣ n := by
  intro n
  induction n using Nat.strongRecOn with
  | _ n ih =>
    intro hn
    by_cases h : ∃ k, k ∣ n ∧ k ≠ 1 ∧ k ≠ n
    · obtain ⟨k, hk, k1, kn⟩ := h
      have k0 : 0 < k := Nat.pos_of_dvd_of_pos hk (by omega)
      have kl : k ≤ n := Nat.le_of_dvd (by omega) hk
      obtain ⟨p, hp, hd⟩ := ih k (by omega) (by omega)
      exact ⟨p, hp, Nat.dvd_trans hd hk⟩
    · refine ⟨n, ⟨hn, fun k hk => ?_⟩, Nat.dvd_refl n⟩
      rcases Classical.em (k = 1) with c | c
      · exact .inl c
      · rcases Classical.em (k = n) with c2 | c2
        · exact .inr c2
        · exact absurd ⟨k, hk, c, c2⟩ h
theorem made_prime {p : Nat} (hp : Pr p) : ∀ (ps : List (Nat × Nat)), (∀ a ∈ ps, Pr a.1 ∧ 1 ≤ a.2) → p ∣ made ps → ∃ a ∈ ps, a.1 = p
  | [], _, h => by
    have := Nat.le_of_dvd Nat.one_pos h
    have := hp.1
    omega
  | a :: r, ha, h => by
    by_cases c : a.1 = p
    · exact ⟨a, List.mem_cons_self, c⟩
    · have h1 : Nat.Coprime p (a.1 ^ a.2) := Nat.Coprime.pow_right a.2 (cop_primes hp (ha a List.mem_cons_self).1 fun e => c e.symm)
      obtain ⟨b, hb, e⟩ := made_prime hp r (fun b hb => ha b (List.mem_cons_of_mem _ hb)) (Nat.Coprime.dvd_of_dvd_mul_left h1 h)
      exact ⟨b, List.mem_cons_of_mem _ hb, e⟩
theorem head_not {a b : Nat × Nat} {r t : List (Nat × Nat)} (h : made (a :: r) = made (b :: t)) (ha : ∀ c ∈ a :: r, Pr c.1 ∧ 1 ≤ c.2) (hb : ∀ c ∈ b :: t, Pr c.1 ∧ 1 ≤ c.2) (s : (b :: t).Pairwise fun u v => u.1 < v.1) : ¬ a.1 < b.1 := fun c => by
  have pa := ha a List.mem_cons_self
  have h2 : a.1 ∣ made (a :: r) := by
    obtain ⟨k, hk⟩ : ∃ k, a.2 = k + 1 := ⟨a.2 - 1, by omega⟩
    show a.1 ∣ a.1 ^ a.2 * made r
    rw [hk, Nat.pow_succ, Nat.mul_assoc]
    exact Nat.dvd_trans (Nat.dvd_mul_right _ _) (Nat.dvd_mul_left _ _)
  rw [h] at h2
  obtain ⟨d, hd, e⟩ := made_prime pa.1 _ hb h2
  rcases List.mem_cons.mp hd with rfl | hd
  · omega
  · have := (List.pairwise_cons.mp s).1 d hd
    omega
theorem pow_not {p e f A B : Nat} (hp : 2 ≤ p) (hA : Nat.Coprime p A) (h : p ^ e * A = p ^ f * B) : ¬ e < f := fun c => by
  obtain ⟨d, rfl⟩ : ∃ d, f = e + (d + 1) := ⟨f - e - 1, by omega⟩
  rw [Nat.pow_add, Nat.mul_assoc] at h
  have h1 := Nat.eq_of_mul_eq_mul_left (Nat.pow_pos (by omega)) h
  have h2 : p ∣ A := by
    rw [h1, Nat.pow_succ, Nat.mul_comm (p ^ d) p, Nat.mul_assoc]
    exact Nat.dvd_mul_right _ _
  have h3 : p ∣ Nat.gcd p A := Nat.dvd_gcd (Nat.dvd_refl p) h2
  rw [hA] at h3
  have := Nat.le_of_dvd Nat.one_pos h3
  omega
theorem made_two {a : Nat × Nat} {r : List (Nat × Nat)} (h : ∀ c ∈ a :: r, Pr c.1 ∧ 1 ≤ c.2) : 2 ≤ made (a :: r) := by
  have pa := h a List.mem_cons_self
  have h1 := made_pos r fun b hb => h b (List.mem_cons_of_mem _ hb)
  have h2 : a.1 ≤ a.1 ^ a.2 := Nat.le_self_pow (by have := pa.2; omega) a.1
  have h3 := Nat.mul_le_mul h2 h1
  have := pa.1.1
  show 2 ≤ a.1 ^ a.2 * made r
  rw [Nat.mul_one] at h3
  omega
theorem uniq_made : ∀ (ps qs : List (Nat × Nat)), (∀ a ∈ ps, Pr a.1 ∧ 1 ≤ a.2) → (∀ a ∈ qs, Pr a.1 ∧ 1 ≤ a.2) → ps.Pairwise (fun a b => a.1 < b.1) → qs.Pairwise (fun a b => a.1 < b.1) → made ps = made qs → ps = qs
  | [], [], _, _, _, _, _ => rfl
  | [], b :: t, _, hb, _, _, h => by
    have := made_two hb
    rw [← h] at this
    exact absurd this (by decide)
  | a :: r, [], ha, _, _, _, h => by
    have := made_two ha
    rw [h] at this
    exact absurd this (by decide)
  | a :: r, b :: t, ha, hb, sa, sb, h => by
    have n1 := head_not h ha hb sb
    have n2 := head_not h.symm hb ha sa
    have e1 : a.1 = b.1 := by omega
    have pa := ha a List.mem_cons_self
    have hr : ∀ c ∈ r, Pr c.1 ∧ 1 ≤ c.2 := fun c hc => ha c (List.mem_cons_of_mem _ hc)
    have ht : ∀ c ∈ t, Pr c.1 ∧ 1 ≤ c.2 := fun c hc => hb c (List.mem_cons_of_mem _ hc)
    have c1 : Nat.Coprime a.1 (made r) := cop_made pa.1 r fun c hc => ⟨(hr c hc).1, (List.pairwise_cons.mp sa).1 c hc⟩
    have c2 : Nat.Coprime a.1 (made t) := by
      rw [e1]
      exact cop_made (hb b List.mem_cons_self).1 t fun c hc => ⟨(ht c hc).1, (List.pairwise_cons.mp sb).1 c hc⟩
    have h' : a.1 ^ a.2 * made r = a.1 ^ b.2 * made t := by
      have : a.1 ^ a.2 * made r = b.1 ^ b.2 * made t := h
      rwa [← e1] at this
    have m1 := pow_not pa.1.1 c1 h'
    have m2 := pow_not pa.1.1 c2 h'.symm
    have e2 : a.2 = b.2 := by omega
    rw [e2] at h'
    have h3 := Nat.eq_of_mul_eq_mul_left (Nat.pow_pos (by have := pa.1.1; omega)) h'
    rw [uniq_made r t hr ht (List.pairwise_cons.mp sa).2 (List.pairwise_cons.mp sb).2 h3, Prod.ext e1 e2]
theorem Apart.uniq {ps qs : List (Nat × Nat)} {n : Nat} (h1 : Apart ps n) (h2 : Apart qs n) : ps = qs := uniq_made ps qs h1.p h2.p h1.s h2.s (h1.m.trans h2.m.symm)
/-! ### a length for all numbers that are open -/
theorem One.of_dvd {n k m : Nat} {x : Int} (h : One n (x ^ k)) (hd : k ∣ m) : One n (x ^ m) := by
  obtain ⟨j, rfl⟩ := hd
  rw [Int.pow_mul]
  exact h.pow j
theorem One.both {a b : Nat} {y : Int} (hc : Nat.Coprime a b) (h1 : One a y) (h2 : One b y) : One (a * b) y := by
  have g1 := Int.ofNat_dvd_left.mp h1
  have g2 := Int.ofNat_dvd_left.mp h2
  exact Int.ofNat_dvd_left.mpr (Nat.Coprime.mul_dvd_of_dvd_of_dvd hc g1 g2)
/-- the cycles of a power of a prime -/
def cyc (a : Nat × Nat) : List Nat := if a.1 = 2 ∧ 2 < a.2 then [2, 2 ^ (a.2 - 2)] else [(a.1 - 1) * a.1 ^ (a.2 - 1)]
theorem cyc_one {a : Nat × Nat} (hp : Pr a.1) (he : 1 ≤ a.2) {x : Int} (hx : ¬ (a.1 : Int) ∣ x) {L : Nat} (h : ∀ m ∈ cyc a, m ∣ L) : One (a.1 ^ a.2) (x ^ L) := by
  obtain ⟨p, e⟩ := a
  unfold cyc at h
  dsimp only at *
  split at h
  · rename_i c
    obtain ⟨rfl, c2⟩ := c
    obtain ⟨d, rfl⟩ : ∃ d, e = d + 3 := ⟨e - 3, by omega⟩
    exact (euler_two hx d).of_dvd (h _ (by simp [show d + 3 - 2 = d + 1 by omega]))
  · obtain ⟨d, rfl⟩ : ∃ d, e = d + 1 := ⟨e - 1, by omega⟩
    exact (euler hp hx d).of_dvd (h _ (by simp))
theorem made_one {x : Int} {L : Nat} : ∀ (ps : List (Nat × Nat)), (∀ a ∈ ps, Pr a.1 ∧ 1 ≤ a.2) → ps.Pairwise (fun a b => a.1 < b.1) → (∀ a ∈ ps, ¬ (a.1 : Int) ∣ x) → (∀ a ∈ ps, ∀ m ∈ cyc a, m ∣ L) → One (made ps) (x ^ L)
  | [], _, _, _, _ => ⟨x ^ L - 1, by simp [made]⟩
  | a :: r, hp, hs, hx, hL => by
    have hr : ∀ b ∈ r, Pr b.1 ∧ 1 ≤ b.2 := fun b hb => hp b (List.mem_cons_of_mem _ hb)
    have pa := hp a List.mem_cons_self
    refine One.both (Nat.Coprime.pow_left _ (cop_made pa.1 r fun b hb => ⟨(hr b hb).1, (List.pairwise_cons.mp hs).1 b hb⟩)) ?_ ?_
    · exact cyc_one pa.1 pa.2 (hx a List.mem_cons_self) (hL a List.mem_cons_self)
    · exact made_one r hr (List.pairwise_cons.mp hs).2 (fun b hb => hx b (List.mem_cons_of_mem _ hb)) fun b hb => hL b (List.mem_cons_of_mem _ hb)
theorem open_not {n : Nat} {x : Int} (hg : Nat.gcd x.natAbs n = 1) {p : Nat} (hp : Pr p) (hd : p ∣ n) : ¬ (p : Int) ∣ x := fun h => by
  have h1 := Nat.dvd_gcd (Int.ofNat_dvd_left.mp h) hd
  rw [hg] at h1
  have := Nat.le_of_dvd Nat.one_pos h1
  have := hp.1
  omega
theorem mem_dvd : ∀ (ps : List (Nat × Nat)) (a : Nat × Nat), a ∈ ps → 1 ≤ a.2 → a.1 ∣ made ps
  | b :: r, a, h, ha => by
    show a.1 ∣ b.1 ^ b.2 * made r
    rcases List.mem_cons.mp h with rfl | h
    · obtain ⟨k, hk⟩ : ∃ k, a.2 = k + 1 := ⟨a.2 - 1, by omega⟩
      rw [hk, Nat.pow_succ, Nat.mul_assoc]
      exact Nat.dvd_trans (Nat.dvd_mul_right _ _) (Nat.dvd_mul_left _ _)
    · exact Nat.dvd_trans (mem_dvd r a h ha) (Nat.dvd_mul_left _ _)
theorem Apart.euler {ps : List (Nat × Nat)} {n : Nat} (A : Apart ps n) {x : Int} (hg : Nat.gcd x.natAbs n = 1) {L : Nat} (hL : ∀ a ∈ ps, ∀ m ∈ cyc a, m ∣ L) : One n (x ^ L) := by
  have h := made_one (x := x) (L := L) ps A.p A.s (fun a ha => open_not hg (A.p a ha).1 (by rw [← A.m]; exact mem_dvd ps a ha (A.p a ha).2)) hL
  rwa [A.m] at h
end Vf

namespace Vf
/-! ## runs that come round -/
def Rec (a b : Int) (u : Nat → Int) : Prop := ∀ i, u (i + 2) = a * u (i + 1) + b * u i
def Pd (n : Int) (u : Nat → Int) (t r : Nat) : Prop := n ∣ u (t + r) - u t ∧ n ∣ u (t + r + 1) - u (t + 1)
theorem rv_rec (a b x y : Int) : Rec a b (rv a b x y) := fun _ => rfl
theorem dv_tr {n x y z : Int} (h1 : n ∣ x - y) (h2 : n ∣ y - z) : n ∣ x - z := by
  have := Int.dvd_add h1 h2
  rwa [show x - y + (y - z) = x - z by omega] at this
theorem dv_sw {n x y : Int} (h : n ∣ x - y) : n ∣ y - x := by
  have := Int.dvd_neg.mpr h
  rwa [Int.neg_sub] at this
theorem dv_rf (n x : Int) : n ∣ x - x := by rw [Int.sub_self]; exact Int.dvd_zero n
section
variable {a b n : Int} {u : Nat → Int} {t r : Nat}
theorem Pd.zero (n : Int) (u : Nat → Int) (t : Nat) : Pd n u t 0 := ⟨dv_rf n _, dv_rf n _⟩
theorem Pd.both (R : Rec a b u) (h : Pd n u t r) : ∀ k, n ∣ u (t + r + k) - u (t + k) ∧ n ∣ u (t + r + k + 1) - u (t + k + 1)
  | 0 => h
  | k + 1 => by
    have ⟨g0, g1⟩ := Pd.both R h k
    refine ⟨g1, ?_⟩
    show n ∣ u (t + r + k + 2) - u (t + k + 2)
    rw [R, R]
    exact dv_add (dv_mul (dv_rf n _) g1) (dv_mul (dv_rf n _) g0)
theorem Pd.all (R : Rec a b u) (h : Pd n u t r) (k : Nat) : n ∣ u (t + r + k) - u (t + k) := (h.both R k).1
theorem Pd.up (R : Rec a b u) (h : Pd n u t r) (k : Nat) : Pd n u (t + k) r := by
  have g := h.both R k
  rw [show t + r + k = t + k + r by omega] at g
  exact g
theorem Pd.add (R : Rec a b u) {c : Nat} (h : Pd n u t r) (g : Pd n u t c) : Pd n u t (r + c) := by
  have h1 := g.up R r
  rw [Pd, show t + r + c = t + (r + c) by omega] at h1
  exact ⟨dv_tr h1.1 h.1, dv_tr h1.2 h.2⟩
theorem Pd.mul (R : Rec a b u) (h : Pd n u t r) : ∀ q, Pd n u t (r * q)
  | 0 => Pd.zero n u t
  | q + 1 => (h.mul R q).add R h
theorem Pd.sub (R : Rec a b u) {c : Nat} (h : Pd n u t r) (g : Pd n u t (r + c)) : Pd n u t c := by
  have h1 := h.up R c
  rw [Pd, show t + c + r = t + (r + c) by omega] at h1
  exact ⟨dv_tr (dv_sw h1.1) g.1, dv_tr (dv_sw h1.2) g.2⟩
theorem Pd.down (R : Rec a b u) {k c : Nat} (h : Pd n u t r) (r0 : 0 < r) (g : Pd n u (t + k) c) : Pd n u t c := by
  have l : k ≤ r * k := Nat.le_mul_of_pos_left _ r0
  have g1 := g.up R (r * k - k)
  rw [show t + k + (r * k - k) = t + r * k by omega] at g1
  have h1 := h.mul R k
  have h2 := h1.up R c
  rw [Pd, show t + c + r * k = t + r * k + c by omega] at h2
  exact ⟨dv_tr (dv_sw h2.1) (dv_tr g1.1 h1.1), dv_tr (dv_sw h2.2) (dv_tr g1.2 h1.2)⟩
theorem Pd.dvd {m : Int} (h : Pd n u t r) (d : m ∣ n) : Pd m u t r := ⟨Int.dvd_trans d h.1, Int.dvd_trans d h.2⟩
/-- the least round -/
def LP (n : Int) (u : Nat → Int) (t r : Nat) : Prop := 0 < r ∧ Pd n u t r ∧ ∀ c, 0 < c → c < r → ¬ Pd n u t c
theorem LP.dvd (R : Rec a b u) {c : Nat} (L : LP n u t r) (h : Pd n u t c) : r ∣ c := by
  have h1 := L.2.1.mul R (c / r)
  rw [← Nat.div_add_mod c r] at h
  have h2 := h1.sub R h
  refine Nat.dvd_of_mod_eq_zero (Classical.byContradiction fun z => ?_)
  exact L.2.2 _ (by omega) (Nat.mod_lt _ L.1) h2
theorem LP.ex : ∀ c, 0 < c → Pd n u t c → ∃ r, LP n u t r := by
  intro c
  induction c using Nat.strongRecOn with
  | ind c ih =>
    intro c0 h
    by_cases z : ∃ e, 0 < e ∧ e < c ∧ Pd n u t e
    · obtain ⟨e, e0, ec, he⟩ := z
      exact ih e ec e0 he
    · exact ⟨c, c0, h, fun e e0 ec he => z ⟨e, e0, ec, he⟩⟩
theorem LP.uniq (R : Rec a b u) {c : Nat} (L : LP n u t r) (M : LP n u t c) : r = c := Nat.dvd_antisymm (L.dvd R M.2.1) (M.dvd R L.2.1)
theorem LP.up (R : Rec a b u) (L : LP n u t r) (k : Nat) : LP n u (t + k) r := ⟨L.1, L.2.1.up R k, fun c c0 cr h => L.2.2 c c0 cr (L.2.1.down R L.1 h)⟩
/-- tail and round -/
def TR (n : Int) (u : Nat → Int) (t r : Nat) : Prop := LP n u t r ∧ ∀ s, s < t → ∀ c, 0 < c → ¬ Pd n u s c
theorem TR.uniq (R : Rec a b u) {s c : Nat} (h : TR n u t r) (g : TR n u s c) : t = s ∧ r = c := by
  have e : t = s := by
    rcases Nat.lt_trichotomy t s with l | l | l
    · exact absurd h.1.2.1 (g.2 t l r h.1.1)
    · exact l
    · exact absurd g.1.2.1 (h.2 s l c g.1.1)
  subst e
  exact ⟨rfl, h.1.uniq R g.1⟩
theorem TR.of (R : Rec a b u) {l : Nat} (L : LP n u l r) (tl : t ≤ l) (h : Pd n u t r) (g : ∀ s, s < t → ¬ Pd n u s r) : TR n u t r := by
  refine ⟨⟨L.1, h, fun c c0 cr hc => ?_⟩, fun s st c c0 hc => g s st ?_⟩
  · have := hc.up R (l - t)
    rw [Nat.add_sub_cancel' tl] at this
    exact L.2.2 c c0 cr this
  · refine hc.down R c0 (k := l - s) ?_
    rw [Nat.add_sub_cancel' (by omega)]
    exact L.2.1
theorem TR.walk (R : Rec a b u) (r0 : 0 < r) (h : Pd n u t r) (g : ∀ i, i < t + r → ∀ j, j < i → ¬ (n ∣ u i - u j ∧ n ∣ u (i + 1) - u (j + 1))) : TR n u t r := by
  have L : LP n u t r := ⟨r0, h, fun c c0 cr hc => g (t + c) (by omega) t (by omega) hc⟩
  refine TR.of R L (Nat.le_refl _) h fun s st hs => g (s + r) (by omega) s (by omega) hs
theorem TR.one (u : Nat → Int) : TR 1 u 0 1 := ⟨⟨Nat.one_pos, ⟨Int.one_dvd _, Int.one_dvd _⟩, fun c c0 c1 => by omega⟩, fun s h => absurd h (Nat.not_lt_zero _)⟩
theorem cop_dvd {m k : Nat} (hc : Nat.Coprime m k) {z : Int} (h1 : (m : Int) ∣ z) (h2 : (k : Int) ∣ z) : ((m * k : Nat) : Int) ∣ z :=
  Int.ofNat_dvd_left.mpr (Nat.Coprime.mul_dvd_of_dvd_of_dvd hc (Int.ofNat_dvd_left.mp h1) (Int.ofNat_dvd_left.mp h2))
theorem Pd.cop {m k : Nat} (hc : Nat.Coprime m k) : Pd ((m * k : Nat) : Int) u t r ↔ Pd (m : Int) u t r ∧ Pd (k : Int) u t r := by
  have d1 : (m : Int) ∣ ((m * k : Nat) : Int) := Int.ofNat_dvd.mpr ⟨k, rfl⟩
  have d2 : (k : Int) ∣ ((m * k : Nat) : Int) := Int.ofNat_dvd.mpr ⟨m, Nat.mul_comm _ _⟩
  exact ⟨fun h => ⟨h.dvd d1, h.dvd d2⟩, fun h => ⟨cop_dvd hc h.1.1 h.2.1, cop_dvd hc h.1.2 h.2.2⟩⟩
theorem LP.cop (R : Rec a b u) {m k c : Nat} (hc : Nat.Coprime m k) (h : LP (m : Int) u t r) (g : LP (k : Int) u t c) : LP ((m * k : Nat) : Int) u t (Nat.lcm r c) := by
  have l0 : 0 < Nat.lcm r c := Nat.lcm_pos h.1 g.1
  obtain ⟨x, hx⟩ := Nat.dvd_lcm_left r c
  obtain ⟨y, hy⟩ := Nat.dvd_lcm_right r c
  refine ⟨l0, (Pd.cop hc).mpr ⟨?_, ?_⟩, fun e e0 el he => ?_⟩
  · rw [hx]; exact h.2.1.mul R x
  · rw [hy]; exact g.2.1.mul R y
  · obtain ⟨h1, h2⟩ := (Pd.cop hc).mp he
    have := Nat.le_of_dvd e0 (Nat.lcm_dvd (h.dvd R h1) (g.dvd R h2))
    omega
theorem TR.cop (R : Rec a b u) {m k s c : Nat} (hc : Nat.Coprime m k) (h : TR (m : Int) u t r) (g : TR (k : Int) u s c) : TR ((m * k : Nat) : Int) u (max t s) (Nat.lcm r c) := by
  have h1 := h.1.up R (max t s - t)
  have g1 := g.1.up R (max t s - s)
  rw [Nat.add_sub_cancel' (Nat.le_max_left _ _)] at h1
  rw [Nat.add_sub_cancel' (Nat.le_max_right _ _)] at g1
  refine ⟨LP.cop R hc h1 g1, fun e el d d0 hd => ?_⟩
  obtain ⟨p1, p2⟩ := (Pd.cop hc).mp hd
  rcases Nat.lt_or_ge e t with l | l
  · exact h.2 e l d d0 p1
  · exact g.2 e (by omega) d d0 p2
theorem TR.less (R : Rec a b u) {m : Int} {s c : Nat} (h : TR n u t r) (g : TR m u s c) (d : m ∣ n) : s ≤ t ∧ c ∣ r := by
  have p := h.1.2.1.dvd d
  have l : s ≤ t := Classical.byContradiction fun z => g.2 t (by omega) r h.1.1 p
  refine ⟨l, ?_⟩
  have := g.1.up R (t - s)
  rw [Nat.add_sub_cancel' l] at this
  exact this.dvd R p
theorem rec_rv (R : Rec a b u) : ∀ i, u i = rv a b (u 0) (u 1) i ∧ u (i + 1) = rv a b (u 0) (u 1) (i + 1)
  | 0 => ⟨rfl, rfl⟩
  | i + 1 => by
    have h := rec_rv R i
    refine ⟨h.2, ?_⟩
    show u (i + 2) = rv a b (u 0) (u 1) (i + 2)
    rw [R, rv, ← h.1, ← h.2]
theorem rec_from (R : Rec a b u) (t : Nat) : Rec a b (fun i => u (t + i)) := fun i => R (t + i)
theorem LP.le (R : Rec a b u) {m : Nat} (m0 : 0 < m) (L : LP (m : Int) u t r) : r ≤ m * m := by
  refine Classical.byContradiction fun z => ?_
  have R2 := rec_from R t
  refine pair_pig (a := a) (b := b) (x := u (t + 0)) (y := u (t + 1)) m0 fun i hi j hj e => ?_
  have ei := rec_rv R2 i
  have ej := rec_rv R2 j
  rw [← ei.1, ← ei.2, ← ej.1, ← ej.2] at e
  have p1 : (m : Int) ∣ u (t + i) - u (t + j) := Int.dvd_of_emod_eq_zero (Int.emod_eq_emod_iff_emod_sub_eq_zero.mp e.1)
  have p2 : (m : Int) ∣ u (t + (i + 1)) - u (t + (j + 1)) := Int.dvd_of_emod_eq_zero (Int.emod_eq_emod_iff_emod_sub_eq_zero.mp e.2)
  have P : Pd (m : Int) u (t + j) (i - j) := by
    refine ⟨?_, ?_⟩
    · rw [show t + j + (i - j) = t + i by omega]
      exact p1
    · rw [show t + j + (i - j) + 1 = t + (i + 1) by omega]
      exact p2
  exact L.2.2 (i - j) (by omega) (by omega) (L.2.1.down R L.1 P)
end
/-! ## powers of the step by a prime -/
def RecM (p a b : Int) (u : Nat → Int) : Prop := ∀ i, p ∣ u (i + 2) - (a * u (i + 1) + b * u i)
theorem Rec.mod {a b : Int} {u : Nat → Int} (R : Rec a b u) (p : Int) : RecM p (a % p) (b % p) u := fun i => by
  rw [R]
  exact dv_add (dv_mul (dv_sw (dv_mod (dv_rf p a))) (dv_rf p _)) (dv_mul (dv_sw (dv_mod (dv_rf p b))) (dv_rf p _))
def Rep (p a b : Int) (m : Nat) (A : Nat × Nat) : Prop := ∀ u, RecM p a b u → ∀ i, p ∣ u (i + m) - ((A.1 : Int) * u (i + 1) + (A.2 : Int) * u i)
def pmM (p a b : Nat) (A B : Nat × Nat) : Nat × Nat := ((A.1 * B.1 * a + A.1 * B.2 + A.2 * B.1) % p, (A.1 * B.1 * b + A.2 * B.2) % p)
theorem Rep.zero (p : Int) (a b : Int) : Rep p a b 0 (0, 1) := fun u _ i => by
  have e : u (i + 0) - (((0 : Nat) : Int) * u (i + 1) + ((1 : Nat) : Int) * u i) = 0 := by
    rw [Nat.add_zero]
    simp
  rw [show ((0, 1) : Nat × Nat).1 = 0 from rfl, show ((0, 1) : Nat × Nat).2 = 1 from rfl, e]
  exact Int.dvd_zero p
theorem Rep.step (p : Int) (a b : Int) : Rep p a b 1 (1, 0) := fun u _ i => by
  have e : u (i + 1) - (((1 : Nat) : Int) * u (i + 1) + ((0 : Nat) : Int) * u i) = 0 := by simp
  rw [show ((1, 0) : Nat × Nat).1 = 1 from rfl, show ((1, 0) : Nat × Nat).2 = 0 from rfl, e]
  exact Int.dvd_zero p
theorem pm_alg {w5 w4 w3 w2 w1 w0 A1 A2 B1 B2 a b X Y p c1 c2 c3 c4 c5 c6 : Int} (e1 : w5 - (A1 * w4 + A2 * w3) = p * c1) (e2 : w3 - (B1 * w1 + B2 * w0) = p * c2) (e3 : w4 - (B1 * w2 + B2 * w1) = p * c3)
    (e4 : w2 - (a * w1 + b * w0) = p * c4) (e5 : A1 * B1 * a + A1 * B2 + A2 * B1 - X = p * c5) (e6 : A1 * B1 * b + A2 * B2 - Y = p * c6) : w5 - (X * w1 + Y * w0) = p * (c1 + A1 * c3 + A2 * c2 + A1 * B1 * c4 + c5 * w1 + c6 * w0) := by
  obtain rfl : w2 = a * w1 + b * w0 + p * c4 := by omega
  obtain rfl : w4 = B1 * (a * w1 + b * w0 + p * c4) + B2 * w1 + p * c3 := by omega
  obtain rfl : w3 = B1 * w1 + B2 * w0 + p * c2 := by omega
  obtain rfl : X = A1 * B1 * a + A1 * B2 + A2 * B1 - p * c5 := by omega
  obtain rfl : Y = A1 * B1 * b + A2 * B2 - p * c6 := by omega
  obtain rfl : w5 = A1 * (B1 * (a * w1 + b * w0 + p * c4) + B2 * w1 + p * c3) + A2 * (B1 * w1 + B2 * w0 + p * c2) + p * c1 := by omega
  grind
theorem Rep.mul {p a b m k : Nat} {A B : Nat × Nat} (hA : Rep (p : Int) (a : Int) (b : Int) m A) (hB : Rep (p : Int) (a : Int) (b : Int) k B) : Rep (p : Int) (a : Int) (b : Int) (k + m) (pmM p a b A B) := fun u R i => by
  have h1 := hA u R (i + k)
  have h2 := hB u R i
  have h3 := hB u R (i + 1)
  rw [show i + 1 + k = i + k + 1 by omega, show i + 1 + 1 = i + 2 by omega] at h3
  have h4 := R i
  rw [show i + k + m = i + (k + m) by omega] at h1
  have m1 : (p : Int) ∣ ((A.1 * B.1 * a + A.1 * B.2 + A.2 * B.1 : Nat) : Int) - (((A.1 * B.1 * a + A.1 * B.2 + A.2 * B.1) % p : Nat) : Int) := dv_sw (by rw [Int.natCast_emod]; exact dv_mod (dv_rf _ _))
  have m2 : (p : Int) ∣ ((A.1 * B.1 * b + A.2 * B.2 : Nat) : Int) - (((A.1 * B.1 * b + A.2 * B.2) % p : Nat) : Int) := dv_sw (by rw [Int.natCast_emod]; exact dv_mod (dv_rf _ _))
  show (p : Int) ∣ u (i + (k + m)) - ((((A.1 * B.1 * a + A.1 * B.2 + A.2 * B.1) % p : Nat) : Int) * u (i + 1) + (((A.1 * B.1 * b + A.2 * B.2) % p : Nat) : Int) * u i)
  generalize (((A.1 * B.1 * a + A.1 * B.2 + A.2 * B.1) % p : Nat) : Int) = X at *
  generalize (((A.1 * B.1 * b + A.2 * B.2) % p : Nat) : Int) = Y at *
  obtain ⟨c1, e1⟩ := h1
  obtain ⟨c2, e2⟩ := h2
  obtain ⟨c3, e3⟩ := h3
  obtain ⟨c4, e4⟩ := h4
  obtain ⟨c5, e5⟩ := m1
  obtain ⟨c6, e6⟩ := m2
  push_cast at e5 e6
  exact ⟨_, pm_alg e1 e2 e3 e4 e5 e6⟩
def ppM (p a b : Nat) : Nat → Nat → Nat × Nat
  | 0, _ => (0, 1)
  | f + 1, m => if m = 0 then (0, 1) else
    if m % 2 = 1 then pmM p a b (pmM p a b (ppM p a b f (m / 2)) (ppM p a b f (m / 2))) (1, 0) else pmM p a b (ppM p a b f (m / 2)) (ppM p a b f (m / 2))
theorem ppM_rep (p a b : Nat) : ∀ f m, m < 2 ^ f → Rep (p : Int) (a : Int) (b : Int) m (ppM p a b f m)
  | 0, m, h => by
    have : m = 0 := by omega
    subst this
    exact Rep.zero _ _ _
  | f + 1, m, h => by
    unfold ppM
    by_cases c : m = 0
    · rw [if_pos c, c]
      exact Rep.zero _ _ _
    · rw [if_neg c]
      have ih := ppM_rep p a b f (m / 2) (by rw [Nat.pow_succ] at h; omega)
      have sq := ih.mul ih
      by_cases o : m % 2 = 1
      · rw [if_pos o]
        have := sq.mul (Rep.step (p : Int) (a : Int) (b : Int))
        rwa [show 1 + (m / 2 + m / 2) = m by omega] at this
      · rw [if_neg o]
        rwa [show m / 2 + m / 2 = m by omega] at sq
end Vf

namespace Vf
/-! ## by each prime up to 59 the rests come round within p * (p * p - 1) steps -/
def npq (p : Nat) : Nat := p * (p * p - 1)
def chkP (p : Nat) : Bool := (List.range p).all fun a => (List.range p).all fun b =>
  if b = 0 then decide (ppM p a 0 19 (npq p + 2) = (a, 0)) else decide (ppM p a b 19 (npq p) = (0, 1))
def smallP : List Nat := [2, 3, 5, 7, 11, 13, 17, 19, 23, 29, 31, 37, 41, 43, 47, 53, 59]
def chkR (p a : Nat) : Bool := (List.range p).all fun b =>
  if b = 0 then decide (ppM p a 0 19 (npq p + 2) = (a, 0)) else decide (ppM p a b 19 (npq p) = (0, 1))
theorem chk_p2 : chkP 2 = true := by decide +kernel
theorem chk_p3 : chkP 3 = true := by decide +kernel
theorem chk_p5 : chkP 5 = true := by decide +kernel
theorem chk_p7 : chkP 7 = true := by decide +kernel
theorem chk_p11 : chkP 11 = true := by decide +kernel
theorem chk_p13 : chkP 13 = true := by decide +kernel
theorem chk_p17 : chkP 17 = true := by decide +kernel
theorem chk_p19 : chkP 19 = true := by decide +kernel
theorem chk_p23 : chkP 23 = true := by decide +kernel
theorem chk_p29 : chkP 29 = true := by decide +kernel
theorem chk_p31_0 : ((List.range 8).all fun i => chkR 31 (0 + i)) = true := by decide +kernel
theorem chk_p31_8 : ((List.range 8).all fun i => chkR 31 (8 + i)) = true := by decide +kernel
theorem chk_p31_16 : ((List.range 8).all fun i => chkR 31 (16 + i)) = true := by decide +kernel
theorem chk_p31_24 : ((List.range 7).all fun i => chkR 31 (24 + i)) = true := by decide +kernel
theorem chk_p31 : chkP 31 = true := by
  refine List.all_eq_true.mpr fun a ha => ?_
  have l := List.mem_range.mp ha
  show chkR 31 a = true
  rcases Nat.lt_or_ge a 8 with h | h
  · have := List.all_eq_true.mp chk_p31_0 (a - 0) (List.mem_range.mpr (by omega))
    rw [show 0 + (a - 0) = a by omega] at this
    exact this
  rcases Nat.lt_or_ge a 16 with h | h
  · have := List.all_eq_true.mp chk_p31_8 (a - 8) (List.mem_range.mpr (by omega))
    rw [show 8 + (a - 8) = a by omega] at this
    exact this
  rcases Nat.lt_or_ge a 24 with h | h
  · have := List.all_eq_true.mp chk_p31_16 (a - 16) (List.mem_range.mpr (by omega))
    rw [show 16 + (a - 16) = a by omega] at this
    exact this
  have := List.all_eq_true.mp chk_p31_24 (a - 24) (List.mem_range.mpr (by omega))
  rw [show 24 + (a - 24) = a by omega] at this
  exact this
theorem chk_p37_0 : ((List.range 8).all fun i => chkR 37 (0 + i)) = true := by decide +kernel
theorem chk_p37_8 : ((List.range 8).all fun i => chkR 37 (8 + i)) = true := by decide +kernel
theorem chk_p37_16 : ((List.range 8).all fun i => chkR 37 (16 + i)) = true := by decide +kernel
theorem chk_p37_24 : ((List.range 8).all fun i => chkR 37 (24 + i)) = true := by decide +kernel
theorem chk_p37_32 : ((List.range 5).all fun i => chkR 37 (32 + i)) = true := by decide +kernel
theorem chk_p37 : chkP 37 = true := by
  refine List.all_eq_true.mpr fun a ha => ?_
  have l := List.mem_range.mp ha
  show chkR 37 a = true
  rcases Nat.lt_or_ge a 8 with h | h
  · have := List.all_eq_true.mp chk_p37_0 (a - 0) (List.mem_range.mpr (by omega))
    rw [show 0 + (a - 0) = a by omega] at this
    exact this
  rcases Nat.lt_or_ge a 16 with h | h
  · have := List.all_eq_true.mp chk_p37_8 (a - 8) (List.mem_range.mpr (by omega))
    rw [show 8 + (a - 8) = a by omega] at this
    exact this
  rcases Nat.lt_or_ge a 24 with h | h
  · have := List.all_eq_true.mp chk_p37_16 (a - 16) (List.mem_range.mpr (by omega))
    rw [show 16 + (a - 16) = a by omega] at this
    exact this
  rcases Nat.lt_or_ge a 32 with h | h
  · have := List.all_eq_true.mp chk_p37_24 (a - 24) (List.mem_range.mpr (by omega))
    rw [show 24 + (a - 24) = a by omega] at this
    exact this
  have := List.all_eq_true.mp chk_p37_32 (a - 32) (List.mem_range.mpr (by omega))
  rw [show 32 + (a - 32) = a by omega] at this
  exact this
theorem chk_p41_0 : ((List.range 8).all fun i => chkR 41 (0 + i)) = true := by decide +kernel
theorem chk_p41_8 : ((List.range 8).all fun i => chkR 41 (8 + i)) = true := by decide +kernel
theorem chk_p41_16 : ((List.range 8).all fun i => chkR 41 (16 + i)) = true := by decide +kernel
theorem chk_p41_24 : ((List.range 8).all fun i => chkR 41 (24 + i)) = true := by decide +kernel
theorem chk_p41_32 : ((List.range 8).all fun i => chkR 41 (32 + i)) = true := by decide +kernel
theorem chk_p41_40 : ((List.range 1).all fun i => chkR 41 (40 + i)) = true := by decide +kernel
theorem chk_p41 : chkP 41 = true := by
  refine List.all_eq_true.mpr fun a ha => ?_
  have l := List.mem_range.mp ha
  show chkR 41 a = true
  rcases Nat.lt_or_ge a 8 with h | h
  · have := List.all_eq_true.mp chk_p41_0 (a - 0) (List.mem_range.mpr (by omega))
    rw [show 0 + (a - 0) = a by omega] at this
    exact this
  rcases Nat.lt_or_ge a 16 with h | h
  · have := List.all_eq_true.mp chk_p41_8 (a - 8) (List.mem_range.mpr (by omega))
    rw [show 8 + (a - 8) = a by omega] at this
    exact this
  rcases Nat.lt_or_ge a 24 with h | h
  · have := List.all_eq_true.mp chk_p41_16 (a - 16) (List.mem_range.mpr (by omega))
    rw [show 16 + (a - 16) = a by omega] at this
    exact this
  rcases Nat.lt_or_ge a 32 with h | h
  · have := List.all_eq_true.mp chk_p41_24 (a - 24) (List.mem_range.mpr (by omega))
    rw [show 24 + (a - 24) = a by omega] at this
    exact this
  rcases Nat.lt_or_ge a 40 with h | h
  · have := List.all_eq_true.mp chk_p41_32 (a - 32) (List.mem_range.mpr (by omega))
    rw [show 32 + (a - 32) = a by omega] at this
    exact this
  have := List.all_eq_true.mp chk_p41_40 (a - 40) (List.mem_range.mpr (by omega))
  rw [show 40 + (a - 40) = a by omega] at this
  exact this
theorem chk_p43_0 : ((List.range 8).all fun i => chkR 43 (0 + i)) = true := by decide +kernel
theorem chk_p43_8 : ((List.range 8).all fun i => chkR 43 (8 + i)) = true := by decide +kernel
theorem chk_p43_16 : ((List.range 8).all fun i => chkR 43 (16 + i)) = true := by decide +kernel
theorem chk_p43_24 : ((List.range 8).all fun i => chkR 43 (24 + i)) = true := by decide +kernel
theorem chk_p43_32 : ((List.range 8).all fun i => chkR 43 (32 + i)) = true := by decide +kernel
theorem chk_p43_40 : ((List.range 3).all fun i => chkR 43 (40 + i)) = true := by decide +kernel
theorem chk_p43 : chkP 43 = true := by
  refine List.all_eq_true.mpr fun a ha => ?_
  have l := List.mem_range.mp ha
  show chkR 43 a = true
  rcases Nat.lt_or_ge a 8 with h | h
  · have := List.all_eq_true.mp chk_p43_0 (a - 0) (List.mem_range.mpr (by omega))
    rw [show 0 + (a - 0) = a by omega] at this
    exact this
  rcases Nat.lt_or_ge a 16 with h | h
  · have := List.all_eq_true.mp chk_p43_8 (a - 8) (List.mem_range.mpr (by omega))
    rw [show 8 + (a - 8) = a by omega] at this
    exact this
  rcases Nat.lt_or_ge a 24 with h | h
  · have := List.all_eq_true.mp chk_p43_16 (a - 16) (List.mem_range.mpr (by omega))
    rw [show 16 + (a - 16) = a by omega] at this
    exact this
  rcases Nat.lt_or_ge a 32 with h | h
  · have := List.all_eq_true.mp chk_p43_24 (a - 24) (List.mem_range.mpr (by omega))
    rw [show 24 + (a - 24) = a by omega] at this
    exact this
  rcases Nat.lt_or_ge a 40 with h | h
  · have := List.all_eq_true.mp chk_p43_32 (a - 32) (List.mem_range.mpr (by omega))
    rw [show 32 + (a - 32) = a by omega] at this
    exact this
  have := List.all_eq_true.mp chk_p43_40 (a - 40) (List.mem_range.mpr (by omega))
  rw [show 40 + (a - 40) = a by omega] at this
  exact this
theorem chk_p47_0 : ((List.range 8).all fun i => chkR 47 (0 + i)) = true := by decide +kernel
theorem chk_p47_8 : ((List.range 8).all fun i => chkR 47 (8 + i)) = true := by decide +kernel
theorem chk_p47_16 : ((List.range 8).all fun i => chkR 47 (16 + i)) = true := by decide +kernel
theorem chk_p47_24 : ((List.range 8).all fun i => chkR 47 (24 + i)) = true := by decide +kernel
theorem chk_p47_32 : ((List.range 8).all fun i => chkR 47 (32 + i)) = true := by decide +kernel
theorem chk_p47_40 : ((List.range 7).all fun i => chkR 47 (40 + i)) = true := by decide +kernel
theorem chk_p47 : chkP 47 = true := by
  refine List.all_eq_true.mpr fun a ha => ?_
  have l := List.mem_range.mp ha
  show chkR 47 a = true
  rcases Nat.lt_or_ge a 8 with h | h
  · have := List.all_eq_true.mp chk_p47_0 (a - 0) (List.mem_range.mpr (by omega))
    rw [show 0 + (a - 0) = a by omega] at this
    exact this
  rcases Nat.lt_or_ge a 16 with h | h
  · have := List.all_eq_true.mp chk_p47_8 (a - 8) (List.mem_range.mpr (by omega))
    rw [show 8 + (a - 8) = a by omega] at this
    exact this
  rcases Nat.lt_or_ge a 24 with h | h
  · have := List.all_eq_true.mp chk_p47_16 (a - 16) (List.mem_range.mpr (by omega))
    rw [show 16 + (a - 16) = a by omega] at this
    exact this
  rcases Nat.lt_or_ge a 32 with h | h
  · have := List.all_eq_true.mp chk_p47_24 (a - 24) (List.mem_range.mpr (by omega))
    rw [show 24 + (a - 24) = a by omega] at this
    exact this
  rcases Nat.lt_or_ge a 40 with h | h
  · have := List.all_eq_true.mp chk_p47_32 (a - 32) (List.mem_range.mpr (by omega))
    rw [show 32 + (a - 32) = a by omega] at this
    exact this
  have := List.all_eq_true.mp chk_p47_40 (a - 40) (List.mem_range.mpr (by omega))
  rw [show 40 + (a - 40) = a by omega] at this
  exact this
theorem chk_p53_0 : ((List.range 8).all fun i => chkR 53 (0 + i)) = true := by decide +kernel
theorem chk_p53_8 : ((List.range 8).all fun i => chkR 53 (8 + i)) = true := by decide +kernel
theorem chk_p53_16 : ((List.range 8).all fun i => chkR 53 (16 + i)) = true := by decide +kernel
theorem chk_p53_24 : ((List.range 8).all fun i => chkR 53 (24 + i)) = true := by decide +kernel
theorem chk_p53_32 : ((List.range 8).all fun i => chkR 53 (32 + i)) = true := by decide +kernel
theorem chk_p53_40 : ((List.range 8).all fun i => chkR 53 (40 + i)) = true := by decide +kernel
theorem chk_p53_48 : ((List.range 5).all fun i => chkR 53 (48 + i)) = true := by decide +kernel
theorem chk_p53 : chkP 53 = true := by
  refine List.all_eq_true.mpr fun a ha => ?_
  have l := List.mem_range.mp ha
  show chkR 53 a = true
  rcases Nat.lt_or_ge a 8 with h | h
  · have := List.all_eq_true.mp chk_p53_0 (a - 0) (List.mem_range.mpr (by omega))
    rw [show 0 + (a - 0) = a by omega] at this
    exact this
  rcases Nat.lt_or_ge a 16 with h | h
  · have := List.all_eq_true.mp chk_p53_8 (a - 8) (List.mem_range.mpr (by omega))
    rw [show 8 + (a - 8) = a by omega] at this
    exact this
  rcases Nat.lt_or_ge a 24 with h | h
  · have := List.all_eq_true.mp chk_p53_16 (a - 16) (List.mem_range.mpr (by omega))
    rw [show 16 + (a - 16) = a by omega] at this
    exact this
  rcases Nat.lt_or_ge a 32 with h | h
  · have := List.all_eq_true.mp chk_p53_24 (a - 24) (List.mem_range.mpr (by omega))
    rw [show 24 + (a - 24) = a by omega] at this
    exact this
  rcases Nat.lt_or_ge a 40 with h | h
  · have := List.all_eq_true.mp chk_p53_32 (a - 32) (List.mem_range.mpr (by omega))
    rw [show 32 + (a - 32) = a by omega] at this
    exact this
  rcases Nat.lt_or_ge a 48 with h | h
  · have := List.all_eq_true.mp chk_p53_40 (a - 40) (List.mem_range.mpr (by omega))
    rw [show 40 + (a - 40) = a by omega] at this
    exact this
  have := List.all_eq_true.mp chk_p53_48 (a - 48) (List.mem_range.mpr (by omega))
  rw [show 48 + (a - 48) = a by omega] at this
  exact this
theorem chk_p59_0 : ((List.range 8).all fun i => chkR 59 (0 + i)) = true := by decide +kernel
theorem chk_p59_8 : ((List.range 8).all fun i => chkR 59 (8 + i)) = true := by decide +kernel
theorem chk_p59_16 : ((List.range 8).all fun i => chkR 59 (16 + i)) = true := by decide +kernel
theorem chk_p59_24 : ((List.range 8).all fun i => chkR 59 (24 + i)) = true := by decide +kernel
theorem chk_p59_32 : ((List.range 8).all fun i => chkR 59 (32 + i)) = true := by decide +kernel
theorem chk_p59_40 : ((List.range 8).all fun i => chkR 59 (40 + i)) = true := by decide +kernel
theorem chk_p59_48 : ((List.range 8).all fun i => chkR 59 (48 + i)) = true := by decide +kernel
theorem chk_p59_56 : ((List.range 3).all fun i => chkR 59 (56 + i)) = true := by decide +kernel
theorem chk_p59 : chkP 59 = true := by
  refine List.all_eq_true.mpr fun a ha => ?_
  have l := List.mem_range.mp ha
  show chkR 59 a = true
  rcases Nat.lt_or_ge a 8 with h | h
  · have := List.all_eq_true.mp chk_p59_0 (a - 0) (List.mem_range.mpr (by omega))
    rw [show 0 + (a - 0) = a by omega] at this
    exact this
  rcases Nat.lt_or_ge a 16 with h | h
  · have := List.all_eq_true.mp chk_p59_8 (a - 8) (List.mem_range.mpr (by omega))
    rw [show 8 + (a - 8) = a by omega] at this
    exact this
  rcases Nat.lt_or_ge a 24 with h | h
  · have := List.all_eq_true.mp chk_p59_16 (a - 16) (List.mem_range.mpr (by omega))
    rw [show 16 + (a - 16) = a by omega] at this
    exact this
  rcases Nat.lt_or_ge a 32 with h | h
  · have := List.all_eq_true.mp chk_p59_24 (a - 24) (List.mem_range.mpr (by omega))
    rw [show 24 + (a - 24) = a by omega] at this
    exact this
  rcases Nat.lt_or_ge a 40 with h | h
  · have := List.all_eq_true.mp chk_p59_32 (a - 32) (List.mem_range.mpr (by omega))
    rw [show 32 + (a - 32) = a by omega] at this
    exact this
  rcases Nat.lt_or_ge a 48 with h | h
  · have := List.all_eq_true.mp chk_p59_40 (a - 40) (List.mem_range.mpr (by omega))
    rw [show 40 + (a - 40) = a by omega] at this
    exact this
  rcases Nat.lt_or_ge a 56 with h | h
  · have := List.all_eq_true.mp chk_p59_48 (a - 48) (List.mem_range.mpr (by omega))
    rw [show 48 + (a - 48) = a by omega] at this
    exact this
  have := List.all_eq_true.mp chk_p59_56 (a - 56) (List.mem_range.mpr (by omega))
  rw [show 56 + (a - 56) = a by omega] at this
  exact this
theorem chk_small : ∀ p ∈ smallP, chkP p = true := by
  intro p h
  simp only [smallP, List.mem_cons, List.not_mem_nil, or_false] at h
  rcases h with rfl | rfl | rfl | rfl | rfl | rfl | rfl | rfl | rfl | rfl | rfl | rfl | rfl | rfl | rfl | rfl | rfl
  · exact chk_p2
  · exact chk_p3
  · exact chk_p5
  · exact chk_p7
  · exact chk_p11
  · exact chk_p13
  · exact chk_p17
  · exact chk_p19
  · exact chk_p23
  · exact chk_p29
  · exact chk_p31
  · exact chk_p37
  · exact chk_p41
  · exact chk_p43
  · exact chk_p47
  · exact chk_p53
  · exact chk_p59
end Vf

namespace Vf
/-! ## rounds by a power of a prime from those by the one before -/
section
variable {a b : Int} {u : Nat → Int} {p : Nat}
def lateS (p : Nat) (b : Int) : Nat := if (p : Int) ∣ b then 2 else 0
theorem come_small (hm : p ∈ smallP) (p2 : 2 ≤ p) (R : Rec a b u) (i : Nat) : (p : Int) ∣ u (lateS p b + i + npq p) - u (lateS p b + i) := by
  have ck := chk_small p hm
  have p0 : (p : Int) ≠ 0 := by omega
  have a0 := Int.emod_nonneg a p0
  have a1 := Int.emod_lt_of_pos a (show (0 : Int) < p by omega)
  have b0 := Int.emod_nonneg b p0
  have b1 := Int.emod_lt_of_pos b (show (0 : Int) < p by omega)
  obtain ⟨c, hc⟩ := Int.eq_ofNat_of_zero_le a0
  obtain ⟨d, hd⟩ := Int.eq_ofNat_of_zero_le b0
  have RM := R.mod (p : Int)
  rw [hc, hd] at RM
  have h1 := List.all_eq_true.mp (List.all_eq_true.mp ck c (List.mem_range.mpr (by omega))) d (List.mem_range.mpr (by omega))
  have nb : npq p + 2 < 2 ^ 19 := by
    have : ∀ p ∈ smallP, npq p + 2 < 2 ^ 19 := by decide
    exact this p hm
  by_cases z : d = 0
  · subst z
    rw [if_pos rfl] at h1
    have h2 := ppM_rep p c 0 19 (npq p + 2) nb u RM i
    rw [of_decide_eq_true h1] at h2
    have h3 := RM i
    have e : lateS p b = 2 := if_pos (Int.dvd_of_emod_eq_zero hd)
    rw [e, show 2 + i + npq p = i + (npq p + 2) by omega, show 2 + i = i + 2 by omega]
    exact dv_tr h2 (dv_sw h3)
  · rw [if_neg z] at h1
    have h2 := ppM_rep p c d 19 (npq p) (by omega) u RM i
    rw [of_decide_eq_true h1] at h2
    have e : lateS p b = 0 := if_neg (fun y => z (by have := Int.emod_eq_zero_of_dvd y; omega))
    rw [e, Nat.zero_add]
    have : ((0 : Nat) : Int) * u (i + 1) + ((1 : Nat) : Int) * u i = u i := by simp
    rwa [show (((0, 1) : Nat × Nat).1 : Int) * u (i + 1) + (((0, 1) : Nat × Nat).2 : Int) * u i = u i from this] at h2
def smF (f : Nat → Int) : Nat → Int
  | 0 => 0
  | m + 1 => smF f m + f m
theorem smF_add (f : Nat → Int) (m : Nat) : ∀ k, smF f (m + k) = smF f m + smF (fun i => f (m + i)) k
  | 0 => by
    show smF f m = smF f m + 0
    omega
  | k + 1 => by
    show smF f (m + k) + f (m + k) = smF f m + (smF (fun i => f (m + i)) k + f (m + k))
    rw [smF_add f m k]
    omega
theorem smF_cg {n : Int} {f g : Nat → Int} (h : ∀ i, n ∣ f i - g i) : ∀ k, n ∣ smF f k - smF g k
  | 0 => dv_rf n _
  | k + 1 => dv_add (smF_cg h k) (h k)
theorem smF_laps {n : Int} {f : Nat → Int} {m : Nat} (h : ∀ i, n ∣ f (m + i) - f i) : ∀ q, n ∣ smF f (m * q) - (q : Int) * smF f m
  | 0 => by
    show n ∣ (0 : Int) - ((0 : Nat) : Int) * _
    simp
  | q + 1 => by
    have ih := smF_laps h q
    have step : ∀ q i, n ∣ f (m * q + i) - f i := fun q => by
      induction q with
      | zero => intro i; rw [Nat.mul_zero, Nat.zero_add]; exact dv_rf n _
      | succ q ihq =>
        intro i
        have := h (m * q + i)
        rw [show m + (m * q + i) = m * (q + 1) + i by rw [Nat.mul_succ]; omega] at this
        exact dv_tr this (ihq i)
    rw [Nat.mul_succ, smF_add]
    have h2 := smF_cg (step q) m
    have := dv_add ih h2
    rwa [show ((q : Int) * smF f m + smF f m) = ((q + 1 : Nat) : Int) * smF f m by push_cast; grind] at this
/-- the differences over a round, divided -/
theorem lift (R : Rec a b u) {k t r s n : Nat} (p0 : 0 < p) (h : Pd ((p ^ k : Nat) : Int) u t r)
    (hd : ∀ d : Nat → Int, Rec a b d → (∀ i, u (t + i + r) - u (t + i) = ((p ^ k : Nat) : Int) * d i) → ∀ i, (p : Int) ∣ d (s + i + n) - d (s + i)) : Pd ((p ^ (k + 1) : Nat) : Int) u (t + s) (r * (n * p)) := by
  have q0 : ((p ^ k : Nat) : Int) ≠ 0 := by have := Nat.pow_pos (n := k) p0; omega
  have ex : ∀ i, ∃ z : Int, u (t + i + r) - u (t + i) = ((p ^ k : Nat) : Int) * z := fun i => by
    have := (h.both R i).1
    rw [show t + r + i = t + i + r by omega] at this
    exact this
  obtain ⟨d, ed⟩ : ∃ d : Nat → Int, ∀ i, u (t + i + r) - u (t + i) = ((p ^ k : Nat) : Int) * d i := ⟨fun i => (ex i).choose, fun i => (ex i).choose_spec⟩
  have Rd : Rec a b d := fun i => by
    have e0 := ed i
    have e1 := ed (i + 1)
    have e2 := ed (i + 2)
    have r1 := R (t + i + r)
    have r2 := R (t + i)
    rw [show t + (i + 1) + r = t + i + r + 1 by omega, show t + (i + 1) = t + i + 1 by omega] at e1
    rw [show t + (i + 2) + r = t + i + r + 2 by omega, show t + (i + 2) = t + i + 2 by omega] at e2
    refine Int.eq_of_mul_eq_mul_left q0 ?_
    rw [← e2, r1, r2]
    grind
  have hp := hd d Rd ed
  have far : ∀ m i, (p : Int) ∣ d (s + i + n * m) - d (s + i) := fun m => by
    induction m with
    | zero => intro i; rw [Nat.mul_zero, Nat.add_zero]; exact dv_rf _ _
    | succ m ih =>
      intro i
      have := hp (i + n * m)
      rw [show s + (i + n * m) + n = s + i + n * (m + 1) by rw [Nat.mul_succ]; omega, show s + (i + n * m) = s + i + n * m by omega] at this
      exact dv_tr this (ih i)
  have main : ∀ i, ((p ^ (k + 1) : Nat) : Int) ∣ u (t + s + i + r * (n * p)) - u (t + s + i) := fun i => by
    have tel : ∀ m, u (t + s + i + r * m) - u (t + s + i) = ((p ^ k : Nat) : Int) * smF (fun l => d (s + i + r * l)) m := fun m => by
      induction m with
      | zero => rw [Nat.mul_zero, Nat.add_zero, Int.sub_self]; show (0 : Int) = _ * 0; rw [Int.mul_zero]
      | succ m ih =>
        have := ed (s + i + r * m)
        rw [show t + (s + i + r * m) + r = t + s + i + r * (m + 1) by rw [Nat.mul_succ]; omega, show t + (s + i + r * m) = t + s + i + r * m by omega] at this
        show _ = ((p ^ k : Nat) : Int) * (smF (fun l => d (s + i + r * l)) m + d (s + i + r * m))
        rw [Int.mul_add, ← ih, ← this]
        omega
    rw [tel]
    have lap := smF_laps (n := (p : Int)) (f := fun l => d (s + i + r * l)) (m := n) (fun l => by
      have := far r (i + r * l)
      rwa [show s + (i + r * l) + n * r = s + i + r * (n + l) by rw [Nat.mul_add, Nat.mul_comm r n]; omega, show s + (i + r * l) = s + i + r * l by omega] at this) p
    have d1 : (p : Int) ∣ smF (fun l => d (s + i + r * l)) (n * p) := by
      have := Int.dvd_add lap (Int.dvd_mul_right (p : Int) (smF (fun l => d (s + i + r * l)) n))
      rwa [show smF (fun l => d (s + i + r * l)) (n * p) - (p : Int) * smF (fun l => d (s + i + r * l)) n + (p : Int) * smF (fun l => d (s + i + r * l)) n = smF (fun l => d (s + i + r * l)) (n * p) by omega] at this
    obtain ⟨c, hc⟩ := d1
    rw [hc]
    refine ⟨c, ?_⟩
    rw [Nat.pow_succ, Int.natCast_mul, Int.mul_assoc]
  refine ⟨main 0, ?_⟩
  have := main 1
  rwa [show t + s + 1 + r * (n * p) = t + s + r * (n * p) + 1 by omega] at this
theorem lift_late (hm : p ∈ smallP) (p2 : 2 ≤ p) (R : Rec a b u) {k t r : Nat} (h : Pd ((p ^ k : Nat) : Int) u t r) : Pd ((p ^ (k + 1) : Nat) : Int) u (t + lateS p b) (r * (npq p * p)) :=
  lift R (by omega) h fun d Rd _ i => come_small hm p2 Rd i
theorem npq_pos (p2 : 2 ≤ p) : 0 < npq p := Nat.mul_pos (by omega) (by have := Nat.mul_le_mul p2 p2; omega)
theorem late_ex (hm : p ∈ smallP) (p2 : 2 ≤ p) (R : Rec a b u) : ∀ k, ∃ N, 0 < N ∧ Pd ((p ^ k : Nat) : Int) u (lateS p b * k) N
  | 0 => ⟨1, Nat.one_pos, ⟨Int.one_dvd _, Int.one_dvd _⟩⟩
  | k + 1 => by
    obtain ⟨N, N0, h⟩ := late_ex hm p2 R k
    exact ⟨N * (npq p * p), Nat.mul_pos N0 (Nat.mul_pos (npq_pos p2) (by omega)), by rw [Nat.mul_succ]; exact lift_late hm p2 R h⟩
theorem lift_cyc (hm : p ∈ smallP) (p2 : 2 ≤ p) (R : Rec a b u) {k t r N : Nat} (N0 : 0 < N) (hN : Pd ((p ^ (k + 1) : Nat) : Int) u t N) (h : Pd ((p ^ k : Nat) : Int) u t r) : Pd ((p ^ (k + 1) : Nat) : Int) u t (r * (npq p * p)) := by
  have q0 : ((p ^ k : Nat) : Int) ≠ 0 := by have := Nat.pow_pos (n := k) (show 0 < p by omega); omega
  refine lift (s := 0) R (by omega) h fun d Rd ed i => ?_
  rw [Nat.zero_add]
  have per : ∀ j, (p : Int) ∣ d (j + N) - d j := fun j => by
    have e1 := ed (j + N)
    have e0 := ed j
    have g1 := (hN.both R (j + r)).1
    have g0 := (hN.both R j).1
    rw [show t + N + (j + r) = t + (j + N) + r by omega, show t + (j + r) = t + j + r by omega] at g1
    rw [show t + N + j = t + (j + N) by omega] at g0
    have g := Int.dvd_sub g1 g0
    rw [show u (t + (j + N) + r) - u (t + j + r) - (u (t + (j + N)) - u (t + j)) = (u (t + (j + N) + r) - u (t + (j + N))) - (u (t + j + r) - u (t + j)) by omega, e1, e0, ← Int.mul_sub, Nat.pow_succ, Int.natCast_mul] at g
    exact Int.dvd_of_mul_dvd_mul_left q0 g
  have two : ∀ j, (p : Int) ∣ d (j + (N + N)) - d j := fun j => by
    have := per (j + N)
    rw [show j + N + N = j + (N + N) by omega] at this
    exact dv_tr this (per j)
  have ls : lateS p b ≤ 2 := by unfold lateS; split <;> omega
  have c := come_small hm p2 Rd (i + (N + N) - lateS p b)
  rw [Nat.add_sub_cancel' (show lateS p b ≤ i + (N + N) by omega)] at c
  have t1 := two (i + npq p)
  rw [show i + npq p + (N + N) = i + (N + N) + npq p by omega] at t1
  exact dv_tr (dv_sw t1) (dv_tr c (two i))
/-- the least round by the next power -/
theorem least_of (R : Rec a b u) {n n' : Int} {t r m : Nat} (d : n ∣ n') (L : LP n u t r) (m0 : 0 < m) (h : Pd n' u t (r * m)) (g : ∀ q, Pr q → q ∣ m → ¬ Pd n' u t (r * (m / q))) : LP n' u t (r * m) := by
  obtain ⟨c, C⟩ := LP.ex (r * m) (Nat.mul_pos L.1 m0) h
  obtain ⟨e, rfl⟩ := L.dvd R (C.2.1.dvd d)
  have r0 := L.1
  have e0 : 0 < e := Nat.pos_of_mul_pos_left C.1
  obtain ⟨f, hf⟩ : e ∣ m := Nat.dvd_of_mul_dvd_mul_left r0 (C.dvd R h)
  have f0 : 0 < f := by
    rcases Nat.eq_zero_or_pos f with z | z
    · rw [z, Nat.mul_zero] at hf; omega
    · exact z
  rcases Nat.lt_or_ge f 2 with l | l
  · have : f = 1 := by omega
    rw [this, Nat.mul_one] at hf
    rw [hf]
    exact C
  · obtain ⟨q, hq, x, hx⟩ := has_prime f l
    refine absurd ?_ (g q hq ⟨e * x, by rw [hf, hx]; grind⟩)
    have : m / q = e * x := by
      rw [hf, hx, show e * (q * x) = q * (e * x) by grind]
      exact Nat.mul_div_cancel_left _ (by have := hq.1; omega)
    rw [this, ← Nat.mul_assoc]
    exact C.2.1.mul R x
theorem TR.le (R : Rec a b u) {m t r : Nat} (m0 : 0 < m) (h : TR (m : Int) u t r) : t + r ≤ m * m := by
  refine Classical.byContradiction fun z => ?_
  refine pair_pig (a := a) (b := b) (x := u 0) (y := u 1) m0 fun i hi j hj e => ?_
  have ei := rec_rv R i
  have ej := rec_rv R j
  rw [← ei.1, ← ei.2, ← ej.1, ← ej.2] at e
  have P : Pd (m : Int) u j (i - j) := by
    refine ⟨?_, ?_⟩
    · rw [show j + (i - j) = i by omega]
      exact Int.dvd_of_emod_eq_zero (Int.emod_eq_emod_iff_emod_sub_eq_zero.mp e.1)
    · rw [show j + (i - j) + 1 = i + 1 by omega]
      exact Int.dvd_of_emod_eq_zero (Int.emod_eq_emod_iff_emod_sub_eq_zero.mp e.2)
  rcases Nat.lt_or_ge j t with l | l
  · exact h.2 j l (i - j) (by omega) P
  · have L := h.1.up R (j - t)
    rw [Nat.add_sub_cancel' l] at L
    exact L.2.2 (i - j) (by omega) (by omega) P
end
end Vf

namespace Vf
/-! ## where a run that begins with 0, 1 is divided -/
section
variable {a b : Int}
abbrev uv (a b : Int) : Nat → Int := rv a b 0 1
theorem rec_add {u : Nat → Int} (R : Rec a b u) (m : Nat) : ∀ n, u (m + n + 1) = uv a b (n + 1) * u (m + 1) + b * uv a b n * u m ∧ u (m + n + 2) = uv a b (n + 2) * u (m + 1) + b * uv a b (n + 1) * u m
  | 0 => by
    refine ⟨?_, ?_⟩
    · show u (m + 1) = 1 * u (m + 1) + b * 0 * u m
      simp
    · show u (m + 2) = (a * 1 + b * 0) * u (m + 1) + b * 1 * u m
      rw [R]
      simp
  | n + 1 => by
    obtain ⟨h1, h2⟩ := rec_add R m n
    refine ⟨h2, ?_⟩
    have e := R (m + n + 1)
    rw [show m + n + 1 + 2 = m + (n + 1) + 2 by omega, show m + n + 1 + 1 = m + n + 2 by omega] at e
    have e3 : uv a b (n + 1 + 2) = a * uv a b (n + 2) + b * uv a b (n + 1) := rfl
    have e4 : uv a b (n + 2) = a * uv a b (n + 1) + b * uv a b n := rfl
    rw [e, h1, h2, e3]
    rw [show uv a b (n + 1 + 1) = a * uv a b (n + 1) + b * uv a b n from rfl]
    grind
theorem no_prime {x : Nat} {N : Nat} (h : ∀ q, Pr q → q ∣ x → ¬ q ∣ N) : Nat.Coprime x N := by
  refine Classical.byContradiction fun c => ?_
  rcases Nat.lt_or_ge (Nat.gcd x N) 2 with l | l
  · have z : Nat.gcd x N = 0 := by
      have : Nat.gcd x N ≠ 1 := c
      omega
    have p2 : Pr 2 := ⟨by decide, fun k hk => by
      have := Nat.le_of_dvd (by decide) hk
      rcases k with _ | _ | _ | k
      · exact absurd hk (by decide)
      · exact .inl rfl
      · exact .inr rfl
      · omega⟩
    rw [Nat.gcd_eq_zero_iff] at z
    rw [z.1, z.2] at h
    exact h 2 p2 (Nat.dvd_zero _) (Nat.dvd_zero _)
  · obtain ⟨q, hq, hd⟩ := has_prime _ l
    exact h q hq (Nat.dvd_trans hd (Nat.gcd_dvd_left _ _)) (Nat.dvd_trans hd (Nat.gcd_dvd_right _ _))
theorem two_open {q : Nat} (hq : Pr q) (hb : ¬ (q : Int) ∣ b) : ∀ r, (q : Int) ∣ uv a b r → ¬ (q : Int) ∣ uv a b (r + 1)
  | 0, _, h => by
    have : (q : Int) ∣ 1 := h
    have := Int.le_of_dvd (by decide) this
    have := hq.1
    omega
  | r + 1, h, g => by
    have e : uv a b (r + 2) = a * uv a b (r + 1) + b * uv a b r := rfl
    have g' : (q : Int) ∣ uv a b (r + 2) := g
    rw [e] at g'
    have h2 : (q : Int) ∣ b * uv a b r := by
      have := Int.dvd_sub g' (Int.dvd_trans h (Int.dvd_mul_left a (uv a b (r + 1))))
      rwa [show a * uv a b (r + 1) + b * uv a b r - a * uv a b (r + 1) = b * uv a b r by omega] at this
    rcases hq.euclid h2 with z | z
    · exact hb z
    · exact two_open hq hb r z h
theorem next_open {N r : Nat} (hc : Nat.Coprime N b.natAbs) (h : (N : Int) ∣ uv a b r) : Nat.Coprime N (uv a b (r + 1)).natAbs := by
  refine no_prime fun q hq h1 h2 => ?_
  have hb : ¬ (q : Int) ∣ b := fun z => by
    have := Nat.dvd_gcd h1 (Int.ofNat_dvd_left.mp z)
    rw [hc] at this
    have := Nat.le_of_dvd (by decide) this
    have := hq.1
    omega
  exact two_open hq hb r (Int.dvd_trans (Int.ofNat_dvd.mpr h1) h) (Int.ofNat_dvd_left.mpr h2)
theorem cop_cancel {N : Nat} {x y : Int} (hc : Nat.Coprime N y.natAbs) (h : (N : Int) ∣ x * y) : (N : Int) ∣ x := by
  have h1 := Int.ofNat_dvd_left.mp h
  rw [Int.natAbs_mul] at h1
  exact Int.ofNat_dvd_left.mpr (Nat.Coprime.dvd_of_dvd_mul_right hc h1)
theorem uv_shift {N r : Nat} (hc : Nat.Coprime N b.natAbs) (h : (N : Int) ∣ uv a b r) (s : Nat) : (N : Int) ∣ uv a b (r + s) ↔ (N : Int) ∣ uv a b s := by
  rcases s with _ | s
  · exact ⟨fun _ => Int.dvd_zero _, fun _ => h⟩
  · have e := (rec_add (rv_rec a b 0 1) r s).1
    have d : (N : Int) ∣ b * uv a b s * uv a b r := Int.dvd_trans h (Int.dvd_mul_left _ _)
    show (N : Int) ∣ uv a b (r + s + 1) ↔ _
    rw [show uv a b (r + s + 1) = _ from e]
    constructor
    · intro g
      have := Int.dvd_sub g d
      rw [show uv a b (s + 1) * uv a b (r + 1) + b * uv a b s * uv a b r - b * uv a b s * uv a b r = uv a b (s + 1) * uv a b (r + 1) by omega] at this
      exact cop_cancel (next_open hc h) this
    · intro g
      exact Int.dvd_add (Int.dvd_trans g (Int.dvd_mul_right _ _)) d
/-- the entry -/
def EN (N : Nat) (a b : Int) (e : Nat) : Prop := 0 < e ∧ (N : Int) ∣ uv a b e ∧ ∀ c, 0 < c → c < e → ¬ (N : Int) ∣ uv a b c
theorem uv_mul {N r : Nat} (hc : Nat.Coprime N b.natAbs) (h : (N : Int) ∣ uv a b r) : ∀ k, (N : Int) ∣ uv a b (r * k)
  | 0 => Int.dvd_zero _
  | k + 1 => by
    rw [Nat.mul_succ, Nat.add_comm]
    exact (uv_shift hc h _).mpr (uv_mul hc h k)
theorem EN.dvd {N e : Nat} (hc : Nat.Coprime N b.natAbs) (h : EN N a b e) (k : Nat) : (N : Int) ∣ uv a b k ↔ e ∣ k := by
  constructor
  · intro g
    rw [← Nat.div_add_mod k e] at g
    have h1 := uv_mul hc h.2.1 (k / e)
    have h2 := (uv_shift hc h1 _).mp g
    refine Nat.dvd_of_mod_eq_zero (Classical.byContradiction fun z => ?_)
    exact h.2.2 _ (by omega) (Nat.mod_lt _ h.1) h2
  · rintro ⟨c, rfl⟩
    exact uv_mul hc h.2.1 c
theorem EN.ex {N : Nat} : ∀ c, 0 < c → (N : Int) ∣ uv a b c → ∃ e, EN N a b e := by
  intro c
  induction c using Nat.strongRecOn with
  | ind c ih =>
    intro c0 h
    by_cases z : ∃ e, 0 < e ∧ e < c ∧ (N : Int) ∣ uv a b e
    · obtain ⟨e, e0, ec, he⟩ := z
      exact ih e ec e0 he
    · exact ⟨c, c0, h, fun e e0 ec he => z ⟨e, e0, ec, he⟩⟩
theorem EN.uniq {N e f : Nat} (hc : Nat.Coprime N b.natAbs) (h : EN N a b e) (g : EN N a b f) : e = f := Nat.dvd_antisymm ((h.dvd hc f).mp g.2.1) ((g.dvd hc e).mp h.2.1)
theorem EN.one (a b : Int) : EN 1 a b 1 := ⟨Nat.one_pos, Int.one_dvd _, fun c c0 c1 => by omega⟩
theorem EN.of {N m : Nat} (hc : Nat.Coprime N b.natAbs) (m0 : 0 < m) (h : (N : Int) ∣ uv a b m) (g : ∀ q, Pr q → q ∣ m → ¬ (N : Int) ∣ uv a b (m / q)) : EN N a b m := by
  obtain ⟨e, E⟩ := EN.ex m m0 h
  obtain ⟨f, hf⟩ := (E.dvd hc m).mp h
  have f0 : 0 < f := by
    rcases Nat.eq_zero_or_pos f with z | z
    · rw [z, Nat.mul_zero] at hf; omega
    · exact z
  rcases Nat.lt_or_ge f 2 with l | l
  · have : f = 1 := by omega
    rw [this, Nat.mul_one] at hf
    rw [hf]
    exact E
  · obtain ⟨q, hq, x, hx⟩ := has_prime f l
    refine absurd ?_ (g q hq ⟨e * x, by rw [hf, hx]; grind⟩)
    have : m / q = e * x := by
      rw [hf, hx, show e * (q * x) = q * (e * x) by grind]
      exact Nat.mul_div_cancel_left _ (by have := hq.1; omega)
    rw [this]
    exact (E.dvd hc _).mpr ⟨x, rfl⟩
theorem EN.cop {m k e f : Nat} (hmk : Nat.Coprime m k) (hm : Nat.Coprime m b.natAbs) (hk : Nat.Coprime k b.natAbs) (h : EN m a b e) (g : EN k a b f) : EN (m * k) a b (Nat.lcm e f) := by
  have both : ∀ c, ((m * k : Nat) : Int) ∣ uv a b c ↔ e ∣ c ∧ f ∣ c := fun c => by
    rw [← h.dvd hm c, ← g.dvd hk c]
    exact ⟨fun z => ⟨Int.dvd_trans (Int.ofNat_dvd.mpr ⟨k, rfl⟩) z, Int.dvd_trans (Int.ofNat_dvd.mpr ⟨m, Nat.mul_comm _ _⟩) z⟩, fun z => cop_dvd hmk z.1 z.2⟩
  refine ⟨Nat.lcm_pos h.1 g.1, (both _).mpr ⟨Nat.dvd_lcm_left _ _, Nat.dvd_lcm_right _ _⟩, fun c c0 cl hc => ?_⟩
  obtain ⟨h1, h2⟩ := (both c).mp hc
  have := Nat.le_of_dvd c0 (Nat.lcm_dvd h1 h2)
  omega
theorem EN.part {m n e f : Nat} (hn : Nat.Coprime n b.natAbs) (d : n ∣ m) (h : EN m a b e) (g : EN n a b f) : f ∣ e := (g.dvd hn e).mp (Int.dvd_trans (Int.ofNat_dvd.mpr d) h.2.1)
/-! ### by powers of a prime -/
theorem lift_own {u : Nat → Int} (R : Rec a b u) {p k r : Nat} (p0 : 0 < p) (hP : ∀ v, Rec a b v → Pd ((p ^ (k + 1) : Nat) : Int) v 0 r) : Pd ((p ^ (k + 2) : Nat) : Int) u 0 (r * p) := by
  have q0 : ((p ^ (k + 1) : Nat) : Int) ≠ 0 := by have := Nat.pow_pos (n := k + 1) p0; omega
  have h := hP u R
  have ex : ∀ i, ∃ z : Int, u (i + r) - u i = ((p ^ (k + 1) : Nat) : Int) * z := fun i => by
    have := (h.both R i).1
    rw [show 0 + r + i = i + r by omega, Nat.zero_add] at this
    exact this
  obtain ⟨d, ed⟩ : ∃ d : Nat → Int, ∀ i, u (i + r) - u i = ((p ^ (k + 1) : Nat) : Int) * d i := ⟨fun i => (ex i).choose, fun i => (ex i).choose_spec⟩
  have Rd : Rec a b d := fun i => by
    have e0 := ed i
    have e1 := ed (i + 1)
    have e2 := ed (i + 2)
    have r1 := R (i + r)
    have r2 := R i
    rw [show i + 1 + r = i + r + 1 by omega] at e1
    rw [show i + 2 + r = i + r + 2 by omega] at e2
    refine Int.eq_of_mul_eq_mul_left q0 ?_
    rw [← e2, r1, r2]
    grind
  have pd : (p : Int) ∣ ((p ^ (k + 1) : Nat) : Int) := Int.ofNat_dvd.mpr ⟨p ^ k, by rw [Nat.pow_succ, Nat.mul_comm]⟩
  have hd : ∀ i, (p : Int) ∣ d (i + r) - d i := fun i => by
    have := ((hP d Rd).both Rd i).1
    rw [show 0 + r + i = i + r by omega, Nat.zero_add] at this
    exact Int.dvd_trans pd this
  have main : ∀ i, ((p ^ (k + 2) : Nat) : Int) ∣ u (i + r * p) - u i := fun i => by
    have tel : ∀ m, u (i + r * m) - u i = ((p ^ (k + 1) : Nat) : Int) * smF (fun l => d (i + r * l)) m := fun m => by
      induction m with
      | zero => rw [Nat.mul_zero, Nat.add_zero, Int.sub_self]; show (0 : Int) = _ * 0; rw [Int.mul_zero]
      | succ m ih =>
        have := ed (i + r * m)
        rw [show i + r * m + r = i + r * (m + 1) by rw [Nat.mul_succ]; omega] at this
        show _ = ((p ^ (k + 1) : Nat) : Int) * (smF (fun l => d (i + r * l)) m + d (i + r * m))
        rw [Int.mul_add, ← ih, ← this]
        omega
    rw [tel]
    have lap := smF_laps (n := (p : Int)) (f := fun l => d (i + r * l)) (m := 1) (fun l => by
      have := hd (i + r * l)
      rwa [show i + r * l + r = i + r * (1 + l) by rw [Nat.mul_add, Nat.mul_one]; omega] at this) p
    rw [Nat.one_mul] at lap
    have d1 : (p : Int) ∣ smF (fun l => d (i + r * l)) p := by
      have := Int.dvd_add lap (Int.dvd_mul_right (p : Int) (smF (fun l => d (i + r * l)) 1))
      rwa [show smF (fun l => d (i + r * l)) p - (p : Int) * smF (fun l => d (i + r * l)) 1 + (p : Int) * smF (fun l => d (i + r * l)) 1 = smF (fun l => d (i + r * l)) p by omega] at this
    obtain ⟨c, hc⟩ := d1
    rw [hc]
    refine ⟨c, ?_⟩
    rw [Nat.pow_succ p (k + 1), Int.natCast_mul, Int.mul_assoc]
  refine ⟨main 0, ?_⟩
  have := main 1
  rwa [show 1 + r * p = 0 + r * p + 1 by omega] at this
theorem own_round {p : Nat} (hm : p ∈ smallP) (p2 : 2 ≤ p) (hb : ¬ (p : Int) ∣ b) : ∀ k {u : Nat → Int}, Rec a b u → Pd ((p ^ (k + 1) : Nat) : Int) u 0 (npq p * p ^ k)
  | 0, u, R => by
    have e : lateS p b = 0 := if_neg hb
    have c0 := come_small hm p2 R 0
    have c1 := come_small hm p2 R 1
    rw [e] at c0 c1
    rw [Nat.pow_zero, Nat.mul_one, Nat.zero_add, Nat.pow_one]
    refine ⟨?_, ?_⟩
    · rw [Nat.zero_add] at c0 ⊢
      exact c0
    · rw [show 0 + npq p + 1 = 0 + 1 + npq p by omega]
      exact c1
  | k + 1, u, R => by
    have := lift_own R (by omega) (fun v Rv => own_round hm p2 hb k Rv)
    rwa [Nat.mul_assoc, ← Nat.pow_succ] at this
theorem back_one {u : Nat → Int} (R : Rec a b u) {N t c : Nat} (hc : Nat.Coprime N b.natAbs) (h : Pd (N : Int) u (t + 1) c) : Pd (N : Int) u t c := by
  have r1 := R (t + c)
  have r2 := R t
  rw [Pd, show t + 1 + c = t + c + 1 by omega, show t + c + 1 + 1 = t + c + 2 by omega, show t + 1 + 1 = t + 2 by omega] at h
  refine ⟨?_, h.1⟩
  refine cop_cancel (y := b) hc ?_
  have g := h.2
  rw [r1, r2] at g
  have := Int.dvd_sub g (Int.dvd_trans h.1 (Int.dvd_mul_left a _))
  rwa [show a * u (t + c + 1) + b * u (t + c) - (a * u (t + 1) + b * u t) - a * (u (t + c + 1) - u (t + 1)) = (u (t + c) - u t) * b by grind] at this
theorem TR.no_tail {u : Nat → Int} (R : Rec a b u) {N t c : Nat} (hc : Nat.Coprime N b.natAbs) (h : TR (N : Int) u t c) : t = 0 := by
  rcases t with _ | t
  · rfl
  · exact absurd (back_one R hc h.1.2.1) (h.2 t (Nat.lt_succ_self t) c h.1.1)
/-! ### common values -/
theorem uv_low {q : Nat} (hq : Pr q) (hb : (q : Int) ∣ b) (ha : ¬ (q : Int) ∣ a) : ∀ n, ¬ (q : Int) ∣ uv a b (n + 1)
  | 0, h => by
    have : (q : Int) ∣ 1 := h
    have := Int.le_of_dvd (by decide) this
    have := hq.1
    omega
  | n + 1, h => by
    have e : uv a b (n + 2) = a * uv a b (n + 1) + b * uv a b n := rfl
    have h' : (q : Int) ∣ uv a b (n + 2) := h
    rw [e] at h'
    have h2 : (q : Int) ∣ a * uv a b (n + 1) := by
      have := Int.dvd_sub h' (Int.dvd_trans hb (Int.dvd_mul_right b (uv a b n)))
      rwa [show a * uv a b (n + 1) + b * uv a b n - b * uv a b n = a * uv a b (n + 1) by omega] at this
    rcases hq.euclid h2 with z | z
    · exact ha z
    · exact uv_low hq hb ha n z
theorem uv_open (hab : Nat.Coprime a.natAbs b.natAbs) (n : Nat) : Nat.Coprime (uv a b (n + 1)).natAbs b.natAbs := by
  refine no_prime fun q hq h1 h2 => ?_
  refine uv_low hq (Int.ofNat_dvd_left.mpr h2) (fun z => ?_) n (Int.ofNat_dvd_left.mpr h1)
  have := Nat.dvd_gcd (Int.ofNat_dvd_left.mp z) h2
  rw [hab] at this
  have := Nat.le_of_dvd (by decide) this
  have := hq.1
  omega
theorem uv_parts (g : Nat) : ∀ k, uv a b g ∣ uv a b (g * k)
  | 0 => Int.dvd_zero _
  | k + 1 => by
    rcases g with _ | g
    · rw [Nat.zero_mul]
      exact Int.dvd_refl _
    · have e := (rec_add (rv_rec a b 0 1) ((g + 1) * k) g).1
      rw [show (g + 1) * (k + 1) = (g + 1) * k + g + 1 by rw [Nat.mul_succ]; omega, show uv a b ((g + 1) * k + g + 1) = _ from e]
      exact Int.dvd_add (Int.dvd_mul_right _ _) (Int.dvd_trans (uv_parts (g + 1) k) (Int.dvd_mul_left _ _))
theorem uv_gcd (hab : Nat.Coprime a.natAbs b.natAbs) (m n : Nat) : Nat.gcd (uv a b m).natAbs (uv a b n).natAbs = (uv a b (Nat.gcd m n)).natAbs := by
  obtain ⟨x, hx⟩ := Nat.gcd_dvd_left m n
  obtain ⟨y, hy⟩ := Nat.gcd_dvd_right m n
  refine Nat.dvd_antisymm ?_ (Nat.dvd_gcd ?_ ?_)
  · rcases m with _ | m
    · rw [Nat.gcd_zero_left]
      exact Nat.gcd_dvd_right _ _
    · have hN : ∀ k, (Nat.gcd (uv a b (m + 1)).natAbs (uv a b n).natAbs : Int) ∣ uv a b k → Nat.gcd (uv a b (m + 1)).natAbs (uv a b n).natAbs ∣ (uv a b k).natAbs := fun k h => Int.ofNat_dvd_left.mp h
      refine hN _ ?_
      generalize hG : Nat.gcd (uv a b (m + 1)).natAbs (uv a b n).natAbs = G at *
      have g1 : (G : Int) ∣ uv a b (m + 1) := by rw [← hG]; exact Int.ofNat_dvd_left.mpr (Nat.gcd_dvd_left _ _)
      have g2 : (G : Int) ∣ uv a b n := by rw [← hG]; exact Int.ofNat_dvd_left.mpr (Nat.gcd_dvd_right _ _)
      have hc : Nat.Coprime G b.natAbs := Nat.Coprime.coprime_dvd_left (Int.ofNat_dvd_left.mp g1) (uv_open hab m)
      obtain ⟨e, E⟩ := EN.ex (m + 1) (Nat.succ_pos m) g1
      exact (E.dvd hc _).mpr (Nat.dvd_gcd ((E.dvd hc _).mp g1) ((E.dvd hc _).mp g2))
  · have := uv_parts (a := a) (b := b) (Nat.gcd m n) x
    rw [← hx] at this
    exact Int.natAbs_dvd_natAbs.mpr this
  · have := uv_parts (a := a) (b := b) (Nat.gcd m n) y
    rw [← hy] at this
    exact Int.natAbs_dvd_natAbs.mpr this
end
end Vf

namespace K62
open PySem PySem.Spec PyProof.Rows L2 Vf
/-! ### the text -/
def topS (i : Nat) : Stmt := PySem.Challenge.pw_restworld_k62_whole_entries_and_common_v.main.body.getD i (.Pass ⟨0, 0, 0, 0⟩)
abbrev s_times_in : Stmt := topS 2
theorem sc_times_in : FnScope ["number", "prime", "times", "left"] ["number", "prime"] (defScope s_times_in) := ⟨rfl, rfl, rfl, by decide +kernel, rfl, by decide +kernel, by decide +kernel⟩
theorem bd_times_in {K : PySem.W.Frag} {f : Addr} {fd : FuncData} (F : L2.Fun K "times_in" "times_in" s_times_in f fd) : L2.Binds K fd ["number", "prime"] [] := F.binds (ps := ["number", "prime"]) fun _ _ _ _ _ _ us hl => match us, hl with | [_, _], _ => rfl
abbrev s_raised : Stmt := topS 3
theorem sc_raised : FnScope ["number", "times", "product", "factor", "left"] ["number", "times"] (defScope s_raised) := ⟨rfl, rfl, rfl, by decide +kernel, rfl, by decide +kernel, by decide +kernel⟩
theorem bd_raised {K : PySem.W.Frag} {f : Addr} {fd : FuncData} (F : L2.Fun K "raised" "raised" s_raised f fd) : L2.Binds K fd ["number", "times"] [] := F.binds (ps := ["number", "times"]) fun _ _ _ _ _ _ us hl => match us, hl with | [_, _], _ => rfl
abbrev s_is_integer : Stmt := topS 17
theorem sc_is_integer : FnScope ["given"] ["given"] (defScope s_is_integer) := ⟨rfl, rfl, rfl, by decide +kernel, rfl, by decide +kernel, by decide +kernel⟩
theorem bd_is_integer {K : PySem.W.Frag} {f : Addr} {fd : FuncData} (F : L2.Fun K "is_integer" "is_integer" s_is_integer f fd) : L2.Binds K fd ["given"] [] := F.binds (ps := ["given"]) fun _ _ _ _ _ _ us hl => match us, hl with | [_], _ => rfl
abbrev s_is_within : Stmt := topS 18
theorem sc_is_within : FnScope ["given", "least", "most"] ["given", "least", "most"] (defScope s_is_within) := ⟨rfl, rfl, rfl, by decide +kernel, rfl, by decide +kernel, by decide +kernel⟩
theorem bd_is_within {K : PySem.W.Frag} {f : Addr} {fd : FuncData} (F : L2.Fun K "is_within" "is_within" s_is_within f fd) : L2.Binds K fd ["given", "least", "most"] [] := F.binds (ps := ["given", "least", "most"]) fun _ _ _ _ _ _ us hl => match us, hl with | [_, _, _], _ => rfl
abbrev s_check_within : Stmt := topS 19
theorem sc_check_within : FnScope ["given", "least", "most"] ["given", "least", "most"] (defScope s_check_within) := ⟨rfl, rfl, rfl, by decide +kernel, rfl, by decide +kernel, by decide +kernel⟩
theorem bd_check_within {K : PySem.W.Frag} {f : Addr} {fd : FuncData} (F : L2.Fun K "check_within" "check_within" s_check_within f fd) : L2.Binds K fd ["given", "least", "most"] [] := F.binds (ps := ["given", "least", "most"]) fun _ _ _ _ _ _ us hl => match us, hl with | [_, _, _], _ => rfl
abbrev s_check_base : Stmt := topS 20
theorem sc_check_base : FnScope ["given"] ["given"] (defScope s_check_base) := ⟨rfl, rfl, rfl, by decide +kernel, rfl, by decide +kernel, by decide +kernel⟩
theorem bd_check_base {K : PySem.W.Frag} {f : Addr} {fd : FuncData} (F : L2.Fun K "check_base" "check_base" s_check_base f fd) : L2.Binds K fd ["given"] [] := F.binds (ps := ["given"]) fun _ _ _ _ _ _ us hl => match us, hl with | [_], _ => rfl
abbrev s_check_index : Stmt := topS 21
theorem sc_check_index : FnScope ["given"] ["given"] (defScope s_check_index) := ⟨rfl, rfl, rfl, by decide +kernel, rfl, by decide +kernel, by decide +kernel⟩
theorem bd_check_index {K : PySem.W.Frag} {f : Addr} {fd : FuncData} (F : L2.Fun K "check_index" "check_index" s_check_index f fd) : L2.Binds K fd ["given"] [] := F.binds (ps := ["given"]) fun _ _ _ _ _ _ us hl => match us, hl with | [_], _ => rfl
abbrev s_is_of_run : Stmt := topS 22
theorem sc_is_of_run : FnScope ["given"] ["given"] (defScope s_is_of_run) := ⟨rfl, rfl, rfl, by decide +kernel, rfl, by decide +kernel, by decide +kernel⟩
theorem bd_is_of_run {K : PySem.W.Frag} {f : Addr} {fd : FuncData} (F : L2.Fun K "is_of_run" "is_of_run" s_is_of_run f fd) : L2.Binds K fd ["given"] [] := F.binds (ps := ["given"]) fun _ _ _ _ _ _ us hl => match us, hl with | [_], _ => rfl
abbrev s_is_run : Stmt := topS 23
theorem sc_is_run : FnScope ["given", "one"] ["given"] (defScope s_is_run) := ⟨rfl, rfl, rfl, by decide +kernel, rfl, by decide +kernel, by decide +kernel⟩
theorem bd_is_run {K : PySem.W.Frag} {f : Addr} {fd : FuncData} (F : L2.Fun K "is_run" "is_run" s_is_run f fd) : L2.Binds K fd ["given"] [] := F.binds (ps := ["given"]) fun _ _ _ _ _ _ us hl => match us, hl with | [_], _ => rfl
abbrev s_check_run : Stmt := topS 24
theorem sc_check_run : FnScope ["given"] ["given"] (defScope s_check_run) := ⟨rfl, rfl, rfl, by decide +kernel, rfl, by decide +kernel, by decide +kernel⟩
theorem bd_check_run {K : PySem.W.Frag} {f : Addr} {fd : FuncData} (F : L2.Fun K "check_run" "check_run" s_check_run f fd) : L2.Binds K fd ["given"] [] := F.binds (ps := ["given"]) fun _ _ _ _ _ _ us hl => match us, hl with | [_], _ => rfl
abbrev s_apart : Stmt := topS 26
theorem sc_apart : FnScope ["base", "pairs", "left", "divisor", "often", "_"] ["base"] (defScope s_apart) := ⟨rfl, rfl, rfl, by decide +kernel, rfl, by decide +kernel, by decide +kernel⟩
theorem bd_apart {K : PySem.W.Frag} {f : Addr} {fd : FuncData} (F : L2.Fun K "apart" "apart" s_apart f fd) : L2.Binds K fd ["base"] [] := F.binds (ps := ["base"]) fun _ _ _ _ _ _ us hl => match us, hl with | [_], _ => rfl
abbrev s_step_of : Stmt := topS 29
theorem sc_step_of : FnScope ["run"] ["run"] (defScope s_step_of) := ⟨rfl, rfl, rfl, by decide +kernel, rfl, by decide +kernel, by decide +kernel⟩
theorem bd_step_of {K : PySem.W.Frag} {f : Addr} {fd : FuncData} (F : L2.Fun K "step_of" "step_of" s_step_of f fd) : L2.Binds K fd ["run"] [] := F.binds (ps := ["run"]) fun _ _ _ _ _ _ us hl => match us, hl with | [_], _ => rfl
abbrev s_both_steps : Stmt := topS 30
theorem sc_both_steps : FnScope ["one", "other", "base", "p", "q", "r", "s", "t", "u", "v", "w"] ["one", "other", "base"] (defScope s_both_steps) := ⟨rfl, rfl, rfl, by decide +kernel, rfl, by decide +kernel, by decide +kernel⟩
theorem bd_both_steps {K : PySem.W.Frag} {f : Addr} {fd : FuncData} (F : L2.Fun K "both_steps" "both_steps" s_both_steps f fd) : L2.Binds K fd ["one", "other", "base"] [] := F.binds (ps := ["one", "other", "base"]) fun _ _ _ _ _ _ us hl => match us, hl with | [_, _, _], _ => rfl
abbrev s_many_steps : Stmt := topS 31
theorem sc_many_steps : FnScope ["step", "times", "base", "total", "left"] ["step", "times", "base"] (defScope s_many_steps) := ⟨rfl, rfl, rfl, by decide +kernel, rfl, by decide +kernel, by decide +kernel⟩
theorem bd_many_steps {K : PySem.W.Frag} {f : Addr} {fd : FuncData} (F : L2.Fun K "many_steps" "many_steps" s_many_steps f fd) : L2.Binds K fd ["step", "times", "base"] [] := F.binds (ps := ["step", "times", "base"]) fun _ _ _ _ _ _ us hl => match us, hl with | [_, _, _], _ => rfl
abbrev s_stepped : Stmt := topS 32
theorem sc_stepped : FnScope ["step", "pair", "base", "p", "q", "r", "s", "x", "y"] ["step", "pair", "base"] (defScope s_stepped) := ⟨rfl, rfl, rfl, by decide +kernel, rfl, by decide +kernel, by decide +kernel⟩
theorem bd_stepped {K : PySem.W.Frag} {f : Addr} {fd : FuncData} (F : L2.Fun K "stepped" "stepped" s_stepped f fd) : L2.Binds K fd ["step", "pair", "base"] [] := F.binds (ps := ["step", "pair", "base"]) fun _ _ _ _ _ _ us hl => match us, hl with | [_, _, _], _ => rfl
abbrev s_pair_at : Stmt := topS 33
theorem sc_pair_at : FnScope ["run", "index", "base"] ["run", "index", "base"] (defScope s_pair_at) := ⟨rfl, rfl, rfl, by decide +kernel, rfl, by decide +kernel, by decide +kernel⟩
theorem bd_pair_at {K : PySem.W.Frag} {f : Addr} {fd : FuncData} (F : L2.Fun K "pair_at" "pair_at" s_pair_at f fd) : L2.Binds K fd ["run", "index", "base"] [] := F.binds (ps := ["run", "index", "base"]) fun _ _ _ _ _ _ us hl => match us, hl with | [_, _, _], _ => rfl
abbrev s_next_round : Stmt := topS 34
theorem sc_next_round : FnScope ["step", "pair", "prime", "often", "known", "base", "begin", "further", "times", "factor"] ["step", "pair", "prime", "often", "known"] (defScope s_next_round) := ⟨rfl, rfl, rfl, by decide +kernel, rfl, by decide +kernel, by decide +kernel⟩
theorem bd_next_round {K : PySem.W.Frag} {f : Addr} {fd : FuncData} (F : L2.Fun K "next_round" "next_round" s_next_round f fd) : L2.Binds K fd ["step", "pair", "prime", "often", "known"] [] := F.binds (ps := ["step", "pair", "prime", "often", "known"]) fun _ _ _ _ _ _ us hl => match us, hl with | [_, _, _, _, _], _ => rfl
abbrev s_primes_around : Stmt := topS 35
theorem sc_primes_around : FnScope ["prime", "near", "factor", "_"] ["prime"] (defScope s_primes_around) := ⟨rfl, rfl, rfl, by decide +kernel, rfl, by decide +kernel, by decide +kernel⟩
theorem bd_primes_around {K : PySem.W.Frag} {f : Addr} {fd : FuncData} (F : L2.Fun K "primes_around" "primes_around" s_primes_around f fd) : L2.Binds K fd ["prime"] [] := F.binds (ps := ["prime"]) fun _ _ _ _ _ _ us hl => match us, hl with | [_], _ => rfl
abbrev s_rest_at : Stmt := topS 39
theorem sc_rest_at : FnScope ["run", "index", "base"] ["run", "index", "base"] (defScope s_rest_at) := ⟨rfl, rfl, rfl, by decide +kernel, rfl, by decide +kernel, by decide +kernel⟩
theorem bd_rest_at {K : PySem.W.Frag} {f : Addr} {fd : FuncData} (F : L2.Fun K "rest_at" "rest_at" s_rest_at f fd) : L2.Binds K fd ["run", "index", "base"] [] := F.binds (ps := ["run", "index", "base"]) fun _ _ _ _ _ _ us hl => match us, hl with | [_, _, _], _ => rfl
abbrev s_tail_and_round_of : Stmt := topS 40
theorem sc_tail_and_round_of : FnScope ["run", "base"] ["run", "base"] (defScope s_tail_and_round_of) := ⟨rfl, rfl, rfl, by decide +kernel, rfl, by decide +kernel, by decide +kernel⟩
theorem bd_tail_and_round_of {K : PySem.W.Frag} {f : Addr} {fd : FuncData} (F : L2.Fun K "tail_and_round_of" "tail_and_round_of" s_tail_and_round_of f fd) : L2.Binds K fd ["run", "base"] [] := F.binds (ps := ["run", "base"]) fun _ _ _ _ _ _ us hl => match us, hl with | [_, _], _ => rfl
abbrev s_entry : Stmt := topS 41
theorem sc_entry : FnScope ["first", "second", "base", "least", "prime", "often"] ["first", "second", "base"] (defScope s_entry) := ⟨rfl, rfl, rfl, by decide +kernel, rfl, by decide +kernel, by decide +kernel⟩
theorem bd_entry {K : PySem.W.Frag} {f : Addr} {fd : FuncData} (F : L2.Fun K "entry" "entry" s_entry f fd) : L2.Binds K fd ["first", "second", "base"] [] := F.binds (ps := ["first", "second", "base"]) fun _ _ _ _ _ _ us hl => match us, hl with | [_, _, _], _ => rfl
abbrev s_common_value : Stmt := topS 42
theorem sc_common_value : FnScope ["first", "second", "index", "other", "values"] ["first", "second", "index", "other"] (defScope s_common_value) := ⟨rfl, rfl, rfl, by decide +kernel, rfl, by decide +kernel, by decide +kernel⟩
theorem bd_common_value {K : PySem.W.Frag} {f : Addr} {fd : FuncData} (F : L2.Fun K "common_value" "common_value" s_common_value f fd) : L2.Binds K fd ["first", "second", "index", "other"] [] := F.binds (ps := ["first", "second", "index", "other"]) fun _ _ _ _ _ _ us hl => match us, hl with | [_, _, _, _], _ => rfl
abbrev s__check_of_run : Stmt := topS 43
theorem sc__check_of_run : FnScope ["given"] ["given"] (defScope s__check_of_run) := ⟨rfl, rfl, rfl, by decide +kernel, rfl, by decide +kernel, by decide +kernel⟩
theorem bd__check_of_run {K : PySem.W.Frag} {f : Addr} {fd : FuncData} (F : L2.Fun K "_check_of_run" "_check_of_run" s__check_of_run f fd) : L2.Binds K fd ["given"] [] := F.binds (ps := ["given"]) fun _ _ _ _ _ _ us hl => match us, hl with | [_], _ => rfl
abbrev s__check_shown : Stmt := topS 44
theorem sc__check_shown : FnScope ["index"] ["index"] (defScope s__check_shown) := ⟨rfl, rfl, rfl, by decide +kernel, rfl, by decide +kernel, by decide +kernel⟩
theorem bd__check_shown {K : PySem.W.Frag} {f : Addr} {fd : FuncData} (F : L2.Fun K "_check_shown" "_check_shown" s__check_shown f fd) : L2.Binds K fd ["index"] [] := F.binds (ps := ["index"]) fun _ _ _ _ _ _ us hl => match us, hl with | [_], _ => rfl
abbrev s__check_far : Stmt := topS 45
theorem sc__check_far : FnScope ["run", "index", "base"] ["run", "index", "base"] (defScope s__check_far) := ⟨rfl, rfl, rfl, by decide +kernel, rfl, by decide +kernel, by decide +kernel⟩
theorem bd__check_far {K : PySem.W.Frag} {f : Addr} {fd : FuncData} (F : L2.Fun K "_check_far" "_check_far" s__check_far f fd) : L2.Binds K fd ["run", "index", "base"] [] := F.binds (ps := ["run", "index", "base"]) fun _ _ _ _ _ _ us hl => match us, hl with | [_, _, _], _ => rfl
abbrev s__apart_in_walked : Stmt := topS 46
theorem sc__apart_in_walked : FnScope ["base", "pairs"] ["base"] (defScope s__apart_in_walked) := ⟨rfl, rfl, rfl, by decide +kernel, rfl, by decide +kernel, by decide +kernel⟩
theorem bd__apart_in_walked {K : PySem.W.Frag} {f : Addr} {fd : FuncData} (F : L2.Fun K "_apart_in_walked" "_apart_in_walked" s__apart_in_walked f fd) : L2.Binds K fd ["base"] [] := F.binds (ps := ["base"]) fun _ _ _ _ _ _ us hl => match us, hl with | [_], _ => rfl
abbrev s__first_values : Stmt := topS 47
theorem sc__first_values : FnScope ["run", "many", "a", "b", "x", "y", "values"] ["run", "many"] (defScope s__first_values) := ⟨rfl, rfl, rfl, by decide +kernel, rfl, by decide +kernel, by decide +kernel⟩
theorem bd__first_values {K : PySem.W.Frag} {f : Addr} {fd : FuncData} (F : L2.Fun K "_first_values" "_first_values" s__first_values f fd) : L2.Binds K fd ["run", "many"] [] := F.binds (ps := ["run", "many"]) fun _ _ _ _ _ _ us hl => match us, hl with | [_, _], _ => rfl
abbrev s__tail_and_round : Stmt := topS 48
theorem sc__tail_and_round : FnScope ["run", "pairs", "tail", "many", "prime", "often", "its_tail", "its_round"] ["run", "pairs"] (defScope s__tail_and_round) := ⟨rfl, rfl, rfl, by decide +kernel, rfl, by decide +kernel, by decide +kernel⟩
theorem bd__tail_and_round {K : PySem.W.Frag} {f : Addr} {fd : FuncData} (F : L2.Fun K "_tail_and_round" "_tail_and_round" s__tail_and_round f fd) : L2.Binds K fd ["run", "pairs"] [] := F.binds (ps := ["run", "pairs"]) fun _ _ _ _ _ _ us hl => match us, hl with | [_, _], _ => rfl
abbrev s__tail_and_round_by_power : Stmt := topS 49
theorem sc__tail_and_round_by_power : FnScope ["run", "prime", "often", "base", "step", "late", "many", "power", "once_round", "tail", "pair"] ["run", "prime", "often"] (defScope s__tail_and_round_by_power) := ⟨rfl, rfl, rfl, by decide +kernel, rfl, by decide +kernel, by decide +kernel⟩
theorem bd__tail_and_round_by_power {K : PySem.W.Frag} {f : Addr} {fd : FuncData} (F : L2.Fun K "_tail_and_round_by_power" "_tail_and_round_by_power" s__tail_and_round_by_power f fd) : L2.Binds K fd ["run", "prime", "often"] [] := F.binds (ps := ["run", "prime", "often"]) fun _ _ _ _ _ _ us hl => match us, hl with | [_, _, _], _ => rfl
abbrev s__entry_by_power : Stmt := topS 50
theorem sc__entry_by_power : FnScope ["run", "prime", "often", "base", "least", "factor"] ["run", "prime", "often"] (defScope s__entry_by_power) := ⟨rfl, rfl, rfl, by decide +kernel, rfl, by decide +kernel, by decide +kernel⟩
theorem bd__entry_by_power {K : PySem.W.Frag} {f : Addr} {fd : FuncData} (F : L2.Fun K "_entry_by_power" "_entry_by_power" s__entry_by_power f fd) : L2.Binds K fd ["run", "prime", "often"] [] := F.binds (ps := ["run", "prime", "often"]) fun _ _ _ _ _ _ us hl => match us, hl with | [_, _, _], _ => rfl
abbrev s__law_basin : Stmt := topS 52
theorem sc__law_basin : FnScope ["_law_script", "_law_k", "_law_own", "_law_moved", "_law_entry_now"] ["_law_script", "_law_k"] (defScope s__law_basin) := ⟨rfl, rfl, rfl, by decide +kernel, rfl, by decide +kernel, by decide +kernel⟩
theorem bd__law_basin {K : PySem.W.Frag} {f : Addr} {fd : FuncData} (F : L2.Fun K "_law_basin" "_law_basin" s__law_basin f fd) : L2.Binds K fd ["_law_script", "_law_k"] [] := F.binds (ps := ["_law_script", "_law_k"]) fun _ _ _ _ _ _ us hl => match us, hl with | [_, _], _ => rfl
abbrev s__law_sip : Stmt := topS 53
theorem sc__law_sip : FnScope ["_law_basin_here", "_law_size", "_law_digit", "_law_deep"] ["_law_basin_here", "_law_size"] (defScope s__law_sip) := ⟨rfl, rfl, rfl, by decide +kernel, rfl, by decide +kernel, by decide +kernel⟩
theorem bd__law_sip {K : PySem.W.Frag} {f : Addr} {fd : FuncData} (F : L2.Fun K "_law_sip" "_law_sip" s__law_sip f fd) : L2.Binds K fd ["_law_basin_here", "_law_size"] [] := F.binds (ps := ["_law_basin_here", "_law_size"]) fun _ _ _ _ _ _ us hl => match us, hl with | [_, _], _ => rfl
abbrev s__law_any : Stmt := topS 54
theorem sc__law_any : FnScope ["_law_basin_here", "_law_some"] ["_law_basin_here", "_law_some"] (defScope s__law_any) := ⟨rfl, rfl, rfl, by decide +kernel, rfl, by decide +kernel, by decide +kernel⟩
theorem bd__law_any {K : PySem.W.Frag} {f : Addr} {fd : FuncData} (F : L2.Fun K "_law_any" "_law_any" s__law_any f fd) : L2.Binds K fd ["_law_basin_here", "_law_some"] [] := F.binds (ps := ["_law_basin_here", "_law_some"]) fun _ _ _ _ _ _ us hl => match us, hl with | [_, _], _ => rfl
abbrev s__law_values : Stmt := topS 55
theorem sc__law_values : FnScope ["_law_run_now", "_law_many", "_law_found", "_law_turn"] ["_law_run_now", "_law_many"] (defScope s__law_values) := ⟨rfl, rfl, rfl, by decide +kernel, rfl, by decide +kernel, by decide +kernel⟩
theorem bd__law_values {K : PySem.W.Frag} {f : Addr} {fd : FuncData} (F : L2.Fun K "_law_values" "_law_values" s__law_values f fd) : L2.Binds K fd ["_law_run_now", "_law_many"] [] := F.binds (ps := ["_law_run_now", "_law_many"]) fun _ _ _ _ _ _ us hl => match us, hl with | [_, _], _ => rfl
abbrev s__law_walked : Stmt := topS 56
theorem sc__law_walked : FnScope ["_law_run_now", "_law_base_now", "_law_near", "_law_far", "_law_met", "_law_found", "_law_turn", "_law_begin"] ["_law_run_now", "_law_base_now"] (defScope s__law_walked) := ⟨rfl, rfl, rfl, by decide +kernel, rfl, by decide +kernel, by decide +kernel⟩
theorem bd__law_walked {K : PySem.W.Frag} {f : Addr} {fd : FuncData} (F : L2.Fun K "_law_walked" "_law_walked" s__law_walked f fd) : L2.Binds K fd ["_law_run_now", "_law_base_now"] [] := F.binds (ps := ["_law_run_now", "_law_base_now"]) fun _ _ _ _ _ _ us hl => match us, hl with | [_, _], _ => rfl
abbrev s__law_shared : Stmt := topS 57
theorem sc__law_shared : FnScope ["_law_one", "_law_two"] ["_law_one", "_law_two"] (defScope s__law_shared) := ⟨rfl, rfl, rfl, by decide +kernel, rfl, by decide +kernel, by decide +kernel⟩
theorem bd__law_shared {K : PySem.W.Frag} {f : Addr} {fd : FuncData} (F : L2.Fun K "_law_shared" "_law_shared" s__law_shared f fd) : L2.Binds K fd ["_law_one", "_law_two"] [] := F.binds (ps := ["_law_one", "_law_two"]) fun _ _ _ _ _ _ us hl => match us, hl with | [_, _], _ => rfl
abbrev s__law_pair : Stmt := topS 58
theorem sc__law_pair : FnScope ["_law_basin_here", "_law_part"] ["_law_basin_here"] (defScope s__law_pair) := ⟨rfl, rfl, rfl, by decide +kernel, rfl, by decide +kernel, by decide +kernel⟩
theorem bd__law_pair {K : PySem.W.Frag} {f : Addr} {fd : FuncData} (F : L2.Fun K "_law_pair" "_law_pair" s__law_pair f fd) : L2.Binds K fd ["_law_basin_here"] [] := F.binds (ps := ["_law_basin_here"]) fun _ _ _ _ _ _ us hl => match us, hl with | [_], _ => rfl
abbrev s__law_base : Stmt := topS 59
theorem sc__law_base : FnScope ["_law_basin_here", "_law_q", "_law_some", "_law_k"] ["_law_basin_here", "_law_q"] (defScope s__law_base) := ⟨rfl, rfl, rfl, by decide +kernel, rfl, by decide +kernel, by decide +kernel⟩
theorem bd__law_base {K : PySem.W.Frag} {f : Addr} {fd : FuncData} (F : L2.Fun K "_law_base" "_law_base" s__law_base f fd) : L2.Binds K fd ["_law_basin_here", "_law_q"] [] := F.binds (ps := ["_law_basin_here", "_law_q"]) fun _ _ _ _ _ _ us hl => match us, hl with | [_, _], _ => rfl
abbrev s__law_entry_right : Stmt := topS 60
theorem sc__law_entry_right : FnScope ["_law_basin_here", "_law_p", "_law_q", "_law_one", "_law_two", "_law_run_now", "_law_tail_now", "_law_round_now", "_law_rests", "_law_due", "_law_told", "_law_wrong", "_law_far", "_law_whole", "_law_mate", "_law_k"] ["_law_basin_here", "_law_p", "_law_q"] (defScope s__law_entry_right) := ⟨rfl, rfl, rfl, by decide +kernel, rfl, by decide +kernel, by decide +kernel⟩
theorem bd__law_entry_right {K : PySem.W.Frag} {f : Addr} {fd : FuncData} (F : L2.Fun K "_law_entry_right" "_law_entry_right" s__law_entry_right f fd) : L2.Binds K fd ["_law_basin_here", "_law_p", "_law_q"] [] := F.binds (ps := ["_law_basin_here", "_law_p", "_law_q"]) fun _ _ _ _ _ _ us hl => match us, hl with | [_, _, _], _ => rfl
abbrev s__law_common_right : Stmt := topS 61
theorem sc__law_common_right : FnScope ["_law_basin_here", "_law_p", "_law_q", "_law_values_now", "_law_turn", "_law_j", "_law_k", "_law_due", "_law_told", "_law_by"] ["_law_basin_here", "_law_p", "_law_q"] (defScope s__law_common_right) := ⟨rfl, rfl, rfl, by decide +kernel, rfl, by decide +kernel, by decide +kernel⟩
theorem bd__law_common_right {K : PySem.W.Frag} {f : Addr} {fd : FuncData} (F : L2.Fun K "_law_common_right" "_law_common_right" s__law_common_right f fd) : L2.Binds K fd ["_law_basin_here", "_law_p", "_law_q"] [] := F.binds (ps := ["_law_basin_here", "_law_p", "_law_q"]) fun _ _ _ _ _ _ us hl => match us, hl with | [_, _, _], _ => rfl
abbrev s__law_right : Stmt := topS 62
theorem sc__law_right : FnScope ["_law_basin_here", "_law_turn", "_law_p", "_law_q"] ["_law_basin_here"] (defScope s__law_right) := ⟨rfl, rfl, rfl, by decide +kernel, rfl, by decide +kernel, by decide +kernel⟩
theorem bd__law_right {K : PySem.W.Frag} {f : Addr} {fd : FuncData} (F : L2.Fun K "_law_right" "_law_right" s__law_right f fd) : L2.Binds K fd ["_law_basin_here"] [] := F.binds (ps := ["_law_basin_here"]) fun _ _ _ _ _ _ us hl => match us, hl with | [_], _ => rfl
abbrev s_law : Stmt := topS 63
theorem sc_law : FnScope ["_law_script", "_law_k"] ["_law_script"] (defScope s_law) := ⟨rfl, rfl, rfl, by decide +kernel, rfl, by decide +kernel, by decide +kernel⟩
theorem bd_law {K : PySem.W.Frag} {f : Addr} {fd : FuncData} (F : L2.Fun K "law" "law" s_law f fd) : L2.Binds K fd ["_law_script"] [] := F.binds (ps := ["_law_script"]) fun _ _ _ _ _ _ us hl => match us, hl with | [_], _ => rfl
def g_kb_entry_0 {α : Type} (us ws : List α) : List α := match us, ws with | [], [w0, w1, w2] => [w2, w1, w0] | _, _ => []
theorem kb_entry_0 {K : PySem.W.Frag} {f : Addr} {fd : FuncData} (F : L2.Fun K "entry" "entry" s_entry f fd) : KBinds K fd ["first", "second", "base"] [("base" : Str), ("second" : Str), ("first" : Str)] g_kb_entry_0 g_kb_entry_0 := by
  obtain ⟨⟨oc, od, kV, doc, pm, an, cdv, ct, osl, rfl, lk, hcd⟩, _⟩ := F
  refine ⟨fun s us ws _ hl => ?_, fun {vs us zs ws} hv hz => ?_⟩
  · match us, ws, hl with
    | [], [w0, w1, w2], _ => exact .of_eq rfl
  ·
    cases hv with
    | nil =>
      cases hz with
      | nil => exact Paired.nil
      | cons q0 t_q0 =>
        cases t_q0 with
        | nil => exact Paired.nil
        | cons q1 t_q1 =>
          cases t_q1 with
          | nil => exact Paired.nil
          | cons q2 t_q2 =>
            cases t_q2 with
            | nil =>
              exact (.cons q2 (.cons q1 (.cons q0 .nil)))
            | cons _ _ => exact Paired.nil
    | cons _ _ => exact Paired.nil

def g_kb_common_value_1 {α : Type} (us ws : List α) : List α := match us, ws with | [], [w0, w1, w2, w3] => [w3, w2, w1, w0] | _, _ => []
theorem kb_common_value_1 {K : PySem.W.Frag} {f : Addr} {fd : FuncData} (F : L2.Fun K "common_value" "common_value" s_common_value f fd) : KBinds K fd ["first", "second", "index", "other"] [("other" : Str), ("index" : Str), ("second" : Str), ("first" : Str)] g_kb_common_value_1 g_kb_common_value_1 := by
  obtain ⟨⟨oc, od, kV, doc, pm, an, cdv, ct, osl, rfl, lk, hcd⟩, _⟩ := F
  refine ⟨fun s us ws _ hl => ?_, fun {vs us zs ws} hv hz => ?_⟩
  · match us, ws, hl with
    | [], [w0, w1, w2, w3], _ => exact .of_eq rfl
  ·
    cases hv with
    | nil =>
      cases hz with
      | nil => exact Paired.nil
      | cons q0 t_q0 =>
        cases t_q0 with
        | nil => exact Paired.nil
        | cons q1 t_q1 =>
          cases t_q1 with
          | nil => exact Paired.nil
          | cons q2 t_q2 =>
            cases t_q2 with
            | nil => exact Paired.nil
            | cons q3 t_q3 =>
              cases t_q3 with
              | nil =>
                exact (.cons q3 (.cons q2 (.cons q1 (.cons q0 .nil))))
              | cons _ _ => exact Paired.nil
    | cons _ _ => exact Paired.nil

/-! ### the top -/
structure Top (K : PySem.W.Frag) (mg : Str → Option Value) : Prop where
  d_times_in : At K mg "times_in" s_times_in
  d_raised : At K mg "raised" s_raised
  d_is_integer : At K mg "is_integer" s_is_integer
  d_is_within : At K mg "is_within" s_is_within
  d_check_within : At K mg "check_within" s_check_within
  d_check_base : At K mg "check_base" s_check_base
  d_check_index : At K mg "check_index" s_check_index
  d_is_of_run : At K mg "is_of_run" s_is_of_run
  d_is_run : At K mg "is_run" s_is_run
  d_check_run : At K mg "check_run" s_check_run
  d_apart : At K mg "apart" s_apart
  d_step_of : At K mg "step_of" s_step_of
  d_both_steps : At K mg "both_steps" s_both_steps
  d_many_steps : At K mg "many_steps" s_many_steps
  d_stepped : At K mg "stepped" s_stepped
  d_pair_at : At K mg "pair_at" s_pair_at
  d_next_round : At K mg "next_round" s_next_round
  d_primes_around : At K mg "primes_around" s_primes_around
  d_rest_at : At K mg "rest_at" s_rest_at
  d_tail_and_round_of : At K mg "tail_and_round_of" s_tail_and_round_of
  d_entry : At K mg "entry" s_entry
  d_common_value : At K mg "common_value" s_common_value
  d__check_of_run : At K mg "_check_of_run" s__check_of_run
  d__check_shown : At K mg "_check_shown" s__check_shown
  d__check_far : At K mg "_check_far" s__check_far
  d__apart_in_walked : At K mg "_apart_in_walked" s__apart_in_walked
  d__first_values : At K mg "_first_values" s__first_values
  d__tail_and_round : At K mg "_tail_and_round" s__tail_and_round
  d__tail_and_round_by_power : At K mg "_tail_and_round_by_power" s__tail_and_round_by_power
  d__entry_by_power : At K mg "_entry_by_power" s__entry_by_power
  d__law_basin : At K mg "_law_basin" s__law_basin
  d__law_sip : At K mg "_law_sip" s__law_sip
  d__law_any : At K mg "_law_any" s__law_any
  d__law_values : At K mg "_law_values" s__law_values
  d__law_walked : At K mg "_law_walked" s__law_walked
  d__law_shared : At K mg "_law_shared" s__law_shared
  d__law_pair : At K mg "_law_pair" s__law_pair
  d__law_base : At K mg "_law_base" s__law_base
  d__law_entry_right : At K mg "_law_entry_right" s__law_entry_right
  d__law_common_right : At K mg "_law_common_right" s__law_common_right
  d__law_right : At K mg "_law_right" s__law_right
  d_law : At K mg "law" s_law
  m_gcd : mg "gcd" = some (.builtin "math.gcd")
  m_lcm : mg "lcm" = some (.builtin "math.lcm")
  c_MOST_NUMBER : ∃ t, mg "MOST_NUMBER" = some (.int (10000000000000000000000000000000000000000) t)
  c_MOST_FACT : ∃ t, mg "MOST_FACT" = some (.int (1000000000000000000000000000000) t)
  c_MOST_BASE : ∃ t, mg "MOST_BASE" = some (.int (1000000000000) t)
  c_MOST_OF_RUN : ∃ t, mg "MOST_OF_RUN" = some (.int (1000000000) t)
  g_STAY : mg "STAY" = some (.ref (cA mg "STAY"))
  v_STAY : ∀ H, SqT K H (cA mg "STAY") [.int 1, .int 0, .int 0, .int 1]
  c_MOST_SHOWN_INDEX : ∃ t, mg "MOST_SHOWN_INDEX" = some (.int (500) t)
  c_MOST_RUN_PRIME : ∃ t, mg "MOST_RUN_PRIME" = some (.int (1000000) t)
  b_abs : mg "abs" = none
  b_all : mg "all" = none
  b_bool : mg "bool" = none
  b_divmod : mg "divmod" = none
  b_int : mg "int" = none
  b_isinstance : mg "isinstance" = none
  b_len : mg "len" = none
  b_max : mg "max" = none
  b_min : mg "min" = none
  b_range : mg "range" = none
  b_tuple : mg "tuple" = none
/-! ### the exceptions -/
/-! ### the end -/
theorem top_mk {K : PySem.W.Frag} {h : Heap} {mg : Str → Option Value} (X : K.In h) (G : h.Ns mainGlobals mg)
    {f0 : Addr} {od0 an0 : Option Addr} {sl0 : Array (Option Value)} {oc0 kV0 dc0 pm0 cd0 ct0 : Value}
    {f1 : Addr} {od1 an1 : Option Addr} {sl1 : Array (Option Value)} {oc1 kV1 dc1 pm1 cd1 ct1 : Value}
    {f2 : Addr} {od2 an2 : Option Addr} {sl2 : Array (Option Value)} {oc2 kV2 dc2 pm2 cd2 ct2 : Value}
    {f3 : Addr} {od3 an3 : Option Addr} {sl3 : Array (Option Value)} {oc3 kV3 dc3 pm3 cd3 ct3 : Value}
    {f4 : Addr} {od4 an4 : Option Addr} {sl4 : Array (Option Value)} {oc4 kV4 dc4 pm4 cd4 ct4 : Value}
    {f5 : Addr} {od5 an5 : Option Addr} {sl5 : Array (Option Value)} {oc5 kV5 dc5 pm5 cd5 ct5 : Value}
    {f6 : Addr} {od6 an6 : Option Addr} {sl6 : Array (Option Value)} {oc6 kV6 dc6 pm6 cd6 ct6 : Value}
    {f7 : Addr} {od7 an7 : Option Addr} {sl7 : Array (Option Value)} {oc7 kV7 dc7 pm7 cd7 ct7 : Value}
    {f8 : Addr} {od8 an8 : Option Addr} {sl8 : Array (Option Value)} {oc8 kV8 dc8 pm8 cd8 ct8 : Value}
    {f9 : Addr} {od9 an9 : Option Addr} {sl9 : Array (Option Value)} {oc9 kV9 dc9 pm9 cd9 ct9 : Value}
    {f10 : Addr} {od10 an10 : Option Addr} {sl10 : Array (Option Value)} {oc10 kV10 dc10 pm10 cd10 ct10 : Value}
    {f11 : Addr} {od11 an11 : Option Addr} {sl11 : Array (Option Value)} {oc11 kV11 dc11 pm11 cd11 ct11 : Value}
    {f12 : Addr} {od12 an12 : Option Addr} {sl12 : Array (Option Value)} {oc12 kV12 dc12 pm12 cd12 ct12 : Value}
    {f13 : Addr} {od13 an13 : Option Addr} {sl13 : Array (Option Value)} {oc13 kV13 dc13 pm13 cd13 ct13 : Value}
    {f14 : Addr} {od14 an14 : Option Addr} {sl14 : Array (Option Value)} {oc14 kV14 dc14 pm14 cd14 ct14 : Value}
    {f15 : Addr} {od15 an15 : Option Addr} {sl15 : Array (Option Value)} {oc15 kV15 dc15 pm15 cd15 ct15 : Value}
    {f16 : Addr} {od16 an16 : Option Addr} {sl16 : Array (Option Value)} {oc16 kV16 dc16 pm16 cd16 ct16 : Value}
    {f17 : Addr} {od17 an17 : Option Addr} {sl17 : Array (Option Value)} {oc17 kV17 dc17 pm17 cd17 ct17 : Value}
    {f18 : Addr} {od18 an18 : Option Addr} {sl18 : Array (Option Value)} {oc18 kV18 dc18 pm18 cd18 ct18 : Value}
    {f19 : Addr} {od19 an19 : Option Addr} {sl19 : Array (Option Value)} {oc19 kV19 dc19 pm19 cd19 ct19 : Value}
    {f20 : Addr} {od20 an20 : Option Addr} {sl20 : Array (Option Value)} {oc20 kV20 dc20 pm20 cd20 ct20 : Value}
    {f21 : Addr} {od21 an21 : Option Addr} {sl21 : Array (Option Value)} {oc21 kV21 dc21 pm21 cd21 ct21 : Value}
    {f22 : Addr} {od22 an22 : Option Addr} {sl22 : Array (Option Value)} {oc22 kV22 dc22 pm22 cd22 ct22 : Value}
    {f23 : Addr} {od23 an23 : Option Addr} {sl23 : Array (Option Value)} {oc23 kV23 dc23 pm23 cd23 ct23 : Value}
    {f24 : Addr} {od24 an24 : Option Addr} {sl24 : Array (Option Value)} {oc24 kV24 dc24 pm24 cd24 ct24 : Value}
    {f25 : Addr} {od25 an25 : Option Addr} {sl25 : Array (Option Value)} {oc25 kV25 dc25 pm25 cd25 ct25 : Value}
    {f26 : Addr} {od26 an26 : Option Addr} {sl26 : Array (Option Value)} {oc26 kV26 dc26 pm26 cd26 ct26 : Value}
    {f27 : Addr} {od27 an27 : Option Addr} {sl27 : Array (Option Value)} {oc27 kV27 dc27 pm27 cd27 ct27 : Value}
    {f28 : Addr} {od28 an28 : Option Addr} {sl28 : Array (Option Value)} {oc28 kV28 dc28 pm28 cd28 ct28 : Value}
    {f29 : Addr} {od29 an29 : Option Addr} {sl29 : Array (Option Value)} {oc29 kV29 dc29 pm29 cd29 ct29 : Value}
    {f30 : Addr} {od30 an30 : Option Addr} {sl30 : Array (Option Value)} {oc30 kV30 dc30 pm30 cd30 ct30 : Value}
    {f31 : Addr} {od31 an31 : Option Addr} {sl31 : Array (Option Value)} {oc31 kV31 dc31 pm31 cd31 ct31 : Value}
    {f32 : Addr} {od32 an32 : Option Addr} {sl32 : Array (Option Value)} {oc32 kV32 dc32 pm32 cd32 ct32 : Value}
    {f33 : Addr} {od33 an33 : Option Addr} {sl33 : Array (Option Value)} {oc33 kV33 dc33 pm33 cd33 ct33 : Value}
    {f34 : Addr} {od34 an34 : Option Addr} {sl34 : Array (Option Value)} {oc34 kV34 dc34 pm34 cd34 ct34 : Value}
    {f35 : Addr} {od35 an35 : Option Addr} {sl35 : Array (Option Value)} {oc35 kV35 dc35 pm35 cd35 ct35 : Value}
    {f36 : Addr} {od36 an36 : Option Addr} {sl36 : Array (Option Value)} {oc36 kV36 dc36 pm36 cd36 ct36 : Value}
    {f37 : Addr} {od37 an37 : Option Addr} {sl37 : Array (Option Value)} {oc37 kV37 dc37 pm37 cd37 ct37 : Value}
    {f38 : Addr} {od38 an38 : Option Addr} {sl38 : Array (Option Value)} {oc38 kV38 dc38 pm38 cd38 ct38 : Value}
    {f39 : Addr} {od39 an39 : Option Addr} {sl39 : Array (Option Value)} {oc39 kV39 dc39 pm39 cd39 ct39 : Value}
    {f40 : Addr} {od40 an40 : Option Addr} {sl40 : Array (Option Value)} {oc40 kV40 dc40 pm40 cd40 ct40 : Value}
    {f41 : Addr} {od41 an41 : Option Addr} {sl41 : Array (Option Value)} {oc41 kV41 dc41 pm41 cd41 ct41 : Value}
    {t_MOST_NUMBER : Tok}
    {t_MOST_FACT : Tok}
    {t_MOST_BASE : Tok}
    {t_MOST_OF_RUN : Tok}
    {x_STAY : Addr} {t0_STAY t1_STAY t2_STAY t3_STAY : Tok} {n_STAY : Nat} {dd_STAY : Option Addr} {sl_STAY : Array (Option Value)}
    {t_MOST_SHOWN_INDEX : Tok}
    {t_MOST_RUN_PRIME : Tok}
    (a0 : PySem.W.nsIn K mainGlobals "times_in" = some (some (.ref f0))) (l0 : K.lookup f0 = some ⟨oc0, od0, .func (PySem.W.fnOf "times_in" "times_in" (defArgs s_times_in) (defBody s_times_in) (defScope s_times_in) .none kV0 dc0 pm0 an0 cd0 ct0), sl0⟩) (c0 : PySem.W.codeIn K cd0 "times_in" = true) (k0 : PySem.W.keepIn K (.ref f0) = true)
    (a1 : PySem.W.nsIn K mainGlobals "raised" = some (some (.ref f1))) (l1 : K.lookup f1 = some ⟨oc1, od1, .func (PySem.W.fnOf "raised" "raised" (defArgs s_raised) (defBody s_raised) (defScope s_raised) .none kV1 dc1 pm1 an1 cd1 ct1), sl1⟩) (c1 : PySem.W.codeIn K cd1 "raised" = true) (k1 : PySem.W.keepIn K (.ref f1) = true)
    (a2 : PySem.W.nsIn K mainGlobals "is_integer" = some (some (.ref f2))) (l2 : K.lookup f2 = some ⟨oc2, od2, .func (PySem.W.fnOf "is_integer" "is_integer" (defArgs s_is_integer) (defBody s_is_integer) (defScope s_is_integer) .none kV2 dc2 pm2 an2 cd2 ct2), sl2⟩) (c2 : PySem.W.codeIn K cd2 "is_integer" = true) (k2 : PySem.W.keepIn K (.ref f2) = true)
    (a3 : PySem.W.nsIn K mainGlobals "is_within" = some (some (.ref f3))) (l3 : K.lookup f3 = some ⟨oc3, od3, .func (PySem.W.fnOf "is_within" "is_within" (defArgs s_is_within) (defBody s_is_within) (defScope s_is_within) .none kV3 dc3 pm3 an3 cd3 ct3), sl3⟩) (c3 : PySem.W.codeIn K cd3 "is_within" = true) (k3 : PySem.W.keepIn K (.ref f3) = true)
    (a4 : PySem.W.nsIn K mainGlobals "check_within" = some (some (.ref f4))) (l4 : K.lookup f4 = some ⟨oc4, od4, .func (PySem.W.fnOf "check_within" "check_within" (defArgs s_check_within) (defBody s_check_within) (defScope s_check_within) .none kV4 dc4 pm4 an4 cd4 ct4), sl4⟩) (c4 : PySem.W.codeIn K cd4 "check_within" = true) (k4 : PySem.W.keepIn K (.ref f4) = true)
    (a5 : PySem.W.nsIn K mainGlobals "check_base" = some (some (.ref f5))) (l5 : K.lookup f5 = some ⟨oc5, od5, .func (PySem.W.fnOf "check_base" "check_base" (defArgs s_check_base) (defBody s_check_base) (defScope s_check_base) .none kV5 dc5 pm5 an5 cd5 ct5), sl5⟩) (c5 : PySem.W.codeIn K cd5 "check_base" = true) (k5 : PySem.W.keepIn K (.ref f5) = true)
    (a6 : PySem.W.nsIn K mainGlobals "check_index" = some (some (.ref f6))) (l6 : K.lookup f6 = some ⟨oc6, od6, .func (PySem.W.fnOf "check_index" "check_index" (defArgs s_check_index) (defBody s_check_index) (defScope s_check_index) .none kV6 dc6 pm6 an6 cd6 ct6), sl6⟩) (c6 : PySem.W.codeIn K cd6 "check_index" = true) (k6 : PySem.W.keepIn K (.ref f6) = true)
    (a7 : PySem.W.nsIn K mainGlobals "is_of_run" = some (some (.ref f7))) (l7 : K.lookup f7 = some ⟨oc7, od7, .func (PySem.W.fnOf "is_of_run" "is_of_run" (defArgs s_is_of_run) (defBody s_is_of_run) (defScope s_is_of_run) .none kV7 dc7 pm7 an7 cd7 ct7), sl7⟩) (c7 : PySem.W.codeIn K cd7 "is_of_run" = true) (k7 : PySem.W.keepIn K (.ref f7) = true)
    (a8 : PySem.W.nsIn K mainGlobals "is_run" = some (some (.ref f8))) (l8 : K.lookup f8 = some ⟨oc8, od8, .func (PySem.W.fnOf "is_run" "is_run" (defArgs s_is_run) (defBody s_is_run) (defScope s_is_run) .none kV8 dc8 pm8 an8 cd8 ct8), sl8⟩) (c8 : PySem.W.codeIn K cd8 "is_run" = true) (k8 : PySem.W.keepIn K (.ref f8) = true)
    (a9 : PySem.W.nsIn K mainGlobals "check_run" = some (some (.ref f9))) (l9 : K.lookup f9 = some ⟨oc9, od9, .func (PySem.W.fnOf "check_run" "check_run" (defArgs s_check_run) (defBody s_check_run) (defScope s_check_run) .none kV9 dc9 pm9 an9 cd9 ct9), sl9⟩) (c9 : PySem.W.codeIn K cd9 "check_run" = true) (k9 : PySem.W.keepIn K (.ref f9) = true)
    (a10 : PySem.W.nsIn K mainGlobals "apart" = some (some (.ref f10))) (l10 : K.lookup f10 = some ⟨oc10, od10, .func (PySem.W.fnOf "apart" "apart" (defArgs s_apart) (defBody s_apart) (defScope s_apart) .none kV10 dc10 pm10 an10 cd10 ct10), sl10⟩) (c10 : PySem.W.codeIn K cd10 "apart" = true) (k10 : PySem.W.keepIn K (.ref f10) = true)
    (a11 : PySem.W.nsIn K mainGlobals "step_of" = some (some (.ref f11))) (l11 : K.lookup f11 = some ⟨oc11, od11, .func (PySem.W.fnOf "step_of" "step_of" (defArgs s_step_of) (defBody s_step_of) (defScope s_step_of) .none kV11 dc11 pm11 an11 cd11 ct11), sl11⟩) (c11 : PySem.W.codeIn K cd11 "step_of" = true) (k11 : PySem.W.keepIn K (.ref f11) = true)
    (a12 : PySem.W.nsIn K mainGlobals "both_steps" = some (some (.ref f12))) (l12 : K.lookup f12 = some ⟨oc12, od12, .func (PySem.W.fnOf "both_steps" "both_steps" (defArgs s_both_steps) (defBody s_both_steps) (defScope s_both_steps) .none kV12 dc12 pm12 an12 cd12 ct12), sl12⟩) (c12 : PySem.W.codeIn K cd12 "both_steps" = true) (k12 : PySem.W.keepIn K (.ref f12) = true)
    (a13 : PySem.W.nsIn K mainGlobals "many_steps" = some (some (.ref f13))) (l13 : K.lookup f13 = some ⟨oc13, od13, .func (PySem.W.fnOf "many_steps" "many_steps" (defArgs s_many_steps) (defBody s_many_steps) (defScope s_many_steps) .none kV13 dc13 pm13 an13 cd13 ct13), sl13⟩) (c13 : PySem.W.codeIn K cd13 "many_steps" = true) (k13 : PySem.W.keepIn K (.ref f13) = true)
    (a14 : PySem.W.nsIn K mainGlobals "stepped" = some (some (.ref f14))) (l14 : K.lookup f14 = some ⟨oc14, od14, .func (PySem.W.fnOf "stepped" "stepped" (defArgs s_stepped) (defBody s_stepped) (defScope s_stepped) .none kV14 dc14 pm14 an14 cd14 ct14), sl14⟩) (c14 : PySem.W.codeIn K cd14 "stepped" = true) (k14 : PySem.W.keepIn K (.ref f14) = true)
    (a15 : PySem.W.nsIn K mainGlobals "pair_at" = some (some (.ref f15))) (l15 : K.lookup f15 = some ⟨oc15, od15, .func (PySem.W.fnOf "pair_at" "pair_at" (defArgs s_pair_at) (defBody s_pair_at) (defScope s_pair_at) .none kV15 dc15 pm15 an15 cd15 ct15), sl15⟩) (c15 : PySem.W.codeIn K cd15 "pair_at" = true) (k15 : PySem.W.keepIn K (.ref f15) = true)
    (a16 : PySem.W.nsIn K mainGlobals "next_round" = some (some (.ref f16))) (l16 : K.lookup f16 = some ⟨oc16, od16, .func (PySem.W.fnOf "next_round" "next_round" (defArgs s_next_round) (defBody s_next_round) (defScope s_next_round) .none kV16 dc16 pm16 an16 cd16 ct16), sl16⟩) (c16 : PySem.W.codeIn K cd16 "next_round" = true) (k16 : PySem.W.keepIn K (.ref f16) = true)
    (a17 : PySem.W.nsIn K mainGlobals "primes_around" = some (some (.ref f17))) (l17 : K.lookup f17 = some ⟨oc17, od17, .func (PySem.W.fnOf "primes_around" "primes_around" (defArgs s_primes_around) (defBody s_primes_around) (defScope s_primes_around) .none kV17 dc17 pm17 an17 cd17 ct17), sl17⟩) (c17 : PySem.W.codeIn K cd17 "primes_around" = true) (k17 : PySem.W.keepIn K (.ref f17) = true)
    (a18 : PySem.W.nsIn K mainGlobals "rest_at" = some (some (.ref f18))) (l18 : K.lookup f18 = some ⟨oc18, od18, .func (PySem.W.fnOf "rest_at" "rest_at" (defArgs s_rest_at) (defBody s_rest_at) (defScope s_rest_at) .none kV18 dc18 pm18 an18 cd18 ct18), sl18⟩) (c18 : PySem.W.codeIn K cd18 "rest_at" = true) (k18 : PySem.W.keepIn K (.ref f18) = true)
    (a19 : PySem.W.nsIn K mainGlobals "tail_and_round_of" = some (some (.ref f19))) (l19 : K.lookup f19 = some ⟨oc19, od19, .func (PySem.W.fnOf "tail_and_round_of" "tail_and_round_of" (defArgs s_tail_and_round_of) (defBody s_tail_and_round_of) (defScope s_tail_and_round_of) .none kV19 dc19 pm19 an19 cd19 ct19), sl19⟩) (c19 : PySem.W.codeIn K cd19 "tail_and_round_of" = true) (k19 : PySem.W.keepIn K (.ref f19) = true)
    (a20 : PySem.W.nsIn K mainGlobals "entry" = some (some (.ref f20))) (l20 : K.lookup f20 = some ⟨oc20, od20, .func (PySem.W.fnOf "entry" "entry" (defArgs s_entry) (defBody s_entry) (defScope s_entry) .none kV20 dc20 pm20 an20 cd20 ct20), sl20⟩) (c20 : PySem.W.codeIn K cd20 "entry" = true) (k20 : PySem.W.keepIn K (.ref f20) = true)
    (a21 : PySem.W.nsIn K mainGlobals "common_value" = some (some (.ref f21))) (l21 : K.lookup f21 = some ⟨oc21, od21, .func (PySem.W.fnOf "common_value" "common_value" (defArgs s_common_value) (defBody s_common_value) (defScope s_common_value) .none kV21 dc21 pm21 an21 cd21 ct21), sl21⟩) (c21 : PySem.W.codeIn K cd21 "common_value" = true) (k21 : PySem.W.keepIn K (.ref f21) = true)
    (a22 : PySem.W.nsIn K mainGlobals "_check_of_run" = some (some (.ref f22))) (l22 : K.lookup f22 = some ⟨oc22, od22, .func (PySem.W.fnOf "_check_of_run" "_check_of_run" (defArgs s__check_of_run) (defBody s__check_of_run) (defScope s__check_of_run) .none kV22 dc22 pm22 an22 cd22 ct22), sl22⟩) (c22 : PySem.W.codeIn K cd22 "_check_of_run" = true) (k22 : PySem.W.keepIn K (.ref f22) = true)
    (a23 : PySem.W.nsIn K mainGlobals "_check_shown" = some (some (.ref f23))) (l23 : K.lookup f23 = some ⟨oc23, od23, .func (PySem.W.fnOf "_check_shown" "_check_shown" (defArgs s__check_shown) (defBody s__check_shown) (defScope s__check_shown) .none kV23 dc23 pm23 an23 cd23 ct23), sl23⟩) (c23 : PySem.W.codeIn K cd23 "_check_shown" = true) (k23 : PySem.W.keepIn K (.ref f23) = true)
    (a24 : PySem.W.nsIn K mainGlobals "_check_far" = some (some (.ref f24))) (l24 : K.lookup f24 = some ⟨oc24, od24, .func (PySem.W.fnOf "_check_far" "_check_far" (defArgs s__check_far) (defBody s__check_far) (defScope s__check_far) .none kV24 dc24 pm24 an24 cd24 ct24), sl24⟩) (c24 : PySem.W.codeIn K cd24 "_check_far" = true) (k24 : PySem.W.keepIn K (.ref f24) = true)
    (a25 : PySem.W.nsIn K mainGlobals "_apart_in_walked" = some (some (.ref f25))) (l25 : K.lookup f25 = some ⟨oc25, od25, .func (PySem.W.fnOf "_apart_in_walked" "_apart_in_walked" (defArgs s__apart_in_walked) (defBody s__apart_in_walked) (defScope s__apart_in_walked) .none kV25 dc25 pm25 an25 cd25 ct25), sl25⟩) (c25 : PySem.W.codeIn K cd25 "_apart_in_walked" = true) (k25 : PySem.W.keepIn K (.ref f25) = true)
    (a26 : PySem.W.nsIn K mainGlobals "_first_values" = some (some (.ref f26))) (l26 : K.lookup f26 = some ⟨oc26, od26, .func (PySem.W.fnOf "_first_values" "_first_values" (defArgs s__first_values) (defBody s__first_values) (defScope s__first_values) .none kV26 dc26 pm26 an26 cd26 ct26), sl26⟩) (c26 : PySem.W.codeIn K cd26 "_first_values" = true) (k26 : PySem.W.keepIn K (.ref f26) = true)
    (a27 : PySem.W.nsIn K mainGlobals "_tail_and_round" = some (some (.ref f27))) (l27 : K.lookup f27 = some ⟨oc27, od27, .func (PySem.W.fnOf "_tail_and_round" "_tail_and_round" (defArgs s__tail_and_round) (defBody s__tail_and_round) (defScope s__tail_and_round) .none kV27 dc27 pm27 an27 cd27 ct27), sl27⟩) (c27 : PySem.W.codeIn K cd27 "_tail_and_round" = true) (k27 : PySem.W.keepIn K (.ref f27) = true)
    (a28 : PySem.W.nsIn K mainGlobals "_tail_and_round_by_power" = some (some (.ref f28))) (l28 : K.lookup f28 = some ⟨oc28, od28, .func (PySem.W.fnOf "_tail_and_round_by_power" "_tail_and_round_by_power" (defArgs s__tail_and_round_by_power) (defBody s__tail_and_round_by_power) (defScope s__tail_and_round_by_power) .none kV28 dc28 pm28 an28 cd28 ct28), sl28⟩) (c28 : PySem.W.codeIn K cd28 "_tail_and_round_by_power" = true) (k28 : PySem.W.keepIn K (.ref f28) = true)
    (a29 : PySem.W.nsIn K mainGlobals "_entry_by_power" = some (some (.ref f29))) (l29 : K.lookup f29 = some ⟨oc29, od29, .func (PySem.W.fnOf "_entry_by_power" "_entry_by_power" (defArgs s__entry_by_power) (defBody s__entry_by_power) (defScope s__entry_by_power) .none kV29 dc29 pm29 an29 cd29 ct29), sl29⟩) (c29 : PySem.W.codeIn K cd29 "_entry_by_power" = true) (k29 : PySem.W.keepIn K (.ref f29) = true)
    (a30 : PySem.W.nsIn K mainGlobals "_law_basin" = some (some (.ref f30))) (l30 : K.lookup f30 = some ⟨oc30, od30, .func (PySem.W.fnOf "_law_basin" "_law_basin" (defArgs s__law_basin) (defBody s__law_basin) (defScope s__law_basin) .none kV30 dc30 pm30 an30 cd30 ct30), sl30⟩) (c30 : PySem.W.codeIn K cd30 "_law_basin" = true) (k30 : PySem.W.keepIn K (.ref f30) = true)
    (a31 : PySem.W.nsIn K mainGlobals "_law_sip" = some (some (.ref f31))) (l31 : K.lookup f31 = some ⟨oc31, od31, .func (PySem.W.fnOf "_law_sip" "_law_sip" (defArgs s__law_sip) (defBody s__law_sip) (defScope s__law_sip) .none kV31 dc31 pm31 an31 cd31 ct31), sl31⟩) (c31 : PySem.W.codeIn K cd31 "_law_sip" = true) (k31 : PySem.W.keepIn K (.ref f31) = true)
    (a32 : PySem.W.nsIn K mainGlobals "_law_any" = some (some (.ref f32))) (l32 : K.lookup f32 = some ⟨oc32, od32, .func (PySem.W.fnOf "_law_any" "_law_any" (defArgs s__law_any) (defBody s__law_any) (defScope s__law_any) .none kV32 dc32 pm32 an32 cd32 ct32), sl32⟩) (c32 : PySem.W.codeIn K cd32 "_law_any" = true) (k32 : PySem.W.keepIn K (.ref f32) = true)
    (a33 : PySem.W.nsIn K mainGlobals "_law_values" = some (some (.ref f33))) (l33 : K.lookup f33 = some ⟨oc33, od33, .func (PySem.W.fnOf "_law_values" "_law_values" (defArgs s__law_values) (defBody s__law_values) (defScope s__law_values) .none kV33 dc33 pm33 an33 cd33 ct33), sl33⟩) (c33 : PySem.W.codeIn K cd33 "_law_values" = true) (k33 : PySem.W.keepIn K (.ref f33) = true)
    (a34 : PySem.W.nsIn K mainGlobals "_law_walked" = some (some (.ref f34))) (l34 : K.lookup f34 = some ⟨oc34, od34, .func (PySem.W.fnOf "_law_walked" "_law_walked" (defArgs s__law_walked) (defBody s__law_walked) (defScope s__law_walked) .none kV34 dc34 pm34 an34 cd34 ct34), sl34⟩) (c34 : PySem.W.codeIn K cd34 "_law_walked" = true) (k34 : PySem.W.keepIn K (.ref f34) = true)
    (a35 : PySem.W.nsIn K mainGlobals "_law_shared" = some (some (.ref f35))) (l35 : K.lookup f35 = some ⟨oc35, od35, .func (PySem.W.fnOf "_law_shared" "_law_shared" (defArgs s__law_shared) (defBody s__law_shared) (defScope s__law_shared) .none kV35 dc35 pm35 an35 cd35 ct35), sl35⟩) (c35 : PySem.W.codeIn K cd35 "_law_shared" = true) (k35 : PySem.W.keepIn K (.ref f35) = true)
    (a36 : PySem.W.nsIn K mainGlobals "_law_pair" = some (some (.ref f36))) (l36 : K.lookup f36 = some ⟨oc36, od36, .func (PySem.W.fnOf "_law_pair" "_law_pair" (defArgs s__law_pair) (defBody s__law_pair) (defScope s__law_pair) .none kV36 dc36 pm36 an36 cd36 ct36), sl36⟩) (c36 : PySem.W.codeIn K cd36 "_law_pair" = true) (k36 : PySem.W.keepIn K (.ref f36) = true)
    (a37 : PySem.W.nsIn K mainGlobals "_law_base" = some (some (.ref f37))) (l37 : K.lookup f37 = some ⟨oc37, od37, .func (PySem.W.fnOf "_law_base" "_law_base" (defArgs s__law_base) (defBody s__law_base) (defScope s__law_base) .none kV37 dc37 pm37 an37 cd37 ct37), sl37⟩) (c37 : PySem.W.codeIn K cd37 "_law_base" = true) (k37 : PySem.W.keepIn K (.ref f37) = true)
    (a38 : PySem.W.nsIn K mainGlobals "_law_entry_right" = some (some (.ref f38))) (l38 : K.lookup f38 = some ⟨oc38, od38, .func (PySem.W.fnOf "_law_entry_right" "_law_entry_right" (defArgs s__law_entry_right) (defBody s__law_entry_right) (defScope s__law_entry_right) .none kV38 dc38 pm38 an38 cd38 ct38), sl38⟩) (c38 : PySem.W.codeIn K cd38 "_law_entry_right" = true) (k38 : PySem.W.keepIn K (.ref f38) = true)
    (a39 : PySem.W.nsIn K mainGlobals "_law_common_right" = some (some (.ref f39))) (l39 : K.lookup f39 = some ⟨oc39, od39, .func (PySem.W.fnOf "_law_common_right" "_law_common_right" (defArgs s__law_common_right) (defBody s__law_common_right) (defScope s__law_common_right) .none kV39 dc39 pm39 an39 cd39 ct39), sl39⟩) (c39 : PySem.W.codeIn K cd39 "_law_common_right" = true) (k39 : PySem.W.keepIn K (.ref f39) = true)
    (a40 : PySem.W.nsIn K mainGlobals "_law_right" = some (some (.ref f40))) (l40 : K.lookup f40 = some ⟨oc40, od40, .func (PySem.W.fnOf "_law_right" "_law_right" (defArgs s__law_right) (defBody s__law_right) (defScope s__law_right) .none kV40 dc40 pm40 an40 cd40 ct40), sl40⟩) (c40 : PySem.W.codeIn K cd40 "_law_right" = true) (k40 : PySem.W.keepIn K (.ref f40) = true)
    (a41 : PySem.W.nsIn K mainGlobals "law" = some (some (.ref f41))) (l41 : K.lookup f41 = some ⟨oc41, od41, .func (PySem.W.fnOf "law" "law" (defArgs s_law) (defBody s_law) (defScope s_law) .none kV41 dc41 pm41 an41 cd41 ct41), sl41⟩) (c41 : PySem.W.codeIn K cd41 "law" = true) (k41 : PySem.W.keepIn K (.ref f41) = true)
    (m_gcd : PySem.W.nsIn K mainGlobals "gcd" = some (some (.builtin "math.gcd")))
    (m_lcm : PySem.W.nsIn K mainGlobals "lcm" = some (some (.builtin "math.lcm")))
    (q_MOST_NUMBER : PySem.W.nsIn K mainGlobals "MOST_NUMBER" = some (some (.int (10000000000000000000000000000000000000000) t_MOST_NUMBER)))
    (q_MOST_FACT : PySem.W.nsIn K mainGlobals "MOST_FACT" = some (some (.int (1000000000000000000000000000000) t_MOST_FACT)))
    (q_MOST_BASE : PySem.W.nsIn K mainGlobals "MOST_BASE" = some (some (.int (1000000000000) t_MOST_BASE)))
    (q_MOST_OF_RUN : PySem.W.nsIn K mainGlobals "MOST_OF_RUN" = some (some (.int (1000000000) t_MOST_OF_RUN)))
    (g_STAY : PySem.W.nsIn K mainGlobals "STAY" = some (some (.ref x_STAY))) (l_STAY : K.lookup x_STAY = some { cls := .type "tuple", dict := dd_STAY, data := .seq #[.int 1 t0_STAY, .int 0 t1_STAY, .int 0 t2_STAY, .int 1 t3_STAY] n_STAY, slots := sl_STAY })
    (q_MOST_SHOWN_INDEX : PySem.W.nsIn K mainGlobals "MOST_SHOWN_INDEX" = some (some (.int (500) t_MOST_SHOWN_INDEX)))
    (q_MOST_RUN_PRIME : PySem.W.nsIn K mainGlobals "MOST_RUN_PRIME" = some (some (.int (1000000) t_MOST_RUN_PRIME)))
    (b_abs : PySem.W.nsIn K mainGlobals "abs" = some none)
    (b_all : PySem.W.nsIn K mainGlobals "all" = some none)
    (b_bool : PySem.W.nsIn K mainGlobals "bool" = some none)
    (b_divmod : PySem.W.nsIn K mainGlobals "divmod" = some none)
    (b_int : PySem.W.nsIn K mainGlobals "int" = some none)
    (b_isinstance : PySem.W.nsIn K mainGlobals "isinstance" = some none)
    (b_len : PySem.W.nsIn K mainGlobals "len" = some none)
    (b_max : PySem.W.nsIn K mainGlobals "max" = some none)
    (b_min : PySem.W.nsIn K mainGlobals "min" = some none)
    (b_range : PySem.W.nsIn K mainGlobals "range" = some none)
    (b_tuple : PySem.W.nsIn K mainGlobals "tuple" = some none) : Top K mg where
  d_times_in := ⟨_, _, fun_mk (st := s_times_in) l0 c0 k0, PySem.W.mg_of X G a0⟩
  d_raised := ⟨_, _, fun_mk (st := s_raised) l1 c1 k1, PySem.W.mg_of X G a1⟩
  d_is_integer := ⟨_, _, fun_mk (st := s_is_integer) l2 c2 k2, PySem.W.mg_of X G a2⟩
  d_is_within := ⟨_, _, fun_mk (st := s_is_within) l3 c3 k3, PySem.W.mg_of X G a3⟩
  d_check_within := ⟨_, _, fun_mk (st := s_check_within) l4 c4 k4, PySem.W.mg_of X G a4⟩
  d_check_base := ⟨_, _, fun_mk (st := s_check_base) l5 c5 k5, PySem.W.mg_of X G a5⟩
  d_check_index := ⟨_, _, fun_mk (st := s_check_index) l6 c6 k6, PySem.W.mg_of X G a6⟩
  d_is_of_run := ⟨_, _, fun_mk (st := s_is_of_run) l7 c7 k7, PySem.W.mg_of X G a7⟩
  d_is_run := ⟨_, _, fun_mk (st := s_is_run) l8 c8 k8, PySem.W.mg_of X G a8⟩
  d_check_run := ⟨_, _, fun_mk (st := s_check_run) l9 c9 k9, PySem.W.mg_of X G a9⟩
  d_apart := ⟨_, _, fun_mk (st := s_apart) l10 c10 k10, PySem.W.mg_of X G a10⟩
  d_step_of := ⟨_, _, fun_mk (st := s_step_of) l11 c11 k11, PySem.W.mg_of X G a11⟩
  d_both_steps := ⟨_, _, fun_mk (st := s_both_steps) l12 c12 k12, PySem.W.mg_of X G a12⟩
  d_many_steps := ⟨_, _, fun_mk (st := s_many_steps) l13 c13 k13, PySem.W.mg_of X G a13⟩
  d_stepped := ⟨_, _, fun_mk (st := s_stepped) l14 c14 k14, PySem.W.mg_of X G a14⟩
  d_pair_at := ⟨_, _, fun_mk (st := s_pair_at) l15 c15 k15, PySem.W.mg_of X G a15⟩
  d_next_round := ⟨_, _, fun_mk (st := s_next_round) l16 c16 k16, PySem.W.mg_of X G a16⟩
  d_primes_around := ⟨_, _, fun_mk (st := s_primes_around) l17 c17 k17, PySem.W.mg_of X G a17⟩
  d_rest_at := ⟨_, _, fun_mk (st := s_rest_at) l18 c18 k18, PySem.W.mg_of X G a18⟩
  d_tail_and_round_of := ⟨_, _, fun_mk (st := s_tail_and_round_of) l19 c19 k19, PySem.W.mg_of X G a19⟩
  d_entry := ⟨_, _, fun_mk (st := s_entry) l20 c20 k20, PySem.W.mg_of X G a20⟩
  d_common_value := ⟨_, _, fun_mk (st := s_common_value) l21 c21 k21, PySem.W.mg_of X G a21⟩
  d__check_of_run := ⟨_, _, fun_mk (st := s__check_of_run) l22 c22 k22, PySem.W.mg_of X G a22⟩
  d__check_shown := ⟨_, _, fun_mk (st := s__check_shown) l23 c23 k23, PySem.W.mg_of X G a23⟩
  d__check_far := ⟨_, _, fun_mk (st := s__check_far) l24 c24 k24, PySem.W.mg_of X G a24⟩
  d__apart_in_walked := ⟨_, _, fun_mk (st := s__apart_in_walked) l25 c25 k25, PySem.W.mg_of X G a25⟩
  d__first_values := ⟨_, _, fun_mk (st := s__first_values) l26 c26 k26, PySem.W.mg_of X G a26⟩
  d__tail_and_round := ⟨_, _, fun_mk (st := s__tail_and_round) l27 c27 k27, PySem.W.mg_of X G a27⟩
  d__tail_and_round_by_power := ⟨_, _, fun_mk (st := s__tail_and_round_by_power) l28 c28 k28, PySem.W.mg_of X G a28⟩
  d__entry_by_power := ⟨_, _, fun_mk (st := s__entry_by_power) l29 c29 k29, PySem.W.mg_of X G a29⟩
  d__law_basin := ⟨_, _, fun_mk (st := s__law_basin) l30 c30 k30, PySem.W.mg_of X G a30⟩
  d__law_sip := ⟨_, _, fun_mk (st := s__law_sip) l31 c31 k31, PySem.W.mg_of X G a31⟩
  d__law_any := ⟨_, _, fun_mk (st := s__law_any) l32 c32 k32, PySem.W.mg_of X G a32⟩
  d__law_values := ⟨_, _, fun_mk (st := s__law_values) l33 c33 k33, PySem.W.mg_of X G a33⟩
  d__law_walked := ⟨_, _, fun_mk (st := s__law_walked) l34 c34 k34, PySem.W.mg_of X G a34⟩
  d__law_shared := ⟨_, _, fun_mk (st := s__law_shared) l35 c35 k35, PySem.W.mg_of X G a35⟩
  d__law_pair := ⟨_, _, fun_mk (st := s__law_pair) l36 c36 k36, PySem.W.mg_of X G a36⟩
  d__law_base := ⟨_, _, fun_mk (st := s__law_base) l37 c37 k37, PySem.W.mg_of X G a37⟩
  d__law_entry_right := ⟨_, _, fun_mk (st := s__law_entry_right) l38 c38 k38, PySem.W.mg_of X G a38⟩
  d__law_common_right := ⟨_, _, fun_mk (st := s__law_common_right) l39 c39 k39, PySem.W.mg_of X G a39⟩
  d__law_right := ⟨_, _, fun_mk (st := s__law_right) l40 c40 k40, PySem.W.mg_of X G a40⟩
  d_law := ⟨_, _, fun_mk (st := s_law) l41 c41 k41, PySem.W.mg_of X G a41⟩
  m_gcd := PySem.W.mg_of X G m_gcd
  m_lcm := PySem.W.mg_of X G m_lcm
  c_MOST_NUMBER := ⟨_, PySem.W.mg_of X G q_MOST_NUMBER⟩
  c_MOST_FACT := ⟨_, PySem.W.mg_of X G q_MOST_FACT⟩
  c_MOST_BASE := ⟨_, PySem.W.mg_of X G q_MOST_BASE⟩
  c_MOST_OF_RUN := ⟨_, PySem.W.mg_of X G q_MOST_OF_RUN⟩
  g_STAY := by rw [cA_eq (PySem.W.mg_of X G g_STAY)]; exact PySem.W.mg_of X G g_STAY
  v_STAY := fun H => by rw [cA_eq (PySem.W.mg_of X G g_STAY)]; exact .inr ⟨_, _, _, l_STAY, rfl, rfl, Nat.le_of_ble_eq_true rfl, .cons ⟨_, rfl⟩ (.cons ⟨_, rfl⟩ (.cons ⟨_, rfl⟩ (.cons ⟨_, rfl⟩ (.nil))))⟩
  c_MOST_SHOWN_INDEX := ⟨_, PySem.W.mg_of X G q_MOST_SHOWN_INDEX⟩
  c_MOST_RUN_PRIME := ⟨_, PySem.W.mg_of X G q_MOST_RUN_PRIME⟩
  b_abs := PySem.W.mg_none_of X G b_abs
  b_all := PySem.W.mg_none_of X G b_all
  b_bool := PySem.W.mg_none_of X G b_bool
  b_divmod := PySem.W.mg_none_of X G b_divmod
  b_int := PySem.W.mg_none_of X G b_int
  b_isinstance := PySem.W.mg_none_of X G b_isinstance
  b_len := PySem.W.mg_none_of X G b_len
  b_max := PySem.W.mg_none_of X G b_max
  b_min := PySem.W.mg_none_of X G b_min
  b_range := PySem.W.mg_none_of X G b_range
  b_tuple := PySem.W.mg_none_of X G b_tuple
local macro_rules | `(tactic| walk_at "vat") => `(tactic| first
  | assumption
  | exact upd_same
  | (refine at_new (by assumption) ?_; walk_at "vat")
  | (refine at_same (by assumption) ?_; walk_at "vat")
  | (refine at_ne (by first | assumption | exact Ne.symm (by assumption)) ?_; walk_at "vat")
  | (refine at_kx (by assumption) (by first | assumption | exact Ne.symm (by assumption)) ?_; walk_at "vat"))
local macro_rules | `(tactic| walk_at "vsq") => `(tactic| first
  | assumption
  | (exact SqL.of (by walk_at "vat"))
  | (exact SqT.of (by walk_at "vat"))
  | (refine new_list (by assumption) ?_; walk_at "vsq")
  | (refine new_tup (by assumption) ?_; walk_at "vsq")
  | (refine Same.list (by assumption) ?_; walk_at "vsq")
  | (refine Same.tup (by assumption) ?_; walk_at "vsq")
  | (refine ne_list (by first | assumption | exact Ne.symm (by assumption)) ?_; walk_at "vsq")
  | (refine ne_tup (by first | assumption | exact Ne.symm (by assumption)) ?_; walk_at "vsq")
  | (refine Kx.list (by assumption) (by first | assumption | exact Ne.symm (by assumption)) ?_; walk_at "vsq")
  | (refine Kx.tup (by assumption) (by first | assumption | exact Ne.symm (by assumption)) ?_; walk_at "vsq"))
local macro_rules | `(tactic| walk_at "vsame") => `(tactic| first
  | exact Same.refl _
  | assumption
  | (refine Same.trans ?_ (Same.new (by assumption)); walk_at "vsame")
  | (refine Same.trans ?_ (by assumption); walk_at "vsame"))
local macro_rules | `(tactic| walk_at "vnone") => `(tactic| first
  | assumption
  | (refine none_up (by assumption))
  | (refine none_same (by assumption) ?_; walk_at "vnone"))
local macro_rules | `(tactic| walk_at "s") => `(tactic| first
  | (with_reducible refine r_seq ?_)
  | (with_reducible refine r_asg ?_)
  | (with_reducible refine r_name ?_)
  | ((with_reducible refine r_var (v := ?kv) ?k1 ?_); (case k1 => exact rfl))
  | (with_reducible refine r_c ?_)
  | (with_reducible refine r_yes ?_)
  | (with_reducible refine r_op ?_)
  | (with_reducible refine r_un ?_)
  | (with_reducible refine r_rI0 ?_)
  | (with_reducible refine r_rU ?_)
  | (with_reducible refine r_test ?_)
  | (with_reducible refine r_B ?_)
  | (with_reducible refine r_ret ?_)
  | (with_reducible refine r_drop ?_)
  | (with_reducible refine r_cons ?_)
  | (with_reducible refine r_nil ?_)
  | (with_reducible refine r_call ?_)
  | (with_reducible refine r_callK ?_)
  | (with_reducible refine r_callW ?_)
  | (with_reducible refine r_callKW ?_)
  | (with_reducible refine r_xf ?_)
  | (with_reducible refine r_forQ ?_)
  | (with_reducible refine r_lcQ ?_)
  | (with_reducible refine r_isn_ref ?_)
  | (with_reducible refine r_isn_int ?_)
  | (with_reducible refine r_isn_non ?_)
  | (with_reducible refine r_nn_ref ?_)
  | (with_reducible refine r_nn_int ?_)
  | (with_reducible refine r_nn_non ?_)
  | (with_reducible refine r_cb ?_)
  | (with_reducible refine r_tup ?_)
  | (with_reducible refine r_lst ?_)
  | (with_reducible refine r_and ?_)
  | (with_reducible refine r_or ?_)
  | (with_reducible refine r_not ?_)
  | (with_reducible refine r_andV ?_)
  | (with_reducible refine r_orV ?_)
  | (with_reducible refine r_notV ?_)
  | (with_reducible refine r_chain ?_)
  | (with_reducible refine r_gcd ?_)
  | (with_reducible refine r_abs ?_)
  | (with_reducible refine r_max2 ?_)
  | (with_reducible refine r_min2 ?_)
  | (with_reducible refine r_int1 ?_)
  | ((with_reducible refine r_lenL (xs := ?kx) ?k1 ?_); (case k1 => walk_at "vsq"))
  | ((with_reducible refine r_lenT (xs := ?kx) ?k1 ?_); (case k1 => walk_at "vsq"))
  | (with_reducible refine is_int_int ?_)
  | (with_reducible refine is_int_bool ?_)
  | (with_reducible refine is_int_tuple ?_)
  | (with_reducible refine is_int_list ?_)
  | (with_reducible refine is_int_str ?_)
  | (with_reducible refine is_bool_int ?_)
  | (with_reducible refine is_bool_bool ?_)
  | (with_reducible refine is_bool_tuple ?_)
  | (with_reducible refine is_bool_list ?_)
  | (with_reducible refine is_bool_str ?_)
  | (with_reducible refine is_NoneType_int ?_)
  | (with_reducible refine is_NoneType_bool ?_)
  | (with_reducible refine is_NoneType_tuple ?_)
  | (with_reducible refine is_NoneType_list ?_)
  | (with_reducible refine is_NoneType_str ?_)
  | (with_reducible refine is_str_int ?_)
  | (with_reducible refine is_str_bool ?_)
  | (with_reducible refine is_str_tuple ?_)
  | (with_reducible refine is_str_list ?_)
  | (with_reducible refine is_str_str ?_)
  | ((with_reducible refine is_tuple_int (xs := ?kx) ?k1 ?_); (case k1 => walk_at "vat"))
  | ((with_reducible refine is_tuple_bool (xs := ?kx) ?k1 ?_); (case k1 => walk_at "vat"))
  | ((with_reducible refine is_tuple_tuple (xs := ?kx) ?k1 ?_); (case k1 => walk_at "vat"))
  | ((with_reducible refine is_tuple_list (xs := ?kx) ?k1 ?_); (case k1 => walk_at "vat"))
  | ((with_reducible refine is_tuple_str (xs := ?kx) ?k1 ?_); (case k1 => walk_at "vat"))
  | ((with_reducible refine is_list_int (xs := ?kx) ?k1 ?_); (case k1 => walk_at "vat"))
  | ((with_reducible refine is_list_bool (xs := ?kx) ?k1 ?_); (case k1 => walk_at "vat"))
  | ((with_reducible refine is_list_tuple (xs := ?kx) ?k1 ?_); (case k1 => walk_at "vat"))
  | ((with_reducible refine is_list_list (xs := ?kx) ?k1 ?_); (case k1 => walk_at "vat"))
  | ((with_reducible refine is_list_str (xs := ?kx) ?k1 ?_); (case k1 => walk_at "vat"))
  | (with_reducible refine r_par ?_)
  | (with_reducible refine r_par3 ?_)
  | ((with_reducible refine r_aug (x := ?kv) ?k1 ?_); (case k1 => exact rfl))
  | (with_reducible refine r_ip ?_)
  | (with_reducible refine r_gsub ?_)
  | ((with_reducible refine r_gtup (xs := ?kx) ?k1 ?k2 ?_); (case k1 => walk_at "vsq"); (case k2 => exact rfl))
  | (with_reducible refine r_gcons ?_)
  | (with_reducible refine And.intro (small (Nat.le_of_ble_eq_true rfl)) (fun _ _ => ?_))
  | (with_reducible refine r_gnil ?_)
  | (with_reducible refine And.intro (Exists.intro _ (by walk_at "vsq")) ?_)
  | (with_reducible refine r_wb ?_)
  | (with_reducible refine r_for1 ?_)
  | (with_reducible refine r_for2 ?_)
  | (with_reducible refine r_forL ?_)
  | (with_reducible refine r_forT ?_)
  | (with_reducible refine r_lcR1 ?_)
  | (with_reducible refine r_lcR2 ?_)
  | (with_reducible refine r_lcL ?_)
  | (with_reducible refine r_lcT ?_)
  | (with_reducible refine r_lcZ3i ?_)
  | (with_reducible refine r_sl ?_)
  | (with_reducible refine r_noPart ?_)
  | (with_reducible refine r_part ?_)
  | (with_reducible refine r_forE ?_)
  | (with_reducible refine r_forZn ?_)
  | (with_reducible refine r_forZa ?_)
  | (with_reducible refine tru_int ?_)
  | (with_reducible refine r_bm ?_)
  | (with_reducible refine r_lc2R1 ?_)
  | (with_reducible refine r_next ?_)
  | (with_reducible refine r_break ?_)
  | (with_reducible refine r_cont ?_)
  | (with_reducible refine r_retN ?_)
  | (with_reducible refine Exists.intro _ (And.intro rfl ?_))
  | (with_reducible refine Exists.intro _ (Exists.intro _ (And.intro rfl ?_)))
  | (with_reducible refine Exists.intro _ (Exists.intro _ (And.intro rfl (And.intro rfl ?_))))
  | (with_reducible refine Exists.intro _ (Exists.intro _ (Exists.intro _ (And.intro rfl ?_))))
  | (with_reducible refine r_bits ?_)
  | (with_reducible refine r_dget ?_)
  | (with_reducible refine r_din ?_)
  | (with_reducible refine r_dput ?_)
  | (with_reducible refine r_dnew ?_)
  | (with_reducible refine r_lcZti ?_)
  | (with_reducible refine ifTT ?_)
  | (with_reducible refine ifFF ?_)
  | (with_reducible refine ifNT ?_)
  | (with_reducible refine ifNF ?_)
  | dsimp only)
local macro_rules | `(tactic| walk_at "go") => `(tactic| repeat walk_at "s")
local macro_rules | `(tactic| walk_at "gi") => `(tactic| repeat first | walk_at "s" | (with_reducible refine r_if ?_) | (with_reducible refine r_ifE ?_))
local macro_rules | `(tactic| walk_at "sti") => `(tactic| ((try dsimp only [cxOf]); walk_at "gi"))
local macro_rules | `(tactic| walk_at "st") => `(tactic| ((try dsimp only [cxOf]); walk_at "go"))
section
variable {P : Program} {w : World} {K : PySem.W.Frag} {mg : Str → Option Value} {base : Heap}
def sp_is_integer : Sp := fun vs H Q _ => ∃ i : Int, vs = [.int i] ∧ Q (.bl true) H
theorem ok_is_integer (T : Top K mg) : Ok P w K mg base 1 "is_integer" s_is_integer ["given"] sp_is_integer := by
  refine T.d_is_integer.ok sc_is_integer (fun vs H Q E h => ?_) (fun f cdv A outer s H vs Q E hg hr h => ?_)
  · obtain ⟨i, rfl, _⟩ := h
    rfl
  · obtain ⟨i, rfl, q⟩ := h
    refine ⟨_, (pss_one (ps_ret (pe_and (pe_callB (id := "isinstance") (c_isi rfl) (by rfl) T.b_isinstance (by decide +kernel) (pa_cons (pv 0) (pa_cons (pe_bltn (v := .ty "int") (by rfl) T.b_int (by decide +kernel) rfl) pa_nil))) (pe_one (pe_not (pe_callB (id := "isinstance") (c_isi rfl) (by rfl) T.b_isinstance (by decide +kernel) (pa_cons (pv 0) (pa_cons (pe_bltn (v := .ty "bool") (by rfl) T.b_bool (by decide +kernel) rfl) pa_nil)))))))), ?_⟩
    walk_at "sti"
    exact q
def sp_is_within : Sp := fun vs H Q _ => ∃ i a b : Int, vs = [.int i, .int a, .int b] ∧ Q (.bl (decide (a ≤ i ∧ i ≤ b))) H
theorem ok_is_within (T : Top K mg) : Ok P w K mg base 2 "is_within" s_is_within ["given", "least", "most"] sp_is_within := by
  have G_is_integer := ok_is_integer (P := P) (w := w) (base := base) T
  refine T.d_is_within.ok sc_is_within (fun vs H Q E h => ?_) (fun f cdv A outer s H vs Q E hg hr h => ?_)
  · obtain ⟨i, a, b, rfl, _⟩ := h
    rfl
  · obtain ⟨i, a, b, rfl, q⟩ := h
    refine ⟨_, (pss_one (ps_ret (pe_and (pe_g G_is_integer (fun _ _ F => bd_is_integer F) hg (hr.mono (by decide)) passL (by rfl) (pa_cons (pv 0) pa_nil)) (pe_one (pe_chain op_le op_le (pv 1) (pv 0) (pv 2)))))), ?_⟩
    walk_at "sti"
    refine ⟨i, rfl, ?_⟩
    walk_at "gi"
    refine ifd (fun c => ?_) (fun c => ?_)
    · walk_at "gi"
      rw [show decide (i ≤ b) = decide (a ≤ i ∧ i ≤ b) by simp [c]]
      exact q
    · rw [show decide (a ≤ i ∧ i ≤ b) = false by simp [c]] at q
      exact q
def sp_check_within : Sp := fun vs H Q _ => ∃ i a b : Int, vs = [.int i, .int a, .int b] ∧ a ≤ i ∧ i ≤ b ∧ Q .non H
theorem ok_check_within (T : Top K mg) : Ok P w K mg base 3 "check_within" s_check_within ["given", "least", "most"] sp_check_within := by
  have G_is_within := ok_is_within (P := P) (w := w) (base := base) T
  refine T.d_check_within.ok sc_check_within (fun vs H Q E h => ?_) (fun f cdv A outer s H vs Q E hg hr h => ?_)
  · obtain ⟨i, a, b, rfl, _⟩ := h
    rfl
  · obtain ⟨i, a, b, rfl, h1, h2, q⟩ := h
    refine ⟨_, (pss_one (ps_if (pt_not (pt_val (pe_g G_is_within (fun _ _ F => bd_is_within F) hg (hr.mono (by decide)) passL (by rfl) (pa_cons (pv 0) (pa_cons (pv 1) (pa_cons (pv 2) pa_nil)))))) (pss_one ps_never) pss_nil)), ?_⟩
    walk_at "sti"
    refine ⟨i, a, b, rfl, ?_⟩
    rw [decide_eq_true (show a ≤ i ∧ i ≤ b from ⟨h1, h2⟩)]
    walk_at "gi"
    exact q
def sp_check_base : Sp := fun vs H Q _ => ∃ i : Int, vs = [.int i] ∧ 1 ≤ i ∧ i ≤ 10 ^ 12 ∧ Q .non H
theorem ok_check_base (T : Top K mg) : Ok P w K mg base 4 "check_base" s_check_base ["given"] sp_check_base := by
  have G_check_within := ok_check_within (P := P) (w := w) (base := base) T
  refine T.d_check_base.ok sc_check_base (fun vs H Q E h => ?_) (fun f cdv A outer s H vs Q E hg hr h => ?_)
  · obtain ⟨i, rfl, _⟩ := h
    rfl
  · obtain ⟨i, rfl, h1, h2, q⟩ := h
    refine ⟨_, (pss_one (ps_expr (pe_g G_check_within (fun _ _ F => bd_check_within F) hg (hr.mono (by decide)) passL (by rfl) (pa_cons (pv 0) (pa_cons pe_int (pa_cons (pe_gi T.c_MOST_BASE (by rfl)) pa_nil)))))), ?_⟩
    walk_at "sti"
    exact ⟨i, _, _, rfl, h1, h2, q⟩
end
section
variable {P : Program} {w : World} {K : PySem.W.Frag} {mg : Str → Option Value} {base : Heap}
theorem e40 : (10 : Int) ^ 40 = 10000000000000000000000000000000000000000 := by decide
theorem e62 : (2 : Int) ^ 62 = 4611686018427387904 := by decide
theorem lenle {α : Type} {l : List α} {n : Nat} (h : l.length ≤ n) (hn : n < 100000) : l.length < sizeLine := Nat.lt_of_lt_of_le (Nat.lt_of_le_of_lt h hn) (by decide)
def sp_check_index : Sp := fun vs H Q _ => ∃ i : Int, vs = [.int i] ∧ 0 ≤ i ∧ i ≤ 10 ^ 40 ∧ Q .non H
theorem ok_check_index (T : Top K mg) : Ok P w K mg base 3 "check_index" s_check_index ["given"] sp_check_index := by
  have G_is_within := ok_is_within (P := P) (w := w) (base := base) T
  refine T.d_check_index.ok sc_check_index (fun vs H Q E h => ?_) (fun f cdv A outer s H vs Q E hg hr h => ?_)
  · obtain ⟨i, rfl, _⟩ := h
    rfl
  · obtain ⟨i, rfl, h1, h2, q⟩ := h
    refine ⟨_, (pss_one (ps_if (pt_not (pt_val (pe_g G_is_within (fun _ _ F => bd_is_within F) hg (hr.mono (by decide)) passL (by rfl) (pa_cons (pv 0) (pa_cons pe_int (pa_cons (pe_gi T.c_MOST_NUMBER (by rfl)) pa_nil)))))) (pss_one ps_never) pss_nil)), ?_⟩
    walk_at "sti"
    refine ⟨i, _, _, rfl, ?_⟩
    rw [decide_eq_true (show 0 ≤ i ∧ i ≤ 10000000000000000000000000000000000000000 from ⟨h1, by have := e40; omega⟩)]
    walk_at "gi"
    exact q
def sp_is_of_run : Sp := fun vs H Q _ => ∃ i : Int, vs = [.int i] ∧ i.natAbs ≤ 1000000000 ∧ Q (.bl true) H
theorem ok_is_of_run (T : Top K mg) : Ok P w K mg base 3 "is_of_run" s_is_of_run ["given"] sp_is_of_run := by
  have G_is_within := ok_is_within (P := P) (w := w) (base := base) T
  refine T.d_is_of_run.ok sc_is_of_run (fun vs H Q E h => ?_) (fun f cdv A outer s H vs Q E hg hr h => ?_)
  · obtain ⟨i, rfl, _⟩ := h
    rfl
  · obtain ⟨i, rfl, h1, q⟩ := h
    refine ⟨_, (pss_one (ps_ret (pe_g G_is_within (fun _ _ F => bd_is_within F) hg (hr.mono (by decide)) passL (by rfl) (pa_cons (pv 0) (pa_cons (pe_un un_neg (pe_gi T.c_MOST_OF_RUN (by rfl))) (pa_cons (pe_gi T.c_MOST_OF_RUN (by rfl)) pa_nil)))))), ?_⟩
    walk_at "sti"
    refine ⟨i, _, _, rfl, ?_⟩
    rw [decide_eq_true (show -1000000000 ≤ i ∧ i ≤ 1000000000 from ⟨by omega, by omega⟩)]
    exact q
/-- a run: four integers -/
structure Rn (a b x y : Int) : Prop where
  a : a.natAbs ≤ 1000000000
  b : b.natAbs ≤ 1000000000
  x : x.natAbs ≤ 1000000000
  y : y.natAbs ≤ 1000000000
abbrev RunAt (K : PySem.W.Frag) (H : Hp) (r : Addr) (a b x y : Int) : Prop := SqT K H r [.int a, .int b, .int x, .int y]
def sp_is_run (K : PySem.W.Frag) : Sp := fun vs H Q _ => ∃ (r : Addr) (a b x y : Int), vs = [.ref r] ∧ RunAt K H r a b x y ∧ Rn a b x y ∧ ∀ H', Same H H' → Q (.bl true) H'
theorem ok_is_run (T : Top K mg) : Ok P w K mg base 4 "is_run" s_is_run ["given"] (sp_is_run K) := by
  have G_is_of_run := ok_is_of_run (P := P) (w := w) (base := base) T
  refine T.d_is_run.ok sc_is_run (fun vs H Q E h => ?_) (fun f cdv A outer s H vs Q E hg hr h => ?_)
  · obtain ⟨r, a, b, x, y, rfl, _⟩ := h
    rfl
  · obtain ⟨r, a, b, x, y, rfl, sr, hR, q⟩ := h
    refine ⟨_, (pss_one (ps_ret (pe_and (pe_callB (id := "isinstance") (c_isi rfl) (by rfl) T.b_isinstance (by decide +kernel) (pa_cons (pv 0) (pa_cons (pe_bltn (v := .ty "tuple") (by rfl) T.b_tuple (by decide +kernel) rfl) pa_nil))) (pe_and (pe_cmpR op_eqZ (pe_callB (id := "len") (c_len rfl) (by rfl) T.b_len (by decide +kernel) (pa_cons (pv 0) pa_nil)) pe_int (nomark _)) (pe_one (pe_callB (id := "all") (c_all rfl rfl) (by rfl) T.b_all (by decide +kernel) (pa_cons (pe_lc (own := [("one", 1)]) (by rfl) sc_is_run.nd (i_tup' rfl (pv 0)) (blkOk_by (own := [("one", 1)]) (N := ["given", "one"]) (sc := defScope s_is_run) (by decide +kernel)) (fun _ _ _ _ _ => (pg_name (i := 1) sc_is_run.nd rfl (by first | exact Or.inl rfl | exact Or.inr rfl))) (fun _ _ _ _ _ => pts_nil) (fun _ _ _ _ _ => (pe_g G_is_of_run (fun _ _ F => bd_is_of_run F) hg (hr.mono (by decide)) passL (by rfl) (pa_cons (pv 1) pa_nil)))) pa_nil))))))), ?_⟩
    walk_at "sti"
    refine is_T_T sr ?_
    walk_at "gi"
    rw [decide_eq_true (show ((([V.int a, V.int b, V.int x, V.int y] : List V).length : Nat) : Int) = 4 from rfl)]
    walk_at "gi"
    refine r_lcTs [.int a, .int b, .int x, .int y] (fun D i H' => Same H H' ∧ H' D = some (.lst ((List.replicate i true).map V.bl))) (fun D hD => ⟨Same.new hD, upd_same⟩) (fun D i H' hD hi hP => ?_) (fun D i v H' hD hi hP => ?_) (fun D H' hD hP => ?_)
    · exact Same.tup hP.1 sr
    · obtain ⟨s1, d1⟩ := hP
      obtain ⟨c, rfl, hc, i4⟩ : ∃ c : Int, v = .int c ∧ c.natAbs ≤ 1000000000 ∧ i < 4 := by
        rcases i with _ | _ | _ | _ | i
        · exact ⟨a, (Option.some.inj hi).symm, hR.a, by decide⟩
        · exact ⟨b, (Option.some.inj hi).symm, hR.b, by decide⟩
        · exact ⟨x, (Option.some.inj hi).symm, hR.x, by decide⟩
        · exact ⟨y, (Option.some.inj hi).symm, hR.y, by decide⟩
        · exact absurd hi (by simp)
      walk_at "go"
      refine ⟨rfl, ?_⟩
      walk_at "go"
      refine ⟨c, rfl, hc, ?_⟩
      refine ⟨_, d1, lenle (n := 10) (by rw [List.length_map, List.length_replicate]; omega) (by decide), fun b o e => ?_, ?_⟩
      · rw [upd_ne (ne_of_none e hD)]
        exact s1 _ _ e
      · rw [upd_same, List.replicate_succ', List.map_append]
        rfl
    · obtain ⟨s1, d1⟩ := hP
      walk_at "gi"
      refine r_all (SqL.of d1) ?_
      rw [show (List.replicate ([V.int a, V.int b, V.int x, V.int y] : List V).length true).all id = true by simp]
      exact q _ s1
def sp_check_run (K : PySem.W.Frag) : Sp := fun vs H Q _ => ∃ (r : Addr) (a b x y : Int), vs = [.ref r] ∧ RunAt K H r a b x y ∧ Rn a b x y ∧ ∀ H', Same H H' → Q .non H'
theorem ok_check_run (T : Top K mg) : Ok P w K mg base 5 "check_run" s_check_run ["given"] (sp_check_run K) := by
  have G_is_run := ok_is_run (P := P) (w := w) (base := base) T
  refine T.d_check_run.ok sc_check_run (fun vs H Q E h => ?_) (fun f cdv A outer s H vs Q E hg hr h => ?_)
  · obtain ⟨r, a, b, x, y, rfl, _⟩ := h
    rfl
  · obtain ⟨r, a, b, x, y, rfl, sr, hR, q⟩ := h
    refine ⟨_, (pss_one (ps_if (pt_not (pt_val (pe_g G_is_run (fun _ _ F => bd_is_run F) hg (hr.mono (by decide)) passL (by rfl) (pa_cons (pv 0) pa_nil)))) (pss_one ps_never) pss_nil)), ?_⟩
    walk_at "sti"
    refine ⟨r, a, b, x, y, rfl, sr, hR, fun H1 s1 => ?_⟩
    walk_at "gi"
    exact q _ s1
def mV (m : Mt) : List V := [.int m.p, .int m.q, .int m.r, .int m.s]
def MtAt (K : PySem.W.Frag) (H : Hp) (t : Addr) (m : Mt) : Prop := SqT K H t (mV m)
def Sml (m : Mt) : Prop := m.p.natAbs < 2 ^ 120 ∧ m.q.natAbs < 2 ^ 120 ∧ m.r.natAbs < 2 ^ 120 ∧ m.s.natAbs < 2 ^ 120
theorem Sml.md {m : Mt} {n : Int} (n0 : 0 < n) (n1 : n ≤ 10 ^ 30) : Sml (m.md n) := by
  have key : ∀ z : Int, (z % n).natAbs < 2 ^ 120 := fun z => by
    have h1 := Int.emod_nonneg z (show n ≠ 0 by omega)
    have h2 := Int.emod_lt_of_pos z n0
    have h3 : (10 : Int) ^ 30 < 2 ^ 120 := by decide
    omega
  exact ⟨key _, key _, key _, key _⟩
theorem Sml.one : Sml Mt.one := ⟨by decide, by decide, by decide, by decide⟩
theorem Sml.zero : Sml Mt.zero := ⟨by decide, by decide, by decide, by decide⟩
def NewM (m : Mt) (H : Hp) (Q : VK) : Prop := ∀ t H', Same H H' → H t = none → H' t = some (.tup (mV m)) → Q (.ref t) H'
def sp_step_of (K : PySem.W.Frag) : Sp := fun vs H Q _ => ∃ (r : Addr) (a b x y : Int), vs = [.ref r] ∧ RunAt K H r a b x y ∧ NewM ⟨0, 1, b, a⟩ H Q
theorem ok_step_of (T : Top K mg) : Ok P w K mg base 1 "step_of" s_step_of ["run"] (sp_step_of K) := by
  refine T.d_step_of.ok sc_step_of (fun vs H Q E h => ?_) (fun f cdv A outer s H vs Q E hg hr h => ?_)
  · obtain ⟨r, a, b, x, y, rfl, _⟩ := h
    rfl
  · obtain ⟨r, a, b, x, y, rfl, sr, q⟩ := h
    refine ⟨_, (pss_one (ps_ret (pe_tup (pa_cons pe_int (pa_cons pe_int (pa_cons (pe_ix (x_tup rfl) (pv 0) pe_int (fun _ _ => rfl)) (pa_cons (pe_ix (x_tup rfl) (pv 0) pe_int (fun _ _ => rfl)) pa_nil))))))), ?_⟩
    walk_at "sti"
    refine r_ixT sr (atI_nat (j := 1) rfl) ?_
    walk_at "gi"
    refine r_ixT sr (atI_nat (j := 0) rfl) ?_
    walk_at "gi"
    rename_i t ht
    exact q t _ (Same.new ht) ht upd_same
theorem sml_mul {x y : Int} (hx : x.natAbs < 2 ^ 120) (hy : y.natAbs < 2 ^ 120) : CMulX x y := bit_mul (a := 120) (b := 120) (bit_of hx) (bit_of hy) (by decide)
def sp_both_steps (K : PySem.W.Frag) : Sp := fun vs H Q _ => ∃ (s t : Addr) (m k : Mt) (n : Int), vs = [.ref s, .ref t, .int n] ∧ MtAt K H s m ∧ MtAt K H t k ∧ Sml m ∧ Sml k ∧ 0 < n ∧ NewM ((m.mul k).md n) H Q
theorem ok_both_steps (T : Top K mg) : Ok P w K mg base 1 "both_steps" s_both_steps ["one", "other", "base"] (sp_both_steps K) := by
  refine T.d_both_steps.ok sc_both_steps (fun vs H Q E h => ?_) (fun f cdv A outer s H vs Q E hg hr h => ?_)
  · obtain ⟨s, t, m, k, n, rfl, _⟩ := h
    rfl
  · obtain ⟨s, t, m, k, n, rfl, sm', sk, bm, bk, n0, q⟩ := h
    obtain ⟨b1, b2, b3, b4⟩ := bm
    obtain ⟨c1, c2, c3, c4⟩ := bk
    refine ⟨_, (pss_cons (ps_asg (pv 0) (g_tup rfl rfl (pgs_cons (pg_name (i := 3) sc_both_steps.nd rfl (.inl rfl)) (pgs_cons (pg_name (i := 4) sc_both_steps.nd rfl (.inl rfl)) (pgs_cons (pg_name (i := 5) sc_both_steps.nd rfl (.inl rfl)) (pgs_cons (pg_name (i := 6) sc_both_steps.nd rfl (.inl rfl)) pgs_nil)))) rfl rfl))
    (pss_cons (ps_asg (pv 1) (g_tup rfl rfl (pgs_cons (pg_name (i := 7) sc_both_steps.nd rfl (.inl rfl)) (pgs_cons (pg_name (i := 8) sc_both_steps.nd rfl (.inl rfl)) (pgs_cons (pg_name (i := 9) sc_both_steps.nd rfl (.inl rfl)) (pgs_cons (pg_name (i := 10) sc_both_steps.nd rfl (.inl rfl)) pgs_nil)))) rfl rfl))
    (pss_one (ps_ret (pe_tup (pa_cons (pe_op op_mod (pe_op op_add (pe_op op_mulX (pv 3) (pv 7)) (pe_op op_mulX (pv 4) (pv 9))) (pv 2)) (pa_cons (pe_op op_mod (pe_op op_add (pe_op op_mulX (pv 3) (pv 8)) (pe_op op_mulX (pv 4) (pv 10))) (pv 2)) (pa_cons (pe_op op_mod (pe_op op_add (pe_op op_mulX (pv 5) (pv 7)) (pe_op op_mulX (pv 6) (pv 9))) (pv 2)) (pa_cons (pe_op op_mod (pe_op op_add (pe_op op_mulX (pv 5) (pv 8)) (pe_op op_mulX (pv 6) (pv 10))) (pv 2)) pa_nil))))))))), ?_⟩
    walk_at "sti"
    unfold mV
    walk_at "gi"
    unfold mV
    walk_at "gi"
    refine r_rI (sml_mul b1 c1) ?_
    walk_at "gi"
    refine r_rI (sml_mul b2 c3) ?_
    walk_at "gi"
    refine r_rI n0 ?_
    walk_at "gi"
    refine r_rI (sml_mul b1 c2) ?_
    walk_at "gi"
    refine r_rI (sml_mul b2 c4) ?_
    walk_at "gi"
    refine r_rI n0 ?_
    walk_at "gi"
    refine r_rI (sml_mul b3 c1) ?_
    walk_at "gi"
    refine r_rI (sml_mul b4 c3) ?_
    walk_at "gi"
    refine r_rI n0 ?_
    walk_at "gi"
    refine r_rI (sml_mul b3 c2) ?_
    walk_at "gi"
    refine r_rI (sml_mul b4 c4) ?_
    walk_at "gi"
    refine r_rI n0 ?_
    walk_at "gi"
    rename_i u hu
    exact q u _ (Same.new hu) hu upd_same
def sp_stepped (K : PySem.W.Frag) : Sp := fun vs H Q _ => ∃ (s t : Addr) (m : Mt) (x y n : Int), vs = [.ref s, .ref t, .int n] ∧ MtAt K H s m ∧ SqT K H t [.int x, .int y] ∧ Sml m ∧ x.natAbs ≤ 1000000000000 ∧ y.natAbs ≤ 1000000000000 ∧ 0 < n ∧
  ∀ u H', Same H H' → H u = none → H' u = some (.tup [.int ((m.p * x + m.q * y) % n), .int ((m.r * x + m.s * y) % n)]) → Q (.ref u) H'
theorem ok_stepped (T : Top K mg) : Ok P w K mg base 1 "stepped" s_stepped ["step", "pair", "base"] (sp_stepped K) := by
  refine T.d_stepped.ok sc_stepped (fun vs H Q E h => ?_) (fun f cdv A outer s H vs Q E hg hr h => ?_)
  · obtain ⟨s, t, m, x, y, n, rfl, _⟩ := h
    rfl
  · obtain ⟨s, t, m, x, y, n, rfl, sm', sk, bm, bx, by_, n0, q⟩ := h
    obtain ⟨b1, b2, b3, b4⟩ := bm
    have sx : x.natAbs < 2 ^ 120 := Nat.lt_of_le_of_lt bx (by decide)
    have sy : y.natAbs < 2 ^ 120 := Nat.lt_of_le_of_lt by_ (by decide)
    refine ⟨_, (pss_cons (ps_asg (pv 0) (g_tup rfl rfl (pgs_cons (pg_name (i := 3) sc_stepped.nd rfl (.inl rfl)) (pgs_cons (pg_name (i := 4) sc_stepped.nd rfl (.inl rfl)) (pgs_cons (pg_name (i := 5) sc_stepped.nd rfl (.inl rfl)) (pgs_cons (pg_name (i := 6) sc_stepped.nd rfl (.inl rfl)) pgs_nil)))) rfl rfl))
    (pss_cons (ps_asg (pv 1) (g_tup rfl rfl (pgs_cons (pg_name (i := 7) sc_stepped.nd rfl (.inl rfl)) (pgs_cons (pg_name (i := 8) sc_stepped.nd rfl (.inl rfl)) pgs_nil)) rfl rfl))
    (pss_one (ps_ret (pe_tup (pa_cons (pe_op op_mod (pe_op op_add (pe_op op_mulX (pv 3) (pv 7)) (pe_op op_mulX (pv 4) (pv 8))) (pv 2)) (pa_cons (pe_op op_mod (pe_op op_add (pe_op op_mulX (pv 5) (pv 7)) (pe_op op_mulX (pv 6) (pv 8))) (pv 2)) pa_nil))))))), ?_⟩
    walk_at "sti"
    unfold mV
    walk_at "gi"
    refine r_rI (sml_mul b1 sx) ?_
    walk_at "gi"
    refine r_rI (sml_mul b2 sy) ?_
    walk_at "gi"
    refine r_rI n0 ?_
    walk_at "gi"
    refine r_rI (sml_mul b3 sx) ?_
    walk_at "gi"
    refine r_rI (sml_mul b4 sy) ?_
    walk_at "gi"
    refine r_rI n0 ?_
    walk_at "gi"
    rename_i u hu
    exact q u _ (Same.new hu) hu upd_same
end
section
variable {P : Program} {w : World} {K : PySem.W.Frag} {mg : Str → Option Value} {base : Heap}
theorem bz : (((0 : Nat) : Int) != 0) = false := rfl
theorem bo : (((1 : Nat) : Int) != 0) = true := rfl
theorem Sml.step {a b x y : Int} (h : Rn a b x y) : Sml ⟨0, 1, b, a⟩ := ⟨by show (0 : Int).natAbs < _; decide, by show (1 : Int).natAbs < _; decide, Nat.lt_of_le_of_lt h.b (by decide), Nat.lt_of_le_of_lt h.a (by decide)⟩
def sp_many (K : PySem.W.Frag) : Sp := fun vs H Q _ => ∃ (t : Addr) (S : Mt) (k : Nat) (n : Int), vs = [.ref t, .int (k : Int), .int n] ∧ MtAt K H t S ∧ Sml S ∧ 0 < n ∧ n ≤ 10 ^ 30 ∧
  ∀ u M H', Same H H' → MtAt K H' u M → Sml M → Cg n M (pw S k) → Q (.ref u) H'
theorem ok_many_steps (T : Top K mg) : Ok P w K mg base 2 "many_steps" s_many_steps ["step", "times", "base"] (sp_many K) := by
  have G_both_steps := ok_both_steps (P := P) (w := w) (base := base) T
  refine T.d_many_steps.ok sc_many_steps (fun vs H Q E h => ?_) (fun f cdv A outer s H vs Q E hg hr h => ?_)
  · obtain ⟨t, S, k, n, rfl, _⟩ := h
    rfl
  · obtain ⟨t, S, k, n, rfl, st, bS, n0, n1, q⟩ := h
    refine ⟨_, (pss_cons (ps_set (i := 3) sc_many_steps.nd rfl (.inl rfl) (pe_gr T.g_STAY (by rfl)))
    (pss_cons (ps_set (i := 4) sc_many_steps.nd rfl (.inl rfl) (pv 1))
    (pss_cons (ps_while (passes_of rfl) (pt_truth (pv 4) (by intro _; rfl)) (pss_cons (ps_if (pt_truth (pe_op op_odd (pv 4) pe_int) (by intro _; rfl)) (pss_one (ps_set (i := 3) sc_many_steps.nd rfl (.inl rfl) (pe_g G_both_steps (fun _ _ F => bd_both_steps F) hg (hr.mono (by decide)) passL (by rfl) (pa_cons (pv 3) (pa_cons (pv 0) (pa_cons (pv 2) pa_nil)))))) pss_nil)
    (pss_cons (ps_aug (i := 4) sc_many_steps.nd rfl (.inl rfl) pe_int ip_half)
    (pss_one (ps_if (pt_truth (pv 4) (by intro _; rfl)) (pss_one (ps_set (i := 0) sc_many_steps.nd rfl (.inl rfl) (pe_g G_both_steps (fun _ _ F => bd_both_steps F) hg (hr.mono (by decide)) passL (by rfl) (pa_cons (pv 0) (pa_cons (pv 0) (pa_cons (pv 2) pa_nil)))))) pss_nil)))))
    (pss_one (ps_ret (pv 3)))))), ?_⟩
    walk_at "sti"
    refine r_while (fun m σ H' => ∃ (tt ss : Addr) (M E : Mt) (a e : Nat), σ = [some (.ref ss), some (.int (k : Int)), some (.int n), some (.ref tt), some (.int (m : Int))] ∧ Same H H' ∧ MtAt K H' tt M ∧ MtAt K H' ss E ∧ Sml M ∧ Sml E ∧ Cg n M (pw S a) ∧ Cg n E (pw S e) ∧ a + e * m = k) k
      ⟨cA mg "STAY", t, Mt.one, S, 0, 1, rfl, Same.refl _, T.v_STAY H, st, Sml.one, bS, Cg.refl _ _, by rw [show pw S 1 = S from by apply Mt.ext' <;> simp [pw, Mt.mul, Mt.one]]; exact Cg.refl _ _, by omega⟩ fun m σ H1 hW => ?_
    obtain ⟨tt, ss, M, E', a, e, rfl, s1, sM, sE, bM, bE, cM, cE, hk⟩ := hW
    walk_at "gi"
    by_cases m0 : m = 0
    · subst m0
      rw [if_neg (by simp)]
      walk_at "gi"
      rw [Nat.mul_zero, Nat.add_zero] at hk
      subst hk
      exact q tt M H1 s1 sM bM cM
    rw [if_pos (bne_iff_ne.mpr (show (m : Int) ≠ 0 by omega))]
    refine ⟨_, fun _ _ h => h, ?_⟩
    walk_at "go"
    refine j_s (fun σ' H2 => ∃ (tt : Addr) (M : Mt) (a : Nat), σ' = [some (.ref ss), some (.int (k : Int)), some (.int n), some (.ref tt), some (.int (m : Int))] ∧ Same H1 H2 ∧ MtAt K H2 tt M ∧ Sml M ∧ Cg n M (pw S a) ∧ a + e * (2 * (m / 2)) = k) (fun nx' hnx => ?_) (fun σ' H2 hM => ?_)
    · walk_at "gi"
      refine ⟨rfl, ?_⟩
      walk_at "gi"
      by_cases odd : m % 2 = 0
      · rw [odd, bz]
        walk_at "gi"
        exact hnx _ _ ⟨tt, M, a, rfl, Same.refl _, sM, bM, cM, by rw [show 2 * (m / 2) = m by omega]; exact hk⟩
      · have o1 : m % 2 = 1 := by omega
        rw [o1, bo]
        walk_at "gi"
        refine ⟨tt, ss, M, E', n, rfl, sM, sE, bM, bE, n0, fun u H2 s2 _ e2 => ?_⟩
        walk_at "gi"
        refine hnx _ _ ⟨u, _, a + e, rfl, s2, SqT.of e2, Sml.md n0 n1, by rw [pw_add]; exact (cM.mul cE).md, ?_⟩
        have : e * m = e * (2 * (m / 2)) + e := by
          rw [← Nat.mul_succ]
          congr 1
          omega
        omega
    obtain ⟨tt2, M2, a2, rfl, s2, sM2, bM2, cM2, hk2⟩ := hM
    walk_at "gi"
    refine r_half ?_
    walk_at "gi"
    rw [show (m : Int) / 2 = ((m / 2 : Nat) : Int) by omega]
    by_cases h0 : m / 2 = 0
    · rw [h0, bz]
      walk_at "gi"
      refine ⟨0, by omega, tt2, ss, M2, E', a2, e, rfl, s1.trans s2, sM2, Same.tup s2 sE, bM2, bE, cM2, cE, by rw [h0] at hk2; omega⟩
    · rw [show (((m / 2 : Nat) : Int) != 0) = true from bne_iff_ne.mpr (by omega)]
      walk_at "gi"
      refine ⟨ss, ss, E', E', n, rfl, Same.tup s2 sE, Same.tup s2 sE, bE, bE, n0, fun u H3 s3 _ e3 => ?_⟩
      walk_at "gi"
      refine ⟨m / 2, by omega, tt2, u, M2, _, a2, e + e, rfl, (s1.trans s2).trans s3, Same.tup s3 sM2, SqT.of e3, bM2, Sml.md n0 n1, cM2, by rw [pw_add]; exact (cE.mul cE).md, ?_⟩
      rw [← hk2, Nat.add_mul, Nat.mul_left_comm]
      omega
theorem act_mod {n : Int} {M N : Mt} (h : Cg n M N) (x y : Int) : (M.p * x + M.q * y) % n = (N.p * x + N.q * y) % n ∧ (M.r * x + M.s * y) % n = (N.r * x + N.s * y) % n := by
  have z : ∀ c : Int, n ∣ c - c := fun c => by rw [Int.sub_self]; exact Int.dvd_zero n
  exact ⟨Int.emod_eq_emod_iff_emod_sub_eq_zero.mpr (Int.emod_eq_zero_of_dvd (dv_add (dv_mul h.1 (z x)) (dv_mul h.2.1 (z y)))), Int.emod_eq_emod_iff_emod_sub_eq_zero.mpr (Int.emod_eq_zero_of_dvd (dv_add (dv_mul h.2.2.1 (z x)) (dv_mul h.2.2.2 (z y))))⟩
def sp_pair_at (K : PySem.W.Frag) : Sp := fun vs H Q _ => ∃ (r : Addr) (a b x y : Int) (k : Nat) (n : Int), vs = [.ref r, .int (k : Int), .int n] ∧ RunAt K H r a b x y ∧ Rn a b x y ∧ 0 < n ∧ n ≤ 10 ^ 30 ∧
  ∀ u H', Same H H' → H' u = some (.tup [.int (rv a b x y k % n), .int (rv a b x y (k + 1) % n)]) → Q (.ref u) H'
theorem ok_pair_at (T : Top K mg) : Ok P w K mg base 3 "pair_at" s_pair_at ["run", "index", "base"] (sp_pair_at K) := by
  have G_step_of := ok_step_of (P := P) (w := w) (base := base) T
  have G_many_steps := ok_many_steps (P := P) (w := w) (base := base) T
  have G_stepped := ok_stepped (P := P) (w := w) (base := base) T
  refine T.d_pair_at.ok sc_pair_at (fun vs H Q E h => ?_) (fun f cdv A outer s H vs Q E hg hr h => ?_)
  · obtain ⟨r, a, b, x, y, k, n, rfl, _⟩ := h
    rfl
  · obtain ⟨r, a, b, x, y, k, n, rfl, sr, hR, n0, n1, q⟩ := h
    refine ⟨_, (pss_one (ps_ret (pe_g G_stepped (fun _ _ F => bd_stepped F) hg (hr.mono (by decide)) passL (by rfl) (pa_cons (pe_g G_many_steps (fun _ _ F => bd_many_steps F) hg (hr.mono (by decide)) passL (by rfl) (pa_cons (pe_g G_step_of (fun _ _ F => bd_step_of F) hg (hr.mono (by decide)) passL (by rfl) (pa_cons (pv 0) pa_nil)) (pa_cons (pv 1) (pa_cons (pv 2) pa_nil)))) (pa_cons (pe_tup (pa_cons (pe_ix (x_tup rfl) (pv 0) pe_int (fun _ _ => rfl)) (pa_cons (pe_ix (x_tup rfl) (pv 0) pe_int (fun _ _ => rfl)) pa_nil))) (pa_cons (pv 2) pa_nil)))))), ?_⟩
    walk_at "sti"
    refine ⟨r, a, b, x, y, rfl, sr, fun t H1 s1 nt et => ?_⟩
    walk_at "gi"
    refine ⟨t, _, k, n, rfl, SqT.of et, Sml.step hR, n0, n1, fun u M H2 s2 sM bM cM => ?_⟩
    walk_at "gi"
    have sr2 := Same.tup (s1.trans s2) sr
    refine r_ixT sr2 (atI_nat (j := 2) rfl) ?_
    walk_at "gi"
    refine r_ixT sr2 (atI_nat (j := 3) rfl) ?_
    walk_at "gi"
    rename_i v hv
    refine ⟨u, v, M, x, y, n, rfl, Same.tup (Same.new hv) sM, SqT.of upd_same, bM, Nat.le_trans hR.x (by decide), Nat.le_trans hR.y (by decide), n0, fun z H3 s3 _ e3 => ?_⟩
    have ha := act_mod cM x y
    have hp := pw_act a b k x y
    rw [ha.1, ha.2, hp.1, hp.2] at e3
    exact q z H3 (((s1.trans s2).trans (Same.new hv)).trans s3) e3
def sp_first_values (K : PySem.W.Frag) : Sp := fun vs H Q _ => ∃ (r : Addr) (a b x y : Int) (m : Nat), vs = [.ref r, .int (m : Int)] ∧ RunAt K H r a b x y ∧ Rn a b x y ∧ m ≤ 501 ∧
  ∀ l H', Same H H' → H' l = some (.lst (((List.range (max m 2)).map fun i => rv a b x y i).map V.int)) → Q (.ref l) H'
theorem rv_bits {a b x y : Int} (h : Rn a b x y) {k : Nat} (hk : k ≤ 600) : (rv a b x y k).natAbs < 2 ^ 20000 := by
  have h1 := rv_le (a := a) (b := b) (C := 2 ^ 31) (m := 2 ^ 31) (by have := h.a; have := h.b; omega) (Nat.le_trans h.x (by decide)) (Nat.le_trans h.y (by decide)) k
  rw [← Nat.pow_mul, ← Nat.pow_add] at h1
  exact Nat.lt_of_le_of_lt h1 (Nat.pow_lt_pow_right (by decide) (by omega))
theorem atI_neg {p : List Int} {j : Nat} {c : Int} (h0 : 0 < j) (h1 : j ≤ p.length) (h : p[p.length - j]? = some c) : atI (p.map V.int) (-(j : Int)) = some (V.int c) := by
  unfold atI ixN
  rw [List.length_map, if_neg (by omega), if_pos (by omega)]
  show (p.map V.int)[(-(j : Int) + (p.length : Int)).toNat]? = _
  rw [show (-(j : Int) + (p.length : Int)).toNat = p.length - j by omega, List.getElem?_map, h]
  rfl
theorem rvs_at {a b x y : Int} {m i : Nat} (h : i < m) : ((List.range m).map fun i => rv a b x y i)[i]? = some (rv a b x y i) := by
  rw [List.getElem?_map, List.getElem?_range h]
  rfl
theorem ok__first_values (T : Top K mg) : Ok P w K mg base 1 "_first_values" s__first_values ["run", "many"] (sp_first_values K) := by
  refine T.d__first_values.ok sc__first_values (fun vs H Q E h => ?_) (fun f cdv A outer s H vs Q E hg hr h => ?_)
  · obtain ⟨r, a, b, x, y, m, rfl, _⟩ := h
    rfl
  · obtain ⟨r, a, b, x, y, m, rfl, sr, hR, m1, q⟩ := h
    refine ⟨_, (pss_cons (ps_asg (pv 0) (g_tup rfl rfl (pgs_cons (pg_name (i := 2) sc__first_values.nd rfl (.inl rfl)) (pgs_cons (pg_name (i := 3) sc__first_values.nd rfl (.inl rfl)) (pgs_cons (pg_name (i := 4) sc__first_values.nd rfl (.inl rfl)) (pgs_cons (pg_name (i := 5) sc__first_values.nd rfl (.inl rfl)) pgs_nil)))) rfl rfl))
    (pss_cons (ps_set (i := 6) sc__first_values.nd rfl (.inl rfl) (pe_lst (pa_cons (pv 4) (pa_cons (pv 5) pa_nil))))
    (pss_cons (ps_while (passes_of rfl) (pt_cmpR op_lt (pe_callB (id := "len") (c_len rfl) (by rfl) T.b_len (by decide +kernel) (pa_cons (pv 6) pa_nil)) (pv 1) (nomark _)) (pss_one (ps_expr (pe_bm PySem.F.plainAttrs_list PySem.F.slot_list_append PySem.F.type_list_append mt_append (pv 6) (pa_cons (pe_op op_add (pe_op op_mulX (pv 2) (pe_ix (x_list rfl) (pv 6) (pe_un un_neg pe_int) (fun _ _ => rfl))) (pe_op op_mulX (pv 3) (pe_ix (x_list rfl) (pv 6) (pe_un un_neg pe_int) (fun _ _ => rfl)))) pa_nil)))))
    (pss_one (ps_ret (pv 6)))))), ?_⟩
    walk_at "sti"
    rename_i l0 hl0
    refine r_while (fun u σ H' => ∃ c : Nat, σ = [some (.ref r), some (.int (m : Int)), some (.int a), some (.int b), some (.int x), some (.int y), some (.ref l0)] ∧ Same H H' ∧ H' l0 = some (.lst (((List.range c).map fun i => rv a b x y i).map V.int)) ∧ 2 ≤ c ∧ c ≤ max m 2 ∧ u = max m 2 - c) (max m 2 - 2)
      ⟨2, rfl, Same.new hl0, upd_same, Nat.le_refl _, by omega, rfl⟩ fun u σ H1 hW => ?_
    obtain ⟨c, rfl, s1, e1, c2, cm, rfl⟩ := hW
    have len : ((List.range c).map fun i => rv a b x y i).length = c := by simp
    walk_at "gi"
    rw [List.length_map, len]
    refine ifd (fun cc => ?_) (fun cc => ?_)
    · walk_at "gi"
      refine ⟨.inl ⟨rfl, _, SqL.of e1⟩, ?_⟩
      walk_at "gi"
      have hv1 := rv_bits hR (k := c - 1) (by omega)
      have hv2 := rv_bits hR (k := c - 2) (by omega)
      refine r_ixL (SqL.of e1) (atI_neg (j := 1) (by decide) (by omega) (by rw [len]; exact rvs_at (by omega))) ?_
      walk_at "gi"
      refine r_rI (bit_mul (a := 31) (b := 20000) (bit_of (by have := hR.a; omega)) (bit_of hv1) (by decide)) ?_
      walk_at "gi"
      refine r_ixL (SqL.of e1) (atI_neg (j := 2) (by decide) (by omega) (by rw [len]; exact rvs_at (by omega))) ?_
      walk_at "gi"
      refine r_rI (bit_mul (a := 31) (b := 20000) (bit_of (by have := hR.b; omega)) (bit_of hv2) (by decide)) ?_
      walk_at "gi"
      refine r_app e1 (by rw [List.length_map, len]; omega) ?_
      walk_at "gi"
      refine ⟨max m 2 - (c + 1), by omega, c + 1, rfl, fun b' o e => ?_, ?_, by omega, by omega, rfl⟩
      · rw [upd_ne (ne_of_none e hl0)]
        exact s1 _ _ e
      · rw [List.range_succ, List.map_append, List.map_append]
        obtain ⟨d, rfl⟩ : ∃ d, c = d + 2 := ⟨c - 2, by omega⟩
        exact upd_same
    · walk_at "gi"
      have : c = max m 2 := by omega
      subst this
      exact q l0 H1 s1 e1
end
section
variable {P : Program} {w : World} {K : PySem.W.Frag} {mg : Str → Option Value} {base : Heap}
theorem pget {α β : Type} {R : α → β → Prop} : ∀ {xs : List α} {ys : List β} {i : Nat} {x : α}, Paired R xs ys → xs[i]? = some x → ∃ y, ys[i]? = some y ∧ R x y
  | _, _, i, x, .nil, e => by simp at e
  | _, _, 0, x, .cons (b := b) r t, e => by
    cases e
    exact ⟨b, rfl, r⟩
  | _, _, i + 1, x, .cons r t, e => by
    obtain ⟨p, h1, h2⟩ := pget (i := i) (x := x) t (by simpa using e)
    exact ⟨p, by simpa using h1, h2⟩
theorem papp {α β : Type} {R : α → β → Prop} : ∀ {xs zs : List α} {ys ws : List β}, Paired R xs ys → Paired R zs ws → Paired R (xs ++ zs) (ys ++ ws)
  | _, _, _, _, .nil, s => s
  | _, _, _, _, .cons r t, s => .cons r (papp t s)
theorem pmono {α β : Type} {R S : α → β → Prop} (h : ∀ x y, R x y → S x y) : ∀ {xs : List α} {ys : List β}, Paired R xs ys → Paired S xs ys
  | _, _, .nil => .nil
  | _, _, .cons r t => .cons (h _ _ r) (pmono h t)
theorem take_one {α : Type} {l : List α} {i : Nat} {x : α} (h : l[i]? = some x) : l.take (i + 1) = l.take i ++ [x] := by
  rw [List.take_add_one, h]; rfl
theorem e60 : (2 : Nat) ^ 60 = 1152921504606846976 := by decide
theorem e59 : (2 : Nat) ^ 59 = 576460752303423488 := by decide
theorem big12 : (1000000000000 : Nat) < 2 ^ 40 := by decide
def sp_times : Sp := fun vs H Q _ => ∃ n p : Nat, vs = [.int (n : Int), .int (p : Int)] ∧ 0 < n ∧ n ≤ 1000000000000 ∧ 2 ≤ p ∧ p ≤ 1000000000000 ∧ ∀ e m : Nat, n = p ^ e * m → ¬ p ∣ m → e ≤ 40 → Q (.int (e : Int)) H
theorem ok_times_in (T : Top K mg) : Ok P w K mg base 1 "times_in" s_times_in ["number", "prime"] sp_times := by
  refine T.d_times_in.ok sc_times_in (fun vs H Q E h => ?_) (fun f cdv A outer s H vs Q E hg hr h => ?_)
  · obtain ⟨n, p, rfl, _⟩ := h
    rfl
  · obtain ⟨n, p, rfl, n0, n1, p2, p1, q⟩ := h
    refine ⟨_, (pss_cons (ps_set (i := 2) sc_times_in.nd rfl (.inl rfl) pe_int)
    (pss_cons (ps_set (i := 3) sc_times_in.nd rfl (.inl rfl) (pv 0))
    (pss_cons (ps_while (passes_of rfl) (pt_cmpR op_eqZ (pe_op op_mod (pv 3) (pv 1)) pe_int (nomark _)) (pss_cons (ps_aug (i := 3) sc_times_in.nd rfl (.inl rfl) (pv 1) ip_fdivW)
    (pss_one (ps_aug (i := 2) sc_times_in.nd rfl (.inl rfl) pe_int ip_add))))
    (pss_one (ps_ret (pv 2)))))), ?_⟩
    walk_at "sti"
    refine r_while (fun u σ H' => ∃ e : Nat, σ = [some (.int (n : Int)), some (.int (p : Int)), some (.int (e : Int)), some (.int (u : Int))] ∧ H' = H ∧ n = p ^ e * u ∧ 0 < u) n ⟨0, rfl, rfl, by simp, n0⟩ fun u σ H1 hW => ?_
    obtain ⟨e, rfl, rfl, hn, u0⟩ := hW
    have pe : 0 < p ^ e := Nat.pow_pos (by omega)
    have he : e ≤ 40 := by
      refine Classical.byContradiction fun c => ?_
      have h1 : (2 : Nat) ^ 40 ≤ 2 ^ e := Nat.pow_le_pow_right (by decide) (by omega)
      have h2 : 2 ^ e ≤ p ^ e := Nat.pow_le_pow_left p2 e
      have h3 : p ^ e * 1 ≤ p ^ e * u := Nat.mul_le_mul_left _ u0
      have := big12
      omega
    have hun : u ≤ n := by
      have := Nat.mul_le_mul_right u pe
      omega
    walk_at "gi"
    refine r_rI (by omega) ?_
    walk_at "gi"
    refine ifd (fun c => ?_) (fun c => ?_)
    · have hd : p ∣ u := Int.natCast_dvd_natCast.mp (Int.dvd_of_emod_eq_zero c)
      obtain ⟨m, rfl⟩ := hd
      walk_at "gi"
      refine r_ipC (divw_of (j := (p : Int)) (by omega) (by omega)) ?_
      walk_at "gi"
      have m0 : 0 < m := by
        rcases Nat.eq_zero_or_pos m with z | z
        · rw [z, Nat.mul_zero] at u0; omega
        · exact z
      refine ⟨m, ?_, e + 1, ?_, rfl, ?_, m0⟩
      · have := Nat.mul_le_mul_right m p2
        omega
      · rw [Int.natCast_mul, Int.mul_ediv_cancel_left _ (by omega)]
        rfl
      · rw [hn, Nat.pow_succ, Nat.mul_assoc]
    · walk_at "gi"
      exact q e u hn (fun h => c (Int.emod_eq_zero_of_dvd (Int.natCast_dvd_natCast.mpr h))) he
theorem made_snoc : ∀ (ps : List (Nat × Nat)) (a : Nat × Nat), made (ps ++ [a]) = made ps * a.1 ^ a.2
  | [], a => by simp [made]
  | b :: r, a => by
    show b.1 ^ b.2 * made (r ++ [a]) = b.1 ^ b.2 * made r * a.1 ^ a.2
    rw [made_snoc r a, Nat.mul_assoc]
def ci (ps : List (Nat × Nat)) : List (Int × Int) := ps.map fun a => ((a.1 : Int), (a.2 : Int))
/-- all but what is left is taken apart, below d -/
structure Half (n : Nat) (ps : List (Nat × Nat)) (L d : Nat) : Prop where
  m : made ps * L = n
  l0 : 0 < L
  p : ∀ a ∈ ps, Pr a.1 ∧ 1 ≤ a.2
  s : ps.Pairwise fun a b => a.1 < b.1
  b : ∀ a ∈ ps, a.1 < d
  no : ∀ k, 2 ≤ k → k < d → ¬ k ∣ L
theorem Half.le {n : Nat} {ps : List (Nat × Nat)} {L d : Nat} (h : Half n ps L d) : L ≤ n := by
  have := Nat.mul_le_mul_right L (made_pos ps h.p)
  rw [h.m] at this
  omega
theorem Half.pr {n : Nat} {ps : List (Nat × Nat)} {L d : Nat} (h : Half n ps L d) (d2 : 2 ≤ d) (hd : d ∣ L) : Pr d := by
  refine ⟨d2, fun k hk => ?_⟩
  have k0 : 0 < k := Nat.pos_of_dvd_of_pos hk (by omega)
  have k1 := Nat.le_of_dvd (by omega) hk
  by_cases c : k = 1
  · exact .inl c
  · by_cases c2 : k = d
    · exact .inr c2
    · exact absurd (Nat.dvd_trans hk hd) (h.no k (by omega) (by omega))
theorem Half.take {n : Nat} {ps : List (Nat × Nat)} {L d e m : Nat} (h : Half n ps L d) (d2 : 2 ≤ d) (hd : d ∣ L) (hL : L = d ^ e * m) (hm : ¬ d ∣ m) : Half n (ps ++ [(d, e)]) m (d + 1) := by
  have hp := h.pr d2 hd
  have e1 : 1 ≤ e := by
    rcases Nat.eq_zero_or_pos e with z | z
    · rw [z, Nat.pow_zero, Nat.one_mul] at hL
      rw [hL] at hd
      exact absurd hd hm
    · exact z
  refine ⟨?_, ?_, fun a ha => ?_, ?_, fun a ha => ?_, fun k k2 kd => ?_⟩
  · rw [made_snoc, Nat.mul_assoc, ← hL]
    exact h.m
  · rcases Nat.eq_zero_or_pos m with z | z
    · rw [z, Nat.mul_zero] at hL
      have := h.l0
      omega
    · exact z
  · rcases List.mem_append.mp ha with q | q
    · exact h.p a q
    · rw [List.mem_singleton.mp q]
      exact ⟨hp, e1⟩
  · rw [List.pairwise_append]
    refine ⟨h.s, List.pairwise_singleton _ _, fun a ha b hb => ?_⟩
    rw [List.mem_singleton.mp hb]
    exact h.b a ha
  · rcases List.mem_append.mp ha with q | q
    · have := h.b a q
      omega
    · rw [List.mem_singleton.mp q]
      exact Nat.lt_succ_self d
  · by_cases c : k = d
    · rw [c]
      exact hm
    · exact fun hk => h.no k k2 (by omega) (Nat.dvd_trans hk (by rw [hL]; exact Nat.dvd_mul_left _ _))
theorem Half.on {n : Nat} {ps : List (Nat × Nat)} {L d : Nat} (h : Half n ps L d) (hd : ¬ d ∣ L) : Half n ps L (d + 1) := by
  refine ⟨h.m, h.l0, h.p, h.s, fun a ha => by have := h.b a ha; omega, fun k k2 kd => ?_⟩
  by_cases c : k = d
  · rw [c]
    exact hd
  · exact h.no k k2 (by omega)
theorem Half.odd {n : Nat} {ps : List (Nat × Nat)} {L d : Nat} (h : Half n ps L (d + 1)) (d3 : 3 ≤ d) (ho : d % 2 = 1) : Half n ps L (d + 2) := by
  refine ⟨h.m, h.l0, h.p, h.s, fun a ha => by have := h.b a ha; omega, fun k k2 kd => ?_⟩
  by_cases c : k = d + 1
  · intro hk
    exact h.no 2 (by decide) (by omega) (Nat.dvd_trans (by omega) hk)
  · exact h.no k k2 (by omega)
theorem Half.last {n : Nat} {ps : List (Nat × Nat)} {L d : Nat} (h : Half n ps L d) (d2 : 2 ≤ d) (hq : L < d * d) (l1 : 1 < L) : Apart (ps ++ [(L, 1)]) n := by
  have hLd : d ≤ L := by
    refine Classical.byContradiction fun c => ?_
    exact h.no L (by omega) (by omega) (Nat.dvd_refl _)
  have hp : Pr L := by
    refine ⟨by omega, fun k hk => ?_⟩
    obtain ⟨j, hj⟩ := hk
    have k0 : k ≠ 0 := fun z => by rw [z, Nat.zero_mul] at hj; omega
    have j0 : j ≠ 0 := fun z => by rw [z, Nat.mul_zero] at hj; omega
    by_cases c : k = 1
    · exact .inl c
    · by_cases c2 : j = 1
      · rw [c2, Nat.mul_one] at hj
        exact .inr hj.symm
      · have h1 : d ≤ k := Classical.byContradiction fun z => h.no k (by omega) (by omega) ⟨j, hj⟩
        have h2 : d ≤ j := Classical.byContradiction fun z => h.no j (by omega) (by omega) ⟨k, by rw [hj, Nat.mul_comm]⟩
        have := Nat.mul_le_mul h1 h2
        omega
  refine ⟨?_, fun a ha => ?_, ?_⟩
  · rw [made_snoc, Nat.pow_one]
    exact h.m
  · rcases List.mem_append.mp ha with q | q
    · exact h.p a q
    · rw [List.mem_singleton.mp q]
      exact ⟨hp, Nat.le_refl _⟩
  · rw [List.pairwise_append]
    refine ⟨h.s, List.pairwise_singleton _ _, fun a ha b hb => ?_⟩
    rw [List.mem_singleton.mp hb]
    exact Nat.lt_of_lt_of_le (h.b a ha) hLd
theorem Half.len {n : Nat} {ps : List (Nat × Nat)} {L d : Nat} (h : Half n ps L d) (n1 : n ≤ 1000000000000) : ps.length ≤ 40 := by
  have h1 : ∀ (qs : List (Nat × Nat)), (∀ a ∈ qs, Pr a.1 ∧ 1 ≤ a.2) → 2 ^ qs.length ≤ made qs := by
    intro qs
    induction qs with
    | nil => intro _; exact Nat.le_refl _
    | cons a r ih =>
      intro hq
      have h2 := hq a List.mem_cons_self
      have h3 : 2 ^ 1 ≤ a.1 ^ a.2 := Nat.le_trans (Nat.pow_le_pow_left h2.1.1 1) (Nat.pow_le_pow_right (by have := h2.1.1; omega) h2.2)
      have h4 := ih fun b hb => hq b (List.mem_cons_of_mem _ hb)
      show 2 ^ (r.length + 1) ≤ a.1 ^ a.2 * made r
      rw [Nat.pow_succ, Nat.mul_comm]
      exact Nat.mul_le_mul h3 h4
  have h2 := h1 ps h.p
  have h3 : made ps * 1 ≤ made ps * L := Nat.mul_le_mul_left _ h.l0
  rw [h.m] at h3
  refine Classical.byContradiction fun c => ?_
  have h4 : (2 : Nat) ^ 40 ≤ 2 ^ ps.length := Nat.pow_le_pow_right (by decide) (by omega)
  have := big12
  omega
def sp_apart (K : PySem.W.Frag) : Sp := fun vs H Q _ => ∃ n : Nat, vs = [.int (n : Int)] ∧ 1 ≤ n ∧ n ≤ 1000000000000 ∧ ∀ a ps H', Same H H' → FactsAt K H' a (ci ps) → ps.length ≤ 41 → Apart ps n → Q (.ref a) H'
theorem ok_apart (T : Top K mg) : Ok P w K mg base 5 "apart" s_apart ["base"] (sp_apart K) := by
  have G_check_base := ok_check_base (P := P) (w := w) (base := base) T
  have G_times_in := ok_times_in (P := P) (w := w) (base := base) T
  refine T.d_apart.ok sc_apart (fun vs H Q E h => ?_) (fun f cdv A outer s H vs Q E hg hr h => ?_)
  · obtain ⟨n, rfl, _⟩ := h
    rfl
  · obtain ⟨n, rfl, n1, n2, q⟩ := h
    have E62 := e62
    refine ⟨_, (pss_cons (ps_expr (pe_g G_check_base (fun _ _ F => bd_check_base F) hg (hr.mono (by decide)) passL (by rfl) (pa_cons (pv 0) pa_nil)))
    (pss_cons (ps_set (i := 1) sc_apart.nd rfl (.inl rfl) (pe_lst pa_nil))
    (pss_cons (ps_set (i := 2) sc_apart.nd rfl (.inl rfl) (pv 0))
    (pss_cons (ps_set (i := 3) sc_apart.nd rfl (.inl rfl) pe_int)
    (pss_cons (ps_while (passes_of rfl) (pt_cmpR op_le (pe_op op_mulX (pv 3) (pv 3)) (pv 2) (nomark _)) (pss_cons (ps_if (pt_cmpR op_eqZ (pe_op op_mod (pv 2) (pv 3)) pe_int (nomark _)) (pss_cons (ps_set (i := 4) sc_apart.nd rfl (.inl rfl) (pe_g G_times_in (fun _ _ F => bd_times_in F) hg (hr.mono (by decide)) passL (by rfl) (pa_cons (pv 2) (pa_cons (pv 3) pa_nil))))
    (pss_cons (ps_expr (pe_bm PySem.F.plainAttrs_list PySem.F.slot_list_append PySem.F.type_list_append mt_append (pv 1) (pa_cons (pe_tup (pa_cons (pv 3) (pa_cons (pv 4) pa_nil))) pa_nil)))
    (pss_one (ps_for (passes_of rfl) rfl (pi_range1 (by rfl) T.b_range (pa_cons (pv 4) pa_nil)) (pg_name (i := 5) sc_apart.nd rfl (.inl rfl)) (pss_one (ps_aug (i := 2) sc_apart.nd rfl (.inl rfl) (pv 3) ip_fdivW)))))) pss_nil)
    (pss_one (ps_aug (i := 3) sc_apart.nd rfl (.inl rfl) (pe_ifExp (pt_cmpR op_eqZ (pv 3) pe_int (nomark _)) pe_int pe_int) ip_add))))
    (pss_cons (ps_if (pt_cmpR op_gt (pv 2) pe_int (nomark _)) (pss_one (ps_expr (pe_bm PySem.F.plainAttrs_list PySem.F.slot_list_append PySem.F.type_list_append mt_append (pv 1) (pa_cons (pe_tup (pa_cons (pv 2) (pa_cons pe_int pa_nil))) pa_nil)))) pss_nil)
    (pss_one (ps_ret (pe_callTy (T := "tuple") (c_tuple rfl) (by rfl) T.b_tuple (by decide +kernel) (pa_cons (pv 1) pa_nil)))))))))), ?_⟩
    walk_at "sti"
    refine ⟨(n : Int), rfl, by omega, by omega, ?_⟩
    walk_at "gi"
    rename_i F hF
    refine r_while (fun u σ H' => ∃ (d L : Nat) (ps : List (Nat × Nat)) (vs : List V) (x4 x5 : Option V), u + d = 1000003 ∧ σ = [some (.int (n : Int)), some (.ref F), some (.int (L : Int)), some (.int (d : Int)), x4, x5] ∧ Same H H' ∧ H' F = some (.lst vs) ∧ PairsAt K H' vs (ci ps) ∧ Half n ps L d ∧ 2 ≤ d ∧ (d = 2 ∨ d % 2 = 1)) 1000001
      ⟨2, n, [], [], _, _, rfl, rfl, Same.new hF, upd_same, .nil, ⟨by simp [made], by omega, fun a ha => by simp at ha, List.Pairwise.nil, fun a ha => by simp at ha, fun k a b => absurd a (by omega)⟩, by decide, .inl rfl⟩ fun u σ H1 hW => ?_
    obtain ⟨d, L, ps, vs, x4, x5, hu, rfl, s1, f1, p1, hh, d2, dd⟩ := hW
    have hL := hh.le
    have hl0 := hh.l0
    have hlen := hh.len n2
    have hvs : vs.length ≤ 40 := by rw [p1.length]; simp only [ci, List.length_map]; exact hlen
    walk_at "gi"
    refine r_rI (bit_mul (a := 64) (b := 64) (bit_of (by omega)) (bit_of (by omega)) (by decide)) ?_
    walk_at "gi"
    refine ifd (fun c => ?_) (fun c => ?_)
    · have c' : d * d ≤ L := by
        have : ((d * d : Nat) : Int) ≤ (L : Int) := by push_cast; exact c
        omega
      have d6 : d ≤ 1000000 := by
        refine Classical.byContradiction fun z => ?_
        have := Nat.mul_le_mul (show 1000001 ≤ d by omega) (show 1000001 ≤ d by omega)
        omega
      walk_at "go"
      refine j_s (fun σ' H' => ∃ (L' : Nat) (ps' : List (Nat × Nat)) (vs' : List V) (x4 x5 : Option V), σ' = [some (.int (n : Int)), some (.ref F), some (.int (L' : Int)), some (.int (d : Int)), x4, x5] ∧ Same H H' ∧ H' F = some (.lst vs') ∧ PairsAt K H' vs' (ci ps') ∧ Half n ps' L' (d + 1)) (fun nx' hnx => ?_) (fun σ' H2 hM => ?_)
      · walk_at "gi"
        refine r_rI (by omega) ?_
        walk_at "gi"
        refine ifd (fun c2 => ?_) (fun c2 => ?_)
        · have hd : d ∣ L := Int.natCast_dvd_natCast.mp (Int.dvd_of_emod_eq_zero c2)
          walk_at "gi"
          refine ⟨L, d, rfl, hl0, by omega, d2, by omega, fun e m hem hm he => ?_⟩
          walk_at "gi"
          refine ⟨.inl ⟨rfl, _, SqL.of f1⟩, ?_⟩
          walk_at "gi"
          rename_i t1 ht1
          refine r_app ((Same.new ht1) _ _ f1) (by omega) ?_
          walk_at "gi"
          have s3 : Same H (upd (upd H1 t1 (.tup [.int (d : Int), .int (e : Int)])) F (.lst (vs ++ [.ref t1]))) := fun b o eb => by
            rw [upd_ne (ne_of_none eb hF)]
            exact (Same.new ht1) _ _ (s1 _ _ eb)
          have p3 : PairsAt K (upd (upd H1 t1 (.tup [.int (d : Int), .int (e : Int)])) F (.lst (vs ++ [.ref t1]))) (vs ++ [.ref t1]) (ci (ps ++ [(d, e)])) := by
            rw [show ci (ps ++ [(d, e)]) = ci ps ++ [((d : Int), (e : Int))] by simp [ci]]
            exact PairsAt.tt (upd_tt ((Same.new ht1) _ _ f1)) (PairsAt.append (p1.tt (new_tt ht1)) (.cons ⟨t1, rfl, SqT.of upd_same⟩ .nil))
          have f3 : upd (upd H1 t1 (.tup [.int (d : Int), .int (e : Int)])) F (.lst (vs ++ [.ref t1])) F = some (.lst (vs ++ [.ref t1])) := upd_same
          generalize upd (upd H1 t1 (.tup [.int (d : Int), .int (e : Int)])) F (.lst (vs ++ [.ref t1])) = H3 at *
          refine ⟨by omega, by omega, ?_⟩
          rw [Int.toNat_natCast]
          have h4 := hh.take d2 hd hem hm
          refine r_forR (fun j σ H' => ∃ x5, σ = [some (.int (n : Int)), some (.ref F), some (.int ((d ^ (e - j) * m : Nat) : Int)), some (.int (d : Int)), some (.int (e : Int)), x5] ∧ H' = H3) ⟨x5, by rw [Nat.sub_zero, ← hem]; rfl, rfl⟩ (fun j σ H' hj hP => ?_) (fun σ H' hP => ?_)
          · obtain ⟨x5, rfl, rfl⟩ := hP
            walk_at "gi"
            refine r_ipC (divw_of (j := (d : Int)) (by omega) (by omega)) ?_
            walk_at "gi"
            refine ⟨some (.int (0 + (j : Int))), ?_, rfl⟩
            rw [show e - j = (e - (j + 1)) + 1 by omega, Nat.pow_succ, show d ^ (e - (j + 1)) * d * m = d * (d ^ (e - (j + 1)) * m) by rw [Nat.mul_comm _ d, Nat.mul_assoc], Int.natCast_mul, Int.mul_ediv_cancel_left _ (by omega)]
            rfl
          · obtain ⟨x5, rfl, rfl⟩ := hP
            rw [Nat.sub_self, Nat.pow_zero, Nat.one_mul]
            exact hnx _ _ ⟨m, _, _, _, _, rfl, s3, f3, p3, h4⟩
        · have hd : ¬ d ∣ L := fun h => c2 (Int.emod_eq_zero_of_dvd (Int.natCast_dvd_natCast.mpr h))
          walk_at "gi"
          exact hnx _ _ ⟨L, ps, vs, _, _, rfl, s1, f1, p1, hh.on hd⟩
      obtain ⟨L', ps', vs', x4', x5', rfl, s2, f2, p2, h2⟩ := hM
      walk_at "gi"
      refine ifd (fun c3 => ?_) (fun c3 => ?_)
      · have d22 : d = 2 := by omega
        subst d22
        walk_at "gi"
        exact ⟨u - 1, by omega, 3, L', ps', vs', _, _, by omega, rfl, s2, f2, p2, h2, by decide, .inr rfl⟩
      · walk_at "gi"
        exact ⟨u - 2, by omega, d + 2, L', ps', vs', _, _, by omega, rfl, s2, f2, p2, h2.odd (by omega) (by omega), by omega, .inr (by omega)⟩
    · have c' : L < d * d := by
        refine Nat.lt_of_not_le fun z => c ?_
        have : ((d * d : Nat) : Int) ≤ (L : Int) := by omega
        push_cast at this
        exact this
      walk_at "gi"
      refine ifd (fun c3 => ?_) (fun c3 => ?_)
      · walk_at "gi"
        refine ⟨.inl ⟨rfl, _, SqL.of f1⟩, ?_⟩
        walk_at "gi"
        rename_i t1 ht1
        refine r_app ((Same.new ht1) _ _ f1) (by omega) ?_
        walk_at "gi"
        refine r_tupL (SqL.of upd_same) fun a ha => ?_
        refine q a (ps ++ [(L, 1)]) _ (fun b o eb => ?_) ⟨_, SqT.of upd_same, ?_⟩ (by rw [List.length_append]; simp; omega) (hh.last d2 c' (by omega))
        · have e2 : upd (upd H1 t1 (.tup [.int (L : Int), .int 1])) F (.lst (vs ++ [.ref t1])) b = some o := by
            rw [upd_ne (ne_of_none eb hF)]
            exact (Same.new ht1) _ _ (s1 _ _ eb)
          exact (Same.new ha) _ _ e2
        · rw [show ci (ps ++ [(L, 1)]) = ci ps ++ [((L : Int), (1 : Int))] by simp [ci]]
          exact PairsAt.tt (new_tt ha) (PairsAt.tt (upd_tt ((Same.new ht1) _ _ f1)) (PairsAt.append (p1.tt (new_tt ht1)) (.cons ⟨t1, rfl, SqT.of upd_same⟩ .nil)))
      · walk_at "gi"
        have L1 : L = 1 := by omega
        refine r_tupL (SqL.of f1) fun a ha => ?_
        refine q a ps _ (s1.trans (Same.new ha)) ⟨_, SqT.of upd_same, p1.tt (new_tt ha)⟩ (by omega) ⟨?_, hh.p, hh.s⟩
        have := hh.m
        rw [L1, Nat.mul_one] at this
        exact this
theorem made_dvd : ∀ (ps : List (Nat × Nat)) (a : Nat × Nat), a ∈ ps → 1 ≤ a.2 → a.1 ∣ made ps ∧ a.1 ^ a.2 ∣ made ps
  | [], a, h, _ => by simp at h
  | b :: r, a, h, ha => by
    show a.1 ∣ b.1 ^ b.2 * made r ∧ a.1 ^ a.2 ∣ b.1 ^ b.2 * made r
    rcases List.mem_cons.mp h with e | e
    · subst e
      exact ⟨Nat.dvd_trans (by obtain ⟨k, hk⟩ : ∃ k, a.2 = k + 1 := ⟨a.2 - 1, by omega⟩
                               rw [hk, Nat.pow_succ]
                               exact Nat.dvd_mul_left _ _) (Nat.dvd_mul_right _ _), Nat.dvd_mul_right _ _⟩
    · have := made_dvd r a e ha
      exact ⟨Nat.dvd_trans this.1 (Nat.dvd_mul_left _ _), Nat.dvd_trans this.2 (Nat.dvd_mul_left _ _)⟩
theorem ci_at {ps : List (Nat × Nat)} {i : Nat} {z : Int × Int} (h : (ci ps)[i]? = some z) : ∃ a, ps[i]? = some a ∧ z = ((a.1 : Int), (a.2 : Int)) := by
  unfold ci at h
  rw [List.getElem?_map, Option.map_eq_some_iff] at h
  obtain ⟨a, ha, e⟩ := h
  exact ⟨a, ha, e.symm⟩
end
section
variable {P : Program} {w : World} {K : PySem.W.Frag} {mg : Str → Option Value} {base : Heap}
def sp_raised : Sp := fun vs H Q _ => ∃ x t : Nat, vs = [.int (x : Int), .int (t : Int)] ∧ 1 ≤ x ∧ x ≤ 4096 ∧ t ≤ 128 ∧ Q (.int ((x ^ t : Nat) : Int)) H
theorem pow_big {x t : Nat} (h1 : x ≤ 4096) (h2 : t ≤ 128) : x ^ t < 2 ^ 1600 := by
  refine Nat.lt_of_le_of_lt (Nat.le_trans (Nat.pow_le_pow_left h1 t) (Nat.pow_le_pow_right (by decide) h2)) ?_
  decide +kernel
theorem ok_raised (T : Top K mg) : Ok P w K mg base 1 "raised" s_raised ["number", "times"] sp_raised := by
  refine T.d_raised.ok sc_raised (fun vs H Q E h => ?_) (fun f cdv A outer s H vs Q E hg hr h => ?_)
  · obtain ⟨x, t, rfl, _⟩ := h
    rfl
  · obtain ⟨x, t, rfl, x1, x2, ht, q⟩ := h
    have big := pow_big x2 ht
    refine ⟨_, (pss_cons (ps_set (i := 2) sc_raised.nd rfl (.inl rfl) pe_int)
    (pss_cons (ps_set (i := 3) sc_raised.nd rfl (.inl rfl) (pv 0))
    (pss_cons (ps_set (i := 4) sc_raised.nd rfl (.inl rfl) (pv 1))
    (pss_cons (ps_while (passes_of rfl) (pt_truth (pv 4) (by intro _; rfl)) (pss_cons (ps_if (pt_truth (pe_op op_odd (pv 4) pe_int) (by intro _; rfl)) (pss_one (ps_aug (i := 2) sc_raised.nd rfl (.inl rfl) (pv 3) ip_mulX)) pss_nil)
    (pss_cons (ps_aug (i := 4) sc_raised.nd rfl (.inl rfl) pe_int ip_half)
    (pss_one (ps_if (pt_truth (pv 4) (by intro _; rfl)) (pss_one (ps_aug (i := 3) sc_raised.nd rfl (.inl rfl) (pv 3) ip_mulX)) pss_nil)))))
    (pss_one (ps_ret (pv 2))))))), ?_⟩
    walk_at "sti"
    refine r_while (fun m σ H' => H' = H ∧ ∃ p f : Nat, σ = [some (.int (x : Int)), some (.int (t : Int)), some (.int (p : Int)), some (.int (f : Int)), some (.int (m : Int))] ∧ 1 ≤ p ∧ 1 ≤ f ∧ p * f ^ m = x ^ t) t ⟨rfl, 1, x, rfl, Nat.le_refl _, x1, Nat.one_mul _⟩ (fun m σ H' hW => ?_)
    obtain ⟨rfl, p, f, rfl, p0, f0, e⟩ := hW
    walk_at "go"
    refine ifb (fun cm => ?_) (fun cm => ?_)
    · have m0 : m ≠ 0 := by
        intro z
        subst z
        exact absurd cm (by decide)
      have f1 : 1 ≤ f ^ m := Nat.one_le_pow _ _ f0
      have f2 : f ≤ f ^ m := by
        have := Nat.pow_le_pow_right f0 (show 1 ≤ m by omega)
        rwa [Nat.pow_one] at this
      have pb : p ≤ x ^ t := by rw [← e]; exact Nat.le_mul_of_pos_right _ f1
      have fb : f ≤ x ^ t := by rw [← e]; exact Nat.le_trans f2 (Nat.le_mul_of_pos_left _ p0)
      generalize hX : (2 : Nat) ^ 1600 = X at big
      have bp : CMulX (p : Int) (f : Int) := bit_mul (a := 1600) (b := 1600) (bit_of (by rw [Int.natAbs_natCast, hX]; omega)) (bit_of (by rw [Int.natAbs_natCast, hX]; omega)) (by decide)
      have bf : CMulX (f : Int) (f : Int) := bit_mul (a := 1600) (b := 1600) (bit_of (by rw [Int.natAbs_natCast, hX]; omega)) (bit_of (by rw [Int.natAbs_natCast, hX]; omega)) (by decide)
      have half : ((m : Nat) : Int) / 2 = ((m / 2 : Nat) : Int) := by omega
      have fm : f ^ m = f ^ (m % 2) * (f * f) ^ (m / 2) := by
        rw [← Nat.pow_two, ← Nat.pow_mul, ← Nat.pow_add]
        congr 1
        omega
      walk_at "go"
      refine j_s (fun σ H2 => H2 = H' ∧ σ = [some (.int (x : Int)), some (.int (t : Int)), some (.int ((p * f ^ (m % 2) : Nat) : Int)), some (.int (f : Int)), some (.int (m : Int))]) (fun nx' hnx => ?_) (fun σ2 H2 hM => ?_)
      · walk_at "gi"
        refine ⟨rfl, ?_⟩
        walk_at "gi"
        refine ifb (fun ck => ?_) (fun ck => ?_)
        · have mo : m % 2 = 1 := by
            have z : ((m % 2 : Nat) : Int) ≠ 0 := by simpa using ck
            omega
          walk_at "gi"
          refine r_ipC bp ?_
          walk_at "gi"
          refine hnx _ _ ⟨rfl, ?_⟩
          rw [mo, Nat.pow_one, Int.natCast_mul]
          rfl
        · have mo : m % 2 = 0 := by
            have z : ((m % 2 : Nat) : Int) = 0 := by simpa using ck
            omega
          walk_at "gi"
          refine hnx _ _ ⟨rfl, ?_⟩
          rw [mo, Nat.pow_zero, Nat.mul_one]
      obtain ⟨rfl, rfl⟩ := hM
      walk_at "go"
      refine r_half ?_
      walk_at "gi"
      rw [half]
      refine ifb (fun ck => ?_) (fun ck => ?_)
      · walk_at "gi"
        refine r_ipC bf ?_
        walk_at "gi"
        refine ⟨m / 2, by omega, rfl, p * f ^ (m % 2), f * f, by rw [Int.natCast_mul]; rfl, Nat.mul_pos p0 (Nat.one_le_pow _ _ f0), Nat.mul_pos f0 f0, ?_⟩
        rw [Nat.mul_assoc, ← fm, e]
      · have mo : m / 2 = 0 := by
          have z : ((m / 2 : Nat) : Int) = 0 := by simpa using ck
          omega
        walk_at "gi"
        refine ⟨m / 2, by omega, rfl, p * f ^ (m % 2), f, rfl, Nat.mul_pos p0 (Nat.one_le_pow _ _ f0), f0, ?_⟩
        rw [mo, Nat.pow_zero, Nat.mul_one, ← e, fm, mo, Nat.pow_zero, Nat.mul_one]
    · have m0 : m = 0 := by
        have z : ((m : Nat) : Int) = 0 := by simpa using cm
        omega
      subst m0
      walk_at "gi"
      rw [Nat.pow_zero, Nat.mul_one] at e
      rw [← e] at q
      exact q
end
section
variable {P : Program} {w : World} {K : PySem.W.Frag} {mg : Str → Option Value} {base : Heap}
/-! ### tails and rounds -/
def sp_pa : Sp := fun vs H Q _ => ∃ p : Nat, vs = [.int (p : Int)] ∧ 2 ≤ p ∧ p ≤ 1000000 ∧ Pr p ∧ ∀ l (qs : List Nat) H', Same H H' → H' l = some (.lst (qs.map fun q : Nat => V.int (q : Int))) → (∀ q ∈ qs, 2 ≤ q ∧ q ≤ 1000001) → qs.length ≤ 90 → (∀ q, Pr q → q ∣ p * p * (p - 1) * (p + 1) → q ∈ qs) → Q (.ref l) H'
theorem ok_primes_around (T : Top K mg) : Ok P w K mg base 6 "primes_around" s_primes_around ["prime"] sp_pa := by
  have G_apart := ok_apart (P := P) (w := w) (base := base) T
  refine T.d_primes_around.ok sc_primes_around (fun vs H Q E h => ?_) (fun f cdv A outer s H vs Q E hg hr h => ?_)
  · obtain ⟨p, rfl, _⟩ := h
    rfl
  · obtain ⟨p, rfl, p2, p1, hp, q⟩ := h
    refine ⟨_, (pss_one (ps_ret (pe_op op_cat (pe_lst (pa_cons (pv 0) pa_nil)) (pe_lc2 (own := [("near", 1), ("factor", 2), ("_", 3)]) (by rfl) sc_primes_around.nd (i_tup' rfl (pe_tup (pa_cons (pe_op op_sub (pv 0) pe_int) (pa_cons (pe_op op_add (pv 0) pe_int) pa_nil)))) (blkOk_by (own := [("near", 1), ("factor", 2), ("_", 3)]) (N := ["prime", "near", "factor", "_"]) (sc := defScope s_primes_around) (by decide +kernel)) (vs1 := [2, 3]) (by decide) (fun _ _ _ _ _ => (pg_name (i := 1) sc_primes_around.nd rfl (by first | exact Or.inl rfl | exact Or.inr rfl))) (fun _ _ _ _ _ => pts_nil) (fun _ _ _ _ _ => (i_tup' rfl (pe_g G_apart (fun _ _ F => bd_apart F) hg (hr.mono (by decide)) passL (by rfl) (pa_cons (pv 1) pa_nil)))) (fun _ _ _ _ _ => (g_tup (n := 2) rfl rfl (pgs_cons (pg_name (i := 2) sc_primes_around.nd rfl (by first | exact Or.inl rfl | exact Or.inr rfl)) (pgs_cons (pg_name (i := 3) sc_primes_around.nd rfl (by first | exact Or.inl rfl | exact Or.inr rfl)) pgs_nil)) rfl rfl)) (fun _ _ _ _ _ => (pts_one (pt_cmpR op_neZ (pv 2) (pv 0) (nomark _)))) (fun _ _ _ _ _ => (pv 2)))))), ?_⟩
    walk_at "sti"
    rename_i l0 hl0
    have s0 : Same H (upd H l0 (.lst [.int (p : Int)])) := Same.new hl0
    have e0 : upd H l0 (.lst [.int (p : Int)]) l0 = some (.lst [.int (p : Int)]) := upd_same
    generalize upd H l0 (.lst [.int (p : Int)]) = H0 at *
    refine r_lc2Ti ?_
    walk_at "gi"
    rename_i t0 ht0
    rw [show (p : Int) - 1 = ((p - 1 : Nat) : Int) by omega, show (p : Int) + 1 = ((p + 1 : Nat) : Int) by omega]
    have sv : SqT K (upd H0 t0 (.tup [.int ((p - 1 : Nat) : Int), .int ((p + 1 : Nat) : Int)])) t0 [.int ((p - 1 : Nat) : Int), .int ((p + 1 : Nat) : Int)] := SqT.of upd_same
    have s1 := s0.trans (Same.new (o := .tup [.int ((p - 1 : Nat) : Int), .int ((p + 1 : Nat) : Int)]) ht0)
    have e1 := at_new (o := .tup [.int ((p - 1 : Nat) : Int), .int ((p + 1 : Nat) : Int)]) ht0 e0
    generalize upd H0 t0 (.tup [.int ((p - 1 : Nat) : Int), .int ((p + 1 : Nat) : Int)]) = H1 at *
    have near : ∀ (i : Nat) (x : V), [V.int ((p - 1 : Nat) : Int), V.int ((p + 1 : Nat) : Int)][i]? = some x → ∃ n : Nat, x = .int (n : Int) ∧ 1 ≤ n ∧ n ≤ 1000001 ∧ i < 2 ∧ n = (if i = 0 then p - 1 else p + 1) := fun i x hx => by
      rcases i with _ | _ | i
      · exact ⟨p - 1, (Option.some.inj hx).symm, by omega, by omega, by omega, rfl⟩
      · exact ⟨p + 1, (Option.some.inj hx).symm, by omega, by omega, by omega, rfl⟩
      · exact absurd hx (by simp)
    refine r_lc2T _ (fun D i H' => Same H1 H' ∧ ∃ qs : List Nat, H' D = some (.lst (qs.map fun q : Nat => V.int (q : Int))) ∧ qs.length ≤ 41 * i ∧ (∀ q ∈ qs, 2 ≤ q ∧ q ≤ 1000001) ∧ ∀ j, j < i → ∀ q, Pr q → q ∣ (if j = 0 then p - 1 else p + 1) → q ≠ p → q ∈ qs)
      (fun D hD => ⟨Same.new hD, [], upd_same, Nat.le_refl _, (fun q h => nomatch h), fun j h => absurd h (Nat.not_lt_zero _)⟩) (fun D i H' hD hi hP => Same.tup hP.1 sv) (fun D i x H' hD hx hP => ?_) (fun D H' hD hP => ?_)
    · obtain ⟨s2, qs, eD, lq, bq, mq⟩ := hP
      obtain ⟨n, rfl, n1, n2, i2, en⟩ := near i x hx
      walk_at "gi"
      refine ⟨rfl, ?_⟩
      walk_at "gi"
      refine r_wT ?_
      walk_at "gi"
      refine ⟨n, rfl, n1, by omega, fun b ps H3 s3 fb hl Ap => ?_⟩
      obtain ⟨vs, sb, pb⟩ := fb
      have lv : vs.length = ps.length := by rw [pb.length]; simp [ci]
      have eD3 := s3 _ _ eD
      refine ⟨b, rfl, ⟨vs, sb⟩, ?_⟩
      refine inn_tup vs (fun j G => Same H1 G ∧ SqT K G b vs ∧ PairsAt K G vs (ci ps) ∧ ∃ qs' : List Nat, G D = some (.lst (qs'.map fun q : Nat => V.int (q : Int))) ∧ qs'.length ≤ 41 * i + j ∧ (∀ q ∈ qs', 2 ≤ q ∧ q ≤ 1000001) ∧ (∀ q ∈ qs, q ∈ qs') ∧ ∀ a ∈ ps.take j, a.1 ≠ p → a.1 ∈ qs')
        ⟨s2.trans s3, sb, pb, qs, eD3, lq, bq, (fun q h => h), (fun a ha => nomatch ha)⟩ (fun j G hj hP => hP.2.1) (fun j y G hy hP => ?_) (fun G hP => ?_)
      · obtain ⟨s4, sb4, pb4, qs', eG, lq', bq', in', mq'⟩ := hP
        have jl := (List.getElem?_eq_some_iff.mp hy).1
        obtain ⟨z, hz, t, rfl, st⟩ := pb4.get hy
        obtain ⟨c, hc, rfl⟩ := ci_at hz
        have hm := List.mem_of_getElem? hc
        have h1 := Ap.p c hm
        have h2 := made_dvd ps c hm h1.2
        rw [Ap.m] at h2
        have c2 := h1.1.1
        have cn := Nat.le_of_dvd (by omega) h2.1
        refine r_gtup st rfl ?_
        walk_at "gi"
        refine ⟨rfl, ?_⟩
        walk_at "gi"
        have tk : ps.take (j + 1) = ps.take j ++ [c] := take_one hc
        refine ifnd (fun ne => ?_) (fun eq => ?_)
        · walk_at "gi"
          have tt := upd_tt (o := .lst (qs'.map (fun q : Nat => V.int (q : Int)) ++ [.int (c.1 : Int)])) eG
          refine ⟨_, eG, lenle (n := 200) (by rw [List.length_map]; omega) (by decide), fun o u e => ?_, tt K _ _ sb4, pb4.tt tt, qs' ++ [c.1], ?_, ?_, fun q hq => ?_, fun q hq => List.mem_append_left _ (in' q hq), fun a ha na => ?_⟩
          · rw [upd_ne (ne_of_none e hD)]
            exact s4 _ _ e
          · rw [List.map_append]
            exact upd_same
          · rw [List.length_append]
            show qs'.length + 1 ≤ _
            omega
          · rcases List.mem_append.mp hq with y | y
            · exact bq' q y
            · rw [List.mem_singleton.mp y]
              omega
          · rw [tk] at ha
            rcases List.mem_append.mp ha with y | y
            · exact List.mem_append_left _ (mq' a y na)
            · rw [List.mem_singleton.mp y]
              exact List.mem_append_right _ (List.mem_singleton.mpr rfl)
        · refine ⟨s4, sb4, pb4, qs', eG, by omega, bq', in', fun a ha na => ?_⟩
          rw [tk] at ha
          rcases List.mem_append.mp ha with y | y
          · exact mq' a y na
          · rw [List.mem_singleton.mp y] at na
            exact absurd (by omega) na
      · obtain ⟨s4, _, _, qs', eG, lq', bq', in', mq'⟩ := hP
        rw [lv, List.take_length] at mq'
        refine ⟨s4, qs', eG, by omega, bq', fun j hj r hr hd hne => ?_⟩
        rcases Nat.lt_or_ge j i with l | l
        · exact in' r (mq j l r hr hd hne)
        · have : j = i := by omega
          subst this
          rw [← en, ← Ap.m] at hd
          obtain ⟨a, ha, rfl⟩ := made_prime hr ps Ap.p hd
          exact mq' a ha hne
    · obtain ⟨s2, qs, eD, lq, bq, mq⟩ := hP
      refine r_cat (s2 _ _ e1) eD (by rw [List.length_map]; show 1 + _ ≤ _; have : qs.length ≤ 41 * 2 := lq; omega) fun l hl => ?_
      have lq2 : qs.length ≤ 82 := lq
      refine q l (p :: qs) _ ((s1.trans s2).trans (Same.new hl)) upd_same (fun r hr => ?_) (by rw [List.length_cons]; omega) fun r hr hd => ?_
      · rcases List.mem_cons.mp hr with rfl | y
        · omega
        · exact bq r y
      · by_cases e : r = p
        · rw [e]; exact List.mem_cons_self ..
        · refine List.mem_cons_of_mem _ ?_
          have h1 : (r : Int) ∣ ((p * p * (p - 1) : Nat) : Int) * ((p + 1 : Nat) : Int) := by rw [← Int.natCast_mul]; exact Int.ofNat_dvd.mpr hd
          rcases hr.euclid h1 with y | y
          · rw [Int.natCast_mul] at y
            rcases hr.euclid y with z | z
            · rw [Int.natCast_mul] at z
              have pp : r ∣ p := by
                rcases hr.euclid z with w | w
                · exact Int.ofNat_dvd.mp w
                · exact Int.ofNat_dvd.mp w
              rcases hp.2 r pp with w | w
              · have := hr.1; omega
              · exact absurd w e
            · exact mq 0 (Nat.le_of_ble_eq_true rfl) r hr (Int.ofNat_dvd.mp z) e
          · exact mq 1 (Nat.le_of_ble_eq_true rfl) r hr (Int.ofNat_dvd.mp y) e
end
section
variable {P : Program} {w : World} {K : PySem.W.Frag} {mg : Str → Option Value} {base : Heap}
/-! ### the round by the next power -/
theorem cg_pow {n : Int} {M N : Mt} (h : Cg n M N) : ∀ k, Cg n (pw M k) (pw N k)
  | 0 => Cg.refl _ _
  | k + 1 => by
    rw [pw_add M k 1, pw_add N k 1]
    refine (cg_pow h k).mul ?_
    have e : ∀ S : Mt, pw S 1 = S := fun S => by apply Mt.ext' <;> simp [Vf.pw, Mt.mul, Mt.one]
    rw [e, e]
    exact h
theorem pw_pw (S : Mt) (r : Nat) : ∀ m, pw (pw S r) m = pw S (r * m)
  | 0 => rfl
  | m + 1 => by
    rw [pw_add (pw S r) m 1, pw_pw S r m, Nat.mul_succ, pw_add S (r * m) r]
    congr 1
    apply Mt.ext' <;> simp [Vf.pw, Mt.mul, Mt.one]
theorem cg_trans {n : Int} {L M N : Mt} (h : Cg n L M) (g : Cg n M N) : Cg n L N := ⟨Vf.dv_tr h.1 g.1, Vf.dv_tr h.2.1 g.2.1, Vf.dv_tr h.2.2.1 g.2.2.1, Vf.dv_tr h.2.2.2 g.2.2.2⟩
theorem md_of {n x y : Int} (h : n ∣ x - y) : x % n = y % n := Int.emod_eq_emod_iff_emod_sub_eq_zero.mpr (Int.emod_eq_zero_of_dvd h)
theorem md_to {n x y : Int} (h : x % n = y % n) : n ∣ x - y := Int.dvd_of_emod_eq_zero (Int.emod_eq_emod_iff_emod_sub_eq_zero.mp h)
/-- the pair j steps on -/
theorem stp_val {n a b x y X Y : Int} {l j : Nat} {M : Mt} (hM : Cg n M (pw ⟨0, 1, b, a⟩ j)) (hX : n ∣ X - rv a b x y l) (hY : n ∣ Y - rv a b x y (l + 1)) :
    (M.p * X + M.q * Y) % n = rv a b x y (l + j) % n ∧ (M.r * X + M.s * Y) % n = rv a b x y (l + j + 1) % n := by
  have R := Vf.rec_from (Vf.rv_rec a b x y) l
  have e := Vf.rec_rv R j
  have p := pw_act a b j (rv a b x y (l + 0)) (rv a b x y (l + 1))
  rw [← e.1, ← e.2] at p
  constructor
  · refine md_of ?_
    show n ∣ M.p * X + M.q * Y - rv a b x y (l + j)
    rw [← p.1]
    exact dv_add (dv_mul hM.1 hX) (dv_mul hM.2.1 hY)
  · refine md_of ?_
    show n ∣ M.r * X + M.s * Y - rv a b x y (l + (j + 1))
    rw [← p.2]
    exact dv_add (dv_mul hM.2.2.1 hX) (dv_mul hM.2.2.2 hY)
theorem pd_iff {n a b x y : Int} {l j : Nat} : decide ([rv a b x y (l + j) % n, rv a b x y (l + j + 1) % n] = [rv a b x y l % n, rv a b x y (l + 1) % n]) = true ↔ Vf.Pd n (rv a b x y) l j := by
  rw [decide_eq_true_iff]
  constructor
  · intro h
    have h1 := List.cons.inj h
    have h2 := List.cons.inj h1.2
    exact ⟨md_to h1.1, md_to h2.1⟩
  · intro h
    rw [md_of h.1, md_of h.2]
theorem T_eq (p : Nat) (p1 : 1 ≤ p) : p * p * (p - 1) * (p + 1) = Vf.npq p * p := by
  obtain ⟨k, rfl⟩ : ∃ k, p = k + 1 := ⟨p - 1, by omega⟩
  unfold Vf.npq
  have e : (k + 1) * (k + 1) - 1 = k * (k + 2) := by
    have : (k + 1) * (k + 1) = k * (k + 2) + 1 := by grind
    omega
  rw [Nat.add_sub_cancel, e]
  grind
def sp_nr (K : PySem.W.Frag) : Sp := fun vs H Q _ => ∃ (s t : Addr) (a b x y X Y : Int) (p k l r N : Nat), vs = [.ref s, .ref t, .int (p : Int), .int ((k + 1 : Nat) : Int), .int (r : Int)] ∧ MtAt K H s ⟨0, 1, b, a⟩ ∧ Rn a b x y ∧ SqT K H t [.int X, .int Y] ∧
  X.natAbs ≤ 1000000000000 ∧ Y.natAbs ≤ 1000000000000 ∧ ((p ^ (k + 1) : Nat) : Int) ∣ X - rv a b x y l ∧ ((p ^ (k + 1) : Nat) : Int) ∣ Y - rv a b x y (l + 1) ∧ p ∈ Vf.smallP ∧ Pr p ∧ p ^ (k + 1) ≤ 1000000000000 ∧ k ≤ 100 ∧
  Vf.LP ((p ^ k : Nat) : Int) (rv a b x y) l r ∧ r ≤ 2 ^ 200 ∧ 0 < N ∧ Vf.Pd ((p ^ (k + 1) : Nat) : Int) (rv a b x y) l N ∧ ∀ c H', Same H H' → Vf.LP ((p ^ (k + 1) : Nat) : Int) (rv a b x y) l c → Q (.int (c : Int)) H'
theorem ok_next_round (T : Top K mg) : Ok P w K mg base 7 "next_round" s_next_round ["step", "pair", "prime", "often", "known"] (sp_nr K) := by
  have G_raised := ok_raised (P := P) (w := w) (base := base) T
  have G_stepped := ok_stepped (P := P) (w := w) (base := base) T
  have G_many_steps := ok_many_steps (P := P) (w := w) (base := base) T
  have G_primes_around := ok_primes_around (P := P) (w := w) (base := base) T
  refine T.d_next_round.ok sc_next_round (fun vs H Q E h => ?_) (fun f cdv A outer s H vs Q E hg hr h => ?_)
  · obtain ⟨s, t, a, b, x, y, X, Y, p, k, l, r, N, rfl, _⟩ := h
    rfl
  · obtain ⟨s, t, a, b, x, y, X, Y, p, k, l, r, N, rfl, ss, hR, st, bX, bY, cX, cY, hm, hp, n1, k1, L, r1, N0, hN, q⟩ := h
    have p2 := hp.1
    have p59 : p ≤ 59 := by
      have : ∀ p ∈ Vf.smallP, p ≤ 59 := by decide
      exact this p hm
    have n0 : 0 < p ^ (k + 1) := Nat.pow_pos (by omega)
    have E30 : (10 : Int) ^ 30 = 1000000000000000000000000000000 := by decide
    refine ⟨_, (pss_cons (ps_set (i := 5) sc_next_round.nd rfl (.inl rfl) (pe_g G_raised (fun _ _ F => bd_raised F) hg (hr.mono (by decide)) passL (by rfl) (pa_cons (pv 2) (pa_cons (pv 3) pa_nil))))
    (pss_cons (ps_set (i := 6) sc_next_round.nd rfl (.inl rfl) (pe_g G_stepped (fun _ _ F => bd_stepped F) hg (hr.mono (by decide)) passL (by rfl) (pa_cons (pe_gr T.g_STAY (by rfl)) (pa_cons (pv 1) (pa_cons (pv 5) pa_nil)))))
    (pss_cons (ps_set (i := 7) sc_next_round.nd rfl (.inl rfl) (pe_g G_many_steps (fun _ _ F => bd_many_steps F) hg (hr.mono (by decide)) passL (by rfl) (pa_cons (pv 0) (pa_cons (pv 4) (pa_cons (pv 5) pa_nil)))))
    (pss_cons (ps_set (i := 8) sc_next_round.nd rfl (.inl rfl) (pe_op op_mulX (pe_op op_mulX (pe_op op_mulX (pv 2) (pv 2)) (pe_op op_sub (pv 2) pe_int)) (pe_op op_add (pv 2) pe_int)))
    (pss_cons (ps_for (passes_of rfl) rfl (i_list rfl (pe_g G_primes_around (fun _ _ F => bd_primes_around F) hg (hr.mono (by decide)) passL (by rfl) (pa_cons (pv 2) pa_nil))) (pg_name (i := 9) sc_next_round.nd rfl (.inl rfl)) (pss_one (ps_while (passes_of rfl) (PW.pt (pw_and (pt_cmpR op_eqZ (pe_op op_mod (pv 8) (pv 9)) pe_int (nomark _)) (pw_and1 (pt_cmpR (o_eqD rfl hr.units) (pe_g G_stepped (fun _ _ F => bd_stepped F) hg (hr.mono (by decide)) passL (by rfl) (pa_cons (pe_g G_many_steps (fun _ _ F => bd_many_steps F) hg (hr.mono (by decide)) passL (by rfl) (pa_cons (pv 7) (pa_cons (pe_op op_fdivW (pv 8) (pv 9)) (pa_cons (pv 5) pa_nil)))) (pa_cons (pv 6) (pa_cons (pv 5) pa_nil)))) (pv 6) (nomark _))))) (pss_one (ps_aug (i := 8) sc_next_round.nd rfl (.inl rfl) (pv 9) ip_fdivW)))))
    (pss_one (ps_ret (pe_op op_mulX (pv 4) (pv 8))))))))), ?_⟩
    walk_at "sti"
    refine ⟨p, k + 1, rfl, by omega, by omega, by omega, ?_⟩
    have dkn : ((p ^ k : Nat) : Int) ∣ ((p ^ (k + 1) : Nat) : Int) := Int.ofNat_dvd.mpr (Nat.pow_dvd_pow p (Nat.le_succ k))
    have cyc := Vf.lift_cyc hm p2 (Vf.rv_rec a b x y) N0 hN L.2.1
    generalize hn : p ^ (k + 1) = n at *
    walk_at "gi"
    refine ⟨cA mg "STAY", t, Mt.one, X, Y, (n : Int), rfl, T.v_STAY H, st, Sml.one, bX, bY, by omega, fun bg H1 s1 nb eb => ?_⟩
    have eb1 : H1 bg = some (.tup [.int (rv a b x y l % (n : Int)), .int (rv a b x y (l + 1) % (n : Int))]) := by
      have := stp_val (j := 0) (Cg.refl (n : Int) (pw ⟨0, 1, b, a⟩ 0)) cX cY
      have e1 : (Mt.one.p * X + Mt.one.q * Y) % (n : Int) = rv a b x y l % (n : Int) := this.1
      have e2 : (Mt.one.r * X + Mt.one.s * Y) % (n : Int) = rv a b x y (l + 1) % (n : Int) := this.2
      rw [eb, e1, e2]
    walk_at "gi"
    refine ⟨s, ⟨0, 1, b, a⟩, r, (n : Int), rfl, Same.tup s1 ss, Sml.step hR, by omega, by omega, fun fu M H2 s2 sM bM cM => ?_⟩
    walk_at "gi"
    have eT : (p : Int) * (p : Int) * ((p : Int) - 1) * ((p : Int) + 1) = ((Vf.npq p * p : Nat) : Int) := by
      rw [← T_eq p (by omega)]
      push_cast
      rw [Int.natCast_sub (by omega)]
      rfl
    have Tb : Vf.npq p * p ≤ 59 * (59 * 59) * 59 := by
      have h1 := Nat.mul_le_mul p59 p59
      exact Nat.mul_le_mul (Nat.mul_le_mul p59 (by omega)) p59
    have T0 : 0 < Vf.npq p * p := Nat.mul_pos (Vf.npq_pos p2) (by omega)
    have pp : (p : Int) * (p : Int) = ((p * p : Nat) : Int) := rfl
    have pb : p * p ≤ 59 * 59 := Nat.mul_le_mul p59 p59
    refine r_rI (bit_mul (a := 20) (b := 20) (bit_of (by omega)) (bit_of (by omega)) (by decide)) ?_
    walk_at "gi"
    have q3 : p * p * (p - 1) ≤ 59 * 59 * 59 := Nat.mul_le_mul pb (by omega)
    have e3 : (p : Int) * (p : Int) * ((p : Int) - 1) = ((p * p * (p - 1) : Nat) : Int) := by
      push_cast
      rw [Int.natCast_sub (by omega)]
      rfl
    refine r_rI (bit_mul (a := 20) (b := 20) (bit_of (by rw [pp]; omega)) (bit_of (by omega)) (by decide)) ?_
    walk_at "gi"
    refine r_rI (bit_mul (a := 20) (b := 20) (bit_of (by rw [e3]; omega)) (bit_of (by omega)) (by decide)) ?_
    rw [eT]
    walk_at "gi"
    refine ⟨p, rfl, p2, by omega, hp, fun lq qs H3 s3 eq bq lq90 mq => ?_⟩
    rw [T_eq p (by omega)] at mq
    walk_at "gi"
    have s13 := (s1.trans s2).trans s3
    have eb3 := s3 _ _ (s2 _ _ eb1)
    have sM3 := Same.tup s3 sM
    generalize hTT : Vf.npq p * p = TT at *
    refine r_forLs (qs.map fun q : Nat => V.int (q : Int)) (fun i σ H' => ∃ (m : Nat) (x9 : Option V), σ = [some (.ref s), some (.ref t), some (.int (p : Int)), some (.int ((k + 1 : Nat) : Int)), some (.int (r : Int)), some (.int (n : Int)), some (.ref bg), some (.ref fu), some (.int (m : Int)), x9] ∧ Same H3 H' ∧ 0 < m ∧ m ∣ TT ∧ Vf.Pd (n : Int) (rv a b x y) l (r * m) ∧ ∀ j, j < i → ∀ q, qs[j]? = some q → q ∣ m → ¬ Vf.Pd (n : Int) (rv a b x y) l (r * (m / q)))
      ⟨TT, _, rfl, Same.refl _, T0, Nat.dvd_refl _, cyc, fun j h => absurd h (Nat.not_lt_zero _)⟩ (fun i σ H' hi hP => ?_) (fun i v σ H' hi hP => ?_) (fun σ H' hP => ?_)
    · obtain ⟨m, x9, rfl, s4, _⟩ := hP
      exact SqL.of (s4 _ _ eq)
    · obtain ⟨m, x9, rfl, s4, m0, mT, hPd, hj⟩ := hP
      obtain ⟨qq, hq, rfl⟩ : ∃ qq, qs[i]? = some qq ∧ V.int (qq : Int) = v := by
        rw [List.getElem?_map] at hi
        cases hh : qs[i]? with
        | none => rw [hh] at hi; cases hi
        | some z => rw [hh] at hi; exact ⟨z, rfl, Option.some.inj hi⟩
      have bqq := bq qq (List.mem_of_getElem? hq)
      walk_at "gi"
      refine r_while (fun e σ G => σ = [some (.ref s), some (.ref t), some (.int (p : Int)), some (.int ((k + 1 : Nat) : Int)), some (.int (r : Int)), some (.int (n : Int)), some (.ref bg), some (.ref fu), some (.int (e : Int)), some (.int (qq : Int))] ∧ Same H3 G ∧ 0 < e ∧ e ∣ TT ∧ Vf.Pd (n : Int) (rv a b x y) l (r * e) ∧ ∀ j, j < i → ∀ q, qs[j]? = some q → q ∣ e → ¬ Vf.Pd (n : Int) (rv a b x y) l (r * (e / q))) m ⟨rfl, s4, m0, mT, hPd, hj⟩ fun e σ G hW => ?_
      obtain ⟨rfl, s5, e0, eT2, ePd, ej⟩ := hW
      have eb5 : e ≤ TT := Nat.le_of_dvd T0 eT2
      walk_at "gi"
      refine r_rI (show (0 : Int) < (qq : Int) by omega) ?_
      walk_at "gi"
      refine ifd (fun c => ?_) (fun c => ?_)
      · have dq : qq ∣ e := Int.ofNat_dvd.mp (Int.dvd_of_emod_eq_zero c)
        walk_at "gi"
        refine r_rI (divw_of (by omega) (by omega)) ?_
        rw [show (e : Int) / (qq : Int) = ((e / qq : Nat) : Int) from (Int.natCast_ediv ..).symm]
        walk_at "gi"
        refine ⟨fu, M, e / qq, (n : Int), rfl, Same.tup s5 sM3, bM, by omega, by omega, fun g5 M5 G1 s6 sM5 bM5 cM5 => ?_⟩
        have c5 : Cg (n : Int) M5 (pw ⟨0, 1, b, a⟩ (r * (e / qq))) := by
          rw [← pw_pw]
          exact cg_trans cM5 (cg_pow cM _)
        walk_at "gi"
        have md1 : (n : Int) ∣ rv a b x y l % (n : Int) - rv a b x y l := dv_mod (Vf.dv_rf _ _)
        have md2 : (n : Int) ∣ rv a b x y (l + 1) % (n : Int) - rv a b x y (l + 1) := dv_mod (Vf.dv_rf _ _)
        have nz : (n : Int) ≠ 0 := by omega
        have l1 := Int.emod_nonneg (rv a b x y l) nz
        have l2 := Int.emod_lt_of_pos (rv a b x y l) (show (0 : Int) < n by omega)
        have l3 := Int.emod_nonneg (rv a b x y (l + 1)) nz
        have l4 := Int.emod_lt_of_pos (rv a b x y (l + 1)) (show (0 : Int) < n by omega)
        refine ⟨g5, bg, M5, rv a b x y l % (n : Int), rv a b x y (l + 1) % (n : Int), (n : Int), rfl, sM5, SqT.of (s6 _ _ (s5 _ _ eb3)), bM5, by omega, by omega, by omega, fun t6 G2 s7 n7 e7 => ?_⟩
        rw [(stp_val c5 md1 md2).1, (stp_val c5 md1 md2).2] at e7
        walk_at "gi"
        refine r_eqT [rv a b x y (l + r * (e / qq)) % (n : Int), rv a b x y (l + r * (e / qq) + 1) % (n : Int)] [rv a b x y l % (n : Int), rv a b x y (l + 1) % (n : Int)] (SqT.of e7) (SqT.of (s7 _ _ (s6 _ _ (s5 _ _ eb3)))) ?_
        refine ⟨_, rfl, ?_⟩
        have ed : e / qq ∣ e := Nat.div_dvd_of_dvd dq
        have eq0 : 0 < e / qq := Nat.div_pos (Nat.le_of_dvd e0 dq) (by omega)
        by_cases pd : Vf.Pd (n : Int) (rv a b x y) l (r * (e / qq))
        · rw [if_pos (pd_iff.mpr pd)]
          refine ⟨_, fun _ _ h => h, ?_⟩
          walk_at "gi"
          refine r_ipC (divw_of (by omega) (by omega)) ?_
          rw [show (e : Int) / (qq : Int) = ((e / qq : Nat) : Int) from (Int.natCast_ediv ..).symm]
          walk_at "gi"
          refine ⟨e / qq, Nat.div_lt_self e0 (by omega), rfl, (s5.trans s6).trans s7, eq0, Nat.dvd_trans ed eT2, pd, fun j hj2 z hz hd hp2 => ?_⟩
          have z2 := (bq z (List.mem_of_getElem? hz)).1
          obtain ⟨c2, hc2⟩ := hd
          have e1 : e = z * (c2 * qq) := by
            have := Nat.div_mul_cancel dq
            rw [hc2] at this
            rw [← this, Nat.mul_assoc]
          have e2 : e / z = c2 * qq := by rw [e1]; exact Nat.mul_div_cancel_left _ (by omega)
          have e3 : e / qq / z = c2 := by rw [hc2]; exact Nat.mul_div_cancel_left _ (by omega)
          refine ej j hj2 z hz ⟨_, e1⟩ ?_
          rw [e3] at hp2
          rw [e2, ← Nat.mul_assoc]
          exact hp2.mul (Vf.rv_rec a b x y) qq
        · rw [if_neg (fun z => pd (pd_iff.mp z))]
          walk_at "gi"
          refine ⟨(s5.trans s6).trans s7, e0, eT2, ePd, fun j hj2 z hz hd => ?_⟩
          rcases Nat.lt_or_ge j i with lt | ge
          · exact ej j lt z hz hd
          · have : j = i := by omega
            subst this
            rw [hq] at hz
            obtain rfl := Option.some.inj hz
            exact pd
      · walk_at "gi"
        refine ⟨s5, e0, eT2, ePd, fun j hj2 z hz hd => ?_⟩
        rcases Nat.lt_or_ge j i with lt | ge
        · exact ej j lt z hz hd
        · have : j = i := by omega
          subst this
          rw [hq] at hz
          obtain rfl := Option.some.inj hz
          exact absurd (Int.emod_eq_zero_of_dvd (Int.ofNat_dvd.mpr hd)) c
    · obtain ⟨m, x9, rfl, s4, m0, mT, hPd, hj⟩ := hP
      have mb : m ≤ TT := Nat.le_of_dvd T0 mT
      walk_at "gi"
      have E200 : r < 2 ^ 201 := Nat.lt_of_le_of_lt r1 (by decide)
      refine r_rI (bit_mul (a := 201) (b := 64) (bit_of (by rw [Int.natAbs_natCast]; exact E200)) (bit_of (by omega)) (by decide)) ?_
      rw [← Int.natCast_mul]
      refine q (r * m) _ (s13.trans s4) (Vf.least_of (Vf.rv_rec a b x y) dkn L m0 hPd fun z hz hd => ?_)
      obtain ⟨j, hj2, e⟩ := List.mem_iff_getElem.mp (mq z hz (Nat.dvd_trans hd mT))
      exact hj j (by rw [List.length_map]; exact hj2) z (by rw [← e]; exact List.getElem?_eq_getElem hj2) hd
end
section
variable {P : Program} {w : World} {K : PySem.W.Frag} {mg : Str → Option Value} {base : Heap}
/-! ### tail and round by a power of a prime -/
theorem lp_small {n : Nat} {u : Nat → Int} {a b : Int} {t r : Nat} (R : Vf.Rec a b u) (h : Vf.LP (n : Int) u t r) (n0 : 0 < n) (n1 : n ≤ 1000000000000) : r ≤ 1000000000000000000000000 := by
  have := h.le R n0
  have h2 := Nat.mul_le_mul n1 n1
  omega
def sp_tbp (K : PySem.W.Frag) : Sp := fun vs H Q _ => ∃ (r : Addr) (a b x y : Int) (p e : Nat), vs = [.ref r, .int (p : Int), .int (e : Int)] ∧ RunAt K H r a b x y ∧ Rn a b x y ∧ p ∈ Vf.smallP ∧ Pr p ∧ e ≤ 40 ∧ p ^ e ≤ 1000000000000 ∧
  ∀ (z : Addr) (t c : Nat) H', Same H H' → H' z = some (.tup [.int (t : Int), .int (c : Int)]) → Vf.TR ((p ^ e : Nat) : Int) (rv a b x y) t c → Q (.ref z) H'
theorem ok__tail_and_round_by_power (T : Top K mg) : Ok P w K mg base 8 "_tail_and_round_by_power" s__tail_and_round_by_power ["run", "prime", "often"] (sp_tbp K) := by
  have G_raised := ok_raised (P := P) (w := w) (base := base) T
  have G_step_of := ok_step_of (P := P) (w := w) (base := base) T
  have G_pair_at := ok_pair_at (P := P) (w := w) (base := base) T
  have G_next_round := ok_next_round (P := P) (w := w) (base := base) T
  have G_stepped := ok_stepped (P := P) (w := w) (base := base) T
  have G_many_steps := ok_many_steps (P := P) (w := w) (base := base) T
  refine T.d__tail_and_round_by_power.ok sc__tail_and_round_by_power (fun vs H Q E h => ?_) (fun f cdv A outer s H vs Q E hg hr h => ?_)
  · obtain ⟨r, a, b, x, y, p, e, rfl, _⟩ := h
    rfl
  · obtain ⟨r, a, b, x, y, p, e, rfl, sr, hR, hm, hp, e1, n1, q⟩ := h
    have p2 := hp.1
    have p59 : p ≤ 59 := by
      have : ∀ p ∈ Vf.smallP, p ≤ 59 := by decide
      exact this p hm
    have R := Vf.rv_rec a b x y
    have E30 : (10 : Int) ^ 30 = 1000000000000000000000000000000 := by decide
    obtain ⟨N, N0, hN⟩ := Vf.late_ex hm p2 R e
    have n0 : 0 < p ^ e := Nat.pow_pos (by omega)
    refine ⟨_, (pss_cons (ps_set (i := 3) sc__tail_and_round_by_power.nd rfl (.inl rfl) (pe_g G_raised (fun _ _ F => bd_raised F) hg (hr.mono (by decide)) passL (by rfl) (pa_cons (pv 1) (pa_cons (pv 2) pa_nil))))
    (pss_cons (ps_set (i := 4) sc__tail_and_round_by_power.nd rfl (.inl rfl) (pe_g G_step_of (fun _ _ F => bd_step_of F) hg (hr.mono (by decide)) passL (by rfl) (pa_cons (pv 0) pa_nil)))
    (pss_cons (ps_set (i := 5) sc__tail_and_round_by_power.nd rfl (.inl rfl) (pe_g G_pair_at (fun _ _ F => bd_pair_at F) hg (hr.mono (by decide)) passL (by rfl) (pa_cons (pv 0) (pa_cons (pe_ifExp (pt_cmpR op_eqZ (pe_op op_mod (pe_ix (x_tup rfl) (pv 0) pe_int (fun _ _ => rfl)) (pv 1)) pe_int (nomark _)) (pe_op op_mulX pe_int (pv 2)) pe_int) (pa_cons (pv 3) pa_nil)))))
    (pss_cons (ps_set (i := 6) sc__tail_and_round_by_power.nd rfl (.inl rfl) pe_int)
    (pss_cons (ps_for (passes_of rfl) rfl (pi_range2 (by rfl) T.b_range (pa_cons pe_int (pa_cons (pe_op op_add (pv 2) pe_int) pa_nil))) (pg_name (i := 7) sc__tail_and_round_by_power.nd rfl (.inl rfl)) (pss_one (ps_set (i := 6) sc__tail_and_round_by_power.nd rfl (.inl rfl) (pe_g G_next_round (fun _ _ F => bd_next_round F) hg (hr.mono (by decide)) passL (by rfl) (pa_cons (pv 4) (pa_cons (pv 5) (pa_cons (pv 1) (pa_cons (pv 7) (pa_cons (pv 6) pa_nil)))))))))
    (pss_cons (ps_set (i := 8) sc__tail_and_round_by_power.nd rfl (.inl rfl) (pe_g G_many_steps (fun _ _ F => bd_many_steps F) hg (hr.mono (by decide)) passL (by rfl) (pa_cons (pv 4) (pa_cons (pv 6) (pa_cons (pv 3) pa_nil)))))
    (pss_cons (ps_set (i := 9) sc__tail_and_round_by_power.nd rfl (.inl rfl) pe_int)
    (pss_cons (ps_set (i := 10) sc__tail_and_round_by_power.nd rfl (.inl rfl) (pe_g G_pair_at (fun _ _ F => bd_pair_at F) hg (hr.mono (by decide)) passL (by rfl) (pa_cons (pv 0) (pa_cons pe_int (pa_cons (pv 3) pa_nil)))))
    (pss_cons (ps_while (passes_of rfl) (pt_cmpR (o_neD rfl hr.units) (pe_g G_stepped (fun _ _ F => bd_stepped F) hg (hr.mono (by decide)) passL (by rfl) (pa_cons (pv 8) (pa_cons (pv 10) (pa_cons (pv 3) pa_nil)))) (pv 10) (nomark _)) (pss_cons (ps_set (i := 10) sc__tail_and_round_by_power.nd rfl (.inl rfl) (pe_g G_stepped (fun _ _ F => bd_stepped F) hg (hr.mono (by decide)) passL (by rfl) (pa_cons (pv 4) (pa_cons (pv 10) (pa_cons (pv 3) pa_nil)))))
    (pss_one (ps_aug (i := 9) sc__tail_and_round_by_power.nd rfl (.inl rfl) pe_int ip_add))))
    (pss_one (ps_ret (pe_tup (pa_cons (pv 9) (pa_cons (pv 6) pa_nil)))))))))))))), ?_⟩
    walk_at "sti"
    refine ⟨p, e, rfl, by omega, by omega, by omega, ?_⟩
    walk_at "gi"
    refine ⟨r, a, b, x, y, rfl, sr, fun st H1 s1 ns es => ?_⟩
    walk_at "go"
    have sr1 := Same.tup s1 sr
    refine j_if (fun v H5 => v = .int ((Vf.lateS p b * e : Nat) : Int) ∧ H5 = H1) (fun Q' hnx => ?_) (fun v H5 hM => ?_)
    · walk_at "gi"
      refine r_ixT sr1 (atI_nat (j := 1) rfl) ?_
      walk_at "gi"
      refine r_rI (show (0 : Int) < (p : Int) by omega) ?_
      walk_at "gi"
      refine ifd (fun c => ?_) (fun c => ?_)
      · walk_at "gi"
        refine r_rI (bit_mul (a := 64) (b := 64) (bit_of (by decide)) (bit_of (by omega)) (by decide)) ?_
        refine hnx _ _ ⟨?_, rfl⟩
        unfold Vf.lateS
        rw [if_pos (Int.dvd_of_emod_eq_zero c), Int.natCast_mul]
        rfl
      · walk_at "gi"
        refine hnx _ _ ⟨?_, rfl⟩
        unfold Vf.lateS
        rw [if_neg (fun z => c (Int.emod_eq_zero_of_dvd z)), Nat.zero_mul]
        rfl
    obtain ⟨rfl, rfl⟩ := hM
    generalize hl : Vf.lateS p b * e = l at *
    walk_at "gi"
    refine ⟨r, a, b, x, y, l, ((p ^ e : Nat) : Int), rfl, sr1, hR, by omega, by omega, fun lt H2 s2 e2 => ?_⟩
    walk_at "gi"
    refine ⟨⟨by omega, by omega, by omega, by omega⟩, ?_⟩
    rw [show ((e : Int) + 1 - 1).toNat = e by omega]
    have s12 := s1.trans s2
    have es2 := s2 _ _ es
    have nz : ((p ^ e : Nat) : Int) ≠ 0 := by omega
    have mdb : ∀ i, 0 ≤ rv a b x y i % ((p ^ e : Nat) : Int) ∧ rv a b x y i % ((p ^ e : Nat) : Int) < ((p ^ e : Nat) : Int) := fun i => ⟨Int.emod_nonneg _ nz, Int.emod_lt_of_pos _ (by omega)⟩
    have md : ∀ i, ((p ^ e : Nat) : Int) ∣ rv a b x y i % ((p ^ e : Nat) : Int) - rv a b x y i := fun i => dv_mod (Vf.dv_rf _ _)
    have pde : ∀ i, i ≤ e → ((p ^ i : Nat) : Int) ∣ ((p ^ e : Nat) : Int) := fun i hi => Int.ofNat_dvd.mpr (Nat.pow_dvd_pow p hi)
    have bx := mdb l
    have by1 := mdb (l + 1)
    refine r_forR (fun i σ H' => ∃ (c : Nat) (x7 : Option V), σ = [some (.ref r), some (.int (p : Int)), some (.int (e : Int)), some (.int ((p ^ e : Nat) : Int)), some (.ref st), some (.ref lt), some (.int (c : Int)), x7, none, none, none] ∧ Same H2 H' ∧ Vf.LP ((p ^ i : Nat) : Int) (rv a b x y) l c)
      ⟨1, _, rfl, Same.refl _, Nat.one_pos, ⟨Int.one_dvd _, Int.one_dvd _⟩, fun c c0 c1 => by omega⟩ (fun i σ H' hi hP => ?_) (fun σ H' hP => ?_)
    · obtain ⟨c, x7, rfl, s3, L⟩ := hP
      walk_at "gi"
      rw [show (1 : Int) + (i : Int) = ((i + 1 : Nat) : Int) by omega]
      have ci1 : p ^ (i + 1) ≤ 1000000000000 := Nat.le_trans (Nat.pow_le_pow_right (by omega) (by omega)) n1
      have ci0 : p ^ i ≤ 1000000000000 := Nat.le_trans (Nat.pow_le_pow_right (by omega) (by omega)) n1
      have cb := lp_small R L (Nat.pow_pos (by omega)) ci0
      refine ⟨st, lt, a, b, x, y, rv a b x y l % ((p ^ e : Nat) : Int), rv a b x y (l + 1) % ((p ^ e : Nat) : Int), p, i, l, c, N, rfl, SqT.of (s3 _ _ es2), hR, SqT.of (s3 _ _ e2), by omega, by omega,
        Int.dvd_trans (pde _ (by omega)) (md l), Int.dvd_trans (pde _ (by omega)) (md (l + 1)), hm, hp, ci1, by omega, L, Nat.le_trans cb (by decide), N0, hN.dvd (pde _ (by omega)), fun c' H4 s4 L' => ?_⟩
      walk_at "gi"
      exact ⟨s3.trans s4, L'⟩
    · obtain ⟨c, x7, rfl, s3, L⟩ := hP
      have cb := lp_small R L n0 n1
      walk_at "gi"
      refine ⟨st, ⟨0, 1, b, a⟩, c, ((p ^ e : Nat) : Int), rfl, SqT.of (s3 _ _ es2), Sml.step hR, by omega, by omega, fun ou M H4 s4 sM bM cM => ?_⟩
      walk_at "gi"
      have s14 := (s12.trans s3).trans s4
      refine ⟨r, a, b, x, y, 0, ((p ^ e : Nat) : Int), rfl, Same.tup s14 sr, hR, by omega, by omega, fun pr H5 s5 e5 => ?_⟩
      walk_at "gi"
      have es5 := s5 _ _ (s4 _ _ (s3 _ _ es2))
      have sM5 := Same.tup s5 sM
      refine r_while (fun mm σ G => ∃ (tau : Nat) (pa : Addr), σ = [some (.ref r), some (.int (p : Int)), some (.int (e : Int)), some (.int ((p ^ e : Nat) : Int)), some (.ref st), some (.ref lt), some (.int (c : Int)), x7, some (.ref ou), some (.int (tau : Int)), some (.ref pa)] ∧ Same H5 G ∧ G pa = some (.tup [.int (rv a b x y tau % ((p ^ e : Nat) : Int)), .int (rv a b x y (tau + 1) % ((p ^ e : Nat) : Int))]) ∧ tau ≤ l ∧ mm = l - tau ∧ ∀ s, s < tau → ¬ Vf.Pd ((p ^ e : Nat) : Int) (rv a b x y) s c) l
        ⟨0, pr, rfl, Same.refl _, e5, Nat.zero_le _, rfl, fun s h => absurd h (Nat.not_lt_zero _)⟩ fun mm σ G hW => ?_
      obtain ⟨tau, pa, rfl, s6, e6, tl, rfl, g⟩ := hW
      walk_at "gi"
      have bt := mdb tau
      have bt1 := mdb (tau + 1)
      refine ⟨ou, pa, M, _, _, ((p ^ e : Nat) : Int), rfl, Same.tup s6 sM5, SqT.of e6, bM, by omega, by omega, by omega, fun nx G1 s7 n7 e7 => ?_⟩
      rw [(stp_val cM (md tau) (md (tau + 1))).1, (stp_val cM (md tau) (md (tau + 1))).2] at e7
      walk_at "gi"
      refine r_neT [rv a b x y (tau + c) % ((p ^ e : Nat) : Int), rv a b x y (tau + c + 1) % ((p ^ e : Nat) : Int)] [rv a b x y tau % ((p ^ e : Nat) : Int), rv a b x y (tau + 1) % ((p ^ e : Nat) : Int)] (SqT.of e7) (SqT.of (s7 _ _ e6)) ?_
      refine ⟨_, rfl, ?_⟩
      by_cases pd : Vf.Pd ((p ^ e : Nat) : Int) (rv a b x y) tau c
      · rw [pd_iff.mpr pd, if_neg (by decide)]
        walk_at "gi"
        rename_i z hz
        exact q z tau c _ ((((s14.trans s5).trans s6).trans s7).trans (Same.new hz)) upd_same (Vf.TR.of R L tl pd g)
      · have tl2 : tau < l := by
          refine Nat.lt_of_le_of_ne tl fun z => pd ?_
          rw [z]
          exact L.2.1
        have nd : decide ([rv a b x y (tau + c) % ((p ^ e : Nat) : Int), rv a b x y (tau + c + 1) % ((p ^ e : Nat) : Int)] = [rv a b x y tau % ((p ^ e : Nat) : Int), rv a b x y (tau + 1) % ((p ^ e : Nat) : Int)]) = false := by
          cases hh : decide ([rv a b x y (tau + c) % ((p ^ e : Nat) : Int), rv a b x y (tau + c + 1) % ((p ^ e : Nat) : Int)] = [rv a b x y tau % ((p ^ e : Nat) : Int), rv a b x y (tau + 1) % ((p ^ e : Nat) : Int)]) with
          | false => rfl
          | true => exact absurd (pd_iff.mp hh) pd
        rw [nd, if_pos (by decide)]
        refine ⟨_, fun _ _ h => h, ?_⟩
        walk_at "gi"
        have s57 := s6.trans s7
        refine ⟨st, pa, ⟨0, 1, b, a⟩, _, _, ((p ^ e : Nat) : Int), rfl, SqT.of (s57 _ _ es5), SqT.of (s7 _ _ e6), Sml.step hR, by omega, by omega, by omega, fun p2 G2 s8 n8 e8 => ?_⟩
        have one := stp_val (l := tau) (j := 1) (Cg.refl ((p ^ e : Nat) : Int) (pw ⟨0, 1, b, a⟩ 1)) (md tau) (md (tau + 1))
        have e1 : pw ⟨0, 1, b, a⟩ 1 = ⟨0, 1, b, a⟩ := by apply Mt.ext' <;> simp [Vf.pw, Mt.mul, Mt.one]
        rw [e1] at one
        rw [one.1, one.2] at e8
        walk_at "gi"
        refine ⟨l - (tau + 1), by omega, tau + 1, p2, rfl, s57.trans s8, e8, by omega, rfl, fun s hs => ?_⟩
        rcases Nat.lt_or_ge s tau with lt | ge
        · exact g s lt
        · rw [show s = tau by omega]
          exact pd
end
section
variable {P : Program} {w : World} {K : PySem.W.Frag} {mg : Str → Option Value} {base : Heap}
/-! ### tail and round by any base -/
def SmB (n : Nat) : Prop := ∀ q, Pr q → q ∣ n → q ∈ Vf.smallP
theorem atI_lastV {xs : List V} {v : V} {n : Nat} (hn : xs.length = n + 1) (h : xs[n]? = some v) : atI xs (-1) = some v := by
  unfold atI ixN
  rw [if_neg (by omega), if_pos (by omega)]
  show xs[(-1 + (xs.length : Int)).toNat]? = _
  rw [show (-1 + (xs.length : Int)).toNat = n by omega, h]
def sp_aw (K : PySem.W.Frag) : Sp := fun vs H Q _ => ∃ n : Nat, vs = [.int (n : Int)] ∧ 1 ≤ n ∧ n ≤ 1000000000000 ∧ SmB n ∧ ∀ a ps H', Same H H' → FactsAt K H' a (ci ps) → ps.length ≤ 41 → Apart ps n → Q (.ref a) H'
theorem ok__apart_in_walked (T : Top K mg) : Ok P w K mg base 6 "_apart_in_walked" s__apart_in_walked ["base"] (sp_aw K) := by
  have G_apart := ok_apart (P := P) (w := w) (base := base) T
  refine T.d__apart_in_walked.ok sc__apart_in_walked (fun vs H Q E h => ?_) (fun f cdv A outer s H vs Q E hg hr h => ?_)
  · obtain ⟨n, rfl, _⟩ := h
    rfl
  · obtain ⟨n, rfl, n1, n2, hq, q⟩ := h
    refine ⟨_, (pss_cons (ps_set (i := 1) sc__apart_in_walked.nd rfl (.inl rfl) (pe_g G_apart (fun _ _ F => bd_apart F) hg (hr.mono (by decide)) passL (by rfl) (pa_cons (pv 0) pa_nil)))
    (pss_cons (ps_if (PW.pt (pw_and (pt_truth (pv 1) (by intro _; rfl)) (pw_and1 (pt_cmpR op_gt (pe_ix (x_seq rfl) (pe_ix (x_tup rfl) (pv 1) (pe_un un_neg pe_int) (fun _ _ => rfl)) pe_int (fun _ _ => rfl)) (pe_gi T.c_MOST_RUN_PRIME (by rfl)) (nomark _))))) (pss_one ps_never) pss_nil)
    (pss_one (ps_ret (pv 1))))), ?_⟩
    walk_at "sti"
    refine ⟨n, rfl, n1, n2, fun a ps H1 s1 fa hl A => ?_⟩
    walk_at "gi"
    obtain ⟨vs, sv, pv⟩ := fa
    refine tru_tup sv ?_
    have lv : vs.length = ps.length := by rw [pv.length]; simp [ci]
    have fin : Q (.ref a) H1 := q a ps _ s1 ⟨vs, sv, pv⟩ hl A
    cases he : vs.isEmpty with
    | true =>
      walk_at "gi"
      exact fin
    | false =>
      obtain ⟨k, hk⟩ : ∃ k, vs.length = k + 1 := ⟨vs.length - 1, by
        cases vs with
        | nil => cases he
        | cons _ _ => rfl⟩
      obtain ⟨v, hv⟩ : ∃ v, vs[k]? = some v := ⟨_, List.getElem?_eq_getElem (by omega)⟩
      obtain ⟨z, hz, t, rfl, st⟩ := pv.get hv
      obtain ⟨b, hb, rfl⟩ := ci_at hz
      have hm := List.mem_of_getElem? hb
      have h1 := A.p b hm
      have h2 := hq b.1 h1.1 (by rw [← A.m]; exact (made_dvd ps b hm h1.2).1)
      have b59 : b.1 ≤ 59 := by
        have : ∀ p ∈ Vf.smallP, p ≤ 59 := by decide
        exact this _ h2
      walk_at "gi"
      refine r_ixT sv (atI_lastV hk hv) ?_
      walk_at "gi"
      refine r_ixS (.inl st) (atI_nat (j := 0) rfl) ?_
      walk_at "gi"
      rw [decide_eq_false (show ¬ (1000000 : Int) < (b.1 : Int) by omega)]
      walk_at "gi"
      exact fin
def sp_tr0 (K : PySem.W.Frag) : Sp := fun vs H Q _ => ∃ (r pa : Addr) (a b x y : Int) (n : Nat) (ps : List (Nat × Nat)), vs = [.ref r, .ref pa] ∧ RunAt K H r a b x y ∧ Rn a b x y ∧ FactsAt K H pa (ci ps) ∧ Apart ps n ∧ 1 ≤ n ∧ n ≤ 1000000000000 ∧ SmB n ∧
  ∀ (z : Addr) (t c : Nat) H', Same H H' → H' z = some (.tup [.int (t : Int), .int (c : Int)]) → Vf.TR (n : Int) (rv a b x y) t c → Q (.ref z) H'
theorem made_take {ps : List (Nat × Nat)} {n : Nat} (A : Apart ps n) (n0 : 0 < n) (i : Nat) : 0 < made (ps.take i) ∧ made (ps.take i) ≤ n := by
  have h : made (ps.take i) * made (ps.drop i) = n := by
    have := A.m
    rw [← List.take_append_drop i ps] at this
    rw [← this]
    have app : ∀ ps qs : List (Nat × Nat), made (ps ++ qs) = made ps * made qs := fun ps => by
      induction ps with
      | nil => intro qs; rw [List.nil_append]; exact (Nat.one_mul _).symm
      | cons a r ih => intro qs; show a.1 ^ a.2 * made (r ++ qs) = a.1 ^ a.2 * made r * made qs; rw [ih, Nat.mul_assoc]
    exact (app _ _).symm
  have p1 : 0 < made (ps.take i) := made_pos _ fun a ha => A.p a (List.mem_of_mem_take ha)
  exact ⟨p1, Nat.le_of_dvd n0 ⟨_, h.symm⟩⟩
theorem cop_take {ps : List (Nat × Nat)} (hp : ∀ a ∈ ps, Pr a.1 ∧ 1 ≤ a.2) (hs : ps.Pairwise fun a b => a.1 < b.1) {i : Nat} {c : Nat × Nat} (hc : ps[i]? = some c) : Nat.Coprime (made (ps.take i)) (c.1 ^ c.2) := by
  refine Nat.Coprime.symm (Nat.Coprime.pow_left _ ?_)
  have key : ∀ rs : List (Nat × Nat), (∀ a ∈ rs, Pr a.1 ∧ a.1 < c.1) → Nat.Coprime c.1 (made rs) := fun rs => by
    induction rs with
    | nil => intro _; exact Nat.coprime_one_right _
    | cons a r ih =>
      intro h
      have ha := h a (List.mem_cons_self ..)
      exact Nat.Coprime.mul_right (Nat.Coprime.pow_right _ (cop_primes (hp c (List.mem_of_getElem? hc)).1 ha.1 (by omega))) (ih fun b hb => h b (List.mem_cons_of_mem _ hb))
  refine key _ fun a ha => ⟨(hp a (List.mem_of_mem_take ha)).1, ?_⟩
  obtain ⟨j, hj, e⟩ := List.mem_iff_getElem.mp ha
  rw [List.length_take] at hj
  rw [List.getElem_take] at e
  obtain ⟨hi, e2⟩ := List.getElem?_eq_some_iff.mp hc
  have := List.pairwise_iff_getElem.mp hs j i (by omega) hi (by omega)
  rw [e, e2] at this
  exact this
theorem ok__tail_and_round (T : Top K mg) : Ok P w K mg base 9 "_tail_and_round" s__tail_and_round ["run", "pairs"] (sp_tr0 K) := by
  have G__tail_and_round_by_power := ok__tail_and_round_by_power (P := P) (w := w) (base := base) T
  refine T.d__tail_and_round.ok sc__tail_and_round (fun vs H Q E h => ?_) (fun f cdv A outer s H vs Q E hg hr h => ?_)
  · obtain ⟨r, pa, a, b, x, y, n, ps, rfl, _⟩ := h
    rfl
  · obtain ⟨r, pa, a, b, x, y, n, ps, rfl, sr, hR, fa, A1, n0, n1, hB, q⟩ := h
    have R := Vf.rv_rec a b x y
    refine ⟨_, (pss_cons (ps_asg (pe_tup (pa_cons pe_int (pa_cons pe_int pa_nil))) (g_tup rfl rfl (pgs_cons (pg_name (i := 2) sc__tail_and_round.nd rfl (.inl rfl)) (pgs_cons (pg_name (i := 3) sc__tail_and_round.nd rfl (.inl rfl)) pgs_nil)) rfl rfl))
    (pss_cons (ps_for (passes_of rfl) rfl (i_tup' rfl (pv 1)) (g_tup rfl rfl (pgs_cons (pg_name (i := 4) sc__tail_and_round.nd rfl (.inl rfl)) (pgs_cons (pg_name (i := 5) sc__tail_and_round.nd rfl (.inl rfl)) pgs_nil)) rfl rfl) (pss_cons (ps_asg (pe_g G__tail_and_round_by_power (fun _ _ F => bd__tail_and_round_by_power F) hg (hr.mono (by decide)) passL (by rfl) (pa_cons (pv 0) (pa_cons (pv 4) (pa_cons (pv 5) pa_nil)))) (g_tup rfl rfl (pgs_cons (pg_name (i := 6) sc__tail_and_round.nd rfl (.inl rfl)) (pgs_cons (pg_name (i := 7) sc__tail_and_round.nd rfl (.inl rfl)) pgs_nil)) rfl rfl))
    (pss_cons (ps_set (i := 2) sc__tail_and_round.nd rfl (.inl rfl) (pe_callB (id := "max") (c_max2 rfl) (by rfl) T.b_max (by decide +kernel) (pa_cons (pv 2) (pa_cons (pv 6) pa_nil))))
    (pss_one (ps_set (i := 3) sc__tail_and_round.nd rfl (.inl rfl) (pe_callBfun (id := "math.lcm") cr_lcm (by rfl) T.m_lcm (pa_cons (pv 3) (pa_cons (pv 7) pa_nil))))))))
    (pss_one (ps_ret (pe_tup (pa_cons (pv 2) (pa_cons (pv 3) pa_nil))))))), ?_⟩
    obtain ⟨vs, sv, pv⟩ := fa
    have lv : vs.length = ps.length := by rw [pv.length]; simp [ci]
    walk_at "sti"
    rename_i t0 ht0
    have s0 : Same H (upd H t0 (.tup [.int 0, .int 1])) := Same.new ht0
    generalize upd H t0 (.tup [.int 0, .int 1]) = H0 at *
    refine ⟨⟨vs, Same.tup s0 sv⟩, ?_⟩
    refine r_forTs vs (fun i σ H' => ∃ (t c : Nat) (x4 x5 x6 x7 : Option V), σ = [some (.ref r), some (.ref pa), some (.int (t : Int)), some (.int (c : Int)), x4, x5, x6, x7] ∧ Same H0 H' ∧ Vf.TR ((made (ps.take i) : Nat) : Int) (rv a b x y) t c)
      ⟨0, 1, _, _, _, _, rfl, Same.refl _, Vf.TR.one _⟩ (fun i σ H' hi hP => ?_) (fun i v σ H' hi hP => ?_) (fun σ H' hP => ?_)
    · obtain ⟨t, c, x4, x5, x6, x7, rfl, s1, _⟩ := hP
      exact Same.tup (s0.trans s1) sv
    · obtain ⟨t, c, x4, x5, x6, x7, rfl, s1, tr⟩ := hP
      obtain ⟨z, hz, u, rfl, st⟩ := pv.get hi
      obtain ⟨d, hd, rfl⟩ := ci_at hz
      have hm := List.mem_of_getElem? hd
      have h1 := A1.p d hm
      have h2 := made_dvd ps d hm h1.2
      rw [A1.m] at h2
      have dn := Nat.le_of_dvd (by omega) h2.2
      have d40 : d.2 ≤ 40 := by
        refine Classical.byContradiction fun z => ?_
        have h3 : 2 ^ 40 ≤ d.1 ^ d.2 := Nat.le_trans (Nat.pow_le_pow_left h1.1.1 40) (Nat.pow_le_pow_right (by have := h1.1.1; omega) (by omega))
        have : (2 : Nat) ^ 40 = 1099511627776 := by decide
        omega
      refine r_gtup (Same.tup (s0.trans s1) st) rfl ?_
      walk_at "gi"
      refine ⟨r, a, b, x, y, d.1, d.2, rfl, Same.tup (s0.trans s1) sr, hR, hB d.1 h1.1 h2.1, h1.1, d40, by omega, fun z2 t2 c2 H2 s2 e2 tr2 => ?_⟩
      have mt := made_take A1 (by omega) i
      have cb := lp_small R tr.1 mt.1 (by omega)
      have cb2 := lp_small R tr2.1 (Nat.pow_pos (by have := h1.1.1; omega)) (by omega)
      have big : 1000000000000000000000000 < 2 ^ 9000 := Nat.lt_of_lt_of_le (show 1000000000000000000000000 < 2 ^ 80 by decide) (Nat.pow_le_pow_right (by decide) (by decide))
      walk_at "gi"
      refine r_lcm (by rw [Int.natAbs_natCast]; exact Nat.lt_of_le_of_lt cb big) (by rw [Int.natAbs_natCast]; exact Nat.lt_of_le_of_lt cb2 big) ?_
      walk_at "gi"
      rw [Int.natAbs_natCast, Int.natAbs_natCast, show max ((t : Nat) : Int) (t2 : Int) = ((max t t2 : Nat) : Int) by omega]
      refine ⟨max t t2, Nat.lcm c c2, _, _, _, _, rfl, s1.trans s2, ?_⟩
      rw [take_one hd]
      have e9 : made (ps.take i ++ [d]) = made (ps.take i) * d.1 ^ d.2 := by
        have app : ∀ ps qs : List (Nat × Nat), made (ps ++ qs) = made ps * made qs := fun ps => by
          induction ps with
          | nil => intro qs; rw [List.nil_append]; exact (Nat.one_mul _).symm
          | cons a r ih => intro qs; show a.1 ^ a.2 * made (r ++ qs) = a.1 ^ a.2 * made r * made qs; rw [ih, Nat.mul_assoc]
        rw [app]
        show _ * (d.1 ^ d.2 * 1) = _
        rw [Nat.mul_one]
      rw [e9]
      exact Vf.TR.cop R (cop_take A1.p A1.s hd) tr tr2
    · obtain ⟨t, c, x4, x5, x6, x7, rfl, s1, tr⟩ := hP
      rw [lv, List.take_length, A1.m] at tr
      walk_at "gi"
      rename_i z hz
      exact q z t c _ ((s0.trans s1).trans (Same.new hz)) upd_same tr
def sp_tro (K : PySem.W.Frag) : Sp := fun vs H Q _ => ∃ (r : Addr) (a b x y : Int) (n : Nat), vs = [.ref r, .int (n : Int)] ∧ RunAt K H r a b x y ∧ Rn a b x y ∧ 1 ≤ n ∧ n ≤ 1000000000000 ∧ SmB n ∧
  ∀ (z : Addr) (t c : Nat) H', Same H H' → H' z = some (.tup [.int (t : Int), .int (c : Int)]) → Vf.TR (n : Int) (rv a b x y) t c → Q (.ref z) H'
theorem ok_tail_and_round_of (T : Top K mg) : Ok P w K mg base 10 "tail_and_round_of" s_tail_and_round_of ["run", "base"] (sp_tro K) := by
  have G_check_run := ok_check_run (P := P) (w := w) (base := base) T
  have G__apart_in_walked := ok__apart_in_walked (P := P) (w := w) (base := base) T
  have G__tail_and_round := ok__tail_and_round (P := P) (w := w) (base := base) T
  refine T.d_tail_and_round_of.ok sc_tail_and_round_of (fun vs H Q E h => ?_) (fun f cdv A outer s H vs Q E hg hr h => ?_)
  · obtain ⟨r, a, b, x, y, n, rfl, _⟩ := h
    rfl
  · obtain ⟨r, a, b, x, y, n, rfl, sr, hR, n0, n1, hB, q⟩ := h
    refine ⟨_, (pss_cons (ps_expr (pe_g G_check_run (fun _ _ F => bd_check_run F) hg (hr.mono (by decide)) passL (by rfl) (pa_cons (pv 0) pa_nil)))
    (pss_one (ps_ret (pe_g G__tail_and_round (fun _ _ F => bd__tail_and_round F) hg (hr.mono (by decide)) passL (by rfl) (pa_cons (pv 0) (pa_cons (pe_g G__apart_in_walked (fun _ _ F => bd__apart_in_walked F) hg (hr.mono (by decide)) passL (by rfl) (pa_cons (pv 1) pa_nil)) pa_nil)))))), ?_⟩
    walk_at "sti"
    refine ⟨r, a, b, x, y, rfl, sr, hR, fun H1 s1 => ?_⟩
    walk_at "gi"
    refine ⟨n, rfl, n0, n1, hB, fun pa ps H2 s2 fa hl A1 => ?_⟩
    walk_at "gi"
    exact ⟨r, pa, a, b, x, y, n, ps, rfl, Same.tup (s1.trans s2) sr, hR, fa, A1, n0, n1, hB, fun z t c H3 s3 e3 tr => q z t c H3 ((s1.trans s2).trans s3) e3 tr⟩
end
section
variable {P : Program} {w : World} {K : PySem.W.Frag} {mg : Str → Option Value} {base : Heap}
theorem e30 : (10 : Int) ^ 30 = 1000000000000000000000000000000 := by decide
theorem e70 : (2 : Nat) ^ 70 = 1180591620717411303424 := by decide
def sp__check_shown : Sp := fun vs H Q _ => ∃ i : Nat, vs = [.int (i : Int)] ∧ i ≤ 500 ∧ Q .non H
theorem ok__check_shown (T : Top K mg) : Ok P w K mg base 3 "_check_shown" s__check_shown ["index"] sp__check_shown := by
  have G_is_within := ok_is_within (P := P) (w := w) (base := base) T
  refine T.d__check_shown.ok sc__check_shown (fun vs H Q E h => ?_) (fun f cdv A outer s H vs Q E hg hr h => ?_)
  · obtain ⟨i, rfl, _⟩ := h
    rfl
  · obtain ⟨i, rfl, h2, q⟩ := h
    refine ⟨_, (pss_one (ps_if (pt_not (pt_val (pe_g G_is_within (fun _ _ F => bd_is_within F) hg (hr.mono (by decide)) passL (by rfl) (pa_cons (pv 0) (pa_cons pe_int (pa_cons (pe_gi T.c_MOST_SHOWN_INDEX (by rfl)) pa_nil)))))) (pss_one ps_never) pss_nil)), ?_⟩
    walk_at "sti"
    refine ⟨(i : Int), _, _, rfl, ?_⟩
    rw [decide_eq_true (show (0 : Int) ≤ (i : Int) ∧ (i : Int) ≤ 500 from ⟨by omega, by omega⟩)]
    walk_at "gi"
    exact q
def sp__check_far (K : PySem.W.Frag) : Sp := fun vs H Q _ => ∃ (r : Addr) (a b x y i n : Int), vs = [.ref r, .int i, .int n] ∧ RunAt K H r a b x y ∧ Rn a b x y ∧ 0 ≤ i ∧ i ≤ 10 ^ 40 ∧ 1 ≤ n ∧ n ≤ 10 ^ 30 ∧ ∀ H', Same H H' → Q .non H'
theorem ok__check_far (T : Top K mg) : Ok P w K mg base 6 "_check_far" s__check_far ["run", "index", "base"] (sp__check_far K) := by
  have G_check_run := ok_check_run (P := P) (w := w) (base := base) T
  have G_check_index := ok_check_index (P := P) (w := w) (base := base) T
  have G_check_within := ok_check_within (P := P) (w := w) (base := base) T
  refine T.d__check_far.ok sc__check_far (fun vs H Q E h => ?_) (fun f cdv A outer s H vs Q E hg hr h => ?_)
  · obtain ⟨r, a, b, x, y, i, n, rfl, _⟩ := h
    rfl
  · obtain ⟨r, a, b, x, y, i, n, rfl, sr, hR, i0, i1, n0, n1, q⟩ := h
    refine ⟨_, (pss_cons (ps_expr (pe_g G_check_run (fun _ _ F => bd_check_run F) hg (hr.mono (by decide)) passL (by rfl) (pa_cons (pv 0) pa_nil)))
    (pss_cons (ps_expr (pe_g G_check_index (fun _ _ F => bd_check_index F) hg (hr.mono (by decide)) passL (by rfl) (pa_cons (pv 1) pa_nil)))
    (pss_one (ps_expr (pe_g G_check_within (fun _ _ F => bd_check_within F) hg (hr.mono (by decide)) passL (by rfl) (pa_cons (pv 2) (pa_cons pe_int (pa_cons (pe_gi T.c_MOST_FACT (by rfl)) pa_nil)))))))), ?_⟩
    walk_at "sti"
    refine ⟨r, a, b, x, y, rfl, sr, hR, fun H1 s1 => ?_⟩
    walk_at "gi"
    refine ⟨i, rfl, i0, i1, ?_⟩
    walk_at "gi"
    refine ⟨n, _, _, rfl, n0, by have := e30; omega, ?_⟩
    walk_at "gi"
    exact q H1 s1
def sp_rest59 (K : PySem.W.Frag) : Sp := fun vs H Q _ => ∃ (r : Addr) (a b x y : Int) (i : Nat) (n : Int), vs = [.ref r, .int (i : Int), .int n] ∧ RunAt K H r a b x y ∧ Rn a b x y ∧ i ≤ 10 ^ 40 ∧ 1 ≤ n ∧ n ≤ 10 ^ 30 ∧ ∀ H', Same H H' → Q (.int (rv a b x y i % n)) H'
theorem i40 {i : Nat} (h : i ≤ 10 ^ 40) : (i : Int) ≤ 10 ^ 40 := by
  have h1 := e40
  have h2 : (10 : Nat) ^ 40 = 10000000000000000000000000000000000000000 := by decide
  omega
theorem ok_rest_at (T : Top K mg) : Ok P w K mg base 7 "rest_at" s_rest_at ["run", "index", "base"] (sp_rest59 K) := by
  have G__check_far := ok__check_far (P := P) (w := w) (base := base) T
  have G_pair_at := ok_pair_at (P := P) (w := w) (base := base) T
  refine T.d_rest_at.ok sc_rest_at (fun vs H Q E h => ?_) (fun f cdv A outer s H vs Q E hg hr h => ?_)
  · obtain ⟨r, a, b, x, y, i, n, rfl, _⟩ := h
    rfl
  · obtain ⟨r, a, b, x, y, i, n, rfl, sr, hR, i1, n0, n1, q⟩ := h
    refine ⟨_, (pss_cons (ps_expr (pe_g G__check_far (fun _ _ F => bd__check_far F) hg (hr.mono (by decide)) passL (by rfl) (pa_cons (pv 0) (pa_cons (pv 1) (pa_cons (pv 2) pa_nil)))))
    (pss_one (ps_ret (pe_ix (x_tup rfl) (pe_g G_pair_at (fun _ _ F => bd_pair_at F) hg (hr.mono (by decide)) passL (by rfl) (pa_cons (pv 0) (pa_cons (pv 1) (pa_cons (pv 2) pa_nil)))) pe_int (fun _ _ => rfl))))), ?_⟩
    walk_at "sti"
    refine ⟨r, a, b, x, y, _, n, rfl, sr, hR, by omega, i40 i1, n0, n1, fun H1 s1 => ?_⟩
    walk_at "gi"
    refine ⟨r, a, b, x, y, i, n, rfl, Same.tup s1 sr, hR, by omega, n1, fun u H2 s2 e2 => ?_⟩
    walk_at "gi"
    exact r_ixT (SqT.of e2) (atI_nat (j := 0) rfl) (q H2 (s1.trans s2))
structure BasOk (a b c : Int) (n : Nat) : Prop where
  a0 : 0 ≤ a
  ab : Builtin.Int.intBits a ≤ 1048600
  b0 : 0 ≤ b
  bM : b < 2147480197
  c0 : 0 ≤ c
  cn : c ≤ n
def Bas (n : Nat) (k : Addr) (H : Hp) : Prop := ∃ a b c : Int, H k = some (.lst [.int a, .int b, .int c]) ∧ BasOk a b c n
theorem Bas.mono {n m : Nat} {k : Addr} {H : Hp} (h : Bas n k H) (l : n ≤ m) : Bas m k H := by
  obtain ⟨a, b, c, e, o⟩ := h
  exact ⟨a, b, c, e, o.a0, o.ab, o.b0, o.bM, o.c0, by have := o.cn; omega⟩
theorem Bas.same {n : Nat} {k : Addr} {H H' : Hp} (h : Bas n k H) (s : Same H H') : Bas n k H' := by
  obtain ⟨a, b, c, e, o⟩ := h
  exact ⟨a, b, c, s _ _ e, o⟩
theorem Bas.new {n : Nat} {k p : Addr} {H : Hp} {o : HO} (h : Bas n k H) (hp : H p = none) : Bas n k (upd H p o) := h.same (Same.new hp)
theorem Bas.ne {n : Nat} {k p : Addr} {H : Hp} (h : Bas n k H) (hp : H p = none) : p ≠ k := by
  obtain ⟨a, b, c, e, o⟩ := h
  exact (ne_of_none e hp).symm
theorem Bas.tt {n : Nat} {k : Addr} {H H' : Hp} (h : Bas n k H) (e : Kx k H H') : Tt H H' := by
  obtain ⟨a, b, c, z, o⟩ := h
  exact e.tt z
theorem Bas.none {n : Nat} {k q : Addr} {H H' : Hp} (h : Bas n k H') (e : Kx k H H') (hq : H' q = Option.none) : H q = Option.none := by
  obtain ⟨a, b, c, z, o⟩ := h
  exact none_kx e z hq
def sp_sip : Sp := fun vs H Q _ => ∃ (k : Addr) (u : Int) (n : Nat), vs = [.ref k, .int u] ∧ Bas n k H ∧ n ≤ 2 ^ 60 ∧ 0 < u ∧ u < 2 ^ 62 ∧
  ∀ f H', 0 ≤ f → f < u → Kx k H H' → Bas (n + 1) k H' → Q (.int f) H'
theorem i_sip {k : Addr} {u : Int} {H : Hp} {Q : VK} {E : XK} (n : Nat) (hk : Bas n k H) (hn : n ≤ 2 ^ 60) (h0 : 0 < u) (h1 : u < 2 ^ 62)
    (q : ∀ f H', 0 ≤ f → f < u → Kx k H H' → Bas (n + 1) k H' → Q (.int f) H') : sp_sip [.ref k, .int u] H Q E := ⟨k, u, n, rfl, hk, hn, h0, h1, q⟩
def sp_any (K : PySem.W.Frag) : Sp := fun vs H Q _ => ∃ (k t : Addr) (xs : List V) (n : Nat), vs = [.ref k, .ref t] ∧ Bas n k H ∧ n ≤ 2 ^ 60 ∧ t ≠ k ∧ SqL K H t xs ∧ 0 < xs.length ∧ xs.length ≤ 100000 ∧
  ∀ (i : Nat) (x : V) H', xs[i]? = some x → Kx k H H' → Bas (n + 1) k H' → Q x H'
theorem i_any {K : PySem.W.Frag} {k t : Addr} {H : Hp} {Q : VK} {E : XK} (n : Nat) (xs : List V) (hk : Bas n k H) (hn : n ≤ 2 ^ 60) (ht : t ≠ k) (hs : SqL K H t xs) (h0 : 0 < xs.length) (h1 : xs.length ≤ 100000)
    (q : ∀ (i : Nat) (x : V) H', xs[i]? = some x → Kx k H H' → Bas (n + 1) k H' → Q x H') : sp_any K [.ref k, .ref t] H Q E := ⟨k, t, xs, n, rfl, hk, hn, ht, hs, h0, h1, q⟩
def sp_basin (K : PySem.W.Frag) : Sp := fun vs H Q _ => ∃ (c : Addr) (ns : List Int) (j : Nat), vs = [.ref c, .int (j : Int)] ∧ SqL K H c (ns.map V.int) ∧ Script ns ∧ j ≤ 1000 ∧
  ∀ p H', Same H H' → H p = none → Bas 5 p H' → Q (.ref p) H'
theorem i_basin {K : PySem.W.Frag} {c : Addr} {H : Hp} {Q : VK} {E : XK} (ns : List Int) (j : Nat) (hs : SqL K H c (ns.map V.int)) (hn : Script ns) (hj : j ≤ 1000)
    (q : ∀ p H', Same H H' → H p = none → Bas 5 p H' → Q (.ref p) H') : sp_basin K [.ref c, .int (j : Int)] H Q E := ⟨c, ns, j, rfl, hs, hn, hj, q⟩
theorem ok__law_sip (T : Top K mg) : Ok P w K mg base 1 "_law_sip" s__law_sip ["_law_basin_here", "_law_size"] sp_sip := by
  refine T.d__law_sip.ok sc__law_sip (fun vs H Q E h => ?_) (fun f cdv A outer s H vs Q E hg hr h => ?_)
  · obtain ⟨k, u, n, rfl, _⟩ := h
    rfl
  · obtain ⟨k, u, n, rfl, ⟨a, b, c, hk, o⟩, hn, h0, h1, q⟩ := h
    obtain ⟨oa, oab, ob, obM, oc, ocn⟩ := o
    have E60 := e60
    refine ⟨_, (pss_cons (ps_asg (pe_op op_add (pe_ix (x_list rfl) (pv 0) pe_int (fun _ _ => rfl)) pe_int) (pg_sub (pv 0) pe_int set_list))
    (pss_cons (ps_asg (pe_op op_mod (pe_callTy (T := "int") c_int (by rfl) T.b_int (by decide +kernel) (pa_cons (pe_op op_add (pe_op op_add (pe_op op_mulX (pe_ix (x_list rfl) (pv 0) pe_int (fun _ _ => rfl)) pe_int) (pe_op op_mulX pe_int (pe_ix (x_list rfl) (pv 0) pe_int (fun _ _ => rfl)))) pe_int) pa_nil)) pe_int) (pg_sub (pv 0) pe_int set_list))
    (pss_cons (ps_if (pt_cmpR op_gt (pe_ix (x_list rfl) (pv 0) pe_int (fun _ _ => rfl)) pe_int (nomark _)) (pss_cons (ps_asg (pe_callB (id := "divmod") c_divmod (by rfl) T.b_divmod (by decide +kernel) (pa_cons (pe_callTy (T := "int") c_int (by rfl) T.b_int (by decide +kernel) (pa_cons (pe_ix (x_list rfl) (pv 0) pe_int (fun _ _ => rfl)) pa_nil)) (pa_cons (pv 1) pa_nil))) (g_tup rfl rfl (pgs_cons (pg_sub (pv 0) pe_int set_list) (pgs_cons (pg_name (i := 2) sc__law_sip.nd rfl (.inl rfl)) pgs_nil)) rfl rfl))
    (pss_one (ps_ret (pv 2)))) pss_nil)
    (pss_cons (ps_set (i := 3) sc__law_sip.nd rfl (.inl rfl) (pe_op op_mod (pe_callTy (T := "int") c_int (by rfl) T.b_int (by decide +kernel) (pa_cons (pe_op op_add (pe_op op_mulX (pe_ix (x_list rfl) (pv 0) pe_int (fun _ _ => rfl)) (pe_op op_add (pe_ix (x_list rfl) (pv 0) pe_int (fun _ _ => rfl)) (pe_op op_mulX pe_int (pe_ix (x_list rfl) (pv 0) pe_int (fun _ _ => rfl))))) pe_int) pa_nil)) pe_int))
    (pss_one (ps_ret (pe_op op_mod (pe_callTy (T := "int") c_int (by rfl) T.b_int (by decide +kernel) (pa_cons (pe_op op_fdivW (pv 3) pe_int) pa_nil)) (pv 1)))))))), ?_⟩
    walk_at "st"
    refine r_ixL (SqL.of hk) (atI_nat (j := 2) rfl) ?_
    walk_at "go"
    refine r_setL (j := 2) hk rfl ?_
    walk_at "go"
    have hk1 : upd H k (.lst ([V.int a, V.int b, V.int c].set 2 (V.int (c + 1)))) k = some (.lst [.int a, .int b, .int (c + 1)]) := upd_same
    have x1 : Kx k H (upd H k (.lst ([V.int a, V.int b, V.int c].set 2 (V.int (c + 1))))) := Kx.upd
    generalize upd H k (.lst ([V.int a, V.int b, V.int c].set 2 (V.int (c + 1)))) = H1 at *
    refine r_ixL (SqL.of hk1) (atI_nat (j := 1) rfl) ?_
    walk_at "go"
    refine r_rI (bit_mul (a := 64) (b := 64) (bit_of (by omega)) (bit_of (by decide)) (by decide)) ?_
    walk_at "go"
    refine r_ixL (SqL.of hk1) (atI_nat (j := 2) rfl) ?_
    walk_at "go"
    refine r_rI (bit_mul (a := 64) (b := 64) (bit_of (by decide)) (bit_of (by omega)) (by decide)) ?_
    walk_at "go"
    refine r_rI (by decide) ?_
    walk_at "go"
    generalize hz : (b * 35027 + 18013 * (c + 1) + 71) % 2147480059 = z
    have z1 : 0 ≤ z := by rw [← hz]; exact Int.emod_nonneg _ (by decide)
    have z2 : z < 2147480059 := by rw [← hz]; exact Int.emod_lt_of_pos _ (by decide)
    refine r_setL (j := 1) hk1 rfl ?_
    walk_at "gi"
    have hk2 : upd H1 k (.lst ([V.int a, V.int b, V.int (c + 1)].set 1 (V.int z))) k = some (.lst [.int a, .int z, .int (c + 1)]) := upd_same
    have x2 : Kx k H (upd H1 k (.lst ([V.int a, V.int b, V.int (c + 1)].set 1 (V.int z)))) := x1.trans Kx.upd
    generalize upd H1 k (.lst ([V.int a, V.int b, V.int (c + 1)].set 1 (V.int z))) = H2 at *
    refine r_ixL (SqL.of hk2) (atI_nat (j := 0) rfl) ?_
    walk_at "gi"
    refine ifd (fun ca => ?_) (fun ca => ?_)
    · walk_at "gi"
      refine r_ixL (SqL.of hk2) (atI_nat (j := 0) rfl) ?_
      walk_at "gi"
      refine r_divmod (divp_of h0 h1) fun p hp => ?_
      walk_at "gi"
      refine r_setL (j := 0) (at_new hp hk2) rfl ?_
      walk_at "gi"
      refine q _ _ (Int.emod_nonneg _ (by omega)) (Int.emod_lt_of_pos _ h0) (x2.trans (Kx.trans (Same.toKx (Same.new hp)) Kx.upd)) ⟨a / u, z, c + 1, upd_same, ⟨Int.ediv_nonneg oa (by omega), ?_, z1, by omega, by omega, by omega⟩⟩
      refine Nat.le_trans (bits_mono ?_) oab
      have := Int.ediv_le_self u oa
      have := Int.ediv_nonneg oa (show 0 ≤ u by omega)
      omega
    · walk_at "gi"
      refine r_ixL (SqL.of hk2) (atI_nat (j := 1) rfl) ?_
      walk_at "gi"
      refine r_ixL (SqL.of hk2) (atI_nat (j := 1) rfl) ?_
      walk_at "gi"
      refine r_ixL (SqL.of hk2) (atI_nat (j := 2) rfl) ?_
      walk_at "gi"
      refine r_rI (bit_mul (a := 64) (b := 64) (bit_of (by decide)) (bit_of (by omega)) (by decide)) ?_
      walk_at "gi"
      refine r_rI (bit_mul (a := 64) (b := 70) (bit_of (by omega)) (bit_of (by have := e70; omega)) (by decide)) ?_
      walk_at "gi"
      refine r_rI (by decide) ?_
      walk_at "gi"
      generalize hd : (z * (z + 53 * (c + 1)) + 6007) % 2147480009 = d
      have d1 : 0 ≤ d := by rw [← hd]; exact Int.emod_nonneg _ (by decide)
      have d2 : d < 2147480009 := by rw [← hd]; exact Int.emod_lt_of_pos _ (by decide)
      refine r_rI (divw_of (by decide) (by decide)) ?_
      walk_at "gi"
      refine r_rI h0 ?_
      exact q _ _ (Int.emod_nonneg _ (by omega)) (Int.emod_lt_of_pos _ h0) x2 ⟨a, z, c + 1, hk2, ⟨oa, oab, z1, by omega, by omega, by omega⟩⟩
theorem ok__law_any (T : Top K mg) : Ok P w K mg base 2 "_law_any" s__law_any ["_law_basin_here", "_law_some"] (sp_any K) := by
  have G__law_sip := ok__law_sip (P := P) (w := w) (base := base) T
  refine T.d__law_any.ok sc__law_any (fun vs H Q E h => ?_) (fun f cdv A outer s H vs Q E hg hr h => ?_)
  · obtain ⟨k, t, xs, n, rfl, _⟩ := h
    rfl
  · obtain ⟨k, t, xs, n, rfl, hk, hn, ht, hs, h0, h1, q⟩ := h
    refine ⟨_, (pss_one (ps_ret (pe_ix (x_list rfl) (pv 1) (pe_g G__law_sip (fun _ _ F => bd__law_sip F) hg (hr.mono (by decide)) passL (by rfl) (pa_cons (pv 0) (pa_cons (pe_callB (id := "len") (c_len rfl) (by rfl) T.b_len (by decide +kernel) (pa_cons (pv 1) pa_nil)) pa_nil))) (fun _ _ => rfl)))), ?_⟩
    walk_at "sti"
    refine i_sip n hk hn (by omega) (by have := e62; omega) fun f H' f0 f1 kx hk' => ?_
    obtain ⟨j, rfl⟩ := Int.eq_ofNat_of_zero_le f0
    have hj : j < xs.length := by omega
    exact r_ixL (kx.list ht hs) (atI_nat (List.getElem?_eq_getElem hj)) (q j _ _ (List.getElem?_eq_getElem hj) kx hk')
theorem ok__law_basin (T : Top K mg) : Ok P w K mg base 1 "_law_basin" s__law_basin ["_law_script", "_law_k"] (sp_basin K) := by
  refine T.d__law_basin.ok sc__law_basin (fun vs H Q E h => ?_) (fun f cdv A outer s H vs Q E hg hr h => ?_)
  · obtain ⟨c, ns, j, rfl, _⟩ := h
    rfl
  · obtain ⟨c, ns, j, rfl, hs, ⟨hl, hb⟩, hj, q⟩ := h
    have cell : ∀ i : Nat, i < ns.length → ∃ z, (ns.map V.int)[i]? = some (V.int z) ∧ Builtin.Int.intBits z ≤ 1048576 := fun i hi =>
      ⟨ns[i], by rw [List.getElem?_map, List.getElem?_eq_getElem hi]; rfl, hb _ (List.getElem_mem hi)⟩
    refine ⟨_, (pss_cons (ps_set (i := 2) sc__law_basin.nd rfl (.inl rfl) (pe_ifExp (pt_cmpR op_lt (pv 1) (pe_callB (id := "len") (c_len rfl) (by rfl) T.b_len (by decide +kernel) (pa_cons (pv 0) pa_nil)) (nomark _)) (pe_callTy (T := "int") c_int (by rfl) T.b_int (by decide +kernel) (pa_cons (pe_ix (x_list rfl) (pv 0) (pv 1) (fun _ _ => rfl)) pa_nil)) (pe_op op_add (pe_op op_mulX pe_int (pv 1)) pe_int)))
    (pss_cons (ps_set (i := 3) sc__law_basin.nd rfl (.inl rfl) (pe_op op_add pe_int (pe_op op_mulX pe_int (pv 1))))
    (pss_cons (ps_for (passes_of rfl) rfl (i_list rfl (pe_slice (s_list rfl) (pv 0) po_none (po_some pe_int))) (pg_name (i := 4) sc__law_basin.nd rfl (.inl rfl)) (pss_one (ps_set (i := 3) sc__law_basin.nd rfl (.inl rfl) (pe_op op_mod (pe_callTy (T := "int") c_int (by rfl) T.b_int (by decide +kernel) (pa_cons (pe_op op_add (pe_op op_mulX (pv 3) pe_int) (pe_callTy (T := "int") c_int (by rfl) T.b_int (by decide +kernel) (pa_cons (pv 4) pa_nil))) pa_nil)) pe_int))))
    (pss_one (ps_ret (pe_lst (pa_cons (pe_ifExp (PW.pt (pw_or (pt_cmpR op_lt (pv 2) pe_int (nomark _)) (pw_or1 (pt_cmpR op_ge (pv 2) (pe_op op_pow pe_int pe_int) (nomark _))))) (pe_callB (id := "abs") c_abs (by rfl) T.b_abs (by decide +kernel) (pa_cons (pv 2) pa_nil)) pe_int) (pa_cons (pe_op op_mod (pe_callTy (T := "int") c_int (by rfl) T.b_int (by decide +kernel) (pa_cons (pe_op op_add (pe_op op_mulX (pv 3) pe_int) (pv 2)) pa_nil)) pe_int) (pa_cons pe_int pa_nil))))))))), ?_⟩
    walk_at "st"
    refine j_if (fun v H' => H' = H ∧ ∃ own : Int, v = .int own ∧ Builtin.Int.intBits own ≤ 1048576) (fun Q' q' => ?_) (fun v H' hv => ?_)
    · walk_at "gi"
      refine ifd (fun cc => ?_) (fun cc => ?_)
      · walk_at "gi"
        have hj2 : j < ns.length := by
          rw [List.length_map] at cc
          omega
        obtain ⟨z, e, hz⟩ := cell j hj2
        refine r_ixL hs (atI_nat e) ?_
        walk_at "gi"
        exact q' _ _ ⟨rfl, z, rfl, hz⟩
      · walk_at "gi"
        refine r_rI (bit_mul (a := 64) (b := 64) (bit_of (by decide)) (bit_of (by omega)) (by decide)) ?_
        walk_at "gi"
        exact q' _ _ ⟨rfl, _, rfl, Nat.le_trans (bit_of (a := 64) (by omega)) (by decide)⟩
    obtain ⟨rfl, own, rfl, ho⟩ := hv
    walk_at "go"
    refine r_rI (bit_mul (a := 64) (b := 64) (bit_of (by decide)) (bit_of (by omega)) (by decide)) ?_
    walk_at "go"
    have ho : Builtin.Int.intBits own ≤ 1048576 := ho
    refine r_slL hs fun p hp => ?_
    walk_at "go"
    have cut : cutV (ns.map V.int) none (some 17) = (ns.take 17).map V.int := by
      exact (cut_to (ns.map V.int) 17).trans (List.map_take ..).symm
    rw [cut]
    have hcut : ∀ z ∈ ns.take 17, Builtin.Int.intBits z ≤ 1048576 := fun z hz => hb z (List.mem_of_mem_take hz)
    generalize ns.take 17 = ms at *
    refine r_forLs (ms.map V.int) (fun i σ H1 => H1 = upd H' p (.lst (ms.map V.int)) ∧ ∃ (bl : Int) (x4 : Option V), σ = [some (.ref c), some (.int (j : Int)), some (.int own), some (.int bl), x4] ∧ 0 ≤ bl ∧ bl < 2 ^ 40)
      ⟨rfl, 61211 + 907 * (j : Int), none, rfl, by omega, by omega⟩ (fun i σ H1 _ hP => ?_) (fun i x σ H1 hi hP => ?_) (fun σ H1 hP => ?_)
    · obtain ⟨rfl, _⟩ := hP
      exact SqL.of upd_same
    · obtain ⟨rfl, bl, x4, rfl, b0, b1⟩ := hP
      have hx : ∃ z, x = V.int z ∧ Builtin.Int.intBits z ≤ 1048576 := by
        rw [List.getElem?_map] at hi
        cases e : ms[i]? with
        | none => rw [e] at hi; cases hi
        | some z =>
          rw [e] at hi
          exact ⟨z, (Option.some.inj hi).symm, hcut z (List.mem_of_getElem? e)⟩
      obtain ⟨z, rfl, hz⟩ := hx
      walk_at "go"
      refine r_rI (bit_mul (a := 64) (b := 64) (bit_of (by omega)) (bit_of (by decide)) (by decide)) ?_
      walk_at "go"
      refine r_rI (by decide) ?_
      walk_at "go"
      exact ⟨rfl, _, _, rfl, Int.emod_nonneg _ (by decide), Int.lt_trans (Int.emod_lt_of_pos _ (by decide)) (by decide)⟩
    obtain ⟨rfl, bl, x4, rfl, b0, b1⟩ := hP
    walk_at "go"
    refine j_if (fun v H2 => H2 = upd H' p (.lst (ms.map V.int)) ∧ ∃ a : Int, v = .int a ∧ 0 ≤ a ∧ Builtin.Int.intBits a ≤ 1048600) (fun Q' q' => ?_) (fun v H2 hv => ?_)
    · walk_at "gi"
      refine ifd (fun cc => ?_) (fun cc => ?_)
      · walk_at "gi"
        refine q' _ _ ⟨rfl, _, rfl, by omega, Nat.le_trans (bits_mono ?_) (Nat.le_trans ho (by decide))⟩
        omega
      · walk_at "gi"
        refine r_rI ⟨by decide, by decide, by decide⟩ ?_
        walk_at "gi"
        refine ifd (fun c2 => ?_) (fun c2 => ?_)
        · walk_at "gi"
          refine q' _ _ ⟨rfl, _, rfl, by omega, Nat.le_trans (bits_mono ?_) (Nat.le_trans ho (by decide))⟩
          omega
        · walk_at "gi"
          exact q' _ _ ⟨rfl, 0, rfl, by decide, by decide⟩
    obtain ⟨rfl, a, rfl, a0, ab⟩ := hv
    walk_at "go"
    refine r_rI (bit_mul (a := 64) (b := 64) (bit_of (by omega)) (bit_of (by decide)) (by decide)) ?_
    walk_at "go"
    refine r_rI (by decide) ?_
    walk_at "go"
    exact q _ _ (by walk_at "vsame") (none_up (by assumption)) ⟨a, _, 5, upd_same, ⟨a0, ab, Int.emod_nonneg _ (by decide), Int.emod_lt_of_pos _ (by decide), by decide, by decide⟩⟩
end
section
variable {P : Program} {w : World} {K : PySem.W.Frag} {mg : Str → Option Value} {base : Heap}
theorem cut_from {xs : List V} {i : Nat} (h : i ≤ xs.length) : cutV xs (some (i : Int)) none = xs.drop i := by
  unfold cutV
  rw [HT.sIx_none, HT.sIx_nat, show min i xs.length = i by omega]
  exact List.take_of_length_le (by rw [List.length_drop]; omega)
theorem cut_mid {xs : List V} {i j : Nat} (h : i + j ≤ xs.length) : cutV xs (some (i : Int)) (some ((i + j : Nat) : Int)) = (xs.drop i).take j := by
  unfold cutV
  rw [HT.sIx_nat, HT.sIx_nat, show min i xs.length = i by omega, show min (i + j) xs.length = i + j by omega, Nat.add_sub_cancel_left]
def sp_lvals (K : PySem.W.Frag) : Sp := fun vs H Q _ => ∃ (r : Addr) (a b x y : Int) (m : Nat), vs = [.ref r, .int (m : Int)] ∧ RunAt K H r a b x y ∧ Rn a b x y ∧ 2 ≤ m ∧ m ≤ 501 ∧
  ∀ l H', Same H H' → H l = none → H' l = some (.lst (((List.range m).map fun i => rv a b x y i).map V.int)) → Q (.ref l) H'
theorem ok__law_values (T : Top K mg) : Ok P w K mg base 1 "_law_values" s__law_values ["_law_run_now", "_law_many"] (sp_lvals K) := by
  refine T.d__law_values.ok sc__law_values (fun vs H Q E h => ?_) (fun f cdv A outer s H vs Q E hg hr h => ?_)
  · obtain ⟨r, a, b, x, y, m, rfl, _⟩ := h
    rfl
  · obtain ⟨r, a, b, x, y, m, rfl, sr, hR, m2, m1, q⟩ := h
    have E62 := e62
    refine ⟨_, (pss_cons (ps_set (i := 2) sc__law_values.nd rfl (.inl rfl) (pe_lst (pa_cons (pe_ix (x_tup rfl) (pv 0) pe_int (fun _ _ => rfl)) (pa_cons (pe_ix (x_tup rfl) (pv 0) pe_int (fun _ _ => rfl)) pa_nil))))
    (pss_cons (ps_for (passes_of rfl) rfl (pi_range1 (by rfl) T.b_range (pa_cons (pe_op op_sub (pv 1) pe_int) pa_nil)) (pg_name (i := 3) sc__law_values.nd rfl (.inl rfl)) (pss_one (ps_expr (pe_bm PySem.F.plainAttrs_list PySem.F.slot_list_append PySem.F.type_list_append mt_append (pv 2) (pa_cons (pe_op op_add (pe_op op_mulX (pe_ix (x_tup rfl) (pv 0) pe_int (fun _ _ => rfl)) (pe_ix (x_list rfl) (pv 2) (pe_un un_neg pe_int) (fun _ _ => rfl))) (pe_op op_mulX (pe_ix (x_tup rfl) (pv 0) pe_int (fun _ _ => rfl)) (pe_ix (x_list rfl) (pv 2) (pe_un un_neg pe_int) (fun _ _ => rfl)))) pa_nil)))))
    (pss_one (ps_ret (pv 2))))), ?_⟩
    walk_at "sti"
    refine r_ixT sr (atI_nat (j := 2) rfl) ?_
    walk_at "gi"
    refine r_ixT sr (atI_nat (j := 3) rfl) ?_
    walk_at "gi"
    rename_i l0 hl0
    refine ⟨by omega, by omega, ?_⟩
    rw [show ((m : Int) - 2).toNat = m - 2 by omega]
    refine r_forR (fun i σ H' => ∃ x3, σ = [some (.ref r), some (.int (m : Int)), some (.ref l0), x3] ∧ Same H H' ∧ H' l0 = some (.lst (((List.range (i + 2)).map fun i => rv a b x y i).map V.int)))
      ⟨_, rfl, Same.new hl0, upd_same⟩ (fun i σ H' hi hP => ?_) (fun σ H' hP => ?_)
    · obtain ⟨x3, rfl, s1, e1⟩ := hP
      have len : ((List.range (i + 2)).map fun i => rv a b x y i).length = i + 2 := by simp
      walk_at "gi"
      have hv1 := rv_bits hR (k := i + 1) (by omega)
      have hv2 := rv_bits hR (k := i) (by omega)
      have sr1 := Same.tup s1 sr
      refine ⟨.inl ⟨rfl, _, SqL.of e1⟩, ?_⟩
      walk_at "gi"
      refine r_ixT sr1 (atI_nat (j := 0) rfl) ?_
      walk_at "gi"
      refine r_ixL (SqL.of e1) (atI_neg (j := 1) (c := rv a b x y (i + 1)) (by decide) (by omega) (by rw [len, show i + 2 - 1 = i + 1 by omega]; exact rvs_at (by omega))) ?_
      walk_at "gi"
      refine r_rI (bit_mul (a := 31) (b := 20000) (bit_of (by have := hR.a; omega)) (bit_of hv1) (by decide)) ?_
      walk_at "gi"
      refine r_ixT sr1 (atI_nat (j := 1) rfl) ?_
      walk_at "gi"
      refine r_ixL (SqL.of e1) (atI_neg (j := 2) (c := rv a b x y i) (by decide) (by omega) (by rw [len, show i + 2 - 2 = i by omega]; exact rvs_at (by omega))) ?_
      walk_at "gi"
      refine r_rI (bit_mul (a := 31) (b := 20000) (bit_of (by have := hR.b; omega)) (bit_of hv2) (by decide)) ?_
      walk_at "gi"
      refine r_app e1 (by rw [List.length_map, len]; omega) ?_
      walk_at "gi"
      refine ⟨fun b' o e => ?_, ?_⟩
      · rw [upd_ne (ne_of_none e hl0)]
        exact s1 _ _ e
      · rw [show i + 1 + 2 = (i + 2) + 1 from rfl, List.range_succ (n := i + 2), List.map_append, List.map_append]
        exact upd_same
    · obtain ⟨x3, rfl, s1, e1⟩ := hP
      rw [show m - 2 + 2 = m by omega] at e1
      walk_at "gi"
      exact q l0 H' s1 hl0 e1
def ky (a b x y n : Int) (i : Nat) : List L2.Key := [.inl (rv a b x y i % n), .inl (rv a b x y (i + 1) % n)]
def wm (a b x y n : Int) (m : Nat) : List (List L2.Key × V) := (List.range m).map fun j => (ky a b x y n j, V.int (j : Int))
theorem wm_get {a b x y n : Int} {m : Nat} {k : List L2.Key} {v : V} (h : L2.valV (wm a b x y n m) k = some v) : ∃ j : Nat, j < m ∧ ky a b x y n j = k ∧ v = .int (j : Int) := by
  unfold L2.valV at h
  obtain ⟨p, hp, rfl⟩ := Option.map_eq_some_iff.mp h
  have h1 := List.find?_some hp
  obtain ⟨j, hj, rfl⟩ := List.mem_map.mp (List.mem_of_find?_eq_some hp)
  exact ⟨j, List.mem_range.mp hj, of_decide_eq_true h1, rfl⟩
theorem wm_none {a b x y n : Int} {m : Nat} {k : List L2.Key} (h : L2.valV (wm a b x y n m) k = none) : (∀ j < m, ky a b x y n j ≠ k) ∧ ∀ v, L2.putK (wm a b x y n m) k v = wm a b x y n m ++ [(k, v)] := by
  have h0 := h
  unfold L2.valV at h
  have h1 := List.find?_eq_none.mp (Option.map_eq_none_iff.mp h)
  refine ⟨fun j hj e => h1 _ (List.mem_map.mpr ⟨j, List.mem_range.mpr hj, rfl⟩) (decide_eq_true e), fun v => ?_⟩
  unfold L2.putK
  rw [L2.valV_any, h0]
  rfl
theorem wm_snoc (a b x y n : Int) (m : Nat) : wm a b x y n m ++ [(ky a b x y n m, V.int (m : Int))] = wm a b x y n (m + 1) := by
  unfold wm
  rw [List.range_succ, List.map_append]
  rfl
theorem ky_eq {a b x y n : Int} {i j : Nat} (h : ky a b x y n j = ky a b x y n i) : n ∣ rv a b x y i - rv a b x y j ∧ n ∣ rv a b x y (i + 1) - rv a b x y (j + 1) := by
  injection h with h1 h2
  injection h2 with h2 _
  injection h1 with h1
  injection h2 with h2
  exact ⟨Int.dvd_of_emod_eq_zero (Int.emod_eq_emod_iff_emod_sub_eq_zero.mp h1.symm), Int.dvd_of_emod_eq_zero (Int.emod_eq_emod_iff_emod_sub_eq_zero.mp h2.symm)⟩
theorem step_rest {a b x y n : Int} (i : Nat) : (a * (rv a b x y (i + 1) % n) + b * (rv a b x y i % n)) % n = rv a b x y (i + 2) % n := by
  refine Int.emod_eq_emod_iff_emod_sub_eq_zero.mpr (Int.emod_eq_zero_of_dvd ?_)
  rw [rv]
  have z : ∀ c : Int, n ∣ c - c := fun c => by rw [Int.sub_self]; exact Int.dvd_zero n
  exact dv_add (dv_mul (z a) (dv_mod (z _))) (dv_mul (z b) (dv_mod (z _)))
def sp_gcd : Sp := fun vs H Q _ => ∃ a b : Int, vs = [.int a, .int b] ∧ Q (.int ((Nat.gcd a.natAbs b.natAbs : Nat) : Int)) H
end
section
variable {P : Program} {w : World} {K : PySem.W.Frag} {mg : Str → Option Value} {base : Heap}
/-! ### the law's own walk -/
def sp_walked (K : PySem.W.Frag) : Sp := fun vs H Q _ => ∃ (r : Addr) (a b x y : Int) (n : Nat), vs = [.ref r, .int (n : Int)] ∧ RunAt K H r a b x y ∧ Rn a b x y ∧ 0 < n ∧ n ≤ 60 ∧
  ∀ (t c : Nat) u l H', Same H H' → Vf.TR (n : Int) (rv a b x y) t c → t + c ≤ n * n →
    H' u = some (.tup [.int (t : Int), .int (c : Int), .ref l]) → H' l = some (.lst ((ws a b x y n (t + c)).map V.int)) → Q (.ref u) H'
theorem ok__law_walked (T : Top K mg) : Ok P w K mg base 1 "_law_walked" s__law_walked ["_law_run_now", "_law_base_now"] (sp_walked K) := by
  refine T.d__law_walked.ok sc__law_walked (fun vs H Q E h => ?_) (fun f cdv A outer s H vs Q E hg hr h => ?_)
  · obtain ⟨r, a, b, x, y, n, rfl, _⟩ := h
    rfl
  · obtain ⟨r, a, b, x, y, n, rfl, sr, hR, n0, n1, q⟩ := h
    have E62 := e62
    have hnn : n * n ≤ 60 * 60 := Nat.mul_le_mul n1 n1
    refine ⟨_, (pss_cons (ps_asg (pe_tup (pa_cons (pe_op op_mod (pe_ix (x_tup rfl) (pv 0) pe_int (fun _ _ => rfl)) (pv 1)) (pa_cons (pe_op op_mod (pe_ix (x_tup rfl) (pv 0) pe_int (fun _ _ => rfl)) (pv 1)) (pa_cons pe_dnewT (pa_cons (pe_lst pa_nil) pa_nil))))) (g_tup rfl rfl (pgs_cons (pg_name (i := 2) sc__law_walked.nd rfl (.inl rfl)) (pgs_cons (pg_name (i := 3) sc__law_walked.nd rfl (.inl rfl)) (pgs_cons (pg_name (i := 4) sc__law_walked.nd rfl (.inl rfl)) (pgs_cons (pg_name (i := 5) sc__law_walked.nd rfl (.inl rfl)) pgs_nil)))) rfl rfl))
    (pss_cons (ps_for (passes_of rfl) rfl (pi_range1 (by rfl) T.b_range (pa_cons (pe_op op_add (pe_op op_mulX (pv 1) (pv 1)) pe_int) pa_nil)) (pg_name (i := 6) sc__law_walked.nd rfl (.inl rfl)) (pss_cons (ps_if (pt_cmp (pc_din (Nat.lt_of_le_of_lt (Nat.add_le_add_left (by decide) _) hr.units) (pe_tup (pa_cons (pv 2) (pa_cons (pv 3) pa_nil))) (pv 4)) (by rfl)) (pss_cons (ps_set (i := 7) sc__law_walked.nd rfl (.inl rfl) (pe_dget (Nat.lt_of_le_of_lt (Nat.add_le_add_left (by decide) _) hr.units) (pv 4) (pe_tup (pa_cons (pv 2) (pa_cons (pv 3) pa_nil))) (fun _ _ => rfl)))
    (pss_one (ps_ret (pe_tup (pa_cons (pv 7) (pa_cons (pe_op op_sub (pv 6) (pv 7)) (pa_cons (pv 5) pa_nil))))))) pss_nil)
    (pss_cons (ps_dput (Nat.lt_of_le_of_lt (Nat.add_le_add_left (by decide) _) hr.units) (pv 4) (pe_tup (pa_cons (pv 2) (pa_cons (pv 3) pa_nil))) (pv 6) rfl)
    (pss_cons (ps_expr (pe_bm PySem.F.plainAttrs_list PySem.F.slot_list_append PySem.F.type_list_append mt_append (pv 5) (pa_cons (pv 2) pa_nil)))
    (pss_one (ps_par (i := 2) (j := 3) (by rfl) sc__law_walked.nd rfl rfl (by decide) rfl rfl (pa_cons (pv 3) (pa_cons (pe_op op_mod (pe_callTy (T := "int") c_int (by rfl) T.b_int (by decide +kernel) (pa_cons (pe_op op_add (pe_op op_mulX (pe_ix (x_tup rfl) (pv 0) pe_int (fun _ _ => rfl)) (pv 3)) (pe_op op_mulX (pe_ix (x_tup rfl) (pv 0) pe_int (fun _ _ => rfl)) (pv 2))) pa_nil)) (pv 1)) pa_nil)) (by rfl)))))))
    (pss_one (ps_ret pe_non)))), ?_⟩
    walk_at "sti"
    refine r_ixT sr (atI_nat (j := 2) rfl) ?_
    walk_at "gi"
    refine r_rI (show (0 : Int) < n by omega) ?_
    walk_at "gi"
    refine r_ixT sr (atI_nat (j := 3) rfl) ?_
    walk_at "gi"
    refine r_rI (show (0 : Int) < n by omega) ?_
    walk_at "gi"
    refine fun d hd => ?_
    walk_at "gi"
    rename_i p hp z hz
    refine r_rI (bit_mul (a := 30) (b := 30) (bit_of (by omega)) (bit_of (by omega)) (by decide)) ?_
    walk_at "gi"
    have hnn2 : (n : Int) * (n : Int) = ((n * n : Nat) : Int) := rfl
    rw [hnn2]
    refine ⟨by omega, by omega, ?_⟩
    rw [show (((n * n : Nat) : Int) + 1).toNat = n * n + 1 by omega]
    have hp0 : H p = none := none_up hp
    refine r_forR (fun i σ H' => ∃ x6 x7, σ = [some (.ref r), some (.int (n : Int)), some (.int (rv a b x y i % n)), some (.int (rv a b x y (i + 1) % n)), some (.ref d), some (.ref p), x6, x7] ∧ Same H H' ∧ H' d = some (.dT (wm a b x y n i)) ∧ H' p = some (.lst ((ws a b x y n i).map V.int)) ∧ ∀ i' < i, ∀ j < i', ky a b x y n j ≠ ky a b x y n i')
      ⟨_, _, rfl, ((Same.new hd).trans (Same.new hp)).trans (Same.new hz), at_new hz (at_new hp upd_same), at_new hz upd_same, fun i' h => absurd h (Nat.not_lt_zero _)⟩ (fun i σ H' hi hP => ?_) (fun σ H' hP => ?_)
    · obtain ⟨x6, x7, rfl, s1, ed, ep, hne⟩ := hP
      have pd : p ≠ d := by
        rintro rfl
        rw [ed] at ep
        cases ep
      walk_at "gi"
      rename_i T1 hT1
      refine ⟨d, _, rfl, L2.DGet.t (k := ky a b x y n i) (at_new hT1 ed) upd_same, ?_⟩
      have s2 := s1.trans (Same.new (o := .tup [.int (rv a b x y i % n), .int (rv a b x y (i + 1) % n)]) hT1)
      have ed2 := at_new (o := .tup [.int (rv a b x y i % n), .int (rv a b x y (i + 1) % n)]) hT1 ed
      have ep2 := at_new (o := .tup [.int (rv a b x y i % n), .int (rv a b x y (i + 1) % n)]) hT1 ep
      generalize upd H' T1 (.tup [.int (rv a b x y i % n), .int (rv a b x y (i + 1) % n)]) = H2 at *
      cases ho : L2.valV (wm a b x y n i) (ky a b x y n i) with
      | some v =>
        obtain ⟨j, hj, hk, rfl⟩ := wm_get ho
        obtain ⟨g0, g1⟩ := ky_eq hk
        refine ⟨true, rfl, ?_⟩
        walk_at "gi"
        rename_i T2 hT2
        refine ⟨d, _, rfl, by rw [← ho]; exact L2.DGet.t (k := ky a b x y n i) (at_new hT2 ed2) upd_same, ?_⟩
        walk_at "gi"
        rename_i u hu
        rw [show 0 + (i : Int) - (j : Int) = ((i - j : Nat) : Int) by omega]
        have tr : Vf.TR (n : Int) (rv a b x y) j (i - j) := by
          refine Vf.TR.walk (Vf.rv_rec a b x y) (by omega) ⟨?_, ?_⟩ fun i1 h1 j1 h2 e => hne i1 (by omega) j1 h2 ?_
          · rw [show j + (i - j) = i by omega]
            exact g0
          · rw [show j + (i - j) + 1 = i + 1 by omega]
            exact g1
          · unfold ky
            rw [Int.emod_eq_emod_iff_emod_sub_eq_zero.mpr (Int.emod_eq_zero_of_dvd e.1), Int.emod_eq_emod_iff_emod_sub_eq_zero.mpr (Int.emod_eq_zero_of_dvd e.2)]
        refine q j (i - j) u p _ ((s2.trans (Same.new hT2)).trans (Same.new hu)) tr (by omega) upd_same (at_new hu (at_new hT2 ?_))
        rw [show j + (i - j) = i by omega]
        exact ep2
      | none =>
        obtain ⟨g0, g1⟩ := wm_none ho
        refine ⟨false, rfl, ?_⟩
        walk_at "gi"
        rename_i T2 hT2
        refine ⟨d, _, rfl, L2.DPut.t (k := ky a b x y n i) (at_new hT2 ed2) upd_same (lenle (n := 3700) (by simp [wm]; omega) (by decide)), ?_⟩
        rw [g1, Int.zero_add, wm_snoc]
        walk_at "gi"
        have ep3 := at_ne (o := .dT (wm a b x y n (i + 1))) pd (at_new (o := .tup [.int (rv a b x y i % n), .int (rv a b x y (i + 1) % n)]) hT2 ep2)
        refine ⟨.inl ⟨rfl, _, SqL.of ep3⟩, ?_⟩
        walk_at "gi"
        refine r_app ep3 (by rw [List.length_map, ws_len]; omega) ?_
        walk_at "gi"
        have s4 : ∀ o1 o2, Same H (upd (upd (upd H2 T2 (.tup [.int (rv a b x y i % n), .int (rv a b x y (i + 1) % n)])) d o1) p o2) := fun o1 o2 b' o e => by
          rw [upd_ne (ne_of_none e hp0), upd_ne (ne_of_none e hd)]
          exact Same.new hT2 _ _ (s2 _ _ e)
        have r1 := Int.emod_nonneg (rv a b x y (i + 1)) (show (n : Int) ≠ 0 by omega)
        have r2 := Int.emod_lt_of_pos (rv a b x y (i + 1)) (show (0 : Int) < n by omega)
        have r3 := Int.emod_nonneg (rv a b x y i) (show (n : Int) ≠ 0 by omega)
        have r4 := Int.emod_lt_of_pos (rv a b x y i) (show (0 : Int) < n by omega)
        refine r_ixT (Same.tup (s4 _ _) sr) (atI_nat (j := 0) rfl) ?_
        walk_at "gi"
        refine r_rI (bit_mul (a := 31) (b := 10) (bit_of (by have := hR.a; omega)) (bit_of (by omega)) (by decide)) ?_
        walk_at "gi"
        refine r_ixT (Same.tup (s4 _ _) sr) (atI_nat (j := 1) rfl) ?_
        walk_at "gi"
        refine r_rI (bit_mul (a := 31) (b := 10) (bit_of (by have := hR.b; omega)) (bit_of (by omega)) (by decide)) ?_
        walk_at "gi"
        refine r_rI (show (0 : Int) < n by omega) ?_
        walk_at "gi"
        rw [step_rest]
        refine ⟨_, _, rfl, s4 _ _, at_ne (Ne.symm pd) upd_same, by rw [ws_snoc, List.map_append]; exact upd_same, fun i' hi' j hj => ?_⟩
        rcases Nat.lt_or_ge i' i with c | c
        · exact hne i' c j hj
        · rw [show i' = i by omega] at hj ⊢
          exact g0 j hj
    · obtain ⟨x6, x7, rfl, s1, ed, ep, hne⟩ := hP
      refine absurd (pair_pig (a := a) (b := b) (x := x) (y := y) n0 fun i hi j hj e => hne i hi j hj ?_) id
      unfold ky
      rw [e.1, e.2]
end
section
variable {P : Program} {w : World} {K : PySem.W.Frag} {mg : Str → Option Value} {base : Heap}
theorem ok__law_shared (T : Top K mg) : Ok P w K mg base 1 "_law_shared" s__law_shared ["_law_one", "_law_two"] sp_gcd := by
  refine T.d__law_shared.ok sc__law_shared (fun vs H Q E h => ?_) (fun f cdv A outer s H vs Q E hg hr h => ?_)
  · obtain ⟨a, b, rfl, _⟩ := h
    rfl
  · obtain ⟨a, b, rfl, q⟩ := h
    refine ⟨_, (pss_cons (ps_par (i := 0) (j := 1) (by rfl) sc__law_shared.nd rfl rfl (by decide) rfl rfl (pa_cons (pe_callB (id := "abs") c_abs (by rfl) T.b_abs (by decide +kernel) (pa_cons (pv 0) pa_nil)) (pa_cons (pe_callB (id := "abs") c_abs (by rfl) T.b_abs (by decide +kernel) (pa_cons (pv 1) pa_nil)) pa_nil)) (by rfl))
    (pss_cons (ps_while (passes_of rfl) (pt_cmpR op_gt (pv 1) pe_int (nomark _)) (pss_one (ps_par (i := 0) (j := 1) (by rfl) sc__law_shared.nd rfl rfl (by decide) rfl rfl (pa_cons (pv 1) (pa_cons (pe_op op_mod (pe_callTy (T := "int") c_int (by rfl) T.b_int (by decide +kernel) (pa_cons (pv 0) pa_nil)) (pv 1)) pa_nil)) (by rfl))))
    (pss_one (ps_ret (pv 0))))), ?_⟩
    walk_at "sti"
    generalize hg0 : Nat.gcd a.natAbs b.natAbs = g at *
    refine r_while (fun m σ H' => ∃ l r : Nat, σ = [some (.int (l : Int)), some (.int (r : Int))] ∧ Nat.gcd l r = g ∧ m = r ∧ H' = H) b.natAbs ⟨a.natAbs, b.natAbs, rfl, hg0, rfl, rfl⟩ fun m σ H1 hW => ?_
    obtain ⟨l, r, rfl, e, rfl, rfl⟩ := hW
    walk_at "gi"
    refine ifd (fun c => ?_) (fun c => ?_)
    · walk_at "gi"
      refine r_rI c ?_
      walk_at "gi"
      refine ⟨l % m, Nat.mod_lt _ (by omega), m, l % m, ?_, ?_, rfl, rfl⟩
      · rw [Int.natCast_emod]
        rfl
      · rw [← e, Nat.gcd_comm l m, Nat.gcd_rec m l, Nat.gcd_comm]
    · have r0 : m = 0 := by omega
      rw [r0, Nat.gcd_zero_right] at e
      walk_at "gi"
      rw [e]
      exact q
end
section
variable {P : Program} {w : World} {K : PySem.W.Frag} {mg : Str → Option Value} {base : Heap}
/-! ### entries -/
def sp_cor : Sp := fun vs H Q _ => ∃ i : Int, vs = [.int i] ∧ i.natAbs ≤ 1000000000 ∧ Q .non H
theorem ok__check_of_run (T : Top K mg) : Ok P w K mg base 4 "_check_of_run" s__check_of_run ["given"] sp_cor := by
  have G_check_within := ok_check_within (P := P) (w := w) (base := base) T
  refine T.d__check_of_run.ok sc__check_of_run (fun vs H Q E h => ?_) (fun f cdv A outer s H vs Q E hg hr h => ?_)
  · obtain ⟨i, rfl, _⟩ := h
    rfl
  · obtain ⟨i, rfl, h, q⟩ := h
    refine ⟨_, (pss_one (ps_expr (pe_g G_check_within (fun _ _ F => bd_check_within F) hg (hr.mono (by decide)) passL (by rfl) (pa_cons (pv 0) (pa_cons (pe_un un_neg (pe_gi T.c_MOST_OF_RUN (by rfl))) (pa_cons (pe_gi T.c_MOST_OF_RUN (by rfl)) pa_nil)))))), ?_⟩
    walk_at "sti"
    refine ⟨i, -1000000000, 1000000000, rfl, by omega, by omega, ?_⟩
    walk_at "gi"
    exact q
def sp_ebp (K : PySem.W.Frag) : Sp := fun vs H Q _ => ∃ (r : Addr) (a b : Int) (p e : Nat), vs = [.ref r, .int (p : Int), .int (e : Int)] ∧ RunAt K H r a b 0 1 ∧ Rn a b 0 1 ∧ p ∈ Vf.smallP ∧ Pr p ∧ 1 ≤ e ∧ e ≤ 40 ∧ p ^ e ≤ 1000000000000 ∧ ¬ (p : Int) ∣ b ∧
  ∀ (m : Nat) H', Same H H' → Vf.EN (p ^ e) a b m → m ≤ 1000000000000 * 3600 → Q (.int (m : Int)) H'
theorem cop_pow {p e : Nat} {b : Int} (hp : Pr p) (hb : ¬ (p : Int) ∣ b) : Nat.Coprime (p ^ e) b.natAbs := by
  refine Nat.Coprime.pow_left _ ?_
  refine Vf.no_prime fun q hq h1 h2 => ?_
  rcases hp.2 q h1 with z | z
  · have := hq.1; omega
  · exact hb (by rw [← z]; exact Int.ofNat_dvd_left.mpr h2)
theorem ok__entry_by_power (T : Top K mg) : Ok P w K mg base 7 "_entry_by_power" s__entry_by_power ["run", "prime", "often"] (sp_ebp K) := by
  have G_raised := ok_raised (P := P) (w := w) (base := base) T
  have G_pair_at := ok_pair_at (P := P) (w := w) (base := base) T
  have G_primes_around := ok_primes_around (P := P) (w := w) (base := base) T
  refine T.d__entry_by_power.ok sc__entry_by_power (fun vs H Q E h => ?_) (fun f cdv A outer s H vs Q E hg hr h => ?_)
  · obtain ⟨r, a, b, p, e, rfl, _⟩ := h
    rfl
  · obtain ⟨r, a, b, p, e, rfl, sr, hR, hm, hp, e0, e1, n1, hb, q⟩ := h
    have p2 := hp.1
    have p59 : p ≤ 59 := by
      have : ∀ p ∈ Vf.smallP, p ≤ 59 := by decide
      exact this p hm
    have hc := cop_pow (e := e) hp hb
    obtain ⟨k, rfl⟩ : ∃ k, e = k + 1 := ⟨e - 1, by omega⟩
    have own := (Vf.own_round hm p2 hb k (Vf.rv_rec a b 0 1)).1
    have n0 : 0 < p ^ (k + 1) := Nat.pow_pos (by omega)
    have TT0 : Vf.npq p * p ^ k = p ^ (k + 1) * (p - 1) * (p + 1) := by
      have := T_eq p (by omega)
      have h2 : Vf.npq p * p * p ^ k = p * p * (p - 1) * (p + 1) * p ^ k := by rw [this]
      refine Nat.eq_of_mul_eq_mul_left (show 0 < p by omega) ?_
      rw [Nat.pow_succ]
      grind
    refine ⟨_, (pss_cons (ps_set (i := 3) sc__entry_by_power.nd rfl (.inl rfl) (pe_g G_raised (fun _ _ F => bd_raised F) hg (hr.mono (by decide)) passL (by rfl) (pa_cons (pv 1) (pa_cons (pv 2) pa_nil))))
    (pss_cons (ps_set (i := 4) sc__entry_by_power.nd rfl (.inl rfl) (pe_op op_mulX (pe_op op_mulX (pv 3) (pe_op op_sub (pv 1) pe_int)) (pe_op op_add (pv 1) pe_int)))
    (pss_cons (ps_for (passes_of rfl) rfl (i_list rfl (pe_g G_primes_around (fun _ _ F => bd_primes_around F) hg (hr.mono (by decide)) passL (by rfl) (pa_cons (pv 1) pa_nil))) (pg_name (i := 5) sc__entry_by_power.nd rfl (.inl rfl)) (pss_one (ps_while (passes_of rfl) (PW.pt (pw_and (pt_cmpR op_eqZ (pe_op op_mod (pv 4) (pv 5)) pe_int (nomark _)) (pw_and1 (pt_cmpR op_eqZ (pe_ix (x_tup rfl) (pe_g G_pair_at (fun _ _ F => bd_pair_at F) hg (hr.mono (by decide)) passL (by rfl) (pa_cons (pv 0) (pa_cons (pe_op op_fdivW (pv 4) (pv 5)) (pa_cons (pv 3) pa_nil)))) pe_int (fun _ _ => rfl)) pe_int (nomark _))))) (pss_one (ps_aug (i := 4) sc__entry_by_power.nd rfl (.inl rfl) (pv 5) ip_fdivW)))))
    (pss_one (ps_ret (pv 4)))))), ?_⟩
    walk_at "sti"
    refine ⟨p, k + 1, rfl, by omega, by omega, by omega, ?_⟩
    generalize hn : p ^ (k + 1) = n at *
    walk_at "gi"
    refine r_rI (bit_mul (a := 64) (b := 64) (bit_of (by omega)) (bit_of (by omega)) (by decide)) ?_
    walk_at "gi"
    have nb1 : n * (p - 1) ≤ 1000000000000 * 58 := Nat.mul_le_mul n1 (by omega)
    have en1 : (n : Int) * ((p : Int) - 1) = ((n * (p - 1) : Nat) : Int) := by
      push_cast
      rw [Int.natCast_sub (by omega)]
      rfl
    rw [en1]
    have nb2 : n * (p - 1) * (p + 1) ≤ 1000000000000 * 58 * 60 := Nat.mul_le_mul nb1 (by omega)
    refine r_rI (bit_mul (a := 64) (b := 64) (bit_of (by omega)) (bit_of (by omega)) (by decide)) ?_
    rw [show ((n * (p - 1) : Nat) : Int) * ((p : Int) + 1) = ((n * (p - 1) * (p + 1) : Nat) : Int) by push_cast; rfl]
    walk_at "gi"
    refine ⟨p, rfl, p2, by omega, hp, fun lq qs H3 s3 eq bq lq90 mq => ?_⟩
    rw [← TT0]
    have T0 : 0 < Vf.npq p * p ^ k := Nat.mul_pos (Vf.npq_pos p2) (Nat.pow_pos (by omega))
    have mq2 : ∀ z, Pr z → z ∣ Vf.npq p * p ^ k → z ∈ qs := fun z hz hd => by
      refine mq z hz ?_
      rw [T_eq p (by omega)]
      have h1 : (z : Int) ∣ ((Vf.npq p : Nat) : Int) * ((p ^ k : Nat) : Int) := by rw [← Int.natCast_mul]; exact Int.ofNat_dvd.mpr hd
      rcases hz.euclid h1 with y | y
      · exact Nat.dvd_trans (Int.ofNat_dvd.mp y) ⟨p, rfl⟩
      · have := hz.dvd_pow hp k (Int.ofNat_dvd.mp y)
        rw [this]
        exact ⟨Vf.npq p, Nat.mul_comm _ _⟩
    have hU : (n : Int) ∣ Vf.uv a b (Vf.npq p * p ^ k) := by
      have := own
      rw [Nat.zero_add, show rv a b 0 1 0 = 0 from rfl, Int.sub_zero] at this
      exact this
    have TTb : Vf.npq p * p ^ k ≤ 1000000000000 * 3600 := by rw [TT0]; omega
    generalize hTT : Vf.npq p * p ^ k = TT at *
    walk_at "gi"
    refine r_forLs (qs.map fun q : Nat => V.int (q : Int)) (fun i σ H' => ∃ (m : Nat) (x5 : Option V), σ = [some (.ref r), some (.int (p : Int)), some (.int ((k + 1 : Nat) : Int)), some (.int (n : Int)), some (.int (m : Int)), x5] ∧ Same H3 H' ∧ 0 < m ∧ m ∣ TT ∧ (n : Int) ∣ Vf.uv a b m ∧ ∀ j, j < i → ∀ q, qs[j]? = some q → q ∣ m → ¬ (n : Int) ∣ Vf.uv a b (m / q))
      ⟨TT, _, rfl, Same.refl _, T0, Nat.dvd_refl _, hU, fun j h => absurd h (Nat.not_lt_zero _)⟩ (fun i σ H' hi hP => ?_) (fun i v σ H' hi hP => ?_) (fun σ H' hP => ?_)
    · obtain ⟨m, x9, rfl, s4, _⟩ := hP
      exact SqL.of (s4 _ _ eq)
    · obtain ⟨m, x9, rfl, s4, m0, mT, hPd, hj⟩ := hP
      obtain ⟨qq, hq, rfl⟩ : ∃ qq, qs[i]? = some qq ∧ V.int (qq : Int) = v := by
        rw [List.getElem?_map] at hi
        cases hh : qs[i]? with
        | none => rw [hh] at hi; cases hi
        | some z => rw [hh] at hi; exact ⟨z, rfl, Option.some.inj hi⟩
      have bqq := bq qq (List.mem_of_getElem? hq)
      walk_at "gi"
      refine r_while (fun e σ G => σ = [some (.ref r), some (.int (p : Int)), some (.int ((k + 1 : Nat) : Int)), some (.int (n : Int)), some (.int (e : Int)), some (.int (qq : Int))] ∧ Same H3 G ∧ 0 < e ∧ e ∣ TT ∧ (n : Int) ∣ Vf.uv a b e ∧ ∀ j, j < i → ∀ q, qs[j]? = some q → q ∣ e → ¬ (n : Int) ∣ Vf.uv a b (e / q)) m ⟨rfl, s4, m0, mT, hPd, hj⟩ fun e σ G hW => ?_
      obtain ⟨rfl, s5, e0, eT2, ePd, ej⟩ := hW
      have eb5 : e ≤ TT := Nat.le_of_dvd T0 eT2
      walk_at "gi"
      refine r_rI (show (0 : Int) < (qq : Int) by omega) ?_
      walk_at "gi"
      refine ifd (fun c => ?_) (fun c => ?_)
      · have dq : qq ∣ e := Int.ofNat_dvd.mp (Int.dvd_of_emod_eq_zero c)
        walk_at "gi"
        refine r_rI (divw_of (by omega) (by omega)) ?_
        rw [show (e : Int) / (qq : Int) = ((e / qq : Nat) : Int) from (Int.natCast_ediv ..).symm]
        walk_at "gi"
        have ed : e / qq ∣ e := Nat.div_dvd_of_dvd dq
        have eq0 : 0 < e / qq := Nat.div_pos (Nat.le_of_dvd e0 dq) (by omega)
        refine ⟨r, a, b, 0, 1, e / qq, (n : Int), rfl, Same.tup (s3.trans s5) sr, hR, by omega, by omega, fun g5 G1 s6 e6 => ?_⟩
        walk_at "gi"
        refine r_ixT (SqT.of e6) (atI_nat (j := 0) rfl) ?_
        walk_at "gi"
        refine ifd (fun pd => ?_) (fun pd => ?_)
        · have pd := Int.dvd_of_emod_eq_zero pd
          refine ⟨_, fun _ _ h => h, ?_⟩
          walk_at "gi"
          refine r_ipC (divw_of (by omega) (by omega)) ?_
          rw [show (e : Int) / (qq : Int) = ((e / qq : Nat) : Int) from (Int.natCast_ediv ..).symm]
          walk_at "gi"
          refine ⟨e / qq, Nat.div_lt_self e0 (by omega), rfl, s5.trans s6, eq0, Nat.dvd_trans ed eT2, pd, fun j hj2 z hz hd hp2 => ?_⟩
          have z2 := (bq z (List.mem_of_getElem? hz)).1
          obtain ⟨c2, hc2⟩ := hd
          have e1 : e = z * (c2 * qq) := by
            have := Nat.div_mul_cancel dq
            rw [hc2] at this
            rw [← this, Nat.mul_assoc]
          have e2 : e / z = c2 * qq := by rw [e1]; exact Nat.mul_div_cancel_left _ (by omega)
          have e3 : e / qq / z = c2 := by rw [hc2]; exact Nat.mul_div_cancel_left _ (by omega)
          refine ej j hj2 z hz ⟨_, e1⟩ ?_
          rw [e3] at hp2
          rw [e2]
          exact Vf.uv_mul hc hp2 qq
        · walk_at "gi"
          refine ⟨s5.trans s6, e0, eT2, ePd, fun j hj2 z hz hd => ?_⟩
          rcases Nat.lt_or_ge j i with lt | ge
          · exact ej j lt z hz hd
          · have : j = i := by omega
            subst this
            rw [hq] at hz
            obtain rfl := Option.some.inj hz
            exact fun g => pd (Int.emod_eq_zero_of_dvd g)
      · walk_at "gi"
        refine ⟨s5, e0, eT2, ePd, fun j hj2 z hz hd => ?_⟩
        rcases Nat.lt_or_ge j i with lt | ge
        · exact ej j lt z hz hd
        · have : j = i := by omega
          subst this
          rw [hq] at hz
          obtain rfl := Option.some.inj hz
          exact absurd (Int.emod_eq_zero_of_dvd (Int.ofNat_dvd.mpr hd)) c
    · obtain ⟨m, x9, rfl, s4, m0, mT, hPd, hj⟩ := hP
      have mb : m ≤ TT := Nat.le_of_dvd T0 mT
      walk_at "gi"
      refine q m _ (s3.trans s4) (Vf.EN.of hc m0 hPd fun z hz hd => ?_) (by omega)
      obtain ⟨j, hj2, e⟩ := List.mem_iff_getElem.mp (mq2 z hz (Nat.dvd_trans hd mT))
      exact hj j (by rw [List.length_map]; exact hj2) z (by rw [← e]; exact List.getElem?_eq_getElem hj2) hd
def sp_entry (K : PySem.W.Frag) : Sp := fun vs H Q _ => ∃ (a b : Int) (n : Nat), vs = [.int a, .int b, .int (n : Int)] ∧ a.natAbs ≤ 1000000000 ∧ b.natAbs ≤ 1000000000 ∧ 1 ≤ n ∧ n ≤ 1000000000000 ∧ SmB n ∧ Nat.Coprime n b.natAbs ∧
  ∀ (e : Nat) H', Same H H' → Vf.EN n a b e → e ≤ 2 ^ 2460 → Q (.int (e : Int)) H'
theorem ok_entry (T : Top K mg) : Ok P w K mg base 8 "entry" s_entry ["first", "second", "base"] (sp_entry K) := by
  have G__check_of_run := ok__check_of_run (P := P) (w := w) (base := base) T
  have G_check_base := ok_check_base (P := P) (w := w) (base := base) T
  have G__apart_in_walked := ok__apart_in_walked (P := P) (w := w) (base := base) T
  have G__entry_by_power := ok__entry_by_power (P := P) (w := w) (base := base) T
  refine T.d_entry.ok sc_entry (fun vs H Q E h => ?_) (fun f cdv A outer s H vs Q E hg hr h => ?_)
  · obtain ⟨a, b, n, rfl, _⟩ := h
    rfl
  · obtain ⟨a, b, n, rfl, ha, hb, n0, n1, hB, hc, q⟩ := h
    have hR : Rn a b 0 1 := ⟨ha, hb, by decide, by decide⟩
    refine ⟨_, (pss_cons (ps_expr (pe_g G__check_of_run (fun _ _ F => bd__check_of_run F) hg (hr.mono (by decide)) passL (by rfl) (pa_cons (pv 0) pa_nil)))
    (pss_cons (ps_expr (pe_g G__check_of_run (fun _ _ F => bd__check_of_run F) hg (hr.mono (by decide)) passL (by rfl) (pa_cons (pv 1) pa_nil)))
    (pss_cons (ps_expr (pe_g G_check_base (fun _ _ F => bd_check_base F) hg (hr.mono (by decide)) passL (by rfl) (pa_cons (pv 2) pa_nil)))
    (pss_cons (ps_if (pt_cmpR op_neZ (pe_callBfun (id := "math.gcd") cr_gcd (by rfl) T.m_gcd (pa_cons (pv 1) (pa_cons (pv 2) pa_nil))) pe_int (nomark _)) (pss_one ps_never) pss_nil)
    (pss_cons (ps_set (i := 3) sc_entry.nd rfl (.inl rfl) pe_int)
    (pss_cons (ps_for (passes_of rfl) rfl (i_tup' rfl (pe_g G__apart_in_walked (fun _ _ F => bd__apart_in_walked F) hg (hr.mono (by decide)) passL (by rfl) (pa_cons (pv 2) pa_nil))) (g_tup rfl rfl (pgs_cons (pg_name (i := 4) sc_entry.nd rfl (.inl rfl)) (pgs_cons (pg_name (i := 5) sc_entry.nd rfl (.inl rfl)) pgs_nil)) rfl rfl) (pss_one (ps_set (i := 3) sc_entry.nd rfl (.inl rfl) (pe_callBfun (id := "math.lcm") cr_lcm (by rfl) T.m_lcm (pa_cons (pv 3) (pa_cons (pe_g G__entry_by_power (fun _ _ F => bd__entry_by_power F) hg (hr.mono (by decide)) passL (by rfl) (pa_cons (pe_tup (pa_cons (pv 0) (pa_cons (pv 1) (pa_cons pe_int (pa_cons pe_int pa_nil))))) (pa_cons (pv 4) (pa_cons (pv 5) pa_nil)))) pa_nil))))))
    (pss_one (ps_ret (pv 3))))))))), ?_⟩
    walk_at "sti"
    refine ⟨a, rfl, ha, ?_⟩
    walk_at "gi"
    refine ⟨b, rfl, hb, ?_⟩
    walk_at "gi"
    refine ⟨(n : Int), rfl, by omega, by omega, ?_⟩
    walk_at "gi"
    have g1 : Nat.gcd b.natAbs ((n : Nat) : Int).natAbs = 1 := by rw [Int.natAbs_natCast, Nat.gcd_comm]; exact hc
    rw [g1]
    refine ifnd (fun c => absurd rfl c) (fun _ => ?_)
    walk_at "gi"
    refine ⟨n, rfl, n0, n1, hB, fun pa ps H1 s1 fa hl A1 => ?_⟩
    obtain ⟨vs, sv, pv⟩ := fa
    have lv : vs.length = ps.length := by rw [pv.length]; simp [ci]
    refine ⟨pa, rfl, ⟨vs, sv⟩, ?_⟩
    have cpt : ∀ i, Nat.Coprime (made (ps.take i)) b.natAbs := fun i => by
      refine Nat.Coprime.coprime_dvd_left ?_ hc
      have h2 := (made_take A1 (by omega) i).2
      have app : ∀ ps qs : List (Nat × Nat), made (ps ++ qs) = made ps * made qs := fun ps => by
        induction ps with
        | nil => intro qs; rw [List.nil_append]; exact (Nat.one_mul _).symm
        | cons a r ih => intro qs; show a.1 ^ a.2 * made (r ++ qs) = a.1 ^ a.2 * made r * made qs; rw [ih, Nat.mul_assoc]
      have := A1.m
      rw [← List.take_append_drop i ps, app] at this
      exact ⟨_, this.symm⟩
    refine r_forTs vs (fun i σ H' => ∃ (c : Nat) (x4 x5 : Option V), σ = [some (.int a), some (.int b), some (.int (n : Int)), some (.int (c : Int)), x4, x5] ∧ Same H1 H' ∧ Vf.EN (made (ps.take i)) a b c ∧ c ≤ 2 ^ (60 * i))
      ⟨1, _, _, rfl, Same.refl _, Vf.EN.one a b, Nat.le_refl _⟩ (fun i σ H' hi hP => ?_) (fun i v σ H' hi hP => ?_) (fun σ H' hP => ?_)
    · obtain ⟨c, x4, x5, rfl, s2, _⟩ := hP
      exact Same.tup s2 sv
    · obtain ⟨c, x4, x5, rfl, s2, E1, cb⟩ := hP
      obtain ⟨z, hz, u, rfl, st⟩ := pv.get hi
      obtain ⟨d, hd, rfl⟩ := ci_at hz
      have hm := List.mem_of_getElem? hd
      have il := (List.getElem?_eq_some_iff.mp hd).1
      have h1 := A1.p d hm
      have h2 := made_dvd ps d hm h1.2
      rw [A1.m] at h2
      have dn := Nat.le_of_dvd (by omega) h2.2
      have d40 : d.2 ≤ 40 := by
        refine Classical.byContradiction fun z => ?_
        have h3 : 2 ^ 40 ≤ d.1 ^ d.2 := Nat.le_trans (Nat.pow_le_pow_left h1.1.1 40) (Nat.pow_le_pow_right (by have := h1.1.1; omega) (by omega))
        have : (2 : Nat) ^ 40 = 1099511627776 := by decide
        omega
      have nb : ¬ (d.1 : Int) ∣ b := fun z => by
        have := Nat.dvd_gcd h2.1 (Int.ofNat_dvd_left.mp z)
        rw [hc] at this
        have := Nat.le_of_dvd (by decide) this
        have := h1.1.1
        omega
      refine r_gtup (Same.tup s2 st) rfl ?_
      walk_at "gi"
      rename_i T1 hT1
      refine ⟨T1, a, b, d.1, d.2, rfl, SqT.of upd_same, hR, hB d.1 h1.1 h2.1, h1.1, h1.2, d40, by omega, nb, fun m H2 s3 E2 mb => ?_⟩
      walk_at "gi"
      have big1 : c < 2 ^ 9000 := Nat.lt_of_le_of_lt cb (Nat.pow_lt_pow_right (by decide) (by omega))
      have m60 : m ≤ 2 ^ 60 := Nat.le_trans mb (by decide)
      have big2 : m < 2 ^ 9000 := Nat.lt_of_le_of_lt m60 (Nat.pow_lt_pow_right (by decide) (by decide))
      refine r_lcm (by rw [Int.natAbs_natCast]; exact big1) (by rw [Int.natAbs_natCast]; exact big2) ?_
      walk_at "gi"
      rw [Int.natAbs_natCast, Int.natAbs_natCast]
      have e9 : made (ps.take (i + 1)) = made (ps.take i) * d.1 ^ d.2 := by
        rw [take_one hd]
        have app : ∀ ps qs : List (Nat × Nat), made (ps ++ qs) = made ps * made qs := fun ps => by
          induction ps with
          | nil => intro qs; rw [List.nil_append]; exact (Nat.one_mul _).symm
          | cons a r ih => intro qs; show a.1 ^ a.2 * made (r ++ qs) = a.1 ^ a.2 * made r * made qs; rw [ih, Nat.mul_assoc]
        rw [app]
        show _ * (d.1 ^ d.2 * 1) = _
        rw [Nat.mul_one]
      have E3 := Vf.EN.cop (cop_take A1.p A1.s hd) (cpt i) (cop_pow h1.1 nb) E1 E2
      have lb : Nat.lcm c m ≤ 2 ^ (60 * (i + 1)) := by
        have l1 : Nat.lcm c m ≤ c * m := Nat.le_of_dvd (Nat.mul_pos E1.1 E2.1) (Nat.lcm_dvd ⟨m, rfl⟩ ⟨c, Nat.mul_comm _ _⟩)
        refine Nat.le_trans l1 ?_
        rw [show 60 * (i + 1) = 60 * i + 60 by omega, Nat.pow_add]
        exact Nat.mul_le_mul cb m60
      rw [e9]
      exact ⟨s2.trans ((Same.new hT1).trans s3), E3, lb⟩
    · obtain ⟨c, x4, x5, rfl, s2, E1, cb⟩ := hP
      rw [lv, List.take_length, A1.m] at E1
      walk_at "gi"
      exact q c _ (s1.trans s2) E1 (Nat.le_trans cb (Nat.pow_le_pow_right (by decide) (by omega)))
def sp_cv (K : PySem.W.Frag) : Sp := fun vs H Q _ => ∃ (a b : Int) (i j : Nat), vs = [.int a, .int b, .int (i : Int), .int (j : Int)] ∧ a.natAbs ≤ 1000000000 ∧ b.natAbs ≤ 1000000000 ∧ i ≤ 500 ∧ j ≤ 500 ∧
  ∀ H', Same H H' → Q (.int ((Nat.gcd (rv a b 0 1 i).natAbs (rv a b 0 1 j).natAbs : Nat) : Int)) H'
theorem ok_common_value (T : Top K mg) : Ok P w K mg base 6 "common_value" s_common_value ["first", "second", "index", "other"] (sp_cv K) := by
  have G__check_of_run := ok__check_of_run (P := P) (w := w) (base := base) T
  have G__check_shown := ok__check_shown (P := P) (w := w) (base := base) T
  have G__first_values := ok__first_values (P := P) (w := w) (base := base) T
  refine T.d_common_value.ok sc_common_value (fun vs H Q E h => ?_) (fun f cdv A outer s H vs Q E hg hr h => ?_)
  · obtain ⟨a, b, i, j, rfl, _⟩ := h
    rfl
  · obtain ⟨a, b, i, j, rfl, ha, hb, i5, j5, q⟩ := h
    have hR : Rn a b 0 1 := ⟨ha, hb, by decide, by decide⟩
    refine ⟨_, (pss_cons (ps_expr (pe_g G__check_of_run (fun _ _ F => bd__check_of_run F) hg (hr.mono (by decide)) passL (by rfl) (pa_cons (pv 0) pa_nil)))
    (pss_cons (ps_expr (pe_g G__check_of_run (fun _ _ F => bd__check_of_run F) hg (hr.mono (by decide)) passL (by rfl) (pa_cons (pv 1) pa_nil)))
    (pss_cons (ps_expr (pe_g G__check_shown (fun _ _ F => bd__check_shown F) hg (hr.mono (by decide)) passL (by rfl) (pa_cons (pv 2) pa_nil)))
    (pss_cons (ps_expr (pe_g G__check_shown (fun _ _ F => bd__check_shown F) hg (hr.mono (by decide)) passL (by rfl) (pa_cons (pv 3) pa_nil)))
    (pss_cons (ps_set (i := 4) sc_common_value.nd rfl (.inl rfl) (pe_g G__first_values (fun _ _ F => bd__first_values F) hg (hr.mono (by decide)) passL (by rfl) (pa_cons (pe_tup (pa_cons (pv 0) (pa_cons (pv 1) (pa_cons pe_int (pa_cons pe_int pa_nil))))) (pa_cons (pe_op op_add (pe_callB (id := "max") (c_max2 rfl) (by rfl) T.b_max (by decide +kernel) (pa_cons (pv 2) (pa_cons (pv 3) pa_nil))) pe_int) pa_nil))))
    (pss_one (ps_ret (pe_callBfun (id := "math.gcd") cr_gcd (by rfl) T.m_gcd (pa_cons (pe_ix (x_list rfl) (pv 4) (pv 2) (fun _ _ => rfl)) (pa_cons (pe_ix (x_list rfl) (pv 4) (pv 3) (fun _ _ => rfl)) pa_nil)))))))))), ?_⟩
    walk_at "sti"
    refine ⟨a, rfl, ha, ?_⟩
    walk_at "gi"
    refine ⟨b, rfl, hb, ?_⟩
    walk_at "gi"
    refine ⟨i, rfl, i5, ?_⟩
    walk_at "gi"
    refine ⟨j, rfl, j5, ?_⟩
    walk_at "gi"
    rename_i T1 hT1
    rw [show max ((i : Nat) : Int) (j : Int) + 1 = ((max i j + 1 : Nat) : Int) by omega]
    refine ⟨T1, a, b, 0, 1, max i j + 1, rfl, SqT.of upd_same, hR, by omega, fun l H1 s1 e1 => ?_⟩
    walk_at "gi"
    have at1 : ∀ z, z ≤ max i j → (((List.range (max (max i j + 1) 2)).map fun i => rv a b 0 1 i).map V.int)[z]? = some (.int (rv a b 0 1 z)) := fun z hz => by rw [List.getElem?_map, rvs_at (by omega)]; rfl
    refine r_ixL (SqL.of e1) (atI_nat (at1 i (by omega))) ?_
    walk_at "gi"
    refine r_ixL (SqL.of e1) (atI_nat (at1 j (by omega))) ?_
    walk_at "gi"
    exact q _ ((Same.new hT1).trans s1)
end
section
variable {P : Program} {w : World} {K : PySem.W.Frag} {mg : Str → Option Value} {base : Heap}
/-! ### the law's draws -/
theorem small_prime {q : Nat} (hq : Pr q) (h : q ≤ 60) : q ∈ Vf.smallP := by
  have key : ∀ q, q < 61 → 2 ≤ q → q ∉ Vf.smallP → ∃ k, k < 61 ∧ k ∣ q ∧ k ≠ 1 ∧ k ≠ q := by decide +kernel
  refine Classical.byContradiction fun c => ?_
  obtain ⟨k, _, h1, h2, h3⟩ := key q (by omega) hq.1 c
  rcases hq.2 k h1 with z | z
  · exact h2 z
  · exact h3 z
theorem SmB.le {n : Nat} (n0 : 1 ≤ n) (h : n ≤ 60) : SmB n := fun q hq hd => small_prime hq (Nat.le_trans (Nat.le_of_dvd n0 hd) h)
theorem SmB.mul {m n : Nat} (h1 : SmB m) (h2 : SmB n) : SmB (m * n) := fun q hq hd => by
  have : (q : Int) ∣ (m : Int) * (n : Int) := by rw [← Int.natCast_mul]; exact Int.ofNat_dvd.mpr hd
  rcases hq.euclid this with z | z
  · exact h1 q hq (Int.ofNat_dvd.mp z)
  · exact h2 q hq (Int.ofNat_dvd.mp z)
def sp_lpr (K : PySem.W.Frag) : Sp := fun vs H Q _ => ∃ (k : Addr) (n : Nat), vs = [.ref k] ∧ Bas n k H ∧ n ≤ 2 ^ 58 ∧
  ∀ z a b H', Kx k H H' → Bas (n + 3) k H' → a.natAbs ≤ 100 → b.natAbs ≤ 100 → H' z = some (.tup [.int a, .int b]) → Q (.ref z) H'
theorem ok__law_pair (T : Top K mg) : Ok P w K mg base 3 "_law_pair" s__law_pair ["_law_basin_here"] (sp_lpr K) := by
  have G__law_sip := ok__law_sip (P := P) (w := w) (base := base) T
  have G__law_any := ok__law_any (P := P) (w := w) (base := base) T
  refine T.d__law_pair.ok sc__law_pair (fun vs H Q E h => ?_) (fun f cdv A outer s H vs Q E hg hr h => ?_)
  · obtain ⟨k, n, rfl, _⟩ := h
    rfl
  · obtain ⟨k, n, rfl, hk, hn, q⟩ := h
    have E60 := e60
    have E58 : (2 : Nat) ^ 58 = 288230376151711744 := by decide
    refine ⟨_, (pss_cons (ps_set (i := 1) sc__law_pair.nd rfl (.inl rfl) (pe_g G__law_any (fun _ _ F => bd__law_any F) hg (hr.mono (by decide)) passL (by rfl) (pa_cons (pv 0) (pa_cons (pe_lst (pa_cons pe_int (pa_cons pe_int (pa_cons pe_int (pa_cons pe_int pa_nil))))) pa_nil))))
    (pss_one (ps_ret (pe_tup (pa_cons (pe_op op_sub (pe_g G__law_sip (fun _ _ F => bd__law_sip F) hg (hr.mono (by decide)) passL (by rfl) (pa_cons (pv 0) (pa_cons (pv 1) pa_nil))) (pe_op op_fdivW (pv 1) pe_int)) (pa_cons (pe_op op_sub (pe_g G__law_sip (fun _ _ F => bd__law_sip F) hg (hr.mono (by decide)) passL (by rfl) (pa_cons (pv 0) (pa_cons (pv 1) pa_nil))) (pe_op op_fdivW (pv 1) pe_int)) pa_nil)))))), ?_⟩
    walk_at "sti"
    rename_i l hl
    refine i_any n [V.int 3, V.int 7, V.int 13, V.int 200] (hk.new hl) (by omega) (hk.ne hl) (SqL.of upd_same) (Nat.le_of_ble_eq_true rfl) (Nat.le_of_ble_eq_true rfl) fun j v H1 hv x1 k1 => ?_
    obtain ⟨d, rfl, d0, d1⟩ : ∃ d : Int, v = .int d ∧ 3 ≤ d ∧ d ≤ 200 := by
      rcases j with _ | _ | _ | _ | j
      · exact ⟨3, (Option.some.inj hv).symm, by decide, by decide⟩
      · exact ⟨7, (Option.some.inj hv).symm, by decide, by decide⟩
      · exact ⟨13, (Option.some.inj hv).symm, by decide, by decide⟩
      · exact ⟨200, (Option.some.inj hv).symm, by decide, by decide⟩
      · exact absurd hv (by simp)
    have y1 : Kx k H H1 := Kx.trans (Same.toKx (Same.new hl)) x1
    walk_at "gi"
    refine i_sip _ k1 (by omega) (by omega) (by omega) fun f1 H2 f10 f11 x2 k2 => ?_
    walk_at "gi"
    refine r_rI (divw_of (by decide) (by decide)) ?_
    walk_at "gi"
    refine i_sip _ k2 (by omega) (by omega) (by omega) fun f2 H3 f20 f21 x3 k3 => ?_
    walk_at "gi"
    refine r_rI (divw_of (by decide) (by decide)) ?_
    walk_at "gi"
    rename_i z hz
    exact q z _ _ _ (((y1.trans x2).trans x3).same (Same.new hz)) (k3.new hz) (by omega) (by omega) upd_same
def sp_lbs (K : PySem.W.Frag) : Sp := fun vs H Q _ => ∃ (k : Addr) (b : Int) (n : Nat), vs = [.ref k, .int b] ∧ Bas n k H ∧ n ≤ 2 ^ 58 ∧
  ∀ (u : Nat) H', Kx k H H' → Bas (n + 1) k H' → 1 ≤ u → u ≤ 60 → Nat.Coprime u b.natAbs → Q (.int (u : Int)) H'
theorem ok__law_base (T : Top K mg) : Ok P w K mg base 3 "_law_base" s__law_base ["_law_basin_here", "_law_q"] (sp_lbs K) := by
  have G__law_shared := ok__law_shared (P := P) (w := w) (base := base) T
  have G__law_any := ok__law_any (P := P) (w := w) (base := base) T
  refine T.d__law_base.ok sc__law_base (fun vs H Q E h => ?_) (fun f cdv A outer s H vs Q E hg hr h => ?_)
  · obtain ⟨k, b, n, rfl, _⟩ := h
    rfl
  · obtain ⟨k, b, n, rfl, hk, hn, q⟩ := h
    have E60 := e60
    have E58 : (2 : Nat) ^ 58 = 288230376151711744 := by decide
    refine ⟨_, (pss_cons (ps_setLc (i := 2) (own := [("_law_k", 3)]) (by rfl) sc__law_base.nd rfl rfl (sw_true rfl rfl rfl (by decide +kernel)) (pi_range2 (by rfl) T.b_range (pa_cons pe_int (pa_cons pe_int pa_nil))) (blkOk_by (own := [("_law_k", 3)]) (N := ["_law_basin_here", "_law_q", "_law_some", "_law_k"]) (sc := defScope s__law_base) (by decide +kernel)) (fun _ _ _ _ _ => (pg_name (i := 3) sc__law_base.nd rfl (by first | exact Or.inl rfl | exact Or.inr rfl))) (fun _ _ _ _ _ => (pts_one (pt_cmpR op_eqZ (pe_g G__law_shared (fun _ _ F => bd__law_shared F) hg (hr.mono (by decide)) passL (by rfl) (pa_cons (pv 1) (pa_cons (pv 3) pa_nil))) pe_int (nomark _)))) (fun _ _ _ _ _ => (pv 3)))
    (pss_one (ps_ret (pe_g G__law_any (fun _ _ F => bd__law_any F) hg (hr.mono (by decide)) passL (by rfl) (pa_cons (pv 0) (pa_cons (pv 2) pa_nil)))))), ?_⟩
    walk_at "sti"
    refine ⟨⟨by decide, by decide, by decide, by decide⟩, ?_⟩
    rw [show ((61 : Int) - 1).toNat = 60 from rfl]
    refine r_lcR (fun D i H' => Same H H' ∧ ∃ ns : List Nat, H' D = some (.lst (ns.map fun u : Nat => V.int (u : Int))) ∧ ns.length ≤ i ∧ (∀ u ∈ ns, 1 ≤ u ∧ u ≤ 60 ∧ Nat.Coprime u b.natAbs) ∧ (1 ≤ i → 1 ≤ ns.length)) (fun D hD => ⟨Same.new hD, [], upd_same, Nat.le_refl _, (fun u h => nomatch h), fun h => absurd h (by decide)⟩) (fun D i H' hD hi hP => ?_) (fun D H' hD hP => ?_)
    · obtain ⟨s1, ns, d1, ln, bn, pn⟩ := hP
      walk_at "gi"
      refine ⟨rfl, ?_⟩
      walk_at "gi"
      rw [show (1 : Int) + (i : Int) = ((i + 1 : Nat) : Int) by omega]
      refine ⟨b, ((i + 1 : Nat) : Int), rfl, ?_⟩
      rw [Int.natAbs_natCast]
      walk_at "gi"
      refine ifd (fun c => ?_) (fun c => ?_)
      · walk_at "gi"
        refine ⟨_, d1, Nat.lt_of_le_of_lt (show _ ≤ 60 by rw [List.length_map]; omega) (by decide), fun o z e => ?_, ns ++ [i + 1], ?_, ?_, fun u hu => ?_, fun _ => by rw [List.length_append]; exact Nat.le_add_left _ _⟩
        · rw [upd_ne (ne_of_none e hD)]
          exact s1 _ _ e
        · rw [List.map_append]
          exact upd_same
        · rw [List.length_append]
          show ns.length + 1 ≤ i + 1
          omega
        · rcases List.mem_append.mp hu with y | y
          · exact bn u y
          · rw [List.mem_singleton.mp y]
            refine ⟨by omega, by omega, ?_⟩
            show Nat.gcd (i + 1) b.natAbs = 1
            rw [Nat.gcd_comm]
            omega
      · refine ⟨s1, ns, d1, by omega, bn, fun _ => ?_⟩
        rcases Nat.eq_zero_or_pos i with z | z
        · subst z
          exact absurd (by rw [Nat.zero_add, Nat.gcd_one_right]; rfl) c
        · exact pn z
    · obtain ⟨s1, ns, d1, ln, bn, pn⟩ := hP
      have l1 := pn (by decide)
      have Dk : D ≠ k := hk.ne hD
      walk_at "gi"
      refine i_any n (ns.map fun u : Nat => V.int (u : Int)) (hk.same s1) (by omega) Dk (SqL.of d1) (by rw [List.length_map]; omega) (by rw [List.length_map]; omega) fun j v H2 hv x2 k2 => ?_
      rw [List.getElem?_map] at hv
      obtain ⟨u, hu, rfl⟩ : ∃ u, ns[j]? = some u ∧ V.int (u : Int) = v := by
        cases hh : ns[j]? with
        | none => rw [hh] at hv; cases hv
        | some z => rw [hh] at hv; exact ⟨z, rfl, Option.some.inj hv⟩
      obtain ⟨b1, b2, b3⟩ := bn u (List.mem_of_getElem? hu)
      exact q u H2 (Kx.trans (Same.toKx s1) x2) k2 b1 b2 b3
end
section
variable {P : Program} {w : World} {K : PySem.W.Frag} {mg : Str → Option Value} {base : Heap}
theorem r_neBB {H : Hp} {Q : VK} {x y : Bool} (e : x = y) (h : Q (.bl false) H) : rNe (.bl x) (.bl y) H Q := by
  subst e
  refine ⟨rfl, ?_⟩
  rw [decide_eq_true rfl]
  exact h
end
section
variable {P : Program} {w : World} {K : PySem.W.Frag} {mg : Str → Option Value} {base : Heap}
/-! ### the law on entries -/
theorem ws_get {a b x y n : Int} {m i : Nat} (h : i < m) : ((ws a b x y n m).map V.int)[i]? = some (.int (rv a b x y i % n)) := by
  rw [List.getElem?_map, ws_at h]
  rfl
/-- the noughts that are told -/
def noughts (n : Nat) (a b : Int) (i : Nat) : List Nat := ((List.range i).map fun j => j + 1).filter fun k => decide ((n : Int) ∣ Vf.uv a b k)
theorem noughts_next (n : Nat) (a b : Int) (i : Nat) : noughts n a b (i + 1) = noughts n a b i ++ if (n : Int) ∣ Vf.uv a b (i + 1) then [i + 1] else [] := by
  unfold noughts
  rw [List.range_succ, List.map_append, List.filter_append]
  congr 1
  by_cases h : (n : Int) ∣ Vf.uv a b (i + 1)
  · rw [if_pos h]
    exact List.filter_cons_of_pos (by rw [decide_eq_true h])
  · rw [if_neg h]
    exact List.filter_cons_of_neg (by rw [decide_eq_false h]; exact Bool.false_ne_true)
theorem noughts_len (n : Nat) (a b : Int) (i : Nat) : (noughts n a b i).length ≤ i := by
  have := List.length_filter_le (fun k => decide ((n : Int) ∣ Vf.uv a b k)) ((List.range i).map fun j => j + 1)
  rwa [List.length_map, List.length_range] at this
/-- the first of them, else the round, is the entry -/
theorem first_en {n : Nat} {a b : Int} {c : Nat} (c0 : 0 < c) (hc : (n : Int) ∣ Vf.uv a b c) : ∀ i, i < c → ∃ z, (noughts n a b i ++ [c])[0]? = some z ∧ (Vf.EN n a b z ∨ (z = c ∧ ∀ k, 0 < k → k ≤ i → ¬ (n : Int) ∣ Vf.uv a b k))
  | 0, _ => ⟨c, rfl, .inr ⟨rfl, fun k k0 k1 => by omega⟩⟩
  | i + 1, hi => by
    obtain ⟨z, hz, h⟩ := first_en c0 hc i (by omega)
    rw [noughts_next]
    rcases h with E | ⟨rfl, h⟩
    · cases hh : noughts n a b i with
      | nil =>
        rw [hh] at hz
        obtain rfl := Option.some.inj hz
        have : ¬ (n : Int) ∣ Vf.uv a b (i + 1) := E.2.2 (i + 1) (by omega) hi
        rw [if_neg this]
        exact ⟨_, rfl, .inl E⟩
      | cons y ys =>
        rw [hh] at hz
        exact ⟨z, hz, .inl E⟩
    · have e0 : noughts n a b i = [] := by
        refine List.filter_eq_nil_iff.mpr fun k hk hd => ?_
        obtain ⟨j, hj, rfl⟩ := List.mem_map.mp hk
        exact h (j + 1) (by omega) (by have := List.mem_range.mp hj; omega) (of_decide_eq_true hd)
      rw [e0]
      by_cases g : (n : Int) ∣ Vf.uv a b (i + 1)
      · rw [if_pos g]
        exact ⟨i + 1, rfl, .inl ⟨by omega, g, fun k k0 k1 => h k k0 (by omega)⟩⟩
      · rw [if_neg g]
        refine ⟨z, rfl, .inr ⟨rfl, fun k k0 k1 => ?_⟩⟩
        rcases Nat.lt_or_ge i k with l | l
        · rw [show k = i + 1 by omega]
          exact g
        · exact h k k0 l
theorem join_hp {H : Hp} {P : Prop} (R : Hp → Prop) (h1 : (∀ G, Same H G → R G) → P) (h2 : ∀ G, Same H G → R G) : P := h1 h2
def sp_ler (K : PySem.W.Frag) : Sp := fun vs H Q _ => ∃ (k : Addr) (a b : Int) (n : Nat), vs = [.ref k, .int a, .int b] ∧ Bas n k H ∧ n ≤ 2 ^ 57 ∧ a.natAbs ≤ 100 ∧ b.natAbs ≤ 100 ∧ ∀ H', Kx k H H' → Bas (n + 3) k H' → Q (.bl true) H'
theorem ok__law_entry_right (T : Top K mg) : Ok P w K mg base 11 "_law_entry_right" s__law_entry_right ["_law_basin_here", "_law_p", "_law_q"] (sp_ler K) := by
  have G__law_base := ok__law_base (P := P) (w := w) (base := base) T
  have G__law_walked := ok__law_walked (P := P) (w := w) (base := base) T
  have G_entry := ok_entry (P := P) (w := w) (base := base) T
  have G__law_sip := ok__law_sip (P := P) (w := w) (base := base) T
  have G_rest_at := ok_rest_at (P := P) (w := w) (base := base) T
  have G_tail_and_round_of := ok_tail_and_round_of (P := P) (w := w) (base := base) T
  have G__law_shared := ok__law_shared (P := P) (w := w) (base := base) T
  refine T.d__law_entry_right.ok sc__law_entry_right (fun vs H Q E h => ?_) (fun f cdv A outer s H vs Q E hg hr h => ?_)
  · obtain ⟨k, a, b, n, rfl, _⟩ := h
    rfl
  · obtain ⟨k, a, b, n, rfl, hk, hn, ha, hb, q⟩ := h
    have hR : Rn a b 0 1 := ⟨by omega, by omega, by decide, by decide⟩
    have R := Vf.rv_rec a b 0 1
    have E57 : (2 : Nat) ^ 57 = 144115188075855872 := by decide
    have E58 : (2 : Nat) ^ 58 = 288230376151711744 := by decide
    have E60 := e60
    refine ⟨_, (pss_cons (ps_par3 (i := 3) (j := 4) (l := 5) (by rfl) sc__law_entry_right.nd rfl rfl rfl (by decide) (by decide) (by decide) rfl rfl rfl (pa_cons (pe_g G__law_base (fun _ _ F => bd__law_base F) hg (hr.mono (by decide)) passL (by rfl) (pa_cons (pv 0) (pa_cons (pv 2) pa_nil))) (pa_cons (pe_g G__law_base (fun _ _ F => bd__law_base F) hg (hr.mono (by decide)) passL (by rfl) (pa_cons (pv 0) (pa_cons (pv 2) pa_nil))) (pa_cons (pe_tup (pa_cons (pv 1) (pa_cons (pv 2) (pa_cons pe_int (pa_cons pe_int pa_nil))))) pa_nil))) (by rfl))
    (pss_cons (ps_asg (pe_g G__law_walked (fun _ _ F => bd__law_walked F) hg (hr.mono (by decide)) passL (by rfl) (pa_cons (pv 5) (pa_cons (pv 3) pa_nil))) (g_tup rfl rfl (pgs_cons (pg_name (i := 6) sc__law_entry_right.nd rfl (.inl rfl)) (pgs_cons (pg_name (i := 7) sc__law_entry_right.nd rfl (.inl rfl)) (pgs_cons (pg_name (i := 8) sc__law_entry_right.nd rfl (.inr rfl)) pgs_nil))) rfl rfl))
    (pss_cons (ps_set (i := 9) sc__law_entry_right.nd rfl (.inr rfl) (pe_ix (x_list rfl) (pe_op op_cat (pe_lc (own := [("_law_k", 15)]) (by rfl) sc__law_entry_right.nd (pi_range2 (by rfl) T.b_range (pa_cons pe_int (pa_cons (pv 7) pa_nil))) (blkOk_by (own := [("_law_k", 15)]) (N := ["_law_basin_here", "_law_p", "_law_q", "_law_one", "_law_two", "_law_run_now", "_law_tail_now", "_law_round_now", "_law_rests", "_law_due", "_law_told", "_law_wrong", "_law_far", "_law_whole", "_law_mate", "_law_k"]) (sc := defScope s__law_entry_right) (by decide +kernel)) (fun _ _ _ _ _ => (pg_name (i := 15) sc__law_entry_right.nd rfl (by first | exact Or.inl rfl | exact Or.inr rfl))) (fun _ _ _ _ _ => (pts_one (pt_cmpR op_eqZ (pe_ix (x_list rfl) (pv 8) (pv 15) (fun _ _ => rfl)) pe_int (nomark _)))) (fun _ _ _ _ _ => (pv 15))) (pe_lst (pa_cons (pv 7) pa_nil))) pe_int (fun _ _ => rfl)))
    (pss_cons (ps_set (i := 10) sc__law_entry_right.nd rfl (.inl rfl) (pe_lst (pa_cons (pe_g G_entry (fun _ _ F => bd_entry F) hg (hr.mono (by decide)) passL (by rfl) (pa_cons (pv 1) (pa_cons (pv 2) (pa_cons (pv 3) pa_nil)))) (pa_cons (pe_gk0 G_entry (fun _ _ F => kb_entry_0 F) hg (hr.mono (by decide)) passL (by rfl) (pk_cons (pv 3) (pk_cons (pv 2) (pk_cons (pv 1) pk_nil)))) pa_nil))))
    (pss_cons (ps_if (PW.pt (pw_or (pt_cmpR (o_neD rfl hr.units) (pv 10) (pe_lst (pa_cons (pv 9) (pa_cons (pv 9) pa_nil))) (nomark _)) (pw_or1 (pt_cmpR op_neZ (pv 6) pe_int (nomark _))))) (pss_one (ps_ret pe_bl)) pss_nil)
    (pss_cons (ps_setLc (i := 11) (own := [("_law_k", 15)]) (by rfl) sc__law_entry_right.nd rfl rfl (sw_true rfl rfl rfl (by decide +kernel)) (pi_range1 (by rfl) T.b_range (pa_cons (pv 7) pa_nil)) (blkOk_by (own := [("_law_k", 15)]) (N := ["_law_basin_here", "_law_p", "_law_q", "_law_one", "_law_two", "_law_run_now", "_law_tail_now", "_law_round_now", "_law_rests", "_law_due", "_law_told", "_law_wrong", "_law_far", "_law_whole", "_law_mate", "_law_k"]) (sc := defScope s__law_entry_right) (by decide +kernel)) (fun _ _ _ _ _ => (pg_name (i := 15) sc__law_entry_right.nd rfl (by first | exact Or.inl rfl | exact Or.inr rfl))) (fun _ _ _ _ _ => (pts_one (pt_cmpR op_ne (pe_cmpR op_eqZ (pe_ix (x_list rfl) (pv 8) (pv 15) (fun _ _ => rfl)) pe_int (nomark _)) (pe_cmpR op_eqZ (pe_op op_mod (pe_callTy (T := "int") c_int (by rfl) T.b_int (by decide +kernel) (pa_cons (pv 15) pa_nil)) (pv 9)) pe_int (nomark _)) (nomark _)))) (fun _ _ _ _ _ => (pv 15)))
    (pss_cons (ps_if (PW.pt (pw_or (pt_cmpR (o_neD rfl hr.units) (pv 11) (pe_lst pa_nil) (nomark _)) (pw_or1 (pt_cmpR op_neZ (pe_op op_mod (pe_callTy (T := "int") c_int (by rfl) T.b_int (by decide +kernel) (pa_cons (pv 7) pa_nil)) (pv 9)) pe_int (nomark _))))) (pss_one (ps_ret pe_bl)) pss_nil)
    (pss_cons (ps_set (i := 12) sc__law_entry_right.nd rfl (.inl rfl) (pe_op op_mulX (pv 9) (pe_op op_add pe_int (pe_g G__law_sip (fun _ _ F => bd__law_sip F) hg (hr.mono (by decide)) passL (by rfl) (pa_cons (pv 0) (pa_cons (pe_op op_pow pe_int pe_int) pa_nil))))))
    (pss_cons (ps_if (PW.pt (pw_or (pt_cmpR op_neZ (pe_g G_rest_at (fun _ _ F => bd_rest_at F) hg (hr.mono (by decide)) passL (by rfl) (pa_cons (pv 5) (pa_cons (pv 12) (pa_cons (pv 3) pa_nil)))) pe_int (nomark _)) (pw_or1 (PW.pt (pw_and (pt_cmpR op_gt (pv 3) pe_int (nomark _)) (pw_and (pt_cmpR op_gt (pv 9) pe_int (nomark _)) (pw_and1 (pt_cmpR op_eqZ (pe_g G_rest_at (fun _ _ F => bd_rest_at F) hg (hr.mono (by decide)) passL (by rfl) (pa_cons (pv 5) (pa_cons (pe_op op_add (pv 12) pe_int) (pa_cons (pv 3) pa_nil)))) pe_int (nomark _))))))))) (pss_one (ps_ret pe_bl)) pss_nil)
    (pss_cons (ps_set (i := 13) sc__law_entry_right.nd rfl (.inl rfl) (pe_g G_entry (fun _ _ F => bd_entry F) hg (hr.mono (by decide)) passL (by rfl) (pa_cons (pv 1) (pa_cons (pv 2) (pa_cons (pe_op op_mulX (pv 3) (pv 4)) pa_nil)))))
    (pss_cons (ps_if (PW.pt (pw_or (pt_cmpR op_neZ (pe_op op_mod (pe_callTy (T := "int") c_int (by rfl) T.b_int (by decide +kernel) (pa_cons (pv 13) pa_nil)) (pv 9)) pe_int (nomark _)) (pw_or1 (pt_cmpR op_neZ (pe_op op_mod (pe_callTy (T := "int") c_int (by rfl) T.b_int (by decide +kernel) (pa_cons (pe_ix (x_tup rfl) (pe_g G_tail_and_round_of (fun _ _ F => bd_tail_and_round_of F) hg (hr.mono (by decide)) passL (by rfl) (pa_cons (pv 5) (pa_cons (pe_op op_mulX (pv 3) (pv 4)) pa_nil))) pe_int (fun _ _ => rfl)) pa_nil)) (pv 13)) pe_int (nomark _))))) (pss_one (ps_ret pe_bl)) pss_nil)
    (pss_cons (ps_if (pt_cmpR op_gt (pe_g G__law_shared (fun _ _ F => bd__law_shared F) hg (hr.mono (by decide)) passL (by rfl) (pa_cons (pv 3) (pa_cons (pv 4) pa_nil))) pe_int (nomark _)) (pss_one (ps_ret pe_bl)) pss_nil)
    (pss_cons (ps_set (i := 14) sc__law_entry_right.nd rfl (.inl rfl) (pe_g G_entry (fun _ _ F => bd_entry F) hg (hr.mono (by decide)) passL (by rfl) (pa_cons (pv 1) (pa_cons (pv 2) (pa_cons (pv 4) pa_nil)))))
    (pss_one (ps_ret (pe_cmpR op_eqZ (pv 13) (pe_op op_mulX (pe_op op_fdivW (pv 9) (pe_g G__law_shared (fun _ _ F => bd__law_shared F) hg (hr.mono (by decide)) passL (by rfl) (pa_cons (pv 9) (pa_cons (pv 14) pa_nil)))) (pv 14)) (nomark _))))))))))))))))), ?_⟩
    walk_at "sti"
    refine ⟨k, b, n, rfl, hk, by omega, fun u H1 x1 k1 u0 u1 cu => ?_⟩
    walk_at "gi"
    refine ⟨k, b, _, rfl, k1, by omega, fun v H2 x2 k2 v0 v1 cv => ?_⟩
    walk_at "gi"
    rename_i r hr0
    have sr : RunAt K (upd H2 r (.tup [.int a, .int b, .int 0, .int 1])) r a b 0 1 := SqT.of upd_same
    have y3 : Kx k H (upd H2 r (.tup [.int a, .int b, .int 0, .int 1])) := (x1.trans x2).same (Same.new hr0)
    have k3 := k2.new (o := .tup [.int a, .int b, .int 0, .int 1]) hr0
    generalize upd H2 r (.tup [.int a, .int b, .int 0, .int 1]) = H3 at *
    refine ⟨r, a, b, 0, 1, u, rfl, sr, hR, u0, u1, fun t c w1 l1 H4 s4 tr tb e4 el => ?_⟩
    have t0 := tr.no_tail R cu
    subst t0
    have c0 := tr.1.1
    have hU : (u : Int) ∣ Vf.uv a b c := by
      have := tr.1.2.1.1
      rw [Nat.zero_add, show rv a b 0 1 0 = 0 from rfl, Int.sub_zero] at this
      exact this
    have c36 : c ≤ 3600 := by have := Nat.mul_le_mul u1 u1; omega
    rw [Nat.zero_add] at el
    walk_at "gi"
    refine ⟨⟨by omega, by omega, by omega, by omega⟩, ?_⟩
    rw [show ((c : Int) - 1).toNat = c - 1 by omega]
    have uz : (u : Int) ≠ 0 := by omega
    have z_iff : ∀ i, rv a b 0 1 i % (u : Int) = 0 ↔ (u : Int) ∣ Vf.uv a b i := fun i => ⟨Int.dvd_of_emod_eq_zero, Int.emod_eq_zero_of_dvd⟩
    refine r_lcR (fun D i H' => Same H4 H' ∧ H' D = some (.lst ((noughts u a b i).map fun z : Nat => V.int (z : Int)))) (fun D hD => ⟨Same.new hD, upd_same⟩) (fun D i H' hD hi hP => ?_) (fun D H' hD hP => ?_)
    · obtain ⟨s5, d5⟩ := hP
      have ln := noughts_len u a b i
      walk_at "gi"
      refine ⟨rfl, ?_⟩
      walk_at "gi"
      rw [show (1 : Int) + (i : Int) = ((i + 1 : Nat) : Int) by omega]
      refine r_ixL (SqL.of (s5 _ _ el)) (atI_nat (ws_get (by omega))) ?_
      walk_at "gi"
      rw [noughts_next]
      refine ifd (fun z0 => ?_) (fun z0 => ?_)
      · rw [if_pos ((z_iff _).mp z0)]
        walk_at "gi"
        refine ⟨_, d5, Nat.lt_of_le_of_lt (show _ ≤ 3600 by rw [List.length_map]; omega) (by decide), fun o w e => ?_, ?_⟩
        · rw [upd_ne (ne_of_none e hD)]
          exact s5 _ _ e
        · rw [List.map_append]
          exact upd_same
      · rw [if_neg (fun y => z0 ((z_iff _).mpr y)), List.append_nil]
        exact ⟨s5, d5⟩
    obtain ⟨s5, d5⟩ := hP
    have ln := noughts_len u a b (c - 1)
    obtain ⟨z, hz, hE⟩ := first_en c0 hU (c - 1) (by omega)
    have E : Vf.EN u a b z := by
      rcases hE with E | ⟨rfl, h⟩
      · exact E
      · exact ⟨c0, hU, fun k k0 k1 => h k k0 (by omega)⟩
    have zc : z ∣ c := (E.dvd cu c).mp hU
    have z0 := E.1
    have zl : z ≤ c := Nat.le_of_dvd c0 zc
    walk_at "gi"
    rename_i l5 h5
    refine r_cat (at_new h5 d5) upd_same (by rw [List.length_map]; show _ + 1 ≤ _; omega) fun l6 h6 => ?_
    have s6 : Same H' (upd (upd H' l5 (.lst [.int (c : Int)])) l6 (.lst (((noughts u a b (c - 1)).map fun z : Nat => V.int (z : Int)) ++ [.int (c : Int)]))) := (Same.new h5).trans (Same.new h6)
    walk_at "gi"
    refine r_ixL (SqL.of upd_same) (atI_nat (j := 0) (v := .int (z : Int)) ?_) ?_
    · have : ((noughts u a b (c - 1)).map fun z : Nat => V.int (z : Int)) ++ [V.int (c : Int)] = (noughts u a b (c - 1) ++ [c]).map fun z : Nat => V.int (z : Int) := by rw [List.map_append]; rfl
      rw [this, List.getElem?_map, hz]
      rfl
    have s36 := (s4.trans s5).trans s6
    have el6 := s6 _ _ (s5 _ _ el)
    have sr6 := Same.tup s36 sr
    have k6 := k3.same s36
    have y6 := y3.same s36
    generalize upd (upd H' l5 (.lst [.int (c : Int)])) l6 (.lst (((noughts u a b (c - 1)).map fun z : Nat => V.int (z : Int)) ++ [.int (c : Int)])) = H6 at *
    have SE : ∀ {Q : VK} {E' : XK} {G : Hp} (n : Nat), 1 ≤ n → n ≤ 3600 → SmB n → Nat.Coprime n b.natAbs → (∀ e G', Same G G' → Vf.EN n a b e → e ≤ 2 ^ 2460 → Q (.int (e : Int)) G') → sp_entry K [.int a, .int b, .int (n : Int)] G Q E' := fun {Q E' G} n n0 n1 hB hc h => ⟨a, b, n, rfl, by omega, by omega, n0, by omega, hB, hc, h⟩
    have SBu : SmB u := SmB.le u0 u1
    have SBv : SmB v := SmB.le v0 v1
    walk_at "gi"
    refine SE u u0 (by omega) SBu cu fun e1 H7 s7 E1 _ => ?_
    obtain rfl := E1.uniq cu E
    walk_at "gi"
    refine SE u u0 (by omega) SBu cu fun e2 H8 s8 E2 _ => ?_
    obtain rfl := E2.uniq cu E
    walk_at "go"
    rename_i l9 h9
    refine j_s (fun σ2 H2 => σ2 = [some (.ref k), some (.int a), some (.int b), some (.int (u : Int)), some (.int (v : Int)), some (.ref r), some (.int ((0 : Nat) : Int)), some (.int (c : Int)), some (.ref l1), some (.int (e2 : Int)), some (.ref l9), none, none, none, none, none] ∧ Same (upd H8 l9 (.lst [.int (e2 : Int), .int (e2 : Int)])) H2) (fun nx' hnx => ?_) (fun σ2 H10 hM => ?_)
    · walk_at "gi"
      rename_i l10 h10
      refine r_neI [(e2 : Int), e2] [(e2 : Int), e2] (SqL.of (at_new h10 upd_same)) (SqL.of upd_same) ?_
      rw [decide_eq_true (show ([(e2 : Int), e2] : List Int) = [(e2 : Int), e2] from rfl)]
      walk_at "gi"
      refine ifnd (fun c => absurd rfl c) (fun _ => ?_)
      walk_at "gi"
      exact hnx _ _ ⟨rfl, Same.new h10⟩
    obtain ⟨rfl, s10⟩ := hM
    have s610 := ((s7.trans s8).trans (Same.new (o := .lst [.int (e2 : Int), .int e2]) h9)).trans s10
    have el10 := s610 _ _ el6
    have sr10 := Same.tup s610 sr6
    have k10 := k6.same s610
    have y10 := y6.same s610
    walk_at "gi"
    refine ⟨by omega, by omega, ?_⟩
    rw [Int.toNat_natCast]
    refine r_lcR (fun D i H' => Same H10 H' ∧ H' D = some (.lst [])) (fun D hD => ⟨Same.new hD, upd_same⟩) (fun D i H' hD hi hP => ?_) (fun D H' hD hP => ?_)
    · obtain ⟨s11, d11⟩ := hP
      walk_at "gi"
      refine ⟨rfl, ?_⟩
      walk_at "gi"
      rw [Int.zero_add]
      refine r_ixL (SqL.of (s11 _ _ el10)) (atI_nat (ws_get hi)) ?_
      walk_at "gi"
      refine r_rI (show (0 : Int) < (e2 : Int) by omega) ?_
      walk_at "gi"
      have bb : (rv a b 0 1 i % (u : Int) = 0) ↔ ((i : Int) % (e2 : Int) = 0) := by
        rw [z_iff, E.dvd cu]
        exact ⟨fun h => Int.emod_eq_zero_of_dvd (Int.ofNat_dvd.mpr h), fun h => Int.ofNat_dvd.mp (Int.dvd_of_emod_eq_zero h)⟩
      refine r_neBB (decide_eq_decide.mpr bb) ?_
      walk_at "gi"
      exact ⟨s11, d11⟩
    obtain ⟨s11, d11⟩ := hP
    walk_at "gi"
    rename_i l12 h12
    refine r_neI [] [] (SqL.of (at_new h12 d11)) (SqL.of upd_same) ?_
    rw [decide_eq_true (show ([] : List Int) = [] from rfl)]
    have s12 := s11.trans (Same.new (o := .lst []) h12)
    have sr12 := Same.tup s12 sr10
    have k12 := k10.same s12
    have y12 := y10.same s12
    generalize upd H' l12 (.lst []) = H12 at *
    walk_at "gi"
    refine r_rI (show (0 : Int) < (e2 : Int) by omega) ?_
    walk_at "gi"
    rw [Int.emod_eq_zero_of_dvd (Int.ofNat_dvd.mpr zc)]
    refine ifnd (fun c => absurd rfl c) (fun _ => ?_)
    walk_at "gi"
    refine r_rI ⟨by decide, by decide, by decide⟩ ?_
    walk_at "gi"
    refine i_sip _ k12 (by omega) (by decide) (by decide) fun f13 H13 f130 f131 x13 k13 => ?_
    obtain ⟨f13, rfl⟩ := Int.eq_ofNat_of_zero_le f130
    have f13b : f13 ≤ 1000000000 := by
      have : (10 : Int) ^ (9 : Int).toNat = 1000000000 := rfl
      omega
    have sr13 : RunAt K H13 r a b 0 1 := (k12.tt x13) K _ _ sr12
    have y13 := y12.trans x13
    walk_at "gi"
    refine r_rI (bit_mul (a := 64) (b := 64) (bit_of (by omega)) (bit_of (by omega)) (by decide)) ?_
    rw [show (e2 : Int) * (1 + (f13 : Int)) = ((e2 * (1 + f13) : Nat) : Int) by push_cast; rfl]
    have fb : e2 * (1 + f13) ≤ 3600 * 1000000001 := Nat.mul_le_mul (by omega) (by omega)
    have fd : e2 ∣ e2 * (1 + f13) := ⟨_, rfl⟩
    generalize e2 * (1 + f13) = F at *
    have SR : ∀ {Q : VK} {E' : XK} {G : Hp} (i : Nat), i ≤ 4000000000000 → RunAt K G r a b 0 1 → (∀ G', Same G G' → Q (.int (rv a b 0 1 i % (u : Int))) G') → sp_rest59 K [.ref r, .int (i : Int), .int (u : Int)] G Q E' := fun {Q E' G} i hi h1 h2 => ⟨r, a, b, 0, 1, i, (u : Int), rfl, h1, hR, Nat.le_trans hi (by decide), by omega, by
      have : (10 : Int) ^ 30 = 1000000000000000000000000000000 := by decide
      omega, h2⟩
    walk_at "go"
    refine j_s (fun σ2 H2 => σ2 = [some (.ref k), some (.int a), some (.int b), some (.int (u : Int)), some (.int (v : Int)), some (.ref r), some (.int ((0 : Nat) : Int)), some (.int (c : Int)), some (.ref l1), some (.int (e2 : Int)), some (.ref l9), some (.ref D), some (.int (F : Int)), none, none, none] ∧ Same H13 H2) (fun nx' hnx => ?_) (fun σ2 H14 hM => ?_)
    · walk_at "gi"
      refine SR F (by omega) sr13 fun H14 s14 => ?_
      walk_at "gi"
      rw [(z_iff F).mpr ((E.dvd cu F).mpr fd)]
      refine ifnd (fun c => absurd rfl c) (fun _ => ?_)
      walk_at "gi"
      refine ifd (fun cu1 => ?_) (fun cu1 => ?_)
      · walk_at "gi"
        refine ifd (fun ce1 => ?_) (fun ce1 => ?_)
        · walk_at "gi"
          rw [show (F : Int) + 1 = ((F + 1 : Nat) : Int) by omega]
          refine SR (F + 1) (by omega) (Same.tup s14 sr13) fun H15 s15 => ?_
          have nz : ¬ rv a b 0 1 (F + 1) % (u : Int) = 0 := fun y => by
            have h1 := (E.dvd cu (F + 1)).mp ((z_iff (F + 1)).mp y)
            have h2 := (Nat.dvd_add_right fd).mp h1
            have := Nat.le_of_dvd (by decide) h2
            omega
          walk_at "gi"
          refine ifd (fun y => absurd y nz) (fun _ => ?_)
          walk_at "gi"
          exact hnx _ _ ⟨rfl, s14.trans s15⟩
        · walk_at "gi"
          exact hnx _ _ ⟨rfl, s14⟩
      · walk_at "gi"
        exact hnx _ _ ⟨rfl, s14⟩
    obtain ⟨rfl, s1314⟩ := hM
    have sr14 := Same.tup s1314 sr13
    have k14 := k13.same s1314
    have y14 := y13.same s1314
    walk_at "gi"
    have uv1 : 1 ≤ u * v := Nat.mul_pos u0 v0
    have uvb : u * v ≤ 60 * 60 := Nat.mul_le_mul u1 v1
    have cuv : Nat.Coprime (u * v) b.natAbs := Nat.Coprime.mul_left cu cv
    refine r_rI (bit_mul (a := 64) (b := 64) (bit_of (by omega)) (bit_of (by omega)) (by decide)) ?_
    rw [← Int.natCast_mul]
    walk_at "gi"
    have SBuv : SmB (u * v) := SBu.mul SBv
    refine SE (u * v) uv1 (by omega) SBuv cuv fun W H16 s16 EW _ => ?_
    have dW : e2 ∣ W := EW.part cu ⟨v, rfl⟩ E
    walk_at "gi"
    refine r_rI (show (0 : Int) < (e2 : Int) by omega) ?_
    walk_at "gi"
    rw [Int.emod_eq_zero_of_dvd (Int.ofNat_dvd.mpr dW)]
    refine ifnd (fun c => absurd rfl c) (fun _ => ?_)
    walk_at "gi"
    refine r_rI (bit_mul (a := 64) (b := 64) (bit_of (by omega)) (bit_of (by omega)) (by decide)) ?_
    rw [← Int.natCast_mul]
    walk_at "gi"
    refine ⟨r, a, b, 0, 1, u * v, rfl, Same.tup s16 sr14, hR, uv1, by omega, SBuv, fun z17 t17 c17 H17 s17 e17 tr17 => ?_⟩
    have t17z := tr17.no_tail R cuv
    subst t17z
    have W0 := EW.1
    have Wc : W ∣ c17 := by
      refine (EW.dvd cuv c17).mp ?_
      have := tr17.1.2.1.1
      rw [Nat.zero_add, show rv a b 0 1 0 = 0 from rfl, Int.sub_zero] at this
      exact this
    walk_at "gi"
    refine r_ixT (SqT.of e17) (atI_nat (j := 1) rfl) ?_
    walk_at "gi"
    refine r_rI (show (0 : Int) < (W : Int) by omega) ?_
    walk_at "gi"
    rw [Int.emod_eq_zero_of_dvd (Int.ofNat_dvd.mpr Wc)]
    refine ifnd (fun c => absurd rfl c) (fun _ => ?_)
    have s1417 := s16.trans s17
    have done : ∀ H', Same H17 H' → Q (.bl true) H' := fun H' s => q H' (y14.same (s1417.trans s)) ((k14.same (s1417.trans s)).mono (by omega))
    walk_at "gi"
    refine ⟨(u : Int), (v : Int), rfl, ?_⟩
    rw [Int.natAbs_natCast, Int.natAbs_natCast]
    walk_at "gi"
    refine ifd (fun _ => ?_) (fun ng => ?_)
    · walk_at "gi"
      exact done _ (Same.refl _)
    · have cp : Nat.Coprime u v := by
        show Nat.gcd u v = 1
        have : 0 < Nat.gcd u v := Nat.gcd_pos_of_pos_left _ u0
        omega
      walk_at "gi"
      refine SE v v0 (by omega) SBv cv fun M H18 s18 EM bM => ?_
      obtain rfl := EW.uniq cuv (Vf.EN.cop cp cu cv E EM)
      walk_at "gi"
      refine ⟨(e2 : Int), (M : Int), rfl, ?_⟩
      rw [Int.natAbs_natCast, Int.natAbs_natCast]
      have g0 : 0 < Nat.gcd e2 M := Nat.gcd_pos_of_pos_left _ z0
      have gl : Nat.gcd e2 M ≤ e2 := Nat.gcd_le_left _ z0
      walk_at "gi"
      refine r_rI (divw_of (by omega) (by omega)) ?_
      rw [show (e2 : Int) / ((Nat.gcd e2 M : Nat) : Int) = ((e2 / Nat.gcd e2 M : Nat) : Int) from (Int.natCast_ediv ..).symm]
      have dl : e2 / Nat.gcd e2 M ≤ e2 := Nat.div_le_self _ _
      have lE : Nat.lcm e2 M = e2 / Nat.gcd e2 M * M := by
        unfold Nat.lcm
        rw [Nat.mul_comm, Nat.mul_div_assoc _ (Nat.gcd_dvd_left _ _), Nat.mul_comm]
      generalize e2 / Nat.gcd e2 M = G2 at *
      walk_at "gi"
      refine r_rI (bit_mul (a := 64) (b := 2461) (bit_of (by omega)) (bit_of (by rw [Int.natAbs_natCast]; exact Nat.lt_of_le_of_lt bM (Nat.pow_lt_pow_right (by decide) (by decide)))) (by decide)) ?_
      rw [← Int.natCast_mul, lE]
      walk_at "gi"
      rw [decide_eq_true rfl]
      exact done _ s18
end
section
variable {P : Program} {w : World} {K : PySem.W.Frag} {mg : Str → Option Value} {base : Heap}
/-! ### the law on common values -/
def sp_lcr (K : PySem.W.Frag) : Sp := fun vs H Q _ => ∃ (k : Addr) (a b : Int) (n : Nat), vs = [.ref k, .int a, .int b] ∧ Bas n k H ∧ n ≤ 2 ^ 57 ∧ a.natAbs ≤ 100 ∧ b.natAbs ≤ 100 ∧ ∀ H', Kx k H H' → Bas (n + 9) k H' → Q (.bl true) H'
theorem ok__law_common_right (T : Top K mg) : Ok P w K mg base 8 "_law_common_right" s__law_common_right ["_law_basin_here", "_law_p", "_law_q"] (sp_lcr K) := by
  have G__law_values := ok__law_values (P := P) (w := w) (base := base) T
  have G__law_sip := ok__law_sip (P := P) (w := w) (base := base) T
  have G__law_shared := ok__law_shared (P := P) (w := w) (base := base) T
  have G_common_value := ok_common_value (P := P) (w := w) (base := base) T
  refine T.d__law_common_right.ok sc__law_common_right (fun vs H Q E h => ?_) (fun f cdv A outer s H vs Q E hg hr h => ?_)
  · obtain ⟨k, a, b, n, rfl, _⟩ := h
    rfl
  · obtain ⟨k, a, b, n, rfl, hk, hn, ha, hb, q⟩ := h
    have hR : Rn a b 0 1 := ⟨by omega, by omega, by decide, by decide⟩
    have E57 : (2 : Nat) ^ 57 = 144115188075855872 := by decide
    have E60 := e60
    have at1 : ∀ (m z : Nat), z < m → (((List.range m).map fun i => rv a b 0 1 i).map V.int)[z]? = some (.int (rv a b 0 1 z)) := fun m z hz => by rw [List.getElem?_map, rvs_at hz]; rfl
    have CV : ∀ {Q : VK} {E' : XK} {G : Hp} (i j : Nat), i ≤ 500 → j ≤ 500 → (∀ G', Same G G' → Q (.int ((Nat.gcd (rv a b 0 1 i).natAbs (rv a b 0 1 j).natAbs : Nat) : Int)) G') → sp_cv K [.int a, .int b, .int (i : Int), .int (j : Int)] G Q E' := fun {Q E' G} i j hi hj h => ⟨a, b, i, j, rfl, by omega, by omega, hi, hj, h⟩
    refine ⟨_, (pss_cons (ps_set (i := 3) sc__law_common_right.nd rfl (.inl rfl) (pe_g G__law_values (fun _ _ F => bd__law_values F) hg (hr.mono (by decide)) passL (by rfl) (pa_cons (pe_tup (pa_cons (pv 1) (pa_cons (pv 2) (pa_cons pe_int (pa_cons pe_int pa_nil))))) (pa_cons pe_int pa_nil))))
    (pss_cons (ps_for (passes_of rfl) rfl (pi_range1 (by rfl) T.b_range (pa_cons pe_int pa_nil)) (pg_name (i := 4) sc__law_common_right.nd rfl (.inl rfl)) (pss_cons (ps_par (i := 5) (j := 6) (by rfl) sc__law_common_right.nd rfl rfl (by decide) rfl rfl (pa_cons (pe_g G__law_sip (fun _ _ F => bd__law_sip F) hg (hr.mono (by decide)) passL (by rfl) (pa_cons (pv 0) (pa_cons pe_int pa_nil))) (pa_cons (pe_g G__law_sip (fun _ _ F => bd__law_sip F) hg (hr.mono (by decide)) passL (by rfl) (pa_cons (pv 0) (pa_cons pe_int pa_nil))) pa_nil)) (by rfl))
    (pss_cons (ps_set (i := 7) sc__law_common_right.nd rfl (.inl rfl) (pe_g G__law_shared (fun _ _ F => bd__law_shared F) hg (hr.mono (by decide)) passL (by rfl) (pa_cons (pe_ix (x_list rfl) (pv 3) (pv 5) (fun _ _ => rfl)) (pa_cons (pe_ix (x_list rfl) (pv 3) (pv 6) (fun _ _ => rfl)) pa_nil))))
    (pss_cons (ps_set (i := 8) sc__law_common_right.nd rfl (.inl rfl) (pe_lst (pa_cons (pe_g G_common_value (fun _ _ F => bd_common_value F) hg (hr.mono (by decide)) passL (by rfl) (pa_cons (pv 1) (pa_cons (pv 2) (pa_cons (pv 5) (pa_cons (pv 6) pa_nil))))) (pa_cons (pe_gk0 G_common_value (fun _ _ F => kb_common_value_1 F) hg (hr.mono (by decide)) passL (by rfl) (pk_cons (pv 6) (pk_cons (pv 5) (pk_cons (pv 2) (pk_cons (pv 1) pk_nil))))) pa_nil))))
    (pss_one (ps_if (pt_cmpR (o_neD rfl hr.units) (pv 8) (pe_lst (pa_cons (pv 7) (pa_cons (pv 7) pa_nil))) (nomark _)) (pss_one (ps_ret pe_bl)) pss_nil))))))
    (pss_cons (ps_if (pt_cmpR op_neZ (pe_g G__law_shared (fun _ _ F => bd__law_shared F) hg (hr.mono (by decide)) passL (by rfl) (pa_cons (pv 1) (pa_cons (pv 2) pa_nil))) pe_int (nomark _)) (pss_one (ps_ret pe_bl)) pss_nil)
    (pss_cons (ps_set (i := 9) sc__law_common_right.nd rfl (.inl rfl) (pe_op op_add pe_int (pe_g G__law_sip (fun _ _ F => bd__law_sip F) hg (hr.mono (by decide)) passL (by rfl) (pa_cons (pv 0) (pa_cons pe_int pa_nil)))))
    (pss_cons (ps_par (i := 5) (j := 6) (by rfl) sc__law_common_right.nd rfl rfl (by decide) rfl rfl (pa_cons (pe_op op_mulX (pv 9) (pe_g G__law_sip (fun _ _ F => bd__law_sip F) hg (hr.mono (by decide)) passL (by rfl) (pa_cons (pv 0) (pa_cons (pe_op op_add (pe_op op_fdivW pe_int (pv 9)) pe_int) pa_nil)))) (pa_cons (pe_op op_mulX (pv 9) (pe_g G__law_sip (fun _ _ F => bd__law_sip F) hg (hr.mono (by decide)) passL (by rfl) (pa_cons (pv 0) (pa_cons (pe_op op_add (pe_op op_fdivW pe_int (pv 9)) pe_int) pa_nil)))) pa_nil)) (by rfl))
    (pss_cons (ps_set (i := 3) sc__law_common_right.nd rfl (.inl rfl) (pe_g G__law_values (fun _ _ F => bd__law_values F) hg (hr.mono (by decide)) passL (by rfl) (pa_cons (pe_tup (pa_cons (pv 1) (pa_cons (pv 2) (pa_cons pe_int (pa_cons pe_int pa_nil))))) (pa_cons (pe_callB (id := "max") (c_max2 rfl) (by rfl) T.b_max (by decide +kernel) (pa_cons pe_int (pa_cons (pe_op op_add (pe_g G__law_shared (fun _ _ F => bd__law_shared F) hg (hr.mono (by decide)) passL (by rfl) (pa_cons (pv 5) (pa_cons (pv 6) pa_nil))) pe_int) pa_nil))) pa_nil))))
    (pss_one (ps_ret (pe_cmpR op_eqZ (pe_g G_common_value (fun _ _ F => bd_common_value F) hg (hr.mono (by decide)) passL (by rfl) (pa_cons (pv 1) (pa_cons (pv 2) (pa_cons (pv 5) (pa_cons (pv 6) pa_nil))))) (pe_callB (id := "abs") c_abs (by rfl) T.b_abs (by decide +kernel) (pa_cons (pe_ix (x_list rfl) (pv 3) (pe_g G__law_shared (fun _ _ F => bd__law_shared F) hg (hr.mono (by decide)) passL (by rfl) (pa_cons (pv 5) (pa_cons (pv 6) pa_nil))) (fun _ _ => rfl)) pa_nil)) (nomark _)))))))))), ?_⟩
    walk_at "sti"
    rename_i r hr0
    have sr : RunAt K (upd H r (.tup [.int a, .int b, .int 0, .int 1])) r a b 0 1 := SqT.of upd_same
    have s1 : Same H (upd H r (.tup [.int a, .int b, .int 0, .int 1])) := Same.new hr0
    generalize upd H r (.tup [.int a, .int b, .int 0, .int 1]) = H1 at *
    refine ⟨r, a, b, 0, 1, 41, rfl, sr, hR, by decide, by decide, fun l H2 s2 nl e2 => ?_⟩
    have s12 := s1.trans s2
    have k2 := hk.same s12
    walk_at "gi"
    refine ⟨by decide, by decide, ?_⟩
    have lk : l ≠ k := (hk.same s1).ne nl
    refine r_forR (fun i σ H' => ∃ x4 x5 x6 x7 x8 : Option V, σ = [some (.ref k), some (.int a), some (.int b), some (.ref l), x4, x5, x6, x7, x8, none] ∧ Kx k H2 H' ∧ Bas (n + 2 * i) k H') ⟨_, _, _, _, _, rfl, Kx.refl _, k2⟩ (fun i σ H' hi hP => ?_) (fun σ H' hP => ?_)
    · obtain ⟨x4, x5, x6, x7, x8, rfl, y3, k3⟩ := hP
      have i3 : i < 3 := hi
      have e3 := y3 _ _ lk e2
      walk_at "gi"
      refine i_sip _ k3 (by omega) (by decide) (by decide) fun f1 H4 f10 f11 x4' k4 => ?_
      walk_at "gi"
      refine i_sip _ k4 (by omega) (by decide) (by decide) fun f2 H5 f20 f21 x5' k5 => ?_
      obtain ⟨f1, rfl⟩ := Int.eq_ofNat_of_zero_le f10
      obtain ⟨f2, rfl⟩ := Int.eq_ofNat_of_zero_le f20
      have e5 := x5' _ _ lk (x4' _ _ lk e3)
      walk_at "gi"
      refine r_ixL (SqL.of e5) (atI_nat (at1 41 f1 (by omega))) ?_
      walk_at "gi"
      refine r_ixL (SqL.of e5) (atI_nat (at1 41 f2 (by omega))) ?_
      walk_at "gi"
      refine ⟨rv a b 0 1 f1, rv a b 0 1 f2, rfl, ?_⟩
      walk_at "gi"
      refine CV f1 f2 (by omega) (by omega) fun H6 s6 => ?_
      walk_at "gi"
      refine CV f1 f2 (by omega) (by omega) fun H7 s7 => ?_
      walk_at "gi"
      rename_i l8 h8 l9 h9
      generalize Nat.gcd (rv a b 0 1 f1).natAbs (rv a b 0 1 f2).natAbs = g at *
      refine r_neI [(g : Int), g] [(g : Int), g] (SqL.of (at_new h9 upd_same)) (SqL.of upd_same) ?_
      rw [decide_eq_true (show ([(g : Int), g] : List Int) = [(g : Int), g] from rfl)]
      have s9 := ((s6.trans s7).trans (Same.new (o := .lst [.int (g : Int), .int (g : Int)]) h8)).trans (Same.new (o := .lst [.int (g : Int), .int (g : Int)]) h9)
      walk_at "gi"
      exact ⟨_, _, _, _, _, rfl, ((y3.trans x4').trans x5').same s9, (k5.same s9).mono (by omega)⟩
    · obtain ⟨x4, x5, x6, x7, x8, rfl, y3, k3⟩ := hP
      have y0 : Kx k H H' := Kx.trans (Same.toKx s12) y3
      walk_at "gi"
      refine ⟨a, b, rfl, ?_⟩
      walk_at "gi"
      refine ifnd (fun c => ?_) (fun c => ?_)
      · walk_at "gi"
        exact q H' y0 (k3.mono (by omega))
      have hab : Nat.Coprime a.natAbs b.natAbs := by
        show Nat.gcd a.natAbs b.natAbs = 1
        omega
      walk_at "gi"
      refine i_sip _ k3 (by omega) (by decide) (by decide) fun f1 H4 f10 f11 x4' k4 => ?_
      obtain ⟨f1, rfl⟩ := Int.eq_ofNat_of_zero_le f10
      walk_at "gi"
      rw [show (1 : Int) + (f1 : Int) = ((f1 + 1 : Nat) : Int) by omega]
      obtain ⟨d, hd, d0, d1⟩ : ∃ d : Nat, f1 + 1 = d ∧ 1 ≤ d ∧ d ≤ 40 := ⟨_, rfl, by omega, by omega⟩
      rw [hd]
      refine r_rI (divw_of (by omega) (by omega)) ?_
      have e500 : (500 : Int) / (d : Int) = ((500 / d : Nat) : Int) := (Int.natCast_ediv 500 d).symm
      rw [e500]
      have q5 : d * (500 / d) ≤ 500 := Nat.mul_div_le 500 d
      have q6 : 500 / d ≤ 500 := Nat.div_le_self _ _
      generalize 500 / d = w0 at *
      walk_at "gi"
      refine i_sip _ k4 (by omega) (by omega) (by omega) fun f2 H5 f20 f21 x5' k5 => ?_
      obtain ⟨f2, rfl⟩ := Int.eq_ofNat_of_zero_le f20
      walk_at "gi"
      refine r_rI (bit_mul (a := 64) (b := 64) (bit_of (by omega)) (bit_of (by omega)) (by decide)) ?_
      rw [← Int.natCast_mul]
      walk_at "gi"
      have jb : d * f2 ≤ 500 := Nat.le_trans (Nat.mul_le_mul_left d (by omega)) q5
      refine r_rI (divw_of (by omega) (by omega)) ?_
      rw [e500]
      walk_at "gi"
      refine i_sip _ k5 (by omega) (by omega) (by omega) fun f3 H6 f30 f31 x6' k6 => ?_
      obtain ⟨f3, rfl⟩ := Int.eq_ofNat_of_zero_le f30
      have kb : d * f3 ≤ 500 := Nat.le_trans (Nat.mul_le_mul_left d (by omega)) q5
      walk_at "gi"
      refine r_rI (bit_mul (a := 64) (b := 64) (bit_of (by omega)) (bit_of (by omega)) (by decide)) ?_
      rw [← Int.natCast_mul]
      generalize d * f2 = i at *
      generalize d * f3 = j at *
      have y6 := ((y0.trans x4').trans x5').trans x6'
      walk_at "gi"
      rename_i r2 hr2
      have gb : Nat.gcd i j ≤ 500 := by
        rcases Nat.eq_zero_or_pos i with z | z
        · rw [z, Nat.gcd_zero_left]
          exact kb
        · exact Nat.le_trans (Nat.gcd_le_left _ z) jb
      refine ⟨(i : Int), (j : Int), rfl, ?_⟩
      rw [Int.natAbs_natCast, Int.natAbs_natCast]
      have gC := Vf.uv_gcd hab i j
      walk_at "gi"
      rw [show max (2 : Int) (((Nat.gcd i j : Nat) : Int) + 1) = ((max 2 (Nat.gcd i j + 1) : Nat) : Int) by omega]
      refine ⟨r2, a, b, 0, 1, max 2 (Nat.gcd i j + 1), rfl, SqT.of upd_same, hR, by omega, by omega, fun l7 H7 s7 n7 e7 => ?_⟩
      walk_at "gi"
      refine CV i j jb kb fun H8 s8 => ?_
      walk_at "gi"
      refine ⟨(i : Int), (j : Int), rfl, ?_⟩
      rw [Int.natAbs_natCast, Int.natAbs_natCast]
      walk_at "gi"
      refine r_ixL (SqL.of (s8 _ _ e7)) (atI_nat (at1 _ (Nat.gcd i j) (by omega))) ?_
      walk_at "gi"
      rw [show Nat.gcd (rv a b 0 1 i).natAbs (rv a b 0 1 j).natAbs = (rv a b 0 1 (Nat.gcd i j)).natAbs from gC, decide_eq_true rfl]
      exact q _ ((y6.same (Same.new hr2)).same (s7.trans s8)) (((k6.new hr2).same (s7.trans s8)).mono (by omega))
theorem EN_one {a b : Int} {e : Nat} (h : Vf.EN 1 a b e) : e = 1 := by
  refine Classical.byContradiction fun c => ?_
  have := h.1
  exact h.2.2 1 (by decide) (by omega) (Int.one_dvd _)
def sp_rgt (K : PySem.W.Frag) : Sp := fun vs H Q _ => ∃ k : Addr, vs = [.ref k] ∧ Bas 5 k H ∧ ∀ H', Kx k H H' → Q (.bl true) H'
theorem ok__law_right (T : Top K mg) : Ok P w K mg base 12 "_law_right" s__law_right ["_law_basin_here"] (sp_rgt K) := by
  have G__law_pair := ok__law_pair (P := P) (w := w) (base := base) T
  have G__law_entry_right := ok__law_entry_right (P := P) (w := w) (base := base) T
  have G__law_common_right := ok__law_common_right (P := P) (w := w) (base := base) T
  have G_entry := ok_entry (P := P) (w := w) (base := base) T
  have G_common_value := ok_common_value (P := P) (w := w) (base := base) T
  refine T.d__law_right.ok sc__law_right (fun vs H Q E h => ?_) (fun f cdv A outer s H vs Q E hg hr h => ?_)
  · obtain ⟨k, rfl, _⟩ := h
    rfl
  · obtain ⟨k, rfl, hk, q⟩ := h
    have E57 : (2 : Nat) ^ 57 = 144115188075855872 := by decide
    have E58 : (2 : Nat) ^ 58 = 288230376151711744 := by decide
    refine ⟨_, (pss_cons (ps_for (passes_of rfl) rfl (pi_range1 (by rfl) T.b_range (pa_cons pe_int pa_nil)) (pg_name (i := 1) sc__law_right.nd rfl (.inl rfl)) (pss_cons (ps_asg (pe_g G__law_pair (fun _ _ F => bd__law_pair F) hg (hr.mono (by decide)) passL (by rfl) (pa_cons (pv 0) pa_nil)) (g_tup rfl rfl (pgs_cons (pg_name (i := 2) sc__law_right.nd rfl (.inl rfl)) (pgs_cons (pg_name (i := 3) sc__law_right.nd rfl (.inl rfl)) pgs_nil)) rfl rfl))
    (pss_one (ps_if (PW.pt (pw_or (pt_not (pt_val (pe_g G__law_entry_right (fun _ _ F => bd__law_entry_right F) hg (hr.mono (by decide)) passL (by rfl) (pa_cons (pv 0) (pa_cons (pv 2) (pa_cons (pv 3) pa_nil)))))) (pw_or1 (pt_not (pt_val (pe_g G__law_common_right (fun _ _ F => bd__law_common_right F) hg (hr.mono (by decide)) passL (by rfl) (pa_cons (pv 0) (pa_cons (pv 2) (pa_cons (pv 3) pa_nil))))))))) (pss_one (ps_ret pe_bl)) pss_nil))))
    (pss_one (ps_ret (pe_and (pe_cmpR op_eqZ (pe_g G_entry (fun _ _ F => bd_entry F) hg (hr.mono (by decide)) passL (by rfl) (pa_cons (pv 2) (pa_cons (pv 3) (pa_cons pe_int pa_nil)))) pe_int (nomark _)) (pe_one (pe_cmpR op_eqZ (pe_g G_common_value (fun _ _ F => bd_common_value F) hg (hr.mono (by decide)) passL (by rfl) (pa_cons (pv 2) (pa_cons (pv 3) (pa_cons pe_int (pa_cons pe_int pa_nil))))) pe_int (nomark _))))))), ?_⟩
    walk_at "sti"
    refine ⟨by decide, by decide, ?_⟩
    refine r_forR (fun i σ H' => ∃ x1 x2 x3 : Option V, σ = [some (.ref k), x1, x2, x3] ∧ Kx k H H' ∧ Bas (5 + 30 * i) k H' ∧ (i = 0 ∨ ∃ a b : Int, x2 = some (.int a) ∧ x3 = some (.int b) ∧ a.natAbs ≤ 100 ∧ b.natAbs ≤ 100)) ⟨_, _, _, rfl, Kx.refl _, hk, .inl rfl⟩ (fun i σ H' hi hP => ?_) (fun σ H' hP => ?_)
    · obtain ⟨x1, x2, x3, rfl, y1, k1, _⟩ := hP
      have i4 : i < 4 := hi
      walk_at "gi"
      refine ⟨k, _, rfl, k1, by omega, fun z a b H2 x2' k2 ha hb ez => ?_⟩
      walk_at "gi"
      refine ⟨k, a, b, _, rfl, k2, by omega, ha, hb, fun H3 x3' k3 => ?_⟩
      walk_at "gi"
      refine ⟨k, a, b, _, rfl, k3, by omega, ha, hb, fun H4 x4 k4 => ?_⟩
      walk_at "gi"
      exact ⟨((y1.trans x2').trans x3').trans x4, k4.mono (by omega), .inr ⟨a, b, rfl, rfl, ha, hb⟩⟩
    · obtain ⟨x1, x2, x3, rfl, y1, k1, hx⟩ := hP
      rcases hx with hx | ⟨a, b, rfl, rfl, ha, hb⟩
      · exact absurd hx (by decide)
      walk_at "gi"
      refine ⟨a, b, 1, rfl, by omega, by omega, by decide, by decide, SmB.le (by decide) (by decide), Nat.coprime_one_left _, fun e H3 s3 E3 _ => ?_⟩
      rw [EN_one E3]
      walk_at "gi"
      refine ifd (fun _ => ?_) (fun c => absurd rfl c)
      walk_at "gi"
      refine ⟨a, b, 0, 0, rfl, by omega, by omega, by decide, by decide, fun H4 s4 => ?_⟩
      rw [show Nat.gcd (rv a b 0 1 0).natAbs (rv a b 0 1 0).natAbs = 0 by show Nat.gcd (0 : Int).natAbs (0 : Int).natAbs = 0; decide]
      walk_at "gi"
      exact q _ (y1.same (s3.trans s4))
def sp_law (K : PySem.W.Frag) : Sp := fun vs H Q _ => ∃ (c : Addr) (ns : List Int), vs = [.ref c] ∧ SqL K H c (ns.map V.int) ∧ Script ns ∧ ∀ H', Q (.bl true) H'
theorem ok_law (T : Top K mg) : Ok P w K mg base 13 "law" s_law ["_law_script"] (sp_law K) := by
  have G__law_right := ok__law_right (P := P) (w := w) (base := base) T
  have G__law_basin := ok__law_basin (P := P) (w := w) (base := base) T
  refine T.d_law.ok sc_law (fun vs H Q E h => ?_) (fun f cdv A outer s H vs Q E hg hr h => ?_)
  · obtain ⟨c, ns, rfl, _⟩ := h
    rfl
  · obtain ⟨c, ns, rfl, hs, hn, q⟩ := h
    refine ⟨_, (pss_one (ps_ret (pe_callB (id := "all") (c_all rfl rfl) (by rfl) T.b_all (by decide +kernel) (pa_cons (pe_lc (own := [("_law_k", 1)]) (by rfl) sc_law.nd (pi_range1 (by rfl) T.b_range (pa_cons (pe_callB (id := "max") (c_max2 rfl) (by rfl) T.b_max (by decide +kernel) (pa_cons pe_int (pa_cons (pe_callB (id := "min") (c_min2 rfl) (by rfl) T.b_min (by decide +kernel) (pa_cons (pe_callB (id := "len") (c_len rfl) (by rfl) T.b_len (by decide +kernel) (pa_cons (pv 0) pa_nil)) (pa_cons pe_int pa_nil))) pa_nil))) pa_nil)) (blkOk_by (own := [("_law_k", 1)]) (N := ["_law_script", "_law_k"]) (sc := defScope s_law) (by decide +kernel)) (fun _ _ _ _ _ => (pg_name (i := 1) sc_law.nd rfl (by first | exact Or.inl rfl | exact Or.inr rfl))) (fun _ _ _ _ _ => pts_nil) (fun _ _ _ _ _ => (pe_g G__law_right (fun _ _ F => bd__law_right F) hg (hr.mono (by decide)) passL (by rfl) (pa_cons (pe_g G__law_basin (fun _ _ F => bd__law_basin F) hg (hr.mono (by decide)) passL (by rfl) (pa_cons (pv 0) (pa_cons (pv 1) pa_nil))) pa_nil)))) pa_nil)))), ?_⟩
    walk_at "st"
    have E62 := e62
    rw [List.length_map]
    refine ⟨by omega, by omega, ?_⟩
    have hm : (max 2 (min (ns.length : Int) 3)).toNat ≤ 3 := by omega
    generalize (max 2 (min (ns.length : Int) 3)).toNat = m at *
    refine r_lcR (fun D i H' => Same H H' ∧ H' D = some (.lst ((List.replicate i true).map V.bl))) (fun D hD => ⟨Same.new hD, upd_same⟩) (fun D i H' hD hi hP => ?_) (fun D H' hD hP => ?_)
    · obtain ⟨s1, d1⟩ := hP
      walk_at "go"
      refine ⟨rfl, ?_⟩
      walk_at "go"
      rw [Int.zero_add]
      refine ⟨c, ns, i, rfl, Same.list s1 hs, hn, by omega, fun p H2 s2 n2 k2 => ?_⟩
      have npD : D ≠ p := ne_of_none d1 n2
      walk_at "go"
      refine ⟨p, rfl, k2, fun H3 x3 => ?_⟩
      have d3 : H3 D = some (.lst ((List.replicate i true).map V.bl)) := x3 _ _ npD (s2 _ _ d1)
      refine ⟨_, d3, ?_, fun b o e => ?_, ?_⟩
      · rw [List.length_map, List.length_replicate]
        exact Nat.lt_of_le_of_lt (show i ≤ 4 by omega) (by decide)
      · have nb : b ≠ D := ne_of_none e hD
        have e1 := s1 _ _ e
        rw [upd_ne nb]
        exact x3 _ _ (ne_of_none e1 n2) (s2 _ _ e1)
      · rw [upd_same, List.replicate_succ', List.map_append]
        rfl
    obtain ⟨s1, d1⟩ := hP
    refine r_all (SqL.of d1) ?_
    rw [show (List.replicate m true).all id = true by simp]
    exact q _
end
end K62
open PySem PySem.W PyProof.Rows
set_option maxHeartbeats 0 in
theorem PySem.Challenge.cw_restworld_k62_whole_entries_and_common_v_holds : PySem.Challenge.rw_restworld_k62_whole_entries_and_common_v.Holds := by
  w_on; o_law; k_head; (case hw => w_witness2)
  k_fill
  refine Vf.walk_g (l := PySem.Challenge.rw_restworld_k62_whole_entries_and_common_v) (n := 63) (k := 13) (y := "_law_script") (st := K62.s_law) (sp := K62.sp_law) rfl (by decide) rfl ⟨rfl, by decide, by decide⟩ (fun w h Y => PySem.W.kIn_of Y) ?F (fun w f fd G => K62.bd_law G) (fun w H a ns hl hb hS => ⟨a, ns, rfl, hS, ⟨hl, hb⟩, fun _ => rfl⟩)
  case F =>
    intro w mg h KX G base kb gb
    refine' K62.ok_law (K62.top_mk KX G ?a0 ?l0 ?c0 ?k0 ?a1 ?l1 ?c1 ?k1 ?a2 ?l2 ?c2 ?k2 ?a3 ?l3 ?c3 ?k3 ?a4 ?l4 ?c4 ?k4 ?a5 ?l5 ?c5 ?k5 ?a6 ?l6 ?c6 ?k6 ?a7 ?l7 ?c7 ?k7 ?a8 ?l8 ?c8 ?k8 ?a9 ?l9 ?c9 ?k9 ?a10 ?l10 ?c10 ?k10 ?a11 ?l11 ?c11 ?k11 ?a12 ?l12 ?c12 ?k12 ?a13 ?l13 ?c13 ?k13 ?a14 ?l14 ?c14 ?k14 ?a15 ?l15 ?c15 ?k15 ?a16 ?l16 ?c16 ?k16 ?a17 ?l17 ?c17 ?k17 ?a18 ?l18 ?c18 ?k18 ?a19 ?l19 ?c19 ?k19 ?a20 ?l20 ?c20 ?k20 ?a21 ?l21 ?c21 ?k21 ?a22 ?l22 ?c22 ?k22 ?a23 ?l23 ?c23 ?k23 ?a24 ?l24 ?c24 ?k24 ?a25 ?l25 ?c25 ?k25 ?a26 ?l26 ?c26 ?k26 ?a27 ?l27 ?c27 ?k27 ?a28 ?l28 ?c28 ?k28 ?a29 ?l29 ?c29 ?k29 ?a30 ?l30 ?c30 ?k30 ?a31 ?l31 ?c31 ?k31 ?a32 ?l32 ?c32 ?k32 ?a33 ?l33 ?c33 ?k33 ?a34 ?l34 ?c34 ?k34 ?a35 ?l35 ?c35 ?k35 ?a36 ?l36 ?c36 ?k36 ?a37 ?l37 ?c37 ?k37 ?a38 ?l38 ?c38 ?k38 ?a39 ?l39 ?c39 ?k39 ?a40 ?l40 ?c40 ?k40 ?a41 ?l41 ?c41 ?k41 ?m_gcd ?m_lcm ?q_MOST_NUMBER ?q_MOST_FACT ?q_MOST_BASE ?q_MOST_OF_RUN ?g_STAY ?l_STAY ?q_MOST_SHOWN_INDEX ?q_MOST_RUN_PRIME ?b_abs ?b_all ?b_bool ?b_divmod ?b_int ?b_isinstance ?b_len ?b_max ?b_min ?b_range ?b_tuple)
    (case a0 => k_is)
    (case l0 => k_is)
    (case c0 => k_is)
    (case k0 => k_is)
    (case a1 => k_is)
    (case l1 => k_is)
    (case c1 => k_is)
    (case k1 => k_is)
    (case a2 => k_is)
    (case l2 => k_is)
    (case c2 => k_is)
    (case k2 => k_is)
    (case a3 => k_is)
    (case l3 => k_is)
    (case c3 => k_is)
    (case k3 => k_is)
    (case a4 => k_is)
    (case l4 => k_is)
    (case c4 => k_is)
    (case k4 => k_is)
    (case a5 => k_is)
    (case l5 => k_is)
    (case c5 => k_is)
    (case k5 => k_is)
    (case a6 => k_is)
    (case l6 => k_is)
    (case c6 => k_is)
    (case k6 => k_is)
    (case a7 => k_is)
    (case l7 => k_is)
    (case c7 => k_is)
    (case k7 => k_is)
    (case a8 => k_is)
    (case l8 => k_is)
    (case c8 => k_is)
    (case k8 => k_is)
    (case a9 => k_is)
    (case l9 => k_is)
    (case c9 => k_is)
    (case k9 => k_is)
    (case a10 => k_is)
    (case l10 => k_is)
    (case c10 => k_is)
    (case k10 => k_is)
    (case a11 => k_is)
    (case l11 => k_is)
    (case c11 => k_is)
    (case k11 => k_is)
    (case a12 => k_is)
    (case l12 => k_is)
    (case c12 => k_is)
    (case k12 => k_is)
    (case a13 => k_is)
    (case l13 => k_is)
    (case c13 => k_is)
    (case k13 => k_is)
    (case a14 => k_is)
    (case l14 => k_is)
    (case c14 => k_is)
    (case k14 => k_is)
    (case a15 => k_is)
    (case l15 => k_is)
    (case c15 => k_is)
    (case k15 => k_is)
    (case a16 => k_is)
    (case l16 => k_is)
    (case c16 => k_is)
    (case k16 => k_is)
    (case a17 => k_is)
    (case l17 => k_is)
    (case c17 => k_is)
    (case k17 => k_is)
    (case a18 => k_is)
    (case l18 => k_is)
    (case c18 => k_is)
    (case k18 => k_is)
    (case a19 => k_is)
    (case l19 => k_is)
    (case c19 => k_is)
    (case k19 => k_is)
    (case a20 => k_is)
    (case l20 => k_is)
    (case c20 => k_is)
    (case k20 => k_is)
    (case a21 => k_is)
    (case l21 => k_is)
    (case c21 => k_is)
    (case k21 => k_is)
    (case a22 => k_is)
    (case l22 => k_is)
    (case c22 => k_is)
    (case k22 => k_is)
    (case a23 => k_is)
    (case l23 => k_is)
    (case c23 => k_is)
    (case k23 => k_is)
    (case a24 => k_is)
    (case l24 => k_is)
    (case c24 => k_is)
    (case k24 => k_is)
    (case a25 => k_is)
    (case l25 => k_is)
    (case c25 => k_is)
    (case k25 => k_is)
    (case a26 => k_is)
    (case l26 => k_is)
    (case c26 => k_is)
    (case k26 => k_is)
    (case a27 => k_is)
    (case l27 => k_is)
    (case c27 => k_is)
    (case k27 => k_is)
    (case a28 => k_is)
    (case l28 => k_is)
    (case c28 => k_is)
    (case k28 => k_is)
    (case a29 => k_is)
    (case l29 => k_is)
    (case c29 => k_is)
    (case k29 => k_is)
    (case a30 => k_is)
    (case l30 => k_is)
    (case c30 => k_is)
    (case k30 => k_is)
    (case a31 => k_is)
    (case l31 => k_is)
    (case c31 => k_is)
    (case k31 => k_is)
    (case a32 => k_is)
    (case l32 => k_is)
    (case c32 => k_is)
    (case k32 => k_is)
    (case a33 => k_is)
    (case l33 => k_is)
    (case c33 => k_is)
    (case k33 => k_is)
    (case a34 => k_is)
    (case l34 => k_is)
    (case c34 => k_is)
    (case k34 => k_is)
    (case a35 => k_is)
    (case l35 => k_is)
    (case c35 => k_is)
    (case k35 => k_is)
    (case a36 => k_is)
    (case l36 => k_is)
    (case c36 => k_is)
    (case k36 => k_is)
    (case a37 => k_is)
    (case l37 => k_is)
    (case c37 => k_is)
    (case k37 => k_is)
    (case a38 => k_is)
    (case l38 => k_is)
    (case c38 => k_is)
    (case k38 => k_is)
    (case a39 => k_is)
    (case l39 => k_is)
    (case c39 => k_is)
    (case k39 => k_is)
    (case a40 => k_is)
    (case l40 => k_is)
    (case c40 => k_is)
    (case k40 => k_is)
    (case a41 => k_is)
    (case l41 => k_is)
    (case c41 => k_is)
    (case k41 => k_is)
    (case m_gcd => k_is)
    (case m_lcm => k_is)
    (case q_MOST_NUMBER => k_is)
    (case q_MOST_FACT => k_is)
    (case q_MOST_BASE => k_is)
    (case q_MOST_OF_RUN => k_is)
    (case g_STAY => k_is)
    (case l_STAY => k_is)
    (case q_MOST_SHOWN_INDEX => k_is)
    (case q_MOST_RUN_PRIME => k_is)
    (case b_abs => k_is)
    (case b_all => k_is)
    (case b_bool => k_is)
    (case b_divmod => k_is)
    (case b_int => k_is)
    (case b_isinstance => k_is)
    (case b_len => k_is)
    (case b_max => k_is)
    (case b_min => k_is)
    (case b_range => k_is)
    (case b_tuple => k_is)

