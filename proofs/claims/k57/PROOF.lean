import PyProof.Rows.All
import Wide.All
import OpenK.AllK
import Wide.FinOn
import HandS.ForMost
import HandS.WideBits
import HandS.WideMore
import HandS.Gcd
import HandS.IsInst
import HandS.EndBits
import HandS.WordsExc
import HandS.Style
import PyProof.ReprRoads
import HandS.Zip
import HandS.Zip0
import PyProof.EnumMake
import PyProof.Draws
import PyProof.AutoIntOps
import HandS.Conv
import KE.GoesZip
import KE.GoesMore
import HandS.ExcInit
import HandS.ExcField
import HandS.TryMany
import KE.KExcInit
import KE.KIntText
import HandS.Lambda
import HandS.EndTab
import KE.KNest
import HandS.ExcOwn
import PyProof.AttrMiss
import HandS.SortRule
import HandS.SortInts
import PyProof.P3Eq
import HandS.SortKw
import PyProof.WalkInts
import HandS.Rev
import HandS.TupAny
import HandS.TupMul
import HandS.Strs
import HandS.Dict
import HandS.DictTup
import HandS.TryOnly
import HandS.More
import PyProof.TupleOfGen
import PySem.Challenge.RW_restworld_k57_whole_roots_beside_facts
set_option Elab.async false
set_option linter.all false
set_option maxRecDepth 100000
set_option maxHeartbeats 2000000
set_option exponentiation.threshold 256
namespace Vf
open PySem PySem.Spec PyProof.Rows L2

/-! ## a def of the text, known by its name, with its promise; entered only where no repr is under way -/
structure Ok (P : Program) (w : World) (K : PySem.W.Frag) (mg : Str → Option Value) (base : Heap) (k : Nat) (x : Str) (st : Stmt) (ps : List Str) (sp : Sp) : Prop where
  mk ::
  ex : ∃ f fd, L2.Fun K x x st f fd ∧ mg x = some (.ref f) ∧
    (∀ (A : Around) (outer : List Env) (s : Shared) (H : Hp) (args : Args) (us : List Value) (vs : List V) (Q : VK) (E : XK),
      A.guards = some [] → Room k A → Env0 P w K mg base A outer s H → BindsTo s fd args (ps.zip us) → Vals vs us → sp vs H Q E →
        codeAny (model P w) A (.call (.ref f) args) (CR (CX P w) outer P w H s Q E) s)
  len : ∀ vs H Q E, sp vs H Q E → vs.length = ps.length

/-- where a def of the text stands -/
def At (K : PySem.W.Frag) (mg : Str → Option Value) (x : Str) (st : Stmt) : Prop :=
  ∃ f fd, L2.Fun K x x st f fd ∧ mg x = some (.ref f)

section
variable {P : Program} {w : World} {K : PySem.W.Frag} {mg : Str → Option Value} {base : Heap} {k j : Nat} {x : Str} {st : Stmt} {ps N : List Str} {sp sp' : Sp}
theorem Ok.mono (G : Ok P w K mg base j x st ps sp) (h : j ≤ k) : Ok P w K mg base k x st ps sp := by
  obtain ⟨⟨f, fd, F, g, r⟩, l⟩ := G
  exact ⟨⟨f, fd, F, g, fun A outer s H args us vs Q E hg hr => r A outer s H args us vs Q E hg (hr.mono h)⟩, l⟩
theorem Ok.imp (G : Ok P w K mg base k x st ps sp) (h : ∀ vs H Q E, sp' vs H Q E → sp vs H Q E) : Ok P w K mg base k x st ps sp' := by
  obtain ⟨⟨f, fd, F, g, r⟩, l⟩ := G
  exact ⟨⟨f, fd, F, g, fun A outer s H args us vs Q E hg hr he hb hv hs => r A outer s H args us vs Q E hg hr he hb hv (h _ _ _ _ hs)⟩, fun vs H Q E q => l vs H Q E (h _ _ _ _ q)⟩

/-- the rule for a def: the term of its body, then its reading -/
theorem At.ok (a : At K mg x st) (S : FnScope N ps (defScope st)) (len : ∀ vs H Q E, sp vs H Q E → vs.length = ps.length)
    (hbody : ∀ (f : Addr) (cdv : Value) (A : Around) (outer : List Env) (s : Shared) (H : Hp) (vs : List V) (Q : VK) (E : XK),
      (A.deeper (envOfC x (defScope st) s.heap.objs.size f cdv)).guards = some [] →
      Room k (A.deeper (envOfC x (defScope st) s.heap.objs.size f cdv)) → sp vs H Q E →
      ∃ t, PSs (cxOf (CX P w) P w K mg base N x (defScope st) f cdv A outer s H E) (defBody st) t ∧
        t { nx := fun _ H' => Q .non H', rt := Q } (L2.start N vs) H) : Ok P w K mg base (k + 1) x st ps sp := by
  obtain ⟨f, fd, F, g⟩ := a
  have F2 := F
  obtain ⟨⟨oc, od, kV, doc, pm, an, cdv, ct, osl, rfl, lk, hcd⟩, kp⟩ := F
  refine ⟨⟨f, _, F2, g, fun A outer s H args us vs Q E hg hr e0 hb r hsp => ?_⟩, len⟩
  have hl := len _ _ _ _ hsp
  have stay : ∀ b o, base.get? b = some o → s.heap.get? b = some o := fun b o e => (e0.bs b o e).1
  have KX : K.In s.heap := e0.mod.kin.keeps stay
  have lim : s.heap.NoLimit := e0.mod.nolimit.keeps stay
  refine codeAny_call_function hr.depth (KX _ _ lk) rfl S.co S.gen rfl
    (PySem.W.codeRec_of KX hcd) (hb _ _ _ _ ?_)
  refine wpAny_newFunctionEnv_cells S.kind (fun ⟨n, v⟩ hy => ?_) fun env he s1 x1 => ?_
  · rcases S.par n (List.of_mem_zip hy).1 with q | q
    · exact Or.inl q
    · exact Or.inr ⟨q, PySem.W.cellsFrom_some _ _ _ (Or.inl q)⟩
  subst he
  refine ⟨lim.keeps x1.toInCall.keep, codeAny_func ?_⟩
  obtain ⟨t, ht, hq⟩ := hbody f cdv A outer s H vs Q E hg (hr.deeper _) hsp
  have I := inv_start (CX := CX P w) (E := E) S hr.hd e0 hl r x1
  refine wpAny_mono (ht.run [] s1 _ H _ I hq) (fun fl s' hs => ?_) fun e s' hs => hs
  cases fl with
  | ret u =>
    obtain ⟨v, σ', H', J, rv, q⟩ := hs
    exact ⟨v, H', J.os, J.bare, J.base, J.hok, rv, q⟩
  | next =>
    obtain ⟨σ', H', J, q⟩ := hs
    exact ⟨V.non, H', J.os, J.bare, J.base, J.hok, rfl, q⟩
  | brk =>
    obtain ⟨_, _, _, z⟩ := hs
    exact (show False from z).elim
  | cont =>
    obtain ⟨_, _, _, z⟩ := hs
    exact (show False from z).elim
end

section
variable {X : Cx} {k : Nat} {ps ks : List Str} {sp : Sp} {E : XK} {x : Str} {st : Stmt} {p pos : Pos} {e : Expr} {es : List Expr} {kws : List Keyword} {t tk : TA}
/-- the callee runs -/
theorem run_g {pins : List (Addr × Obj)} {σ : L2.St} {H : Hp} {s : Shared} {Q : VK} {us : List Value} {vs : List V} {f : Addr} {fd : FuncData} {args : Args}
    (r : ∀ (A : Around) (outer : List Env) (s : Shared) (H : Hp) (args : Args) (us : List Value) (vs : List V) (Q : VK) (E : XK),
      A.guards = some [] → Room k A → Env0 X.prog X.w X.K X.mg X.base A outer s H → BindsTo s fd args (ps.zip us) → Vals vs us → sp vs H Q E →
        codeAny (model X.prog X.w) A (.call (.ref f) args) (CR (CX X.prog X.w) outer X.prog X.w H s Q E) s)
    (hg : X.A.guards = some []) (hr : Room k X.A) (hx : Passes (CX X.prog X.w) X E)
    (I : Inv X pins σ H s) (hb : BindsTo s fd args (ps.zip us)) (hv : Vals vs us) (h : sp vs H Q E) :
    codeAny (model X.prog X.w) X.A (.call (.ref f) args)
      (fun r s' => match r with | .ok (.ret u) => EP X pins σ Q u s' | .ok _ => False | .error e => X.xe e s') s := by
  refine codeAny_mono (r X.A X.stack s H args us vs Q E hg hr I.env0 hb hv h) fun r s' hq => ?_
  cases r with
  | error e => exact hx pins σ H s e s' I hq
  | ok fl =>
    cases fl with
    | ret u => exact I.after hq
    | next => exact hq
    | brk => exact hq
    | cont => exact hq

/-- f(e, ..), every parameter given by its place -/
theorem pe_g (G : Ok X.prog X.w X.K X.mg X.base k x st ps sp) (b : ∀ f fd, L2.Fun X.K x x st f fd → L2.Binds X.K fd ps [])
    (hg : X.A.guards = some []) (hr : Room k X.A) (hx : Passes (CX X.prog X.w) X E) (gl : Gl X x) (ha : PA X (e :: es) t)
    (hdb : (x == ("__debug__" : Str)) = false := by decide)
    (he : starEach (e :: es) X.env = (false, eval e X.env) :: starEach es X.env := by rfl)
    (hpl : (backTo pos (starEach es X.env)).any (·.1) = false := by rfl) :
    PE X (.Call (.Name x p) (e :: es) [] pos) (tCall sp [] E t) := by
  obtain ⟨⟨f, fd, F, hm, r⟩, l⟩ := G
  refine ⟨fun pins s σ H Q I h => ?_⟩
  refine wpAny_Call_Name_kw (ld_glob I gl hm ?_ hdb)
  refine PySem.W.callWith_K (h₀ := X.base) I.ok.mod.kin F.kp
    (thn (ha.run pos pins s σ H _ I h) fun us s1 ⟨vs, H1, I1, r1, q⟩ => ⟨I1.kIn, ?_⟩) he hpl
  have q1 : sp (vs ++ []) H1 Q E := q
  rw [List.append_nil] at q1
  have hl : us.length = ps.length := by rw [← r1.length]; exact l _ _ _ _ q1
  have bb := b f fd F s1 us I1.kIn (by rw [List.append_nil]; exact hl)
  rw [List.append_nil] at bb
  refine wpAny_call (codeAny_mono (run_g r hg hr hx I1 bb r1 q1) fun z s' hz => ?_)
  cases z with
  | error e => exact hz
  | ok fl => cases fl <;> exact hz
/-- f(.., k = v) -/
theorem pe_gk {gf : List Value → List Value → List Value} {gV : List V → List V → List V} (G : Ok X.prog X.w X.K X.mg X.base k x st ps sp)
    (b : ∀ f fd, L2.Fun X.K x x st f fd → KBinds X.K fd ps ks gf gV)
    (hg : X.A.guards = some []) (hr : Room k X.A) (hx : Passes (CX X.prog X.w) X E) (gl : Gl X x) (ha : PA X (e :: es) t) (hkw : PK X kws tk)
    (hall : (backToKw pos (keywordEach kws X.env)).all (·.1.isSome) = true := by rfl)
    (hks : (backToKw pos (keywordEach kws X.env)).filterMap (·.1) = ks := by rfl) (hdb : (x == ("__debug__" : Str)) = false := by decide)
    (he : starEach (e :: es) X.env = (false, eval e X.env) :: starEach es X.env := by rfl)
    (hpl : ((backTo pos (starEach (e :: es) X.env)).any (·.1) || (backToKw pos (keywordEach kws X.env)).any (·.1.isNone)) = false := by rfl) :
    PE X (.Call (.Name x p) (e :: es) kws pos) (tCallK sp gV E t tk) := by
  obtain ⟨⟨f, fd, F, hm, r⟩, l⟩ := G
  refine ⟨fun pins s σ H Q I h => ?_⟩
  refine wpAny_Call_Name_kw (ld_glob I gl hm ?_ hdb)
  refine PySem.W.callWith_KW (h₀ := X.base) I.ok.mod.kin F.kp hall
    (thn (ha.run pos pins s σ H _ I h) fun us s1 ⟨vs, H1, I1, r1, q⟩ => ?_) hpl he
  refine thn (hkw.run pos pins s1 σ H1 _ I1 q) fun ws s2 ⟨zs, H2, I2, rz, q2⟩ => ⟨I2.kIn, ?_⟩
  rw [hks]
  have B := b f fd F
  have r2 := B.rel r1 rz
  have hl : (gf us ws).length = ps.length := by rw [← r2.length]; exact l _ _ _ _ q2
  refine wpAny_call (codeAny_mono (run_g r hg hr hx I2 (B.to s2 us ws I2.kIn hl) r2 q2) fun z s' hz => ?_)
  cases z with
  | error e => exact hz
  | ok fl => cases fl <;> exact hz
/-- f(k = v, ..): keywords alone -/
theorem pe_gk0 {gf : List Value → List Value → List Value} {gV : List V → List V → List V} (G : Ok X.prog X.w X.K X.mg X.base k x st ps sp)
    (b : ∀ f fd, L2.Fun X.K x x st f fd → KBinds X.K fd ps ks gf gV)
    (hg : X.A.guards = some []) (hr : Room k X.A) (hx : Passes (CX X.prog X.w) X E) (gl : Gl X x) (hkw : PK X kws tk)
    (hall : (backToKw pos (keywordEach kws X.env)).all (·.1.isSome) = true := by rfl)
    (hks : (backToKw pos (keywordEach kws X.env)).filterMap (·.1) = ks := by rfl) (hdb : (x == ("__debug__" : Str)) = false := by decide)
    (hpl : ((backTo pos (starEach [] X.env)).any (·.1) || (backToKw pos (keywordEach kws X.env)).any (·.1.isNone)) = false := by rfl) :
    PE X (.Call (.Name x p) [] kws pos) (tCallK sp gV E tNil tk) := by
  obtain ⟨⟨f, fd, F, hm, r⟩, l⟩ := G
  refine ⟨fun pins s σ H Q I h => ?_⟩
  refine wpAny_Call_Name_kw (ld_glob I gl hm ?_ hdb)
  refine PySem.W.callWith_KW0 (h₀ := X.base) I.ok.mod.kin F.kp hall
    (thn (hkw.run pos pins s σ H _ I h) fun ws s2 ⟨zs, H2, I2, rz, q2⟩ => ⟨I2.kIn, ?_⟩) hpl
  rw [hks]
  have B := b f fd F
  have r2 := B.rel .nil rz
  have hl : (gf [] ws).length = ps.length := by rw [← r2.length]; exact l _ _ _ _ q2
  refine wpAny_call (codeAny_mono (run_g r hg hr hx I2 (B.to s2 [] ws I2.kIn hl) r2 q2) fun z s' hz => ?_)
  cases z with
  | error e => exact hz
  | ok fl => cases fl <;> exact hz
/-- f() -/
theorem pe_g0 (G : Ok X.prog X.w X.K X.mg X.base k x st ps sp) (b : ∀ f fd, L2.Fun X.K x x st f fd → L2.Binds X.K fd ps [])
    (hg : X.A.guards = some []) (hr : Room k X.A) (hx : Passes (CX X.prog X.w) X E) (gl : Gl X x)
    (hdb : (x == ("__debug__" : Str)) = false := by decide) : PE X (.Call (.Name x p) [] [] pos) (tCall sp [] E tNil) := by
  obtain ⟨⟨f, fd, F, hm, r⟩, l⟩ := G
  refine ⟨fun pins s σ H Q I h => ?_⟩
  refine wpAny_Call_Name_kw (ld_glob I gl hm ?_ hdb)
  have q1 : sp [] H Q E := h
  have bb := b f fd F s [] I.kIn (by rw [List.append_nil]; have := l _ _ _ _ q1; exact this)
  rw [List.append_nil] at bb
  refine PySem.W.callWith_K0 I.kIn F.kp (wpAny_call (codeAny_mono (run_g r hg hr hx I bb .nil q1) fun z s' hz => ?_))
  cases z with
  | error e => exact hz
  | ok fl => cases fl <;> exact hz
end
end Vf

namespace Vf
open PySem PySem.Spec PyProof.Rows L2
/-! ## more rules -/
theorem Dp.noDict {K : PySem.W.Frag} {H : Hp} : ∀ (d : PyData) (v : V), Dp K H v d → d.hasDict = false
  | .none, _, _ => rfl
  | .bool _, _, _ => rfl
  | .int _, _, _ => rfl
  | .str _, _, _ => rfl
  | .list ds, _, h => by
    cases h with
    | lst _ ha => exact DpAllN ds _ ha
  | .tuple ds, _, h => by
    cases h with
    | tup _ ha => exact DpAllN ds _ ha
  | .dict _, _, h => by cases h
where
  DpAllN {K : PySem.W.Frag} {H : Hp} : ∀ (ds : List PyData) (vs : List V), DpAll K H vs ds → PyData.hasDictAll ds = false
  | [], _, _ => rfl
  | d :: ds, _, h => by
    cases h with
    | cons h1 h2 =>
      have e1 := Dp.noDict d _ h1
      have e2 := DpAllN ds _ h2
      simp only [PyData.hasDictAll, e1, e2, Bool.or_self]
section
variable {X : Cx}
/-- repr of a list or a tuple of data -/
def rRepr (K : PySem.W.Frag) : List V → Hp → VK → Prop := fun xs H Q => ∃ (a : Addr) (d : PyData), xs = [.ref a] ∧ Dp K H (.ref a) d ∧ d.showable = true ∧
  d.depth ≤ 40 ∧ d.shown.length ≤ sizeLine ∧ Q (.str d.shown) H
theorem cr_repr (hg : X.A.guards = some []) (hu : X.A.units + 64 < cLine) : CallR X (.builtin "repr") (rRepr X.K) := by
  intro pins s σ H xs us Q I r h
  obtain ⟨a, d, rfl, hd, hs, hdp, hz, q⟩ := h
  have e := Vals.ref1 r
  subst e
  obtain ⟨as, rd⟩ := Dp.reads I d _ (.ref a) hd rfl
  refine repr_of_reads' rd hs (fun z => ?_) hg (by omega) (fun _ _ z => z) (fun h' u tk k => ⟨.str d.shown, H, I.kept k, ⟨_, rfl⟩, q⟩) hz
  rw [Dp.noDict d _ hd] at z
  cases z
/-- math.lcm of two ints -/
def rLcm : List V → Hp → VK → Prop := fun vs H Q => ∃ a b : Int, vs = [.int a, .int b] ∧ a.natAbs < 2 ^ 9000 ∧ b.natAbs < 2 ^ 9000 ∧ Q (.int ((Nat.lcm a.natAbs b.natAbs : Nat) : Int)) H
theorem log_lim {n k : Nat} (h : n < 2 ^ k) (hk : 0 < k) : n.log2 < k := PySem.Flt.log2_lt_of hk h
theorem cr_lcm : CallR X (.builtin "math.lcm") rLcm := by
  intro pins s σ H vs us Q I r h
  obtain ⟨a, b, rfl, ha, hb, q⟩ := h
  obtain ⟨t, u, rfl⟩ := Vals.int2 r
  have h1 : (max 1 a.natAbs).log2 < 9000 := log_lim (Nat.max_lt.mpr ⟨Nat.one_lt_two_pow (by decide), ha⟩) (by decide)
  have h2 : (max a.natAbs b.natAbs).log2 < 9000 := log_lim (Nat.max_lt.mpr ⟨ha, hb⟩) (by decide)
  have e1 : Nat.lcm 1 a.natAbs = a.natAbs := Nat.lcm_one_left _
  have hz : (((Nat.lcm 1 a.natAbs).lcm b.natAbs : Nat) : Int).natAbs.log2 < bitsLine := by
    rw [e1, Int.natAbs_natCast]
    have hl : Nat.lcm a.natAbs b.natAbs ≤ a.natAbs * b.natAbs := by
      rcases Nat.eq_zero_or_pos (a.natAbs * b.natAbs) with z | z
      · have : Nat.lcm a.natAbs b.natAbs = 0 := by unfold Nat.lcm; rw [z]; exact Nat.zero_div _
        omega
      · exact Nat.le_of_dvd z (Nat.lcm_dvd (Nat.dvd_mul_right _ _) (Nat.dvd_mul_left _ _))
    have hm : a.natAbs * b.natAbs < 2 ^ 18000 := by
      have := Nat.mul_lt_mul'' ha hb
      rw [← Nat.pow_add] at this
      exact this
    have : Nat.log2 (Nat.lcm a.natAbs b.natAbs) < 18000 := log_lim (Nat.lt_of_le_of_lt hl hm) (by decide)
    have e : bitsLine = 134217728 := by decide
    omega
  have g := PySem.W.mg_run_lcm a t b u (by omega) (by omega) hz
  rw [e1] at g
  exact call_function_meets PySem.W.MGF.kind_lcm PySem.W.MGF.plain_lcm PySem.W.MGF.entry_lcm (PySem.W.MGF.args_lcm _ _) g.meets ⟨.int _, H, I.tok _, ⟨_, rfl⟩, q⟩

/-- // by any divisor of fewer than 9000 bits -/
def CDivG (_ j : Int) : Prop := j ≠ 0 ∧ j.natAbs < 2 ^ 9000
theorem op_fdivG : OpR X (binaryOp .FloorDiv) (rI CDivG fun i j => .int (i.fdiv j)) :=
  opI fun i j _ _ _ _ _ hc q => floordiv_int hc.1 q (.inl (PyProof.noPylong_of_log2 (log_lim hc.2 (by decide))))
/-- == and != of two ints -/
theorem op_eqZ : OpR X (compareOp .Eq) (rI0 fun i j => .bl (decide (i = j))) := by
  intro pins s σ H x y u v Q I rx ry h
  obtain ⟨i, j, rfl, rfl, q⟩ := h
  refine op_eq pins s σ H _ _ u v Q I rx ry ⟨rfl, ?_⟩
  have e : decide (V.int i = V.int j) = decide (i = j) := by
    by_cases z : i = j
    · subst z; simp
    · simp [z]
  rw [e]
  exact q
theorem op_neZ : OpR X (compareOp .NotEq) (rI0 fun i j => .bl (!decide (i = j))) := by
  intro pins s σ H x y u v Q I rx ry h
  obtain ⟨i, j, rfl, rfl, q⟩ := h
  refine op_ne pins s σ H _ _ u v Q I rx ry ⟨rfl, ?_⟩
  have e : decide (V.int i = V.int j) = decide (i = j) := by
    by_cases z : i = j
    · subst z; simp
    · simp [z]
  rw [e]
  exact q
/-- == and != of two texts -/
theorem op_eqS : OpR X (compareOp .Eq) (fun x y H Q => ∃ i j, x = .str i ∧ y = .str j ∧ Q (.bl (decide (i = j))) H) := by
  intro pins s σ H x y u v Q I rx ry h
  obtain ⟨i, j, rfl, rfl, q⟩ := h
  refine op_eq pins s σ H _ _ u v Q I rx ry ⟨rfl, ?_⟩
  have e : decide (V.str i = V.str j) = decide (i = j) := by
    by_cases z : i = j
    · subst z; simp
    · simp [z]
  rw [e]
  exact q
theorem op_neS : OpR X (compareOp .NotEq) (fun x y H Q => ∃ i j, x = .str i ∧ y = .str j ∧ Q (.bl (!decide (i = j))) H) := by
  intro pins s σ H x y u v Q I rx ry h
  obtain ⟨i, j, rfl, rfl, q⟩ := h
  refine op_ne pins s σ H _ _ u v Q I rx ry ⟨rfl, ?_⟩
  have e : decide (V.str i = V.str j) = decide (i = j) := by
    by_cases z : i = j
    · subst z; simp
    · simp [z]
  rw [e]
  exact q
/-- a module's int -/
theorem pe_gi {x : Str} {i : Int} {pos : Pos} (hm : ∃ t, X.mg x = some (.int i t)) (hg : Gl X x) (hd : (x == ("__debug__" : Str)) = false := by decide) : PE X (.Name x pos) (tC (.int i)) := by
  obtain ⟨t, hm⟩ := hm
  exact pe_glob hg hm ⟨t, rfl⟩ hd
end
/-! ## the rules by the written part K alone, each with a name for its reading -/
def rLenQ (K : PySem.W.Frag) : List V → Hp → VK → Prop := fun xs H Q => ∃ p ys, xs = [.ref p] ∧ (SqL K H p ys ∨ SqT K H p ys) ∧ Q (.int ys.length) H
def rLenStr : List V → Hp → VK → Prop := fun xs H Q => ∃ z, xs = [.str z] ∧ z.length ≤ sizeLine ∧ Q (.int z.length) H
def rListQ (K : PySem.W.Frag) : List V → Hp → VK → Prop := fun xs H Q => ∃ p ys, xs = [.ref p] ∧ (SqL K H p ys ∨ SqT K H p ys) ∧ ∀ l, H l = none → Q (.ref l) (upd H l (.lst ys))
def rTupQ (K : PySem.W.Frag) : List V → Hp → VK → Prop := fun xs H Q => ∃ p ys, xs = [.ref p] ∧ ((SqL K H p ys ∧ ∀ l, H l = none → Q (.ref l) (upd H l (.tup ys))) ∨ (SqT K H p ys ∧ Q (.ref p) H))
def rAbs : List V → Hp → VK → Prop := fun xs H Q => ∃ i, xs = [.int i] ∧ Q (.int (if i < 0 then -i else i)) H
def rMax2 : List V → Hp → VK → Prop := fun xs H Q => ∃ i j, xs = [.int i, .int j] ∧ Q (.int (if j > i then j else i)) H
def rMin2 : List V → Hp → VK → Prop := fun xs H Q => ∃ i j, xs = [.int i, .int j] ∧ Q (.int (if j < i then j else i)) H
def rInt1 : List V → Hp → VK → Prop := fun xs H Q => (∃ i, xs = [.int i] ∧ Q (.int i) H) ∨ ∃ k, xs = [.bl k] ∧ Q (.int (if k then 1 else 0)) H
def rDivmod : List V → Hp → VK → Prop := fun xs H Q => ∃ i j, xs = [.int i, .int j] ∧ CDivP i j ∧ ∀ p, H p = none → Q (.ref p) (upd H p (.tup [.int (i / j), .int (i % j)]))
section
variable {X : Cx} {K : PySem.W.Frag}
theorem c_len (e : X.K = K) : CallR X (.builtin "len") (rLenQ K) := by subst e; exact call_len_seq
theorem c_lenS : CallR X (.builtin "len") rLenStr := call_len_str
theorem c_list (e : X.K = K) : CallR X (.type "list") (rListQ K) := by subst e; exact call_list_of
theorem c_tuple (e : X.K = K) : CallR X (.type "tuple") (rTupQ K) := by subst e; exact call_tuple_of
theorem c_abs : CallR X (.builtin "abs") rAbs := call_abs
theorem c_max2 (h : X.calm = true) : CallR X (.builtin "max") rMax2 := call_max2 h
theorem c_min2 (h : X.calm = true) : CallR X (.builtin "min") rMin2 := call_min2 h
theorem c_int : CallR X (.type "int") rInt1 := call_int1
theorem c_divmod : CallR X (.builtin "divmod") rDivmod := call_divmodW
theorem c_isi (e : X.K = K) : CallR X (.builtin "isinstance") (rIsi K) := by subst e; exact call_isi
theorem c_repr (e : X.K = K) (hg : X.A.guards = some []) (hu : X.A.units + 64 < cLine) : CallR X (.builtin "repr") (rRepr K) := by subst e; exact cr_repr hg hu
theorem c_all (e : X.K = K) (h : X.calm = true) : CallR X (.builtin "all") (rAll K) := by subst e; exact cr_all h
theorem c_any (e : X.K = K) (h : X.calm = true) : CallR X (.builtin "any") (rAny K) := by subst e; exact cr_any h
theorem c_sum (e : X.K = K) (h : X.calm = true) : CallR X (.builtin "sum") (rSum K) := by subst e; exact cr_sum h
theorem c_maxL (e : X.K = K) (h : X.calm = true) : CallR X (.builtin "max") (rMax K) := by subst e; exact cr_max h
theorem c_minL (e : X.K = K) (h : X.calm = true) : CallR X (.builtin "min") (rMin K) := by subst e; exact cr_min h
theorem x_list (e : X.K = K) : IxR X (rIxL K) := by subst e; exact ix_list
theorem x_tup (e : X.K = K) : IxR X (rIxT K) := by subst e; exact ix_tup
theorem o_eqD (e : X.K = K) (hu : X.A.units + 64 < cLine) : OpR X (compareOp .Eq) (rEqD K) := by subst e; exact op_eqD hu
theorem o_neD (e : X.K = K) (hu : X.A.units + 64 < cLine) : OpR X (compareOp .NotEq) (rNeD K) := by subst e; exact op_neD hu
theorem o_in (e : X.K = K) : OpR X (compareOp .In) (rIn K false) := by subst e; exact op_in_seq
theorem o_notIn (e : X.K = K) : OpR X (compareOp .NotIn) (rIn K true) := by subst e; exact op_notIn_seq
theorem o_catT (e : X.K = K) : OpR X (binaryOp .Add) (rCatT K) := by subst e; exact op_catT
theorem s_list (e : X.K = K) : SlR X (rSlL K) := by subst e; exact sl_list
theorem s_tup (e : X.K = K) : SlR X (rSlT K) := by subst e; exact sl_tup
theorem i_list {tg l : Expr} {tl : TE} (e : X.K = K) (hl : PE X l tl) : PI X tg l (iList K tl) := by subst e; exact pi_list hl
theorem i_tup' {tg l : Expr} {tl : TE} (e : X.K = K) (hl : PE X l tl) : PI X tg l (iTup K tl) := by subst e; exact pi_tup hl
theorem g_tup {es : List Expr} {k : Nat} {t : TGs} {n : Nat} {pos : Pos} (e : X.K = K) (hc : X.calm = true) (h : PGs X es t) (hn : (assignEach es X.env).length = n)
    (hst : (assignEach es X.env).findIdx? (·.1) = none) : PG X (.Tuple es k pos) (gTup K n t) := by
  subst e
  exact pg_tup hc h hn hst
end
end Vf

namespace Vf
open PySem PySem.Spec PyProof.Rows L2
/-! ## heaps -/
/-- all but what stands at k is as it was -/
def Kx (k : Addr) (H H' : Hp) : Prop := ∀ b o, b ≠ k → H b = some o → H' b = some o
theorem Kx.refl {k : Addr} (H : Hp) : Kx k H H := fun _ _ _ h => h
theorem Kx.trans {k : Addr} {H H1 H2 : Hp} (a : Kx k H H1) (b : Kx k H1 H2) : Kx k H H2 := fun c o n h => b c o n (a c o n h)
theorem Kx.same {k : Addr} {H H1 H2 : Hp} (a : Kx k H H1) (b : Same H1 H2) : Kx k H H2 := fun c o n h => b c o (a c o n h)
theorem Same.kx {k : Addr} {H H1 H2 : Hp} (a : Same H H1) (b : Kx k H1 H2) : Kx k H H2 := fun c o n h => b c o n (a c o h)
theorem Same.toKx {k : Addr} {H H1 : Hp} (a : Same H H1) : Kx k H H1 := fun c o _ h => a c o h
theorem Same.new {H : Hp} {p : Addr} {o : HO} (h : H p = none) : Same H (upd H p o) := fun a u e => by
  rw [upd_ne (ne_of_none e h)]
  exact e
theorem Kx.upd {H : Hp} {k : Addr} {o : HO} : Kx k H (upd H k o) := fun a u n e => by
  rw [upd_ne n]
  exact e
theorem at_new {H : Hp} {a p : Addr} {o u : HO} (h : H p = none) (e : H a = some u) : upd H p o a = some u := Same.new h a u e
theorem at_ne {H : Hp} {a p : Addr} {o u : HO} (h : a ≠ p) (e : H a = some u) : upd H p o a = some u := by rw [upd_ne h]; exact e
theorem at_same {H H' : Hp} {a : Addr} {u : HO} (h : Same H H') (e : H a = some u) : H' a = some u := h a u e
theorem at_kx {k : Addr} {H H' : Hp} {a : Addr} {u : HO} (h : Kx k H H') (n : a ≠ k) (e : H a = some u) : H' a = some u := h a u n e
theorem Kx.list {K : PySem.W.Frag} {k : Addr} {H H' : Hp} {a : Addr} {xs : List V} (e : Kx k H H') (n : a ≠ k) (h : SqL K H a xs) : SqL K H' a xs := by
  rcases h with (h | ⟨o, h⟩) | h
  · exact Or.inl (Or.inl (e _ _ n h))
  · exact Or.inl (Or.inr ⟨o, e _ _ n h⟩)
  · exact Or.inr h
theorem Kx.tup {K : PySem.W.Frag} {k : Addr} {H H' : Hp} {a : Addr} {xs : List V} (e : Kx k H H') (n : a ≠ k) (h : SqT K H a xs) : SqT K H' a xs := by
  rcases h with (h | ⟨o, h⟩) | h
  · exact Or.inl (Or.inl (e _ _ n h))
  · exact Or.inl (Or.inr ⟨o, e _ _ n h⟩)
  · exact Or.inr h
theorem Same.list {K : PySem.W.Frag} {H H' : Hp} {a : Addr} {xs : List V} (e : Same H H') (h : SqL K H a xs) : SqL K H' a xs := e.seq h
theorem Same.tup {K : PySem.W.Frag} {H H' : Hp} {a : Addr} {xs : List V} (e : Same H H') (h : SqT K H a xs) : SqT K H' a xs := by
  rcases h with (h | ⟨o, h⟩) | h
  · exact Or.inl (Or.inl (e _ _ h))
  · exact Or.inl (Or.inr ⟨o, e _ _ h⟩)
  · exact Or.inr h
theorem new_list {K : PySem.W.Frag} {H : Hp} {a p : Addr} {o : HO} {xs : List V} (h : H p = none) (e : SqL K H a xs) : SqL K (upd H p o) a xs := (Same.new h).seq e
theorem new_tup {K : PySem.W.Frag} {H : Hp} {a p : Addr} {o : HO} {xs : List V} (h : H p = none) (e : SqT K H a xs) : SqT K (upd H p o) a xs := Same.tup (Same.new h) e
theorem ne_list {K : PySem.W.Frag} {H : Hp} {a p : Addr} {o : HO} {xs : List V} (h : a ≠ p) (e : SqL K H a xs) : SqL K (upd H p o) a xs := Kx.list Kx.upd h e
theorem ne_tup {K : PySem.W.Frag} {H : Hp} {a p : Addr} {o : HO} {xs : List V} (h : a ≠ p) (e : SqT K H a xs) : SqT K (upd H p o) a xs := Kx.tup Kx.upd h e

theorem none_up {H : Hp} {p q : Addr} {o : HO} (h : upd H p o q = none) : H q = none := by
  by_cases e : q = p
  · subst e
    rw [upd_same] at h
    cases h
  · rw [upd_ne e] at h
    exact h
theorem none_same {H H' : Hp} {q : Addr} (e : Same H H') (h : H' q = none) : H q = none := e.free h
theorem none_kx {H H' : Hp} {k q : Addr} {o : HO} (e : Kx k H H') (hk : H' k = some o) (h : H' q = none) : H q = none := by
  cases z : H q with
  | none => rfl
  | some u =>
    have n : q ≠ k := fun c => by rw [c, hk] at h; cases h
    rw [e q u n z] at h
    cases h
/-- a new tuple, a new list, handed back -/
def NewT (xs : List V) (H : Hp) (Q : VK) : Prop := ∀ p H', Same H H' → H p = none → H' p = some (.tup xs) → Q (.ref p) H'
def NewL (xs : List V) (H : Hp) (Q : VK) : Prop := ∀ p H', Same H H' → H p = none → H' p = some (.lst xs) → Q (.ref p) H'
/-! ## readings, one step each -/
section
variable {K : PySem.W.Frag} {D : Ends} {σ : L2.St} {H : Hp} {Q : VK} {t u : TS} {te ta tb tc : TE} {tt tt2 : TT} {v x y : V} {i j : Nat} {g : TG} {gs : TGs} {tas : TA}
theorem r_seq (h : t { D with nx := u D } σ H) : tSeq t u D σ H := h
theorem r_asg (h : te σ H fun v H1 => g v σ H1 D.nx) : tAsg te g D σ H := h
theorem r_name {R : L2.St → Hp → Prop} (h : R (σ.set i (some v)) H) : gName i v σ H R := h
theorem r_gtup {R : L2.St → Hp → Prop} {a : Addr} {xs : List V} {n : Nat} (hs : SqT K H a xs) (hn : xs.length = n) (h : gs xs σ H R) : gTup K n gs (.ref a) σ H R := ⟨a, xs, rfl, hs, hn, h⟩
theorem r_gcons {R : L2.St → Hp → Prop} {r : List V} (h : g v σ H fun σ' H' => gs r σ' H' R) : gCons g gs (v :: r) σ H R := ⟨v, r, rfl, h⟩
theorem r_gnil {R : L2.St → Hp → Prop} (h : R σ H) : gNil [] σ H R := ⟨rfl, h⟩
theorem r_gsub {R : L2.St → Hp → Prop} {ts : TSet} (h : ta σ H fun o H1 => tb σ H1 fun i H2 => ts o i v H2 fun H3 => R σ H3) : gSub ta tb ts v σ H R := h
theorem r_setL {R : Hp → Prop} {p : Addr} {k : Int} {xs : List V} (hp : H p = some (.lst xs)) (hj : ixN xs.length k = some j) (h : R (upd H p (.lst (xs.set j v)))) : rSetL (.ref p) (.int k) v H R := ⟨p, xs, k, j, rfl, rfl, hp, hj, h⟩
theorem r_par (h : tas σ H fun vs H1 => ∃ v w, vs = [v, w] ∧ D.nx ((σ.set i (some v)).set j (some w)) H1) : tPar i j tas D σ H := h
theorem r_par3 {l : Nat} (h : tas σ H fun vs H1 => ∃ u v w, vs = [u, v, w] ∧ D.nx (((σ.set i (some u)).set j (some v)).set l (some w)) H1) : tPar3 i j l tas D σ H := h
theorem r_aug {ti : TIp} (e : σ[i]? = some (some x)) (h : te σ H fun y H1 => ti x y H1 fun z H2 => D.nx (σ.set i (some z)) H2) : tAug i te ti D σ H := ⟨x, e, h⟩
theorem r_ip {f : Int → Int → Int} {a b : Int} (h : Q (.int (f a b)) H) : ipI f (.int a) (.int b) H Q := ⟨a, b, rfl, rfl, h⟩
theorem r_drop (h : te σ H fun _ H1 => D.nx σ H1) : tDrop te D σ H := h
theorem r_ret (h : te σ H D.rt) : tRet te D σ H := h
theorem r_retN (h : D.rt .non H) : tRetN D σ H := h
theorem r_if (h : tt σ H fun b H1 => if b = true then t D σ H1 else u D σ H1) : tIfS tt t u D σ H := h
theorem r_next (h : D.nx σ H) : tNext D σ H := h
theorem r_break (h : D.bk σ H) : tBreak D σ H := h
theorem r_cont (h : D.ct σ H) : tCont D σ H := h
theorem r_var (e : σ[i]? = some (some v)) (h : Q v H) : tVar i σ H Q := ⟨v, e, h⟩
theorem r_yes {R : Bool → Hp → Prop} (h : R true H) : tYes σ H R := h
theorem r_c (h : Q v H) : tC v σ H Q := h
theorem r_op {r : R2} (h : ta σ H fun x H1 => tb σ H1 fun y H2 => r x y H2 Q) : tOp r ta tb σ H Q := h
theorem r_un {r : V → Hp → VK → Prop} (h : ta σ H fun x H1 => r x H1 Q) : tUn r ta σ H Q := h
theorem r_rI0 {f : Int → Int → V} {a b : Int} (h : Q (f a b) H) : rI0 f (.int a) (.int b) H Q := ⟨a, b, rfl, rfl, h⟩
theorem r_rU {f : Int → V} {a : Int} (h : Q (f a) H) : rU f (.int a) H Q := ⟨a, rfl, h⟩
theorem r_rI {C : Int → Int → Prop} {f : Int → Int → V} {a b : Int} (c : C a b) (h : Q (f a b) H) : rI C f (.int a) (.int b) H Q := ⟨a, b, rfl, rfl, c, h⟩
theorem r_test {R : Bool → Hp → Prop} (h : te σ H fun x H1 => ∃ k, x = .bl k ∧ R k H1) : tTest te σ H R := h
theorem r_B {R : Bool → Hp → Prop} (h : te σ H fun x H1 => ∃ k, x = .bl k ∧ R k H1) : tB te σ H R := h
theorem r_and {R : Bool → Hp → Prop} (h : tt σ H fun c H1 => if c = true then tt2 σ H1 R else R false H1) : tAnd tt tt2 σ H R := h
theorem r_or {R : Bool → Hp → Prop} (h : tt σ H fun c H1 => if c = true then R true H1 else tt2 σ H1 R) : tOr tt tt2 σ H R := h
theorem r_not {R : Bool → Hp → Prop} (h : tt σ H fun c H1 => R (!c) H1) : tNot tt σ H R := h
theorem r_andV (h : ta σ H fun x H1 => ∃ c, x = .bl c ∧ if c = true then tb σ H1 Q else Q (.bl false) H1) : tAndV ta tb σ H Q := h
theorem r_orV (h : ta σ H fun x H1 => ∃ c, x = .bl c ∧ if c = true then Q (.bl true) H1 else tb σ H1 Q) : tOrV ta tb σ H Q := h
theorem r_notV (h : ta σ H fun x H1 => ∃ c, x = .bl c ∧ Q (.bl (!c)) H1) : tNotV ta σ H Q := h
theorem r_ifE (h : tt σ H fun c H1 => if c = true then ta σ H1 Q else tb σ H1 Q) : tIf tt ta tb σ H Q := h
theorem r_chain {r r' : R2} (h : ta σ H fun x H1 => tb σ H1 fun y H2 => r x y H2 fun z H3 => ∃ k, z = .bl k ∧
  (if k = true then tc σ H3 fun w' H4 => r' y w' H4 Q else Q (.bl false) H3)) : tChain r r' ta tb tc σ H Q := h
theorem r_cons {R : List V → Hp → Prop} (h : ta σ H fun x H1 => tas σ H1 fun xs H2 => R (x :: xs) H2) : tCons ta tas σ H R := h
theorem r_nil {R : List V → Hp → Prop} (h : R [] H) : tNil σ H R := h
theorem r_tup (h : tas σ H fun xs H1 => xs.length ≤ sizeLine ∧ ∀ p, H1 p = none → Q (.ref p) (upd H1 p (.tup xs))) : tTup tas σ H Q := h
theorem r_lst (h : tas σ H fun xs H1 => xs.length ≤ sizeLine ∧ ∀ p, H1 p = none → Q (.ref p) (upd H1 p (.lst xs))) : tLst tas σ H Q := h
theorem r_call {sp : Sp} {E : XK} (h : tas σ H fun vs H1 => sp vs H1 Q E) : tCall sp [] E tas σ H Q := by
  have e : tCall sp [] E tas σ H Q = tas σ H fun vs H1 => sp vs H1 Q E := by
    unfold tCall
    simp only [List.append_nil]
  rw [e]
  exact h
theorem r_callK {sp : Sp} {gV : List V → List V → List V} {E : XK} {tk : TA} (h : tas σ H fun vs H1 => tk σ H1 fun zs H2 => sp (gV vs zs) H2 Q E) : tCallK sp gV E tas tk σ H Q := h
theorem r_cb {r : List V → Hp → VK → Prop} (h : tas σ H fun vs H1 => r vs H1 Q) : tCB r tas σ H Q := h
theorem r_ixL {a : Addr} {xs : List V} {k : Int} (h1 : SqL K H a xs) (h2 : atI xs k = some v) (h : Q v H) : rIxL K (.ref a) (.int k) H Q := ⟨a, xs, k, v, rfl, rfl, h1, h2, h⟩
theorem r_ixT {a : Addr} {xs : List V} {k : Int} (h1 : SqT K H a xs) (h2 : atI xs k = some v) (h : Q v H) : rIxT K (.ref a) (.int k) H Q := ⟨a, xs, k, v, rfl, rfl, h1, h2, h⟩
theorem r_lenL {a : Addr} {xs : List V} (hs : SqL K H a xs) (h : Q (.int xs.length) H) : rLenQ K [.ref a] H Q := ⟨a, xs, rfl, .inl hs, h⟩
theorem r_lenT {a : Addr} {xs : List V} (hs : SqT K H a xs) (h : Q (.int xs.length) H) : rLenQ K [.ref a] H Q := ⟨a, xs, rfl, .inr hs, h⟩
theorem r_tupL {a : Addr} {xs : List V} (hs : SqL K H a xs) (h : ∀ l, H l = none → Q (.ref l) (upd H l (.tup xs))) : rTupQ K [.ref a] H Q := ⟨a, xs, rfl, .inl ⟨hs, h⟩⟩
theorem r_tupT {a : Addr} {xs : List V} (hs : SqT K H a xs) (h : Q (.ref a) H) : rTupQ K [.ref a] H Q := ⟨a, xs, rfl, .inr ⟨hs, h⟩⟩
theorem r_listL {a : Addr} {xs : List V} (hs : SqL K H a xs) (h : ∀ l, H l = none → Q (.ref l) (upd H l (.lst xs))) : rListQ K [.ref a] H Q := ⟨a, xs, rfl, .inl hs, h⟩
theorem r_listT {a : Addr} {xs : List V} (hs : SqT K H a xs) (h : ∀ l, H l = none → Q (.ref l) (upd H l (.lst xs))) : rListQ K [.ref a] H Q := ⟨a, xs, rfl, .inr hs, h⟩
theorem r_abs {i : Int} (h : Q (.int (i.natAbs : Int)) H) : rAbs [.int i] H Q := by
  have e : (if i < 0 then -i else i) = (i.natAbs : Int) := by split <;> omega
  exact ⟨i, rfl, by rw [e]; exact h⟩
theorem r_max2 {i j : Int} (h : Q (.int (max i j)) H) : rMax2 [.int i, .int j] H Q := by
  have e : (if j > i then j else i) = max i j := by split <;> omega
  exact ⟨i, j, rfl, by rw [e]; exact h⟩
theorem r_min2 {i j : Int} (h : Q (.int (min i j)) H) : rMin2 [.int i, .int j] H Q := by
  have e : (if j < i then j else i) = min i j := by split <;> omega
  exact ⟨i, j, rfl, by rw [e]; exact h⟩
theorem r_int1 {i : Int} (h : Q (.int i) H) : rInt1 [.int i] H Q := .inl ⟨i, rfl, h⟩
theorem r_divmod {i j : Int} (c : CDivP i j) (h : ∀ p, H p = none → Q (.ref p) (upd H p (.tup [.int (i / j), .int (i % j)]))) : rDivmod [.int i, .int j] H Q := ⟨i, j, rfl, c, h⟩
theorem r_gcd {a b : Int} (h : Q (.int ((Nat.gcd a.natAbs b.natAbs : Nat) : Int)) H) : rGcd [.int a, .int b] H Q := ⟨a, b, rfl, h⟩
theorem r_lcm {a b : Int} (ha : a.natAbs < 2 ^ 9000) (hb : b.natAbs < 2 ^ 9000) (h : Q (.int ((Nat.lcm a.natAbs b.natAbs : Nat) : Int)) H) : rLcm [.int a, .int b] H Q := ⟨a, b, rfl, ha, hb, h⟩
theorem r_repr {a : Addr} {d : PyData} (hd : Dp K H (.ref a) d) (hs : d.showable = true) (hp : d.depth ≤ 40) (hz : d.shown.length ≤ sizeLine) (h : Q (.str d.shown) H) : rRepr K [.ref a] H Q := ⟨a, d, rfl, hd, hs, hp, hz, h⟩
theorem r_isi {x c : V} {t u : Value} {b : Bool} (h1 : ClsV c u) (h2 : TyX K H x t) (h3 : PySem.W.kitOne K t u = some b) (h : Q (.bl b) H) : rIsi K [x, c] H Q := ⟨x, c, t, u, b, rfl, h1, h2, h3, h⟩
theorem r_all {a : Addr} {bs : List Bool} (hs : SqL K H a (bs.map V.bl)) (h : Q (.bl (bs.all id)) H) : rAll K [.ref a] H Q := ⟨a, bs, rfl, hs, h⟩
theorem r_any {a : Addr} {bs : List Bool} (hs : SqL K H a (bs.map V.bl)) (h : Q (.bl (bs.any id)) H) : rAny K [.ref a] H Q := ⟨a, bs, rfl, hs, h⟩
theorem r_neD {x y : V} {d e : PyData} (h1 : Dp K H x d) (h2 : Dp K H y e) (h3 : SeqAt.shaped d = true) (h4 : SeqAt.shaped e = true) (h : Q (.bl (!PyData.eqv d e)) H) : rNeD K x y H Q := ⟨d, e, h1, h2, h3, h4, h⟩
theorem r_eqD {x y : V} {d e : PyData} (h1 : Dp K H x d) (h2 : Dp K H y e) (h3 : SeqAt.shaped d = true) (h4 : SeqAt.shaped e = true) (h : Q (.bl (PyData.eqv d e)) H) : rEqD K x y H Q := ⟨d, e, h1, h2, h3, h4, h⟩
end
/-- tests that are known, and both ways of one that is not -/
theorem ifd {p A B : Prop} {_i : Decidable p} (h1 : p → A) (h2 : ¬ p → B) : if decide p = true then A else B := by
  by_cases h : p
  · rw [if_pos (decide_eq_true h)]; exact h1 h
  · rw [if_neg (by rw [decide_eq_false h]; exact Bool.false_ne_true)]; exact h2 h
theorem ifnd {p A B : Prop} {_i : Decidable p} (h1 : ¬ p → A) (h2 : p → B) : if (!decide p) = true then A else B := by
  by_cases h : p
  · rw [if_neg (by rw [decide_eq_true h]; decide)]; exact h2 h
  · rw [if_pos (by rw [decide_eq_false h]; decide)]; exact h1 h
theorem ifb {b : Bool} {A B : Prop} (h1 : b = true → A) (h2 : b = false → B) : if b = true then A else B := by
  cases b with
  | true => rw [if_pos rfl]; exact h1 rfl
  | false => rw [if_neg Bool.false_ne_true]; exact h2 rfl
theorem ifT {b : Bool} {A B : Prop} (hb : b = true) (h : A) : if b = true then A else B := by rw [if_pos hb]; exact h
theorem ifF {b : Bool} {A B : Prop} (hb : b = false) (h : B) : if b = true then A else B := by rw [if_neg (by rw [hb]; exact Bool.false_ne_true)]; exact h
theorem ifTT {A B : Prop} (h : A) : if true = true then A else B := by rw [if_pos rfl]; exact h
theorem ifFF {A B : Prop} (h : B) : if false = true then A else B := by rw [if_neg Bool.false_ne_true]; exact h
theorem ifNT {A B : Prop} (h : B) : if (!true) = true then A else B := by rw [if_neg (by decide)]; exact h
theorem ifNF {A B : Prop} (h : A) : if (!false) = true then A else B := by rw [if_pos (by decide)]; exact h
theorem small {n : Nat} (h : n ≤ 100000) : n ≤ sizeLine := Nat.le_trans h (by decide)
/-! ## data -/
theorem DpAll.ints {K : PySem.W.Frag} {H : Hp} : ∀ ns : List Int, DpAll K H (ns.map V.int) (ns.map PyData.int)
  | [] => .nil
  | n :: ns => .cons (.int n) (DpAll.ints ns)

/-! ## isinstance, type by type -/
section
variable {K : PySem.W.Frag} {H : Hp} {Q : VK} {a : Addr} {xs : List V} {i : Int} {b : Bool}
theorem is_int_int (h : Q (.bl true) H) : rIsi K [(.int i), .ty "int"] H Q := r_isi (.ty "int") (.base (.int i)) (kit_ty (by decide +kernel)) h
theorem is_int_bool (h : Q (.bl false) H) : rIsi K [(.int i), .ty "bool"] H Q := r_isi (.ty "bool") (.base (.int i)) (kit_ty (by decide +kernel)) h
theorem is_int_tuple (h : Q (.bl false) H) : rIsi K [(.int i), .ty "tuple"] H Q := r_isi (.ty "tuple") (.base (.int i)) (kit_ty (by decide +kernel)) h
theorem is_int_list (h : Q (.bl false) H) : rIsi K [(.int i), .ty "list"] H Q := r_isi (.ty "list") (.base (.int i)) (kit_ty (by decide +kernel)) h
theorem is_int_str (h : Q (.bl false) H) : rIsi K [(.int i), .ty "str"] H Q := r_isi (.ty "str") (.base (.int i)) (kit_ty (by decide +kernel)) h
theorem is_bool_int (h : Q (.bl true) H) : rIsi K [(.bl b), .ty "int"] H Q := r_isi (.ty "int") (.base (.bl b)) (kit_ty (by decide +kernel)) h
theorem is_bool_bool (h : Q (.bl true) H) : rIsi K [(.bl b), .ty "bool"] H Q := r_isi (.ty "bool") (.base (.bl b)) (kit_ty (by decide +kernel)) h
theorem is_bool_tuple (h : Q (.bl false) H) : rIsi K [(.bl b), .ty "tuple"] H Q := r_isi (.ty "tuple") (.base (.bl b)) (kit_ty (by decide +kernel)) h
theorem is_bool_list (h : Q (.bl false) H) : rIsi K [(.bl b), .ty "list"] H Q := r_isi (.ty "list") (.base (.bl b)) (kit_ty (by decide +kernel)) h
theorem is_bool_str (h : Q (.bl false) H) : rIsi K [(.bl b), .ty "str"] H Q := r_isi (.ty "str") (.base (.bl b)) (kit_ty (by decide +kernel)) h
theorem is_NoneType_int (h : Q (.bl false) H) : rIsi K [.non, .ty "int"] H Q := r_isi (.ty "int") (.base .non) (kit_ty (by decide +kernel)) h
theorem is_NoneType_bool (h : Q (.bl false) H) : rIsi K [.non, .ty "bool"] H Q := r_isi (.ty "bool") (.base .non) (kit_ty (by decide +kernel)) h
theorem is_NoneType_tuple (h : Q (.bl false) H) : rIsi K [.non, .ty "tuple"] H Q := r_isi (.ty "tuple") (.base .non) (kit_ty (by decide +kernel)) h
theorem is_NoneType_list (h : Q (.bl false) H) : rIsi K [.non, .ty "list"] H Q := r_isi (.ty "list") (.base .non) (kit_ty (by decide +kernel)) h
theorem is_NoneType_str (h : Q (.bl false) H) : rIsi K [.non, .ty "str"] H Q := r_isi (.ty "str") (.base .non) (kit_ty (by decide +kernel)) h
theorem is_str_int {z : Str} (h : Q (.bl false) H) : rIsi K [(.str z), .ty "int"] H Q := r_isi (.ty "int") (.base (.str z)) (kit_ty (by decide +kernel)) h
theorem is_str_bool {z : Str} (h : Q (.bl false) H) : rIsi K [(.str z), .ty "bool"] H Q := r_isi (.ty "bool") (.base (.str z)) (kit_ty (by decide +kernel)) h
theorem is_str_tuple {z : Str} (h : Q (.bl false) H) : rIsi K [(.str z), .ty "tuple"] H Q := r_isi (.ty "tuple") (.base (.str z)) (kit_ty (by decide +kernel)) h
theorem is_str_list {z : Str} (h : Q (.bl false) H) : rIsi K [(.str z), .ty "list"] H Q := r_isi (.ty "list") (.base (.str z)) (kit_ty (by decide +kernel)) h
theorem is_str_str {z : Str} (h : Q (.bl true) H) : rIsi K [(.str z), .ty "str"] H Q := r_isi (.ty "str") (.base (.str z)) (kit_ty (by decide +kernel)) h
theorem is_tuple_int (e : H a = some (.tup xs)) (h : Q (.bl false) H) : rIsi K [(.ref a), .ty "int"] H Q := r_isi (.ty "int") (.base (.tup e)) (kit_ty (by decide +kernel)) h
theorem is_tuple_bool (e : H a = some (.tup xs)) (h : Q (.bl false) H) : rIsi K [(.ref a), .ty "bool"] H Q := r_isi (.ty "bool") (.base (.tup e)) (kit_ty (by decide +kernel)) h
theorem is_tuple_tuple (e : H a = some (.tup xs)) (h : Q (.bl true) H) : rIsi K [(.ref a), .ty "tuple"] H Q := r_isi (.ty "tuple") (.base (.tup e)) (kit_ty (by decide +kernel)) h
theorem is_tuple_list (e : H a = some (.tup xs)) (h : Q (.bl false) H) : rIsi K [(.ref a), .ty "list"] H Q := r_isi (.ty "list") (.base (.tup e)) (kit_ty (by decide +kernel)) h
theorem is_tuple_str (e : H a = some (.tup xs)) (h : Q (.bl false) H) : rIsi K [(.ref a), .ty "str"] H Q := r_isi (.ty "str") (.base (.tup e)) (kit_ty (by decide +kernel)) h
theorem is_list_int (e : H a = some (.lst xs)) (h : Q (.bl false) H) : rIsi K [(.ref a), .ty "int"] H Q := r_isi (.ty "int") (.base (.lst e)) (kit_ty (by decide +kernel)) h
theorem is_list_bool (e : H a = some (.lst xs)) (h : Q (.bl false) H) : rIsi K [(.ref a), .ty "bool"] H Q := r_isi (.ty "bool") (.base (.lst e)) (kit_ty (by decide +kernel)) h
theorem is_list_tuple (e : H a = some (.lst xs)) (h : Q (.bl false) H) : rIsi K [(.ref a), .ty "tuple"] H Q := r_isi (.ty "tuple") (.base (.lst e)) (kit_ty (by decide +kernel)) h
theorem is_list_list (e : H a = some (.lst xs)) (h : Q (.bl true) H) : rIsi K [(.ref a), .ty "list"] H Q := r_isi (.ty "list") (.base (.lst e)) (kit_ty (by decide +kernel)) h
theorem is_list_str (e : H a = some (.lst xs)) (h : Q (.bl false) H) : rIsi K [(.ref a), .ty "str"] H Q := r_isi (.ty "str") (.base (.lst e)) (kit_ty (by decide +kernel)) h
end

/-! ## two ways that meet -/
section
variable {D : Ends} {σ : L2.St} {H : Hp} {Q : VK} {tt : TT} {ta tb : TE} {t u : TS}
theorem j_e {te : TE} (Pv : V → Hp → Prop) (hF : ∀ Q' : VK, (∀ v H', Pv v H' → Q' v H') → te σ H Q') (hQ : ∀ v H', Pv v H' → Q v H') : te σ H Q := hF Q hQ
theorem j_if (Pv : V → Hp → Prop) (hF : ∀ Q' : VK, (∀ v H', Pv v H' → Q' v H') → tIf tt ta tb σ H Q') (hQ : ∀ v H', Pv v H' → Q v H') : tIf tt ta tb σ H Q := hF Q hQ
theorem j_s {ts : TS} (M : L2.St → Hp → Prop) (hF : ∀ nx' : L2.St → Hp → Prop, (∀ σ' H', M σ' H' → nx' σ' H') → ts { D with nx := nx' } σ H) (hQ : ∀ σ' H', M σ' H' → D.nx σ' H') : ts D σ H := hF D.nx hQ
end
/-! ## loops -/
section
variable {K : PySem.W.Frag} {D : Ends} {σ : L2.St} {H : Hp} {tt : TT} {tb : TS} {g : TG} {x : V}
abbrev Wp (W : Nat → L2.St → Hp → Prop) (m : Nat) (σ : L2.St) (H : Hp) : Prop := W m σ H
theorem r_while (W : Nat → L2.St → Hp → Prop) (m : Nat) (w0 : W m σ H)
    (hs : ∀ m σ H, W m σ H → tt σ H fun b H1 => if b = true then ∃ N : L2.St → Hp → Prop, (∀ σ' H', N σ' H' → ∃ m', m' < m ∧ Wp W m' σ' H') ∧ tb { D with nx := N, ct := N, bk := D.nx } σ H1 else D.nx σ H1) :
    tWhile tt tb D σ H := ⟨W, ⟨m, w0⟩, hs⟩
theorem r_wb {D : (L2.St → Hp → Prop) → Ends} {W : Nat → L2.St → Hp → Prop} {m : Nat} (h : tb (D fun σ' H' => ∃ m', m' < m ∧ Wp W m' σ' H') σ H) :
    ∃ N : L2.St → Hp → Prop, (∀ σ' H', N σ' H' → ∃ m', m' < m ∧ Wp W m' σ' H') ∧ tb (D N) σ H := ⟨_, fun _ _ h => h, h⟩
theorem tru_int {i : Int} {R : Bool → Prop} (h : R (i != 0)) : ∃ k, TruV K (.int i) H k ∧ R k := ⟨_, rfl, h⟩
theorem tru_list {a : Addr} {xs : List V} {R : Bool → Prop} (hs : SqL K H a xs) (h : R (!xs.isEmpty)) : ∃ k, TruV K (.ref a) H k ∧ R k := ⟨_, .inl ⟨xs, hs, rfl⟩, h⟩
theorem tru_tup {a : Addr} {xs : List V} {R : Bool → Prop} (hs : SqT K H a xs) (h : R (!xs.isEmpty)) : ∃ k, TruV K (.ref a) H k ∧ R k := ⟨_, .inr (.inl ⟨xs, hs, rfl⟩), h⟩
theorem r_for1 {ta : TA} (h : ta σ H fun vs H1 => ∃ j : Int, vs = [.int j] ∧ -(2 ^ 62) ≤ j ∧ j < 2 ^ 62 ∧ tFor (fun _ H2 R => R (Itr 0 j.toNat) H2) g tb D σ H1) : tFor (iRng1 ta) g tb D σ H := h
theorem r_for2 {ta : TA} (h : ta σ H fun vs H1 => ∃ i j : Int, vs = [.int i, .int j] ∧ (-(2 ^ 62) ≤ i ∧ i < 2 ^ 62 ∧ -(2 ^ 62) ≤ j ∧ j < 2 ^ 62) ∧ tFor (fun _ H2 R => R (Itr i (j - i).toNat) H2) g tb D σ H1) : tFor (iRng2 ta) g tb D σ H := h
theorem r_forR {lo : Int} {n : Nat} (Pv : Nat → L2.St → Hp → Prop) (h0 : Pv 0 σ H)
    (hs : ∀ i σ H, i < n → Pv i σ H → g (.int (lo + i)) σ H fun σ2 H2 => tb { D with nx := Pv (i + 1), ct := Pv (i + 1), bk := D.nx } σ2 H2) (hd : ∀ σ H, Pv n σ H → D.nx σ H) :
    tFor (fun _ H2 R => R (Itr lo n) H2) g tb D σ H := for_range Pv h0 hs hd
theorem r_forL {te : TE} (h : te σ H fun x H1 => ∃ a, x = .ref a ∧ (∃ xs, SqL K H1 a xs) ∧ tFor (fun _ H2 R => R (Itl K a) H2) g tb D σ H1) : tFor (iList K te) g tb D σ H := h
theorem r_forT {te : TE} (h : te σ H fun x H1 => ∃ a, x = .ref a ∧ (∃ xs, SqT K H1 a xs) ∧ tFor (fun _ H2 R => R (Itt K a) H2) g tb D σ H1) : tFor (iTup K te) g tb D σ H := h
theorem r_forLs {a : Addr} (xs : List V) (Pv : Nat → L2.St → Hp → Prop) (h0 : Pv 0 σ H) (hl : ∀ i σ H, i ≤ xs.length → Pv i σ H → SqL K H a xs)
    (hs : ∀ i x σ H, xs[i]? = some x → Pv i σ H → g x σ H fun σ2 H2 => tb { D with nx := Pv (i + 1), ct := Pv (i + 1), bk := D.nx } σ2 H2) (hd : ∀ σ H, Pv xs.length σ H → D.nx σ H) :
    tFor (fun _ H2 R => R (Itl K a) H2) g tb D σ H := for_list Pv h0 hl hs hd
theorem r_forTs {a : Addr} (xs : List V) (Pv : Nat → L2.St → Hp → Prop) (h0 : Pv 0 σ H) (hl : ∀ i σ H, i ≤ xs.length → Pv i σ H → SqT K H a xs)
    (hs : ∀ i x σ H, xs[i]? = some x → Pv i σ H → g x σ H fun σ2 H2 => tb { D with nx := Pv (i + 1), ct := Pv (i + 1), bk := D.nx } σ2 H2) (hd : ∀ σ H, Pv xs.length σ H → D.nx σ H) :
    tFor (fun _ H2 R => R (Itt K a) H2) g tb D σ H := for_tup Pv h0 hl hs hd
/-! comprehensions -/
variable {te : TE} {vs : List Nat} {Q : VK}
theorem r_lcR1 {ta : TA} (h : ta σ H fun ws H1 => ∃ j : Int, ws = [.int j] ∧ -(2 ^ 62) ≤ j ∧ j < 2 ^ 62 ∧ tLc (fun _ H2 R => R (Itr 0 j.toNat) H2) g tt te vs σ H1 Q) : tLc (iRng1 ta) g tt te vs σ H Q := h
theorem r_lcR2 {ta : TA} (h : ta σ H fun ws H1 => ∃ i j : Int, ws = [.int i, .int j] ∧ (-(2 ^ 62) ≤ i ∧ i < 2 ^ 62 ∧ -(2 ^ 62) ≤ j ∧ j < 2 ^ 62) ∧ tLc (fun _ H2 R => R (Itr i (j - i).toNat) H2) g tt te vs σ H1 Q) : tLc (iRng2 ta) g tt te vs σ H Q := h
theorem r_lcL {tl : TE} (h : tl σ H fun x H1 => ∃ a, x = .ref a ∧ (∃ xs, SqL K H1 a xs) ∧ tLc (fun _ H2 R => R (Itl K a) H2) g tt te vs σ H1 Q) : tLc (iList K tl) g tt te vs σ H Q := h
theorem r_lcT {tl : TE} (h : tl σ H fun x H1 => ∃ a, x = .ref a ∧ (∃ xs, SqT K H1 a xs) ∧ tLc (fun _ H2 R => R (Itt K a) H2) g tt te vs σ H1 Q) : tLc (iTup K tl) g tt te vs σ H Q := h
theorem r_lcR {lo : Int} {n : Nat} (Pv : Addr → Nat → Hp → Prop) (h0 : ∀ D, H D = none → Pv D 0 (upd H D (.lst [])))
    (hs : ∀ D i H', H D = none → i < n → Pv D i H' → g (.int (lo + i)) (wipe σ vs) H' fun σ2 H2 => wipe σ2 vs = wipe σ vs ∧ tt σ2 H2 fun b H3 =>
      if b = true then te σ2 H3 fun y H4 => ∃ acc, H4 D = some (.lst acc) ∧ acc.length < sizeLine ∧ Pv D (i + 1) (upd H4 D (.lst (acc ++ [y]))) else Pv D (i + 1) H3)
    (hd : ∀ D H', H D = none → Pv D n H' → Q (.ref D) H') : tLc (fun _ H2 R => R (Itr lo n) H2) g tt te vs σ H Q :=
  fun D hD => lc_range (Pv D) (h0 D hD) (fun i H' hi p => hs D i H' hD hi p) (fun H' p => hd D H' hD p)
theorem r_lcLs {a : Addr} (xs : List V) (Pv : Addr → Nat → Hp → Prop) (h0 : ∀ D, H D = none → Pv D 0 (upd H D (.lst []))) (hl : ∀ D i H', H D = none → i ≤ xs.length → Pv D i H' → SqL K H' a xs)
    (hs : ∀ D i x H', H D = none → xs[i]? = some x → Pv D i H' → g x (wipe σ vs) H' fun σ2 H2 => wipe σ2 vs = wipe σ vs ∧ tt σ2 H2 fun b H3 =>
      if b = true then te σ2 H3 fun y H4 => ∃ acc, H4 D = some (.lst acc) ∧ acc.length < sizeLine ∧ Pv D (i + 1) (upd H4 D (.lst (acc ++ [y]))) else Pv D (i + 1) H3)
    (hd : ∀ D H', H D = none → Pv D xs.length H' → Q (.ref D) H') : tLc (fun _ H2 R => R (Itl K a) H2) g tt te vs σ H Q :=
  fun D hD => lc_list (Pv D) (h0 D hD) (fun i H' hi p => hl D i H' hD hi p) (fun i x H' hx p => hs D i x H' hD hx p) (fun H' p => hd D H' hD p)
theorem r_lcTs {a : Addr} (xs : List V) (Pv : Addr → Nat → Hp → Prop) (h0 : ∀ D, H D = none → Pv D 0 (upd H D (.lst []))) (hl : ∀ D i H', H D = none → i ≤ xs.length → Pv D i H' → SqT K H' a xs)
    (hs : ∀ D i x H', H D = none → xs[i]? = some x → Pv D i H' → g x (wipe σ vs) H' fun σ2 H2 => wipe σ2 vs = wipe σ vs ∧ tt σ2 H2 fun b H3 =>
      if b = true then te σ2 H3 fun y H4 => ∃ acc, H4 D = some (.lst acc) ∧ acc.length < sizeLine ∧ Pv D (i + 1) (upd H4 D (.lst (acc ++ [y]))) else Pv D (i + 1) H3)
    (hd : ∀ D H', H D = none → Pv D xs.length H' → Q (.ref D) H') : tLc (fun _ H2 R => R (Itt K a) H2) g tt te vs σ H Q :=
  fun D hD => lc_tup (Pv D) (h0 D hD) (fun i H' hi p => hl D i H' hD hi p) (fun i x H' hx p => hs D i x H' hD hx p) (fun H' p => hd D H' hD p)
end
end Vf

namespace Vf
open PySem PySem.Spec PyProof.Rows L2
/-! ## the law's source of numbers -/
theorem bits_mono {x y : Int} (h : x.natAbs ≤ y.natAbs) : Builtin.Int.intBits x ≤ Builtin.Int.intBits y := by
  by_cases z : y = 0
  · subst z
    have : x = 0 := by omega
    subst this
    exact Nat.le_refl _
  · have e : Builtin.Int.intBits y = y.natAbs.log2 + 1 := by
      unfold Builtin.Int.intBits
      rw [if_neg (by simpa using z)]
    rw [e]
    exact PyProof.Rows.intBits_le (Nat.lt_of_le_of_lt h Nat.lt_log2_self)
structure KegOk (a b c : Int) (n : Nat) : Prop where
  a0 : 0 ≤ a
  ab : Builtin.Int.intBits a ≤ 1048600
  b0 : 0 ≤ b
  bM : b < 2147482801
  c0 : 0 ≤ c
  cn : c ≤ n
def Keg (n : Nat) (k : Addr) (H : Hp) : Prop := ∃ a b c : Int, H k = some (.lst [.int a, .int b, .int c]) ∧ KegOk a b c n
theorem Keg.mono {n m : Nat} {k : Addr} {H : Hp} (h : Keg n k H) (l : n ≤ m) : Keg m k H := by
  obtain ⟨a, b, c, e, o⟩ := h
  exact ⟨a, b, c, e, o.a0, o.ab, o.b0, o.bM, o.c0, by have := o.cn; omega⟩
theorem Keg.same {n : Nat} {k : Addr} {H H' : Hp} (h : Keg n k H) (s : Same H H') : Keg n k H' := by
  obtain ⟨a, b, c, e, o⟩ := h
  exact ⟨a, b, c, s _ _ e, o⟩
theorem Keg.new {n : Nat} {k p : Addr} {H : Hp} {o : HO} (h : Keg n k H) (hp : H p = none) : Keg n k (upd H p o) := h.same (Same.new hp)
theorem Keg.ne {n : Nat} {k p : Addr} {H : Hp} (h : Keg n k H) (hp : H p = none) : p ≠ k := by
  obtain ⟨a, b, c, e, o⟩ := h
  exact (ne_of_none e hp).symm
theorem Keg.none {n : Nat} {k q : Addr} {H H' : Hp} (h : Keg n k H') (e : Kx k H H') (hq : H' q = Option.none) : H q = Option.none := by
  obtain ⟨a, b, c, z, o⟩ := h
  exact none_kx e z hq
def sp_tap : Sp := fun vs H Q _ => ∃ (k : Addr) (u : Int) (n : Nat), vs = [.ref k, .int u] ∧ Keg n k H ∧ n ≤ 2 ^ 60 ∧ 0 < u ∧ u < 2 ^ 62 ∧
  ∀ f H', 0 ≤ f → f < u → Kx k H H' → Keg (n + 1) k H' → Q (.int f) H'
theorem i_tap {k : Addr} {u : Int} {H : Hp} {Q : VK} {E : XK} (n : Nat) (hk : Keg n k H) (hn : n ≤ 2 ^ 60) (h0 : 0 < u) (h1 : u < 2 ^ 62)
    (q : ∀ f H', 0 ≤ f → f < u → Kx k H H' → Keg (n + 1) k H' → Q (.int f) H') : sp_tap [.ref k, .int u] H Q E := ⟨k, u, n, rfl, hk, hn, h0, h1, q⟩
def sp_any (K : PySem.W.Frag) : Sp := fun vs H Q _ => ∃ (k t : Addr) (xs : List V) (n : Nat), vs = [.ref k, .ref t] ∧ Keg n k H ∧ n ≤ 2 ^ 60 ∧ t ≠ k ∧ SqL K H t xs ∧ 0 < xs.length ∧ xs.length ≤ 100000 ∧
  ∀ (i : Nat) (x : V) H', xs[i]? = some x → Kx k H H' → Keg (n + 1) k H' → Q x H'
theorem i_any {K : PySem.W.Frag} {k t : Addr} {H : Hp} {Q : VK} {E : XK} (n : Nat) (xs : List V) (hk : Keg n k H) (hn : n ≤ 2 ^ 60) (ht : t ≠ k) (hs : SqL K H t xs) (h0 : 0 < xs.length) (h1 : xs.length ≤ 100000)
    (q : ∀ (i : Nat) x H', xs[i]? = some x → Kx k H H' → Keg (n + 1) k H' → Q x H') : sp_any K [.ref k, .ref t] H Q E := ⟨k, t, xs, n, rfl, hk, hn, ht, hs, h0, h1, q⟩
/-- the script's ints are of at most 2 ^ 20 bits -/
def Script (ns : List Int) : Prop := ns.length ≤ 63 ∧ ∀ z ∈ ns, Builtin.Int.intBits z ≤ 1048576
def sp_keg (K : PySem.W.Frag) : Sp := fun vs H Q _ => ∃ (c : Addr) (ns : List Int) (j : Nat), vs = [.ref c, .int (j : Int)] ∧ SqL K H c (ns.map V.int) ∧ Script ns ∧ j ≤ 1000 ∧
  ∀ p H', Same H H' → H p = none → Keg 1 p H' → Q (.ref p) H'
theorem i_keg {K : PySem.W.Frag} {c : Addr} {H : Hp} {Q : VK} {E : XK} (ns : List Int) (j : Nat) (hs : SqL K H c (ns.map V.int)) (hn : Script ns) (hj : j ≤ 1000)
    (q : ∀ p H', Same H H' → H p = none → Keg 1 p H' → Q (.ref p) H') : sp_keg K [.ref c, .int (j : Int)] H Q E := ⟨c, ns, j, rfl, hs, hn, hj, q⟩
/-- a product of two ints of so many bits at most -/
theorem bit_mul {i j : Int} {a b : Nat} (ha : Builtin.Int.intBits i ≤ a) (hb : Builtin.Int.intBits j ≤ b) (h : a + b ≤ 134217728) : CMulX i j := by
  unfold CMulX
  omega
theorem bit_of {i : Int} {a : Nat} (h : i.natAbs < 2 ^ a) : Builtin.Int.intBits i ≤ a := PyProof.Rows.intBits_le h
theorem divp_of {i j : Int} (h : 0 < j) (hj : j < 2 ^ 62) : CDivP i j :=
  ⟨h, PyProof.noPylong_of_log2 (Nat.lt_of_lt_of_le (log_lim (k := 62) (by omega) (by decide)) (by decide))⟩
theorem divw_of {i j : Int} (h : 0 < j) (hj : j < 2 ^ 62) : CDivW i j := wide_div (b := 62) h (by omega) (by decide) (by decide)
end Vf

namespace Vf
open PySem PySem.Spec PyProof.Rows L2
/-! ## data: what repr of it is like, and == -/
mutual
/-- no text, no dict; each number of fewer than 1920 bits -/
def tame : PyData → Bool
  | .none | .bool _ => true
  | .int i => decide (i.natAbs.log2 < 1920)
  | .list xs | .tuple xs => tameAll xs
  | _ => false
def tameAll : List PyData → Bool
  | [] => true
  | x :: xs => tame x && tameAll xs
end
mutual
def room : PyData → Nat
  | .list xs | .tuple xs => 4 + roomAll xs
  | _ => 2000
def roomAll : List PyData → Nat
  | [] => 0
  | x :: xs => room x + 2 + roomAll xs
end
theorem from_le : ∀ (ts : List Str) (k : Nat) (acc : Str), (textFrom k acc ts).length ≤ acc.length + piled ts
  | [], _, _ => Nat.le_add_right _ _
  | t :: r, k, acc => by
    refine Nat.le_trans (from_le r (k + 1) _) ?_
    rw [strLen_append, strLen_append, piled_cons]
    have e : (Str.ofString (if k > 0 then ", " else "" : String)).length ≤ 2 := by
      split
      · decide +kernel
      · decide +kernel
    omega
theorem listText_le (ts : List Str) : (listText ts).length ≤ 4 + piled ts := by
  show (textFrom 0 "[" ts ++ "]").length ≤ _
  rw [strLen_append]
  have h := from_le ts 0 "["
  have e1 : ("[" : Str).length = 1 := by decide +kernel
  have e2 : ("]" : Str).length = 1 := by decide +kernel
  omega
theorem tupleText_le (ts : List Str) : (tupleText ts).length ≤ 4 + piled ts := by
  unfold tupleText
  rw [strLen_append, strLen_append]
  have e1 : ("(" : Str).length = 1 := by decide +kernel
  have e2 : (if (ts.length == 1) = true then ",)" else ")" : String) = ",)" ∨ (if (ts.length == 1) = true then ",)" else ")" : String) = ")" := by split <;> simp
  have e3 : (Str.ofString (if (ts.length == 1) = true then ",)" else ")" : String)).length ≤ 2 := by
    rcases e2 with e | e <;> rw [e] <;> decide +kernel
  have e4 : (Str.join ", " ts).length ≤ piled ts := by
    by_cases z : ts = []
    · subst z; decide +kernel
    · have := join_length_add ts z; omega
  show ("(" : Str).length + _ + (Str.ofString _).length ≤ _
  omega
mutual
theorem shown_le : ∀ d : PyData, tame d = true → d.showable = true ∧ d.hasDict = false ∧ (d.shown).length ≤ room d
  | .none, _ => ⟨rfl, rfl, by show ("None" : Str).length ≤ 2000; decide +kernel⟩
  | .bool b, _ => ⟨rfl, rfl, by cases b <;> decide +kernel⟩
  | .int i, h => by
    have h1 : i.natAbs.log2 < 1920 := of_decide_eq_true h
    refine ⟨by simpa [PyData.showable] using h1, rfl, ?_⟩
    have e := int_text_length_le (k := 1920) (by decide) h1
    show (Str.ofString (toString i)).length ≤ 2000
    rw [PySem.ofString_length]
    omega
  | .str _, h => by cases h
  | .dict _, h => by cases h
  | .list xs, h => by
    obtain ⟨a, b, c⟩ := shown_leAll xs h
    refine ⟨a, b, ?_⟩
    have := listText_le (PyData.shownAll xs)
    show (listText (PyData.shownAll xs)).length ≤ 4 + roomAll xs
    omega
  | .tuple xs, h => by
    obtain ⟨a, b, c⟩ := shown_leAll xs h
    refine ⟨a, b, ?_⟩
    have := tupleText_le (PyData.shownAll xs)
    show (tupleText (PyData.shownAll xs)).length ≤ 4 + roomAll xs
    omega
theorem shown_leAll : ∀ ds : List PyData, tameAll ds = true → PyData.showableAll ds = true ∧ PyData.hasDictAll ds = false ∧ piled (PyData.shownAll ds) ≤ roomAll ds
  | [], _ => ⟨rfl, rfl, Nat.le_refl _⟩
  | d :: ds, h => by
    have h2 : (tame d && tameAll ds) = true := h
    rw [Bool.and_eq_true] at h2
    obtain ⟨a, b, c⟩ := shown_le d h2.1
    obtain ⟨a2, b2, c2⟩ := shown_leAll ds h2.2
    refine ⟨by simp [PyData.showableAll, a, a2], by simp [PyData.hasDictAll, b, b2], ?_⟩
    show piled (d.shown :: PyData.shownAll ds) ≤ room d + 2 + roomAll ds
    rw [piled_cons]
    omega
end
theorem tameInts : ∀ ns : List Int, (∀ n ∈ ns, n.natAbs < 2 ^ 1900) → tameAll (ns.map PyData.int) = true
  | [], _ => rfl
  | n :: ns, h => by
    show (tame (.int n) && tameAll (ns.map PyData.int)) = true
    rw [tameInts ns fun m hm => h m (List.mem_cons_of_mem _ hm), Bool.and_true]
    refine decide_eq_true (log_lim (Nat.lt_of_lt_of_le (h n List.mem_cons_self) (Nat.pow_le_pow_right (by decide) (by decide))) (by decide))
theorem roomInts : ∀ ns : List Int, roomAll (ns.map PyData.int) = 2002 * ns.length
  | [] => rfl
  | n :: ns => by
    show 2000 + 2 + roomAll (ns.map PyData.int) = 2002 * (ns.length + 1)
    rw [roomInts ns]; omega
theorem depthInts : ∀ ns : List Int, PyData.depthAll (ns.map PyData.int) = 0
  | [] => rfl
  | n :: ns => by
    show max (PyData.depth (.int n)) (PyData.depthAll (ns.map PyData.int)) = 0
    rw [depthInts ns]; rfl
/-- what repr gives of a list of ints -/
def intsD (ns : List Int) : PyData := .list (ns.map PyData.int)
section
variable {K : PySem.W.Frag} {H : Hp} {Q : VK}
theorem r_reprD {a : Addr} (d : PyData) (hd : Dp K H (.ref a) d) (ht : tame d = true) (hp : d.depth ≤ 40) (hz : room d ≤ 100000) (h : Q (.str d.shown) H) : rRepr K [.ref a] H Q := by
  obtain ⟨h1, _, h2⟩ := shown_le d ht
  exact r_repr hd h1 hp (small (Nat.le_trans h2 hz)) h
theorem Dp.intsD {a : Addr} {ns : List Int} (h : SqL K H a (ns.map V.int)) : Dp K H (.ref a) (intsD ns) := .lst h (DpAll.ints ns)
theorem r_reprI {a : Addr} (ns : List Int) (hs : SqL K H a (ns.map V.int)) (hb : ∀ n ∈ ns, n.natAbs < 2 ^ 1900) (hl : ns.length ≤ 40) (h : Q (.str (intsD ns).shown) H) : rRepr K [.ref a] H Q := by
  refine r_reprD (intsD ns) (Dp.intsD hs) (tameInts ns hb) ?_ ?_ h
  · show PyData.depthAll (ns.map PyData.int) + 1 ≤ 40
    rw [depthInts]; decide
  · show 4 + roomAll (ns.map PyData.int) ≤ 100000
    rw [roomInts]; omega
/-- a list times a number -/
theorem r_rep {a : Addr} {xs : List V} {k : Int} (hl : H a = some (.lst xs)) (h0 : 0 ≤ k) (h1 : k ≤ 1000) (hx : xs.length ≤ 1000) (h : ∀ p, H p = none → Q (.ref p) (upd H p (.lst (List.replicate k.toNat xs).flatten))) : rRep (.ref a) (.int k) H Q := by
  refine ⟨a, k, xs, rfl, rfl, hl, by omega, by omega, ?_, h⟩
  have : xs.length * k.toNat ≤ 1000 * 1000 := Nat.mul_le_mul hx (by omega)
  exact Nat.le_trans this (by decide)
theorem eqvInts : ∀ ns ms : List Int, PyData.eqvAll (ns.map PyData.int) (ms.map PyData.int) = decide (ns = ms)
  | [], [] => rfl
  | [], _ :: _ => rfl
  | _ :: _, [] => rfl
  | n :: ns, m :: ms => by
    show (n == m && PyData.eqvAll (ns.map PyData.int) (ms.map PyData.int)) = _
    rw [eqvInts ns ms]
    by_cases e : n = m
    · subst e
      by_cases e2 : ns = ms
      · subst e2; simp
      · simp [e2]
    · simp [e]
theorem canInts : ∀ ns : List Int, PyData.canLayAll0 (ns.map PyData.int) = true
  | [] => rfl
  | n :: ns => by
    show (PyData.canLay0 (.int n) && PyData.canLayAll0 (ns.map PyData.int)) = true
    rw [canInts ns]; rfl
theorem shapedInts (ns : List Int) : SeqAt.shaped (intsD ns) = true := by
  unfold SeqAt.shaped
  rw [Bool.and_eq_true]
  refine ⟨canInts ns, decide_eq_true ?_⟩
  show PyData.depthAll (ns.map PyData.int) + 1 ≤ 64
  rw [depthInts]; decide
/-- two lists of ints compared -/
theorem r_neI {a b : Addr} (ns ms : List Int) (h1 : SqL K H a (ns.map V.int)) (h2 : SqL K H b (ms.map V.int)) (h : Q (.bl (!decide (ns = ms))) H) : rNeD K (.ref a) (.ref b) H Q := by
  refine r_neD (Dp.intsD h1) (Dp.intsD h2) (shapedInts ns) (shapedInts ms) ?_
  rw [show PyData.eqv (intsD ns) (intsD ms) = decide (ns = ms) from eqvInts ns ms]
  exact h
theorem r_eqI {a b : Addr} (ns ms : List Int) (h1 : SqL K H a (ns.map V.int)) (h2 : SqL K H b (ms.map V.int)) (h : Q (.bl (decide (ns = ms))) H) : rEqD K (.ref a) (.ref b) H Q := by
  refine r_eqD (Dp.intsD h1) (Dp.intsD h2) (shapedInts ns) (shapedInts ms) ?_
  rw [show PyData.eqv (intsD ns) (intsD ms) = decide (ns = ms) from eqvInts ns ms]
  exact h
end
end Vf

namespace Vf
open PySem PySem.Spec PyProof.Rows L2
/-! ## the law's own call, from the promise of its def -/
section
variable {P : Program} {w : World} {K : PySem.W.Frag} {mg mb : Str → Option Value} {k : Nat} {fa a : Addr} {st : Stmt} {x y : Str} {sp : Sp} {s₁ : Shared} {vs : List Value} {ns : List Int}
/-- what the whole call is to come to -/
abbrev Told (s₁ : Shared) (r : Result) (s' : Shared) : Prop :=
  r = .ok (.ret (.bool true)) ∧ OldK s₁.heap s'.heap ∧ s'.os = s₁.os ∧ AllBare s'.gens
theorem law_g (KX : K.In s₁.heap) (hns : s₁.heap.Ns mainGlobals mg) (hb : s₁.heap.Ns builtinsNs mb) (hbb : ∀ z : Str, z ≠ "__name__" → mb z = bootBuiltins z)
    (hlim : s₁.heap.NoLimit) (hg : s₁.gens = #[]) (ha : s₁.heap.get? a = some { cls := .type "list", data := .seq vs.toArray }) (hi : IntsAre vs ns) (hl : ns.length ≤ sizeLine)
    (hr : Room k callerA) (hfa : mg x = some (.ref fa)) (F : ∀ base : Heap, K.In base → base.Ns mainGlobals mg → Ok P w K mg base k x st [y] sp)
    (B : ∀ f fd, L2.Fun K x x st f fd → L2.Binds K fd [y] [])
    (hsp : ∀ H : Hp, L2.Only H → SqL K H a (ns.map V.int) → sp [.ref a] H (fun v _ => v = .bl true) fun _ _ _ => False) :
    codeAny (model P w) callerA (.call (.ref fa) ⟨[.ref a], []⟩) (Told s₁) s₁ := by
  have rv := vals_ints hi
  -- over a heap that tracks the script alone, or nothing
  have run : ∀ H : Hp, L2.Only H → SqL K H a (ns.map V.int) → HOk P w H s₁.heap → (∀ b o, H b = some o → b = a ∧ K.lookup a = none) →
      codeAny (model P w) callerA (.call (.ref fa) ⟨[.ref a], []⟩) (Told s₁) s₁ := by
    intro H hO hS hok only
    -- the base: all that H does not track
    have dictNone : ∀ {b : Addr} {o : Obj} {es : Array DictEntry} {ep : Nat}, s₁.heap.get? b = some o → o.data = .dict es ep → H b = none := by
      intro b o es ep e d
      rcases hz : H b with _ | u
      · rfl
      · obtain ⟨rfl, _⟩ := only b u hz
        rw [ha] at e
        injection e with e
        rw [← e] at d
        exact absurd d (by intro z; injection z)
    have space : ∀ {b : Addr} {m : Str → Option Value}, s₁.heap.Ns b m → (hidT s₁.heap H).Ns b m := by
      rintro b m ⟨o, es, ep, e, d, rest⟩
      exact ⟨o, es, ep, hidT_get e (dictNone e d), d, rest⟩
    have kin : K.In (hidT s₁.heap H) := by
      intro b o e
      refine hidT_get (KX b o e) ?_
      rcases hz : H b with _ | u
      · rfl
      · obtain ⟨rfl, n⟩ := only b u hz
        rw [n] at e
        cases e
    obtain ⟨mc, hc1, hc2⟩ := hlim
    have env : Env0 P w K mg (hidT s₁.heap H) callerA [] s₁ H :=
      { frames := rfl, mod := ⟨kin, space hns, ⟨mb, space hb, hbb⟩, ⟨mc, space hc1, hc2⟩⟩, bs := fun b o e => of_hidT e, bsz := Nat.le_of_eq (hidT_size _ _)
        funs := trivial, frf := fun b z => absurd (show b ∈ ([] : List Addr) from z) List.not_mem_nil, hok := hok, bare := .of_eq hg }
    obtain ⟨⟨f, fd, G, hm, go⟩, _⟩ := F _ kin (space hns)
    have ef : f = fa := by
      rw [hfa] at hm
      injection hm with hm
      injection hm with hm
      exact hm.symm
    subst ef
    have bind := B f fd G s₁ [.ref a] KX rfl
    rw [List.append_nil] at bind
    refine codeAny_mono (go callerA [] s₁ H ⟨[.ref a], []⟩ [.ref a] [.ref a] (fun v _ => v = .bl true) (fun _ _ _ => False) rfl hr env bind (.cons rfl .nil) (hsp H hO hS)) ?_
    intro r s' h
    rcases r with e | fl
    · obtain ⟨_, _, _, _, _, _, _, _, _, _, _, _, z⟩ := h
      exact z.elim
    · rcases fl with _ | _ | _ | u
      · exact False.elim h
      · exact False.elim h
      · exact False.elim h
      · obtain ⟨v, H', os, bare, un, hok', rr, q⟩ := h
        have q2 : v = .bl true := q
        subst q2
        have eu : u = Value.bool true := rr
        subst eu
        refine ⟨rfl, OldK.of_keep (fun b o e => ?_), os, bare⟩
        rcases hz : H b with _ | u
        · exact un.keep b o e hz (fun z => absurd (show b ∈ ([] : List Addr) from z) List.not_mem_nil) List.not_mem_nil
        · rcases hO b with z | ⟨ob, xs, z⟩
          · rw [hz] at z; cases z
          · have e1 := (hok b _ z).1
            have e2 := (hok' b _ (un.frzs b ob _ z)).1
            rw [e] at e1
            rw [e2, e1]
  rcases hk : K.lookup a with _ | o
  · -- the script is no object of the module: it is tracked, as a locked list
    let sc : Obj := { cls := .type "list", data := .seq vs.toArray }
    let H : Hp := fun b => if b = a then some (.frz sc (.lst (ns.map V.int))) else none
    have at_ : H a = some (.frz sc (.lst (ns.map V.int))) := if_pos rfl
    have off : ∀ b, b ≠ a → H b = none := fun b n => if_neg n
    have here : ∀ b o, H b = some o → b = a := fun b o e => by
      by_cases n : b = a
      · exact n
      · rw [off b n] at e; cases e
    refine run H (fun b => ?_) (Or.inl (Or.inr ⟨sc, at_⟩)) (fun b o e => ?_) (fun b o e => ⟨here b o e, hk⟩)
    · by_cases n : b = a
      · subst n; exact Or.inr ⟨_, _, at_⟩
      · exact Or.inl (off b n)
    · have n := here b o e
      subst n
      rw [at_] at e
      injection e with e
      subst e
      exact ⟨ha, by rw [List.length_map]; exact hl, vs, _, rv, ha⟩
  · -- it is one
    have e := KX a o hk
    rw [ha] at e
    injection e with e
    subst e
    refine run (fun _ => none) (fun _ => Or.inl rfl) (Or.inr ⟨_, vs.toArray, _, hk, rfl, rfl, rfl, ?_, ?_⟩) (fun b u z => ?_) (fun b u z => ?_)
    · rw [List.size_toArray, hi.length]; exact hl
    · simpa using rv
    · cases (show (none : Option HO) = some u from z)
    · cases (show (none : Option HO) = some u from z)
end
/-- the end of a law: the promise of its def, with the script's bits told -/
theorem walk_g {l : PySem.W.OpenLaw} {n k : Nat} {q : Program} {loose : List Str} {XP : (Str → Option Value) → Heap → Prop} {YP : World → Heap → Prop} {d : DefRec} {K : Params → PySem.W.Frag} {sp : PySem.W.Frag → Sp} {y : Str} {st : Stmt}
    (hn : l.most = some n) (hn2 : n ≤ sizeLine) (hdf : d.params.defaults = []) (hr : Room k callerA) (hY : ∀ (w : World) (h : Heap), YP w h → (K w.params).In h)
    (F : ∀ (w : World) (mg : Str → Option Value) (h : Heap), (K w.params).In h → h.Ns mainGlobals mg → ∀ base : Heap, (K w.params).In base → base.Ns mainGlobals mg → Ok l.prog w (K w.params) mg base k d.name st [y] (sp (K w.params)))
    (B : ∀ (w : World) f fd, L2.Fun (K w.params) d.name d.name st f fd → L2.Binds (K w.params) fd [y] [])
    (hsp : ∀ (w : World) (H : Hp) (a : Addr) (ns : List Int), ns.length ≤ n → (∀ z ∈ ns, Builtin.Int.intBits z ≤ 1048576) → SqL (K w.params) H a (ns.map V.int) → sp (K w.params) [.ref a] H (fun v _ => v = .bl true) fun _ _ _ => False) :
    PySem.W.WalkO q loose XP YP l.row.toRowW d [] (fun f vs => PySem.call f vs) := by
  refine Att.attach_callB hn hdf fun w s₀ s₁ mg mb fa o pm cd doc a vs ns G Y ho hd hcd hmg hobj hints hlen hbits hg => ?_
  have KX := hY w _ Y
  exact law_g KX G.T.g G.T.b G.T.builtins G.T.nolimit hg hobj hints (Nat.le_trans hlen hn2) hr hmg (F w mg _ KX G.T.g) (B w) fun H hO hS => hsp w H a ns hlen hbits hS
end Vf

namespace Vf
open PySem PySem.Spec PyProof.Rows L2
/-! ## enumerate(t), t a tuple -/
section
open AutoSeq1 (wpAny_loadPart')
/-- what enumerate makes of a tuple: its iterator, then the object that counts -/
def enT (h : Heap) (a : Addr) : Heap := h.push { cls := .type "tuple_iterator", data := .fields #[.ref a, .int 0 0] }
def enE (h : Heap) : Obj := { cls := .type "enumerate", data := .fields #[.none, .bool false, .ref h.objs.size, rawInt 0, .none, .none] }
theorem meets_enT (a : Addr) (items : Array Value) (n : Nat) (dct : Option Addr) (sl : Array (Option Value)) :
    Meets (Builtin.«enumerate.__new__» ⟨[.type "enumerate", .ref a], []⟩)
      (fun _ R s => s.heap.get? a = some { cls := .type "tuple", dict := dct, data := .seq items n, slots := sl } ∧
        R (.ok (.ret (.ref (enT s.heap a).objs.size))) { s with heap := (enT s.heap a).push (enE s.heap) }) :=
  .of_wp fun prog w A R s h => by
    obtain ⟨hp, g, d, tk, os⟩ := s
    obtain ⟨ho, h⟩ := h
    have sub := sub_enumerate
    have tup : Heap.IsTuple (Shared.heap ⟨hp, g, d, tk, os⟩) a items := ⟨_, ho, rfl, n, rfl⟩
    wp_walk using wpAny_loadPart' ho
    refine wpAny_stack_any fun st => wpAny_pure ?_
    split
    · rename_i c _ _ _ _ _
      rcases (c == Value.type "enumerate") with _ | _
      · wp_walk using wpAny_loadPart' ho, wpAny_pyIter_tuple tup
        exact ⟨_, rfl, h⟩
      · wp_walk using wpAny_loadPart' ho, wpAny_pyIter_tuple tup
        exact ⟨_, rfl, h⟩
    · wp_walk using wpAny_loadPart' ho, wpAny_pyIter_tuple tup
      exact ⟨_, rfl, h⟩
end
section
variable {prog : Program} {w : World} {A : Around} {E : Value → Shared → Prop} {s : Shared}
theorem call_enT {a : Addr} {items : Array Value} {Q : Value → Shared → Prop} (tup : s.heap.IsTuple a items)
    (h : ∀ h', IsEnum h' (s.heap.objs.size + 1) s.heap.objs.size 0 .none → h'.IsTupleIter s.heap.objs.size a 0 →
      (∀ b o, s.heap.get? b = some o → h'.get? b = some o) → Q (.ref (s.heap.objs.size + 1)) { s with heap := h' }) :
    wpAny (model prog w) A (call (.type "enumerate") [.ref a]) Q E s := by
  obtain ⟨⟨c, dct, dt, sl⟩, ho, hc, n, hd⟩ := tup
  cases (show c = .type "tuple" from hc)
  cases (show dt = .seq items n from hd)
  have sz : (enT s.heap a).objs.size = s.heap.objs.size + 1 := Heap.size_push ..
  have it0 : (enT s.heap a).get? s.heap.objs.size = some { cls := .type "tuple_iterator", data := .fields #[.ref a, .int 0 0] } := Heap.get?_push_size _ rfl
  have en0 : ((enT s.heap a).push (enE s.heap)).get? (s.heap.objs.size + 1) = some (enE s.heap) := by
    rw [← sz]
    exact Heap.get?_push_size _ rfl
  refine callType_new F.called_enumerate (by decide) (F.typeCall_enumerate_1 _) (F.newCall_enumerate_1 _)
    (fun obj => F.args_object_init_2 obj _) F.entry_enumerate_new (meets_enT a items n dct sl) ⟨ho, ?_⟩
  show _ ∧ _
  rw [sz]
  exact ⟨⟨_, en0, rfl⟩, h _ en0 ⟨_, Heap.get?_push_of_some _ it0, rfl, rfl⟩ fun b o e => Heap.get?_push_of_some _ (Heap.get?_push_of_some _ e)⟩
end
theorem drawsT {prog : Program} {w : World} {A : Around} (hh : A.handled = none) (it a : Addr) (ne : a ≠ it) (items : Array Value) :
    Draws prog w A it [it, a] items.size (fun i v => items[i]? = some v) (fun i h => h.IsTupleIter it a i ∧ h.IsTuple a items) where
  live := fun i h st => by
    obtain ⟨⟨o, ho, _⟩, _⟩ := st
    exact ⟨o, ho⟩
  frame := fun i h h' st k => by
    obtain ⟨⟨o, ho, r⟩, ⟨o2, ho2, r2⟩⟩ := st
    exact ⟨⟨o, k it (by simp) o ho, r⟩, ⟨o2, k a (by simp) o2 ho2, r2⟩⟩
  item := fun i s Q E hi st q => RZ.nextOf_tuple_item st.1 st.2 (x := items[i]) (by simp [hi]) fun h' hit sb =>
    q _ h' s.toks (by simp [hi]) ⟨hit, by
      obtain ⟨o2, ho2, r2⟩ := st.2
      exact ⟨o2, (sb.2 a ne).trans ho2, r2⟩⟩ sb
  done := fun s Q E st q => RZ.nextOf_tuple_end hh st.1 st.2 (by simp) q
/-- the tuple at a, each item in a new pair with its place -/
def ItE (K : PySem.W.Frag) (a : Addr) : It :=
  ⟨fun i H => ∃ (xs : List V) (x : V), SqT K H a xs ∧ xs[i]? = some x,
   fun i H v H' => ∃ T x, v = .ref T ∧ H T = none ∧ H' = upd H T (.tup [.int (i : Nat), x]) ∧ ∀ xs, SqT K H a xs → xs[i]? = some x,
   fun i H => ∃ xs : List V, SqT K H a xs ∧ xs.length ≤ i⟩
def EnAt (a e it : Addr) (i : Nat) (h : Heap) : Prop := (∃ old, IsEnum h e it ((i : Nat) : Int) old) ∧ h.IsTupleIter it a i ∧ e ≠ it ∧ e ≠ a ∧ it ≠ a
theorem turn_enT {P : Program} {w : World} {K : PySem.W.Frag} {elts : List Expr} {kk : Nat} {tpos : Pos} (a e it : Addr) :
    Turn P w K (.Tuple elts kk tpos) (ItE K a) [e, it] e (EnAt a e it) where
  mem := List.mem_cons_self
  obj := fun i h st b hb => by
    obtain ⟨⟨old, he⟩, ⟨o, ho, hc, hd⟩, _⟩ := st
    rcases List.mem_cons.mp hb with rfl | hb
    · exact ⟨_, he, fun v q => nomatch q⟩
    · rw [List.mem_singleton.mp hb]
      exact ⟨o, ho, fun v q => by rw [hd] at q; cases q⟩
  keep := fun i h h' st k => by
    obtain ⟨⟨old, he⟩, ⟨o, ho, r⟩, n⟩ := st
    exact ⟨⟨old, k e (by simp) _ he⟩, ⟨o, k it (by simp) _ ho, r⟩, n⟩
  item := by
    intro X hP hw hK hc i pins s σ H E I hf st hg
    subst hP hw hK
    obtain ⟨⟨old, he⟩, hit, n1, n2, n3⟩ := st
    obtain ⟨xs, x, hq, hx⟩ := hg
    obtain ⟨its, rv, p, hz⟩ := I.tuple hq
    obtain ⟨u, hu, ru⟩ := rv.get hx
    have tup : s.heap.IsTuple a its.toArray := p
    have hel := Heap.lt_size he
    have hil : it < s.heap.objs.size := by
      obtain ⟨_, q, _⟩ := hit
      exact Heap.lt_size q
    have hi : i < its.toArray.size := by
      rw [List.size_toArray]
      exact (List.getElem?_eq_some_iff.mp hu).1
    refine wpAny_pyNext_enum_itemD (drawsT (A := X.A.in1) (I.ok.hd hc) it a n3.symm its.toArray) he ⟨hit, tup⟩ hi n1 (by simp [n1, n2]) fun y h' tk hy ho st' hT hsz hk => ?_
    have eyu : y = u := by
      have h1 : its[i]? = some y := by simpa using hy
      rw [hu] at h1
      exact (Option.some.inj h1).symm
    subst eyu
    refine ⟨_, rfl, wpAny_letOwnedTupleGo_enum (s := { s with heap := h', toks := tk + 1 }) ho fun h'' he' sb => ?_⟩
    have hT2 : h''.get? s.heap.objs.size = some { cls := .type "tuple", data := .seq #[.int i tk, y] } := (sb.2 _ (Nat.ne_of_gt hel)).trans hT
    have new : ObjOk X.prog X.w (upd H s.heap.objs.size (.tup [.int (i : Nat), x])) h'' s.heap.objs.size (.tup [.int (i : Nat), x]) :=
      ⟨by show 2 ≤ sizeLine; decide, [.int i tk, y], .cons ⟨_, rfl⟩ (.cons ru .nil), ⟨_, hT2, rfl, _, rfl⟩⟩
    have stay : ∀ b ob, b ∉ [e, it] → s.heap.get? b = some ob → h''.get? b = some ob := fun b ob hb q =>
      (sb.2 b (fun z => hb (by simp [z]))).trans (hk b ob (fun z => hb (by simp [z])) (fun z => hb (by simp [z])) q)
    have I1 := I.turnedNew (t' := tk + 1) (ch := [e, it]) stay hf (Nat.le_refl _) new
    refine ⟨.ref s.heap.objs.size, _, I1, rfl, ⟨_, x, rfl, I.hok.fresh (Nat.le_refl _), rfl, fun ys hy2 => by rw [I.tuple_inj hy2 hq]; exact hx⟩, ⟨⟨y, ?_⟩, ?_, n1, n2, n3⟩, fun b hb => ?_⟩
    · rw [show ((i + 1 : Nat) : Int) = (i : Int) + 1 by omega]
      exact he'
    · obtain ⟨o, ho2, r⟩ := st'.1
      exact ⟨o, (sb.2 it n1.symm).trans ho2, r⟩
    · have lt : b < s.heap.objs.size := by
        rcases List.mem_cons.mp hb with rfl | hb
        · exact hel
        · rw [List.mem_singleton.mp hb]; exact hil
      rw [upd_ne (Nat.ne_of_lt lt)]
      exact (hf b hb).1
  done := by
    intro X hP hw hK hc i pins s σ H E I hf st hg
    subst hP hw hK
    obtain ⟨⟨old, he⟩, hit, n1, n2, n3⟩ := st
    obtain ⟨xs, hq, hx⟩ := hg
    obtain ⟨its, rv, p, hz⟩ := I.tuple hq
    obtain ⟨f0, f1, f2, f3, f4, f5⟩ := hf it (by simp)
    have tup : s.heap.IsTuple a its.toArray := p
    have hT : s.TypeIs (.ref e) "enumerate" := ⟨_, he, rfl⟩
    have hl := rv.length
    unfold pyNext
    refine wpAny_bind (wpAny_attempt (wpAny_callSpecial?_slot (name := Str.ofString "__next__") hT F.slot_enumerate_next
      (wpAny_call_entry F.slot_enumerate_next hT F.entry_enumerate_next ?_ (F.args_enumerate_next_1 _))))
    show wpAny _ _ (field (.ref e) 2 >>= _) _ _ _
    refine wpAny_bind (wpAny_field he rfl (x := .ref it) rfl ?_)
    refine wpAny_bind (RZ.nextOf_tuple_end (A := X.A.in1) (I.ok.hd hc) hit tup (by simp; omega) fun h' z hb hz2 => ?_)
    obtain ⟨o, ho, hcl⟩ := hz2
    refine wpAny_bind (wpAny_isInstance (T := "StopIteration") (b := true) ⟨o, ho, hcl⟩ isSubtype_stop ?_)
    exact wpAny_pure ⟨rfl, I.turned (t' := s.toks) (fun b o hb2 q => hb b o hb2 q) f0 f1 f3 f4 f5⟩
  self := fun A i s Q E st h => by
    obtain ⟨⟨_, he⟩, _⟩ := st
    exact wpAny_pyIter_enum he h
def iEn (K : PySem.W.Frag) (ta : TA) : TI := fun σ H R => ta σ H fun vs H1 => ∃ a xs, vs = [.ref a] ∧ SqT K H1 a xs ∧ R (ItE K a) H1
theorem i_enT {X : Cx} {K : PySem.W.Frag} {e : Expr} {ta : TA} {p pos tpos : Pos} {elts : List Expr} {kk : Nat} (ek : X.K = K) (hg : Gl X "enumerate") (hm : X.mg "enumerate" = none) (ha : PA X [e] ta)
    (hs : starEach [e] X.env = [(false, eval e X.env)] := by rfl) : PI X (.Tuple elts kk tpos) (.Call (.Name "enumerate" p) [e] [] pos) (iEn K ta) := by
  subst ek
  refine ⟨fun pins s σ H R I h => ?_⟩
  refine Call_ (ld_blt I hg hm boot_enumerate (PyProof.Rows.callWith_type1 (thn (ha.run pos pins s σ H _ I h) fun us s1 ⟨vs, H1, I1, r1, q1⟩ => ?_) hs rfl))
  obtain ⟨a, xs, rfl, hq, q⟩ := q1
  have eu := Vals.ref1 r1
  subst eu
  obtain ⟨its, rv, tup, hz⟩ := I1.tuple hq
  have hal : a < s1.heap.objs.size := tup.lt
  refine call_enT tup fun h' he hit hk => wpAny_pyIter_enum he ?_
  refine ⟨s1.heap.objs.size + 1, [s1.heap.objs.size + 1, s1.heap.objs.size], EnAt a (s1.heap.objs.size + 1) s1.heap.objs.size, _, H1, rfl, I1.kept (t' := s1.toks) hk, turn_enT a _ _,
    ⟨⟨.none, he⟩, hit, Nat.succ_ne_self _, Nat.ne_of_gt (Nat.lt_succ_of_lt hal), Nat.ne_of_gt hal⟩, fun b hb => ?_, q⟩
  have le : s1.heap.objs.size ≤ b := by
    rcases List.mem_cons.mp hb with rfl | hb
    · exact Nat.le_succ _
    · rw [List.mem_singleton.mp hb]; exact Nat.le_refl _
  exact I1.fpOk le (I1.hok.fresh le)
/-- slices -/
theorem r_slL {K : PySem.W.Frag} {H : Hp} {Q : VK} {a : Addr} {xs : List V} {lo hi : Option Int} (hs : SqL K H a xs) (h : ∀ p, H p = none → Q (.ref p) (upd H p (.lst (cutV xs lo hi)))) : rSlL K (.ref a) lo hi H Q := ⟨a, xs, rfl, hs, h⟩
theorem r_sl {r : V → Option Int → Option Int → Hp → VK → Prop} {te : TE} {tl th : TO} {σ : L2.St} {H : Hp} {Q : VK} (h : te σ H fun x H1 => tl σ H1 fun l H2 => th σ H2 fun u H3 => r x l u H3 Q) : tSl r te tl th σ H Q := h
theorem r_noPart {σ : L2.St} {H : Hp} {R : Option Int → Hp → Prop} (h : R none H) : tNoPart σ H R := h
theorem r_part {t : TE} {σ : L2.St} {H : Hp} {R : Option Int → Hp → Prop} (h : t σ H fun x H1 => ∃ i, x = .int i ∧ R (some i) H1) : tPart t σ H R := h
theorem cut_to (xs : List V) (n : Nat) : cutV xs none (some (n : Int)) = xs.take n := by
  unfold cutV
  rw [HT.sIx_none, HT.sIx_nat, List.drop_zero, Nat.sub_zero]
  rcases Nat.le_total n xs.length with h | h
  · rw [Nat.min_eq_left h]
  · rw [Nat.min_eq_right h, List.take_length, List.take_of_length_le h]
/-- a walk of a tuple with its places -/
theorem r_forEn {K : PySem.W.Frag} {g : TG} {tb : TS} {D : Ends} {σ : L2.St} {H : Hp} {a : Addr} (xs : List V) (Pv : Nat → L2.St → Hp → Prop) (h0 : Pv 0 σ H) (hl : ∀ i σ H, i ≤ xs.length → Pv i σ H → SqT K H a xs)
    (hs : ∀ i x σ H T, xs[i]? = some x → Pv i σ H → H T = none → g (.ref T) σ (upd H T (.tup [.int (i : Nat), x])) fun σ2 H2 => tb { D with nx := Pv (i + 1), ct := Pv (i + 1), bk := D.nx } σ2 H2)
    (hd : ∀ σ H, Pv xs.length σ H → D.nx σ H) : tFor (fun _ H2 R => R (ItE K a) H2) g tb D σ H := by
  refine ⟨fun i m σ H => m = xs.length - i ∧ i ≤ xs.length ∧ Pv i σ H, ⟨xs.length, by omega, Nat.zero_le _, h0⟩, ?_⟩
  rintro i m σ H ⟨rfl, hi, p⟩
  have q := hl i σ H hi p
  by_cases lt : i < xs.length
  · refine Or.inr ⟨⟨xs, xs[i], q, by simp [lt]⟩, Pv (i + 1), fun σ' H' p' => ⟨xs.length - (i + 1), by omega, rfl, lt, p'⟩, fun x H' y => ?_⟩
    obtain ⟨T, z, rfl, nT, rfl, fz⟩ := y
    exact hs i z σ H T (fz xs q) p nT
  · have e : i = xs.length := by omega
    subst e
    exact Or.inl ⟨⟨xs, q, Nat.le_refl _⟩, hd σ H p⟩
theorem r_forE {K : PySem.W.Frag} {g : TG} {tb : TS} {D : Ends} {σ : L2.St} {H : Hp} {ta : TA} (h : ta σ H fun vs H1 => ∃ a xs, vs = [.ref a] ∧ SqT K H1 a xs ∧ tFor (fun _ H2 R => R (ItE K a) H2) g tb D σ H1) : tFor (iEn K ta) g tb D σ H := h
end Vf

namespace Vf
/-! ## the greatest common divisor as a sum of both -/
/-- behind the first turn: both rests have one sign s, the factors of the first number go up and down by turns -/
def Bl (y u nu l r : Int) : Prop := ∃ (s e : Int) (p q a b : Nat), (s = 1 ∨ s = -1) ∧ (e = 1 ∨ e = -1) ∧ l = s * a ∧ r = s * b ∧ u = e * p ∧ nu = -(e * q) ∧ p * b + q * a = y.natAbs ∧ b < a ∧ p ≤ y.natAbs ∧ a ≤ y.natAbs
structure Bz (x y u v nu nv l r : Int) : Prop where
  e1 : u * x + v * y = l
  e2 : nu * x + nv * y = r
  g : Nat.gcd l.natAbs r.natAbs = Nat.gcd x.natAbs y.natAbs
  st : (u = 1 ∧ v = 0 ∧ nu = 0 ∧ nv = 1 ∧ l = x ∧ r = y) ∨ (y ≠ 0 ∧ Bl y u nu l r)
theorem Bz.first (x y : Int) : Bz x y 1 0 0 1 x y := ⟨by omega, by omega, rfl, .inl ⟨rfl, rfl, rfl, rfl, rfl, rfl⟩⟩
theorem nat_gcd_sub (l r t : Int) : Nat.gcd r.natAbs (l - t * r).natAbs = Nat.gcd l.natAbs r.natAbs := by
  have h : Int.gcd r (l - t * r) = Int.gcd r l := Int.gcd_sub_mul_right_right r l t
  rw [show Nat.gcd r.natAbs (l - t * r).natAbs = Int.gcd r (l - t * r) from rfl, h, Int.gcd_comm]
  rfl
theorem sgn_abs {s : Int} (h : s = 1 ∨ s = -1) (n : Nat) : (s * n).natAbs = n := by
  rcases h with h | h <;> subst h <;> omega
theorem fmod_neg (l r : Int) (h : r < 0) : l.fmod r ≤ 0 ∧ r < l.fmod r := by
  have e := Int.neg_fmod_neg (-l) (-r)
  rw [Int.neg_neg, Int.neg_neg] at e
  have h1 := Int.fmod_nonneg_of_pos (-l) (show 0 < -r by omega)
  have h2 := Int.fmod_lt_of_pos (-l) (show 0 < -r by omega)
  omega
theorem Bl.step {y u nu l r : Int} (h : Bl y u nu l r) (hr : r ≠ 0) : Bl y nu (u - l.fdiv r * nu) r (l - l.fdiv r * r) := by
  obtain ⟨s, e, p, q, a, b, hs, he, hl, hrr, hu, hnu, hy, hab, hp, ha⟩ := h
  have hb : 0 < b := by
    rcases Nat.eq_zero_or_pos b with z | z
    · subst z
      exact absurd (by rw [hrr]; simp) hr
    · exact z
  have ht : l.fdiv r = ((a / b : Nat) : Int) := by
    rw [hl, hrr]
    rcases hs with z | z <;> subst z
    · rw [Int.one_mul, Int.one_mul, Int.fdiv_eq_ediv_of_nonneg _ (by omega)]
      rfl
    · rw [Int.neg_mul, Int.neg_mul, Int.one_mul, Int.one_mul, Int.neg_fdiv_neg, Int.fdiv_eq_ediv_of_nonneg _ (by omega)]
      rfl
  have hd := Nat.div_add_mod a b
  have hm := Nat.mod_lt a hb
  rw [ht]
  generalize a / b = d at *
  generalize a % b = m at *
  have hd' : (b : Int) * d + m = a := by rw [← hd, Int.natCast_add, Int.natCast_mul]
  refine ⟨s, -e, q, p + d * q, b, m, hs, by omega, hrr, ?_, ?_, ?_, ?_, hm, ?_, by omega⟩
  · rw [hl, hrr, ← hd']
    grind
  · rw [hnu]; grind
  · rw [hu, hnu, Int.natCast_add, Int.natCast_mul]; grind
  · rw [← hy, ← hd]; grind
  · rw [← hy]
    have : q * 1 ≤ q * a := Nat.mul_le_mul_left q (by omega)
    omega
theorem Bz.step {x y u v nu nv l r : Int} (h : Bz x y u v nu nv l r) (hr : r ≠ 0) :
    Bz x y nu nv (u - l.fdiv r * nu) (v - l.fdiv r * nv) r (l - l.fdiv r * r) ∧ (l - l.fdiv r * r).natAbs < r.natAbs := by
  have key : l - l.fdiv r * r = l.fmod r := by rw [Int.fmod_def, Int.mul_comm]
  have lt : (l - l.fdiv r * r).natAbs < r.natAbs := by
    rw [key]
    rcases Int.lt_or_gt_of_ne hr with z | z
    · have h1 := fmod_neg l r z
      omega
    · have h1 := Int.fmod_nonneg_of_pos l z
      have h2 := Int.fmod_lt_of_pos l z
      omega
  refine ⟨⟨h.e2, ?_, ?_, .inr ?_⟩, lt⟩
  · have h1 := h.e1
    have h2 := h.e2
    grind
  · rw [nat_gcd_sub]; exact h.g
  · rcases h.st with ⟨e1, e2, e3, e4, e5, e6⟩ | ⟨hy, b⟩
    · subst e1 e2 e3 e4 e5 e6
      refine ⟨hr, ?_⟩
      rcases Int.lt_or_gt_of_ne hr with z | z
      · have h1 := (fmod_neg l r z).1
        refine ⟨-1, -1, 0, 1, r.natAbs, (l - l.fdiv r * r).natAbs, .inr rfl, .inr rfl, by omega, by omega, by omega, by omega, by omega, lt, by omega, by omega⟩
      · have h1 := Int.fmod_nonneg_of_pos l z
        refine ⟨1, -1, 0, 1, r.natAbs, (l - l.fdiv r * r).natAbs, .inl rfl, .inr rfl, by omega, by omega, by omega, by omega, by omega, lt, by omega, by omega⟩
    · exact ⟨hy, b.step hr⟩
theorem abs_of_mul {v y : Int} {B : Nat} (hy : y ≠ 0) (h : (v * y).natAbs ≤ B) : v.natAbs ≤ B := by
  rw [Int.natAbs_mul] at h
  exact Nat.le_trans (Nat.le_mul_of_pos_right _ (by omega)) h
theorem Bz.bounds {x y u v nu nv l r : Int} {B : Nat} (h : Bz x y u v nu nv l r) (hx : x.natAbs ≤ B) (hy : y.natAbs ≤ B) (hB : 1 ≤ B) :
    u.natAbs ≤ B ∧ nu.natAbs ≤ B ∧ l.natAbs ≤ B ∧ r.natAbs ≤ B ∧ v.natAbs ≤ B + B * B ∧ nv.natAbs ≤ B + B * B := by
  rcases h.st with ⟨e1, e2, e3, e4, e5, e6⟩ | ⟨h0, s, e, p, q, a, b, hs, he, hl, hrr, hu, hnu, hyy, hab, hp, ha⟩
  · subst e1 e2 e3 e4 e5 e6
    refine ⟨by omega, by omega, hx, hy, by omega, by omega⟩
  · have q1 : q ≤ y.natAbs := by
      rw [← hyy]
      have : q * 1 ≤ q * a := Nat.mul_le_mul_left q (by omega)
      omega
    have hub : u.natAbs ≤ B := by rw [hu, sgn_abs he]; omega
    have hnub : nu.natAbs ≤ B := by rw [hnu, Int.natAbs_neg, sgn_abs he]; omega
    have ra : r.natAbs = b := by rw [hrr, sgn_abs hs]
    have la : l.natAbs = a := by rw [hl, sgn_abs hs]
    have mb : ∀ (f : Int), f.natAbs ≤ B → (f * x).natAbs ≤ B * B := fun f hf => by
      rw [Int.natAbs_mul]; exact Nat.mul_le_mul hf hx
    have m1 := mb u hub
    have m2 := mb nu hnub
    have e1 := h.e1
    have e2 := h.e2
    refine ⟨hub, hnub, by omega, by omega, abs_of_mul h0 (by omega), abs_of_mul h0 (by omega)⟩
end Vf

namespace Vf
/-! ## two rests made one -/
theorem emod_unique {x r n q : Int} (h : x = r + n * q) (h0 : 0 ≤ r) (h1 : r < n) : x % n = r := by
  rw [h, Int.add_mul_emod_self_left]
  exact Int.emod_eq_of_lt h0 h1
/-- u is, by the step, what turns b / g back -/
theorem merge_math {x b c g bt ct u w : Int} (hb : 0 < b) (hc : 0 < c) (hg : 0 < g) (eb : b = g * bt) (ec : c = g * ct) (hu : u * bt = 1 + ct * w) :
    (x % c - x % b) % g = 0 ∧ x % b + b * (((x % c - x % b) / g * (u % ct)) % ct) = x % (b * ct) := by
  have hct : 0 < ct := by
    rcases Int.lt_trichotomy ct 0 with z | z | z
    · have := Int.mul_neg_of_pos_of_neg hg z; omega
    · subst z; omega
    · exact z
  have d1 := Int.emod_add_mul_ediv x b
  have d2 := Int.emod_add_mul_ediv x c
  generalize hr : x % b = r at *
  generalize hs : x % c = s at *
  generalize x / b = q at *
  generalize x / c = v at *
  have hr0 : 0 ≤ r := by rw [← hr]; exact Int.emod_nonneg _ (by omega)
  have hrb : r < b := by rw [← hr]; exact Int.emod_lt_of_pos _ hb
  -- the difference of the rests is g times d
  have hd : s - r = g * (bt * q - ct * v) := by
    subst eb ec
    have h1 : g * (bt * q - ct * v) = g * bt * q - g * ct * v := by grind
    rw [h1]
    omega
  have e0 : (s - r) % g = 0 := by rw [hd]; exact Int.mul_emod_right g _
  refine ⟨e0, ?_⟩
  have e1 : (s - r) / g = bt * q - ct * v := by rw [hd]; exact Int.mul_ediv_cancel_left _ (by omega)
  rw [e1]
  -- times is q, by the step
  have e2 : ((bt * q - ct * v) * (u % ct)) % ct = q % ct := by
    rw [Int.mul_emod, Int.emod_emod_of_dvd _ (Int.dvd_refl ct), ← Int.mul_emod]
    have : (bt * q - ct * v) * u = q + ct * (w * q - v * u) := by grind
    rw [this, Int.add_mul_emod_self_left]
  rw [e2]
  have dq := Int.emod_add_mul_ediv q ct
  have t0 := Int.emod_nonneg q (show ct ≠ 0 by omega)
  have t1 := Int.emod_lt_of_pos q hct
  generalize q % ct = t at *
  generalize q / ct = k at *
  refine (emod_unique (q := k) ?_ ?_ ?_).symm
  · rw [← d1, ← dq]; grind
  · have := Int.mul_nonneg (show 0 ≤ b by omega) t0
    omega
  · have h2 : b * (t + 1) ≤ b * ct := Int.mul_le_mul_of_nonneg_left (by omega) (by omega)
    rw [Int.mul_add, Int.mul_one] at h2
    omega
/-- least common multiples of some bases -/
def lcmAll (fs : List (Int × Int)) : Nat := fs.foldl (fun m p => Nat.lcm m p.2.natAbs) 1
theorem lcmAll_append (fs gs : List (Int × Int)) : lcmAll (fs ++ gs) = gs.foldl (fun m p => Nat.lcm m p.2.natAbs) (lcmAll fs) := by
  unfold lcmAll
  rw [List.foldl_append]
theorem lcmAll_snoc (fs : List (Int × Int)) (p : Int × Int) : lcmAll (fs ++ [p]) = Nat.lcm (lcmAll fs) p.2.natAbs := lcmAll_append fs [p]
/-- facts that are right: a base from 1 on, a rest by it -/
def Fact (p : Int × Int) : Prop := 1 ≤ p.2 ∧ p.2 ≤ 10 ^ 30 ∧ 0 ≤ p.1 ∧ p.1 < p.2
theorem lcmAll_pos : ∀ (fs : List (Int × Int)) (m : Nat), (∀ p ∈ fs, Fact p) → 0 < m → 0 < fs.foldl (fun m p => Nat.lcm m p.2.natAbs) m
  | [], _, _, h => h
  | p :: fs, m, hf, h => by
    have hp := hf p List.mem_cons_self
    exact lcmAll_pos fs _ (fun q hq => hf q (List.mem_cons_of_mem _ hq)) (Nat.lcm_pos h (by have := hp.1; omega))
theorem lcm_le_mul (a b : Nat) : Nat.lcm a b ≤ a * b := Nat.div_le_self _ _
theorem lcmAll_le : ∀ (fs : List (Int × Int)) (m e : Nat), (∀ p ∈ fs, Fact p) → m ≤ 2 ^ e → fs.foldl (fun m p => Nat.lcm m p.2.natAbs) m ≤ 2 ^ (e + 100 * fs.length)
  | [], _, _, _, h => h
  | p :: fs, m, e, hf, h => by
    have hp := hf p List.mem_cons_self
    have h2 : p.2.natAbs ≤ 2 ^ 100 := by
      obtain ⟨h1, h2, _⟩ := hp
      omega
    have h3 : Nat.lcm m p.2.natAbs ≤ 2 ^ (e + 100) := by
      rw [Nat.pow_add]
      exact Nat.le_trans (lcm_le_mul _ _) (Nat.mul_le_mul h h2)
    have := lcmAll_le fs _ (e + 100) (fun q hq => hf q (List.mem_cons_of_mem _ hq)) h3
    have e1 : e + 100 + 100 * fs.length = e + 100 * (p :: fs).length := by rw [List.length_cons]; omega
    rw [e1] at this
    exact this
theorem dvd_lcmAll : ∀ (fs : List (Int × Int)) (m : Nat), m ∣ fs.foldl (fun m p => Nat.lcm m p.2.natAbs) m ∧ ∀ p ∈ fs, p.2.natAbs ∣ fs.foldl (fun m p => Nat.lcm m p.2.natAbs) m
  | [], m => ⟨Nat.dvd_refl m, fun _ h => nomatch h⟩
  | p :: fs, m => by
    obtain ⟨h1, h2⟩ := dvd_lcmAll fs (Nat.lcm m p.2.natAbs)
    refine ⟨Nat.dvd_trans (Nat.dvd_lcm_left _ _) h1, fun q hq => ?_⟩
    rcases List.mem_cons.mp hq with rfl | hq
    · exact Nat.dvd_trans (Nat.dvd_lcm_right _ _) h1
    · exact h2 q hq
theorem lcmAll_dvd : ∀ (fs : List (Int × Int)) (m d : Nat), m ∣ d → (∀ p ∈ fs, p.2.natAbs ∣ d) → fs.foldl (fun m p => Nat.lcm m p.2.natAbs) m ∣ d
  | [], _, _, h, _ => h
  | p :: fs, m, d, h, hf => lcmAll_dvd fs _ d (Nat.lcm_dvd h (hf p List.mem_cons_self)) fun q hq => hf q (List.mem_cons_of_mem _ hq)
/-- a number fits some facts -/
def Fits (x : Int) (fs : List (Int × Int)) : Prop := ∀ p ∈ fs, x % p.2 = p.1
/-- whoever fits the facts that x fits leaves the rest of x by their multiple -/
theorem fits_iff {x y : Int} {fs : List (Int × Int)} (hf : ∀ p ∈ fs, Fact p) (hx : Fits x fs) : Fits y fs ↔ (lcmAll fs : Int) ∣ y - x := by
  constructor
  · intro hy
    have : lcmAll fs ∣ (y - x).natAbs := by
      refine lcmAll_dvd fs 1 _ (Nat.one_dvd _) fun p hp => ?_
      have h := Int.emod_emod_of_dvd (y - x) (Int.dvd_refl p.2)
      have e : y % p.2 = x % p.2 := by rw [hx p hp, hy p hp]
      have d : p.2 ∣ y - x := Int.dvd_of_emod_eq_zero (Int.emod_eq_emod_iff_emod_sub_eq_zero.mp e)
      exact Int.natAbs_dvd_natAbs.mpr d
    exact Int.dvd_natAbs.mp (Int.natCast_dvd_natCast.mpr this)
  · intro h p hp
    rw [← hx p hp]
    refine Int.emod_eq_emod_iff_emod_sub_eq_zero.mpr (Int.emod_eq_zero_of_dvd ?_)
    have d := (dvd_lcmAll fs 1).2 p hp
    have d2 : (p.2.natAbs : Int) ∣ (lcmAll fs : Int) := Int.natCast_dvd_natCast.mpr d
    have e : (p.2.natAbs : Int) = p.2 := by have := (hf p hp).1; omega
    rw [e] at d2
    exact Int.dvd_trans d2 h
end Vf

namespace Vf
open PySem PySem.Spec PyProof.Rows L2
/-! ## tuples stay, whatever a list does -/
theorem Kx.tupI {K : PySem.W.Frag} {k : Addr} {H H' : Hp} {l : List V} {a : Addr} {xs : List V} (e : Kx k H H') (hk : H k = some (.lst l)) (h : SqT K H a xs) : SqT K H' a xs := by
  rcases h with (h | ⟨o, h⟩) | h
  · exact Or.inl (Or.inl (e _ _ (ne_of h hk (by intro z; cases z)) h))
  · exact Or.inl (Or.inr ⟨o, e _ _ (ne_of h hk (by intro z; cases z)) h⟩)
  · exact Or.inr h
/-- what keeps all tuples -/
def Tt (H H' : Hp) : Prop := ∀ (K : PySem.W.Frag) a xs, SqT K H a xs → SqT K H' a xs
theorem Tt.refl (H : Hp) : Tt H H := fun _ _ _ h => h
theorem Tt.trans {H H1 H2 : Hp} (a : Tt H H1) (b : Tt H1 H2) : Tt H H2 := fun K x xs h => b K x xs (a K x xs h)
theorem Same.tt {H H' : Hp} (s : Same H H') : Tt H H' := fun _ _ _ h => Same.tup s h
theorem Kx.tt {k : Addr} {H H' : Hp} {l : List V} (e : Kx k H H') (hk : H k = some (.lst l)) : Tt H H' := fun _ _ _ h => e.tupI hk h
theorem new_tt {H : Hp} {p : Addr} {o : HO} (h : H p = none) : Tt H (upd H p o) := Same.tt (Same.new h)
theorem upd_tt {H : Hp} {k : Addr} {l : List V} {o : HO} (hk : H k = some (.lst l)) : Tt H (upd H k o) := Kx.tt Kx.upd hk
/-! ## pairs of ints, tuples of them -/
def PairAt (K : PySem.W.Frag) (H : Hp) (v : V) (p : Int × Int) : Prop := ∃ t, v = .ref t ∧ SqT K H t [.int p.1, .int p.2]
def PairsAt (K : PySem.W.Frag) (H : Hp) (vs : List V) (fs : List (Int × Int)) : Prop := Paired (PairAt K H) vs fs
def FactsAt (K : PySem.W.Frag) (H : Hp) (a : Addr) (fs : List (Int × Int)) : Prop := ∃ vs, SqT K H a vs ∧ PairsAt K H vs fs
theorem PairAt.tt {K : PySem.W.Frag} {H H' : Hp} {v : V} {p : Int × Int} (h : PairAt K H v p) (e : Tt H H') : PairAt K H' v p := by
  obtain ⟨t, rfl, s⟩ := h
  exact ⟨t, rfl, e K t _ s⟩
theorem PairsAt.tt {K : PySem.W.Frag} {H H' : Hp} (e : Tt H H') : ∀ {vs : List V} {fs : List (Int × Int)}, PairsAt K H vs fs → PairsAt K H' vs fs
  | _, _, .nil => .nil
  | _, _, .cons r t => .cons (r.tt e) (PairsAt.tt e t)
theorem FactsAt.tt {K : PySem.W.Frag} {H H' : Hp} {a : Addr} {fs : List (Int × Int)} (h : FactsAt K H a fs) (e : Tt H H') : FactsAt K H' a fs := by
  obtain ⟨vs, s, p⟩ := h
  exact ⟨vs, e K a _ s, PairsAt.tt e p⟩
theorem PairsAt.length {K : PySem.W.Frag} {H : Hp} {vs : List V} {fs : List (Int × Int)} (h : PairsAt K H vs fs) : vs.length = fs.length := Paired.length h
theorem PairsAt.get {K : PySem.W.Frag} {H : Hp} : ∀ {vs : List V} {fs : List (Int × Int)} {i : Nat} {x : V}, PairsAt K H vs fs → vs[i]? = some x → ∃ p, fs[i]? = some p ∧ PairAt K H x p
  | _, _, _, _, .nil, e => by simp at e
  | _, _, 0, x, .cons (b := q) r _, e => by
    simp at e
    subst e
    exact ⟨q, rfl, r⟩
  | _, _, i + 1, x, .cons _ t, e => by
    obtain ⟨p, h1, h2⟩ := PairsAt.get (i := i) (x := x) t (by simpa using e)
    exact ⟨p, by simpa using h1, h2⟩
theorem PairsAt.at {K : PySem.W.Frag} {H : Hp} {vs : List V} {fs : List (Int × Int)} {i : Nat} {p : Int × Int} (h : PairsAt K H vs fs) (e : fs[i]? = some p) : ∃ x, vs[i]? = some x ∧ PairAt K H x p := by
  have hl := h.length
  have hi : i < vs.length := by
    rw [hl]
    exact (List.getElem?_eq_some_iff.mp e).1
  obtain ⟨q, h1, h2⟩ := h.get (List.getElem?_eq_getElem hi)
  rw [e] at h1
  cases h1
  exact ⟨_, List.getElem?_eq_getElem hi, h2⟩
theorem PairsAt.append {K : PySem.W.Frag} {H : Hp} : ∀ {vs ws : List V} {fs gs : List (Int × Int)}, PairsAt K H vs fs → PairsAt K H ws gs → PairsAt K H (vs ++ ws) (fs ++ gs)
  | _, _, _, _, .nil, s => s
  | _, _, _, _, .cons r t, s => .cons r (PairsAt.append t s)
/-- facts that are right, at most forty -/
def Facts (fs : List (Int × Int)) : Prop := fs.length ≤ 40 ∧ ∀ p ∈ fs, Fact p
theorem Facts.at {fs : List (Int × Int)} (h : Facts fs) {i : Nat} {p : Int × Int} (e : fs[i]? = some p) : Fact p := h.2 p (List.mem_of_getElem? e)
theorem Facts.lcm_pos {fs : List (Int × Int)} (h : Facts fs) : 0 < lcmAll fs := lcmAll_pos fs 1 h.2 (by decide)
theorem Facts.lcm_bits {fs : List (Int × Int)} (h : Facts fs) : lcmAll fs ≤ 2 ^ (100 * fs.length) := by
  have := lcmAll_le fs 1 0 h.2 (Nat.le_refl 1)
  rwa [Nat.zero_add] at this
/-- a number of so many bits that all can be reckoned with it -/
def Bt (n : Nat) (i : Int) : Prop := Builtin.Int.intBits i ≤ n
theorem Bt.mul {a b : Nat} {i j : Int} (h1 : Bt a i) (h2 : Bt b j) (h : a + b ≤ 100000000) : CMulX i j := by
  unfold Bt at h1 h2
  unfold CMulX
  omega
theorem Bt.of {a : Nat} {i : Int} (h : i.natAbs < 2 ^ a) : Bt a i := bit_of h
theorem Bt.mono {a b : Nat} {i : Int} (h : Bt a i) (l : a ≤ b) : Bt b i := Nat.le_trans h l
theorem pow_lt_of_le {a b n : Nat} (h : n ≤ 2 ^ a) (l : a < b) : n < 2 ^ b := Nat.lt_of_le_of_lt h (Nat.pow_lt_pow_right (by decide) l)
theorem Bt.le {a : Nat} {i : Int} (h : i.natAbs ≤ 2 ^ a) : Bt (a + 1) i := Bt.of (pow_lt_of_le h (Nat.lt_succ_self a))
/-! ## the law's jug -/
def Jug (n : Nat) (k : Addr) (H : Hp) : Prop := ∃ a b c : Int, H k = some (.lst [.int b, .int a, .int c]) ∧ KegOk a b c n
theorem Jug.mono {n m : Nat} {k : Addr} {H : Hp} (h : Jug n k H) (l : n ≤ m) : Jug m k H := by
  obtain ⟨a, b, c, e, o⟩ := h
  exact ⟨a, b, c, e, o.a0, o.ab, o.b0, o.bM, o.c0, by have := o.cn; omega⟩
theorem Jug.same {n : Nat} {k : Addr} {H H' : Hp} (h : Jug n k H) (s : Same H H') : Jug n k H' := by
  obtain ⟨a, b, c, e, o⟩ := h
  exact ⟨a, b, c, s _ _ e, o⟩
theorem Jug.new {n : Nat} {k p : Addr} {H : Hp} {o : HO} (h : Jug n k H) (hp : H p = none) : Jug n k (upd H p o) := h.same (Same.new hp)
theorem Jug.ne {n : Nat} {k p : Addr} {H : Hp} (h : Jug n k H) (hp : H p = none) : p ≠ k := by
  obtain ⟨a, b, c, e, o⟩ := h
  exact (ne_of_none e hp).symm
theorem Jug.tt {n : Nat} {k : Addr} {H H' : Hp} (h : Jug n k H) (e : Kx k H H') : Tt H H' := by
  obtain ⟨a, b, c, z, o⟩ := h
  exact e.tt z
theorem Jug.kx {n m : Nat} {k j : Addr} {H H' : Hp} (h : Jug n k H) (e : Kx j H H') (ne : k ≠ j) : Jug n k H' := by
  obtain ⟨a, b, c, z, o⟩ := h
  exact ⟨a, b, c, e _ _ ne z, o⟩
def sp_pour : Sp := fun vs H Q _ => ∃ (k : Addr) (u : Int) (n : Nat), vs = [.ref k, .int u] ∧ Jug n k H ∧ n ≤ 2 ^ 60 ∧ 0 < u ∧ u < 2 ^ 62 ∧
  ∀ f H', 0 ≤ f → f < u → Kx k H H' → Jug (n + 1) k H' → Q (.int f) H'
theorem i_pour {k : Addr} {u : Int} {H : Hp} {Q : VK} {E : XK} (n : Nat) (hk : Jug n k H) (hn : n ≤ 2 ^ 60) (h0 : 0 < u) (h1 : u < 2 ^ 62)
    (q : ∀ f H', 0 ≤ f → f < u → Kx k H H' → Jug (n + 1) k H' → Q (.int f) H') : sp_pour [.ref k, .int u] H Q E := ⟨k, u, n, rfl, hk, hn, h0, h1, q⟩
def sp_one_of (K : PySem.W.Frag) : Sp := fun vs H Q _ => ∃ (k t : Addr) (xs : List V) (n : Nat), vs = [.ref k, .ref t] ∧ Jug n k H ∧ n ≤ 2 ^ 60 ∧ t ≠ k ∧ SqL K H t xs ∧ 0 < xs.length ∧ xs.length ≤ 100000 ∧
  ∀ (i : Nat) (x : V) H', xs[i]? = some x → Kx k H H' → Jug (n + 1) k H' → Q x H'
theorem i_one_of {K : PySem.W.Frag} {k t : Addr} {H : Hp} {Q : VK} {E : XK} (n : Nat) (xs : List V) (hk : Jug n k H) (hn : n ≤ 2 ^ 60) (ht : t ≠ k) (hs : SqL K H t xs) (h0 : 0 < xs.length) (h1 : xs.length ≤ 100000)
    (q : ∀ (i : Nat) x H', xs[i]? = some x → Kx k H H' → Jug (n + 1) k H' → Q x H') : sp_one_of K [.ref k, .ref t] H Q E := ⟨k, t, xs, n, rfl, hk, hn, ht, hs, h0, h1, q⟩
def sp_jug (K : PySem.W.Frag) : Sp := fun vs H Q _ => ∃ (c : Addr) (ns : List Int) (j : Nat), vs = [.ref c, .int (j : Int)] ∧ SqL K H c (ns.map V.int) ∧ Script ns ∧ j ≤ 1000 ∧
  ∀ p H', Same H H' → H p = none → Jug 1 p H' → Q (.ref p) H'
theorem i_jug {K : PySem.W.Frag} {c : Addr} {H : Hp} {Q : VK} {E : XK} (ns : List Int) (j : Nat) (hs : SqL K H c (ns.map V.int)) (hn : Script ns) (hj : j ≤ 1000)
    (q : ∀ p H', Same H H' → H p = none → Jug 1 p H' → Q (.ref p) H') : sp_jug K [.ref c, .int (j : Int)] H Q E := ⟨c, ns, j, rfl, hs, hn, hj, q⟩
def sp_great : Sp := fun vs H Q _ => ∃ (k : Addr) (u : Int) (n : Nat), vs = [.ref k, .int u] ∧ Jug n k H ∧ n ≤ 2 ^ 59 ∧ 0 < u ∧
  ∀ f H', 0 ≤ f → f < u → f < 10 ^ 37 → Kx k H H' → Jug (n + 10) k H' → Q (.int f) H'
theorem i_great {k : Addr} {u : Int} {H : Hp} {Q : VK} {E : XK} (n : Nat) (hk : Jug n k H) (hn : n ≤ 2 ^ 59) (h0 : 0 < u)
    (q : ∀ f H', 0 ≤ f → f < u → f < 10 ^ 37 → Kx k H H' → Jug (n + 10) k H' → Q (.int f) H') : sp_great [.ref k, .int u] H Q E := ⟨k, u, n, rfl, hk, hn, h0, q⟩
end Vf

namespace Vf
open PySem PySem.Spec PyProof.Rows L2
/-! ## two walks in one comprehension -/
/-- the inner walk: item by item, then Nx -/
def Inn (D : Addr) (J1 : It) (g1 : TG) (tt1 : TT) (te : TE) (vs1 : List Nat) (σ2 : L2.St) (H4 : Hp) (Nx : Hp → Prop) : Prop :=
  ∃ W1 : Nat → Nat → Hp → Prop, (∃ m, W1 0 m H4) ∧ ∀ j k H, W1 j k H →
      (J1.stop j H ∧ Nx H) ∨ (J1.go j H ∧ ∃ Nx1 : Hp → Prop, (∀ H', Nx1 H' → ∃ k', k' < k ∧ W1 (j + 1) k' H') ∧ ∀ x H', J1.yld j H x H' → g1 x (wipe σ2 vs1) H' fun σ3 H5 => wipe σ3 vs1 = wipe σ2 vs1 ∧ tt1 σ3 H5 fun b H6 =>
        if b = true then te σ3 H6 fun y H7 => ∃ acc, H7 D = some (.lst acc) ∧ acc.length < sizeLine ∧ Nx1 (upd H7 D (.lst (acc ++ [y]))) else Nx1 H6)
theorem inn_range {D : Addr} {g1 : TG} {tt1 : TT} {te : TE} {vs1 : List Nat} {σ2 : L2.St} {H4 : Hp} {Nx : Hp → Prop} {lo : Int} {n : Nat} (Pv : Nat → Hp → Prop) (h0 : Pv 0 H4)
    (hs : ∀ j H, j < n → Pv j H → g1 (.int (lo + j)) (wipe σ2 vs1) H fun σ3 H5 => wipe σ3 vs1 = wipe σ2 vs1 ∧ tt1 σ3 H5 fun b H6 =>
        if b = true then te σ3 H6 fun y H7 => ∃ acc, H7 D = some (.lst acc) ∧ acc.length < sizeLine ∧ Pv (j + 1) (upd H7 D (.lst (acc ++ [y]))) else Pv (j + 1) H6)
    (hd : ∀ H, Pv n H → Nx H) : Inn D (Itr lo n) g1 tt1 te vs1 σ2 H4 Nx := by
  refine ⟨fun i m H => m = n - i ∧ i ≤ n ∧ Pv i H, ⟨n, by omega, Nat.zero_le _, h0⟩, ?_⟩
  rintro i m H ⟨rfl, hi, p⟩
  by_cases lt : i < n
  · refine Or.inr ⟨lt, Pv (i + 1), fun H' p' => ⟨n - (i + 1), by omega, rfl, lt, p'⟩, fun x H' y => ?_⟩
    obtain ⟨e, y⟩ := y
    subst e y
    exact hs i _ lt p
  · have e : i = n := by omega
    subst e
    exact Or.inl ⟨Nat.le_refl _, hd H p⟩
section
variable {σ : L2.St} {H : Hp} {Q : VK} {g g1 : TG} {tt tt1 : TT} {te : TE} {vs vs1 : List Nat} {wi1 : TI}
theorem r_lc2R {lo : Int} {n : Nat} (Pv : Addr → Nat → Hp → Prop) (h0 : ∀ D, H D = none → Pv D 0 (upd H D (.lst [])))
    (hs : ∀ D i H', H D = none → i < n → Pv D i H' → g (.int (lo + i)) (wipe σ vs) H' fun σ2 H2 => wipe σ2 vs = wipe σ vs ∧ tt σ2 H2 fun b H3 =>
      if b = true then wi1 σ2 H3 fun J1 H4 => Inn D J1 g1 tt1 te vs1 σ2 H4 (Pv D (i + 1)) else Pv D (i + 1) H3)
    (hd : ∀ D H', H D = none → Pv D n H' → Q (.ref D) H') : tLc2 (fun _ H2 R => R (Itr lo n) H2) g tt wi1 g1 tt1 te vs vs1 σ H Q := by
  refine fun D hD => ⟨fun i m H => m = n - i ∧ i ≤ n ∧ Pv D i H, ⟨n, by omega, Nat.zero_le _, h0 D hD⟩, ?_⟩
  rintro i m H' ⟨rfl, hi, p⟩
  by_cases lt : i < n
  · refine Or.inr ⟨lt, Pv D (i + 1), fun H' p' => ⟨n - (i + 1), by omega, rfl, lt, p'⟩, fun x H' y => ?_⟩
    obtain ⟨e, y⟩ := y
    subst e y
    exact hs D i _ hD lt p
  · have e : i = n := by omega
    subst e
    exact Or.inl ⟨Nat.le_refl _, hd D H' hD p⟩
theorem r_lc2R1 {ta : TA} (h : ta σ H fun ws H1 => ∃ j : Int, ws = [.int j] ∧ -(2 ^ 62) ≤ j ∧ j < 2 ^ 62 ∧ tLc2 (fun _ H2 R => R (Itr 0 j.toNat) H2) g tt wi1 g1 tt1 te vs vs1 σ H1 Q) : tLc2 (iRng1 ta) g tt wi1 g1 tt1 te vs vs1 σ H Q := h
theorem r_w2 {ta : TA} {R : It → Hp → Prop} (h : ta σ H fun ws H1 => ∃ i j : Int, ws = [.int i, .int j] ∧ (-(2 ^ 62) ≤ i ∧ i < 2 ^ 62 ∧ -(2 ^ 62) ≤ j ∧ j < 2 ^ 62) ∧ R (Itr i (j - i).toNat) H1) : iRng2 ta σ H R := h
end
theorem is_T_T {K : PySem.W.Frag} {H : Hp} {Q : VK} {a : Addr} {xs : List V} (hs : SqT K H a xs) (h : Q (.bl true) H) : rIsi K [.ref a, .ty "tuple"] H Q := by
  have t : TyX K H (.ref a) (.type "tuple") := by
    rcases hs with (e | ⟨o, e⟩) | ⟨o, _, _, e, c, _⟩
    · exact .base (.tup e)
    · exact .fTuple e
    · exact .kTuple e c
  exact r_isi (.ty "tuple") t (kit_ty (by decide +kernel)) h
theorem r_bm {K : PySem.W.Frag} {T : String} {r : V → List V → Hp → VK → Prop} {to : TE} {t : TA} {σ : L2.St} {H : Hp} {Q : VK} (h : to σ H fun x H1 => tyV K T x H1 ∧ t σ H1 fun xs H2 => r x xs H2 Q) : tBM K T r to t σ H Q := h
theorem r_app {H : Hp} {Q : VK} {l : Addr} {xs : List V} {y : V} (e : H l = some (.lst xs)) (hz : xs.length ≤ 100000) (h : Q .non (upd H l (.lst (xs ++ [y])))) : rAppend (.ref l) [y] H Q :=
  ⟨l, xs, y, rfl, rfl, e, Nat.lt_of_le_of_lt hz (by decide), h⟩
/-! ## how great all that is reckoned can get -/
def Bq : Nat := 2 ^ 4001
theorem Bq_one : 1 ≤ Bq := by decide +kernel
theorem Bq_two : 2 * Bq < 2 ^ 4003 := by decide +kernel
theorem Bq_sq : Bq + Bq * Bq < 2 ^ 8010 := by decide +kernel
theorem Bq_lt : Bq < 2 ^ 4003 := by decide +kernel
theorem Bq_90 : Bq < 2 ^ 9000 := by decide +kernel
theorem Facts.lcm_Bq {fs : List (Int × Int)} (h : ∀ p ∈ fs, Fact p) (hl : fs.length ≤ 40) : lcmAll fs ≤ Bq := by
  refine Nat.le_trans (Facts.lcm_bits ⟨hl, h⟩) (Nat.pow_le_pow_right (by decide) ?_)
  omega
theorem Bq_div {i j : Int} (h0 : 0 < j) (h : j.natAbs ≤ Bq) : CDivW i j := wide_div (b := 4003) h0 (Nat.lt_of_le_of_lt h Bq_lt) (by decide) (by decide)
theorem Bq_bits {i : Int} (h : i.natAbs ≤ Bq) : Builtin.Int.intBits i ≤ 4003 := bit_of (Nat.lt_of_le_of_lt h Bq_lt)
theorem lcmAll_small : ∀ (fs : List (Int × Int)) (m e : Nat), (∀ p ∈ fs, p.2.natAbs ≤ 2 ^ 6) → m ≤ 2 ^ e → fs.foldl (fun m p => Nat.lcm m p.2.natAbs) m ≤ 2 ^ (e + 6 * fs.length)
  | [], _, _, _, h => h
  | p :: fs, m, e, hf, h => by
    have h3 : Nat.lcm m p.2.natAbs ≤ 2 ^ (e + 6) := by
      rw [Nat.pow_add]
      exact Nat.le_trans (lcm_le_mul _ _) (Nat.mul_le_mul h (hf p List.mem_cons_self))
    have := lcmAll_small fs _ (e + 6) (fun q hq => hf q (List.mem_cons_of_mem _ hq)) h3
    have e1 : e + 6 + 6 * fs.length = e + 6 * (p :: fs).length := by rw [List.length_cons]; omega
    rw [e1] at this
    exact this
/-- drawn facts: at most four, of small bases -/
def Drawn (fs : List (Int × Int)) : Prop := fs.length ≤ 4 ∧ ∀ p ∈ fs, 1 ≤ p.2 ∧ p.2 ≤ 36 ∧ 0 ≤ p.1 ∧ p.1 < p.2
theorem Drawn.facts {fs : List (Int × Int)} (h : Drawn fs) : Facts fs := by
  refine ⟨by have := h.1; omega, fun p hp => ?_⟩
  obtain ⟨h1, h2, h3, h4⟩ := h.2 p hp
  exact ⟨h1, by omega, h3, h4⟩
theorem Drawn.lcm {fs : List (Int × Int)} (h : Drawn fs) : lcmAll fs ≤ 2 ^ 24 := by
  have := lcmAll_small fs 1 0 (fun p hp => by have := h.2 p hp; omega) (Nat.le_refl 1)
  refine Nat.le_trans this (Nat.pow_le_pow_right (by decide) ?_)
  have := h.1
  omega
end Vf

namespace Vf
open PySem PySem.Spec PyProof.Rows L2
/-! ## zip(t, u) of two tuples, each pair under one name -/
/-- a zip in any state: what it gave out last, whether it knows that this lives -/
def Zst (h : Heap) (u TI TO : Addr) (f0 f1 : Value) : Prop := h.get? u = some ⟨.type "zip", none, .fields #[f0, f1, .bool false, .ref TI, .ref TO], #[]⟩
def Out (f0 : Value) : Prop := f0 = .none ∨ ∃ T : Nat, f0 = rawInt (T : Int)
def Flag (f1 : Value) : Prop := ∃ b, f1 = .bool b
section
variable {prog : Program} {w : World} {A : Around} {E : Value → Shared → Prop} {s : Shared}
theorem alive_any {a : Addr} {Q : Option Obj → Shared → Prop} (h : Q (s.heap.get? a) s) : wpAny (model prog w) A (loadIfAlive a) Q E s := fun _ _ _ => h
theorem z_free {u TI TO : Addr} {f0 f1 : Value} {Q : Bool → Shared → Prop} (o0 : Out f0) (o1 : Flag f1) (zz : Zst s.heap u TI TO f0 f1) (h1 : Q true s)
    (h2 : ∀ h' g1, Flag g1 → Zst h' u TI TO f0 g1 → Heap.SameBut u s.heap h' → Q false { s with heap := h' }) : wpAny (model prog w) A (Builtin.SmallTypes.ownedTupleIsFree (.ref u)) Q E s := by
  unfold Builtin.SmallTypes.ownedTupleIsFree
  refine wpAny_bind (wpAny_field (x := f0) zz rfl rfl ?_)
  rcases o0 with e | ⟨T, e⟩
  · subst e
    exact wpAny_pure h1
  · subst e
    show wpAny _ _ (loadIfAlive _ >>= _) _ _ _
    refine wpAny_bind (alive_any ?_)
    cases s.heap.get? (T : Int).toNat with
    | none => exact wpAny_pure h1
    | some o =>
      obtain ⟨b, e⟩ := o1
      subst e
      show wpAny _ _ (field (.ref u) 1 >>= _) _ _ _
      refine wpAny_bind (wpAny_field (x := .bool b) zz rfl rfl ?_)
      cases b with
      | true => exact wpAny_pure (h2 s.heap _ ⟨true, rfl⟩ zz (Heap.SameBut.refl _ _))
      | false =>
        exact wpAny_bind (wpAny_setField_rec zz (by simp) fun h' z' sb => wpAny_pure (h2 h' _ ⟨true, rfl⟩ z' sb))
/-- what a turn leaves -/
def ZNext (s : Shared) (u TI TO i1 i2 l1 l2 : Addr) (k1 k2 : Nat) (x y : Value) (h' : Heap) : Prop :=
  (∃ g0 g1, Out g0 ∧ Flag g1 ∧ Zst h' u TI TO g0 g1) ∧ (∃ a b, IsPair h' TO a b) ∧ h'.IsTupleIter i1 l1 (k1 + 1) ∧ h'.IsTupleIter i2 l2 (k2 + 1) ∧ IsPair h' s.heap.objs.size x y ∧ h'.objs.size = s.heap.objs.size + 1 ∧
    ∀ c o, c ≠ u → c ≠ TO → c ≠ i1 → c ≠ i2 → s.heap.get? c = some o → h'.get? c = some o
theorem zn_item {u TI TO i1 i2 l1 l2 : Addr} {f0 f1 : Value} {k1 k2 : Nat} {xs ys : Array Value} {x y a b : Value} {Q : Value → Shared → Prop} (D : ZipApart u TI TO i1 i2 l1 l2) (o0 : Out f0) (o1 : Flag f1)
    (zz : Zst s.heap u TI TO f0 f1) (ti : IsPair s.heap TI (.ref i1) (.ref i2)) (to : IsPair s.heap TO a b) (h1 : s.heap.IsTupleIter i1 l1 k1) (h2 : s.heap.IsTupleIter i2 l2 k2)
    (t1 : s.heap.IsTuple l1 xs) (t2 : s.heap.IsTuple l2 ys) (ex : xs[k1]? = some x) (ey : ys[k2]? = some y) (q : ∀ h', ZNext s u TI TO i1 i2 l1 l2 k1 k2 x y h' → Q (.ref s.heap.objs.size) { s with heap := h' }) :
    wpAny (model prog w) A (Builtin.«zip.__next__» ⟨[.ref u], []⟩) (fun r s' => ∃ v, r = .done (.ret v) ∧ Q v s') E s := by
  show wpAny _ _ (field (.ref u) 2 >>= _) _ _ _
  refine wpAny_bind (wpAny_field (x := .bool false) zz rfl rfl ?_)
  show wpAny _ _ (field (.ref u) 3 >>= _) _ _ _
  refine wpAny_bind (wpAny_field (x := .ref TI) zz rfl rfl ?_)
  refine wpAny_bind (wpAny_seqItems ti rfl ?_)
  show wpAny _ _ (Builtin.SmallTypes.ownedTupleIsFree (.ref u) >>= _) _ _ _
  refine wpAny_bind (z_free o0 o1 zz ?_ fun m1 g1 og zm sb1 => ?_)
  · simp only [if_true]
    refine wpAny_bind <| wpAny_rule ?_
    refine wpAny_bind (wpAny_field (x := .ref TO) zz rfl rfl ?_)
    refine wpAny_bind (wpAny_setField_rec zz (by simp) fun m1 zm sb1 => ?_)
    replace zm : Zst m1 u TI TO .ellipsis f1 := zm
    refine wpAny_bind ?_
    rw [List.zipIdx_cons, List.zipIdx_cons, List.zipIdx_nil]
    simp only [List.forIn_cons, List.forIn_nil]
    refine wpAny_bind <| wpAny_bind <| wpAny_onRaise ?_
    show wpAny _ _ (Builtin.SmallTypes.nextOf (Value.ref i1) >>= _) _ _ _
    refine wpAny_bind (RZ.nextOf_tuple_item (h1.extBut sb1.extBut D.i1z) (t1.extBut sb1.extBut D.l1z) ex fun m2 n1 sb2 => wpAny_pure ?_)
    have to2 : IsPair m2 TO a b := sb2.extBut _ _ D.TOi1 (sb1.extBut _ _ D.TOz to)
    refine wpAny_bind (wpAny_seqItems to2 rfl ?_)
    refine wpAny_bind (wpAny_updateSeq_pair to2 fun m3 to3 sb3 => ?_)
    replace to3 : IsPair m3 TO x b := to3
    refine wpAny_bind <| wpAny_letGo <| wpAny_pure ?_
    refine wpAny_bind <| wpAny_bind <| wpAny_onRaise ?_
    show wpAny _ _ (Builtin.SmallTypes.nextOf (Value.ref i2) >>= _) _ _ _
    have p2 : m3.IsTupleIter i2 l2 k2 := ((h2.extBut sb1.extBut D.i2z).extBut sb2.extBut D.i12.symm).extBut sb3.extBut D.TOi2.symm
    have q2 : m3.IsTuple l2 ys := ((t2.extBut sb1.extBut D.l2z).extBut sb2.extBut D.l2i1).extBut sb3.extBut D.l2TO
    refine wpAny_bind (RZ.nextOf_tuple_item p2 q2 ey fun m4 n2 sb4 => wpAny_pure ?_)
    have to4 : IsPair m4 TO x b := sb4.extBut _ _ D.TOi2 to3
    refine wpAny_bind (wpAny_seqItems to4 rfl ?_)
    refine wpAny_bind (wpAny_updateSeq_pair to4 fun m5 to5 sb5 => ?_)
    replace to5 : IsPair m5 TO x y := to5
    refine wpAny_bind <| wpAny_letGo <| wpAny_pure <| wpAny_pure ?_
    refine wpAny_bind (wpAny_seqItems to5 rfl ?_)
    refine wpAny_bind <| wpAny_newTuple ?_
    have sz : m5.objs.size = s.heap.objs.size := by rw [sb5.1, sb4.1, sb3.1, sb2.1, sb1.1]
    have z5 : Zst m5 u TI TO .ellipsis f1 := sb5.extBut _ _ D.TOz.symm (sb4.extBut _ _ D.i2z.symm (sb3.extBut _ _ D.TOz.symm (sb2.extBut _ _ D.i1z.symm zm)))
    have k5 : ∀ c o, c ≠ u → c ≠ TO → c ≠ i1 → c ≠ i2 → s.heap.get? c = some o → m5.get? c = some o := fun c o c1 c2 c3 c4 e => sb5.extBut _ _ c2 (sb4.extBut _ _ c4 (sb3.extBut _ _ c2 (sb2.extBut _ _ c3 (sb1.extBut _ _ c1 e))))
    have r1 : m5.IsTupleIter i1 l1 (k1 + 1) := ((n1.extBut sb3.extBut D.TOi1.symm).extBut sb4.extBut D.i12).extBut sb5.extBut D.TOi1.symm
    have r2 : m5.IsTupleIter i2 l2 (k2 + 1) := n2.extBut sb5.extBut D.TOi2.symm
    have ul : u < m5.objs.size := Heap.lt_size z5
    show wpAny _ _ (Builtin.SmallTypes.ownedTupleHandOut (.ref u) (.ref m5.objs.size) >>= _) _ _ _
    refine wpAny_bind ?_
    unfold Builtin.SmallTypes.ownedTupleHandOut
    have z6 : Zst (m5.push { cls := .type "tuple", data := .seq #[x, y] }) u TI TO .ellipsis f1 := Heap.get?_push_of_some _ z5
    refine wpAny_bind (wpAny_setField_rec z6 (by simp) fun m7 z7 sb7 => ?_)
    replace z7 : Zst m7 u TI TO (rawInt m5.objs.size) f1 := z7
    refine wpAny_setField_rec z7 (by simp) fun m8 z8 sb8 => ?_
    replace z8 : Zst m8 u TI TO (rawInt m5.objs.size) (.bool false) := z8
    have up : ∀ c o, c ≠ u → m5.get? c = some o → m8.get? c = some o := fun c o c1 e => sb8.extBut _ _ c1 (sb7.extBut _ _ c1 (Heap.get?_push_of_some _ e))
    have np : IsPair m8 m5.objs.size x y := sb8.extBut _ _ (Nat.ne_of_gt ul) (sb7.extBut _ _ (Nat.ne_of_gt ul) (Heap.get?_push_size _ rfl))
    have sz8 : m8.objs.size = m5.objs.size + 1 := by rw [sb8.1, sb7.1, Heap.size_push]
    refine wpAny_pure ⟨_, rfl, ?_⟩
    show Q (.ref m5.objs.size) _
    rw [sz] at z8 np sz8 ⊢
    exact q m8 ⟨⟨_, _, .inr ⟨_, rfl⟩, ⟨_, rfl⟩, z8⟩, ⟨x, y, up _ _ D.TOz to5⟩, r1.at fun o e => up _ o D.i1z e, r2.at fun o e => up _ o D.i2z e, np, sz8, fun c o c1 c2 c3 c4 e => up c o c1 (k5 c o c1 c2 c3 c4 e)⟩
  · simp only [Bool.false_eq_true, if_false]
    refine wpAny_bind ?_
    rw [← Array.forIn_toList]
    simp only [List.forIn_cons, List.forIn_nil]
    refine wpAny_bind <| wpAny_bind <| wpAny_holding ?_
    show wpAny _ _ (Builtin.SmallTypes.nextOf (Value.ref i1) >>= _) _ _ _
    refine wpAny_bind (RZ.nextOf_tuple_item (s := { s with heap := m1 }) (h1.extBut sb1.extBut D.i1z) (t1.extBut sb1.extBut D.l1z) ex fun m2 n1 sb2 => wpAny_pure ?_)
    refine wpAny_pure ?_
    refine wpAny_bind <| wpAny_bind <| wpAny_holding ?_
    show wpAny _ _ (Builtin.SmallTypes.nextOf (Value.ref i2) >>= _) _ _ _
    refine wpAny_bind (RZ.nextOf_tuple_item (s := { s with heap := m2 }) ((h2.extBut sb1.extBut D.i2z).extBut sb2.extBut D.i12.symm) ((t2.extBut sb1.extBut D.l2z).extBut sb2.extBut D.l2i1) ey fun m3 n2 sb3 => wpAny_pure ?_)
    refine wpAny_pure <| wpAny_pure ?_
    show wpAny _ _ (newTuple [x, y] >>= _) _ _ _
    refine wpAny_bind <| wpAny_newTuple ?_
    have sz : m3.objs.size = s.heap.objs.size := by rw [sb3.1, sb2.1, sb1.1]
    have z3 : Zst m3 u TI TO f0 g1 := sb3.extBut _ _ D.i2z.symm (sb2.extBut _ _ D.i1z.symm zm)
    have k3 : ∀ c o, c ≠ u → c ≠ i1 → c ≠ i2 → s.heap.get? c = some o → m3.get? c = some o := fun c o c1 c2 c3 e => sb3.extBut _ _ c3 (sb2.extBut _ _ c2 (sb1.extBut _ _ c1 e))
    have r1 : m3.IsTupleIter i1 l1 (k1 + 1) := n1.extBut sb3.extBut D.i12
    refine wpAny_pure ⟨_, rfl, ?_⟩
    show Q (.ref m3.objs.size) _
    have np : IsPair (m3.push { cls := .type "tuple", data := .seq #[x, y] }) m3.objs.size x y := Heap.get?_push_size _ rfl
    have sz4 : (m3.push { cls := .type "tuple", data := .seq #[x, y] }).objs.size = m3.objs.size + 1 := Heap.size_push ..
    rw [sz] at np sz4 ⊢
    exact q _ ⟨⟨_, _, o0, og, Heap.get?_push_of_some _ z3⟩, ⟨a, b, Heap.get?_push_of_some _ (k3 _ _ D.TOz D.TOi1 D.TOi2 to)⟩, r1.at fun o e => Heap.get?_push_of_some _ e, n2.at fun o e => Heap.get?_push_of_some _ e, np, sz4,
      fun c o c1 _ c3 c4 e => Heap.get?_push_of_some _ (k3 c o c1 c3 c4 e)⟩
/-- what the end leaves -/
def ZEnd (s : Shared) (u TO i1 i2 : Addr) (h' : Heap) : Prop := ∀ c o, c ≠ u → c ≠ TO → c ≠ i1 → c ≠ i2 → s.heap.get? c = some o → h'.get? c = some o
theorem zn_end {u TI TO i1 i2 l1 l2 : Addr} {f0 f1 : Value} {k1 k2 : Nat} {xs ys : Array Value} {a b : Value} {Q : Fin → Shared → Prop} (hh : A.handled = none) (D : ZipApart u TI TO i1 i2 l1 l2) (o0 : Out f0) (o1 : Flag f1)
    (zz : Zst s.heap u TI TO f0 f1) (ti : IsPair s.heap TI (.ref i1) (.ref i2)) (to : IsPair s.heap TO a b) (h1 : s.heap.IsTupleIter i1 l1 k1) (h2 : s.heap.IsTupleIter i2 l2 k2)
    (t1 : s.heap.IsTuple l1 xs) (t2 : s.heap.IsTuple l2 ys) (no : xs[k1]? = none ∨ ys[k2]? = none) (q : ∀ h' e, ZEnd s u TO i1 i2 h' → (∃ o, h'.get? e = some o ∧ o.cls = .type "StopIteration") → E (.ref e) { s with heap := h' }) :
    wpAny (model prog w) A (Builtin.«zip.__next__» ⟨[.ref u], []⟩) Q E s := by
  show wpAny _ _ (field (.ref u) 2 >>= _) _ _ _
  refine wpAny_bind (wpAny_field (x := .bool false) zz rfl rfl ?_)
  show wpAny _ _ (field (.ref u) 3 >>= _) _ _ _
  refine wpAny_bind (wpAny_field (x := .ref TI) zz rfl rfl ?_)
  refine wpAny_bind (wpAny_seqItems ti rfl ?_)
  show wpAny _ _ (Builtin.SmallTypes.ownedTupleIsFree (.ref u) >>= _) _ _ _
  refine wpAny_bind (z_free o0 o1 zz ?_ fun m1 g1 og zm sb1 => ?_)
  · simp only [if_true]
    refine wpAny_bind <| wpAny_rule ?_
    refine wpAny_bind (wpAny_field (x := .ref TO) zz rfl rfl ?_)
    refine wpAny_bind (wpAny_setField_rec zz (by simp) fun m1 zm sb1 => ?_)
    replace zm : Zst m1 u TI TO .ellipsis f1 := zm
    refine wpAny_bind ?_
    rw [List.zipIdx_cons, List.zipIdx_cons, List.zipIdx_nil]
    simp only [List.forIn_cons, List.forIn_nil]
    refine wpAny_bind <| wpAny_bind <| wpAny_onRaise ?_
    show wpAny _ _ (Builtin.SmallTypes.nextOf (Value.ref i1) >>= _) _ _ _
    cases ex : xs[k1]? with
    | none =>
      refine wpAny_bind (RZ.nextOf_tuple_end hh (h1.extBut sb1.extBut D.i1z) (t1.extBut sb1.extBut D.l1z) ex fun m2 e sb2 se => ?_)
      obtain ⟨oe, e1, e2⟩ := se
      have z2 : Zst m2 u TI TO .ellipsis f1 := sb2 _ _ D.i1z.symm zm
      have ne : e ≠ u := fun eq => by
        subst eq
        rw [show m2.get? e = _ from z2] at e1
        cases e1
        simp at e2
      exact wpAny_setField_rec z2 (by simp) fun m3 _ sb3 => q m3 e (fun c o c1 _ c3 _ eq => sb3.extBut _ _ c1 (sb2 _ _ c3 (sb1.extBut _ _ c1 eq))) ⟨oe, sb3.extBut _ _ ne e1, e2⟩
    | some x =>
      have ey : ys[k2]? = none := by
        rcases no with n | n
        · rw [ex] at n; cases n
        · exact n
      refine wpAny_bind (RZ.nextOf_tuple_item (h1.extBut sb1.extBut D.i1z) (t1.extBut sb1.extBut D.l1z) ex fun m2 n1 sb2 => wpAny_pure ?_)
      have to2 : IsPair m2 TO a b := sb2.extBut _ _ D.TOi1 (sb1.extBut _ _ D.TOz to)
      refine wpAny_bind (wpAny_seqItems to2 rfl ?_)
      refine wpAny_bind (wpAny_updateSeq_pair to2 fun m3 to3 sb3 => ?_)
      refine wpAny_bind <| wpAny_letGo <| wpAny_pure ?_
      refine wpAny_bind <| wpAny_bind <| wpAny_onRaise ?_
      show wpAny _ _ (Builtin.SmallTypes.nextOf (Value.ref i2) >>= _) _ _ _
      have p2 : m3.IsTupleIter i2 l2 k2 := ((h2.extBut sb1.extBut D.i2z).extBut sb2.extBut D.i12.symm).extBut sb3.extBut D.TOi2.symm
      have q2 : m3.IsTuple l2 ys := ((t2.extBut sb1.extBut D.l2z).extBut sb2.extBut D.l2i1).extBut sb3.extBut D.l2TO
      refine wpAny_bind (RZ.nextOf_tuple_end hh p2 q2 ey fun m4 e sb4 se => ?_)
      obtain ⟨oe, e1, e2⟩ := se
      have z4 : Zst m4 u TI TO .ellipsis f1 := sb4 _ _ D.i2z.symm (sb3.extBut _ _ D.TOz.symm (sb2.extBut _ _ D.i1z.symm zm))
      have ne : e ≠ u := fun eq => by
        subst eq
        rw [show m4.get? e = _ from z4] at e1
        cases e1
        simp at e2
      exact wpAny_setField_rec z4 (by simp) fun m5 _ sb5 => q m5 e (fun c o c1 c2 c3 c4 eq => sb5.extBut _ _ c1 (sb4 _ _ c4 (sb3.extBut _ _ c2 (sb2.extBut _ _ c3 (sb1.extBut _ _ c1 eq))))) ⟨oe, sb5.extBut _ _ ne e1, e2⟩
  · simp only [Bool.false_eq_true, if_false]
    refine wpAny_bind ?_
    rw [← Array.forIn_toList]
    simp only [List.forIn_cons, List.forIn_nil]
    refine wpAny_bind <| wpAny_bind <| wpAny_holding ?_
    show wpAny _ _ (Builtin.SmallTypes.nextOf (Value.ref i1) >>= _) _ _ _
    cases ex : xs[k1]? with
    | none =>
      exact wpAny_bind (RZ.nextOf_tuple_end (s := { s with heap := m1 }) hh (h1.extBut sb1.extBut D.i1z) (t1.extBut sb1.extBut D.l1z) ex fun m2 e sb2 se => q m2 e (fun c o c1 _ c3 _ eq => sb2 _ _ c3 (sb1.extBut _ _ c1 eq)) se)
    | some x =>
      have ey : ys[k2]? = none := by
        rcases no with n | n
        · rw [ex] at n; cases n
        · exact n
      refine wpAny_bind (RZ.nextOf_tuple_item (s := { s with heap := m1 }) (h1.extBut sb1.extBut D.i1z) (t1.extBut sb1.extBut D.l1z) ex fun m2 n1 sb2 => wpAny_pure ?_)
      refine wpAny_pure ?_
      refine wpAny_bind <| wpAny_bind <| wpAny_holding ?_
      show wpAny _ _ (Builtin.SmallTypes.nextOf (Value.ref i2) >>= _) _ _ _
      exact wpAny_bind (RZ.nextOf_tuple_end (s := { s with heap := m2 }) hh ((h2.extBut sb1.extBut D.i2z).extBut sb2.extBut D.i12.symm) ((t2.extBut sb1.extBut D.l2z).extBut sb2.extBut D.l2i1) ey
        fun m3 e sb3 se => q m3 e (fun c o c1 _ c3 c4 eq => sb3 _ _ c4 (sb2.extBut _ _ c3 (sb1.extBut _ _ c1 eq))) se)
theorem zp_item {u TI TO i1 i2 l1 l2 : Addr} {f0 f1 : Value} {k1 k2 : Nat} {xs ys : Array Value} {x y a b : Value} {Q : Option Value → Shared → Prop} (D : ZipApart u TI TO i1 i2 l1 l2) (o0 : Out f0) (o1 : Flag f1)
    (zz : Zst s.heap u TI TO f0 f1) (ti : IsPair s.heap TI (.ref i1) (.ref i2)) (to : IsPair s.heap TO a b) (h1 : s.heap.IsTupleIter i1 l1 k1) (h2 : s.heap.IsTupleIter i2 l2 k2)
    (t1 : s.heap.IsTuple l1 xs) (t2 : s.heap.IsTuple l2 ys) (ex : xs[k1]? = some x) (ey : ys[k2]? = some y) (q : ∀ h', ZNext s u TI TO i1 i2 l1 l2 k1 k2 x y h' → Q (some (.ref s.heap.objs.size)) { s with heap := h' }) :
    wpAny (model prog w) A (pyNext (.ref u)) Q E s := by
  have ty : s.TypeIs (.ref u) "zip" := ⟨_, zz, rfl⟩
  unfold pyNext
  refine wpAny_bind <| wpAny_attempt <| wpAny_callSpecial?_slot (name := Str.ofString "__next__") ty F.slot_zip_next ?_
  exact wpAny_call_entry F.slot_zip_next ty F.entry_zip_next (zn_item D o0 o1 zz ti to h1 h2 t1 t2 ex ey fun h' z => wpAny_pure (q h' z)) (F.args_zip_next_1 _)
theorem zp_end {u TI TO i1 i2 l1 l2 : Addr} {f0 f1 : Value} {k1 k2 : Nat} {xs ys : Array Value} {a b : Value} {Q : Option Value → Shared → Prop} (hh : A.handled = none) (D : ZipApart u TI TO i1 i2 l1 l2) (o0 : Out f0) (o1 : Flag f1)
    (zz : Zst s.heap u TI TO f0 f1) (ti : IsPair s.heap TI (.ref i1) (.ref i2)) (to : IsPair s.heap TO a b) (h1 : s.heap.IsTupleIter i1 l1 k1) (h2 : s.heap.IsTupleIter i2 l2 k2)
    (t1 : s.heap.IsTuple l1 xs) (t2 : s.heap.IsTuple l2 ys) (no : xs[k1]? = none ∨ ys[k2]? = none) (q : ∀ h', ZEnd s u TO i1 i2 h' → Q none { s with heap := h' }) :
    wpAny (model prog w) A (pyNext (.ref u)) Q E s := by
  have ty : s.TypeIs (.ref u) "zip" := ⟨_, zz, rfl⟩
  unfold pyNext
  refine wpAny_bind <| wpAny_attempt <| wpAny_callSpecial?_slot (name := Str.ofString "__next__") ty F.slot_zip_next ?_
  refine wpAny_call_entry F.slot_zip_next ty F.entry_zip_next (zn_end hh D o0 o1 zz ti to h1 h2 t1 t2 no fun h' e z se => ?_) (F.args_zip_next_1 _)
  obtain ⟨oe, e1, e2⟩ := se
  refine wpAny_bind (wpAny_isInstance (b := true) (T := "StopIteration") ⟨oe, e1, e2⟩ isSubtype_stop ?_)
  exact wpAny_pure (q _ z)
end
end Vf

namespace Vf
open PySem PySem.Spec PyProof.Rows L2
theorem z_iter {prog : Program} {w : World} {A : Around} {E : Value → Shared → Prop} {s : Shared} {u TI TO : Addr} {f0 f1 : Value} {Q : Value → Shared → Prop} (zz : Zst s.heap u TI TO f0 f1) (q : Q (.ref u) s) : wpAny (model prog w) A (pyIter (.ref u)) Q E s := by
  have ty : s.TypeIs (.ref u) "zip" := ⟨_, zz, rfl⟩
  refine wpAny_pyIter_slot ty F.slot_zip_iter (wpAny_call_entry F.slot_zip_iter ty F.entry_zip_iter ?_ (F.args_zip_iter_1 _))
  show wpAny _ _ (ret (Value.ref u)) _ _ s
  exact wpAny_pure ⟨_, rfl, "zip", _, ty, F.slot_zip_next.lookup, q⟩
def ZTn (u TI TO i1 i2 a b : Addr) (i : Nat) (h : Heap) : Prop :=
  (∃ f0 f1, Out f0 ∧ Flag f1 ∧ Zst h u TI TO f0 f1) ∧ IsPair h TI (.ref i1) (.ref i2) ∧ (∃ x y, IsPair h TO x y) ∧ h.IsTupleIter i1 a i ∧ h.IsTupleIter i2 b i
theorem turn_zipN {P : Program} {w : World} {K : PySem.W.Frag} {nm : Str} {npos : Pos} {a b u TI TO i1 i2 : Addr} (D : ZipApart u TI TO i1 i2 a b) :
    Turn P w K (.Name nm npos) (RZ.ItzT K a b) [u, TI, TO, i1, i2] u (ZTn u TI TO i1 i2 a b) where
  mem := List.mem_cons_self
  obj := fun i h st c hc => by
    obtain ⟨⟨f0, f1, _, _, zz⟩, ti, ⟨x, y, to⟩, ⟨o1, e1, _, d1⟩, ⟨o2, e2, _, d2⟩⟩ := st
    simp only [List.mem_cons, List.not_mem_nil, or_false] at hc
    rcases hc with e | e | e | e | e
    · subst e; exact ⟨_, zz, fun v q => nomatch q⟩
    · subst e; exact ⟨_, ti, fun v q => nomatch q⟩
    · subst e; exact ⟨_, to, fun v q => nomatch q⟩
    · subst e; exact ⟨o1, e1, fun v q => by rw [d1] at q; cases q⟩
    · subst e; exact ⟨o2, e2, fun v q => by rw [d2] at q; cases q⟩
  keep := fun i h h' st k => by
    obtain ⟨⟨f0, f1, p0, p1, zz⟩, ti, ⟨x, y, to⟩, h1, h2⟩ := st
    exact ⟨⟨f0, f1, p0, p1, k u (by simp) _ zz⟩, k TI (by simp) _ ti, ⟨x, y, k TO (by simp) _ to⟩, h1.at fun o q => k i1 (by simp) o q, h2.at fun o q => k i2 (by simp) o q⟩
  item := by
    intro X hP hw hK hc i pins s σ H E I hf st hg
    subst hP hw hK
    obtain ⟨⟨f0, f1, p0, p1, zz⟩, ti, ⟨x0, y0, to⟩, h1, h2⟩ := st
    obtain ⟨xs, ys, x, y, qx, qy, ex, ey⟩ := hg
    obtain ⟨its, rv, tp, _⟩ := I.tuple qx
    obtain ⟨its2, rv2, tp2, _⟩ := I.tuple qy
    obtain ⟨v1, g1, w1⟩ := rv.get ex
    obtain ⟨v2, g2, w2⟩ := rv2.get ey
    have b0 : u < s.heap.objs.size := Heap.lt_size zz
    have bI : TI < s.heap.objs.size := Heap.lt_size ti
    have bO : TO < s.heap.objs.size := Heap.lt_size to
    have b1 : i1 < s.heap.objs.size := by
      obtain ⟨_, q, _⟩ := h1
      exact Heap.lt_size q
    have b2 : i2 < s.heap.objs.size := by
      obtain ⟨_, q, _⟩ := h2
      exact Heap.lt_size q
    refine zp_item D p0 p1 zz ti to h1 h2 tp tp2 (x := v1) (y := v2) (by simpa using g1) (by simpa using g2) fun m zn => ?_
    obtain ⟨z', ⟨ta, tb, to'⟩, n1, n2, np, sz, kp⟩ := zn
    refine ⟨_, rfl, ?_⟩
    unfold letOwnedTupleGo
    refine wpAny_pure ?_
    have fresh : ObjOk X.prog X.w (upd H s.heap.objs.size (.tup [x, y])) m s.heap.objs.size (.tup [x, y]) :=
      ⟨by show 2 ≤ sizeLine; decide, [v1, v2], .cons w1 (.cons w2 .nil), ⟨_, np, rfl, _, rfl⟩⟩
    have stay : ∀ c o, c ∉ [u, TI, TO, i1, i2] → s.heap.get? c = some o → m.get? c = some o := fun c o hb q => kp c o (fun e => hb (by simp [e])) (fun e => hb (by simp [e])) (fun e => hb (by simp [e])) (fun e => hb (by simp [e])) q
    have I1 := I.turnedNew (t' := s.toks) (ch := [u, TI, TO, i1, i2]) stay hf (Nat.le_refl _) fresh
    refine ⟨.ref s.heap.objs.size, _, I1, rfl, ⟨_, x, y, rfl, I.hok.fresh (Nat.le_refl _), rfl, fun l hl => by rw [I.tuple_inj hl qx]; exact ex, fun l hl => by rw [I.tuple_inj hl qy]; exact ey⟩,
      ⟨z', kp _ _ D.TIz D.TITO D.TIi1 D.TIi2 ti, ⟨ta, tb, to'⟩, n1, n2⟩, fun c hcm => ?_⟩
    have lt : c < s.heap.objs.size := by
      have hcm2 := hcm
      simp only [List.mem_cons, List.not_mem_nil, or_false] at hcm2
      rcases hcm2 with e | e | e | e | e <;> (subst e; assumption)
    rw [upd_ne (Nat.ne_of_lt lt)]
    exact (hf c hcm).1
  done := by
    intro X hP hw hK hc i pins s σ H E I hf st hg
    subst hP hw hK
    obtain ⟨⟨f0, f1, p0, p1, zz⟩, ti, ⟨x0, y0, to⟩, h1, h2⟩ := st
    obtain ⟨xs, ys, qx, qy, en⟩ := hg
    obtain ⟨its, rv, tp, _⟩ := I.tuple qx
    obtain ⟨its2, rv2, tp2, _⟩ := I.tuple qy
    have l1 := rv.length
    have l2 := rv2.length
    have no : its.toArray[i]? = none ∨ its2.toArray[i]? = none := by
      rcases en with q | q
      · exact .inl (by simp; omega)
      · exact .inr (by simp; omega)
    refine zp_end (I.ok.hd hc) D p0 p1 zz ti to h1 h2 tp tp2 no fun m ze => ⟨rfl, ?_⟩
    exact I.turnedL (t' := s.toks) (ch := [u, TI, TO, i1, i2]) (fun c o hb q => ze c o (fun e => hb (by simp [e])) (fun e => hb (by simp [e])) (fun e => hb (by simp [e])) (fun e => hb (by simp [e])) q) hf
  self := fun A i s Q E st h => by
    obtain ⟨⟨f0, f1, _, _, zz⟩, _⟩ := st
    exact z_iter zz h
/-- zip(t, u) of tuples -/
def iZn (K : PySem.W.Frag) (ta : TA) : TI := fun σ H R => ta σ H fun vs H1 => ∃ a b xs ys, vs = [.ref a, .ref b] ∧ SqT K H1 a xs ∧ SqT K H1 b ys ∧ R (RZ.ItzT K a b) H1
theorem i_zipN {X : Cx} {K : PySem.W.Frag} {e e2 : Expr} {ta : TA} {p pos npos : Pos} {nm : Str} (ek : X.K = K) (hg : Gl X "zip") (hm : X.mg "zip" = none) (ha : PA X [e, e2] ta)
    (hs : starEach [e, e2] X.env = (false, eval e X.env) :: starEach [e2] X.env := by rfl) (hp : (backTo pos (starEach [e2] X.env)).any (·.1) = false := by rfl) :
    PI X (.Name nm npos) (.Call (.Name "zip" p) [e, e2] [] pos) (iZn K ta) := by
  subst ek
  refine ⟨fun pins s σ H R I h => ?_⟩
  refine Call_ (ld_blt I hg hm PyProof.Rows.boot_zip (PyProof.Rows.callWith_type1 (thn (ha.run pos pins s σ H _ I h) fun us s1 ⟨vs, H1, I1, r1, q1⟩ => ?_) hs hp))
  obtain ⟨a, b, xs, ys, rfl, qx, qy, q⟩ := q1
  obtain ⟨ua, ub, rfl, ra, rb⟩ : ∃ ua ub, us = [ua, ub] ∧ RelV (.ref a) ua ∧ RelV (.ref b) ub := by
    cases r1 with
    | cons r rr =>
      cases rr with
      | cons r' rr =>
        cases rr
        exact ⟨_, _, rfl, r, r'⟩
  cases ra
  cases rb
  obtain ⟨its, rv, tp, _⟩ := I1.tuple qx
  obtain ⟨its2, rv2, tp2, _⟩ := I1.tuple qy
  have la : a < s1.heap.objs.size := tp.lt
  have lb : b < s1.heap.objs.size := tp2.lt
  refine RZ.call_zipT tp tp2 fun m hz hTI hTO n1 n2 hsz hk => z_iter (f0 := .none) (f1 := .bool false) hz ?_
  refine ⟨s1.heap.objs.size + 4, [s1.heap.objs.size + 4, s1.heap.objs.size + 2, s1.heap.objs.size + 3, s1.heap.objs.size, s1.heap.objs.size + 1], _, _, H1, rfl, I1.kept (t' := s1.toks) hk,
    turn_zipN (PySem.W.ktu_apart s1.heap.objs.size a b la lb), ⟨⟨.none, .bool false, .inl rfl, ⟨false, rfl⟩, hz⟩, hTI, ⟨_, _, hTO⟩, n1, n2⟩, fun c hcm => ?_, q⟩
  have le : s1.heap.objs.size ≤ c := by
    simp only [List.mem_cons, List.not_mem_nil, or_false] at hcm
    rcases hcm with e | e | e | e | e <;> subst e
    · exact Nat.le_add_right _ _
    · exact Nat.le_add_right _ _
    · exact Nat.le_add_right _ _
    · exact Nat.le_refl _
    · exact Nat.le_add_right _ _
  exact I1.fpOk le (I1.hok.fresh le)
/-- a walk of two tuples, pair by pair -/
theorem r_forZ {K : PySem.W.Frag} {g : TG} {tb : TS} {D : Ends} {σ : L2.St} {H : Hp} {a b : Addr} (xs ys : List V) (n : Nat) (hx : xs.length = n) (hy : ys.length = n) (Pv : Nat → L2.St → Hp → Prop) (h0 : Pv 0 σ H)
    (hl : ∀ i σ H, i ≤ n → Pv i σ H → SqT K H a xs ∧ SqT K H b ys)
    (hs : ∀ i x y σ H T, xs[i]? = some x → ys[i]? = some y → Pv i σ H → H T = none → g (.ref T) σ (upd H T (.tup [x, y])) fun σ2 H2 => tb { D with nx := Pv (i + 1), ct := Pv (i + 1), bk := D.nx } σ2 H2)
    (hd : ∀ σ H, Pv n σ H → D.nx σ H) : tFor (fun _ H2 R => R (RZ.ItzT K a b) H2) g tb D σ H := by
  refine ⟨fun i m σ H => m = n - i ∧ i ≤ n ∧ Pv i σ H, ⟨n, by omega, Nat.zero_le _, h0⟩, ?_⟩
  rintro i m σ H ⟨rfl, hi, p⟩
  obtain ⟨qx, qy⟩ := hl i σ H hi p
  by_cases lt : i < n
  · have ix : i < xs.length := by omega
    have iy : i < ys.length := by omega
    refine Or.inr ⟨⟨xs, ys, xs[i], ys[i], qx, qy, by simp [ix], by simp [iy]⟩, Pv (i + 1), fun σ' H' p' => ⟨n - (i + 1), by omega, rfl, lt, p'⟩, fun v H' yy => ?_⟩
    obtain ⟨T, x, y, rfl, nT, rfl, f1, f2⟩ := yy
    exact hs i x y σ H T (f1 xs qx) (f2 ys qy) p nT
  · have e : i = n := by omega
    subst e
    exact Or.inl ⟨⟨xs, ys, qx, qy, .inl (by omega)⟩, hd σ H p⟩
theorem r_forZn {K : PySem.W.Frag} {g : TG} {tb : TS} {D : Ends} {σ : L2.St} {H : Hp} {ta : TA} (h : ta σ H fun vs H1 => ∃ a b xs ys, vs = [.ref a, .ref b] ∧ SqT K H1 a xs ∧ SqT K H1 b ys ∧ tFor (fun _ H2 R => R (RZ.ItzT K a b) H2) g tb D σ H1) :
    tFor (iZn K ta) g tb D σ H := h
end Vf

namespace Vf
open PySem PySem.Spec PyProof.Rows L2
/-! ## *= and //= of ints -/
def ipC (C : Int → Int → Prop) (f : Int → Int → Int) : TIp := fun x y H Q => ∃ i j, x = .int i ∧ y = .int j ∧ C i j ∧ Q (.int (f i j)) H
theorem r_ipC {C : Int → Int → Prop} {f : Int → Int → Int} {i j : Int} {H : Hp} {Q : VK} (c : C i j) (q : Q (.int (f i j)) H) : ipC C f (.int i) (.int j) H Q := ⟨i, j, rfl, rfl, c, q⟩
section
variable {X : Cx}
theorem ip_mulX : PIp X .Mult (ipC CMulX fun i j => i * j) := by
  intro pins s σ H x y v u Q I rx ry h
  obtain ⟨i, j, rfl, rfl, c, q⟩ := h
  obtain ⟨t1, rfl⟩ := rx
  obtain ⟨t2, rfl⟩ := ry
  exact PySem.AutoIntOps.imul_0 ⟨.int _, H, I.tok _, ⟨_, rfl⟩, q⟩ c.ok
theorem ip_fdivW : PIp X .FloorDiv (ipC CDivW fun i j => i / j) := by
  intro pins s σ H x y v u Q I rx ry h
  obtain ⟨i, j, rfl, rfl, c, q⟩ := h
  obtain ⟨t1, rfl⟩ := rx
  obtain ⟨t2, rfl⟩ := ry
  have j0 : (0 : Int) < j := c.1
  refine PySem.AutoIntOps.ifloordiv_1 (by simp; omega) (by rw [PyProof.noPylong_of_log2 c.2]; decide) ?_
  rw [Int.fdiv_eq_ediv_of_nonneg i (by omega)]
  exact ⟨.int _, H, I.tok _, ⟨_, rfl⟩, q⟩
end
/-! ## zip under two names -/
theorem r_forZa {K : PySem.W.Frag} {g : TG} {tb : TS} {D : Ends} {σ : L2.St} {H : Hp} {ta : TA} (h : ta σ H fun vs H1 => ∃ a b xs ys, vs = [.ref a, .ref b] ∧ ((SqL K H1 a xs ∧ SqL K H1 b ys ∧ tFor (fun _ H2 R => R (Itz K a b) H2) g tb D σ H1) ∨
    (SqT K H1 a xs ∧ SqT K H1 b ys ∧ tFor (fun _ H2 R => R (RZ.ItzT K a b) H2) g tb D σ H1))) : tFor (RZ.iZipA K ta) g tb D σ H := h
end Vf

namespace Vf
open PySem PySem.Spec PyProof.Rows L2
/-! ## tuples of ints, compared and shown -/
section
variable {K : PySem.W.Frag} {H : Hp} {Q : VK}
def tupD (ns : List Int) : PyData := .tuple (ns.map PyData.int)
theorem Dp.tupD {a : Addr} {ns : List Int} (h : SqT K H a (ns.map V.int)) : Dp K H (.ref a) (tupD ns) := .tup h (DpAll.ints ns)
theorem shapedTup (ns : List Int) : SeqAt.shaped (tupD ns) = true := by
  unfold SeqAt.shaped
  rw [Bool.and_eq_true]
  refine ⟨canInts ns, decide_eq_true ?_⟩
  show PyData.depthAll (ns.map PyData.int) + 1 ≤ 64
  rw [depthInts]; decide
theorem r_neT {a b : Addr} (ns ms : List Int) (h1 : SqT K H a (ns.map V.int)) (h2 : SqT K H b (ms.map V.int)) (h : Q (.bl (!decide (ns = ms))) H) : rNeD K (.ref a) (.ref b) H Q := by
  refine r_neD (Dp.tupD h1) (Dp.tupD h2) (shapedTup ns) (shapedTup ms) ?_
  rw [show PyData.eqv (tupD ns) (tupD ms) = decide (ns = ms) from eqvInts ns ms]
  exact h
def twoD (ns ms : List Int) : PyData := .list [tupD ns, tupD ms]
theorem r_reprTT {a t1 t2 : Addr} (ns ms : List Int) (hs : SqL K H a [.ref t1, .ref t2]) (h1 : SqT K H t1 (ns.map V.int)) (h2 : SqT K H t2 (ms.map V.int)) (b1 : ∀ n ∈ ns, n.natAbs < 2 ^ 1900) (b2 : ∀ n ∈ ms, n.natAbs < 2 ^ 1900)
    (l1 : ns.length ≤ 20) (l2 : ms.length ≤ 20) (h : Q (.str (twoD ns ms).shown) H) : rRepr K [.ref a] H Q := by
  refine r_reprD (twoD ns ms) (Dp.lst hs (.cons (Dp.tupD h1) (.cons (Dp.tupD h2) .nil))) ?_ ?_ ?_ h
  · show (tameAll (ns.map PyData.int) && (tameAll (ms.map PyData.int) && true)) = true
    rw [tameInts ns b1, tameInts ms b2]
    rfl
  · show max (PyData.depthAll (ns.map PyData.int) + 1) (max (PyData.depthAll (ms.map PyData.int) + 1) 0) + 1 ≤ 40
    rw [depthInts, depthInts]
    decide
  · show 4 + ((4 + roomAll (ns.map PyData.int)) + 2 + ((4 + roomAll (ms.map PyData.int)) + 2 + 0)) ≤ 100000
    rw [roomInts, roomInts]
    omega
end
end Vf

namespace Vf
open PySem PySem.Spec PyProof.Rows L2
/-! ## zip of three tuples -/
/-- the tuples at a, b, c, item by item in new triples -/
def ItT3 (K : PySem.W.Frag) (a b c : Addr) : It :=
  ⟨fun i H => ∃ (xs ys zs : List V), (SqT K H a xs ∧ SqT K H b ys ∧ SqT K H c zs) ∧ i < xs.length ∧ i < ys.length ∧ i < zs.length,
   fun i H v H' => ∃ T x y z, v = .ref T ∧ H T = none ∧ H' = upd H T (.tup [x, y, z]) ∧ (∀ xs, SqT K H a xs → xs[i]? = some x) ∧ (∀ ys, SqT K H b ys → ys[i]? = some y) ∧ ∀ zs, SqT K H c zs → zs[i]? = some z,
   fun i H => ∃ (xs ys zs : List V), (SqT K H a xs ∧ SqT K H b ys ∧ SqT K H c zs) ∧ (i ≤ xs.length ∧ i ≤ ys.length ∧ i ≤ zs.length) ∧ (i = xs.length ∨ i = ys.length ∨ i = zs.length)⟩
/-- the cells of it -/
structure Six (u TI TO i1 i2 i3 a b c : Addr) : Prop where
  ap : u ≠ TI ∧ u ≠ TO ∧ u ≠ i1 ∧ u ≠ i2 ∧ u ≠ i3 ∧ TI ≠ TO ∧ TI ≠ i1 ∧ TI ≠ i2 ∧ TI ≠ i3 ∧ TO ≠ i1 ∧ TO ≠ i2 ∧ TO ≠ i3 ∧ i1 ≠ i2 ∧ i1 ≠ i3 ∧ i2 ≠ i3
  a0 : a ≠ u ∧ a ≠ TI ∧ a ≠ TO ∧ a ≠ i1 ∧ a ≠ i2 ∧ a ≠ i3
  b0 : b ≠ u ∧ b ≠ TI ∧ b ≠ TO ∧ b ≠ i1 ∧ b ≠ i2 ∧ b ≠ i3
  c0 : c ≠ u ∧ c ≠ TI ∧ c ≠ TO ∧ c ≠ i1 ∧ c ≠ i2 ∧ c ≠ i3
theorem Six.sep {u TI TO i1 i2 i3 a b c : Addr} (S : Six u TI TO i1 i2 i3 a b c) : ZipSep3 u TI TO i1 i2 i3 [i1, a] [i2, b] [i3, c] := by
  obtain ⟨⟨s1, s2, s3, s4, s5, s6, s7, s8, s9, s10, s11, s12, s13, s14, s15⟩, ⟨a1, a2, a3, a4, a5, a6⟩, ⟨b1, b2, b3, b4, b5, b6⟩, ⟨c1, c2, c3, c4, c5, c6⟩⟩ := S
  constructor <;> simp [*, Ne.symm s1, Ne.symm s2, Ne.symm s3, Ne.symm s6, Ne.symm a1, Ne.symm a3, Ne.symm a4, Ne.symm a5, Ne.symm a6, Ne.symm b1, Ne.symm b3, Ne.symm b4, Ne.symm b5, Ne.symm b6, Ne.symm c1, Ne.symm c3, Ne.symm c4, Ne.symm c5, Ne.symm c6, Ne.symm s13, Ne.symm s14, Ne.symm s15]
def Z3At (u TI TO i1 i2 i3 a b c : Addr) (i : Nat) (h : Heap) : Prop :=
  IsZip h u TI TO .none ∧ IsTupOf3 h TI (.ref i1) (.ref i2) (.ref i3) ∧ (∃ x y z, IsTupOf3 h TO x y z) ∧ h.IsTupleIter i1 a i ∧ h.IsTupleIter i2 b i ∧ h.IsTupleIter i3 c i
theorem turn_zip3 {P : Program} {w : World} {K : PySem.W.Frag} {elts : List Expr} {kk : Nat} {tpos : Pos} {u TI TO i1 i2 i3 a b c : Addr} (S : Six u TI TO i1 i2 i3 a b c) :
    Turn P w K (.Tuple elts kk tpos) (ItT3 K a b c) [u, TI, TO, i1, i2, i3] u (Z3At u TI TO i1 i2 i3 a b c) where
  mem := List.mem_cons_self
  obj := fun i h st d hd => by
    obtain ⟨zz, ti, ⟨x, y, z, to⟩, ⟨o1, e1, _, d1⟩, ⟨o2, e2, _, d2⟩, ⟨o3, e3, _, d3⟩⟩ := st
    simp only [List.mem_cons, List.not_mem_nil, or_false] at hd
    rcases hd with e | e | e | e | e | e
    · subst e; exact ⟨_, zz, fun v q => nomatch q⟩
    · subst e; exact ⟨_, ti, fun v q => nomatch q⟩
    · subst e; exact ⟨_, to, fun v q => nomatch q⟩
    · subst e; exact ⟨o1, e1, fun v q => by rw [d1] at q; cases q⟩
    · subst e; exact ⟨o2, e2, fun v q => by rw [d2] at q; cases q⟩
    · subst e; exact ⟨o3, e3, fun v q => by rw [d3] at q; cases q⟩
  keep := fun i h h' st k => by
    obtain ⟨zz, ti, ⟨x, y, z, to⟩, h1, h2, h3⟩ := st
    exact ⟨k u (by simp) _ zz, k TI (by simp) _ ti, ⟨x, y, z, k TO (by simp) _ to⟩, h1.at fun o q => k i1 (by simp) o q, h2.at fun o q => k i2 (by simp) o q, h3.at fun o q => k i3 (by simp) o q⟩
  item := by
    intro X hP hw hK hc i pins s σ H E I hf st hg
    subst hP hw hK
    obtain ⟨zz, ti, ⟨x0, y0, z0, to⟩, h1, h2, h3⟩ := st
    obtain ⟨xs, ys, zs, ⟨qx, qy, qz⟩, lx, ly, lz⟩ := hg
    obtain ⟨v1, r1, t1, _⟩ := I.tuple qx
    obtain ⟨v2, r2, t2, _⟩ := I.tuple qy
    obtain ⟨v3, r3, t3, _⟩ := I.tuple qz
    obtain ⟨y1, g1, w1⟩ := r1.get (List.getElem?_eq_getElem lx)
    obtain ⟨y2, g2, w2⟩ := r2.get (List.getElem?_eq_getElem ly)
    obtain ⟨y3, g3, w3⟩ := r3.get (List.getElem?_eq_getElem lz)
    have n1 := r1.length
    have n2 := r2.length
    have n3 := r3.length
    have hd := I.ok.hd hc
    have b0 : u < s.heap.objs.size := Heap.lt_size zz
    have bI : TI < s.heap.objs.size := Heap.lt_size ti
    have bO : TO < s.heap.objs.size := Heap.lt_size to
    have b1 : i1 < s.heap.objs.size := by
      obtain ⟨_, q, _⟩ := h1
      exact Heap.lt_size q
    have b2 : i2 < s.heap.objs.size := by
      obtain ⟨_, q, _⟩ := h2
      exact Heap.lt_size q
    have b3 : i3 < s.heap.objs.size := by
      obtain ⟨_, q, _⟩ := h3
      exact Heap.lt_size q
    refine wpAny_pyNext_zipD3_item S.sep (drawsT (A := X.A.in1) hd i1 a S.a0.2.2.2.1 v1.toArray) (drawsT (A := X.A.in1) hd i2 b S.b0.2.2.2.2.1 v2.toArray) (drawsT (A := X.A.in1) hd i3 c S.c0.2.2.2.2.2 v3.toArray)
      zz ti to ⟨h1, t1⟩ ⟨h2, t2⟩ ⟨h3, t3⟩ (by simp; omega) (by simp; omega) (by simp; omega) fun x1 x2 x3 m tk p1 p2 p3 zz' to' st1 st2 st3 np sz kp => ?_
    obtain rfl : y1 = x1 := by
      have : v1[i]? = some x1 := by simpa using p1
      rw [g1] at this
      exact Option.some.inj this
    obtain rfl : y2 = x2 := by
      have : v2[i]? = some x2 := by simpa using p2
      rw [g2] at this
      exact Option.some.inj this
    obtain rfl : y3 = x3 := by
      have : v3[i]? = some x3 := by simpa using p3
      rw [g3] at this
      exact Option.some.inj this
    refine ⟨_, rfl, wpAny_letOwnedTupleGo_zip (s := { s with heap := m, toks := tk }) zz' fun m2 zz2 sb => ?_⟩
    have np2 : IsTupOf3 m2 s.heap.objs.size y1 y2 y3 := (sb.2 _ (Nat.ne_of_gt b0)).trans np
    have fresh : ObjOk X.prog X.w (upd H s.heap.objs.size (.tup [xs[i], ys[i], zs[i]])) m2 s.heap.objs.size (.tup [xs[i], ys[i], zs[i]]) :=
      ⟨by show 3 ≤ sizeLine; decide, [y1, y2, y3], .cons w1 (.cons w2 (.cons w3 .nil)), ⟨_, np2, rfl, _, rfl⟩⟩
    have stay : ∀ d o, d ∉ [u, TI, TO, i1, i2, i3] → s.heap.get? d = some o → m2.get? d = some o := fun d o hb q =>
      (sb.2 d (fun e => hb (by simp [e]))).trans (kp d o (fun e => hb (by simp [e])) (fun e => hb (by simp [e])) (fun e => hb (by simp [e])) (fun e => hb (by simp [e])) (fun e => hb (by simp [e])) q)
    have I1 := I.turnedNew (t' := tk) (ch := [u, TI, TO, i1, i2, i3]) stay hf (Nat.le_refl _) fresh
    obtain ⟨⟨s1, s2, s3, s4, s5, s6, s7, s8, s9, s10, s11, s12, s13, s14, s15⟩, _, _, _⟩ := S
    refine ⟨.ref s.heap.objs.size, _, I1, rfl, ⟨_, xs[i], ys[i], zs[i], rfl, I.hok.fresh (Nat.le_refl _), rfl, fun l hl => by rw [I.tuple_inj hl qx]; exact List.getElem?_eq_getElem lx, fun l hl => by rw [I.tuple_inj hl qy]; exact List.getElem?_eq_getElem ly,
      fun l hl => by rw [I.tuple_inj hl qz]; exact List.getElem?_eq_getElem lz⟩, ⟨zz2, (sb.2 _ (Ne.symm s1)).trans (kp _ _ (Ne.symm s1) s6 s7 s8 s9 ti), ⟨_, _, _, (sb.2 _ (Ne.symm s2)).trans to'⟩, st1.1.at fun o q => (sb.2 _ (Ne.symm s3)).trans q, st2.1.at fun o q => (sb.2 _ (Ne.symm s4)).trans q,
      st3.1.at fun o q => (sb.2 _ (Ne.symm s5)).trans q⟩, fun d hdm => ?_⟩
    have lt : d < s.heap.objs.size := by
      have h2 := hdm
      simp only [List.mem_cons, List.not_mem_nil, or_false] at h2
      rcases h2 with e | e | e | e | e | e <;> (subst e; assumption)
    rw [upd_ne (Nat.ne_of_lt lt)]
    exact (hf d hdm).1
  done := by
    intro X hP hw hK hc i pins s σ H E I hf st hg
    subst hP hw hK
    obtain ⟨zz, ti, ⟨x0, y0, z0, to⟩, h1, h2, h3⟩ := st
    obtain ⟨xs, ys, zs, ⟨qx, qy, qz⟩, ⟨lx, ly, lz⟩, en⟩ := hg
    obtain ⟨v1, r1, t1, _⟩ := I.tuple qx
    obtain ⟨v2, r2, t2, _⟩ := I.tuple qy
    obtain ⟨v3, r3, t3, _⟩ := I.tuple qz
    have n1 := r1.length
    have n2 := r2.length
    have n3 := r3.length
    have hd := I.ok.hd hc
    refine wpAny_pyNext_zipD3_end S.sep (drawsT (A := X.A.in1) hd i1 a S.a0.2.2.2.1 v1.toArray) (drawsT (A := X.A.in1) hd i2 b S.b0.2.2.2.2.1 v2.toArray) (drawsT (A := X.A.in1) hd i3 c S.c0.2.2.2.2.2 v3.toArray)
      zz ti to ⟨h1, t1⟩ ⟨h2, t2⟩ ⟨h3, t3⟩ (by simp; omega) (by simp; omega) (by simp; omega) (by simp; omega) fun m tk kp => ⟨rfl, ?_⟩
    exact I.turnedL (t' := tk) (ch := [u, TI, TO, i1, i2, i3]) (fun d o hb q => kp d o (fun e => hb (by simp [e])) (fun e => hb (by simp [e])) (fun e => hb (by simp [e])) (fun e => hb (by simp [e])) (fun e => hb (by simp [e])) q) hf
  self := fun A i s Q E st h => wpAny_pyIter_zip st.1 h
end Vf

namespace Vf
open PySem PySem.Spec PyProof.Rows L2
/-! ## zip of three tuples: the rule, and a comprehension over it -/
def iZ3 (K : PySem.W.Frag) (ta : TA) : TI := fun σ H R => ta σ H fun vs H1 => ∃ a b c xs ys zs, vs = [.ref a, .ref b, .ref c] ∧ (SqT K H1 a xs ∧ SqT K H1 b ys ∧ SqT K H1 c zs) ∧ R (ItT3 K a b c) H1
theorem six_new (n a b c : Nat) (ha : a < n) (hb : b < n) (hc : c < n) : Six (n + 5) (n + 3) (n + 4) n (n + 1) (n + 2) a b c := by
  refine ⟨⟨?_, ?_, ?_, ?_, ?_, ?_, ?_, ?_, ?_, ?_, ?_, ?_, ?_, ?_, ?_⟩, ⟨?_, ?_, ?_, ?_, ?_, ?_⟩, ⟨?_, ?_, ?_, ?_, ?_, ?_⟩, ⟨?_, ?_, ?_, ?_, ?_, ?_⟩⟩ <;> (show _ ≠ _; intro e; have e2 : (_ : Nat) = _ := e; omega)
theorem i_zip3 {X : Cx} {K : PySem.W.Frag} {e1 e2 e3 : Expr} {ta : TA} {p pos tpos : Pos} {elts : List Expr} {kk : Nat} (ek : X.K = K) (hg : Gl X "zip") (hm : X.mg "zip" = none) (ha : PA X [e1, e2, e3] ta)
    (hs : starEach [e1, e2, e3] X.env = (false, eval e1 X.env) :: starEach [e2, e3] X.env := by rfl) (hp : (backTo pos (starEach [e2, e3] X.env)).any (·.1) = false := by rfl) :
    PI X (.Tuple elts kk tpos) (.Call (.Name "zip" p) [e1, e2, e3] [] pos) (iZ3 K ta) := by
  subst ek
  refine ⟨fun pins s σ H R I h => ?_⟩
  refine Call_ (ld_blt I hg hm PyProof.Rows.boot_zip (PyProof.Rows.callWith_type1 (thn (ha.run pos pins s σ H _ I h) fun us s1 ⟨vs, H1, I1, r1, q1⟩ => ?_) hs hp))
  obtain ⟨a, b, c, xs, ys, zs, rfl, ⟨qx, qy, qz⟩, q⟩ := q1
  obtain ⟨ua, ub, uc, rfl, ra, rb, rc⟩ : ∃ ua ub uc, us = [ua, ub, uc] ∧ RelV (.ref a) ua ∧ RelV (.ref b) ub ∧ RelV (.ref c) uc := by
    cases r1 with
    | cons r rr =>
      cases rr with
      | cons r' rr =>
        cases rr with
        | cons r'' rr =>
          cases rr
          exact ⟨_, _, _, rfl, r, r', r''⟩
  cases ra
  cases rb
  cases rc
  obtain ⟨v1, _, t1, _⟩ := I1.tuple qx
  obtain ⟨v2, _, t2, _⟩ := I1.tuple qy
  obtain ⟨v3, _, t3, _⟩ := I1.tuple qz
  have la : a < s1.heap.objs.size := t1.lt
  have lb : b < s1.heap.objs.size := t2.lt
  have lc : c < s1.heap.objs.size := t3.lt
  refine zip_begins3 (begins_tuple a v1.toArray) (begins_tuple b v2.toArray) (begins_tuple c v3.toArray) t1 t2 t3 fun m hz hTI hTO g1 g2 g3 hsz hk => wpAny_pyIter_zip hz ?_
  refine ⟨s1.heap.objs.size + 5, [s1.heap.objs.size + 5, s1.heap.objs.size + 3, s1.heap.objs.size + 4, s1.heap.objs.size, s1.heap.objs.size + 1, s1.heap.objs.size + 2], _, _, H1, rfl, I1.kept (t' := s1.toks) hk,
    turn_zip3 (six_new s1.heap.objs.size a b c la lb lc), ⟨hz, hTI, ⟨_, _, _, hTO⟩, ⟨_, g1, rfl, rfl⟩, ⟨_, g2, rfl, rfl⟩, ⟨_, g3, rfl, rfl⟩⟩, fun d hd => ?_, q⟩
  have le : s1.heap.objs.size ≤ d := by
    simp only [List.mem_cons, List.not_mem_nil, or_false] at hd
    rcases hd with e | e | e | e | e | e <;> subst e
    · exact Nat.le_add_right _ _
    · exact Nat.le_add_right _ _
    · exact Nat.le_add_right _ _
    · exact Nat.le_refl _
    · exact Nat.le_add_right _ _
    · exact Nat.le_add_right _ _
  exact I1.fpOk le (I1.hok.fresh le)
section
variable {K : PySem.W.Frag} {σ : L2.St} {H : Hp} {Q : VK} {g : TG} {tt : TT} {te : TE} {vs : List Nat}
theorem r_lcZ3i {ta : TA} (h : ta σ H fun ws H1 => ∃ a b c xs ys zs, ws = [.ref a, .ref b, .ref c] ∧ (SqT K H1 a xs ∧ SqT K H1 b ys ∧ SqT K H1 c zs) ∧ tLc (fun _ H2 R => R (ItT3 K a b c) H2) g tt te vs σ H1 Q) : tLc (iZ3 K ta) g tt te vs σ H Q := h
theorem r_lcZ3 {a b c : Addr} (xs ys zs : List V) (n : Nat) (nx : xs.length = n) (ny : ys.length = n) (nz : zs.length = n) (Pv : Addr → Nat → Hp → Prop) (h0 : ∀ D, H D = none → Pv D 0 (upd H D (.lst [])))
    (hl : ∀ D i H', H D = none → i ≤ n → Pv D i H' → SqT K H' a xs ∧ SqT K H' b ys ∧ SqT K H' c zs)
    (hs : ∀ D i x y z H' T, H D = none → xs[i]? = some x → ys[i]? = some y → zs[i]? = some z → Pv D i H' → H' T = none → g (.ref T) (wipe σ vs) (upd H' T (.tup [x, y, z])) fun σ2 H2 => wipe σ2 vs = wipe σ vs ∧ tt σ2 H2 fun b H3 =>
      if b = true then te σ2 H3 fun y H4 => ∃ acc, H4 D = some (.lst acc) ∧ acc.length < sizeLine ∧ Pv D (i + 1) (upd H4 D (.lst (acc ++ [y]))) else Pv D (i + 1) H3)
    (hd : ∀ D H', H D = none → Pv D n H' → Q (.ref D) H') : tLc (fun _ H2 R => R (ItT3 K a b c) H2) g tt te vs σ H Q := by
  refine fun D hD => ⟨fun i m H => m = n - i ∧ i ≤ n ∧ Pv D i H, ⟨n, by omega, Nat.zero_le _, h0 D hD⟩, ?_⟩
  rintro i m H' ⟨rfl, hi, p⟩
  obtain ⟨qx, qy, qz⟩ := hl D i H' hD hi p
  by_cases lt : i < n
  · refine Or.inr ⟨⟨xs, ys, zs, ⟨qx, qy, qz⟩, by omega, by omega, by omega⟩, Pv D (i + 1), fun H' p' => ⟨n - (i + 1), by omega, rfl, lt, p'⟩, fun v H'' yy => ?_⟩
    obtain ⟨T, x, y, z, rfl, nT, rfl, f1, f2, f3⟩ := yy
    exact hs D i x y z H' T hD (f1 xs qx) (f2 ys qy) (f3 zs qz) p nT
  · have e : i = n := by omega
    subst e
    exact Or.inl ⟨⟨xs, ys, zs, ⟨qx, qy, qz⟩, ⟨by omega, by omega, by omega⟩, .inl (by omega)⟩, hd D H' hD p⟩
end
end Vf

namespace Vf
open PySem PySem.Spec PyProof.Rows L2
/-! ## defs as values: named in a list, called by a name of the caller's -/
/-- a def at an address, with its promise -/
def OkL (P : Program) (w : World) (K : PySem.W.Frag) (mg : Str → Option Value) (base : Heap) (k : Nat) (f : Addr) (sp : Sp) : Prop :=
  ∃ (x : Str) (st : Stmt) (ps : List Str) (fd : FuncData), L2.Fun K x x st f fd ∧ L2.Binds K fd ps [] ∧
    (∀ (A : Around) (outer : List Env) (s : Shared) (H : Hp) (args : Args) (us : List Value) (vs : List V) (Q : VK) (E : XK),
      A.guards = some [] → Room k A → Env0 P w K mg base A outer s H → BindsTo s fd args (ps.zip us) → Vals vs us → sp vs H Q E →
        codeAny (model P w) A (.call (.ref f) args) (CR (CX P w) outer P w H s Q E) s) ∧
    ∀ vs H Q E, sp vs H Q E → vs.length = ps.length
section
variable {P : Program} {w : World} {K : PySem.W.Frag} {mg : Str → Option Value} {base : Heap} {k j : Nat} {x : Str} {st : Stmt} {ps : List Str} {sp : Sp}
theorem Ok.val (G : Ok P w K mg base k x st ps sp) (b : ∀ f fd, L2.Fun K x x st f fd → L2.Binds K fd ps []) : ∃ f, mg x = some (.ref f) ∧ OkL P w K mg base k f sp := by
  obtain ⟨⟨f, fd, F, hm, r⟩, l⟩ := G
  exact ⟨f, hm, x, st, ps, fd, F, b f fd F, r, l⟩
end
section
variable {X : Cx} {k i : Nat} {E : XK} {x : Str} {p pos : Pos} {e : Expr} {es : List Expr} {t : TA}
/-- the slot holds one of some defs -/
def tCallH (i : Nat) (S : Addr → Sp → Prop) (E : XK) (t : TA) : TE := fun σ H Q => ∃ f sp, σ[i]? = some (some (.ref f)) ∧ S f sp ∧ t σ H fun vs H1 => sp vs H1 Q E
theorem pe_gl {S : Addr → Sp → Prop} (A : ∀ f sp, S f sp → OkL X.prog X.w X.K X.mg X.base k f sp) (hg : X.A.guards = some []) (hr : Room k X.A) (hx : Passes (CX X.prog X.w) X E)
    (hN : X.N[i]? = some x) (hv : Vis X.env.scope x) (ha : PA X (e :: es) t)
    (hdb : (x == ("__debug__" : Str)) = false := by decide) (hcd : (x == ("__classdict__" : Str)) = false := by decide)
    (he : starEach (e :: es) X.env = (false, eval e X.env) :: starEach es X.env := by rfl)
    (hpl : (backTo pos (starEach es X.env)).any (·.1) = false := by rfl) :
    PE X (.Call (.Name x p) (e :: es) [] pos) (tCallH i S E t) := by
  refine ⟨fun pins s σ H Q I h => ?_⟩
  obtain ⟨f, sp, hs, hS, ht⟩ := h
  obtain ⟨_, _, ps, fd, F, hb, r, l⟩ := A f sp hS
  refine wpAny_Call_Name_kw (thn ((pe_var (pos := p) hN hv hdb hcd).run pins s σ H (fun v H1 => v = .ref f ∧ H1 = H) I ⟨.ref f, hs, rfl, rfl⟩) fun u s1 ⟨v, H1, I1, r1, q1⟩ => ?_)
  obtain ⟨rfl, rfl⟩ := q1
  cases r1
  refine PySem.W.callWith_K (h₀ := X.base) I.ok.mod.kin F.kp
    (thn (ha.run pos pins s1 σ _ _ I1 ht) fun us s2 ⟨vs, H2, I2, r2, q⟩ => ⟨I2.kIn, ?_⟩) he hpl
  have hl : us.length = ps.length := by rw [← r2.length]; exact l _ _ _ _ q
  have bb := hb s2 us I2.kIn (by rw [List.append_nil]; exact hl)
  rw [List.append_nil] at bb
  refine wpAny_call (codeAny_mono (run_g r hg hr hx I2 bb r2 q) fun z s' hz => ?_)
  cases z with
  | error e => exact hz
  | ok fl => cases fl <;> exact hz
/-- the name of a def, as a value -/
theorem pe_gd {f : Addr} {pos : Pos} (gl : Gl X x) (hm : X.mg x = some (.ref f)) (hd : (x == ("__debug__" : Str)) = false := by decide) : PE X (.Name x pos) (tC (.ref f)) :=
  pe_glob gl hm rfl hd
end
theorem r_callH {i : Nat} {S : Addr → Sp → Prop} {E : XK} {t : TA} {σ : L2.St} {H : Hp} {Q : VK} (f : Addr) (sp : Sp) (h1 : σ[i]? = some (some (.ref f))) (h2 : S f sp) (h : t σ H fun vs H1 => sp vs H1 Q E) : tCallH i S E t σ H Q := ⟨f, sp, h1, h2, h⟩
end Vf

namespace Vf
open PySem PySem.Spec PyProof.Rows L2
/-! ## an own exception class over any built-in one, its fields stored by its __init__ -/
structure EC (K : PySem.W.Frag) (C : Addr) (tail : List Value) (nid : String) : Prop where
  cl : ∃ nm q N bs bm sn sub ab col dd k0 k1 k2 k3 k5,
    K.lookup C = some (excClassObj nm q C N bs bm true sn sub ab col dd k0 k1 k2 k3 k5 nid) ∧ PySem.W.excTail tail bm = true
  st : PySem.W.findIn K (.ref C) "__setattr__" = some (some (.builtin "object.__setattr__"))
  xf : XfC K C
  tt : PySem.W.typeIn K (.ref C) = some (.type "type")
  kk : PySem.W.keepIn K (.ref C) = true
theorem EC.over {K : PySem.W.Frag} {C : Addr} {tail : List Value} {nid : String} (T : EC K C tail nid) : PySem.W.excOver K C tail = true := by
  obtain ⟨nm, q, N, bs, bm, sn, sub, ab, col, dd, k0, k1, k2, k3, k5, hC, hb⟩ := T.cl
  unfold PySem.W.excOver PySem.W.clsIn
  rw [hC]
  show ((C == C) && PySem.W.excTail tail bm) = true
  rw [hb, beq_self_eq_true, Bool.and_self]
theorem taker_none {K : PySem.W.Frag} {C : Addr} {f : Str} (h : PySem.W.findIn K (.ref C) f = some none) : PySem.W.takerIn K C f = some none := by
  unfold PySem.W.takerIn
  rw [h] <;> rfl
/-- what of the built-in base the stores want -/
abbrev SFa (B : String) (tail : List Value) := StoreFacts B tail "object.__setattr__" "object"
section
variable {X : Cx} {pins : List (Addr × Obj)} {σ : L2.St} {H : Hp} {s : Shared} {a C dx : Addr} {f : Str} {y : V} {u : Value} {fs : List (Str × V)}
variable {Q : Unit → Shared → Prop} {E : Value → Shared → Prop} {A : Around} {B nid iid : String} {tail : List Value}
/-- self.f = y on an exception without a dict -/
theorem est_new (T : EC X.K C tail nid) (SF : SFa B tail) (I : Inv X pins σ H s) (e : H a = some (exo a C none)) (hno : PySem.W.findIn X.K (.ref C) f = some none) (ry : RelV y u)
    (h : ∀ dx s', H dx = none → dx ≠ a → Inv X pins σ (upd (upd H dx (exd dx [(f, y)])) a (exo a C (some dx))) s' → Q () s') :
    wpAny (model X.prog X.w) A (setAttr (.ref a) f u) Q E s := by
  obtain ⟨t1, ho⟩ := exo_at I.hok e
  obtain ⟨hp, g, d, t, os⟩ := s
  have hx : hp.get? a = some (PySem.W.excObj C t1 none .none) := ho
  refine PySem.W.set_plain (od := none) I.kIn ⟨hx, rfl, rfl, trivial⟩ T.st ?_
  refine PySem.W.osa_openX (od := none) (r := none) SF I.kIn ⟨hx, rfl, rfl, trivial⟩ T.over (taker_none hno) fun b => ?_
  obtain ⟨cd, hc, hd'⟩ := PySem.W.any_some T.xf.hdC
  have ltA : a < hp.objs.size := Heap.lt_size hx
  refine wpAny_bind (wpAny_pure (wpAny_bind (PySem.W.instanceDict_exc hx (PySem.W.looks_clsIn I.kIn hc) hd' ?_)))
  show wpAny _ _ (Builtin.ObjectAttr.storeInDict hp.objs.size (.str f _) f u) _ _ _
  have nax : a ≠ hp.objs.size := Nat.ne_of_lt ltA
  have xN : ((hp.push (PySem.W.dictOf [] 0)).update a fun o => { o with dict := some hp.objs.size }).get? a = some (PySem.W.excObj C t1 (some hp.objs.size) .none) :=
    Heap.get?_update_self _ (Heap.get?_push_of_some _ hx) rfl
  refine PySem.HandSPX.store_in_new ⟨PySem.W.dictOf [] 0, #[], _, (Heap.get?_update_ne _ _ _ _ nax.symm).trans (Heap.get?_push_at rfl rfl), rfl, fun e he => absurd he (by simp), fun _ => rfl⟩ fun h' tk' hn sb => ?_
  have k : ∀ b o, b ≠ a → hp.get? b = some o → h'.get? b = some o := fun b o hb ob =>
    (sb.2 b (Nat.ne_of_lt (Heap.lt_size ob))).trans ((Heap.get?_update_ne _ _ _ _ hb).trans (Heap.get?_push_of_some _ ob))
  have xE : h'.get? a = some (PySem.W.excObj C t1 (some hp.objs.size) .none) := (sb.2 a nax).trans xN
  have hnd : H hp.objs.size = none := I.hok.fresh (Nat.le_refl _)
  have nD : ∀ {b : Addr} {o : Obj}, hp.get? b = some o → b ≠ hp.objs.size := fun {b o} q => Nat.ne_of_lt (Heap.lt_size q)
  have nA : ∀ {b : Addr}, H b = none → b ≠ a := fun {b} n z => by
    rw [z, e] at n
    cases n
  have oT : ∀ {b : Addr} {o : HO}, H b = some o → exo a C none ≠ o → upd (upd H hp.objs.size (exd hp.objs.size [(f, y)])) a (exo a C (some hp.objs.size)) b = some o := fun {b o} q ne => by
    rw [upd_ne (L2.at_ne e q ne), upd_ne (ne_of_none q hnd)]
    exact q
  have U : Un X.fs [] H (upd (upd H hp.objs.size (exd hp.objs.size [(f, y)])) a (exo a C (some hp.objs.size))) hp h' := by
    refine ⟨fun b o q n _ _ => k b o (nA n) q, fun b o q n _ _ => ⟨o.slots, k b o (nA n) q⟩, fun b o q n _ => ?_, fun b o q _ => ?_, fun b xs q => oT q exo_tup, fun b o v q => oT q exo_frz, fun b ps q => ⟨#[], ?_⟩⟩
    · rw [upd_ne (nA n), upd_ne (nD q)]
      exact n
    · by_cases hb : b = a
      · rw [hb]
        exact ⟨_, xE⟩
      · exact ⟨o, k b o hb q⟩
    · rw [oT q exo_tbl, Array.append_empty]
  refine h hp.objs.size _ hnd nax.symm (I.un (t' := tk') U fun b o q => ?_)
  by_cases hb : b = a
  · rw [hb, upd_same] at q
    cases q
    rw [hb]
    exact exo_ok xE
  · rw [upd_ne hb] at q
    by_cases hd : b = hp.objs.size
    · rw [hd, upd_same] at q
      cases q
      rw [hd]
      exact exd_ok hn (relO_put (fs := []) ry fun g => True.intro)
    · rw [upd_ne hd] at q
      refine (I.hok b o q).stay (fun c v hc z => k c v ?_ z) (fun c hc => oT hc exo_own) fun c xs hc => oT hc exo_tup
      rcases hc with hc | hc
      · rw [hc]
        exact hb
      · exact L2.at_ne e hc exo_own
/-- a further one -/
theorem est_old (T : EC X.K C tail nid) (SF : SFa B tail) (I : Inv X pins σ H s) (e : H a = some (exo a C (some dx))) (ed : H dx = some (exd dx fs)) (hl : fs.length ≤ 900)
    (hno : PySem.W.findIn X.K (.ref C) f = some none) (ry : RelV y u) (h : ∀ s', Inv X pins σ (upd H dx (exd dx ((f, y) :: fs))) s' → Q () s') :
    wpAny (model X.prog X.w) A (setAttr (.ref a) f u) Q E s := by
  obtain ⟨t1, ho⟩ := exo_at I.hok e
  obtain ⟨mA, hns, rel⟩ := exd_at I.hok ed
  have hw := within_of rel
  obtain ⟨hp, g, d, t, os⟩ := s
  obtain ⟨oD, _, _, hoD, _, _⟩ := hns.count hw
  have hx : hp.get? a = some (PySem.W.excObj C t1 (some dx) .none) := ho
  refine PySem.W.set_plain (od := some oD) I.kIn ⟨hx, rfl, rfl, hoD⟩ T.st ?_
  refine PySem.W.osa_openX (od := some oD) (r := none) SF I.kIn ⟨hx, rfl, rfl, hoD⟩ T.over (taker_none hno) fun b => ?_
  obtain ⟨cd, hc, hd'⟩ := PySem.W.any_some T.xf.hdC
  refine wpAny_bind (wpAny_pure (wpAny_bind (wpAny_bind (wpAny_loadPart hx (wpAny_bind ((PySem.W.looks_clsIn I.kIn hc).at ?_))))))
  rw [hd']
  refine wpAny_pure (a := some dx) ?_
  refine PySem.OEX.store_in_old hns hw (by rw [List.length_map]; omega) fun h' tk' hn sb => ?_
  have there : ∃ o, h'.get? dx = some o := by
    obtain ⟨o, _, _, e', _⟩ := hn
    exact ⟨o, e'⟩
  exact h _ (I.write (t' := tk') (x := dx) (e := dx) (o := exd dx ((f, y) :: fs)) (by rw [ed]; exact True.intro) (.inl rfl) (fun b o hb ob => (sb.2 b hb).trans ob) there (exd_ok hn (relO_put ry rel)))
end
/-- what the making of an exception at C asks of its arguments -/
def MkB (C : Addr) (sp : Sp) (vs : List V) (H1 : Hp) (Q : XK) : Prop := vs.length ≤ 1000 ∧ ∀ a, H1 a = none → sp (.ref a :: vs) (upd H1 a (exo a C none))
  (fun v H2 => v = .non ∧ ∃ (d : Addr) (fs : List (Str × V)), H2 a = some (exo a C (some d)) ∧ H2 d = some (exd d fs) ∧ H1 d = none ∧ Q (.ref C) (some d) (upd (del H2 a) d (.xd fs)))
  (fun _ _ _ => False)
/-- self.f = e, in the __init__ of the class at C -/
def tEst (C : Addr) (f : Str) (to te : TE) : TS := fun D σ H => te σ H fun y H1 => to σ H1 fun x H2 => ∃ a : Addr, x = .ref a ∧
  ((H2 a = some (exo a C none) ∧ ∀ dx, H2 dx = none → dx ≠ a → D.nx σ (upd (upd H2 dx (exd dx [(f, y)])) a (exo a C (some dx)))) ∨
    ∃ (dx : Addr) (fs : List (Str × V)), H2 a = some (exo a C (some dx)) ∧ H2 dx = some (exd dx fs) ∧ fs.length ≤ 900 ∧ D.nx σ (upd H2 dx (exd dx ((f, y) :: fs))))
section
variable {X : Cx} {o e : Expr} {es : List Expr} {to te : TE} {ta : TA} {f : Str} {p p' p1 p2 pos : Pos} {C : Addr} {B nid iid : String} {tail : List Value}
theorem ps_est (T : EC X.K C tail nid) (SF : SFa B tail) (hno : PySem.W.findIn X.K (.ref C) f = some none) (ho : PE X o to) (he : PE X e te)
    (hs : swapsWith e (some (.Attribute o f p')) pos.line X.env = pure false := by rfl) : PS X (.Assign [.Attribute o f p'] e pos) (tEst C f to te) := by
  refine ⟨fun pins s σ H D I h => ?_⟩
  refine plainObj_wpAny_Assign_Attribute (thn (he.run pins s σ H _ I h) fun v s1 ⟨y, H1, I1, r1, q1⟩ => ?_) hs
  refine thn (ho.run pins s1 σ H1 _ I1 q1) fun u s2 ⟨x, H2, I2, r2, a, ex, q⟩ => ?_
  subst ex
  obtain rfl : u = Value.ref a := r2
  rcases q with ⟨ea, q⟩ | ⟨dx, fs, ea, ed, hl, q⟩
  · exact est_new T SF I2 ea hno r1 fun dx s' n ne J => ⟨σ, _, J, q dx n ne⟩
  · exact est_old T SF I2 ea ed hl hno r1 fun s' J => ⟨σ, _, J, q⟩
/-- C(e, ..): an exception is made, its __init__ being known -/
theorem pmk_ec {CX : CXT} {x : Str} {fI : Addr} {k : Nat} {fd : FuncData} {ps : List Str} {sp : Sp} (T : EC X.K C tail nid) (EB : ExcBaseFacts B nid iid tail)
    (iC : PySem.W.findIn X.K (.ref C) "__init__" = some (some (.ref fI))) (tI : PySem.W.typeIn X.K (.ref fI) = some (.type "function"))
    (F1 : FnOk X.prog X.w X.K X.mg X.base CX k fI fd ps sp) (hr : Room (k + 1) X.A) (hb : Binds X.K fd ps []) (hx : Passes CX X (fun _ _ _ => False)) (hg : Gl X x) (hm : X.mg x = some (.ref C)) (ha : PA X (e :: es) ta)
    (hdb : (x == ("__debug__" : Str)) = false := by decide) (he : starEach (e :: es) X.env = (false, eval e X.env) :: starEach es X.env := by rfl)
    (hpl : (backTo pos (starEach es X.env)).any (·.1) = false := by rfl) {R : List V → Hp → XK → Prop} (hR : ∀ vs H1 Q, R vs H1 Q → MkB C sp vs H1 Q) :
    PMk X (.Call (.Name x p) (e :: es) [] pos) (fun σ H Q => ta σ H fun vs H1 => R vs H1 Q) := by
  intro pins s σ H Q I h
  obtain ⟨nm, q, N, bs, bm, sn, sub, ab, col, dd, k0, k1, k2, k3, k5, hC, hbm⟩ := T.cl
  refine wpAny_Call_Name_kw (ld_glob I hg hm ?_ hdb)
  refine PySem.W.callWith_K (h₀ := X.base) I.ok.mod.kin T.kk (thn (ha.run pos pins s σ H _ I h) fun us s1 ⟨vs, H1, I1, r1, qR⟩ => ⟨I1.kIn, ?_⟩) he hpl
  obtain ⟨hz, q1⟩ := hR _ _ _ qR
  show wpAny _ _ (call (.ref C) us) _ _ _
  obtain ⟨hp, g, dr, tk, os⟩ := s1
  have hsz : hp.objs.size ≤ hp.objs.size + 1 := Nat.le_succ _
  have hq := q1 _ (I1.hok.fresh hsz)
  have up : ∀ b o, hp.get? b = some o → ((hp.push (PySem.W.kdv_tup us)).push (PySem.HandSPX.excO C hp.objs.size)).get? b = some o :=
    fun b o e => Heap.get?_push_of_some _ (Heap.get?_push_of_some _ e)
  have hget : ((hp.push (PySem.W.kdv_tup us)).push (PySem.HandSPX.excO C hp.objs.size)).get? (hp.objs.size + 1) = some (PySem.HandSPX.excO C hp.objs.size) := by heap_get
  have I2 := I1.laid (t' := tk) (a := hp.objs.size + 1) (o := exo (hp.objs.size + 1) C none) (h' := (hp.push (PySem.W.kdv_tup us)).push (PySem.HandSPX.excO C hp.objs.size)) up hsz (exo_ok hget)
  have r2 : Vals (V.ref (hp.objs.size + 1) :: vs) (Value.ref (hp.objs.size + 1) :: us) := .cons rfl r1
  have hl : (Value.ref (hp.objs.size + 1) :: us).length = ps.length := r2.length.symm.trans (F1.len _ _ _ _ hq)
  have hb' := hb _ (Value.ref (hp.objs.size + 1) :: us) I2.kIn (by rw [List.append_nil]; exact hl)
  rw [List.append_nil] at hb'
  have hus : us.length ≤ sizeLine := by
    rw [← Paired.length r1, sizeLine_eq]
    omega
  refine wpAny_call (PySem.HandSPX.call_own EB (fun Y => PySem.W.excTail_contains Y bm hbm) (I1.kIn _ _ hC) (PySem.W.looks_findIn I1.kIn iC) (fun self => PySem.W.bind_fn I1.kIn self tI) hus ?_)
  refine codeAny_mono (F1.run _ X.stack _ _ _ _ _ _ (fun _ _ _ => False) (hr.make C us []) (I2.env0.make C us []) hb' r2 hq) fun r s' z => ?_
  cases r with
  | error er => exact hx pins σ _ _ er s' I2 z
  | ok fl =>
    cases fl with
    | next => exact False.elim z
    | brk => exact False.elim z
    | cont => exact False.elim z
    | ret u =>
      obtain ⟨v, H2, os2, bare2, un2, hok2, rv, ev, d, fs, ea, ed, hd1, q2⟩ := z
      subst ev
      obtain ⟨h2, g2, d2, t2, os'⟩ := s'
      exact ⟨rv, mk_end (raises_own T.xf.exC T.tt) I1 hsz up un2 hok2 os2 bare2 ea ed hd1 q2⟩
end
/-- where the class stands that the module calls so -/
def cA (mg : Str → Option Value) (x : Str) : Addr := match mg x with
  | some (.ref a) => a
  | _ => 0
theorem cA_eq {mg : Str → Option Value} {x : Str} {a : Addr} (h : mg x = some (.ref a)) : cA mg x = a := by
  unfold cA
  rw [h]
/-! ## __init__ with one field, with two -/
def spI1 (C : Addr) (f : Str) : Sp := fun vs H Q _ => ∃ (a : Addr) (v : V), vs = [.ref a, v] ∧ H a = some (exo a C none) ∧
  ∀ dx, H dx = none → dx ≠ a → Q .non (upd (upd H dx (exd dx [(f, v)])) a (exo a C (some dx)))
def spI2 (C : Addr) (f g : Str) : Sp := fun vs H Q _ => ∃ (a : Addr) (v w : V), vs = [.ref a, v, w] ∧ H a = some (exo a C none) ∧
  ∀ dx, H dx = none → dx ≠ a → Q .non (upd (upd (upd H dx (exd dx [(f, v)])) a (exo a C (some dx))) dx (exd dx [(g, w), (f, v)]))
/-- C(e) of one field; C(e, e') of two: the exception's dict stands at a new place -/
def tMk1 (C : Addr) (f : Str) (ta : TA) : L2.St → Hp → XK → Prop := fun σ H Q => ta σ H fun vs H1 => ∃ v, vs = [v] ∧ ∀ d, H1 d = none → Q (.ref C) (some d) (upd H1 d (.xd [(f, v)]))
def tMk2 (C : Addr) (f g : Str) (ta : TA) : L2.St → Hp → XK → Prop := fun σ H Q => ta σ H fun vs H1 => ∃ v w, vs = [v, w] ∧ ∀ d, H1 d = none → Q (.ref C) (some d) (upd H1 d (.xd [(g, w), (f, v)]))
theorem mk1_of {C : Addr} {f : Str} (vs : List V) (H1 : Hp) (Q : XK) : (∃ v, vs = [v] ∧ ∀ d, H1 d = none → Q (.ref C) (some d) (upd H1 d (.xd [(f, v)]))) → MkB C (spI1 C f) vs H1 Q := by
  rintro ⟨v, rfl, q⟩
  refine ⟨Nat.le_of_ble_eq_true rfl, fun a ha => ⟨a, v, rfl, upd_same, fun dx hd ne => ⟨rfl, dx, [(f, v)], upd_same, ?_, ?_, ?_⟩⟩⟩
  · rw [upd_ne ne, upd_same]
  · rw [upd_ne ne] at hd
    exact hd
  · have z := q dx (by rw [upd_ne ne] at hd; exact hd)
    have e : upd (del (upd (upd (upd H1 a (exo a C none)) dx (exd dx [(f, v)])) a (exo a C (some dx))) a) dx (.xd [(f, v)]) = upd H1 dx (.xd [(f, v)]) := by
      funext b
      by_cases h1 : b = dx
      · rw [h1, upd_same, upd_same]
      · rw [upd_ne h1, upd_ne h1]
        by_cases h2 : b = a
        · rw [h2, del_same, ha]
        · rw [del_ne h2, upd_ne h2, upd_ne h1, upd_ne h2]
    rw [e]
    exact z
theorem mk2_of {C : Addr} {f g : Str} (vs : List V) (H1 : Hp) (Q : XK) : (∃ v w, vs = [v, w] ∧ ∀ d, H1 d = none → Q (.ref C) (some d) (upd H1 d (.xd [(g, w), (f, v)]))) → MkB C (spI2 C f g) vs H1 Q := by
  rintro ⟨v, w, rfl, q⟩
  refine ⟨Nat.le_of_ble_eq_true rfl, fun a ha => ⟨a, v, w, rfl, upd_same, fun dx hd ne => ⟨rfl, dx, [(g, w), (f, v)], ?_, upd_same, ?_, ?_⟩⟩⟩
  · rw [upd_ne ne.symm, upd_same]
  · rw [upd_ne ne] at hd
    exact hd
  · have z := q dx (by rw [upd_ne ne] at hd; exact hd)
    have e : upd (del (upd (upd (upd (upd H1 a (exo a C none)) dx (exd dx [(f, v)])) a (exo a C (some dx))) dx (exd dx [(g, w), (f, v)])) a) dx (.xd [(g, w), (f, v)]) = upd H1 dx (.xd [(g, w), (f, v)]) := by
      funext b
      by_cases h1 : b = dx
      · rw [h1, upd_same, upd_same]
      · rw [upd_ne h1, upd_ne h1]
        by_cases h2 : b = a
        · rw [h2, del_same, ha]
        · rw [del_ne h2, upd_ne h1, upd_ne h2, upd_ne h1, upd_ne h2]
    rw [e]
    exact z
/-! ## calls of defs that may raise, by the caller's slots -/
def tCallW (sp : Sp) (W : WX) (t : TA) : TE := fun σ H Q => t σ H fun vs H1 => sp vs H1 Q fun cls d H' => W cls d σ H'
def tCallKW (sp : Sp) (gV : List V → List V → List V) (W : WX) (t tk : TA) : TE := fun σ H Q => t σ H fun vs H1 => tk σ H1 fun zs H2 => sp (gV vs zs) H2 Q fun cls d H' => W cls d σ H'
section
variable {X : Cx} {k : Nat} {ps ks : List Str} {sp : Sp} {W : WX} {x : Str} {st : Stmt} {p pos : Pos} {e : Expr} {es : List Expr} {kws : List Keyword} {t tq : TA}
theorem run_gS {pins : List (Addr × Obj)} {σ : L2.St} {H : Hp} {s : Shared} {Q : VK} {us : List Value} {vs : List V} {f : Addr} {fd : FuncData} {args : Args}
    (r : ∀ (A : Around) (outer : List Env) (s : Shared) (H : Hp) (args : Args) (us : List Value) (vs : List V) (Q : VK) (E : XK),
      A.guards = some [] → Room k A → Env0 X.prog X.w X.K X.mg X.base A outer s H → BindsTo s fd args (ps.zip us) → Vals vs us → sp vs H Q E →
        codeAny (model X.prog X.w) A (.call (.ref f) args) (CR (CX X.prog X.w) outer X.prog X.w H s Q E) s)
    (hg : X.A.guards = some []) (hr : Room k X.A) (tk : Takes X W) (I : Inv X pins σ H s) (hb : BindsTo s fd args (ps.zip us)) (hv : Vals vs us)
    (h : sp vs H Q fun cls d H' => W cls d σ H') :
    codeAny (model X.prog X.w) X.A (.call (.ref f) args)
      (fun r s' => match r with | .error e => X.xe e s' | .ok (.ret u) => EP X pins σ Q u s' | .ok _ => False) s := by
  refine codeAny_mono (r X.A X.stack s H args us vs Q _ hg hr I.env0 hb hv h) fun r s' hq => ?_
  cases r with
  | error e => exact tk _ _ (XE.of_call I (fun _ _ _ z => z) hq)
  | ok fl =>
    cases fl with
    | ret u => exact I.after hq
    | next => exact hq
    | brk => exact hq
    | cont => exact hq
theorem pe_gS (G : Ok X.prog X.w X.K X.mg X.base k x st ps sp) (b : ∀ f fd, L2.Fun X.K x x st f fd → L2.Binds X.K fd ps [])
    (hg : X.A.guards = some []) (hr : Room k X.A) (tk : Takes X W) (gl : Gl X x) (ha : PA X (e :: es) t)
    (hdb : (x == ("__debug__" : Str)) = false := by decide)
    (he : starEach (e :: es) X.env = (false, eval e X.env) :: starEach es X.env := by rfl)
    (hpl : (backTo pos (starEach es X.env)).any (·.1) = false := by rfl) :
    PE X (.Call (.Name x p) (e :: es) [] pos) (tCallW sp W t) := by
  obtain ⟨⟨f, fd, F, hm, r⟩, l⟩ := G
  refine ⟨fun pins s σ H Q I h => wpAny_Call_Name_kw (ld_glob I gl hm ?_ hdb)⟩
  refine PySem.W.callWith_K (h₀ := X.base) I.ok.mod.kin F.kp (thn (ha.run pos pins s σ H _ I h) fun us s1 ⟨vs, H1, I1, r1, q1⟩ => ⟨I1.kIn, ?_⟩) he hpl
  have hl : us.length = ps.length := r1.length.symm.trans (l _ _ _ _ q1)
  have bb := b f fd F s1 us I1.kIn (by rw [List.append_nil]; exact hl)
  rw [List.append_nil] at bb
  refine wpAny_call (codeAny_mono (run_gS r hg hr tk I1 bb r1 q1) fun z s' hz => ?_)
  rcases z with e | fl
  · exact hz
  · cases fl <;> exact hz
theorem pe_gkS0 {gf : List Value → List Value → List Value} {gV : List V → List V → List V} (G : Ok X.prog X.w X.K X.mg X.base k x st ps sp)
    (b : ∀ f fd, L2.Fun X.K x x st f fd → KBinds X.K fd ps ks gf gV)
    (hg : X.A.guards = some []) (hr : Room k X.A) (tk : Takes X W) (gl : Gl X x) (hkw : PK X kws tq)
    (hall : (backToKw pos (keywordEach kws X.env)).all (·.1.isSome) = true := by rfl)
    (hks : (backToKw pos (keywordEach kws X.env)).filterMap (·.1) = ks := by rfl) (hdb : (x == ("__debug__" : Str)) = false := by decide)
    (hpl : ((backTo pos (starEach [] X.env)).any (·.1) || (backToKw pos (keywordEach kws X.env)).any (·.1.isNone)) = false := by rfl) :
    PE X (.Call (.Name x p) [] kws pos) (tCallKW sp gV W tNil tq) := by
  obtain ⟨⟨f, fd, F, hm, r⟩, l⟩ := G
  refine ⟨fun pins s σ H Q I h => wpAny_Call_Name_kw (ld_glob I gl hm ?_ hdb)⟩
  refine PySem.W.callWith_KW0 (h₀ := X.base) I.ok.mod.kin F.kp hall (thn (hkw.run pos pins s σ H _ I h) fun ws s2 ⟨zs, H2, I2, rz, q2⟩ => ⟨I2.kIn, ?_⟩) hpl
  rw [hks]
  have B := b f fd F
  have r2 := B.rel .nil rz
  refine wpAny_call (codeAny_mono (run_gS r hg hr tk I2 (B.to s2 [] ws I2.kIn (r2.length.symm.trans (l _ _ _ _ q2))) r2 q2) fun z s' hz => ?_)
  rcases z with e | fl
  · exact hz
  · cases fl <;> exact hz
theorem pe_gkS {gf : List Value → List Value → List Value} {gV : List V → List V → List V} (G : Ok X.prog X.w X.K X.mg X.base k x st ps sp)
    (b : ∀ f fd, L2.Fun X.K x x st f fd → KBinds X.K fd ps ks gf gV)
    (hg : X.A.guards = some []) (hr : Room k X.A) (tk : Takes X W) (gl : Gl X x) (ha : PA X (e :: es) t) (hkw : PK X kws tq)
    (hall : (backToKw pos (keywordEach kws X.env)).all (·.1.isSome) = true := by rfl)
    (hks : (backToKw pos (keywordEach kws X.env)).filterMap (·.1) = ks := by rfl) (hdb : (x == ("__debug__" : Str)) = false := by decide)
    (he : starEach (e :: es) X.env = (false, eval e X.env) :: starEach es X.env := by rfl)
    (hpl : ((backTo pos (starEach (e :: es) X.env)).any (·.1) || (backToKw pos (keywordEach kws X.env)).any (·.1.isNone)) = false := by rfl) :
    PE X (.Call (.Name x p) (e :: es) kws pos) (tCallKW sp gV W t tq) := by
  obtain ⟨⟨f, fd, F, hm, r⟩, l⟩ := G
  refine ⟨fun pins s σ H Q I h => wpAny_Call_Name_kw (ld_glob I gl hm ?_ hdb)⟩
  refine PySem.W.callWith_KW (h₀ := X.base) I.ok.mod.kin F.kp hall (thn (ha.run pos pins s σ H _ I h) fun us s1 ⟨vs, H1, I1, r1, q⟩ => ?_) hpl he
  refine thn (hkw.run pos pins s1 σ H1 _ I1 q) fun ws s2 ⟨zs, H2, I2, rz, q2⟩ => ⟨I2.kIn, ?_⟩
  rw [hks]
  have B := b f fd F
  have r2 := B.rel r1 rz
  refine wpAny_call (codeAny_mono (run_gS r hg hr tk I2 (B.to s2 us ws I2.kIn (r2.length.symm.trans (l _ _ _ _ q2))) r2 q2) fun z s' hz => ?_)
  rcases z with e | fl
  · exact hz
  · cases fl <;> exact hz
end
section
variable {sp : Sp} {W : WX} {t tq : TA} {gV : List V → List V → List V} {σ : L2.St} {H : Hp} {Q : VK} {a C : Addr} {cls : Value} {d : Option Addr} {f : Str} {te : TE}
theorem r_callW (h : t σ H fun vs H1 => sp vs H1 Q fun cls d H' => W cls d σ H') : tCallW sp W t σ H Q := h
theorem r_callKW (h : t σ H fun vs H1 => tq σ H1 fun zs H2 => sp (gV vs zs) H2 Q fun cls d H' => W cls d σ H') : tCallKW sp gV W t tq σ H Q := h
theorem r_xf (h : te σ H fun x H1 => x = .ref a ∧ cls = .ref C ∧ ∃ (dd : Addr) (fs : List (Str × V)) (v : V), d = some dd ∧ H1 dd = some (.xd fs) ∧ fs.lookup f = some v ∧ Q v H1) :
    tXf a cls d C f te σ H Q := h
/-- the clause 'except x as n' takes it; it goes by -/
theorem w_as {K : PySem.W.Frag} {c : Value} {i : Nat} {ts : Addr → Value → Option Addr → TS} {Wout : WX} {D : Ends} (h1 : PySem.W.exmOne K cls c = some true)
    (h : ∀ a, H a = none → ts a cls d { nx := fun σ' H' => D.nx (σ'.set i none) H', rt := D.rt, bk := fun σ' H' => D.bk (σ'.set i none) H', ct := fun σ' H' => D.ct (σ'.set i none) H' } (σ.set i (some (.ref a))) H) :
    wAs K c i ts Wout D cls d σ H := ⟨true, h1, fun _ a ha => h a ha, fun z => Bool.noConfusion z⟩
theorem w_by {K : PySem.W.Frag} {c : Value} {i : Nat} {ts : Addr → Value → Option Addr → TS} {Wout : WX} {D : Ends} (h1 : PySem.W.exmOne K cls c = some false) (h : Wout cls d σ H) :
    wAs K c i ts Wout D cls d σ H := ⟨false, h1, fun z => Bool.noConfusion z, fun _ => h⟩
end
/-- whether an except clause takes an exception of an own class -/
theorem exm_cls {K : PySem.W.Frag} {C D : Addr} {b : Bool} (h1 : PySem.W.subIn K (.ref D) (.type "BaseException") = some true) (h2 : PySem.W.hasDictIn K D = true)
    (h3 : PySem.W.typeIn K (.ref D) = some (.type "type")) (h4 : PySem.W.subIn K (.ref C) (.ref D) = some b) : PySem.W.exmOne K (.ref C) (.ref D) = some b := by
  obtain ⟨cd, hc, _⟩ := PySem.W.any_some h2
  unfold PySem.W.exmOne
  rw [if_pos (by rw [h1]; decide)]
  unfold PySem.W.kitCls
  dsimp only
  rw [if_pos (by rw [h3, hc] <;> rfl)]
  exact h4
/-! ## is None, is not None -/
theorem r_isn_ref {p : Addr} {R : Bool → Prop} (h : R false) : V.non = V.non ∧ ∃ k, V.bl (decide (V.ref p = V.non)) = V.bl k ∧ R k := ⟨rfl, _, rfl, by rw [show decide (V.ref p = V.non) = false by simp]; exact h⟩
theorem r_nn_ref {p : Addr} {R : Bool → Prop} (h : R true) : V.non = V.non ∧ ∃ k, V.bl (!decide (V.ref p = V.non)) = V.bl k ∧ R k := ⟨rfl, _, rfl, by rw [show (!decide (V.ref p = V.non)) = true by simp]; exact h⟩
theorem r_isn_int {i : Int} {R : Bool → Prop} (h : R false) : V.non = V.non ∧ ∃ k, V.bl (decide (V.int i = V.non)) = V.bl k ∧ R k := ⟨rfl, _, rfl, by rw [show decide (V.int i = V.non) = false by simp]; exact h⟩
theorem r_nn_int {i : Int} {R : Bool → Prop} (h : R true) : V.non = V.non ∧ ∃ k, V.bl (!decide (V.int i = V.non)) = V.bl k ∧ R k := ⟨rfl, _, rfl, by rw [show (!decide (V.int i = V.non)) = true by simp]; exact h⟩
theorem r_isn_non {R : Bool → Prop} (h : R true) : V.non = V.non ∧ ∃ k, V.bl (decide (V.non = V.non)) = V.bl k ∧ R k := ⟨rfl, _, rfl, by rw [show decide (V.non = V.non) = true by simp]; exact h⟩
theorem r_nn_non {R : Bool → Prop} (h : R false) : V.non = V.non ∧ ∃ k, V.bl (!decide (V.non = V.non)) = V.bl k ∧ R k := ⟨rfl, _, rfl, by rw [show (!decide (V.non = V.non)) = false by simp]; exact h⟩
/-! ## lists put together -/
theorem r_cat {l b : Addr} {xs zs : List V} {H : Hp} {Q : VK} (h1 : H l = some (.lst xs)) (h2 : H b = some (.lst zs)) (hz : xs.length + zs.length ≤ 100000) (h : ∀ p, H p = none → Q (.ref p) (upd H p (.lst (xs ++ zs)))) :
    rCat (.ref l) (.ref b) H Q := ⟨l, b, xs, zs, rfl, rfl, h1, h2, small hz, h⟩
/-! ## >>= 1, signs of a text -/
def ipH : TIp := fun x y H Q => ∃ i : Int, x = .int i ∧ y = .int 1 ∧ Q (.int (i / 2)) H
theorem ip_half {X : Cx} : PIp X .RShift ipH := fun pins s σ H x y v u Q I rx ry h => iop_halfI pins s σ H x y v u Q I rx ry h
theorem r_half {i : Int} {H : Hp} {Q : VK} (h : Q (.int (i / 2)) H) : ipH (.int i) (.int 1) H Q := ⟨i, rfl, rfl, h⟩
def rOdd : V → V → Hp → VK → Prop := fun x y H Q => ∃ n : Nat, x = .int (n : Int) ∧ y = .int 1 ∧ Q (.int ((n % 2 : Nat) : Int)) H
theorem r_odd {n : Nat} {H : Hp} {Q : VK} (h : Q (.int ((n % 2 : Nat) : Int)) H) : ∃ m : Nat, (V.int (n : Int)) = .int (m : Int) ∧ V.int 1 = .int 1 ∧ Q (.int ((m % 2 : Nat) : Int)) H := ⟨n, rfl, rfl, h⟩
theorem r_forStr {g : TG} {tb : TS} {D : Ends} {σ : L2.St} {H : Hp} {te : TE} (h : te σ H fun v H1 => ∃ x, v = .str x ∧ tFor (fun _ H2 R => R (Its x) H2) g tb D σ H1) : tFor (iStr te) g tb D σ H := h
theorem r_forSs {x : Str} {g : TG} {tb : TS} {D : Ends} {σ : L2.St} {H : Hp} (Pv : Nat → L2.St → Hp → Prop) (h0 : Pv 0 σ H)
    (hs : ∀ i c σ H, x.cps[i]? = some c → Pv i σ H → g (.str ⟨#[c]⟩) σ H fun σ2 H2 => tb { D with nx := Pv (i + 1), ct := Pv (i + 1), bk := D.nx } σ2 H2) (hd : ∀ σ H, Pv x.cps.size σ H → D.nx σ H) :
    tFor (fun _ H2 R => R (Its x) H2) g tb D σ H := by
  refine ⟨fun i l σ H => i + l = x.cps.size ∧ Pv i σ H, ⟨x.cps.size, Nat.zero_add _, h0⟩, ?_⟩
  rintro i l σ H ⟨e, p⟩
  by_cases c : i < x.cps.size
  · refine .inr ⟨c, Pv (i + 1), fun σ' H' p' => ⟨l - 1, by omega, by omega, p'⟩, ?_⟩
    rintro y H' ⟨eH, c0, hc, ey⟩
    subst eH
    subst ey
    exact hs i c0 σ _ hc p
  · have z : i = x.cps.size := by omega
    subst z
    exact .inl ⟨Nat.le_refl _, hd σ H p⟩
end Vf

namespace Vf
open PySem PySem.Spec PyProof.Rows L2
/-! ## the decimal signs of a number, read one by one -/
def sgn (k : Nat) : Str := PySem.Str.ofString (toString ((k : Nat) : Int))
/-- what the first signs tell -/
def dv (k i : Nat) : Nat := NumText.digitsVal ((sgn k).cps.toList.take i)
theorem sgn_list (k : Nat) : (sgn k).cps.toList = (Nat.toDigits 10 k).map Char.toNat := PySem.W.KIN.signs_num k
theorem dv_zero (k : Nat) : dv k 0 = 0 := rfl
theorem dv_all (k : Nat) : dv k (sgn k).cps.size = k := by
  unfold dv
  rw [List.take_of_length_le (by rw [Array.length_toList]; exact Nat.le_refl _), sgn_list]
  exact PySem.W.KIN.val_back k
theorem sgn_digit {k i c : Nat} (h : (sgn k).cps[i]? = some c) : 48 ≤ c ∧ c ≤ 57 := by
  have m : c ∈ (sgn k).cps.toList := Array.mem_toList_iff.mpr (Array.mem_of_getElem? h)
  rw [sgn_list] at m
  obtain ⟨ch, hch, e⟩ := List.mem_map.mp m
  have r := PyProof.Rows.digit_range (Nat.isDigit_of_mem_toDigits (by decide) (by decide) hch)
  rw [← e]
  exact r
theorem dv_next {k i c : Nat} (h : (sgn k).cps[i]? = some c) : dv k (i + 1) = dv k i * 10 + (c - 48) := by
  have h' : (sgn k).cps.toList[i]? = some c := by rw [Array.getElem?_toList]; exact h
  unfold dv
  rw [List.take_add_one, h']
  exact PySem.NumText.digitsVal_snoc _ _
theorem one_sign {c : Nat} (h1 : 48 ≤ c) (h2 : c ≤ 57) : PySem.intText? (⟨#[c]⟩ : Str) = some (((c - 48 : Nat) : Nat) : Int) := by
  have e := PySem.intText_digits (x := (⟨#[c]⟩ : Str)) (fun d hd => by
    have : d = c := by simpa using hd
    subst this
    exact ⟨h1, h2⟩) (by simp) (show 1 ≤ 4300 by decide)
  rw [e]
  congr 2
  show 0 * 10 + (c - 48) = c - 48
  omega
theorem r_intS {c : Nat} {H : Hp} {Q : VK} (h1 : 48 ≤ c) (h2 : c ≤ 57) (h : Q (.int ((c - 48 : Nat) : Int)) H) :
    ∃ a n, [V.str ⟨#[c]⟩] = [V.str a] ∧ PySem.intText? a = some n ∧ a.length ≤ 640 ∧ Q (.int n) H := ⟨_, _, rfl, one_sign h1 h2, (by decide : 1 ≤ 640), h⟩
theorem r_strI {k : Nat} {H : Hp} {Q : VK} (hk : k.log2 < 1920) (h : Q (.str (sgn k)) H) : ∃ i : Int, [V.int (k : Int)] = [V.int i] ∧ i.natAbs.log2 < 1920 ∧ Q (.str (toString i)) H := ⟨_, rfl, hk, h⟩
end Vf

namespace Vf
open PySem PySem.Spec PyProof.Rows L2 LamX
/-! ## a lambda without parameters handed to a def of the text, where repr may be used -/
section
variable {X : Cx} {pins : List (Addr × Obj)} {σ : L2.St} {H : Hp} {s s1 : Shared}
/-- the context of the def at g, entered from X at s -/
abbrev gcx (X : Cx) (Ng : List Str) (x : Str) (st : Stmt) (g : Addr) (cdg : Value) (s : Shared) (H : Hp) (E : XK) : Cx :=
  cxOf (CX X.prog X.w) X.prog X.w X.K X.mg X.base Ng x (defScope st) g cdg X.A X.stack s H E
/-- x(), in the def that got the lambda -/
theorem pe_actG {Eg : XK} {Ng : List Str} {x : Str} {st : Stmt} {g f c' : Addr} {cdg pm ctv : Value} {params : Arguments} {body : Expr} {scope : Scope} {k i : Nat} {a : Str} {pn : List (Addr × Obj)} {xe : Value → Shared → Prop} {W : WX} {tb : XK → TE} {p1 p2 : Pos}
    (I : Inv X pins σ H s) (L : LamS X.env.scope scope) (hf : s.heap.get? f = some (PySem.W.kla_obj "<lambda>" (X.env.qual ++ "<lambda>") params body scope (cloFrom X.env.cells scope.names []) pm c' ctv)) (hfn : H f = none) (hfr : f ∉ frs X.stack)
    (hbind : bindArgs (PySem.W.kla_fn "<lambda>" (X.env.qual ++ "<lambda>") params body scope (cloFrom X.env.cells scope.names []) pm (.ref c') ctv) ⟨[], []⟩ = pure [])
    (tk : Takes ((gcx X Ng x st g cdg s H Eg).tr pn xe) W) (hgA : X.A.guards = some []) (hr : Room (k + 1) (X.A.deeper (envOfC x (defScope st) s.heap.objs.size g cdg)))
    (hbody : ∀ (A : Around) (outer : List Env) (s : Shared) (H : Hp) (E : XK), (A.deeper (lamEnv X scope s.heap.objs.size f c')).guards = some [] → Room k (A.deeper (lamEnv X scope s.heap.objs.size f c')) → PE (lamCx X A outer s H E scope f c') body (tb E))
    (hN : Ng[i]? = some a) (hv : Vis (defScope st) a) (hd : (a == ("__debug__" : Str)) = false := by decide) (hcd : (a == ("__classdict__" : Str)) = false := by decide) :
    PE ((gcx X Ng x st g cdg s H Eg).tr pn xe) (.Call (.Name a p1) [] [] p2) (fun σZ HZ Q => σZ[i]? = some (some (.ref f)) ∧ HZ c' = some (CodeO c' (X.env.qual ++ "<lambda>")) ∧ tb (fun cls d H' => W cls d σZ H') σ HZ Q) := by
  refine ⟨fun pinsZ sZ σZ HZ Q IZ h => ?_⟩
  obtain ⟨hs, hc, ht⟩ := h
  have named := (pe_var (X := (gcx X Ng x st g cdg s H Eg).tr pn xe) (pos := p1) (i := i) hN hv hd hcd).run pinsZ sZ σZ HZ (fun v H1 => v = .ref f ∧ H1 = HZ) IZ ⟨.ref f, hs, rfl, rfl⟩
  refine wpAny_Call_Name_kw (thn named fun u s1 ⟨v, H1, I1, r1, ev, eH⟩ => ?_)
  subst ev
  subst eH
  obtain rfl : u = Value.ref f := r1
  have of1 := I1.base.keep f _ hf hfn hfr (fun z => nomatch (show f ∈ ([] : List Addr) from z))
  refine PySem.W.callWith_F0 ⟨_, _, _, _, of1⟩ ?_
  have un : Un (frs X.stack) [] H H1 s.heap s1.heap := I1.base
  obtain ⟨⟨oc, vs, t, hoc, hdc, hvc⟩, _, _⟩ := I1.hok c' _ hc
  have rc : codeAny (model X.prog X.w) (X.A.deeper (envOfC x (defScope st) s.heap.objs.size g cdg)) (.call (.ref f) ⟨[], []⟩)
      (CR (CX X.prog X.w) (envOfC x (defScope st) s.heap.objs.size g cdg :: X.stack) X.prog X.w H1 s1 Q fun cls d H' => W cls d σZ H') s1 := by
    refine PySem.W.kla_callFunE hr.depth of1 rfl L.co L.gen rfl ⟨c', oc, vs, t, rfl, hoc, hdc, hvc⟩ ?_
    rw [hbind]
    refine wpAny_pure (wpAny_newFunctionEnv (fun y hy => (L.own y hy).2) (fun y hy => absurd hy (by simp)) (fun h₁ hns hsb => ⟨I1.nolimit.fresh _ hsb, ?_⟩) L.kind)
    show codeAny _ _ (.expr body (lamEnv X scope s1.heap.objs.size f c')) _ _
    have kp : ∀ b o, s1.heap.get? b = some o → h₁.get? b = some o := fun b o e => hsb.extBut b o (Nat.ne_of_lt (Heap.lt_size e)) (Heap.get?_push_of_some _ e)
    have J := lam_start2 (E := fun cls d H' => W cls d σZ H') (f := f) (c' := c') (tk := s1.toks + ([] : List (Str × Value)).length) I L I1.env0 hr.hd un hns kp
    refine PySem.W.kla_codeExpr (wpAny_mono ((hbody (X.A.deeper (envOfC x (defScope st) s.heap.objs.size g cdg)) _ s1 H1 _ hgA (hr.deeper _)).run [] _ _ H1 Q J ht) (fun v s' hq => ?_) fun e s' hq => hq)
    obtain ⟨w', H', J', rv, q⟩ := hq
    exact ⟨w', H', J'.os, J'.bare, J'.base, J'.hok, rv, q⟩
  refine wpAny_call (codeAny_mono rc fun r s' hq => ?_)
  rcases r with e | fl
  · exact tk _ _ (XE.of_call I1 (fun _ _ _ z => z) hq)
  · rcases fl with _ | _ | _ | u
    · exact False.elim hq
    · exact False.elim hq
    · exact False.elim hq
    · exact I1.after hq
end
/-- the def x that calls what it got (by the name a): TT is what it makes of the lambda's reading -/
def Gives (X : Cx) (k : Nat) (Ng : List Str) (x : Str) (st : Stmt) (a : Str) (q : Str) (TT : (XK → Hp → VK → Prop) → Hp → VK → Prop) : Prop :=
  ∀ (g : Addr) (cdg : Value) (f c' : Addr) (s : Shared) (H : Hp) (Q : VK) (tl : XK → Hp → VK → Prop), (X.A.deeper (envOfC x (defScope st) s.heap.objs.size g cdg)).guards = some [] → Room (k + 1) (X.A.deeper (envOfC x (defScope st) s.heap.objs.size g cdg)) →
    (∀ (W : WX) (pn : List (Addr × Obj)) (xe : Value → Shared → Prop) (p1 p2 : Pos), Takes ((gcx X Ng x st g cdg s H E0).tr pn xe) W →
      PE ((gcx X Ng x st g cdg s H E0).tr pn xe) (.Call (.Name a p1) [] [] p2) (fun σZ HZ Q => σZ[0]? = some (some (.ref f)) ∧ HZ c' = some (CodeO c' q) ∧ tl (fun cls d H' => W cls d σZ H') HZ Q)) →
    H c' = some (CodeO c' q) → TT tl H Q → ∃ t, PSs (gcx X Ng x st g cdg s H E0) (defBody st) t ∧ t { nx := fun _ H' => Q .non H', rt := Q } (L2.start Ng [.ref f]) H
section
variable {X : Cx}
/-- x(lambda: body) -/
theorem pe_lamG {T : List (Addr × Str)} {TT : (XK → Hp → VK → Prop) → Hp → VK → Prop} {x a : Str} {st : Stmt} {c P : Addr} {k : Nat} {Ng : List Str} {params : Arguments} {body : Expr} {scope : Scope} {t : XK → TE} {p lpos pos : Pos}
    (hA : At X.K X.mg x st) (hb : ∀ f fd, L2.Fun X.K x x st f fd → L2.Binds X.K fd [a] []) (Sg : FnScope Ng [a] (defScope st)) (hNg : Ng[0]? = some a) (hva : Vis (defScope st) a)
    (hgA : X.A.guards = some []) (hr : Room (k + 2) X.A) (hg : Gl X x) (hG : Gives X k Ng x st a (X.env.qual ++ "<lambda>") TT)
    (TB : TabB X.base X.mg c P) (hcode : X.env.code = .ref c) (hmT : (P, X.env.qual ++ "<lambda>") ∈ T) (hu : ∀ p ∈ T, p.1 = P → p.2 = X.env.qual ++ "<lambda>") (L : LamS X.env.scope scope) (hdef : defaultsOf params X.env = ([], []))
    (hbind : ∀ (q : Str) (cl : List (Str × Addr)) (pm cv ctv : Value), bindArgs (PySem.W.kla_fn "<lambda>" q params body scope cl pm cv ctv) ⟨[], []⟩ = pure [])
    (hbody : ∀ (A : Around) (outer : List Env) (s : Shared) (H : Hp) (E : XK) (f c' : Addr), (A.deeper (lamEnv X scope s.heap.objs.size f c')).guards = some [] → Room k (A.deeper (lamEnv X scope s.heap.objs.size f c')) → PE (lamCx X A outer s H E scope f c') body (t E))
    (hdb : (x == ("__debug__" : Str)) = false := by decide) (hd : (a == ("__debug__" : Str)) = false := by decide) (hcd : (a == ("__classdict__" : Str)) = false := by decide) :
    PE X (.Call (.Name x p) [.Lambda params body scope lpos] [] pos) (tLam T TT t) := by
  obtain ⟨g, fd, F, hm⟩ := hA
  refine ⟨fun pins s σ H Q I ⟨hT, h⟩ => ?_⟩
  refine wpAny_Call_Name_kw (ld_glob I hg hm ?_ hdb)
  refine PySem.W.callWith_K (h₀ := X.base) I.ok.mod.kin F.kp ?_ (by rfl) (by rfl)
  show wpAny _ _ (spliced ((false, eval (.Lambda params body scope lpos) X.env) :: backTo pos (starEach [] X.env))) _ _ s
  refine Calls.spliced_cons (lam_make2 I TB hcode hmT hu hT hdef (L.has I.ok) fun f c' pm' ctv H1 s' I1 eN T1 hf hfn hfr hco => ?_)
  refine Calls.spliced_nil ⟨I1.kIn, ?_⟩
  have bd := hb g fd F s' [.ref f] I1.kIn rfl
  obtain ⟨oc, od, kV, doc, pm, an, cdv, ct, osl, efd, lk, hcg⟩ := F.ex
  subst efd
  have rc : codeAny (model X.prog X.w) X.A (.call (.ref g) ⟨[.ref f], []⟩) (CR (CX X.prog X.w) X.stack X.prog X.w H1 s' Q E0) s' := by
    refine run_ofS (N := Ng) (ps := [a]) (us := [.ref f]) (vs := [.ref f]) (k := k + 1) lk hcg Sg hr I1.env0 bd (.cons rfl .nil) rfl fun hr' => ?_
    exact hG g cdv f c' s' H1 Q (fun E H' Q' => t E σ H' Q') hgA hr' (fun W pn xe p1 p2 tk => pe_actG (i := 0) I1 L hf hfn hfr (hbind _ _ _ _ _) tk hgA hr' (fun A outer s H E hga hr2 => hbody A outer s H E f c' hga hr2) hNg hva hd hcd) hco (h H1 eN T1)
  refine wpAny_call (codeAny_mono rc fun r s2 hq => ?_)
  rcases r with e | fl
  · obtain ⟨_, _, _, _, _, _, _, _, _, _, _, _, z⟩ := hq
    exact z.elim
  · rcases fl with _ | _ | _ | u
    · exact False.elim hq
    · exact False.elim hq
    · exact False.elim hq
    · exact I1.after hq
end
/-- a def whose code object is known -/
def AtC (K : PySem.W.Frag) (mg : Str → Option Value) (x : Str) (st : Stmt) (c : Addr) : Prop :=
  ∃ (f : Addr) (oc : Value) (od : Option Addr) (kV doc pm : Value) (an : Option Addr) (ct : Value) (osl : Array (Option Value)),
    K.lookup f = some ⟨oc, od, .func (PySem.W.fnOf x x (defArgs st) (defBody st) (defScope st) .none kV doc pm an (.ref c) ct), osl⟩ ∧ PySem.W.codeIn K (.ref c) x = true ∧ PySem.W.keepIn K (.ref f) = true ∧ mg x = some (.ref f)
/-- where the code object and its table stand -/
def tabP (K : PySem.W.Frag) (x : Str) : Addr × Addr := (PySem.W.tabIn K x).getD (0, 0)
theorem tabP_eq {K : PySem.W.Frag} {x : Str} {p : Addr × Addr} (h : PySem.W.tabIn K x = some p) : tabP K x = p := by
  unfold tabP
  rw [h]
  rfl
section
variable {P : Program} {w : World} {K : PySem.W.Frag} {mg : Str → Option Value} {base : Heap} {k : Nat} {x : Str} {st : Stmt} {ps N : List Str} {sp : Sp} {c : Addr}
theorem AtC.ok (a : AtC K mg x st c) (S : FnScope N ps (defScope st)) (len : ∀ vs H Q E, sp vs H Q E → vs.length = ps.length)
    (hbody : ∀ (f : Addr) (A : Around) (outer : List Env) (s : Shared) (H : Hp) (vs : List V) (Q : VK) (E : XK),
      (A.deeper (envOfC x (defScope st) s.heap.objs.size f (.ref c))).guards = some [] → Room k (A.deeper (envOfC x (defScope st) s.heap.objs.size f (.ref c))) → sp vs H Q E →
      ∃ t, PSs (cxOf (CX P w) P w K mg base N x (defScope st) f (.ref c) A outer s H E) (defBody st) t ∧ t { nx := fun _ H' => Q .non H', rt := Q } (L2.start N vs) H) : Ok P w K mg base (k + 1) x st ps sp := by
  obtain ⟨f, oc, od, kV, doc, pm, an, ct, osl, lk, hcd, kp, hm⟩ := a
  refine ⟨⟨f, _, fun_mk lk hcd kp, hm, fun A outer s H args us vs Q E hg hr e0 hb r hsp => ?_⟩, len⟩
  exact run_ofS lk hcd S hr e0 hb r (len _ _ _ _ hsp) fun hr' => hbody f A outer s H vs Q E hg hr' hsp
end
end Vf
namespace Vf
open PySem PySem.Spec PyProof.Rows L2 LamX
/-! ## the law's own call where its defs make lambdas: cs are their code objects with the tables -/
section
variable {P : Program} {w : World} {K : PySem.W.Frag} {mg mb : Str → Option Value} {k : Nat} {fa a : Addr} {st : Stmt} {x y : Str} {sp : Sp} {s₁ : Shared} {vs : List Value} {ns : List Int} {cs : List (Addr × Addr)}
structure TabIn (cs : List (Addr × Addr)) (K : PySem.W.Frag) (mg : Str → Option Value) (h : Heap) : Prop where
  tab : ∀ p ∈ cs, h.get? p.2 = some { cls := .none, data := .fields #[] }
  non : ∀ p ∈ cs, K.lookup p.2 = none
  code : ∀ p ∈ cs, PySem.W.CodeHd h p.1 p.2
  bm : ∃ (bm : Addr) (ob : Obj), mg "__builtins__" = some (.ref bm) ∧ bm ≠ builtinsNs ∧ h.get? bm = some ob ∧ ob.cls = .type "module" ∧ ob.dict = some builtinsNs ∧ ob.data = .plain
theorem TabIn.at {h : Heap} (C : TabIn cs K mg h) {b : Addr} (hb : b ∈ cs.map (·.2)) : h.get? b = some { cls := .none, data := .fields #[] } := by
  obtain ⟨p, hp, rfl⟩ := List.mem_map.mp hb
  exact C.tab p hp
/-- what a heap that hides the tables and the script keeps of the tables -/
theorem TabIn.base {h : Heap} {H : Hp} (C : TabIn cs K mg h) (hns : h.Ns mainGlobals mg) (off : ∀ {b : Addr} {o : Obj}, h.get? b = some o → (∀ us n, o.data ≠ .seq us n) → o.data ≠ .fields #[] → H b = none) :
    ∀ p ∈ cs, TabB (hidT h H) mg p.1 p.2 := fun p hp => by
  have hT := C.tab p hp
  obtain ⟨oG, es, ep, eG, dG, rG⟩ := hns
  have nG : mainGlobals ≠ p.2 := fun z => by
    rw [z, hT] at eG
    cases eG
    cases dG
  refine ⟨?_, ?_, nG⟩
  · obtain ⟨o, us, file, tf, flags, tg, inF, text, tt, e1, r1, r2, r3, rest⟩ := C.code p hp
    refine ⟨o, us, file, tf, flags, tg, inF, text, tt, hidT_get e1 (off e1 (fun vs n z => ?_) fun z => ?_), r1, r2, r3, rest⟩
    · rw [r2] at z; cases z
    · rw [r2] at z; cases z; simp at r3
  · obtain ⟨bm, ob, b1, b2, b3, b4, b5, b6⟩ := C.bm
    have n1 : bm ≠ mainGlobals := fun z => by
      rw [z, eG] at b3
      cases b3
      rw [dG] at b6
      cases b6
    have n2 : bm ≠ p.2 := fun z => by
      rw [z, hT] at b3
      cases b3
      cases b6
    refine ⟨bm, ob, b1, b2, n1, n2, hidT_get b3 (off b3 (fun vs n z => ?_) fun z => ?_), b4, b5, b6⟩
    · rw [b6] at z; cases z
    · rw [b6] at z; cases z
theorem law_gT (KX : K.In s₁.heap) (hns : s₁.heap.Ns mainGlobals mg) (hb : s₁.heap.Ns builtinsNs mb) (hbb : ∀ z : Str, z ≠ "__name__" → mb z = bootBuiltins z)
    (hlim : s₁.heap.NoLimit) (hg : s₁.gens = #[]) (C : TabIn cs K mg s₁.heap) (ha : s₁.heap.get? a = some { cls := .type "list", data := .seq vs.toArray }) (hi : IntsAre vs ns) (hl : ns.length ≤ sizeLine)
    (hr : Room k callerA) (hfa : mg x = some (.ref fa)) (F : ∀ base : Heap, K.In base → base.Ns mainGlobals mg → (∀ p ∈ cs, TabB base mg p.1 p.2) → Ok P w K mg base k x st [y] sp)
    (B : ∀ f fd, L2.Fun K x x st f fd → L2.Binds K fd [y] [])
    (hsp : ∀ H : Hp, (∀ p ∈ cs, H p.2 = some (.tbl #[])) → SqL K H a (ns.map V.int) → sp [.ref a] H (fun v _ => v = .bl true) fun _ _ _ => False) :
    codeAny (model P w) callerA (.call (.ref fa) ⟨[.ref a], []⟩) (Told s₁) s₁ := by
  have rv := vals_ints hi
  have aT : a ∉ cs.map (·.2) := fun z => by
    have q := C.at z
    rw [ha] at q
    cases q
  -- over a heap that tracks the tables, and the script perhaps
  have run : ∀ H : Hp, (∀ p ∈ cs, H p.2 = some (.tbl #[])) → (∀ b, b ∉ cs.map (·.2) → b ≠ a → H b = none) → (H a = none ∨ (K.lookup a = none ∧ ∃ o xs, H a = some (.frz o (.lst xs)))) → SqL K H a (ns.map V.int) → HOk P w H s₁.heap →
      codeAny (model P w) callerA (.call (.ref fa) ⟨[.ref a], []⟩) (Told s₁) s₁ := by
    intro H hT hO hA hS hok
    have off : ∀ {b : Addr} {o : Obj}, s₁.heap.get? b = some o → (∀ us n, o.data ≠ .seq us n) → o.data ≠ .fields #[] → H b = none := by
      intro b o e h1 h2
      refine hO b (fun z => ?_) fun z => ?_
      · rw [C.at z] at e
        cases e
        exact h2 rfl
      · rw [z, ha] at e
        cases e
        exact h1 _ _ rfl
    have space : ∀ {b : Addr} {m : Str → Option Value}, s₁.heap.Ns b m → (hidT s₁.heap H).Ns b m := by
      rintro b m ⟨o, es, ep, e, d, rest⟩
      refine ⟨o, es, ep, hidT_get e (off e (fun us n z => ?_) fun z => ?_), d, rest⟩
      · rw [d] at z; cases z
      · rw [d] at z; cases z
    have kin : K.In (hidT s₁.heap H) := by
      intro b o e
      refine hidT_get (KX b o e) ?_
      by_cases z : b ∈ cs.map (·.2)
      · obtain ⟨p, hp, rfl⟩ := List.mem_map.mp z
        rw [C.non p hp] at e
        cases e
      · by_cases z2 : b = a
        · rcases hA with n | ⟨n, _⟩
          · rw [z2]; exact n
          · rw [z2, n] at e
            cases e
        · exact hO b z z2
    obtain ⟨mc, hc1, hc2⟩ := hlim
    have env : Env0 P w K mg (hidT s₁.heap H) callerA [] s₁ H :=
      { frames := rfl, mod := ⟨kin, space hns, ⟨mb, space hb, hbb⟩, ⟨mc, space hc1, hc2⟩⟩, bs := fun b o e => of_hidT e, bsz := Nat.le_of_eq (hidT_size _ _)
        funs := trivial, frf := fun b z => absurd (show b ∈ ([] : List Addr) from z) List.not_mem_nil, hok := hok, bare := .of_eq hg }
    obtain ⟨⟨f, fd, G, hm, go⟩, _⟩ := F _ kin (space hns) (C.base hns off)
    have ef : f = fa := by
      rw [hfa] at hm
      injection hm with hm
      injection hm with hm
      exact hm.symm
    subst ef
    have bind := B f fd G s₁ [.ref a] KX rfl
    rw [List.append_nil] at bind
    refine codeAny_mono (go callerA [] s₁ H ⟨[.ref a], []⟩ [.ref a] [.ref a] (fun v _ => v = .bl true) (fun _ _ _ => False) rfl hr env bind (.cons rfl .nil) (hsp H hT hS)) ?_
    intro r s' h
    rcases r with e | fl
    · obtain ⟨_, _, _, _, _, _, _, _, _, _, _, _, z⟩ := h
      exact z.elim
    · rcases fl with _ | _ | _ | u
      · exact False.elim h
      · exact False.elim h
      · exact False.elim h
      · obtain ⟨v, H', os, bare, un, hok', rr, q⟩ := h
        have q2 : v = .bl true := q
        subst q2
        have eu : u = Value.bool true := rr
        subst eu
        have same_ : ∀ b o, b ∉ cs.map (·.2) → s₁.heap.get? b = some o → s'.heap.get? b = some o := by
          intro b o nb e
          rcases hz : H b with _ | u
          · exact un.keep b o e hz (fun z => absurd (show b ∈ ([] : List Addr) from z) List.not_mem_nil) List.not_mem_nil
          · by_cases z : b = a
            · subst z
              rcases hA with n | ⟨_, ob, xs, n⟩
              · rw [hz] at n; cases n
              · have e1 := (hok b _ n).1
                have e2 := (hok' b _ (un.frzs b ob _ n)).1
                rw [e] at e1
                rw [e2, e1]
            · rw [hO b nb z] at hz
              cases hz
        have grown : ∀ b, b ∈ cs.map (·.2) → ∃ more : Array Value, s'.heap.get? b = some { cls := .none, data := .fields more } := by
          intro b hb
          obtain ⟨p, hp, rfl⟩ := List.mem_map.mp hb
          obtain ⟨more, z⟩ := un.tbls p.2 #[] (hT p hp)
          exact ⟨_, hok' p.2 _ z⟩
        refine ⟨rfl, ⟨fun b o e => ?_, fun b o e => ?_⟩, os, bare⟩
        · by_cases hb : b ∈ cs.map (·.2)
          · obtain ⟨more, hm⟩ := grown b hb
            rw [C.at hb] at e
            cases e
            obtain ⟨p, hp, rfl⟩ := List.mem_map.mp hb
            exact .inr (.inl ⟨((C.code p hp).tab (C.tab p hp)).isCodeTable, rfl, #[], more, rfl, by rw [Array.empty_append]; exact hm⟩)
          · exact .inl (same_ b o hb e)
        · by_cases hb : b ∈ cs.map (·.2)
          · obtain ⟨more, hm⟩ := grown b hb
            exact ⟨_, hm⟩
          · exact ⟨o, same_ b o hb e⟩
  let H0 : Hp := fun b => if b ∈ cs.map (·.2) then some (.tbl #[]) else none
  have at0 : ∀ b, b ∈ cs.map (·.2) → H0 b = some (.tbl #[]) := fun b h => if_pos h
  have no0 : ∀ b, b ∉ cs.map (·.2) → H0 b = none := fun b h => if_neg h
  have mem : ∀ p ∈ cs, p.2 ∈ cs.map (·.2) := fun p hp => List.mem_map.mpr ⟨p, hp, rfl⟩
  rcases hk : K.lookup a with _ | o
  · -- the script is tracked, locked
    let sc : Obj := { cls := .type "list", data := .seq vs.toArray }
    have atA : upd H0 a (.frz sc (.lst (ns.map V.int))) a = some (.frz sc (.lst (ns.map V.int))) := upd_same
    refine run (upd H0 a (.frz sc (.lst (ns.map V.int)))) (fun p hp => ?_) (fun b h1 h2 => by rw [upd_ne h2]; exact no0 b h1) (.inr ⟨hk, _, _, atA⟩) (Or.inl (Or.inr ⟨sc, atA⟩)) (fun b o e => ?_)
    · rw [upd_ne (fun z => aT (by rw [← z]; exact mem p hp))]
      exact at0 _ (mem p hp)
    · by_cases n : b = a
      · subst n
        rw [atA] at e
        injection e with e
        subst e
        exact ⟨ha, by rw [List.length_map]; exact hl, vs, _, rv, ha⟩
      · rw [upd_ne n] at e
        by_cases z : b ∈ cs.map (·.2)
        · rw [at0 b z] at e
          injection e with e
          subst e
          exact C.at z
        · rw [no0 b z] at e
          cases e
  · -- it is an object of the module
    have e := KX a o hk
    rw [ha] at e
    injection e with e
    subst e
    refine run H0 (fun p hp => at0 _ (mem p hp)) (fun b h1 _ => no0 b h1) (.inl (no0 a aT)) (Or.inr ⟨_, vs.toArray, _, hk, rfl, rfl, rfl, ?_, ?_⟩) (fun b u z => ?_)
    · rw [List.size_toArray, hi.length]; exact hl
    · simpa using rv
    · by_cases h : b ∈ cs.map (·.2)
      · rw [at0 b h] at z
        injection z with z
        subst z
        exact C.at h
      · rw [no0 b h] at z
        cases z
end
/-- the end of such a law: for each def that makes lambdas its code object and its table, read off the written part -/
theorem walk_gT {l : PySem.W.OpenLaw} {n k : Nat} {q : Program} {loose : List Str} {XP : (Str → Option Value) → Heap → Prop} {YP : World → Heap → Prop} {d : DefRec} {K : Params → PySem.W.Frag} {sp : PySem.W.Frag → List (Addr × Addr) → Sp} {y : Str} {st : Stmt}
    (cs : List (Str × DefRec × Addr × Addr))
    (hn : l.most = some n) (hn2 : n ≤ sizeLine) (hdf : d.params.defaults = []) (hr : Room k callerA) (hY : ∀ (w : World) (h : Heap), YP w h → (K w.params).In h)
    (hrec : ∀ c ∈ cs, (recsOf q).find? (fun e => e.name == c.1) = some c.2.1) (htab : ∀ w : World, ∀ c ∈ cs, PySem.W.tabIn (K w.params) c.1 = some c.2.2) (hnon : ∀ w : World, ∀ c ∈ cs, (K w.params).lookup c.2.2.2 = none)
    (F : ∀ (w : World) (mg : Str → Option Value) (h : Heap), (K w.params).In h → h.Ns mainGlobals mg → ∀ base : Heap, (K w.params).In base → base.Ns mainGlobals mg → (∀ c ∈ cs, TabB base mg c.2.2.1 c.2.2.2) →
      Ok l.prog w (K w.params) mg base k d.name st [y] (sp (K w.params) (cs.map (·.2.2))))
    (B : ∀ (w : World) f fd, L2.Fun (K w.params) d.name d.name st f fd → L2.Binds (K w.params) fd [y] [])
    (hsp : ∀ (w : World) (H : Hp) (a : Addr) (ns : List Int), ns.length ≤ n → (∀ z ∈ ns, Builtin.Int.intBits z ≤ 1048576) → (∀ c ∈ cs, H c.2.2.2 = some (.tbl #[])) → SqL (K w.params) H a (ns.map V.int) →
      sp (K w.params) (cs.map (·.2.2)) [.ref a] H (fun v _ => v = .bl true) fun _ _ _ => False) :
    PySem.W.WalkO q loose XP YP l.row.toRowW d [] (fun f vs => PySem.call f vs) := by
  refine Att.attach_callB hn hdf fun w s₀ s₁ mg mb fa o pm cd doc a vs ns G Y ho hd hcd hmg hobj hints hlen hbits hg => ?_
  have KX := hY w _ Y
  have C : TabIn (cs.map (·.2.2)) (K w.params) mg s₁.heap := by
    refine ⟨fun p hp => ?_, fun p hp => ?_, fun p hp => ?_, G.T.bmain⟩
    · obtain ⟨c, hc, rfl⟩ := List.mem_map.mp hp
      exact (PySem.W.tab_of G.T KX (hrec c hc) (htab w c hc)).2
    · obtain ⟨c, hc, rfl⟩ := List.mem_map.mp hp
      exact hnon w c hc
    · obtain ⟨c, hc, rfl⟩ := List.mem_map.mp hp
      exact (PySem.W.tab_of G.T KX (hrec c hc) (htab w c hc)).1
  refine law_gT KX G.T.g G.T.b G.T.builtins G.T.nolimit hg C hobj hints (Nat.le_trans hlen hn2) hr hmg (fun base kb gb tb => F w mg _ KX G.T.g base kb gb fun c hc => tb _ (List.mem_map.mpr ⟨c, hc, rfl⟩)) (B w) fun H hH hS => ?_
  exact hsp w H a ns hlen hbits (fun c hc => hH _ (List.mem_map.mpr ⟨c, hc, rfl⟩)) hS
end Vf
namespace Vf
open PySem PySem.Spec PyProof.Rows L2 LamX
theorem tabIn_of {K : PySem.W.Frag} {x qn : Str} {f c P : Addr} {oc oc2 dV kV doc pm ct : Value} {od od2 an : Option Addr} {sl sl2 : Array (Option Value)} {vs : Array Value} {ar : Arguments} {bd : List Stmt} {sc : Scope}
    (a : PySem.W.nsIn K mainGlobals x = some (some (.ref f))) (l : K.lookup f = some ⟨oc, od, .func (PySem.W.fnOf x qn ar bd sc dV kV doc pm an (.ref c) ct), sl⟩)
    (y : K.lookup c = some ⟨oc2, od2, .fields vs, sl2⟩) (z : (vs[11]? : Option Value) = some (.ref P)) : PySem.W.tabIn K x = some (c, P) := by
  unfold PySem.W.tabIn
  rw [a]
  dsimp only
  rw [l]
  dsimp only [PySem.W.fnOf]
  rw [y]
  dsimp only
  rw [z]
/-! ## a list or a tuple walked -/
def iSeq (K : PySem.W.Frag) (te : TE) : TI := fun σ H R => te σ H fun x H1 => ∃ a, x = .ref a ∧ (((∃ xs, SqL K H1 a xs) ∧ R (Itl K a) H1) ∨ ((∃ xs, SqT K H1 a xs) ∧ R (Itt K a) H1))
section
variable {X : Cx} {K : PySem.W.Frag} {tg l : Expr} {tl : TE}
theorem pi_seq (hl : PE X l tl) : PI X tg l (iSeq X.K tl) := by
  refine ⟨fun pins s σ H R I h => thn (hl.run pins s σ H _ I h) fun v s1 ⟨x, H1, I1, r1, a, e, q⟩ => ?_⟩
  subst e
  cases r1
  have fp : ∀ b ∈ [s1.heap.objs.size], FpOk X pins H1 b := fun b hb => by
    rw [List.mem_singleton.mp hb]
    exact I1.fpOk (Nat.le_refl _) (I1.hok.fresh (Nat.le_refl _))
  rcases q with ⟨⟨xs, hq⟩, q⟩ | ⟨⟨xs, hq⟩, q⟩
  · obtain ⟨its, rv, pl, _⟩ := I1.list hq
    exact wpAny_pyIter_list pl.isList ⟨_, [s1.heap.objs.size], _, _, H1, rfl, I1.kept (t' := s1.toks) fun b o e => Heap.get?_push_of_some _ e, turn_list a _, ⟨_, Heap.get?_push_size _ rfl, rfl, rfl⟩, fp, q⟩
  · obtain ⟨its, rv, pt, _⟩ := I1.tuple hq
    exact wpAny_pyIter_tuple (show s1.heap.IsTuple a its.toArray from pt) ⟨_, [s1.heap.objs.size], _, _, H1, rfl, I1.kept (t' := s1.toks) fun b o e => Heap.get?_push_of_some _ e, turn_tuple a _, ⟨_, Heap.get?_push_size _ rfl, rfl, rfl⟩, fp, q⟩
theorem i_seq (e : X.K = K) (hl : PE X l tl) : PI X tg l (iSeq K tl) := by subst e; exact pi_seq hl
end
section
variable {K : PySem.W.Frag} {σ : L2.St} {H : Hp} {D : Ends} {g : TG} {tb : TS} {te tl : TE} {tt : TT} {vs : List Nat} {Q : VK}
theorem r_forQ (h : tl σ H fun x H1 => ∃ a, x = .ref a ∧ (((∃ xs, SqL K H1 a xs) ∧ tFor (fun _ H2 R => R (Itl K a) H2) g tb D σ H1) ∨ ((∃ xs, SqT K H1 a xs) ∧ tFor (fun _ H2 R => R (Itt K a) H2) g tb D σ H1))) : tFor (iSeq K tl) g tb D σ H := h
theorem r_lcQ (h : tl σ H fun x H1 => ∃ a, x = .ref a ∧ (((∃ xs, SqL K H1 a xs) ∧ tLc (fun _ H2 R => R (Itl K a) H2) g tt te vs σ H1 Q) ∨ ((∃ xs, SqT K H1 a xs) ∧ tLc (fun _ H2 R => R (Itt K a) H2) g tt te vs σ H1 Q))) : tLc (iSeq K tl) g tt te vs σ H Q := h
end
/-- a list or a tuple stands at a -/
def Sq (K : PySem.W.Frag) (H : Hp) (a : Addr) (xs : List V) : Prop := SqL K H a xs ∨ SqT K H a xs
theorem Sq.same {K : PySem.W.Frag} {H H' : Hp} {a : Addr} {xs : List V} (h : Sq K H a xs) (s : Same H H') : Sq K H' a xs := by
  rcases h with h | h
  · exact .inl (Same.list s h)
  · exact .inr (Same.tup s h)
section
variable {K : PySem.W.Frag} {σ : L2.St} {H : Hp} {D : Ends} {g : TG} {tb : TS} {te tl : TE} {tt : TT} {vs : List Nat} {Q : VK} {a : Addr}
theorem r_forQs (xs : List V) (hq : Sq K H a xs) (Pv : Nat → L2.St → Hp → Prop) (h0 : Pv 0 σ H) (hl : ∀ i σ H', i ≤ xs.length → Pv i σ H' → Same H H')
    (hs : ∀ i x σ H', xs[i]? = some x → Pv i σ H' → g x σ H' fun σ2 H2 => tb { D with nx := Pv (i + 1), ct := Pv (i + 1), bk := D.nx } σ2 H2) (hd : ∀ σ H', Pv xs.length σ H' → D.nx σ H') :
    ((∃ xs, SqL K H a xs) ∧ tFor (fun _ H2 R => R (Itl K a) H2) g tb D σ H) ∨ ((∃ xs, SqT K H a xs) ∧ tFor (fun _ H2 R => R (Itt K a) H2) g tb D σ H) := by
  rcases hq with hq | hq
  · exact .inl ⟨⟨_, hq⟩, r_forLs xs Pv h0 (fun i σ H' hi p => Same.list (hl i σ H' hi p) hq) hs hd⟩
  · exact .inr ⟨⟨_, hq⟩, r_forTs xs Pv h0 (fun i σ H' hi p => Same.tup (hl i σ H' hi p) hq) hs hd⟩
theorem r_lcQs (xs : List V) (hq : Sq K H a xs) (Pv : Addr → Nat → Hp → Prop) (h0 : ∀ D, H D = none → Pv D 0 (upd H D (.lst []))) (hl : ∀ D i H', H D = none → i ≤ xs.length → Pv D i H' → Same H H')
    (hs : ∀ D i x H', H D = none → xs[i]? = some x → Pv D i H' → g x (wipe σ vs) H' fun σ2 H2 => wipe σ2 vs = wipe σ vs ∧ tt σ2 H2 fun b H3 =>
      if b = true then te σ2 H3 fun y H4 => ∃ acc, H4 D = some (.lst acc) ∧ acc.length < sizeLine ∧ Pv D (i + 1) (upd H4 D (.lst (acc ++ [y]))) else Pv D (i + 1) H3)
    (hd : ∀ D H', H D = none → Pv D xs.length H' → Q (.ref D) H') :
    ((∃ xs, SqL K H a xs) ∧ tLc (fun _ H2 R => R (Itl K a) H2) g tt te vs σ H Q) ∨ ((∃ xs, SqT K H a xs) ∧ tLc (fun _ H2 R => R (Itt K a) H2) g tt te vs σ H Q) := by
  rcases hq with hq | hq
  · exact .inl ⟨⟨_, hq⟩, r_lcLs xs Pv h0 (fun D i H' hD hi p => Same.list (hl D i H' hD hi p) hq) hs hd⟩
  · exact .inr ⟨⟨_, hq⟩, r_lcTs xs Pv h0 (fun D i H' hD hi p => Same.tup (hl D i H' hD hi p) hq) hs hd⟩
end
/-- where the lambdas of a def bear their name -/
def lamQ (x : Str) : Str := x ++ ".<locals>." ++ "<lambda>"
end Vf

namespace Vf
open PySem PySem.Spec PyProof.Rows L2
/-! ## several except clauses, some of them with a name -/
abbrev Cls := Value × Option Nat × (Addr → Value → Option Addr → TS)
def offD (i : Nat) (D : Ends) : Ends := { nx := fun u G => D.nx (u.set i none) G, rt := D.rt, bk := fun u G => D.bk (u.set i none) G, ct := fun u G => D.ct (u.set i none) G }
def clsT (c : Cls) (a : Addr) (k : Value) (d : Option Addr) (D : Ends) (σ : L2.St) (H : Hp) : Prop := match c with
  | (_, none, ts) => ts a k d D σ H
  | (_, some i, ts) => ts a k d (offD i D) (σ.set i (some (.ref a))) H
def wMix (K : PySem.W.Frag) (Wout : WX) (D : Ends) : List Cls → WX
  | [] => Wout
  | c :: r => fun k d σ H => ∃ b, PySem.W.exmOne K k c.1 = some b ∧ (b = true → ∀ a, H a = none → clsT c a k d D σ H) ∧ (b = false → wMix K Wout D r k d σ H)
inductive Mix (X : Cx) : List ExceptHandler → List Cls → Prop
  | nil : Mix X [] []
  | plain {x : Str} {c : Value} {ts : Addr → Value → Option Addr → TS} {b0 : Stmt} {suite : List Stmt} {p1 p2 : Pos} {hds : List ExceptHandler} {l : List Cls} (hc : Names X x c)
      (su : ∀ (a : Addr) (oe : Obj) (k : Value) (d : Option Addr) (pn : List (Addr × Obj)), Zc k d oe → (∃ vs, oe.data = .fields vs) → PSs (X.suite a ((a, oe) :: pn)) (b0 :: suite) (ts a k d)) (r : Mix X hds l) :
      Mix X (.ExceptHandler (some (.Name x p1)) none (b0 :: suite) p2 :: hds) ((c, none, ts) :: l)
  | named {x n : Str} {i : Nat} {c : Value} {ts : Addr → Value → Option Addr → TS} {b0 : Stmt} {suite : List Stmt} {p1 p2 : Pos} {hds : List ExceptHandler} {l : List Cls} (hc : Names X x c) (hN : X.N.Nodup) (hi : X.N[i]? = some n) (hl : X.env.kindOf n = some .local)
      (su : ∀ (a : Addr) (oe : Obj) (k : Value) (d : Option Addr) (pn : List (Addr × Obj)), Zc k d oe → (∃ vs, oe.data = .fields vs) → PSs (X.suite a ((a, oe) :: pn)) (b0 :: suite) (ts a k d)) (r : Mix X hds l) :
      Mix X (.ExceptHandler (some (.Name x p1)) (some n) (b0 :: suite) p2 :: hds) ((c, some i, ts) :: l)
section
variable {X : Cx} {body : List Stmt} {h0 : ExceptHandler} {hds : List ExceptHandler} {l : List Cls} {pos : Pos} {tb : WX → TS} {Wout : WX}
theorem ps_try_mix (st : X.stack = X.env :: X.outer) (fm : X.env.frame = some X.env.locals) (tk : Takes X Wout)
    (hb : ∀ (W : WX) (pn : List (Addr × Obj)) (xe : Value → Shared → Prop), Takes (X.tr pn xe) W → PassesOwn (model X.prog X.w) X.A X.env xe → PSs (X.tr pn xe) body (tb W)) (hm : Mix X (h0 :: hds) l) :
    PS X (.Try body (h0 :: hds) [] [] pos) (fun D σ H => tb (wMix X.K Wout D l) D σ H) := by
  refine ⟨fun pins s σ H D I h => ?_⟩
  have ok := I.ok
  have fr : X.A.frames = some (X.env :: X.outer) := by rw [ok.frames, st]
  refine wpAny_Try_except ?_
  refine wpAny_mono ((hb (wMix X.K Wout D l) (X.pn ++ pins) (fun ev t1 => wpAny (model X.prog X.w) X.A (noteFrame ev X.env) (fun _ t2 => wpAny (model X.prog X.w) X.A (setFlight ev none) (fun _ t3 => wpAny (model X.prog X.w) X.A (handleBy ev X.env (h0 :: hds)) (SP X pins D) X.xe t3) X.xe t2) X.xe t1)
    (fun u t' xx => ?_) PassesOwn.looking).run [] s σ H D (I.toTry _) h) (fun f s1 hsp => ?_) (fun e s1 he => he)
  · obtain ⟨a, B, sI, pq, σ1, G, k, d, rfl, J0, nb, up, sky, na, os, ag, wi⟩ := xx
    have J : Inv X pins σ1 G sI := J0.ofTry ok
    have sky1 : Sky B (X.env :: X.outer) a (Zc k d) X.env.locals t'.heap := by rw [← st]; exact sky
    show wpAny (model X.prog X.w) X.A (noteFrame (.ref a) X.env) _ _ _
    refine Sky.land Zc.steady fr fm sky1 fun m3 fl3 up3 => ?_
    have J3 : Inv X pins σ1 G { t' with heap := m3 } := J.landed nb fl3.1 (up.trans up3) os ag
    obtain ⟨o3, v3, e3, z3, d3⟩ := fl3.there
    have nfs : ∀ {m : Heap} {o : Obj} {vs : Array Value}, m.FunFrames B (X.env :: X.outer) → m.get? a = some o → o.data = .fields vs → a ∉ frs (X.env :: X.outer) := fun {m o vs} ff e dd hm => by
      obtain ⟨_, o', e', hnf⟩ := ff.mem hm
      rw [e] at e'
      cases e'
      exact hnf _ dd
    have nfr := nfs fl3.2.2.1 e3 d3
    have nL : a ≠ X.env.locals := fun z => nfr (List.mem_filterMap.mpr ⟨X.env, List.mem_cons_self, by rw [fm, z]⟩)
    have nF : a ∉ X.fs := fun hm => by
      obtain ⟨e, he, q⟩ := List.mem_filterMap.mp hm
      exact nfr (List.mem_filterMap.mpr ⟨e, List.mem_cons_of_mem _ he, q⟩)
    have S3 := J3.suite e3 d3 na nL nF
    have LT : PySem.W.Looks (model X.prog X.w) m3 (typeOf (.ref a)) k := fun A Q E s kk q => wpAny_typeOf_ref (kk _ _ e3) (by rw [z3.1]; exact q)
    have tst : ∀ {x : Str} {c : Value} {np : Pos} {Q : Value → Shared → Prop} {E : Value → Shared → Prop}, Names X x c → Q c { t' with heap := m3 } → wpAny (model X.prog X.w) (X.A.mark (some (.ref a))) (eval (.Name x np) X.env) Q E { t' with heap := m3 } := fun {x c np Q E} hc q => by
      obtain ⟨hg, hdb, hm | ⟨hm, hv, hnn⟩⟩ := hc
      · exact ld_glob (X := X.suite a ((a, o3) :: (X.pn ++ pins))) S3 hg hm q hdb
      · exact ld_blt (X := X.suite a ((a, o3) :: (X.pn ++ pins))) S3 hg hm hv q hnn hdb
    have go : ∀ {hd' : List ExceptHandler} {l' : List Cls}, Mix X hd' l' → wMix X.K Wout D l' k d σ1 G → wpAny (model X.prog X.w) X.A (handleBy (.ref a) X.env hd') (SP X pins D) X.xe { t' with heap := m3 } := by
      intro hd' l' hk
      induction hk with
      | nil =>
        intro wi
        refine wpAny_handleBy_nil ?_
        obtain ⟨q1, q2, q3, oe, vs, T, oT, ts', he, hz, hd, g1, gr⟩ := id fl3
        unfold PySem.passOn
        refine wpAny_bind (wpAny_field he hd g1 ?_)
        rw [if_neg (show ¬ ((Value.ref T == Value.none) = true) by simp)]
        have fin : wpAny (model X.prog X.w) X.A (setFlight (.ref a) X.env.frame) (fun _ t4 => wpAny (model X.prog X.w) X.A (throw (.ref a) : Sem Flow) (SP X pins D) X.xe t4) X.xe { t' with heap := m3 } := by
          rw [fm]
          refine HandSPX.setFlight_upZ fl3 fun m4 hh4 up4 => wpAny_throw (tk _ _ ?_)
          exact ⟨a, B, sI, pins, σ1, G, k, d, rfl, J, nb, (up.trans up3).trans up4, .inr (.inr (by rw [st]; exact hh4)), na, os, ag, wi⟩
        first | exact wpAny_bind (wpAny_pure (wpAny_bind fin)) | exact wpAny_bind fin
      | @plain x c ts b0 suite p1 p2 hd2 l2 hc su r ih =>
        intro wi
        obtain ⟨b, b1, yes, no⟩ := wi
        refine wpAny_handleBy_cons (codeAny_handlers_test ?_) (fun q => nomatch q)
        have LM := PySem.W.exm_one (M := model X.prog X.w) (J3.kIn) LT b1
        refine tst hc (LM.here ?_)
        cases b with
        | true =>
          refine codeAny_handlers_suite <| HandSPX.lands_againZ fl3 fun m4 fl4 up4 => ?_
          have J4 : Inv X pins σ1 G { t' with heap := m4 } := J.landed nb fl4.1 ((up.trans up3).trans up4) os ag
          obtain ⟨o4, v4, e4, z4, d4⟩ := fl4.there
          have S4 := J4.suite e4 d4 na nL nF
          refine wpAny_mono ((su a o4 k d (X.pn ++ pins) z4 ⟨_, d4⟩).run [] _ _ G _ S4 (yes rfl a na)) (fun f s6 hsp => ?_) (fun _ _ z => False.elim z)
          cases f with
          | next => obtain ⟨u6, G6, S6, q6⟩ := hsp; exact ⟨_, _, S6.unsuite ok, q6⟩
          | brk => obtain ⟨u6, G6, S6, q6⟩ := hsp; exact ⟨_, _, S6.unsuite ok, q6⟩
          | cont => obtain ⟨u6, G6, S6, q6⟩ := hsp; exact ⟨_, _, S6.unsuite ok, q6⟩
          | ret u => obtain ⟨v6, u6, G6, S6, r6, q6⟩ := hsp; exact ⟨_, _, _, S6.unsuite ok, r6, q6⟩
        | false =>
          show wpAny _ X.A (handleBy (.ref a) X.env hd2) _ _ _
          exact ih (no rfl)
      | @named x n i c ts b0 suite p1 p2 hd2 l2 hc hN hi hl su r ih =>
        intro wi
        obtain ⟨b, b1, yes, no⟩ := wi
        refine wpAny_handleBy_cons (codeAny_handlers_test ?_) (fun q => nomatch q)
        have LM := PySem.W.exm_one (M := model X.prog X.w) (J3.kIn) LT b1
        refine tst hc (LM.here ?_)
        cases b with
        | true =>
          refine codeAny_handlers_suite_as <| HandSPX.lands_againZ fl3 fun m4 fl4 up4 => ?_
          have J4 : Inv X pins σ1 G { t' with heap := m4 } := J.landed nb fl4.1 ((up.trans up3).trans up4) os ag
          obtain ⟨o4, v4, e4, z4, d4⟩ := fl4.there
          have S4 := J4.suite e4 d4 na nL nF
          refine store_ok (X := X.suite a ((a, o4) :: (X.pn ++ pins))) (v := .ref a) S4 hN hi (.inl hl) rfl (fun s5 S5 => ?_) (.inr hl)
          refine wpAny_mono ((su a o4 k d (X.pn ++ pins) z4 ⟨_, d4⟩).run [] s5 _ G _ S5 (yes rfl a na)) (fun f s6 hsp => ?_) (fun _ _ z => False.elim z)
          have fin : ∀ {u6 : L2.St} {G6 : Hp} {Q : Shared → Prop}, Inv (X.suite a ((a, o4) :: (X.pn ++ pins))) [] u6 G6 s6 → (∀ s7, Inv X pins (u6.set i none) G6 s7 → Q s7) →
              wpAny (model X.prog X.w) X.A (do bindName X.env n .none; unbindBehindTheSuite X.env n p2) (fun _ s7 => Q s7) X.xe s6 := fun {u6 G6 Q} S6 hq => gone_ok (S6.unsuite ok) hN hi hl hq
          cases f with
          | next => obtain ⟨u6, G6, S6, q6⟩ := hsp; exact fin S6 fun s7 J7 => ⟨_, _, J7, q6⟩
          | brk => obtain ⟨u6, G6, S6, q6⟩ := hsp; exact fin S6 fun s7 J7 => ⟨_, _, J7, q6⟩
          | cont => obtain ⟨u6, G6, S6, q6⟩ := hsp; exact fin S6 fun s7 J7 => ⟨_, _, J7, q6⟩
          | ret u => obtain ⟨v6, u6, G6, S6, r6, q6⟩ := hsp; exact fin S6 fun s7 J7 => ⟨_, _, _, J7, r6, q6⟩
        | false =>
          show wpAny _ X.A (handleBy (.ref a) X.env hd2) _ _ _
          exact ih (no rfl)
    exact go hm wi
  · cases f with
    | next => obtain ⟨u1, G1, J1, q⟩ := hsp; exact wpAny_execs_nil ⟨u1, G1, J1.ofTry ok, q⟩
    | brk => obtain ⟨u1, G1, J1, q⟩ := hsp; exact ⟨u1, G1, J1.ofTry ok, q⟩
    | cont => obtain ⟨u1, G1, J1, q⟩ := hsp; exact ⟨u1, G1, J1.ofTry ok, q⟩
    | ret u => obtain ⟨v, u1, G1, J1, r, q⟩ := hsp; exact ⟨v, u1, G1, J1.ofTry ok, r, q⟩
end
section
variable {K : PySem.W.Frag} {c : Value} {Wout : WX} {D : Ends} {k : Value} {d : Option Addr} {σ : L2.St} {H : Hp} {ts : Addr → Value → Option Addr → TS} {l : List Cls}
theorem w_mixN (h1 : PySem.W.exmOne K k c = some true) (h : ∀ a, H a = none → ts a k d D σ H) : wMix K Wout D ((c, none, ts) :: l) k d σ H := ⟨true, h1, fun _ a ha => h a ha, fun z => Bool.noConfusion z⟩
theorem w_mixA {i : Nat} (h1 : PySem.W.exmOne K k c = some true) (h : ∀ a, H a = none → ts a k d (offD i D) (σ.set i (some (.ref a))) H) : wMix K Wout D ((c, some i, ts) :: l) k d σ H := ⟨true, h1, fun _ a ha => h a ha, fun z => Bool.noConfusion z⟩
theorem w_mixO {o : Option Nat} (h1 : PySem.W.exmOne K k c = some false) (h : wMix K Wout D l k d σ H) : wMix K Wout D ((c, o, ts) :: l) k d σ H := ⟨false, h1, fun z => Bool.noConfusion z, fun _ => h⟩
end
/-! ## an own exception class without own __init__, made with nothing -/
structure EC0 (K : PySem.W.Frag) (C : Addr) (tail : List Value) (nid : String) : Prop where
  q : PySem.W.excIn K C tail nid = true
  kk : PySem.W.keepIn K (.ref C) = true
  ba : PySem.W.subIn K (.ref C) (.type "BaseException") = some true
  tt : PySem.W.typeIn K (.ref C) = some (.type "type")
theorem pmk_ec0 {X : Cx} {C : Addr} {tail : List Value} {B nid iid : String} {x : Str} {p pos : Pos} (T : EC0 X.K C tail nid) (F : ExcBaseFacts B nid iid tail) (hg : Gl X x) (hm : X.mg x = some (.ref C)) (hdb : (x == ("__debug__" : Str)) = false := by decide) :
    PMk X (.Call (.Name x p) [] [] pos) (fun _ H Q => Q (.ref C) none H) := by
  intro pins s σ H Q I h
  refine wpAny_Call_Name_kw (ld_glob I hg hm ?_ hdb)
  refine PySem.W.callWith_K0 I.kIn T.kk ?_
  show wpAny _ _ (call (.ref C) []) _ _ _
  obtain ⟨bm, N, nm, qn, bs, hdct, sn, sub, ab, col, dd, k0, k1, k2, k3, k5, mN, hC, hN, hni, ot⟩ := exc_obj I.kIn T.q
  exact wpAny_call_exc_subT F ot hC hN hni (fun h' e hm' => mk_of I hm' (raises_own T.ba T.tt) h (I.hok.gone hm'.new)) (Nat.zero_le _)
end Vf

namespace Vf
open PySem PySem.Spec PyProof.Rows L2
/-! ## list(zip(t, u)) of two tuples -/
theorem zip_len0 : typeLookup (.type "zip") "__len__" = pure none := am_miss_of_fast (by decide +kernel)
theorem zip_hint0 : typeLookup (.type "zip") "__length_hint__" = pure none := am_miss_of_fast (by decide +kernel)
/-- the pairs laid so far, all above S -/
structure PrsL (S : Nat) (xs ys : List Value) (h : Heap) (ad : List Nat) : Prop where
  inc : ad.Pairwise (· < ·)
  big : ∀ p : Nat, p ∈ ad → S < p
  prs : ∀ (j : Nat) (p : Nat), ad[j]? = some p → ∃ x y, xs[j]? = some x ∧ ys[j]? = some y ∧ IsPair h p x y
theorem PrsL.lt {S : Nat} {xs ys : List Value} {h : Heap} {ad : List Nat} (g : PrsL S xs ys h ad) {p : Nat} (hp : p ∈ ad) : p < h.objs.size := by
  obtain ⟨j, hj⟩ := List.mem_iff_getElem?.mp hp
  obtain ⟨x, y, _, _, e⟩ := g.prs j p hj
  exact Heap.lt_size e
theorem PrsL.stay {S : Nat} {xs ys : List Value} {h h' : Heap} {ad : List Nat} (g : PrsL S xs ys h ad) (k : ∀ (c : Nat) o, S < c → h.get? c = some o → h'.get? c = some o) : PrsL S xs ys h' ad :=
  ⟨g.inc, g.big, fun j p hj => by
    obtain ⟨x, y, e1, e2, e3⟩ := g.prs j p hj
    exact ⟨x, y, e1, e2, k _ _ (g.big p (List.mem_of_getElem? hj)) e3⟩⟩
theorem PrsL.snoc {S : Nat} {xs ys : List Value} {h : Heap} {ad : List Nat} {x y : Value} {q : Nat} (g : PrsL S xs ys h ad) (ex : xs[ad.length]? = some x) (ey : ys[ad.length]? = some y) (e : IsPair h q x y) (l1 : S < q) (l2 : ∀ p : Nat, p ∈ ad → p < q) : PrsL S xs ys h (ad ++ [q]) := by
  refine ⟨List.pairwise_append.mpr ⟨g.inc, List.pairwise_singleton _ _, fun a ha b hb => ?_⟩, fun p hp => ?_, fun j p hj => ?_⟩
  · rw [List.mem_singleton.mp hb]
    exact l2 a ha
  · rcases List.mem_append.mp hp with hp | hp
    · exact g.big p hp
    · rw [List.mem_singleton.mp hp]
      exact l1
  · by_cases c : j < ad.length
    · rw [List.getElem?_append_left c] at hj
      exact g.prs j p hj
    · by_cases c2 : j = ad.length
      · subst c2
        have z : q = p := by simpa using hj
        subst z
        exact ⟨x, y, ex, ey, e⟩
      · have z : (ad ++ [q])[j]? = none := List.getElem?_eq_none (by rw [List.length_append, List.length_singleton]; omega)
        rw [z] at hj
        cases hj
abbrev lsO (acc : Array Value) (c : Nat) : Obj := { cls := .type "list", dict := none, data := .seq acc c, slots := #[] }
section
variable {prog : Program} {w : World} {A : Around} {s : Shared} {R : Result → Shared → Prop} {u TI TO i1 i2 a b S : Nat} {xs ys : List Value}
theorem ZTn.stay {i : Nat} {h h' : Heap} (st : ZTn u TI TO i1 i2 a b i h) (k : ∀ (c : Nat) o, (c = u ∨ c = TI ∨ c = TO ∨ c = i1 ∨ c = i2) → h.get? c = some o → h'.get? c = some o) : ZTn u TI TO i1 i2 a b i h' := by
  obtain ⟨⟨f0, f1, p0, p1, zz⟩, ti, ⟨x, y, to⟩, h1, h2⟩ := st
  exact ⟨⟨f0, f1, p0, p1, k u _ (by simp) zz⟩, k TI _ (by simp) ti, ⟨x, y, k TO _ (by simp) to⟩, h1.at fun o q => k i1 o (by simp) q, h2.at fun o q => k i2 o (by simp) q⟩
theorem zl_loop (hh : A.handled = none) (D : ZipApart u TI TO i1 i2 a b) (lu : u < S) (lI : TI < S) (lO : TO < S) (l1 : i1 < S) (l2 : i2 < S) (la : a < S) (lb : b < S) (res : Value) {h₁ : Heap} {n : Nat} (en : n = min xs.length ys.length) (hn : n ≤ sizeLine)
    (hR : ∀ h' tk acc c ad, (∀ (d : Nat) o, d < S → d ≠ u → d ≠ TO → d ≠ i1 → d ≠ i2 → h₁.get? d = some o → h'.get? d = some o) → h'.get? S = some (lsO acc c) → ad.length = n → PrsL S xs ys h' ad → acc.toList = ad.map Value.ref → R (.ok (.ret res)) { s with heap := h', toks := tk }) :
    ∀ (k i : Nat) (h : Heap) (tk c : Nat) (acc : Array Value) (ad : List Nat), n - i = k → i ≤ n → ZTn u TI TO i1 i2 a b i h → h.IsTuple a xs.toArray → h.IsTuple b ys.toArray → (∀ (d : Nat) o, d < S → d ≠ u → d ≠ TO → d ≠ i1 → d ≠ i2 → h₁.get? d = some o → h.get? d = some o) →
      h.get? S = some (lsO acc c) → acc.toList = ad.map Value.ref → ad.length = i → PrsL S xs ys h ad → codeAny (model prog w) A (.builtin "list.extend.loop" ⟨[.ref S, .ref u, res], []⟩) R { s with heap := h, toks := tk } := by
  have hne : ∀ d : Nat, S ≤ d → d ≠ u ∧ d ≠ TO ∧ d ≠ i1 ∧ d ≠ i2 := fun d h => ⟨Nat.ne_of_gt (Nat.lt_of_lt_of_le lu h), Nat.ne_of_gt (Nat.lt_of_lt_of_le lO h), Nat.ne_of_gt (Nat.lt_of_lt_of_le l1 h), Nat.ne_of_gt (Nat.lt_of_lt_of_le l2 h)⟩
  have aS := hne S (Nat.le_refl _)
  intro k
  induction k with
  | zero =>
    intro i h tk c acc ad hk hi st ta tb kp hS ha hl G
    have hin : i = n := by omega
    obtain ⟨⟨f0, f1, p0, p1, zz⟩, ti, ⟨x0, y0, to⟩, t1, t2⟩ := st
    have no : xs.toArray[i]? = none ∨ ys.toArray[i]? = none := by
      by_cases c : xs.length ≤ ys.length
      · exact .inl (by simp; omega)
      · exact .inr (by simp; omega)
    refine codeAny_builtin PySem.F.entry_extend_loop ?_
    rw [Around.under_plainId PySem.F.plain_extend_loop _]
    show wpAny _ _ (pyNext (.ref u) >>= _) _ _ _
    refine wpAny_bind (zp_end (s := { s with heap := h, toks := tk }) (A := A.in1) hh D p0 p1 zz ti to t1 t2 ta tb no fun h' ze => wpAny_pure ?_)
    exact hR h' tk acc c ad (fun d o c0 c1 c2 c3 c4 e => ze d o c1 c2 c3 c4 (kp d o c0 c1 c2 c3 c4 e)) (ze S _ aS.1 aS.2.1 aS.2.2.1 aS.2.2.2 hS) (by omega) (G.stay fun d o ld e => let z := hne d (Nat.le_of_lt ld); ze d o z.1 z.2.1 z.2.2.1 z.2.2.2 e) ha
  | succ k ih =>
    intro i h tk c acc ad hk hi st ta tb kp hS ha hl G
    obtain ⟨⟨f0, f1, p0, p1, zz⟩, ti, ⟨x0, y0, to⟩, t1, t2⟩ := st
    have ix : i < xs.length := by omega
    have iy : i < ys.length := by omega
    have sz : acc.size = i := by rw [← Array.length_toList, ha, List.length_map, hl]
    refine codeAny_builtin PySem.F.entry_extend_loop ?_
    rw [Around.under_plainId PySem.F.plain_extend_loop _]
    show wpAny _ _ (pyNext (.ref u) >>= _) _ _ _
    refine wpAny_bind (zp_item (s := { s with heap := h, toks := tk }) (x := xs[i]) (y := ys[i]) D p0 p1 zz ti to t1 t2 ta tb (by simp [ix]) (by simp [iy]) fun h' zn => ?_)
    obtain ⟨z', ⟨tx, ty, to'⟩, n1, n2, np, sz', kp'⟩ := zn
    dsimp only at np sz' kp' ⊢
    have lS : S < h.objs.size := Heap.lt_size hS
    have hS' := kp' S _ aS.1 aS.2.1 aS.2.2.1 aS.2.2.2 hS
    have up : ∀ (d : Nat) o, d ≠ S → h'.get? d = some o → (h'.update S (Obj.mapSeq (·.push (Value.ref h.objs.size)))).get? d = some o := fun d o ne e => (Heap.get?_update_other _ _ (Ne.symm ne)).trans e
    show wpAny _ _ (updateSeq S (·.push (Value.ref h.objs.size)) >>= _) _ _ _
    refine wpAny_bind (wpAny_updateSeq hS' rfl (wpAny_pure ⟨plainId_quiet PySem.F.plain_extend_loop _, ?_⟩) (by rw [sz]; omega) (by show (acc.push (Value.ref h.objs.size)).size ≤ sizeLine + 1; rw [Array.size_push, sz]; omega))
    refine ih (i + 1) _ tk _ (acc.push (Value.ref h.objs.size)) (ad ++ [h.objs.size]) (by omega) (by omega) ?_ ?_ ?_ (fun d o c0 c1 c2 c3 c4 e => up d o (Nat.ne_of_lt c0) (kp' d o c1 c2 c3 c4 (kp d o c0 c1 c2 c3 c4 e))) (Heap.get?_update_self _ hS' rfl) (by rw [Array.toList_push, ha, List.map_append]; rfl) (by rw [List.length_append, hl]; rfl) ?_
    · exact ZTn.stay ⟨z', kp' TI _ D.TIz D.TITO D.TIi1 D.TIi2 ti, ⟨tx, ty, to'⟩, n1, n2⟩ fun d o c e => up d o (by rcases c with c | c | c | c | c <;> (subst c; exact Nat.ne_of_lt (by assumption))) e
    · exact (ta.at fun o e => up a o (Nat.ne_of_lt la) (kp' a o D.l1z D.l1TO D.l1i1 D.l1i2 e))
    · exact (tb.at fun o e => up b o (Nat.ne_of_lt lb) (kp' b o D.l2z D.l2TO D.l2i1 D.l2i2 e))
    · exact ((G.stay fun d o ld e => let z := hne d (Nat.le_of_lt ld); kp' d o z.1 z.2.1 z.2.2.1 z.2.2.2 e).stay fun d o ld e => up d o (Nat.ne_of_gt ld) e).snoc (by rw [hl]; simp [ix]) (by rw [hl]; simp [iy]) (up _ _ (Nat.ne_of_gt lS) np) lS fun p hp => G.lt hp
theorem zl_call {E : Value → Shared → Prop} {Q : Value → Shared → Prop} (hh : A.handled = none) (D : ZipApart u TI TO i1 i2 a b) {i : Nat} (e0 : i = 0) (st : ZTn u TI TO i1 i2 a b i s.heap) (ta : s.heap.IsTuple a xs.toArray) (tb : s.heap.IsTuple b ys.toArray) (hn : min xs.length ys.length ≤ sizeLine)
    (hQ : ∀ h' tk acc c ad, (∀ (d : Nat) o, d ≠ u → d ≠ TO → d ≠ i1 → d ≠ i2 → s.heap.get? d = some o → h'.get? d = some o) → h'.get? s.heap.objs.size = some (lsO acc c) → ad.length = min xs.length ys.length → PrsL s.heap.objs.size xs ys h' ad → acc.toList = ad.map Value.ref → Q (.ref s.heap.objs.size) { s with heap := h', toks := tk }) :
    wpAny (model prog w) A (call (.type "list") [.ref u]) Q E s := by
  subst e0
  obtain ⟨⟨f0, f1, p0, p1, zz⟩, ti, ⟨x0, y0, to⟩, t1, t2⟩ := id st
  generalize eS : s.heap.objs.size = S at *
  have lu : u < S := eS ▸ Heap.lt_size zz
  have lI : TI < S := eS ▸ Heap.lt_size ti
  have lO : TO < S := eS ▸ Heap.lt_size to
  have k1 : i1 < S := by
    obtain ⟨_, q, _⟩ := t1
    exact eS ▸ Heap.lt_size q
  have k2 : i2 < S := by
    obtain ⟨_, q, _⟩ := t2
    exact eS ▸ Heap.lt_size q
  have la : a < S := by
    obtain ⟨_, q, _⟩ := ta
    exact eS ▸ Heap.lt_size q
  have lb : b < S := by
    obtain ⟨_, q, _⟩ := tb
    exact eS ▸ Heap.lt_size q
  refine callType_codes (Q₁ := fun obj s1 => obj = .ref S ∧ s1 = { s with heap := s.heap.push (lsO #[] 0) }) PySem.F.called_list (PySem.F.typeCall_list_1 _) PySem.F.entry_list_init (by rw [← eS]; exact code_list_new _ ⟨rfl, rfl⟩) fun obj s1 g1 => ?_
  obtain ⟨rfl, rfl⟩ := g1
  have hS : (s.heap.push (lsO #[] 0)).get? S = some (lsO #[] 0) := eS ▸ Heap.get?_push_size _ rfl
  refine ⟨⟨_, hS, rfl⟩, PySem.F.args_list_init_2 _ _, ?_⟩
  show wpAny _ _ (do let old ← Builtin.List.listItems (.ref S); Builtin.List.listUpdate (.ref S) (fun _ => #[]); letGo old.toList.reverse; Builtin.List.listExtendWith (.ref S) (.ref u) .none) _ _ _
  refine wpAny_bind ?_
  unfold Builtin.List.listItems
  refine wpAny_bind (wpAny_seqItems hS rfl (wpAny_pure ?_))
  show wpAny _ _ (updateSeq S (fun _ => #[]) >>= fun _ => letGo (#[] : Array Value).toList.reverse >>= fun _ => Builtin.List.listExtendWith (.ref S) (.ref u) .none) _ _ _
  refine wpAny_bind (wpAny_updateSeq hS rfl ?_)
  have hS2 := Heap.get?_update_self (Obj.mapSeq (fun _ => (#[] : Array Value))) hS rfl
  refine wpAny_bind (wpAny_letGo ?_)
  unfold Builtin.List.listExtendWith
  have up : ∀ (h : Heap) (f : Obj → Obj), (∀ (d : Nat) o, s.heap.get? d = some o → h.get? d = some o) → ∀ (d : Nat) o, s.heap.get? d = some o → (h.update S f).get? d = some o := fun h f q d o e =>
    (Heap.get?_update_other _ _ (Ne.symm (Nat.ne_of_lt (eS ▸ Heap.lt_size e)))).trans (q d o e)
  have g1 : ∀ (d : Nat) o, s.heap.get? d = some o → (s.heap.push (lsO #[] 0)).get? d = some o := fun d o e => Heap.get?_push_of_some _ e
  have g2 := up _ (Obj.mapSeq (fun _ => (#[] : Array Value))) g1
  have ty : ∀ {s' : Shared}, (∀ (d : Nat) o, s.heap.get? d = some o → s'.heap.get? d = some o) → s'.TypeIs (.ref u) "zip" := fun q => ⟨_, q _ _ zz, rfl⟩
  refine wpAny_bind (wpAny_typeOf (ty g2) ?_)
  have n1 : Builtin.List.listSameRef (.ref S) (.ref u) = false := by simp only [Builtin.List.listSameRef]; exact beq_false_of_ne (Nat.ne_of_gt lu)
  have n2 : (Value.type "zip" == Value.type "list") = false := by decide
  have n3 : (Value.type "zip" == Value.type "tuple") = false := by decide
  simp only [n1, n2, n3, Bool.or_false, Bool.false_eq_true, if_false]
  refine wpAny_bind (z_iter (f0 := f0) (f1 := f1) (TI := TI) (TO := TO) (g2 _ _ zz) ?_)
  refine wpAny_bind (wpAny_holding ?_)
  unfold Builtin.List.listLengthHint
  refine wpAny_bind (wpAny_specialOf (ty g2) zip_len0 ?_)
  show wpAny _ _ (specialOf (Value.ref u) (Str.ofString "__length_hint__") >>= _) _ _ _
  refine wpAny_bind (wpAny_specialOf (ty g2) zip_hint0 ?_)
  refine wpAny_pure ?_
  show wpAny _ _ (rule "list.extend.makes-room" >>= fun _ => Builtin.List.listTouch (.ref S) >>= fun _ => again (.builtin "list.extend.loop" ⟨[.ref S, .ref u, .none], []⟩)) _ _ _
  refine wpAny_bind (wpAny_rule ?_)
  refine wpAny_bind ?_
  show wpAny _ _ (updateSeq S (·.push .none) >>= fun _ => updateSeq S (·.pop)) _ _ _
  refine wpAny_bind (wpAny_updateSeq hS2 rfl ?_)
  have hS3 := Heap.get?_update_self (Obj.mapSeq (·.push Value.none)) hS2 rfl
  refine wpAny_updateSeq (hz := by seq_fits) hS3 rfl ?_
  have hS4 := Heap.get?_update_self (Obj.mapSeq (·.pop)) hS3 rfl
  have g4 := up _ (Obj.mapSeq (·.pop)) (up _ (Obj.mapSeq (·.push Value.none)) g2)
  refine wpAny_pure ⟨plainId_quiet PySem.F.plain_extend_loop _, ?_⟩
  refine zl_loop (s := s) (h₁ := s.heap) (A := A.in1) hh D lu lI lO k1 k2 la lb .none rfl hn (fun h' tk acc c ad kp e1 e2 e3 e4 => ⟨rfl, hQ h' tk acc c ad (fun d o c1 c2 c3 c4 e => kp d o (eS ▸ Heap.lt_size e) c1 c2 c3 c4 e) e1 e2 e3 e4⟩)
    _ 0 _ _ _ #[] [] rfl (Nat.zero_le _) (ZTn.stay st fun d o _ e => g4 d o e) (ta.at fun o e => g4 a o e) (tb.at fun o e => g4 b o e) (fun d o _ _ _ _ _ e => g4 d o e) hS4 rfl rfl ⟨List.Pairwise.nil, (fun _ z => nomatch z), (fun j p z => by simp at z)⟩
end
section
variable {X : Cx} {pins : List (Addr × Obj)} {σ : L2.St} {H H' : Hp} {s : Shared} {h' : Heap}
/-- several new objects are laid at once -/
theorem laidN {t' : Nat} (I : Inv X pins σ H s) (k : ∀ b o, s.heap.get? b = some o → h'.get? b = some o) (old : ∀ b, b < s.heap.objs.size → H' b = H b)
    (new : ∀ b u, s.heap.objs.size ≤ b → H' b = some u → ObjOk X.prog X.w H' h' b u) : Inv X pins σ H' { s with heap := h', toks := t' } := by
  have same : ∀ b u, H b = some u → H' b = some u := fun b u e => (old b (I.hok.lt e)).trans e
  refine I.step (g' := s.gens) (d' := s.drawn) (ch := []) (fun b hb => nomatch hb) (fun b o _ _ _ e _ => k b o e) (fun b o _ _ _ e _ => ⟨o.slots, k b o e⟩)
    (fun b o _ e n => (old b (Heap.lt_size e)).trans n) (fun b o _ e => ⟨o, k b o e⟩) (fun b _ e => same b _ e) (fun b _ _ e => same b _ e) (fun b ps e => ⟨#[], by rw [same b _ e]; simp⟩) (fun m hm => ?_) (fun b u e => ?_) I.bare
  · obtain ⟨o, es, ep, ho, r⟩ := hm
    exact ⟨o, es, ep, k _ o ho, r⟩
  · by_cases c : b < s.heap.objs.size
    · rw [old b c] at e
      exact (I.hok b u e).stay (fun d v _ q => k d v q) (fun d q => same d _ q) fun d _ q => same d _ q
    · exact new b u (Nat.le_of_not_lt c) e
end
end Vf
namespace Vf
open PySem PySem.Spec PyProof.Rows L2
/-- what lies at the pairs' places -/
def tblP (ad : List Nat) (xs ys : List V) (q : Nat) : Option HO := ((ad.zip (xs.zip ys)).find? fun e => e.1 == q).map fun e => HO.tup [e.2.1, e.2.2]
theorem tblP_some {ad : List Nat} {xs ys : List V} {q : Nat} {o : HO} (h : tblP ad xs ys q = some o) : ∃ (j : Nat) (x y : V), ad[j]? = some q ∧ xs[j]? = some x ∧ ys[j]? = some y ∧ o = .tup [x, y] := by
  unfold tblP at h
  obtain ⟨e, he, rfl⟩ := Option.map_eq_some_iff.mp h
  have h1 := List.find?_some he
  have h2 := List.mem_of_find?_eq_some he
  obtain ⟨j, hj⟩ := List.mem_iff_getElem?.mp h2
  obtain ⟨p, x, y⟩ := e
  obtain ⟨e1, e2⟩ := List.getElem?_zip_eq_some.mp hj
  obtain ⟨e3, e4⟩ := List.getElem?_zip_eq_some.mp e2
  have z : p = q := by simpa using h1
  subst z
  exact ⟨j, x, y, e1, e3, e4, rfl⟩
theorem tblP_at {ad : List Nat} {xs ys : List V} (inc : ad.Pairwise (· < ·)) {j : Nat} {p : Nat} {x y : V} (e1 : ad[j]? = some p) (e2 : xs[j]? = some x) (e3 : ys[j]? = some y) : tblP ad xs ys p = some (.tup [x, y]) := by
  cases h : tblP ad xs ys p with
  | none =>
    exfalso
    unfold tblP at h
    have h1 := Option.map_eq_none_iff.mp h
    have h2 := List.find?_eq_none.mp h1 (p, x, y) (List.mem_of_getElem? (i := j) (List.getElem?_zip_eq_some.mpr ⟨e1, List.getElem?_zip_eq_some.mpr ⟨e2, e3⟩⟩))
    simp at h2
  | some o =>
    obtain ⟨i, x', y', a1, a2, a3, rfl⟩ := tblP_some h
    have ij : i = j := by
      rw [List.pairwise_iff_getElem] at inc
      obtain ⟨li, gi⟩ := List.getElem?_eq_some_iff.mp a1
      obtain ⟨lj, gj⟩ := List.getElem?_eq_some_iff.mp e1
      rcases Nat.lt_trichotomy i j with c | c | c
      · have := inc i j li lj c
        rw [gi, gj] at this
        exact absurd this (Nat.lt_irrefl _)
      · exact c
      · have := inc j i lj li c
        rw [gi, gj] at this
        exact absurd this (Nat.lt_irrefl _)
    subst ij
    rw [a2] at e2
    rw [a3] at e3
    cases e2
    cases e3
    rfl
def lzH (H : Hp) (sz l : Nat) (ad : List Nat) (xs ys : List V) : Hp := fun q => if q < sz then H q else if q = l then some (.lst (ad.map V.ref)) else tblP ad xs ys q
/-- list(zip(t, u)) -/
def tListZip (K : PySem.W.Frag) (ta : TA) : TE := fun σ H Q => ta σ H fun vs H1 => ∃ a b xs ys, vs = [.ref a, .ref b] ∧ SqT K H1 a xs ∧ SqT K H1 b ys ∧
  ∀ (l : Nat) (ad : List Nat) H2, Same H1 H2 → H1 l = none → H2 l = some (.lst (ad.map V.ref)) → ad.length = min xs.length ys.length → (∀ (j : Nat) (p : Nat) (x y : V), ad[j]? = some p → xs[j]? = some x → ys[j]? = some y → H1 p = none ∧ H2 p = some (.tup [x, y])) → Q (.ref l) H2
theorem Vals_refs : ∀ ad : List Nat, Vals (ad.map V.ref) (ad.map Value.ref)
  | [] => .nil
  | a :: ad => .cons rfl (Vals_refs ad)
theorem pe_listZip {X : Cx} {K : PySem.W.Frag} {e e2 : Expr} {ta : TA} {p p2 pos2 pos : Pos} (ek : X.K = K) (hc : X.calm = true) (hg : Gl X "zip") (hm : X.mg "zip" = none) (hg2 : Gl X "list") (hm2 : X.mg "list" = none) (ha : PA X [e, e2] ta)
    (hs : starEach [e, e2] X.env = (false, eval e X.env) :: starEach [e2] X.env := by rfl) (hp : (backTo pos2 (starEach [e2] X.env)).any (·.1) = false := by rfl)
    (na : starEach [.Call (.Name "zip" p2) [e, e2] [] pos2] X.env = (false, eval (.Call (.Name "zip" p2) [e, e2] [] pos2) X.env) :: starEach [] X.env := by rfl) :
    PE X (.Call (.Name "list" p) [.Call (.Name "zip" p2) [e, e2] [] pos2] [] pos) (tListZip K ta) := by
  subst ek
  refine ⟨fun pins s σ H Q I h => ?_⟩
  refine Call_ (ld_blt I hg2 hm2 PyProof.Rows.boot_list ?_)
  refine PyProof.Rows.callWith_type1 (PyProof.Rows.args_cons ?_ na) na rfl
  refine Call_ (ld_blt I hg hm PyProof.Rows.boot_zip (PyProof.Rows.callWith_type1 (thn (ha.run pos2 pins s σ H _ I h) fun us s1 ⟨vs, H1, I1, r1, q1⟩ => ?_) hs hp))
  obtain ⟨a, b, xs, ys, rfl, qx, qy, q⟩ := q1
  obtain ⟨ua, ub, rfl, ra, rb⟩ : ∃ ua ub, us = [ua, ub] ∧ RelV (.ref a) ua ∧ RelV (.ref b) ub := by
    cases r1 with
    | cons r rr =>
      cases rr with
      | cons r' rr =>
        cases rr
        exact ⟨_, _, rfl, r, r'⟩
  cases ra
  cases rb
  obtain ⟨its, rv, tp, hz1⟩ := I1.tuple qx
  obtain ⟨its2, rv2, tp2, hz2⟩ := I1.tuple qy
  have hB : ∀ B d : Nat, d < B → d ≠ B + 4 ∧ d ≠ B + 3 ∧ d ≠ B ∧ d ≠ B + 1 := fun B d h => by omega
  have le1 := rv.length
  have le2 := rv2.length
  have la : a < s1.heap.objs.size := tp.lt
  have lb : b < s1.heap.objs.size := tp2.lt
  refine RZ.call_zipT tp tp2 fun m hz hTI hTO n1 n2 hsz hk => ?_
  refine PyProof.Rows.args_nil ?_
  have D := PySem.W.ktu_apart s1.heap.objs.size a b la lb
  have st : ZTn (s1.heap.objs.size + 4) (s1.heap.objs.size + 2) (s1.heap.objs.size + 3) s1.heap.objs.size (s1.heap.objs.size + 1) a b 0 m := ⟨⟨.none, .bool false, .inl rfl, ⟨false, rfl⟩, hz⟩, hTI, ⟨_, _, hTO⟩, n1, n2⟩
  refine zl_call (s := { s1 with heap := m }) (xs := its) (ys := its2) (I1.ok.hd hc) D rfl st (let ⟨o, z, r⟩ := tp; ⟨o, hk _ _ z, r⟩) (let ⟨o, z, r⟩ := tp2; ⟨o, hk _ _ z, r⟩) (Nat.le_trans (Nat.min_le_left _ _) (le1 ▸ hz1)) fun h' tk acc c ad kp hl el G ea => ?_
  dsimp only at kp hl G ⊢
  rw [← le1, ← le2] at el
  have sS : m.objs.size = s1.heap.objs.size + 5 := hsz
  have G2 := G.prs
  have big := G.big
  have ltS : ∀ {p : Nat}, p ∈ ad → s1.heap.objs.size ≤ p ∧ m.objs.size ≠ p := fun hp => by
    have := big _ hp
    exact ⟨by omega, by omega⟩
  have I2 : Inv X pins σ (lzH H1 s1.heap.objs.size m.objs.size ad xs ys) { s1 with heap := h', toks := tk } := by
    refine laidN I1 (fun d o w => let z := hB _ d (Heap.lt_size w); kp d o z.1 z.2.1 z.2.2.1 z.2.2.2 (hk d o w)) (fun d hd => if_pos hd) fun d o hd ho => ?_
    unfold lzH at ho
    rw [if_neg (Nat.not_lt.mpr hd)] at ho
    by_cases c2 : d = m.objs.size
    · subst c2
      rw [if_pos rfl] at ho
      cases ho
      have hlen : acc.size = ad.length := by rw [← Array.length_toList, ea, List.length_map]
      refine ⟨?_, ad.map Value.ref, c, Vals_refs ad, ?_⟩
      · rw [List.length_map, el]
        omega
      · rw [← ea]
        exact hl
    · rw [if_neg c2] at ho
      obtain ⟨j, x, y, e1, e3, e4, rfl⟩ := tblP_some ho
      obtain ⟨x', y', f1, f2, f3⟩ := G2 j d e1
      obtain ⟨v1, g1, w1⟩ := rv.get e3
      obtain ⟨v2, g2, w2⟩ := rv2.get e4
      rw [f1] at g1
      rw [f2] at g2
      cases g1
      cases g2
      exact ⟨by show 2 ≤ sizeLine; decide, [x', y'], .cons w1 (.cons w2 .nil), ⟨_, f3, rfl, _, rfl⟩⟩
  have fr : ∀ {d : Nat}, s1.heap.objs.size ≤ d → H1 d = none := fun hd => I1.hok.fresh hd
  refine ⟨.ref m.objs.size, _, I2, rfl, q m.objs.size ad _ (fun d o w => ?_) (fr (sS ▸ Nat.le_add_right _ _)) ?_ el fun j p x y e1 e3 e4 => ?_⟩
  · unfold lzH
    rw [if_pos (I1.hok.lt w)]
    exact w
  · unfold lzH
    rw [if_neg (Nat.not_lt.mpr (sS ▸ Nat.le_add_right _ _)), if_pos rfl]
  · have hp := ltS (List.mem_of_getElem? e1)
    refine ⟨fr hp.1, ?_⟩
    unfold lzH
    rw [if_neg (Nat.not_lt.mpr hp.1), if_neg (fun z => hp.2 z.symm)]
    exact tblP_at G.inc e1 e3 e4
theorem r_listZip {K : PySem.W.Frag} {ta : TA} {σ : L2.St} {H : Hp} {Q : VK} (h : ta σ H fun vs H1 => ∃ a b xs ys, vs = [.ref a, .ref b] ∧ SqT K H1 a xs ∧ SqT K H1 b ys ∧
  ∀ (l : Nat) (ad : List Nat) H2, Same H1 H2 → H1 l = none → H2 l = some (.lst (ad.map V.ref)) → ad.length = min xs.length ys.length → (∀ (j : Nat) (p : Nat) (x y : V), ad[j]? = some p → xs[j]? = some x → ys[j]? = some y → H1 p = none ∧ H2 p = some (.tup [x, y])) → Q (.ref l) H2) : tListZip K ta σ H Q := h
theorem paired_of {α β : Type} {F : α → β → Prop} : ∀ {xs : List α} {ys : List β}, xs.length = ys.length → (∀ (j : Nat) (x : α) (y : β), xs[j]? = some x → ys[j]? = some y → F x y) → Paired F xs ys
  | [], [], _, _ => .nil
  | [], _ :: _, h, _ => by simp at h
  | _ :: _, [], h, _ => by simp at h
  | x :: xs, y :: ys, h, f => .cons (f 0 x y rfl rfl) (paired_of (by simpa using h) fun j a b e1 e2 => f (j + 1) a b (by simpa using e1) (by simpa using e2))
end Vf

namespace Vf
open PySem PySem.Spec PyProof.Rows L2
/-! ## sorted; the same data twice -/
section
variable {X : Cx} {K : PySem.W.Frag}
theorem c_sortedPO (e : X.K = K) : CallR X (.builtin "sorted") (rSortedPO K) := by subst e; exact cr_sortedPO
theorem c_sortedI (e : X.K = K) : CallR X (.builtin "sorted") (rSortedI K) := by subst e; exact cr_sortedI
end
section
variable {K : PySem.W.Frag} {H H' : Hp} {Q : VK}
/-- pairs of ints that lie in the heap itself -/
def PrsH (H : Hp) (vs : List V) (ps : List (Int × Int)) : Prop := Paired (fun v p => ∃ t, v = V.ref t ∧ H t = some (.tup [.int p.1, .int p.2])) vs ps
theorem PrsH.at_ {vs : List V} {ps : List (Int × Int)} (h : PrsH H vs ps) : PairsAt K H vs ps := by
  induction h with
  | nil => exact .nil
  | cons h1 h2 ih =>
    obtain ⟨t, e, z⟩ := h1
    exact .cons ⟨t, e, SqT.of z⟩ ih
theorem PrsH.mono {vs : List V} {ps : List (Int × Int)} (h : PrsH H vs ps) (k : ∀ t xs, H t = some (.tup xs) → H' t = some (.tup xs)) : PrsH H' vs ps := by
  induction h with
  | nil => exact .nil
  | cons h1 h2 ih =>
    obtain ⟨t, e, z⟩ := h1
    exact .cons ⟨t, e, k _ _ z⟩ ih
theorem PrsH.snoc {vs : List V} {ps : List (Int × Int)} {t : Addr} {p : Int × Int} (h : PrsH H vs ps) (e : H t = some (.tup [.int p.1, .int p.2])) : PrsH H (vs ++ [.ref t]) (ps ++ [p]) := by
  induction h with
  | nil => exact .cons ⟨t, rfl, e⟩ .nil
  | cons h1 h2 ih => exact .cons h1 ih
theorem PrsH.len {vs : List V} {ps : List (Int × Int)} (h : PrsH H vs ps) : vs.length = ps.length := Paired.length h
theorem paired_get {α β : Type} {F : α → β → Prop} : ∀ {xs : List α} {ys : List β} {j : Nat} {x : α}, Paired F xs ys → xs[j]? = some x → ∃ y, ys[j]? = some y ∧ F x y
  | _, _, 0, _, .cons h _, e => ⟨_, rfl, by cases e; exact h⟩
  | _, _, j + 1, _, .cons _ t, e => paired_get (j := j) t e
  | _, _, _, _, .nil, e => by simp at e
/-- what pair stands at a value -/
def kyP (H : Hp) : V → Int × Int
  | .ref t => match H t with
    | some (.tup [.int i, .int j]) => (i, j)
    | _ => (0, 0)
  | _ => (0, 0)
theorem kyP_of {t : Addr} {i j : Int} (h : H t = some (.tup [.int i, .int j])) : kyP H (.ref t) = (i, j) := by
  simp only [kyP, h]
theorem PrsH.srtd {vs : List V} {ps : List (Int × Int)} (h : PrsH H vs ps) (asc : ps.Pairwise fun p q => SrtO.lexB q p = false) : SrtO.Srtd (ltP (kyP H)) vs := by
  induction h with
  | nil => exact .nil
  | @cons v p vs ps h1 h2 ih =>
    obtain ⟨a1, a2⟩ := List.pairwise_cons.mp asc
    refine List.pairwise_cons.mpr ⟨fun u hu => ?_, ih a2⟩
    obtain ⟨t, rfl, e⟩ := h1
    have key : ∀ {vs : List V} {ps : List (Int × Int)}, PrsH H vs ps → u ∈ vs → ∃ q, q ∈ ps ∧ kyP H u = q := by
      intro vs ps hp
      induction hp with
      | nil => exact fun z => nomatch z
      | cons g1 g2 ih2 =>
        intro z
        rcases List.mem_cons.mp z with z | z
        · obtain ⟨t', rfl, e'⟩ := g1
          subst z
          exact ⟨_, List.mem_cons_self, kyP_of e'⟩
        · obtain ⟨q, hq, r⟩ := ih2 z
          exact ⟨q, List.mem_cons_of_mem _ hq, r⟩
    obtain ⟨q, hq, r⟩ := key h2 hu
    show SrtO.lexB (kyP H u) (kyP H (.ref t)) = false
    rw [r, kyP_of e]
    exact a1 q hq
/-- sorted of pairs that ascend already -/
theorem r_sortedP {a : Addr} {vs : List V} {ps : List (Int × Int)} (h1 : SqL K H a vs) (h2 : PrsH H vs ps) (asc : ps.Pairwise fun p q => SrtO.lexB q p = false) (h : ∀ p, H p = none → Q (.ref p) (upd H p (.lst vs))) : rSortedPO K [.ref a] H Q := by
  refine ⟨a, vs, kyP H, rfl, h1, fun x hx => ?_, fun ys p g1 g2 hp => ?_⟩
  · obtain ⟨j, hj⟩ := List.mem_iff_getElem?.mp hx
    obtain ⟨q, _, t, rfl, e⟩ := paired_get h2 hj
    rw [kyP_of e]
    exact ⟨t, rfl, e⟩
  · rw [SrtO.stb_uniq (ltP_swo _) g1 (h2.srtd asc) g2]
    exact h p hp
theorem shaped_of {d : PyData} (h1 : d.canLay0 = true) (h2 : d.depth ≤ 64) : SeqAt.shaped d = true := by
  unfold SeqAt.shaped
  rw [Bool.and_eq_true]
  exact ⟨h1, decide_eq_true h2⟩
theorem r_eqSame {x y : V} (d : PyData) (h1 : Dp K H x d) (h2 : Dp K H y d) (h3 : d.canLay0 = true) (h4 : d.depth ≤ 64) (h : Q (.bl true) H) : rEqD K x y H Q := by
  refine r_eqD h1 h2 (shaped_of h3 h4) (shaped_of h3 h4) ?_
  rw [SeqAt.eqv_refl d h3]
  exact h
theorem r_neSame {x y : V} (d : PyData) (h1 : Dp K H x d) (h2 : Dp K H y d) (h3 : d.canLay0 = true) (h4 : d.depth ≤ 64) (h : Q (.bl false) H) : rNeD K x y H Q := by
  refine r_neD h1 h2 (shaped_of h3 h4) (shaped_of h3 h4) ?_
  rw [SeqAt.eqv_refl d h3]
  exact h
end
end Vf

namespace Vf
open PySem PySem.Spec PyProof.Rows L2
/-! ## max(xs, default = d) -/
section
variable {prog : Program} {w : World} {A : Around} {J : Addr} {far put : List Addr} {N : Nat} {Pn : Nat → Value → Prop} {Sn : Nat → Heap → Prop}
theorem mx_name : (toString "max" ++ toString ".loop" : String) = "max.loop" := by decide
theorem mx_args (x d : Value) : argsOk "max" ⟨[x], [(Str.ofString "default", d)]⟩ := by
  unfold argsOk
  kernel_rfl
/-- the loop behind its first item, whatever keywords go with it -/
theorem mx_on (kw : List (Str × Value)) (Y : Walks prog w A.in1 J far put N Pn Sn) (gt : Nat → Nat → Bool) (hgt : CmpOf prog w A.in1 .Gt Pn gt) (B : Addr) (nB : B ∉ far) {Z : Result → Shared → Prop} :
    ∀ (left i : Nat) (s : Shared) (best : Value) (ep : Nat), N - (i + 1) = left → i + 1 ≤ N → Sn (i + 1) s.heap → Pn (argBest gt i) best →
    s.heap.get? B = some { cls := .type "list", dict := none, data := .seq #[best, best] ep, slots := #[] } →
    (∀ v h2 t2, Pn (argBest gt (N - 1)) v → (∀ b o, b ∉ put → b ≠ B → s.heap.get? b = some o → h2.get? b = some o) → Z (.ok (.ret v)) { s with heap := h2, toks := t2 }) →
    codeAny (model prog w) A (.builtin "max.loop" ⟨[.ref J, .none, .ref B], kw⟩) Z s
  | 0, i, s, best, ep, e, li, hS, hP, hB, q => by
    have eN : i + 1 = N := by omega
    have nP : B ∉ put := fun h => nB (Y.sub _ h)
    refine codeAny_builtin F.entry_max_loop ?_
    rw [Around.under_plainId F.plain_max_loop _]
    show wpAny _ A.in1 (seqItems? (.ref B) >>= _) _ _ s
    refine wpAny_bind (wpAny_seqItems hB rfl ?_)
    show wpAny _ A.in1 (tryCatch (pyNext (.ref J)) _ >>= _) _ _ s
    refine wpAny_bind (wpAny_tryCatch (Y.done s _ _ (eN ▸ hS) fun h1 t1 k1 => ?_))
    show wpAny _ A.in1 (updateSeq B (fun _ => #[]) >>= _) _ _ _
    refine wpAny_bind (wpAny_updateSeq (k1 B _ nP hB) rfl (wpAny_bind (wpAny_letGo (wpAny_pure ?_))))
    exact q best _ t1 (by rw [← eN]; exact hP) fun b o c1 c2 g => (Heap.get?_update_other _ _ (Ne.symm c2)).trans (k1 b o c1 g)
  | left + 1, i, s, best, ep, e, li, hS, hP, hB, q => by
    have lt : i + 1 < N := by omega
    have nP : B ∉ put := fun h => nB (Y.sub _ h)
    refine codeAny_builtin F.entry_max_loop ?_
    rw [Around.under_plainId F.plain_max_loop _]
    show wpAny _ A.in1 (seqItems? (.ref B) >>= _) _ _ s
    refine wpAny_bind (wpAny_seqItems hB rfl ?_)
    show wpAny _ A.in1 (tryCatch (pyNext (.ref J)) _ >>= _) _ _ s
    refine wpAny_bind (wpAny_tryCatch (Y.item (i + 1) s _ _ lt hS fun u h1 t1 pu su k1 => ?_))
    have hB1 := k1 B _ nP hB
    show wpAny _ A.in1 (tryCatch (holding [u, u] (richCompare .Gt u best >>= _)) _ >>= _) _ _ _
    refine wpAny_bind (wpAny_tryCatch (wpAny_holding (wpAny_bind (hgt (i + 1) (argBest gt i) u best _ _ _ pu hP ?_))))
    refine wpAny_bind (wpAny_holding (wpAny_truthy_bool (wpAny_bind (wpAny_letGo (wpAny_pure ?_)))))
    by_cases c : gt (i + 1) (argBest gt i) = true
    · rw [if_pos c]
      refine wpAny_bind (wpAny_updateSeq hB1 rfl (wpAny_bind (wpAny_letGo ?_)))
      rw [mx_name]
      refine wpAny_pure ⟨plainId_quiet F.plain_max_loop _, mx_on kw Y gt hgt B nB left (i + 1) _ u _ (by omega) lt (Y.frame _ _ _ su fun b hb o g => ?_) (by rw [argBest, if_pos c]; exact pu) (Heap.get?_update_self _ hB1 rfl) fun v h2 t2 pv k2 => ?_⟩
      · exact (Heap.get?_update_other _ _ (fun z : B = b => nB (by rw [z]; exact hb))).trans g
      · exact q v h2 t2 pv fun b o c1 c2 g => k2 b o c1 c2 ((Heap.get?_update_other _ _ (Ne.symm c2)).trans (k1 b o c1 g))
    · rw [if_neg c]
      refine wpAny_bind (wpAny_letGo ?_)
      rw [mx_name]
      refine wpAny_pure ⟨plainId_quiet F.plain_max_loop _, mx_on kw Y gt hgt B nB left (i + 1) _ best ep (by omega) lt su (by rw [argBest, if_neg c]; exact hP) hB1 fun v h2 t2 pv k2 => ?_⟩
      exact q v h2 t2 pv fun b o c1 c2 g => k2 b o c1 c2 (k1 b o c1 g)
/-- the loop from its start: an item, or none and the default -/
theorem mx_start (d : Value) (Y : Walks prog w A.in1 J far put N Pn Sn) (gt : Nat → Nat → Bool) (hgt : CmpOf prog w A.in1 .Gt Pn gt) (B : Addr) (nB : B ∉ far) {Z : Result → Shared → Prop} {s : Shared} {ep : Nat} (hS : Sn 0 s.heap)
    (hB : s.heap.get? B = some { cls := .type "list", dict := none, data := .seq #[] ep, slots := #[] })
    (q : ∀ v h2 t2, ((N = 0 ∧ v = d) ∨ (0 < N ∧ Pn (argBest gt (N - 1)) v)) → (∀ b o, b ∉ put → b ≠ B → s.heap.get? b = some o → h2.get? b = some o) → Z (.ok (.ret v)) { s with heap := h2, toks := t2 }) :
    codeAny (model prog w) A (.builtin "max.loop" ⟨[.ref J, .none, .ref B], [(Str.ofString "default", d)]⟩) Z s := by
  have nP : B ∉ put := fun h => nB (Y.sub _ h)
  refine codeAny_builtin F.entry_max_loop ?_
  rw [Around.under_plainId F.plain_max_loop _]
  show wpAny _ A.in1 (seqItems? (.ref B) >>= _) _ _ s
  refine wpAny_bind (wpAny_seqItems hB rfl ?_)
  show wpAny _ A.in1 (tryCatch (pyNext (.ref J)) _ >>= _) _ _ s
  rcases Nat.eq_zero_or_pos N with z | z
  · subst z
    refine wpAny_bind (wpAny_tryCatch (Y.done s _ _ hS fun h1 t1 k1 => ?_))
    refine wpAny_bind (wpAny_rule (wpAny_pure ?_))
    exact q d h1 t1 (.inl ⟨rfl, rfl⟩) fun b o c1 _ g => k1 b o c1 g
  · refine wpAny_bind (wpAny_tryCatch (Y.item 0 s _ _ z hS fun u h1 t1 pu su k1 => ?_))
    have hB1 := k1 B _ nP hB
    show wpAny _ A.in1 (updateSeq B (fun _ => #[u, u]) >>= _) _ _ _
    refine wpAny_bind (wpAny_updateSeq hB1 rfl ?_)
    rw [mx_name]
    refine wpAny_pure ⟨plainId_quiet F.plain_max_loop _, mx_on _ Y gt hgt B nB _ 0 _ u _ rfl z (Y.frame _ _ _ su fun b hb o g => ?_) pu (Heap.get?_update_self _ hB1 rfl) fun v h2 t2 pv k2 => ?_⟩
    · exact (Heap.get?_update_other _ _ (fun y : B = b => nB (by rw [y]; exact hb))).trans g
    · exact q v h2 t2 (.inr ⟨z, pv⟩) fun b o c1 c2 g => k2 b o c1 c2 ((Heap.get?_update_other _ _ (Ne.symm c2)).trans (k1 b o c1 g))
end
section
variable {prog : Program} {w : World} {A : Around} {E : Value → Shared → Prop} {s : Shared}
theorem mx_call {l : Addr} {xs : Array (Int × Tok)} {d : Value} {Q : Value → Shared → Prop} (hh : A.handled = none) (hl : s.heap.IsList l (intItems xs))
    (h : ∀ v h2 t2, ((xs.size = 0 ∧ v = d) ∨ (0 < xs.size ∧ (intItems xs)[argBest (fun i j => decide (numAt xs i > numAt xs j)) (xs.size - 1)]? = some v)) → (∀ b o, s.heap.get? b = some o → h2.get? b = some o) → Q v { s with heap := h2, toks := t2 }) :
    wpAny (model prog w) A (call (.builtin "max") [.ref l] [(Str.ofString "default", d)]) Q E s := by
  refine wpAny_call (codeAny_call_builtin F.plain_max F.entry_max ?_)
  have body : wpAny (model prog w) A.in1 (Builtin.«max» ⟨[.ref l], [(Str.ofString "default", d)]⟩) (fun fin s' => match fin with
      | .done f => (match (Except.ok f : Result) with | .ok (.ret v) => Q v s' | .ok _ => False | .error e => E e s')
      | .again c' => c'.quiet = true ∧ codeAny (model prog w) A c' (fun r s' => match r with | .ok (.ret v) => Q v s' | .ok _ => False | .error e => E e s') s') E s := by
    show wpAny _ A.in1 (Builtin.Builtins.bindParams "max" ["key", "default"] 0 ⟨[], [(Str.ofString "default", d)]⟩ >>= _) _ _ s
    refine wpAny_bind (wpAny_of_eq (show Builtin.Builtins.bindParams "max" ["key", "default"] 0 ⟨[], [(Str.ofString "default", d)]⟩ = pure [none, some d] from rfl) (wpAny_bind (wpAny_pure ?_)))
    refine wpAny_bind (iter_intList hl fun s2 e st hf nl => ?_)
    subst e
    refine wpAny_bind (wpAny_newObj_type ?_)
    rw [mx_name]
    refine wpAny_pure ⟨plainId_quiet F.plain_max_loop _, mx_start d (Walks.list (prog := prog) (w := w) (A := A.in1) hh _ l nl (intItems xs)) _ (CmpOf.ints_gt (numAt xs) fun _ _ => intItems_at) _ (fun hm => Nat.lt_irrefl _ (hf _ hm)) ((Walks.list (prog := prog) (w := w) (A := A.in1) hh _ l nl (intItems xs)).frame _ _ _ st fun b _ o g => Heap.get?_push_of_some _ g) (Heap.get?_push_size _ rfl) fun v h2 t2 hv k => ?_⟩
    refine h v h2 t2 (by simpa [intItems] using hv) (old_kept (l := l) fun b o hb g => ?_)
    exact k b o hb (Nat.ne_of_lt (Heap.lt_size g)) (Heap.get?_push_of_some _ g)
  simp only [checkBuiltinCall, F.kind_max]
  have ha := mx_args (.ref l) d
  cases hsig : Manifest.signature? "max" with
  | none => exact wpAny_pure body
  | some sig =>
    have ha' : Bind.checkArgs "max" sig ⟨[.ref l], [(Str.ofString "default", d)]⟩ = pure () := by simpa only [argsOk, hsig] using ha
    simp only [ha']
    exact wpAny_pure body
end
section
variable {X : Cx}
def rMaxD (K : PySem.W.Frag) : List V → List V → Hp → VK → Prop := fun vs zs H Q => ∃ (a : Addr) (ns : List Int) (d : Int), vs = [V.ref a] ∧ zs = [.int d] ∧ SqL K H a (ns.map V.int) ∧ ∀ m, (ns = [] → m = d) → (ns ≠ [] → m ∈ ns ∧ ∀ y ∈ ns, y ≤ m) → Q (.int m) H
theorem cr_maxDf {K : PySem.W.Frag} (eK : X.K = K) (hc : X.calm = true) : CallRK X (.builtin "max") [Str.ofString "default"] (rMaxD K) := by
  subst eK
  intro pins s σ H vs zs us ws Q I r rz h
  obtain ⟨a, ns, d, rfl, rfl, hs, q⟩ := h
  obtain ⟨its, rv, hl, _⟩ := I.list hs
  obtain rfl := Vals.ref1 r
  obtain ⟨w1, rfl, t, rfl⟩ := vals1 rz
  have hi := rv.ints
  obtain ⟨xs, e⟩ := hi.allInts.items
  have hn : numsOf (intItems xs).toList = ns := by rw [← e]; exact hi.numsOf
  rw [nums_intItems] at hn
  have hl' := hl.isList
  rw [e] at hl'
  have ln : ns.length = xs.size := by rw [← hn, List.length_map, Array.length_toList]
  refine mx_call (I.ok.hd hc) hl' fun v h2 t2 hv k => ?_
  rcases hv with ⟨z, rfl⟩ | ⟨z, hv⟩
  · exact ⟨.int d, H, I.kept k, ⟨_, rfl⟩, q d (fun _ => rfl) fun c => absurd (List.eq_nil_of_length_eq_zero (by omega)) c⟩
  · obtain ⟨t', rfl⟩ := intItems_at hv
    obtain ⟨g1, g2⟩ := argBest_gt (numAt xs) (xs.size - 1)
    refine ⟨.int _, H, I.kept k, ⟨_, rfl⟩, q _ (fun c => by rw [c] at ln; simp at ln; omega) fun _ => ⟨?_, fun y hy => ?_⟩⟩
    · rw [numAt_eq, ← hn]
      exact PySem.getD_mem (by rw [List.length_map, Array.length_toList]; omega)
    · rw [← hn] at hy
      obtain ⟨j, hj, rfl⟩ := mem_getD hy
      rw [List.length_map, Array.length_toList] at hj
      rw [← numAt_eq]
      exact g2 j (by omega)
theorem r_maxD {K : PySem.W.Frag} {H : Hp} {Q : VK} {a : Addr} {d : Int} (ns : List Int) (hs : SqL K H a (ns.map V.int)) (h : ∀ m, (ns = [] → m = d) → (ns ≠ [] → m ∈ ns ∧ ∀ y ∈ ns, y ≤ m) → Q (.int m) H) : rMaxD K [.ref a] [.int d] H Q := ⟨a, ns, d, rfl, rfl, hs, h⟩
theorem r_ckw {r : List V → List V → Hp → VK → Prop} {t tk : TA} {σ : L2.St} {H : Hp} {Q : VK} (h : t σ H fun vs H1 => tk σ H1 fun zs H2 => r vs zs H2 Q) : tCKw r t tk σ H Q := h
end
end Vf

namespace Vf
open PySem PySem.Spec PyProof.Rows L2
/-! ## lists of rows -/
section
variable {K : PySem.W.Frag} {H H' : Hp} {Q : VK}
/-- a list of refs to tuples of ints -/
def RowsAt (K : PySem.W.Frag) (H : Hp) (vs : List V) (nss : List (List Int)) : Prop := Paired (fun v ns => ∃ p, v = V.ref p ∧ SqT K H p (ns.map V.int)) vs nss
theorem RowsAt.mono {vs : List V} {nss : List (List Int)} (h : RowsAt K H vs nss) (s : ∀ p xs, SqT K H p xs → SqT K H' p xs) : RowsAt K H' vs nss := by
  induction h with
  | nil => exact .nil
  | cons h1 h2 ih =>
    obtain ⟨p, e, t⟩ := h1
    exact .cons ⟨p, e, s p _ t⟩ ih
theorem RowsAt.same {vs : List V} {nss : List (List Int)} (h : RowsAt K H vs nss) (s : Same H H') : RowsAt K H' vs nss := h.mono fun _ _ t => Same.tup s t
theorem RowsAt.snoc {vs : List V} {nss : List (List Int)} {p : Addr} {ns : List Int} (h : RowsAt K H vs nss) (t : SqT K H p (ns.map V.int)) : RowsAt K H (vs ++ [.ref p]) (nss ++ [ns]) := by
  induction h with
  | nil => exact .cons ⟨p, rfl, t⟩ .nil
  | cons h1 h2 ih => exact .cons h1 ih
theorem RowsAt.len {vs : List V} {nss : List (List Int)} (h : RowsAt K H vs nss) : vs.length = nss.length := Paired.length h
theorem RowsAt.dp {vs : List V} {nss : List (List Int)} (h : RowsAt K H vs nss) : DpAll K H vs (nss.map tupD) := by
  induction h with
  | nil => exact .nil
  | cons h1 h2 ih =>
    obtain ⟨p, e, t⟩ := h1
    rw [e]
    exact .cons (Dp.tupD t) ih
def linesD (nss : List (List Int)) : PyData := .list (nss.map tupD)
theorem tameLines : ∀ nss : List (List Int), (∀ ns ∈ nss, ∀ n ∈ ns, n.natAbs < 2 ^ 1900) → tameAll (nss.map tupD) = true
  | [], _ => rfl
  | ns :: nss, h => by
    show (tameAll (ns.map PyData.int) && tameAll (nss.map tupD)) = true
    rw [tameInts ns (h ns List.mem_cons_self), tameLines nss (fun m hm => h m (List.mem_cons_of_mem _ hm))]
    rfl
theorem roomLines : ∀ nss : List (List Int), (∀ ns ∈ nss, ns.length ≤ 12) → roomAll (nss.map tupD) ≤ 24030 * nss.length
  | [], _ => Nat.le_refl _
  | ns :: nss, h => by
    have h1 := h ns List.mem_cons_self
    have h2 := roomLines nss (fun m hm => h m (List.mem_cons_of_mem _ hm))
    show (4 + roomAll (ns.map PyData.int)) + 2 + roomAll (nss.map tupD) ≤ 24030 * (nss.length + 1)
    rw [roomInts]
    omega
theorem depthLines : ∀ nss : List (List Int), PyData.depthAll (nss.map tupD) ≤ 1
  | [] => Nat.zero_le _
  | ns :: nss => by
    have h2 := depthLines nss
    show max (PyData.depthAll (ns.map PyData.int) + 1) (PyData.depthAll (nss.map tupD)) ≤ 1
    rw [depthInts]
    omega
theorem r_reprTs {a : Addr} {vs : List V} (nss : List (List Int)) (hs : SqL K H a vs) (R : RowsAt K H vs nss) (b : ∀ ns ∈ nss, ∀ n ∈ ns, n.natAbs < 2 ^ 1900) (l1 : nss.length ≤ 4) (l2 : ∀ ns ∈ nss, ns.length ≤ 12)
    (h : Q (.str (linesD nss).shown) H) : rRepr K [.ref a] H Q := by
  refine r_reprD (linesD nss) (Dp.lst hs R.dp) ?_ ?_ ?_ h
  · exact tameLines nss b
  · have := depthLines nss
    show PyData.depthAll (nss.map tupD) + 1 ≤ 40
    omega
  · have := roomLines nss l2
    show 4 + roomAll (nss.map tupD) ≤ 100000
    omega
end
end Vf

namespace Vf
/-! ## sums of powers: lists of ints, lowest first -/
def pval : List Int → Int → Int
  | [], _ => 0
  | c :: t, x => c + x * pval t x
def l1 : List Int → Nat
  | [] => 0
  | c :: t => c.natAbs + l1 t
theorem pval_append : ∀ (p q : List Int) (x : Int), pval (p ++ q) x = pval p x + x ^ p.length * pval q x
  | [], q, x => by simp [pval]
  | c :: p, q, x => by
    have h := pval_append p q x
    simp only [List.cons_append, pval, List.length_cons, h, Int.pow_succ]
    grind
theorem l1_append : ∀ (p q : List Int), l1 (p ++ q) = l1 p + l1 q
  | [], q => by simp [l1]
  | c :: p, q => by
    have h := l1_append p q
    simp only [List.cons_append, l1, h]
    omega
theorem pval_zeros : ∀ (n : Nat) (x : Int), pval (List.replicate n 0) x = 0
  | 0, _ => rfl
  | n + 1, x => by
    rw [List.replicate_succ, pval, pval_zeros n x]
    simp
theorem l1_zeros : ∀ (n : Nat), l1 (List.replicate n 0) = 0
  | 0 => rfl
  | n + 1 => by
    rw [List.replicate_succ, l1, l1_zeros n]
    rfl
theorem pval_set : ∀ {p : List Int} {i : Nat} {c v x : Int}, p[i]? = some c → pval (p.set i (c + v)) x = pval p x + v * x ^ i
  | [], i, c, v, x, h => by simp at h
  | a :: p, 0, c, v, x, h => by
    have e : a = c := by simpa using h
    subst e
    simp only [List.set_cons_zero, pval, Int.pow_zero]
    grind
  | a :: p, i + 1, c, v, x, h => by
    have h2 : p[i]? = some c := by simpa using h
    have ih := pval_set (v := v) (x := x) h2
    simp only [List.set_cons_succ, pval, ih, Int.pow_succ]
    grind
theorem l1_set : ∀ {p : List Int} {i : Nat} {c v : Int}, p[i]? = some c → l1 (p.set i (c + v)) ≤ l1 p + v.natAbs
  | [], i, c, v, h => by simp at h
  | a :: p, 0, c, v, h => by
    have e : a = c := by simpa using h
    subst e
    simp only [List.set_cons_zero, l1]
    omega
  | a :: p, i + 1, c, v, h => by
    have h2 : p[i]? = some c := by simpa using h
    have ih := l1_set (v := v) h2
    simp only [List.set_cons_succ, l1]
    omega
theorem take_nx {α : Type} {p : List α} {i : Nat} {c : α} (h : p[i]? = some c) : p.take (i + 1) = p.take i ++ [c] := by
  rw [List.take_add_one, h]
  rfl
theorem len_tk {p : List Int} {i : Nat} {c : Int} (h : p[i]? = some c) : (p.take i).length = i := by
  have := (List.getElem?_eq_some_iff.mp h).1
  rw [List.length_take]
  omega
theorem pval_take {p : List Int} {i : Nat} {c x : Int} (h : p[i]? = some c) : pval (p.take (i + 1)) x = pval (p.take i) x + c * x ^ i := by
  rw [take_nx h, pval_append, len_tk h]
  simp only [pval]
  grind
theorem l1_take {p : List Int} {i : Nat} {c : Int} (h : p[i]? = some c) : l1 (p.take (i + 1)) = l1 (p.take i) + c.natAbs := by
  rw [take_nx h, l1_append]
  simp only [l1]
  omega
theorem l1_take_le : ∀ (p : List Int) (i : Nat), l1 (p.take i) ≤ l1 p
  | [], i => by simp [l1]
  | a :: p, 0 => by simp [l1]
  | a :: p, i + 1 => by
    have := l1_take_le p i
    simp only [List.take_succ_cons, l1]
    omega
theorem drop_at {α : Type} {p : List α} {i : Nat} {c : α} (h : p[i]? = some c) : p.drop i = c :: p.drop (i + 1) := by
  have hl := (List.getElem?_eq_some_iff.mp h)
  obtain ⟨h1, h2⟩ := hl
  rw [List.drop_eq_getElem_cons h1, h2]
theorem pval_drop {p : List Int} {i : Nat} {c x : Int} (h : p[i]? = some c) : pval (p.drop i) x = c + x * pval (p.drop (i + 1)) x := by
  rw [drop_at h]
  rfl
theorem l1_drop {p : List Int} {i : Nat} {c : Int} (h : p[i]? = some c) : l1 (p.drop i) = c.natAbs + l1 (p.drop (i + 1)) := by
  rw [drop_at h]
  rfl
theorem l1_drop_le : ∀ (p : List Int) (i : Nat), l1 (p.drop i) ≤ l1 p
  | [], i => by simp [l1]
  | a :: p, 0 => Nat.le_refl _
  | a :: p, i + 1 => by
    have := l1_drop_le p i
    simp only [List.drop_succ_cons, l1]
    omega
theorem l1_mem : ∀ {p : List Int} {c : Int}, c ∈ p → c.natAbs ≤ l1 p
  | a :: p, c, h => by
    simp only [l1]
    rcases List.mem_cons.mp h with e | e
    · subst e; omega
    · have := l1_mem e; omega
theorem pval_le : ∀ (p : List Int) (x : Int) (X : Nat), 1 ≤ X → x.natAbs ≤ X → (pval p x).natAbs ≤ l1 p * X ^ p.length
  | [], x, X, _, _ => by simp [pval, l1]
  | c :: p, x, X, h1, hx => by
    have ih := pval_le p x X h1 hx
    simp only [pval, l1, List.length_cons]
    have e1 : (c + x * pval p x).natAbs ≤ c.natAbs + x.natAbs * (pval p x).natAbs := by
      have := Int.natAbs_add_le c (x * pval p x)
      rw [Int.natAbs_mul] at this
      exact this
    have e2 : x.natAbs * (pval p x).natAbs ≤ X * (l1 p * X ^ p.length) := Nat.mul_le_mul hx ih
    have e3 : X * (l1 p * X ^ p.length) = l1 p * X ^ (p.length + 1) := by rw [Nat.pow_succ]; grind
    have e4 : c.natAbs ≤ c.natAbs * X ^ (p.length + 1) := Nat.le_mul_of_pos_right _ (Nat.pow_pos h1)
    rw [Nat.add_mul]
    omega
/-- no number but 0 is divided by all -/
theorem no_div {d : Int} (h : ∀ x : Int, x ≠ 0 → x ∣ d) : d = 0 := by
  rcases Int.lt_trichotomy d 0 with c | c | c
  · have h1 := h (d - 1) (by omega)
    have := Int.le_of_dvd (show 0 < -d by omega) (Int.dvd_neg.mpr ((Int.neg_dvd).mpr h1))
    omega
  · exact c
  · have := Int.le_of_dvd c (h (d + 1) (by omega))
    omega
theorem pval_none : ∀ {p : List Int}, (∀ x : Int, x ≠ 0 → pval p x = 0) → ∀ c ∈ p, c = 0
  | [], _, _, h => by simp at h
  | a :: p, h, c, hc => by
    have ha : a = 0 := no_div fun x hx => by
      have := h x hx
      rw [pval] at this
      exact ⟨-pval p x, by grind⟩
    subst ha
    rcases List.mem_cons.mp hc with e | e
    · exact e
    · refine pval_none (p := p) (fun x hx => ?_) c e
      have := h x hx
      rw [pval, Int.zero_add] at this
      rcases Int.mul_eq_zero.mp this with z | z
      · exact absurd z hx
      · exact z
def psub : List Int → List Int → List Int
  | [], q => q.map fun c => -c
  | p, [] => p
  | a :: p, b :: q => (a - b) :: psub p q
theorem pval_neg : ∀ (q : List Int) (x : Int), pval (q.map fun c => -c) x = -pval q x
  | [], _ => rfl
  | c :: q, x => by
    simp only [List.map_cons, pval, pval_neg q x]
    grind
theorem pval_sub : ∀ (p q : List Int) (x : Int), pval (psub p q) x = pval p x - pval q x
  | [], q, x => by
    have e : psub [] q = q.map fun c => -c := by cases q <;> rfl
    rw [e, pval_neg]
    simp [pval]
  | a :: p, [], x => by simp [psub, pval]
  | a :: p, b :: q, x => by
    simp only [psub, pval, pval_sub p q x]
    grind
theorem psub_all : ∀ (p q : List Int), (∀ c ∈ psub p q, c = 0) → ∀ i, p.getD i 0 = q.getD i 0
  | [], q, h, i => by
    have e : psub [] q = q.map fun c => -c := by cases q <;> rfl
    rw [e] at h
    rw [List.getD_eq_getElem?_getD, List.getD_eq_getElem?_getD]
    cases hq : q[i]? with
    | none => rfl
    | some c =>
      have := h (-c) (List.mem_map.mpr ⟨c, List.mem_of_getElem? hq, rfl⟩)
      have : c = 0 := by omega
      subst this
      rfl
  | a :: p, [], h, i => by
    have h : ∀ c ∈ a :: p, c = 0 := h
    rw [List.getD_eq_getElem?_getD, List.getD_eq_getElem?_getD]
    cases hq : (a :: p)[i]? with
    | none => rfl
    | some c =>
      have := h c (List.mem_of_getElem? hq)
      subst this
      rfl
  | a :: p, b :: q, h, i => by
    have h0 : a - b = 0 := h (a - b) List.mem_cons_self
    have h1 := psub_all p q (fun c hc => h c (List.mem_cons_of_mem _ hc))
    cases i with
    | zero =>
      show a = b
      omega
    | succ i => exact h1 i
/-- without needless 0s at its end -/
def Canon (p : List Int) : Prop := p ≠ [] ∧ (p.length = 1 ∨ p.getD (p.length - 1) 0 ≠ 0)
theorem Canon.len {p : List Int} (h : Canon p) : 1 ≤ p.length := by
  cases p with
  | nil => exact absurd rfl h.1
  | cons a p => simp
theorem getD_out {p : List Int} {i : Nat} (h : p.length ≤ i) : p.getD i 0 = 0 := by
  rw [List.getD_eq_getElem?_getD, List.getElem?_eq_none h]
  rfl
theorem Canon.eq {p q : List Int} (hp : Canon p) (hq : Canon q) (h : ∀ x, pval p x = pval q x) : p = q := by
  have e := psub_all p q (pval_none fun x _ => by rw [pval_sub, h x]; omega)
  have lp := hp.len
  have lq := hq.len
  have el : p.length = q.length := by
    rcases Nat.lt_trichotomy p.length q.length with c | c | c
    · rcases hq.2 with z | z
      · omega
      · exact absurd ((e (q.length - 1)).symm.trans (getD_out (by omega))) z
    · exact c
    · rcases hp.2 with z | z
      · omega
      · exact absurd ((e (p.length - 1)).trans (getD_out (by omega))) z
  refine List.ext_getElem el fun i h1 h2 => ?_
  have := e i
  rw [List.getD_eq_getElem?_getD, List.getD_eq_getElem?_getD, List.getElem?_eq_getElem h1, List.getElem?_eq_getElem h2] at this
  exact this
theorem Canon.one (c : Int) : Canon [c] := ⟨by simp, .inl rfl⟩
theorem Canon.zero {p : List Int} (hp : Canon p) (h : ∀ x, pval p x = 0) : p = [0] := hp.eq (Canon.one 0) fun x => by rw [h x]; simp [pval]
/-- a sum, as a function, with bounds of its size and its degree -/
structure IsP (p : List Int) (f : Int → Int) (B d : Nat) : Prop where
  cn : Canon p
  v : ∀ x, pval p x = f x
  b : l1 p ≤ B
  l : p.length ≤ d + 1
theorem IsP.mono {p : List Int} {f : Int → Int} {B B' d d' : Nat} (h : IsP p f B d) (hb : B ≤ B') (hd : d ≤ d') : IsP p f B' d' := ⟨h.cn, h.v, Nat.le_trans h.b hb, by have := h.l; omega⟩
theorem IsP.eq {p q : List Int} {f g : Int → Int} {B B' d d' : Nat} (h : IsP p f B d) (h' : IsP q g B' d') (e : ∀ x, f x = g x) : p = q := h.cn.eq h'.cn fun x => by rw [h.v, h'.v, e]
theorem IsP.as {p : List Int} {f g : Int → Int} {B d : Nat} (h : IsP p f B d) (e : ∀ x, f x = g x) : IsP p g B d := ⟨h.cn, fun x => by rw [h.v, e], h.b, h.l⟩
/-- how a sum leans -/
def Dv (f g : Int → Int) : Prop := ∀ x h : Int, ∃ k : Int, f (x + h) = f x + h * g x + h * h * k
theorem Dv.uniq {f g g' : Int → Int} (a : Dv f g) (b : Dv f g') (x : Int) : g x = g' x := by
  have : g x - g' x = 0 := no_div fun h hh => by
    obtain ⟨k, e⟩ := a x h
    obtain ⟨k', e'⟩ := b x h
    refine ⟨k' - k, ?_⟩
    have : h * (g x - g' x - h * (k' - k)) = 0 := by grind
    rcases Int.mul_eq_zero.mp this with z | z
    · exact absurd z hh
    · omega
  omega
theorem Dv.add {f g f' g' : Int → Int} (a : Dv f f') (b : Dv g g') : Dv (fun x => f x + g x) (fun x => f' x + g' x) := fun x h => by
  obtain ⟨k, e⟩ := a x h
  obtain ⟨k', e'⟩ := b x h
  exact ⟨k + k', by simp only [e, e']; grind⟩
theorem Dv.mul {f g f' g' : Int → Int} (a : Dv f f') (b : Dv g g') : Dv (fun x => f x * g x) (fun x => f' x * g x + f x * g' x) := fun x h => by
  obtain ⟨k, e⟩ := a x h
  obtain ⟨k', e'⟩ := b x h
  exact ⟨f' x * g' x + f x * k' + k * g x + h * (f' x * k' + k * g' x) + h * h * k * k', by simp only [e, e']; grind⟩
theorem Dv.comp {f g f' g' : Int → Int} (a : Dv f f') (b : Dv g g') : Dv (fun x => f (g x)) (fun x => f' (g x) * g' x) := fun x h => by
  obtain ⟨k', e'⟩ := b x h
  obtain ⟨k, e⟩ := a (g x) (h * g' x + h * h * k')
  refine ⟨k' * f' (g x) + (g' x + h * k') * (g' x + h * k') * k, ?_⟩
  show f (g (x + h)) = _
  rw [e', show g x + h * g' x + h * h * k' = g x + (h * g' x + h * h * k') by omega, e]
  grind
theorem Dv.const (c : Int) : Dv (fun _ => c) (fun _ => 0) := fun x h => ⟨0, by grind⟩
theorem Dv.pow : ∀ (c : Int) (n : Nat), Dv (fun x => c * x ^ (n + 1)) (fun x => ((n + 1 : Nat) : Int) * c * x ^ n)
  | c, 0 => fun x h => ⟨0, by grind⟩
  | c, n + 1 => fun x h => by
    obtain ⟨k, e⟩ := Dv.pow c n x h
    have e : c * (x + h) ^ (n + 1) = c * x ^ (n + 1) + h * (((n + 1 : Nat) : Int) * c * x ^ n) + h * h * k := e
    refine ⟨((n + 1 : Nat) : Int) * c * x ^ n + (x + h) * k, ?_⟩
    show c * (x + h) ^ (n + 1 + 1) = c * x ^ (n + 1 + 1) + h * (((n + 1 + 1 : Nat) : Int) * c * x ^ (n + 1)) + h * h * (((n + 1 : Nat) : Int) * c * x ^ n + (x + h) * k)
    rw [Int.pow_succ (x + h), ← Int.mul_assoc, e, Int.pow_succ x (n + 1)]
    have e2 : x ^ (n + 1) = x ^ n * x := Int.pow_succ ..
    rw [e2]
    have e3 : ((n + 1 + 1 : Nat) : Int) = ((n + 1 : Nat) : Int) + 1 := rfl
    rw [e3]
    grind
theorem Dv.as {f f' g g' : Int → Int} (a : Dv f g) (e : ∀ x, f x = f' x) (e' : ∀ x, g x = g' x) : Dv f' g' := fun x h => by
  obtain ⟨k, z⟩ := a x h
  exact ⟨k, by rw [← e, ← e, ← e', z]⟩
/-- the slope's coefficients -/
def psl (p : List Int) (n : Nat) : List Int := (List.range n).map fun i : Nat => ((i + 1 : Nat) : Int) * p.getD (i + 1) 0
theorem psl_len (p : List Int) (n : Nat) : (psl p n).length = n := by simp [psl]
theorem psl_succ (p : List Int) (n : Nat) : psl p (n + 1) = psl p n ++ [((n + 1 : Nat) : Int) * p.getD (n + 1) 0] := by
  unfold psl
  rw [List.range_succ, List.map_append]
  rfl
theorem psl_dv (p : List Int) : ∀ n, n + 1 ≤ p.length → Dv (pval (p.take (n + 1))) (pval (psl p n))
  | 0, h => by
    obtain ⟨c, hc⟩ : ∃ c, p[0]? = some c := ⟨_, List.getElem?_eq_getElem (by omega)⟩
    refine (Dv.const c).as (fun x => ?_) (fun x => rfl)
    rw [take_nx hc]
    simp [pval]
  | n + 1, h => by
    obtain ⟨c, hc⟩ : ∃ c, p[n + 1]? = some c := ⟨_, List.getElem?_eq_getElem (by omega)⟩
    have ih := psl_dv p n (by omega)
    refine (ih.add (Dv.pow c n)).as (fun x => (pval_take hc).symm) (fun x => ?_)
    rw [psl_succ, pval_append, psl_len, List.getD_eq_getElem?_getD, hc]
    simp only [pval, Option.getD_some]
    grind
theorem psl_l1 (p : List Int) : ∀ n, n + 1 ≤ p.length → l1 (psl p n) ≤ n * l1 (p.take (n + 1))
  | 0, h => by simp [psl, l1]
  | n + 1, h => by
    obtain ⟨c, hc⟩ : ∃ c, p[n + 1]? = some c := ⟨_, List.getElem?_eq_getElem (by omega)⟩
    have ih := psl_l1 p n (by omega)
    rw [psl_succ, l1_append, l1_take hc, List.getD_eq_getElem?_getD, hc]
    simp only [l1, Option.getD_some]
    rw [Int.natAbs_mul, Int.natAbs_natCast, Nat.mul_add]
    have : n * l1 (p.take (n + 1)) ≤ (n + 1) * l1 (p.take (n + 1)) := Nat.mul_le_mul_right _ (by omega)
    omega
theorem IsP.slope {p : List Int} {f : Int → Int} {B d : Nat} (h : IsP p f B d) (hl : 2 ≤ p.length) : ∃ f', Dv f f' ∧ IsP (psl p (p.length - 1)) f' (d * B) (d - 1) := by
  have hd := h.l
  have hv := psl_dv p (p.length - 1) (by omega)
  have hb := psl_l1 p (p.length - 1) (by omega)
  rw [show p.length - 1 + 1 = p.length by omega, List.take_length] at hv hb
  refine ⟨_, hv.as h.v (fun _ => rfl), ⟨⟨fun e => ?_, .inr ?_⟩, fun _ => rfl, ?_, ?_⟩⟩
  · have := psl_len p (p.length - 1)
    rw [e] at this
    simp at this
    omega
  · rw [psl_len]
    have e : p.length - 1 = (p.length - 1 - 1) + 1 := by omega
    rw [List.getD_eq_getElem?_getD]
    unfold psl
    rw [List.getElem?_map, List.getElem?_range (by omega)]
    show ((p.length - 1 - 1 + 1 : Nat) : Int) * p.getD (p.length - 1 - 1 + 1) 0 ≠ 0
    rw [← e]
    rcases h.cn.2 with z | z
    · omega
    · exact Int.mul_ne_zero (by omega) z
  · refine Nat.le_trans hb (Nat.mul_le_mul (by omega) h.b)
  · rw [psl_len]; omega
end Vf

namespace Vf
open PySem PySem.Spec PyProof.Rows L2
/-! ## t[::-1], t a tuple -/
section
variable {prog : Program} {w : World} {A : Around} {E : Value → Shared → Prop} {s : Shared}
theorem adj_rev (n : Nat) : Builtin.Slice.sliceAdjust none none (-1) (n : Int) = ((n : Int) - 1, -1) := rfl
theorem plc_rev (n : Nat) : Builtin.Slice.slicePlaces ((n : Int) - 1) (-1) (-1) = n := by
  show (if (-1 : Int) > 0 then _ else (if (n : Int) - 1 > -1 then ((n : Int) - 1 - (-1) - 1) / (-(-1)) + 1 else 0)).toNat = n
  rw [if_neg (by decide)]
  split
  · rw [show (-(-1) : Int) = 1 from rfl, Int.ediv_one]
    omega
  · show (0 : Int).toNat = n
    have : n = 0 := by omega
    rw [this]
    rfl
theorem fm_some {α β : Type} {f : α → Option β} {g : α → β} : ∀ (l : List α), (∀ a ∈ l, f a = some (g a)) → l.filterMap f = l.map g
  | [], _ => rfl
  | a :: l, h => by
    rw [List.filterMap_cons, h a List.mem_cons_self, List.map_cons, fm_some l fun b hb => h b (List.mem_cons_of_mem _ hb)]
theorem pick_rev (xs : List Value) : ((List.range xs.length).filterMap fun m : Nat => xs.toArray[(((xs.length : Nat) : Int) - 1 + (m : Int) * -1).toNat]?) = xs.reverse := by
  have e1 : ∀ m ∈ List.range xs.length, xs.toArray[(((xs.length : Nat) : Int) - 1 + (m : Int) * -1).toNat]? = some (xs.reverse.getD m .none) := fun m hm => by
    have lt := List.mem_range.mp hm
    rw [show (((xs.length : Nat) : Int) - 1 + (m : Int) * -1).toNat = xs.length - 1 - m by omega, List.getElem?_toArray, List.getD_eq_getElem?_getD, List.getElem?_reverse lt, List.getElem?_eq_getElem (by omega)]
    rfl
  have e2 : ((List.range xs.length).filterMap fun m : Nat => xs.toArray[(((xs.length : Nat) : Int) - 1 + (m : Int) * -1).toNat]?) = (List.range xs.length).map fun m => xs.reverse.getD m .none := by
    exact fm_some _ e1
  rw [e2]
  refine List.ext_getElem (by simp) fun i h1 h2 => ?_
  rw [List.getElem_map, List.getElem_range, List.getD_eq_getElem?_getD, List.getElem?_eq_getElem h2]
  rfl
theorem applied_rev {sl : Addr} {t : Tok} {n : Nat} {Q : Int × Int × Nat → Shared → Prop} (hs : s.heap.IsSliceOf sl .none .none (.int (-1) t))
    (h : Q ((n : Int) - 1, -1, n) s) : wpAny (model prog w) A (Builtin.Slice.sliceApplied (.ref sl) (pure (n : Int))) Q E s := by
  obtain ⟨o, ho, hc, hd⟩ := id hs
  unfold Builtin.Slice.sliceApplied Builtin.Slice.sliceFields
  refine wpAny_bind (wpAny_bind (wpAny_field ho hd (x := .none) rfl
    (wpAny_bind (wpAny_field ho hd (x := .none) rfl (wpAny_bind (wpAny_field ho hd (x := .int (-1) t) rfl (wpAny_pure ?_)))))))
  refine wpAny_bind (slicePart_int ?_)
  show wpAny _ _ (if ((-1 : Int) == 0) = true then _ else _) _ _ s
  rw [if_neg (by decide)]
  refine wpAny_bind (slicePart_none (wpAny_bind (slicePart_none (wpAny_bind (wpAny_pure ?_)))))
  show wpAny _ _ (match Builtin.Slice.sliceAdjust none none (-1) (n : Int) with | (lo, hi) => pure (lo, (-1 : Int), Builtin.Slice.slicePlaces lo hi (-1))) _ _ s
  rw [adj_rev]
  show wpAny _ _ (pure ((n : Int) - 1, (-1 : Int), Builtin.Slice.slicePlaces ((n : Int) - 1) (-1) (-1))) _ _ s
  rw [plc_rev]
  exact wpAny_pure h
theorem item_rev {t sl : Addr} {its : List Value} {tk : Tok} {Q : Value → Shared → Prop} (ht : IsTup s.heap t its.toArray) (hs : s.heap.IsSliceOf sl .none .none (.int (-1) tk))
    (h : Q (.ref s.heap.objs.size) { s with heap := s.heap.push { cls := .type "tuple", data := .seq its.reverse.toArray } })
    (hz : its.length ≤ sizeLine) : wpAny (model prog w) A (getItem (.ref t) (.ref sl)) Q E s := by
  have ok : sizeOk (.seq its.reverse.toArray) := by
    show its.reverse.toArray.size ≤ sizeLine
    rw [List.size_toArray, List.length_reverse]
    exact hz
  obtain ⟨os, hos, hcs, hds⟩ := id hs
  have ty : s.TypeIs (.ref sl) "slice" := ⟨os, hos, hcs⟩
  unfold getItem
  try with_reducible refine wpAny_holding ?_
  first | refine wpAny_bind (wpAny_pure ?_) | skip
  refine wpAny_bind (wpAny_sequenceKey ht.typeIs (by decide) ?_)
  refine wpAny_bind (wpAny_callSpecial?_slot (name := Str.ofString "__getitem__") ht.typeIs
    PyProof.Rows.slot_tuple_getitem (wpAny_call_entry PyProof.Rows.slot_tuple_getitem
      ht.typeIs entry_tuple_getitem ?_ (args_tuple_getitem _ _)))
  show wpAny _ _ (Builtin.Tuple.tupleItemsOf (.ref t) >>= _) _ _ s
  refine wpAny_bind (tupleItemsOf_ ht ?_)
  refine wpAny_bind (wpAny_typeOf ty ?_)
  rw [if_pos (by decide)]
  rw [List.size_toArray]
  refine wpAny_bind (applied_rev hs ?_)
  have no : ¬ (((((its.length : Nat) : Int) - 1 == 0) && ((-1 : Int) == 1) && (its.length == its.length)) = true) := by
    rw [Bool.and_eq_true, Bool.and_eq_true]
    exact fun q => absurd q.1.2 (by decide)
  show wpAny _ _ (if ((((its.length : Nat) : Int) - 1 == 0) && ((-1 : Int) == 1) && (its.length == its.length)) = true then _ else _) _ _ s
  rw [if_neg no, pick_rev]
  first
    | exact wpAny_bind (m := Builtin.Tuple.tupleExact _) (wpAny_newObj_type (wpAny_pure ⟨_, rfl, wpAny_pure h⟩) ok)
    | exact wpAny_bind (m := Builtin.Tuple.tupleExact _) (wpAny_newObj_type (wpAny_bind (wpAny_pure (wpAny_pure ⟨_, rfl, wpAny_pure h⟩))) ok)
    | exact wpAny_bind (wpAny_bind (m := Builtin.Tuple.tupleExact _) (wpAny_newObj_type (wpAny_pure (wpAny_pure ⟨_, rfl, wpAny_pure h⟩)) ok))
    | exact wpAny_bind (wpAny_bind (m := Builtin.Tuple.tupleExact _) (wpAny_newObj_type (wpAny_pure ⟨_, rfl, wpAny_pure h⟩) ok))
end
def tRevT (K : PySem.W.Frag) (te : TE) : TE := fun σ H Q => te σ H fun x H1 => ∃ a xs, x = .ref a ∧ SqT K H1 a xs ∧ ∀ p, H1 p = none → Q (.ref p) (upd H1 p (.tup xs.reverse))
theorem pe_revT {X : Cx} {K : PySem.W.Frag} {e : Expr} {te : TE} {k : Nat} {p1 p2 p3 pos : Pos} (ek : X.K = K) (he : PE X e te) :
    PE X (.Subscript e (.Slice none none (some (.UnaryOp .USub (.Constant (.int 1) k p1) p2)) p3) pos) (tRevT K te) := by
  subst ek
  refine ⟨fun pins s σ H Q I h => ?_⟩
  refine Subscript_ (thn (he.run pins s σ H _ I h) fun v s1 ⟨x, H1, I1, r1, q1⟩ => ?_)
  obtain ⟨a, xs, rfl, hx, q⟩ := q1
  cases r1
  have st : PO X (some (.UnaryOp .USub (.Constant (.int 1) k p1) p2))
      (tPart (tUn (rU fun i => .int (-i)) (tC (.int 1)))) := po_some (pe_un un_neg pe_int)
  refine wpAny_Slice (thn (po_none.run pins s1 σ H1
    (fun o H2 => o = none ∧ H2 = H1) I1 ⟨rfl, rfl⟩) fun vl s2 ⟨l, H2, I2, pl, el, e2⟩ => ?_)
  subst el e2
  refine thn (po_none.run pins s2 σ H2
    (fun o H3 => o = none ∧ H3 = H2) I2 ⟨rfl, rfl⟩) fun vu s3 ⟨u, H3, I3, pu, eu, e3⟩ => ?_
  subst eu e3
  refine thn (st.run pins s3 σ H3
    (fun o H4 => o = some (-1) ∧ H4 = H3) I3 ⟨1, rfl, -1, rfl, rfl, rfl⟩) fun vs s4 ⟨o, H4, I4, ps, eo, e4⟩ => ?_
  subst eo e4
  cases pl
  cases pu
  cases ps with
  | int _ tk =>
  have I5 : Inv X pins σ H4 { s4 with heap := s4.heap.push { cls := .type "slice", data := .fields #[.none, .none, .int (-1) tk] } } :=
    I4.kept (t' := s4.toks) fun b ob q => Heap.get?_push_of_some _ q
  obtain ⟨its, r, ht, hz⟩ := I5.tuple hx
  have hl := r.length
  show wpAny (model X.prog X.w) X.A (subscriptTail e _ (.ref a) (.ref s4.heap.objs.size)) (EP X pins σ Q) X.xe _
  refine tail_any (ops := [.ref a, .ref s4.heap.objs.size]) ht.typeIs PyProof.Rows.slot_tuple_getitem.lookup ?_ (by with_unfolding_all rfl)
  refine item_rev ht (Heap.IsSliceOf.new _ _ _ _) ?_ (by rw [← hl]; exact hz)
  refine ⟨.ref _, _, I5.laid (t' := s4.toks) (o := .tup xs.reverse)
    (fun b ob q => Heap.get?_push_of_some _ q) (Nat.le_refl _) ?_, rfl, q _ (I5.hok.fresh (Nat.le_refl _))⟩
  exact ⟨by rw [List.length_reverse]; exact hz, its.reverse, r.reverse, IsTup.new _ _⟩
theorem r_revT {K : PySem.W.Frag} {te : TE} {σ : L2.St} {H : Hp} {Q : VK} (h : te σ H fun x H1 => ∃ a xs, x = .ref a ∧ SqT K H1 a xs ∧ ∀ p, H1 p = none → Q (.ref p) (upd H1 p (.tup xs.reverse))) : tRevT K te σ H Q := h
/-! ## reversed(t) -/
theorem i_rev {X : Cx} {K : PySem.W.Frag} {tg e : Expr} {te : TE} {p pos : Pos} (ek : X.K = K) (hg : Gl X "reversed") (hm : X.mg "reversed" = none) (he : PE X e te)
    (hs : starEach [e] X.env = (false, eval e X.env) :: starEach [] X.env := by rfl) : PI X tg (.Call (.Name "reversed" p) [e] [] pos) (RT.iRevA K te) := by
  subst ek
  exact RT.pi_revA hg hm he hs
theorem r_forRv {K : PySem.W.Frag} {g : TG} {tb : TS} {D : Ends} {σ : L2.St} {H : Hp} {te : TE} (h : te σ H fun v H1 => ∃ (a : Addr) (xs : List V), v = .ref a ∧ SqT K H1 a xs ∧ tFor (fun _ H2 R => R (RT.ItvT K a xs.length) H2) g tb D σ H1)
    (mono : ∀ (R R' : VK), (∀ v H1, R v H1 → R' v H1) → te σ H R → te σ H R') : tFor (RT.iRevA K te) g tb D σ H :=
  mono _ _ (fun v H1 ⟨a, xs, e, sv, r⟩ => ⟨a, xs, e, .inr ⟨sv, r⟩⟩) h
theorem mono_var {i : Nat} {σ : L2.St} {H : Hp} (R R' : VK) (h : ∀ v H1, R v H1 → R' v H1) (q : tVar i σ H R) : tVar i σ H R' := by
  obtain ⟨v, e, r⟩ := q
  exact ⟨v, e, h _ _ r⟩
theorem r_forRvV {K : PySem.W.Frag} {g : TG} {tb : TS} {D : Ends} {σ : L2.St} {H : Hp} {i : Nat} {a : Addr} (xs : List V) (e : σ[i]? = some (some (.ref a))) (sv : SqT K H a xs) (Pv : Nat → L2.St → Hp → Prop) (h0 : Pv 0 σ H)
    (hl : ∀ i σ H, Pv i σ H → SqT K H a xs)
    (hs : ∀ (i : Nat) (x : V) (σ : L2.St) (H : Hp), i < xs.length → xs[xs.length - 1 - i]? = some x → Pv i σ H → g x σ H fun σ2 H2 => tb { D with nx := Pv (i + 1), ct := Pv (i + 1), bk := D.nx } σ2 H2)
    (hd : ∀ σ H, Pv xs.length σ H → D.nx σ H) : tFor (RT.iRevA K (tVar i)) g tb D σ H :=
  r_forRv ⟨.ref a, e, a, xs, rfl, sv, RT.for_ItvT Pv h0 hl hs hd⟩ mono_var
/-! ## xs[i] += e -/
def rGetL (K : PySem.W.Frag) : V → V → Hp → VK → Prop := fun o i H Q => ∃ (p : Addr) (xs : List V) (k : Nat) (z : V), o = .ref p ∧ i = .int (k : Int) ∧ SqL K H p xs ∧ xs[k]? = some z ∧ Q z H
theorem get_list {X : Cx} {K : PySem.W.Frag} (ek : X.K = K) : PGet X (rGetL K) := by
  subst ek
  intro pins s σ H o i ov iv Q I ro ri h
  obtain ⟨p, xs, k, z, rfl, rfl, hq, he, q⟩ := h
  cases ro
  obtain ⟨t, rfl⟩ := ri
  obtain ⟨its, r, pl, hz⟩ := I.list hq
  obtain ⟨w, ew, rw'⟩ := r.get he
  have hn := line63
  have hk := (List.getElem?_eq_some_iff.mp he).1
  have hl := r.length
  refine PySem.wpAny_getItem_list pl.isList (by omega) (by omega) ?_ ⟨z, H, I, rw', q⟩
  rw [Int.toNat_natCast]
  simpa using ew
theorem r_getL {K : PySem.W.Frag} {H : Hp} {Q : VK} {p : Addr} {k : Nat} {z : V} (xs : List V) (h1 : SqL K H p xs) (h2 : xs[k]? = some z) (h : Q z H) : rGetL K (.ref p) (.int (k : Int)) H Q := ⟨p, xs, k, z, rfl, rfl, h1, h2, h⟩
theorem r_augS {to ti te : TE} {tget : V → V → Hp → VK → Prop} {tip : TIp} {tset : TSet} {D : Ends} {σ : L2.St} {H : Hp}
    (h : to σ H fun o H1 => ti σ H1 fun i H2 => tget o i H2 fun x H3 => te σ H3 fun y H4 => tip x y H4 fun z H5 => tset o i z H5 fun H6 => D.nx σ H6) : tAugS to ti te tget tip tset D σ H := h
/-! ## xs.pop() -/
theorem r_popL {H : Hp} {Q : VK} {l : Addr} (xs : List V) (y : V) (h1 : H l = some (.lst (xs ++ [y]))) (h : Q y (upd H l (.lst xs))) : rPop (.ref l) [] H Q :=
  ⟨l, _, y, rfl, rfl, h1, by simp, by rw [List.dropLast_concat]; exact h⟩
end Vf

namespace Vf
open PySem PySem.Spec PyProof.Rows L2
/-! ## the law's cask -/
def Cask (n : Nat) (k : Addr) (H : Hp) : Prop := ∃ a b c : Int, H k = some (.lst [.int b, .int c, .int a]) ∧ KegOk a b c (17 + 11 * n)
theorem Cask.mono {n m : Nat} {k : Addr} {H : Hp} (h : Cask n k H) (l : n ≤ m) : Cask m k H := by
  obtain ⟨a, b, c, e, o⟩ := h
  exact ⟨a, b, c, e, o.a0, o.ab, o.b0, o.bM, o.c0, by have := o.cn; omega⟩
theorem Cask.same {n : Nat} {k : Addr} {H H' : Hp} (h : Cask n k H) (s : Same H H') : Cask n k H' := by
  obtain ⟨a, b, c, e, o⟩ := h
  exact ⟨a, b, c, s _ _ e, o⟩
theorem Cask.new {n : Nat} {k p : Addr} {H : Hp} {o : HO} (h : Cask n k H) (hp : H p = none) : Cask n k (upd H p o) := h.same (Same.new hp)
theorem Cask.ne {n : Nat} {k p : Addr} {H : Hp} (h : Cask n k H) (hp : H p = none) : p ≠ k := by
  obtain ⟨a, b, c, e, o⟩ := h
  exact (ne_of_none e hp).symm
theorem Cask.tt {n : Nat} {k : Addr} {H H' : Hp} (h : Cask n k H) (e : Kx k H H') : Tt H H' := by
  obtain ⟨a, b, c, z, o⟩ := h
  exact e.tt z
theorem Cask.kx {n m : Nat} {k j : Addr} {H H' : Hp} (h : Cask n k H) (e : Kx j H H') (ne : k ≠ j) : Cask n k H' := by
  obtain ⟨a, b, c, z, o⟩ := h
  exact ⟨a, b, c, e _ _ ne z, o⟩
def sp_ctap : Sp := fun vs H Q _ => ∃ (k : Addr) (u : Int) (n : Nat), vs = [.ref k, .int u] ∧ Cask n k H ∧ n ≤ 2 ^ 60 ∧ 0 < u ∧ u < 2 ^ 62 ∧
  ∀ f H', 0 ≤ f → f < u → Kx k H H' → Cask (n + 1) k H' → Q (.int f) H'
theorem i_ctap {k : Addr} {u : Int} {H : Hp} {Q : VK} {E : XK} (n : Nat) (hk : Cask n k H) (hn : n ≤ 2 ^ 60) (h0 : 0 < u) (h1 : u < 2 ^ 62)
    (q : ∀ f H', 0 ≤ f → f < u → Kx k H H' → Cask (n + 1) k H' → Q (.int f) H') : sp_ctap [.ref k, .int u] H Q E := ⟨k, u, n, rfl, hk, hn, h0, h1, q⟩
def sp_cof (K : PySem.W.Frag) : Sp := fun vs H Q _ => ∃ (k t : Addr) (xs : List V) (n : Nat), vs = [.ref k, .ref t] ∧ Cask n k H ∧ n ≤ 2 ^ 60 ∧ t ≠ k ∧ SqL K H t xs ∧ 0 < xs.length ∧ xs.length ≤ 100000 ∧
  ∀ (i : Nat) (x : V) H', xs[i]? = some x → Kx k H H' → Cask (n + 1) k H' → Q x H'
theorem i_cof {K : PySem.W.Frag} {k t : Addr} {H : Hp} {Q : VK} {E : XK} (n : Nat) (xs : List V) (hk : Cask n k H) (hn : n ≤ 2 ^ 60) (ht : t ≠ k) (hs : SqL K H t xs) (h0 : 0 < xs.length) (h1 : xs.length ≤ 100000)
    (q : ∀ (i : Nat) x H', xs[i]? = some x → Kx k H H' → Cask (n + 1) k H' → Q x H') : sp_cof K [.ref k, .ref t] H Q E := ⟨k, t, xs, n, rfl, hk, hn, ht, hs, h0, h1, q⟩
def sp_cask (K : PySem.W.Frag) : Sp := fun vs H Q _ => ∃ (c : Addr) (ns : List Int) (j : Nat), vs = [.ref c, .int (j : Int)] ∧ SqL K H c (ns.map V.int) ∧ Script ns ∧ j ≤ 1000 ∧
  ∀ p H', Same H H' → H p = none → Cask 0 p H' → Q (.ref p) H'
theorem i_cask {K : PySem.W.Frag} {c : Addr} {H : Hp} {Q : VK} {E : XK} (ns : List Int) (j : Nat) (hs : SqL K H c (ns.map V.int)) (hn : Script ns) (hj : j ≤ 1000)
    (q : ∀ p H', Same H H' → H p = none → Cask 0 p H' → Q (.ref p) H') : sp_cask K [.ref c, .int (j : Int)] H Q E := ⟨c, ns, j, rfl, hs, hn, hj, q⟩
theorem Cask.none {n : Nat} {k q : Addr} {H H' : Hp} (h : Cask n k H') (e : Kx k H H') (hq : H' q = Option.none) : H q = Option.none := by
  obtain ⟨a, b, c, z, o⟩ := h
  exact none_kx e z hq
theorem r_bm0 {K : PySem.W.Frag} {T : String} {r : V → List V → Hp → VK → Prop} {to : TE} {σ : L2.St} {H : Hp} {Q : VK} (h : to σ H fun x H1 => tyV K T x H1 ∧ r x [] H1 Q) : tBM0 K T r to σ H Q := h
end Vf

namespace Vf
/-! ## sums by their steps -/
def nval : List Int → Int → Int → Int
  | [], _, _ => 0
  | s :: t, j, x => s + (x - j) * nval t (j + 1) x
def lb : List Int → Nat → Nat
  | [], _ => 0
  | s :: t, j => s.natAbs + (1 + j) * lb t (j + 1)
theorem lb_le (S : Nat) : ∀ (s : List Int) (j : Nat), (∀ c ∈ s, c.natAbs ≤ S) → j + s.length ≤ 19 → lb s j ≤ S * 20 ^ s.length
  | [], _, _, _ => Nat.zero_le _
  | c :: t, j, h, hl => by
    rw [List.length_cons] at hl
    have h1 := h c List.mem_cons_self
    have h2 := lb_le S t (j + 1) (fun d hd => h d (List.mem_cons_of_mem _ hd)) (by omega)
    have h3 : (1 + j) * lb t (j + 1) ≤ 19 * (S * 20 ^ t.length) := Nat.mul_le_mul (by omega) h2
    have h4 : S ≤ S * 20 ^ t.length := Nat.le_mul_of_pos_right _ (Nat.pow_pos (by decide))
    rw [lb, List.length_cons, Nat.pow_succ, ← Nat.mul_assoc]
    omega
theorem nval_zeros (n : Nat) : ∀ (s : List Int) (j x : Int), nval (s ++ List.replicate n 0) j x = nval s j x
  | [], j, x => by
    rw [List.nil_append]
    induction n generalizing j with
    | zero => rfl
    | succ n ih =>
      show 0 + (x - j) * nval (List.replicate n 0) (j + 1) x = 0
      rw [ih]
      simp [nval]
  | c :: s, j, x => by
    rw [List.cons_append, nval, nval, nval_zeros n s (j + 1) x]
theorem far_div {d : Int} (N : Int) (h : ∀ y : Int, N < y → 0 < y → y ∣ d) : d = 0 := by
  have h1 := h (max N 0 + d.natAbs + 1) (by omega) (by omega)
  rcases Int.lt_trichotomy d 0 with c | c | c
  · have := Int.le_of_dvd (show 0 < -d by omega) (Int.dvd_neg.mpr h1)
    omega
  · exact c
  · have := Int.le_of_dvd c h1
    omega
theorem nval_none : ∀ {s : List Int} {j : Int} (N : Int), (∀ x : Int, N < x → nval s j x = 0) → ∀ c ∈ s, c = 0
  | [], _, _, _, _, h => by simp at h
  | a :: s, j, N, h, c, hc => by
    have ha : a = 0 := far_div (N - j) fun y h1 h2 => by
      have := h (y + j) (by omega)
      rw [nval, show y + j - j = y by omega] at this
      exact ⟨-nval s (j + 1) (y + j), by rw [Int.mul_neg]; omega⟩
    subst ha
    rcases List.mem_cons.mp hc with e | e
    · exact e
    · refine nval_none (s := s) (j := j + 1) (max N j) (fun x hx => ?_) c e
      have := h x (by omega)
      rw [nval, Int.zero_add] at this
      rcases Int.mul_eq_zero.mp this with z | z
      · omega
      · exact z
def nsub : List Int → List Int → List Int
  | a :: p, b :: q => (a - b) :: nsub p q
  | _, _ => []
theorem nval_sub : ∀ (p q : List Int) (j x : Int), p.length = q.length → nval (nsub p q) j x = nval p j x - nval q j x
  | [], [], j, x, _ => by simp [nsub, nval]
  | [], b :: q, j, x, h => by simp at h
  | a :: p, [], j, x, h => by simp at h
  | a :: p, b :: q, j, x, h => by
    have h1 := nval_sub p q (j + 1) x (by simpa using h)
    simp only [nsub, nval, h1]
    grind
theorem nsub_all : ∀ (p q : List Int), p.length = q.length → (∀ c ∈ nsub p q, c = 0) → p = q
  | [], [], _, _ => rfl
  | [], b :: q, h, _ => by simp at h
  | a :: p, [], h, _ => by simp at h
  | a :: p, b :: q, h, hz => by
    have h1 := nsub_all p q (by simpa using h) (fun c hc => hz c (List.mem_cons_of_mem _ hc))
    have h2 := hz (a - b) List.mem_cons_self
    rw [h1, show a = b by omega]
theorem nval_inj {p q : List Int} (hl : p.length = q.length) (h : ∀ x, nval p 0 x = nval q 0 x) : p = q :=
  nsub_all p q hl (nval_none (j := 0) 0 fun x _ => by rw [nval_sub p q 0 x hl, h x]; omega)
/-- the first r of a list as steps, the rest as coefficients -/
def mval : Nat → List Int → Int → Int → Int
  | 0, l, _, x => pval l x
  | _ + 1, [], _, _ => 0
  | r + 1, s :: t, j, x => s + (x - j) * mval r t (j + 1) x
theorem mval_all : ∀ (r : Nat) (l : List Int) (j x : Int), l.length ≤ r → mval r l j x = nval l j x
  | 0, l, j, x, h => by
    have : l = [] := List.eq_nil_of_length_eq_zero (by omega)
    subst this
    rfl
  | r + 1, [], j, x, h => rfl
  | r + 1, s :: t, j, x, h => by
    rw [mval, nval, mval_all r t (j + 1) x (by simpa using h)]
/-- one stage: the rest divided by x less the next number -/
theorem mval_stage : ∀ (r : Nat) (l l' : List Int) (j : Int) (x : Int), l'.length = l.length → r < l.length → l'.take r = l.take r →
    pval (l.drop r) x = l'.getD r 0 + (x - (j + r)) * pval (l'.drop (r + 1)) x → mval r l j x = mval (r + 1) l' j x
  | 0, l, l', j, x, hl, hr, ht, h => by
    match l', hl, h with
    | [], hl, _ => simp at hl; omega
    | s :: t, _, h =>
      rw [mval, mval, mval]
      rw [List.drop_zero] at h
      rw [h]
      simp
  | r + 1, l, l', j, x, hl, hr, ht, h => by
    match l, l', hl, hr, ht, h with
    | [], _, _, hr, _, _ => simp at hr
    | a :: l, [], hl, _, _, _ => simp at hl
    | a :: l, b :: l', hl, hr, ht, h =>
      rw [List.take_succ_cons, List.take_succ_cons] at ht
      obtain ⟨e1, e2⟩ := List.cons.inj ht
      have ih := mval_stage r l l' (j + 1) x (by simpa using hl) (by simpa using hr) e2 (by
        have h2 : pval (l.drop r) x = l'.getD r 0 + (x - (j + ((r + 1 : Nat) : Int))) * pval (l'.drop (r + 1)) x := h
        rw [show (j + 1 + (r : Int)) = j + ((r + 1 : Nat) : Int) by omega]
        exact h2)
      rw [mval, ih, ← e1]
      rfl
theorem mval_one (l : List Int) (x : Int) (h : l ≠ []) : mval 1 l 0 x = pval l x := by
  match l, h with
  | s :: t, _ => rw [mval, mval, pval, Int.sub_zero]
/-- how great steps of seven coefficients can be -/
def row : Nat → List Nat
  | 0 => [1, 1, 1, 1, 1, 1, 1]
  | 1 => [1, 6, 5, 4, 3, 2, 1]
  | 2 => [1, 6, 57, 26, 11, 4, 1]
  | 3 => [1, 6, 57, 122, 32, 7, 1]
  | 4 => [1, 6, 57, 122, 76, 11, 1]
  | 5 => [1, 6, 57, 122, 76, 16, 1]
  | _ => [1, 6, 57, 122, 76, 16, 1]
theorem row_ok : ∀ n < 6, ∀ i < 7, (row (n + 1)).getD i 0 = if i < n + 1 then (row n).getD i 0 else (row n).getD i 0 + (n + 1) * (row (n + 1)).getD (i + 1) 0 := by decide
theorem row_top : ∀ n < 7, ∀ i < 7, (row n).getD i 0 ≤ 122 := by decide
theorem row_up : ∀ n < 6, ∀ i < 7, (row n).getD i 0 ≤ (row (n + 1)).getD i 0 := by decide
end Vf

namespace Vf
open PySem PySem.Spec PyProof.Rows L2
/-! ## ranges downwards -/
section
variable {K : PySem.W.Frag} {g : TG} {tb : TS} {D : Ends} {σ : L2.St} {H : Hp}
theorem r_for3 {ta : TA} (h : ta σ H fun vs H1 => ∃ (i j c : Int) (n : Nat), vs = [.int i, .int j, .int c] ∧ RgC i j c n ∧ tFor (fun _ H2 R => R (Itc i c n) H2) g tb D σ H1) : tFor (iRng3 ta) g tb D σ H := h
theorem r_forC {lo c : Int} {n : Nat} (Pv : Nat → L2.St → Hp → Prop) (h0 : Pv 0 σ H)
    (hs : ∀ i σ H, i < n → Pv i σ H → g (.int (lo + (i : Nat) * c)) σ H fun σ2 H2 => tb { D with nx := Pv (i + 1), ct := Pv (i + 1), bk := D.nx } σ2 H2)
    (hd : ∀ σ H, Pv n σ H → D.nx σ H) : tFor (fun _ H2 R => R (Itc lo c n) H2) g tb D σ H := for_rangeC Pv h0 hs hd
end
end Vf

namespace Vf
open PySem PySem.Spec PyProof.Rows L2
/-! ## zip of a tuple and a list -/
def ItTL (K : PySem.W.Frag) (a b : Addr) : It :=
  ⟨fun i H => ∃ (xs ys : List V), (SqT K H a xs ∧ SqL K H b ys) ∧ i < xs.length ∧ i < ys.length,
   fun i H v H' => ∃ T x y, v = .ref T ∧ H T = none ∧ H' = upd H T (.tup [x, y]) ∧ (∀ xs, SqT K H a xs → xs[i]? = some x) ∧ ∀ ys, SqL K H b ys → ys[i]? = some y,
   fun i H => ∃ (xs ys : List V), (SqT K H a xs ∧ SqL K H b ys) ∧ (i ≤ xs.length ∧ i ≤ ys.length) ∧ (i = xs.length ∨ i = ys.length)⟩
structure Five (u TI TO i1 i2 a b : Addr) : Prop where
  ap : u ≠ TI ∧ u ≠ TO ∧ u ≠ i1 ∧ u ≠ i2 ∧ TI ≠ TO ∧ TI ≠ i1 ∧ TI ≠ i2 ∧ TO ≠ i1 ∧ TO ≠ i2 ∧ i1 ≠ i2
  a0 : a ≠ u ∧ a ≠ TI ∧ a ≠ TO ∧ a ≠ i1 ∧ a ≠ i2
  b0 : b ≠ u ∧ b ≠ TI ∧ b ≠ TO ∧ b ≠ i1 ∧ b ≠ i2
theorem Five.sep {u TI TO i1 i2 a b : Addr} (S : Five u TI TO i1 i2 a b) : ZipSep2 u TI TO i1 i2 [i1, a] [i2, b] := by
  obtain ⟨⟨s1, s2, s3, s4, s5, s6, s7, s8, s9, s10⟩, ⟨a1, a2, a3, a4, a5⟩, ⟨b1, b2, b3, b4, b5⟩⟩ := S
  constructor <;> simp [*, Ne.symm s1, Ne.symm s2, Ne.symm s3, Ne.symm s4, Ne.symm s5, Ne.symm s8, Ne.symm s9, Ne.symm s10, Ne.symm a1, Ne.symm a3, Ne.symm a4, Ne.symm a5, Ne.symm b1, Ne.symm b3, Ne.symm b4, Ne.symm b5]
def ZTL (u TI TO i1 i2 a b : Addr) (i : Nat) (h : Heap) : Prop :=
  IsZip h u TI TO .none ∧ IsTupOf2 h TI (.ref i1) (.ref i2) ∧ (∃ x y, IsTupOf2 h TO x y) ∧ h.IsTupleIter i1 a i ∧ h.IsListIter i2 b i
theorem turn_zipTL {P : Program} {w : World} {K : PySem.W.Frag} {elts : List Expr} {kk : Nat} {tpos : Pos} {u TI TO i1 i2 a b : Addr} (S : Five u TI TO i1 i2 a b) :
    Turn P w K (.Tuple elts kk tpos) (ItTL K a b) [u, TI, TO, i1, i2] u (ZTL u TI TO i1 i2 a b) where
  mem := List.mem_cons_self
  obj := fun i h st d hd => by
    obtain ⟨zz, ti, ⟨x, y, to⟩, ⟨o1, e1, _, d1⟩, ⟨o2, e2, _, d2⟩⟩ := st
    simp only [List.mem_cons, List.not_mem_nil, or_false] at hd
    rcases hd with e | e | e | e | e
    · subst e; exact ⟨_, zz, fun v q => nomatch q⟩
    · subst e; exact ⟨_, ti, fun v q => nomatch q⟩
    · subst e; exact ⟨_, to, fun v q => nomatch q⟩
    · subst e; exact ⟨o1, e1, fun v q => by rw [d1] at q; cases q⟩
    · subst e; exact ⟨o2, e2, fun v q => by rw [d2] at q; cases q⟩
  keep := fun i h h' st k => by
    obtain ⟨zz, ti, ⟨x, y, to⟩, h1, h2⟩ := st
    exact ⟨k u (by simp) _ zz, k TI (by simp) _ ti, ⟨x, y, k TO (by simp) _ to⟩, h1.at fun o q => k i1 (by simp) o q, h2.at fun o q => k i2 (by simp) o q⟩
  item := by
    intro X hP hw hK hc i pins s σ H E I hf st hg
    subst hP hw hK
    obtain ⟨zz, ti, ⟨x0, y0, to⟩, h1, h2⟩ := st
    obtain ⟨xs, ys, ⟨qx, qy⟩, lx, ly⟩ := hg
    obtain ⟨v1, r1, t1, _⟩ := I.tuple qx
    obtain ⟨v2, r2, t2, _⟩ := I.list qy
    obtain ⟨y1, g1, w1⟩ := r1.get (List.getElem?_eq_getElem lx)
    obtain ⟨y2, g2, w2⟩ := r2.get (List.getElem?_eq_getElem ly)
    have n1 := r1.length
    have n2 := r2.length
    have hd := I.ok.hd hc
    have b0 : u < s.heap.objs.size := Heap.lt_size zz
    have bI : TI < s.heap.objs.size := Heap.lt_size ti
    have bO : TO < s.heap.objs.size := Heap.lt_size to
    have b1 : i1 < s.heap.objs.size := by
      obtain ⟨_, q, _⟩ := h1
      exact Heap.lt_size q
    have b2 : i2 < s.heap.objs.size := by
      obtain ⟨_, q, _⟩ := h2
      exact Heap.lt_size q
    refine wpAny_pyNext_zipD2_item S.sep (drawsT (A := X.A.in1) hd i1 a S.a0.2.2.2.1 v1.toArray) (Draws.list (A := X.A.in1) hd i2 b S.b0.2.2.2.2 v2.toArray)
      zz ti to ⟨h1, t1⟩ ⟨h2, t2.isList⟩ (by simp; omega) (by simp; omega) fun x1 x2 m tk p1 p2 zz' to' st1 st2 np sz kp => ?_
    obtain rfl : y1 = x1 := by
      have : v1[i]? = some x1 := by simpa using p1
      rw [g1] at this
      exact Option.some.inj this
    obtain rfl : y2 = x2 := by
      have : v2[i]? = some x2 := by simpa using p2
      rw [g2] at this
      exact Option.some.inj this
    refine ⟨_, rfl, wpAny_letOwnedTupleGo_zip (s := { s with heap := m, toks := tk }) zz' fun m2 zz2 sb => ?_⟩
    have np2 : IsTupOf2 m2 s.heap.objs.size y1 y2 := (sb.2 _ (Nat.ne_of_gt b0)).trans np
    have fresh : ObjOk X.prog X.w (upd H s.heap.objs.size (.tup [xs[i], ys[i]])) m2 s.heap.objs.size (.tup [xs[i], ys[i]]) :=
      ⟨by show 2 ≤ sizeLine; decide, [y1, y2], .cons w1 (.cons w2 .nil), ⟨_, np2, rfl, _, rfl⟩⟩
    have stay : ∀ d o, d ∉ [u, TI, TO, i1, i2] → s.heap.get? d = some o → m2.get? d = some o := fun d o hb q =>
      (sb.2 d (fun e => hb (by simp [e]))).trans (kp d o (fun e => hb (by simp [e])) (fun e => hb (by simp [e])) (fun e => hb (by simp [e])) (fun e => hb (by simp [e])) q)
    have I1 := I.turnedNew (t' := tk) (ch := [u, TI, TO, i1, i2]) stay hf (Nat.le_refl _) fresh
    obtain ⟨⟨s1, s2, s3, s4, s5, s6, s7, s8, s9, s10⟩, _, _⟩ := S
    refine ⟨.ref s.heap.objs.size, _, I1, rfl, ⟨_, xs[i], ys[i], rfl, I.hok.fresh (Nat.le_refl _), rfl, fun l hl => by rw [I.tuple_inj hl qx]; exact List.getElem?_eq_getElem lx, fun l hl => by rw [I.list_inj hl qy]; exact List.getElem?_eq_getElem ly⟩,
      ⟨zz2, (sb.2 _ (Ne.symm s1)).trans (kp _ _ (Ne.symm s1) s5 s6 s7 ti), ⟨_, _, (sb.2 _ (Ne.symm s2)).trans to'⟩, st1.1.at fun o q => (sb.2 _ (Ne.symm s3)).trans q, st2.1.at fun o q => (sb.2 _ (Ne.symm s4)).trans q⟩, fun d hdm => ?_⟩
    have lt : d < s.heap.objs.size := by
      have h2 := hdm
      simp only [List.mem_cons, List.not_mem_nil, or_false] at h2
      rcases h2 with e | e | e | e | e <;> (subst e; assumption)
    rw [upd_ne (Nat.ne_of_lt lt)]
    exact (hf d hdm).1
  done := by
    intro X hP hw hK hc i pins s σ H E I hf st hg
    subst hP hw hK
    obtain ⟨zz, ti, ⟨x0, y0, to⟩, h1, h2⟩ := st
    obtain ⟨xs, ys, ⟨qx, qy⟩, ⟨lx, ly⟩, en⟩ := hg
    obtain ⟨v1, r1, t1, _⟩ := I.tuple qx
    obtain ⟨v2, r2, t2, _⟩ := I.list qy
    have n1 := r1.length
    have n2 := r2.length
    have hd := I.ok.hd hc
    refine wpAny_pyNext_zipD2_end S.sep (drawsT (A := X.A.in1) hd i1 a S.a0.2.2.2.1 v1.toArray) (Draws.list (A := X.A.in1) hd i2 b S.b0.2.2.2.2 v2.toArray)
      zz ti to ⟨h1, t1⟩ ⟨h2, t2.isList⟩ (by simp; omega) (by simp; omega) (by simp; omega) fun m tk kp => ⟨rfl, ?_⟩
    exact I.turnedL (t' := tk) (ch := [u, TI, TO, i1, i2]) (fun d o hb q => kp d o (fun e => hb (by simp [e])) (fun e => hb (by simp [e])) (fun e => hb (by simp [e])) (fun e => hb (by simp [e])) q) hf
  self := fun A i s Q E st h => wpAny_pyIter_zip st.1 h
def iZTL (K : PySem.W.Frag) (ta : TA) : TI := fun σ H R => ta σ H fun vs H1 => ∃ a b xs ys, vs = [.ref a, .ref b] ∧ (SqT K H1 a xs ∧ SqL K H1 b ys) ∧ R (ItTL K a b) H1
theorem five_new (n a b : Nat) (ha : a < n) (hb : b < n) : Five (n + 4) (n + 2) (n + 3) n (n + 1) a b := by
  refine ⟨⟨?_, ?_, ?_, ?_, ?_, ?_, ?_, ?_, ?_, ?_⟩, ⟨?_, ?_, ?_, ?_, ?_⟩, ⟨?_, ?_, ?_, ?_, ?_⟩⟩ <;> (show _ ≠ _; intro e; have e2 : (_ : Nat) = _ := e; omega)
theorem i_zipTL {X : Cx} {K : PySem.W.Frag} {e1 e2 : Expr} {ta : TA} {p pos tpos : Pos} {elts : List Expr} {kk : Nat} (ek : X.K = K) (hg : Gl X "zip") (hm : X.mg "zip" = none) (ha : PA X [e1, e2] ta)
    (hs : starEach [e1, e2] X.env = (false, eval e1 X.env) :: starEach [e2] X.env := by rfl) (hp : (backTo pos (starEach [e2] X.env)).any (·.1) = false := by rfl) :
    PI X (.Tuple elts kk tpos) (.Call (.Name "zip" p) [e1, e2] [] pos) (iZTL K ta) := by
  subst ek
  refine ⟨fun pins s σ H R I h => ?_⟩
  refine Call_ (ld_blt I hg hm PyProof.Rows.boot_zip (PyProof.Rows.callWith_type1 (thn (ha.run pos pins s σ H _ I h) fun us s1 ⟨vs, H1, I1, r1, q1⟩ => ?_) hs hp))
  obtain ⟨a, b, xs, ys, rfl, ⟨qx, qy⟩, q⟩ := q1
  obtain ⟨ua, ub, rfl, ra, rb⟩ : ∃ ua ub, us = [ua, ub] ∧ RelV (.ref a) ua ∧ RelV (.ref b) ub := by
    cases r1 with
    | cons r rr =>
      cases rr with
      | cons r' rr =>
        cases rr
        exact ⟨_, _, rfl, r, r'⟩
  cases ra
  cases rb
  obtain ⟨v1, _, t1, _⟩ := I1.tuple qx
  obtain ⟨v2, _, t2, _⟩ := I1.list qy
  have la : a < s1.heap.objs.size := t1.lt
  have lb : b < s1.heap.objs.size := by
    obtain ⟨o, ho, _⟩ := t2.isList
    exact Heap.lt_size ho
  refine zip_begins2 (begins_tuple a v1.toArray) (begins_list b v2.toArray) t1 t2.isList fun m hz hTI hTO g1 g2 hsz hk => wpAny_pyIter_zip hz ?_
  refine ⟨s1.heap.objs.size + 4, [s1.heap.objs.size + 4, s1.heap.objs.size + 2, s1.heap.objs.size + 3, s1.heap.objs.size, s1.heap.objs.size + 1], _, _, H1, rfl, I1.kept (t' := s1.toks) hk,
    turn_zipTL (five_new s1.heap.objs.size a b la lb), ⟨hz, hTI, ⟨_, _, hTO⟩, ⟨_, g1, rfl, rfl⟩, ⟨_, g2, rfl, rfl⟩⟩, fun d hd => ?_, q⟩
  have le : s1.heap.objs.size ≤ d := by
    simp only [List.mem_cons, List.not_mem_nil, or_false] at hd
    rcases hd with e | e | e | e | e <;> subst e
    · exact Nat.le_add_right _ _
    · exact Nat.le_add_right _ _
    · exact Nat.le_add_right _ _
    · exact Nat.le_refl _
    · exact Nat.le_add_right _ _
  exact I1.fpOk le (I1.hok.fresh le)
section
variable {K : PySem.W.Frag} {σ : L2.St} {H : Hp} {Q : VK} {g : TG} {tt : TT} {te : TE} {vs : List Nat}
theorem r_lcTLi {ta : TA} (h : ta σ H fun ws H1 => ∃ a b xs ys, ws = [.ref a, .ref b] ∧ (SqT K H1 a xs ∧ SqL K H1 b ys) ∧ tLc (fun _ H2 R => R (ItTL K a b) H2) g tt te vs σ H1 Q) : tLc (iZTL K ta) g tt te vs σ H Q := h
theorem r_lcTL {a b : Addr} (xs ys : List V) (n : Nat) (nx : xs.length = n) (ny : ys.length = n) (Pv : Addr → Nat → Hp → Prop) (h0 : ∀ D, H D = none → Pv D 0 (upd H D (.lst [])))
    (hl : ∀ D i H', H D = none → i ≤ n → Pv D i H' → SqT K H' a xs ∧ SqL K H' b ys)
    (hs : ∀ D i x y H' T, H D = none → xs[i]? = some x → ys[i]? = some y → Pv D i H' → H' T = none → g (.ref T) (wipe σ vs) (upd H' T (.tup [x, y])) fun σ2 H2 => wipe σ2 vs = wipe σ vs ∧ tt σ2 H2 fun b H3 =>
      if b = true then te σ2 H3 fun y H4 => ∃ acc, H4 D = some (.lst acc) ∧ acc.length < sizeLine ∧ Pv D (i + 1) (upd H4 D (.lst (acc ++ [y]))) else Pv D (i + 1) H3)
    (hd : ∀ D H', H D = none → Pv D n H' → Q (.ref D) H') : tLc (fun _ H2 R => R (ItTL K a b) H2) g tt te vs σ H Q := by
  refine fun D hD => ⟨fun i m H => m = n - i ∧ i ≤ n ∧ Pv D i H, ⟨n, by omega, Nat.zero_le _, h0 D hD⟩, ?_⟩
  rintro i m H' ⟨rfl, hi, p⟩
  obtain ⟨qx, qy⟩ := hl D i H' hD hi p
  by_cases lt : i < n
  · refine Or.inr ⟨⟨xs, ys, ⟨qx, qy⟩, by omega, by omega⟩, Pv D (i + 1), fun H' p' => ⟨n - (i + 1), by omega, rfl, lt, p'⟩, fun v H'' yy => ?_⟩
    obtain ⟨T, x, y, rfl, nT, rfl, f1, f2⟩ := yy
    exact hs D i x y H' T hD (f1 xs qx) (f2 ys qy) p nT
  · have e : i = n := by omega
    subst e
    exact Or.inl ⟨⟨xs, ys, ⟨qx, qy⟩, ⟨by omega, by omega⟩, .inl (by omega)⟩, hd D H' hD p⟩
end
/-- an item of a list or a tuple -/
theorem x_seq {X : Cx} {K : PySem.W.Frag} (e : X.K = K) : IxR X (rIx K) := by subst e; exact ix_seq
/-- a walk of a list with its places -/
theorem r_forEnL {K : PySem.W.Frag} {g : TG} {tb : TS} {D : Ends} {σ : L2.St} {H : Hp} {a : Addr} (xs : List V) (Pv : Nat → L2.St → Hp → Prop) (h0 : Pv 0 σ H) (hl : ∀ i σ H, i ≤ xs.length → Pv i σ H → SqL K H a xs)
    (hs : ∀ i x σ H T, xs[i]? = some x → Pv i σ H → H T = none → g (.ref T) σ (upd H T (.tup [.int (i : Nat), x])) fun σ2 H2 => tb { D with nx := Pv (i + 1), ct := Pv (i + 1), bk := D.nx } σ2 H2)
    (hd : ∀ σ H, Pv xs.length σ H → D.nx σ H) : tFor (fun _ H2 R => R (Ite K a) H2) g tb D σ H := by
  refine ⟨fun i m σ H => m = xs.length - i ∧ i ≤ xs.length ∧ Pv i σ H, ⟨xs.length, by omega, Nat.zero_le _, h0⟩, ?_⟩
  rintro i m σ H ⟨rfl, hi, p⟩
  have q := hl i σ H hi p
  by_cases lt : i < xs.length
  · refine Or.inr ⟨⟨xs, xs[i], q, by simp [lt]⟩, Pv (i + 1), fun σ' H' p' => ⟨xs.length - (i + 1), by omega, rfl, lt, p'⟩, fun x H' y => ?_⟩
    obtain ⟨T, z, rfl, nT, rfl, fz⟩ := y
    exact hs i z σ H T (fz xs q) p nT
  · have e : i = xs.length := by omega
    subst e
    exact Or.inl ⟨⟨xs, q, Nat.le_refl _⟩, hd σ H p⟩
theorem r_forEi {K : PySem.W.Frag} {g : TG} {tb : TS} {D : Ends} {σ : L2.St} {H : Hp} {ta : TA} (h : ta σ H fun vs H1 => ∃ a xs, vs = [.ref a] ∧ SqL K H1 a xs ∧ tFor (fun _ H2 R => R (Ite K a) H2) g tb D σ H1) : tFor (iEnum K ta) g tb D σ H := h
/-- a list or a tuple -/
def SqS (K : PySem.W.Frag) (H : Hp) (a : Addr) (xs : List V) : Prop := SqT K H a xs ∨ SqL K H a xs
theorem r_ixS {K : PySem.W.Frag} {H : Hp} {Q : VK} {a : Addr} {xs : List V} {k : Int} {v : V} (h1 : SqS K H a xs) (h2 : atI xs k = some v) (h : Q v H) : rIx K (.ref a) (.int k) H Q := by
  rcases h1 with h1 | h1
  · exact .inr (.inl (r_ixT h1 h2 h))
  · exact .inl (r_ixL h1 h2 h)
theorem tru_seq {K : PySem.W.Frag} {H : Hp} {a : Addr} {xs : List V} {R : Bool → Prop} (hs : SqS K H a xs) (h : R (!xs.isEmpty)) : ∃ k, TruV K (.ref a) H k ∧ R k := by
  rcases hs with h1 | h1
  · exact tru_tup h1 h
  · exact tru_list h1 h
theorem r_lenS {K : PySem.W.Frag} {H : Hp} {Q : VK} {a : Addr} {xs : List V} (hs : SqS K H a xs) (h : Q (.int xs.length) H) : rLenQ K [.ref a] H Q := by
  rcases hs with h1 | h1
  · exact r_lenT h1 h
  · exact r_lenL h1 h
end Vf

namespace Vf
open PySem PySem.Spec PyProof.Rows L2
/-! ## t + u and slices of tuples, of any length -/
section
variable {X : Cx} {K : PySem.W.Frag}
theorem o_catA (e : X.K = K) : OpR X (binaryOp .Add) (rCatA K) := by subst e; exact op_catA
theorem s_tupA (e : X.K = K) : SlR X (rSlA K) := by subst e; exact sl_tupA
end
section
variable {K : PySem.W.Frag} {H : Hp} {Q : VK}
theorem r_catA {a b : Addr} {xs ys : List V} (h1 : SqT K H a xs) (h2 : SqT K H b ys) (hl : xs.length + ys.length ≤ 1000) (h : ∀ p H', Same H H' → SqT K H' p (xs ++ ys) → Q (.ref p) H') : rCatA K (.ref a) (.ref b) H Q := by
  refine ⟨a, b, xs, ys, rfl, rfl, h1, h2, small (Nat.le_trans hl (by decide)), fun e => ?_, fun _ e => ?_, fun _ _ p hp => ?_⟩
  · subst e
    exact h b H (Same.refl _) h2
  · subst e
    exact h a H (Same.refl _) (by rw [List.append_nil]; exact h1)
  · exact h p _ (Same.new hp) (SqT.of upd_same)
theorem r_slA {a : Addr} {xs : List V} {lo hi : Option Int} (h1 : SqT K H a xs) (h : ∀ p H', Same H H' → SqT K H' p (cutV xs lo hi) → Q (.ref p) H') : rSlA K (.ref a) lo hi H Q := by
  refine ⟨a, xs, rfl, h1, fun e => ?_, fun _ p hp => ?_⟩
  · have : cutV xs lo hi = xs := by
      unfold cutV
      rw [e.1, e.2, Nat.sub_zero, List.drop_zero, List.take_length]
    exact h a H (Same.refl _) (by rw [this]; exact h1)
  · exact h p _ (Same.new hp) (SqT.of upd_same)
theorem r_eqT {a b : Addr} (ns ms : List Int) (h1 : SqT K H a (ns.map V.int)) (h2 : SqT K H b (ms.map V.int)) (h : Q (.bl (decide (ns = ms))) H) : rEqD K (.ref a) (.ref b) H Q := by
  refine r_eqD (Dp.tupD h1) (Dp.tupD h2) (shapedTup ns) (shapedTup ms) ?_
  rw [show PyData.eqv (tupD ns) (tupD ms) = decide (ns = ms) from eqvInts ns ms]
  exact h
end
end Vf

namespace Vf
open PySem PySem.Spec PyProof.Rows L2
/-! ## a tuple times a number, 0 too -/
theorem tup_none (l : Addr) (items : Array Value) (n : Nat) (dd : Option Addr) (sl : Array (Option Value)) (u : Tok) (ne : items.isEmpty = false) :
    Meets (Builtin.«tuple.__mul__» ⟨[.ref l, .int 0 u], []⟩) (fun _ R s => s.heap.get? l = some { cls := .type "tuple", dict := dd, data := .seq items n, slots := sl } ∧
      R (.ok (.ret (Value.ref s.heap.objs.size))) { s with heap := s.heap.push { cls := Value.type "tuple", data := Data.seq #[] }, toks := s.toks }) :=
  .of_wp fun prog w A R s h => by
    obtain ⟨hp, g, d, tk, os⟩ := s
    obtain ⟨hl, h⟩ := h
    have f1 := AutoSeq1.idx_int
    have c1 : ¬ (items.isEmpty || (0 : Int) == 1) = true := by rw [ne]; decide
    have c2 : (decide ((0 : Int) ≤ 0) || items.isEmpty) = true := by rw [decide_eq_true (by decide)]; rfl
    wp_walk using wpAny_loadPart' hl
    repeat (first
      | (refine wpAny_ite_false (decide_eq_false (by decide)) ?_; wp_walk using wpAny_loadPart' hl)
      | (refine wpAny_ite_false (decide_eq_false c1) ?_; wp_walk using wpAny_loadPart' hl)
      | (refine wpAny_ite_true (decide_eq_true c2) ?_; wp_walk using wpAny_loadPart' hl))
    exact ⟨_, rfl, h⟩
def rRepA (K : PySem.W.Frag) : R2 := fun x y H Q => ∃ l k xs, x = .ref l ∧ y = .int k ∧ SqT K H l xs ∧ xs ≠ [] ∧ ((k = 0 ∧ ∀ p, H p = none → Q (.ref p) (upd H p (.tup []))) ∨
  (2 ≤ k ∧ k ≤ 1000 ∧ xs.length ≤ 1000 ∧ ∀ p, H p = none → Q (.ref p) (upd H p (.tup (List.replicate k.toNat xs).flatten))))
theorem op_repA {X : Cx} {K : PySem.W.Frag} (eK : X.K = K) : OpR X (binaryOp .Mult) (rRepA K) := by
  subst eK
  intro pins s σ H x y v u Q I rx ry h
  obtain ⟨l, k, xs, rfl, rfl, hT, hne, h⟩ := h
  rcases h with ⟨rfl, q⟩ | ⟨h1, h2, h3, q⟩
  · cases rx
    obtain ⟨t, rfl⟩ := ry
    obtain ⟨its, r, ⟨⟨cls, dd, data, sl⟩, ho, hc, n, hd⟩, hs⟩ := I.tuple hT
    simp only at hc hd
    subst hc hd
    have hi : its.toArray.isEmpty = false := by
      cases its with
      | nil => exact absurd (List.eq_nil_of_length_eq_zero r.length) hne
      | cons a b => rfl
    refine wpAny_binaryOp_repeat_ref (T := "tuple") (U := "int") (by decide) ⟨_, ho, rfl⟩ (fun s' => typeIs_int s' 0 t) noFill_tuple_mul F.fills_int_mul F.slot_int_rmul repeat_tuple F.slot_int_index.lookup
      (call_meets F.slot_int_rmul (typeIs_int s 0 t) F.entry_int_rmul (F.args_int_rmul_2 _ _) (int_rmul_tuple 0 t l its.toArray n dd sl)
        ⟨ho, rfl, ⟨_, ho, rfl⟩, call_meets F.slot_tuple_mul ⟨_, ho, rfl⟩ F.entry_tuple_mul (F.args_tuple_mul_2 _ _) (tup_none l its.toArray n dd sl t hi) ⟨ho, ?_⟩⟩)
    refine ⟨.ref s.heap.objs.size, _, I.laid (t' := s.toks) (o := .tup []) (fun b ob g => Heap.get?_push_of_some _ g) (Nat.le_refl _) ⟨Nat.zero_le _, [], .nil, IsTup.new _ _⟩, rfl, q _ (I.hok.fresh (Nat.le_refl _))⟩
  · exact op_repT pins s σ H _ _ v u Q I rx ry ⟨l, k, xs, rfl, rfl, hT, hne, h1, h2, h3, q⟩
/-- (0,) * k -/
theorem r_zerosT {K : PySem.W.Frag} {H : Hp} {Q : VK} {a : Addr} {k : Nat} (h : SqT K H a [.int 0]) (hk : k = 0 ∨ 2 ≤ k) (k1 : k ≤ 1000) (q : ∀ p, H p = none → Q (.ref p) (upd H p (.tup ((List.replicate k (0 : Int)).map V.int)))) : rRepA K (.ref a) (.int (k : Int)) H Q := by
  refine ⟨a, _, _, rfl, rfl, h, (fun e => by simp at e), ?_⟩
  rcases hk with z | z
  · subst z
    exact .inl ⟨rfl, q⟩
  · refine .inr ⟨by omega, by omega, by simp, fun p hp => ?_⟩
    have e : (List.replicate (k : Int).toNat [V.int 0]).flatten = (List.replicate k (0 : Int)).map V.int := by
      rw [Int.toNat_natCast, List.map_replicate]
      clear z k1 q
      induction k with
      | zero => rfl
      | succ n ih => rw [List.replicate_succ, List.flatten_cons, ih, List.replicate_succ]; rfl
    rw [e]
    exact q p hp
end Vf

namespace Vf
open PySem PySem.Spec PyProof.Rows L2
/-! ## t.index(n), xs.index(n) of ints -/
def rTix (K : PySem.W.Frag) : V → List V → Hp → VK → Prop := fun x xs H Q => ∃ (p : Addr) (ys : List Int) (z : Int) (j : Nat), x = .ref p ∧ xs = [.int z] ∧ SqT K H p (ys.map V.int) ∧ ys[j]? = some z ∧ (∀ m, m < j → ys[m]? ≠ some z) ∧ Q (.int (j : Nat)) H
theorem flat_intsV : ∀ ns : List Int, (ns.map V.int).all flatV = true
  | [] => rfl
  | n :: ns => by
    rw [List.map_cons, List.all_cons, flat_intsV ns]
    rfl
theorem mt_tix {X : Cx} {K : PySem.W.Frag} (eK : X.K = K) : MtR X "tuple.index" (rTix K) := by
  subst eK
  intro pins s σ H x xs v us Q I rx rs h
  obtain ⟨p, ys, z, j, rfl, rfl, hq, hy, hno, q⟩ := h
  cases rx
  obtain ⟨u, rfl, t, rfl⟩ := vals1 rs
  obtain ⟨its, r, pl, hz⟩ := I.tuple hq
  obtain ⟨⟨cls, dd, dt, sl⟩, ho, hc, n, hd⟩ := pl
  simp only at hc hd
  subst hc hd
  have ln : its.toArray.size = ys.length := by rw [List.size_toArray, ← r.length, List.length_map]
  have lj : j < its.toArray.size := by rw [ln]; exact (List.getElem?_eq_some_iff.mp hy).1
  have look : ∀ (m : Nat) (hm : m < its.toArray.size), ∃ y t', ys[m]? = some y ∧ its.toArray[m] = Value.int y t' := fun m hm => by
    have ml : m < ys.length := by omega
    obtain ⟨w, hw, t', rfl⟩ := r.get (i := m) (x := .int ys[m]) (by simp [ml])
    refine ⟨ys[m], t', List.getElem?_eq_getElem ml, ?_⟩
    rw [← (List.getElem?_eq_some_iff.mp hw).2]
    simp
  refine call_meets PySem.F.slot_tuple_index ⟨_, ho, rfl⟩ PySem.F.entry_tuple_index (PySem.F.args_tuple_index_2 _ _) (TI.tuple_indexAt p its.toArray n dd sl (.int z t) (eqU (.int z)) j lj ?_ ?_)
    ⟨ho, fun w hw => mem_eqAt (x := .int z) ⟨t, rfl⟩ rfl r (flat_intsV ys) w (by simpa using hw), ⟨.int (j : Nat), H, I.tok _, ⟨_, rfl⟩, q⟩⟩
  · obtain ⟨y, t', g1, g2⟩ := look j lj
    rw [hy] at g1
    cases g1
    rw [g2]
    exact beq_self_eq_true z
  · intro m hm mj
    obtain ⟨y, t', g1, g2⟩ := look m hm
    rw [g2]
    show (y == z) = false
    rw [beq_eq_false_iff_ne]
    exact fun c => hno m mj (by rw [g1, c])
theorem r_tix {K : PySem.W.Frag} {H : Hp} {Q : VK} {p : Addr} {z : Int} {j : Nat} (ys : List Int) (hs : SqT K H p (ys.map V.int)) (hj : ys[j]? = some z) (hno : ∀ m, m < j → ys[m]? ≠ some z) (q : Q (.int (j : Nat)) H) : rTix K (.ref p) [.int z] H Q := ⟨p, ys, z, j, rfl, rfl, hs, hj, hno, q⟩
/-! ## a tuple whose object is known; a method of it -/
def rTupF (K : PySem.W.Frag) : List V → Hp → VK → Prop := fun xs H Q => ∃ (p : Addr) (ys : List V), xs = [.ref p] ∧ SqL K H p ys ∧ ∀ (l : Addr) (o : Obj), H l = none → o.cls = .type "tuple" → o.dict = none → Q (.ref l) (upd H l (.frz o (.tup ys)))
theorem c_tupF {X : Cx} {K : PySem.W.Frag} (eK : X.K = K) : CallR X (.type "tuple") (rTupF K) := by
  subst eK
  intro pins s σ H xs us Q I r h
  obtain ⟨p, ys, rfl, hq, q⟩ := h
  obtain rfl := Vals.ref1 r
  obtain ⟨its, r', pl, hz⟩ := I.list hq
  have ln := r'.length
  refine call_tuple_list pl.isList (fun h2 kp => ?_) (by simp only [List.size_toArray] <;> omega)
  have I1 : Inv X pins σ H { s with heap := h2 } := I.kept (t' := s.toks) kp
  have I2 : Inv X pins σ (upd H h2.objs.size (.frz { cls := .type "tuple", data := .seq its.toArray } (.tup ys))) { s with heap := h2.push { cls := .type "tuple", data := .seq its.toArray } } :=
    I1.laid (t' := s.toks) (fun b o g => Heap.get?_push_of_some _ g) (Nat.le_refl _) ⟨Heap.get?_push_size _ rfl, hz, its, r', IsTup.new _ _⟩
  exact ⟨.ref h2.objs.size, _, I2, rfl, q _ _ (I1.hok.fresh (Nat.le_refl _)) rfl rfl⟩
def tBF (T : String) (r : V → List V → Hp → VK → Prop) (to : TE) (t : TA) : TE := fun σ H Q => to σ H fun x H1 => (∃ (p : Addr) (o : Obj) (u : HO), x = .ref p ∧ H1 p = some (.frz o u) ∧ o.cls = .type T ∧ o.dict = none) ∧ t σ H1 fun xs H2 => r x xs H2 Q
theorem pe_bmF {X : Cx} {o e : Expr} {es : List Expr} {to : TE} {t : TA} {name : Str} {at_ ps : Pos} {T id : String} {r : V → List V → Hp → VK → Prop}
    (pa : PlainAttrs T) (slot : Slot T name id) (md : typeOf (.builtin id) = pure (.type "method_descriptor")) (hm : MtR X id r) (ho : PE X o to) (ha : PA X (e :: es) t)
    (h1 : attributeBase o name X.env (eval o X.env) = eval o X.env := by rfl) (h2 : ((backTo ps (starEach (e :: es) X.env)).all (fun x => !x.1) && (backToKw ps (keywordEach [] X.env)).all (fun x => x.1.isSome) && decide ((e :: es).length + ([] : List Keyword).length + (if ([] : List Keyword).isEmpty then 0 else 1) < 30)) = true := by rfl)
    (h3 : (at_.endLine == ps.line) = true := by rfl) (h4 : starEach (e :: es) X.env = (false, eval e X.env) :: starEach es X.env := by rfl) (h5 : (backTo ps (starEach es X.env)).any (·.1) = false := by rfl) :
    PE X (.Call (.Attribute o name at_) (e :: es) [] ps) (tBF T r to t) := by
  refine ⟨fun pins s σ H Q I h => wpAny_Call_method_late h1 h2 h3 rfl (thn (ho.run pins s σ H _ I h) fun v s1 ⟨x, H1, I1, r1, ty, q1⟩ => ?_)⟩
  obtain ⟨p, ob, u, rfl, hp, hc, hd⟩ := ty
  cases r1
  have look : s1.heap.get? p = some ob := (I1.hok p _ hp).1
  refine ⟨T, id, pa, slot, md, ⟨ob, look, hc⟩, fun a e => by cases e; exact ⟨ob, look, hd⟩, ?_⟩
  have go := ha.run ps pins s1 σ H1 _ I1 q1
  rw [h4] at go ⊢
  refine Calls.callWith_builtin (by show (false || (backTo ps (starEach es X.env)).any (·.1)) = false; rw [h5] <;> rfl) (Calls.evalArgs_plain (thn go fun us s2 ⟨vs, H2, I2, r2, q2⟩ => ?_))
  exact hm pins s2 σ H2 (.ref p) vs (.ref p) us Q I2 rfl r2 q2
theorem r_bmF {T : String} {r : V → List V → Hp → VK → Prop} {to : TE} {t : TA} {σ : L2.St} {H : Hp} {Q : VK} (h : to σ H fun x H1 => (∃ (p : Addr) (o : Obj) (u : HO), x = .ref p ∧ H1 p = some (.frz o u) ∧ o.cls = .type T ∧ o.dict = none) ∧ t σ H1 fun xs H2 => r x xs H2 Q) : tBF T r to t σ H Q := h
theorem r_tupF {K : PySem.W.Frag} {H : Hp} {Q : VK} {a : Addr} {ys : List V} (hs : SqL K H a ys) (h : ∀ (l : Addr) (o : Obj), H l = none → o.cls = .type "tuple" → o.dict = none → Q (.ref l) (upd H l (.frz o (.tup ys)))) : rTupF K [.ref a] H Q := ⟨a, ys, rfl, hs, h⟩
theorem SqT.frz {K : PySem.W.Frag} {H : Hp} {a : Addr} {o : Obj} {ys : List V} (h : H a = some (.frz o (.tup ys))) : SqT K H a ys := Or.inl (Or.inr ⟨o, h⟩)
theorem mt_lix {X : Cx} {K : PySem.W.Frag} (eK : X.K = K) : MtR X "list.index" (rIndex K) := by subst eK; exact mt_index
theorem r_lix {K : PySem.W.Frag} {H : Hp} {Q : VK} {p : Addr} {z : Int} {j : Nat} (ys : List Int) (hs : SqL K H p (ys.map V.int)) (hj : ys[j]? = some z) (hno : ∀ m, m < j → ys[m]? ≠ some z) (q : Q (.int (j : Nat)) H) : rIndex K (.ref p) [.int z] H Q := by
  refine ⟨p, _, .int z, j, .int z, rfl, rfl, hs, rfl, flat_intsV ys, by rw [List.getElem?_map, hj]; rfl, beq_self_eq_true z, fun m z' mj hz => ?_, q⟩
  rw [List.getElem?_map, Option.map_eq_some_iff] at hz
  obtain ⟨y, hy, rfl⟩ := hz
  show (y == z) = false
  rw [beq_eq_false_iff_ne]
  exact fun c => hno m mj (by rw [hy, c])
end Vf

namespace Vf
open PySem PySem.Spec PyProof.Rows L2
/-! ## a module's tuple; zip of two tuples in a comprehension; dicts with pairs as keys -/
theorem pe_gr {X : Cx} {x : Str} {a : Addr} {pos : Pos} (hm : X.mg x = some (.ref a)) (hg : Gl X x) (hd : (x == ("__debug__" : Str)) = false := by decide) : PE X (.Name x pos) (tC (.ref a)) := pe_glob hg hm rfl hd
section
variable {K : PySem.W.Frag} {σ : L2.St} {H : Hp} {Q : VK} {g : TG} {tt : TT} {te : TE} {vs : List Nat}
theorem r_lcZti {ta : TA} (h : ta σ H fun ws H1 => ∃ a b xs ys, ws = [.ref a, .ref b] ∧ ((SqL K H1 a xs ∧ SqL K H1 b ys ∧ tLc (fun _ H2 R => R (Itz K a b) H2) g tt te vs σ H1 Q) ∨
    (SqT K H1 a xs ∧ SqT K H1 b ys ∧ tLc (fun _ H2 R => R (RZ.ItzT K a b) H2) g tt te vs σ H1 Q))) : tLc (RZ.iZipA K ta) g tt te vs σ H Q := h
theorem r_lcZt {a b : Addr} (xs ys : List V) (n : Nat) (nx : xs.length = n) (ny : ys.length = n) (Pv : Addr → Nat → Hp → Prop) (h0 : ∀ D, H D = none → Pv D 0 (upd H D (.lst [])))
    (hl : ∀ D i H', H D = none → i ≤ n → Pv D i H' → SqT K H' a xs ∧ SqT K H' b ys)
    (hs : ∀ D i x y H' T, H D = none → xs[i]? = some x → ys[i]? = some y → Pv D i H' → H' T = none → g (.ref T) (wipe σ vs) (upd H' T (.tup [x, y])) fun σ2 H2 => wipe σ2 vs = wipe σ vs ∧ tt σ2 H2 fun b H3 =>
      if b = true then te σ2 H3 fun y H4 => ∃ acc, H4 D = some (.lst acc) ∧ acc.length < sizeLine ∧ Pv D (i + 1) (upd H4 D (.lst (acc ++ [y]))) else Pv D (i + 1) H3)
    (hd : ∀ D H', H D = none → Pv D n H' → Q (.ref D) H') : tLc (fun _ H2 R => R (RZ.ItzT K a b) H2) g tt te vs σ H Q := by
  refine fun D hD => ⟨fun i m H => m = n - i ∧ i ≤ n ∧ Pv D i H, ⟨n, by omega, Nat.zero_le _, h0 D hD⟩, ?_⟩
  rintro i m H' ⟨rfl, hi, p⟩
  obtain ⟨qx, qy⟩ := hl D i H' hD hi p
  by_cases lt : i < n
  · have ix : i < xs.length := by omega
    have iy : i < ys.length := by omega
    refine Or.inr ⟨⟨xs, ys, xs[i], ys[i], qx, qy, by simp [ix], by simp [iy]⟩, Pv D (i + 1), fun H' p' => ⟨n - (i + 1), by omega, rfl, lt, p'⟩, fun v H'' yy => ?_⟩
    obtain ⟨T, x, y, rfl, nT, rfl, f1, f2⟩ := yy
    exact hs D i x y H' T hD (f1 xs qx) (f2 ys qy) p nT
  · have e : i = n := by omega
    subst e
    exact Or.inl ⟨⟨xs, ys, qx, qy, .inl (by omega)⟩, hd D H' hD p⟩
theorem r_bits {to : TE} {σ : L2.St} {H : Hp} {Q : VK} (h : to σ H fun x H1 => ∃ i, x = .int i ∧ Q (.int (Builtin.Int.intBits i : Nat)) H1) : tBits to σ H Q := h
theorem r_dget {td ty : TE} {σ : L2.St} {H : Hp} {Q : VK} (h : td σ H fun x H1 => ty σ H1 fun y H2 => ∃ a v, x = .ref a ∧ DGet H2 a y (some v) ∧ Q v H2) : tDGet td ty σ H Q := h
theorem r_din {td ty : TE} {σ : L2.St} {H : Hp} {Q : VK} (h : ty σ H fun y H1 => td σ H1 fun x H2 => ∃ a o, x = .ref a ∧ DGet H2 a y o ∧ Q (.bl o.isSome) H2) : tDIn ty td σ H Q := h
theorem r_dput {td ty tv : TE} {D : Ends} {σ : L2.St} {H : Hp} (h : tv σ H fun v H1 => td σ H1 fun x H2 => ty σ H2 fun y H3 => ∃ a H4, x = .ref a ∧ DPut H3 a y v H4 ∧ D.nx σ H4) : sDPut td ty tv D σ H := h
theorem r_dnew {σ : L2.St} {H : Hp} {Q : VK} (h : ∀ p, H p = none → Q (.ref p) (upd H p (.dT []))) : tDNewT σ H Q := h
end
end Vf

namespace Vf
open PySem PySem.Spec PyProof.Rows L2
/-! ## a, b = a list -/
section
variable {X : Cx} {K : PySem.W.Frag}
theorem g_lst {es : List Expr} {k : Nat} {t : TGs} {n : Nat} {pos : Pos} (e : X.K = K) (hc : X.calm = true) (h : PGs X es t) (hn : (assignEach es X.env).length = n)
    (hst : (assignEach es X.env).findIdx? (·.1) = none) : PG X (.Tuple es k pos) (gLst K n t) := by
  subst e
  exact pg_lst hc h hn hst
theorem r_glst {gs : TGs} {σ : L2.St} {H : Hp} {R : L2.St → Hp → Prop} {a : Addr} {xs : List V} {n : Nat} (hs : SqL K H a xs) (hn : xs.length = n) (h : gs xs σ H R) : gLst K n gs (.ref a) σ H R := ⟨a, xs, rfl, hs, hn, h⟩
end
end Vf

namespace Vf
open PySem PySem.Spec PyProof.Rows L2
section
variable {D : Ends} {σ : L2.St} {H : Hp} {ts : TS}
/-- a statement that leaves the names as they are, and what stood: both ways go on together -/
theorem j_sm (hF : ∀ nx' : L2.St → Hp → Prop, (∀ H', Same H H' → nx' σ H') → ts { D with nx := nx' } σ H) (hQ : ∀ H', Same H H' → D.nx σ H') : ts D σ H :=
  j_s (fun σ' H' => σ' = σ ∧ Same H H') (fun nx' q => hF nx' fun H' s => q σ H' ⟨rfl, s⟩) (fun σ' H' h => by
    obtain ⟨rfl, s⟩ := h
    exact hQ H' s)
theorem j_kx {k : Addr} (hF : ∀ nx' : L2.St → Hp → Prop, (∀ H', Kx k H H' → nx' σ H') → ts { D with nx := nx' } σ H) (hQ : ∀ H', Kx k H H' → D.nx σ H') : ts D σ H :=
  j_s (fun σ' H' => σ' = σ ∧ Kx k H H') (fun nx' q => hF nx' fun H' s => q σ H' ⟨rfl, s⟩) (fun σ' H' h => by
    obtain ⟨rfl, s⟩ := h
    exact hQ H' s)
end
/-- a test that a proof decides both ways with one rest -/
theorem thru {c : Prop} [Decidable c] {A B : Prop} (hB : B) (hA : c → B → A) : if decide c = true then A else B := by
  by_cases h : c
  · rw [if_pos (decide_eq_true h)]
    exact hA h hB
  · rw [if_neg (by simp [h])]
    exact hB
theorem neq_same {s : Str} : (!decide (s = s)) = false := by rw [decide_eq_true rfl]; rfl
section
variable {X : Cx} {K : PySem.W.Frag}
/-- repr of None, a list or a tuple of data -/
def rReprO (K : PySem.W.Frag) : List V → Hp → VK → Prop := fun vs H Q => (vs = [.non] ∧ Q (.str "None") H) ∨ rRepr K vs H Q
theorem cr_reprO (hg : X.A.guards = some []) (hu : X.A.units + 64 < cLine) : CallR X (.builtin "repr") (rReprO X.K) := by
  intro pins s σ H xs us Q I r h
  rcases h with ⟨rfl, q⟩ | h
  · obtain ⟨u, rfl, r1⟩ := Vals.one r
    cases r1
    exact PySem.P.repr_of_none ⟨.str "None", H, I.kept fun _ _ z => z, ⟨_, rfl⟩, q⟩
  · exact cr_repr hg hu pins s σ H xs us Q I r h
theorem c_reprO (e : X.K = K) (hg : X.A.guards = some []) (hu : X.A.units + 64 < cLine) : CallR X (.builtin "repr") (rReprO K) := by subst e; exact cr_reprO hg hu
end
end Vf

namespace Vf
open PySem PySem.Spec PyProof.Rows L2
/-- xs.insert(0, y) -/
def rInsert : V → List V → Hp → VK → Prop := fun x vs H Q => ∃ (l : Addr) (xs : List V) (y : V), x = .ref l ∧ vs = [.int 0, y] ∧ H l = some (.lst xs) ∧ xs.length ≤ 100000 ∧ Q .non (upd H l (.lst (y :: xs)))
theorem mt_ins {X : Cx} : MtR X "list.insert" rInsert := by
  intro pins s σ H x vs v us Q I rx rv h
  obtain ⟨l, xs, y, rfl, rfl, hH, hz, q⟩ := h
  exact mt_insert pins s σ H _ _ v us Q I rx rv ⟨l, xs, 0, y, rfl, rfl, hH, Nat.lt_of_le_of_lt hz (by decide), by decide, by decide, q⟩
theorem r_ins {l : Addr} {xs : List V} {y : V} {H : Hp} {Q : VK} (e : H l = some (.lst xs)) (hz : xs.length ≤ 100000) (h : Q .non (upd H l (.lst (y :: xs)))) : rInsert (.ref l) [.int 0, y] H Q := ⟨l, xs, y, rfl, rfl, e, hz, h⟩
end Vf

namespace Vf
/-! ## tables of rests, by their differences -/
/-- how many ways to choose k of x -/
def bin : Nat → Nat → Nat
  | _, 0 => 1
  | 0, _ + 1 => 0
  | x + 1, k + 1 => bin x k + bin x (k + 1)
def fac : Nat → Nat
  | 0 => 1
  | n + 1 => (n + 1) * fac n
theorem fac_pos : ∀ n, 0 < fac n
  | 0 => Nat.one_pos
  | n + 1 => Nat.mul_pos (Nat.succ_pos n) (fac_pos n)
theorem bin_zero (x : Nat) : bin x 0 = 1 := by cases x <;> rfl
theorem bin_step (x k : Nat) : bin (x + 1) (k + 1) = bin x k + bin x (k + 1) := rfl
theorem bin_next : ∀ (x k : Nat), ((k : Int) + 1) * (bin x (k + 1) : Int) = ((x : Int) - k) * (bin x k : Int)
  | 0, 0 => by simp [bin]
  | 0, k + 1 => by simp [bin]
  | x + 1, 0 => by
    have h := bin_next x 0
    rw [bin_zero] at h
    rw [bin_step, bin_zero, bin_zero]
    push_cast at *
    grind
  | x + 1, k + 1 => by
    have h1 := bin_next x k
    have h2 := bin_next x (k + 1)
    rw [bin_step, bin_step]
    push_cast at *
    grind
/-- x * (x - 1) * .., k of them, from x - j on -/
def ffj : Int → Nat → Int → Int
  | _, 0, _ => 1
  | j, k + 1, x => (x - j) * ffj (j + 1) k x
theorem ffj_last : ∀ (j : Int) (k : Nat) (x : Int), ffj j (k + 1) x = ffj j k x * (x - j - k)
  | j, 0, x => by simp [ffj]
  | j, k + 1, x => by
    rw [ffj, ffj_last (j + 1) k x, ffj]
    have : ((k + 1 : Nat) : Int) = (k : Int) + 1 := rfl
    rw [this]
    grind
theorem ff_bin (x : Nat) : ∀ k : Nat, ffj 0 k (x : Int) = (fac k : Int) * (bin x k : Int)
  | 0 => by rw [bin_zero]; rfl
  | k + 1 => by
    rw [ffj_last, ff_bin x k, Int.sub_zero]
    have h := bin_next x k
    have e : ((fac (k + 1) : Nat) : Int) = ((k : Int) + 1) * (fac k : Int) := by
      show (((k + 1) * fac k : Nat) : Int) = _
      push_cast
      rfl
    rw [e]
    grind
theorem nval_snoc : ∀ (p : List Int) (c j x : Int), nval (p ++ [c]) j x = nval p j x + c * ffj j p.length x
  | [], c, j, x => by simp [nval, ffj]
  | a :: p, c, j, x => by
    rw [List.cons_append, nval, nval_snoc p c (j + 1) x, nval, List.length_cons, ffj]
    grind
/-- a sum over the ways to choose -/
def nw (G : Nat → Int) : Nat → Nat → Int
  | 0, _ => 0
  | m + 1, x => nw G m x + G m * (bin x m : Int)
theorem nw_zero (G : Nat → Int) : ∀ m, 0 < m → nw G m 0 = G 0
  | 1, _ => by simp [nw, bin]
  | m + 2, _ => by
    rw [nw, nw_zero G (m + 1) (by omega)]
    simp [bin]
theorem nw_step (G : Nat → Int) (x : Nat) : ∀ m, nw G (m + 1) (x + 1) = nw G (m + 1) x + nw (fun k => G (k + 1)) m x
  | 0 => by simp [nw, bin_zero]
  | m + 1 => by
    rw [nw, nw_step G x m, nw.eq_def G (m + 1 + 1) x]
    simp only [nw]
    rw [bin_step]
    push_cast
    grind
theorem nw_sub (F G : Nat → Int) (x : Nat) : ∀ m, nw (fun k => F k - G k) m x = nw F m x - nw G m x
  | 0 => rfl
  | m + 1 => by
    simp only [nw, nw_sub F G x m]
    grind
theorem nw_dvd {n : Int} {G : Nat → Int} {x : Nat} : ∀ {m : Nat}, (∀ k < m, n ∣ G k) → n ∣ nw G m x
  | 0, _ => Int.dvd_zero n
  | m + 1, h => by
    rw [nw]
    exact Int.dvd_add (nw_dvd fun k hk => h k (by omega)) (Int.dvd_trans (h m (by omega)) (Int.dvd_mul_right ..))
/-- nothing but multiples of n -/
theorem nw_none {n : Int} : ∀ (m : Nat) (G : Nat → Int), (∀ x < m, n ∣ nw G m x) → ∀ k < m, n ∣ G k
  | 0, _, _, k, hk => absurd hk (by omega)
  | m + 1, G, h, k, hk => by
    cases k with
    | zero =>
      have := h 0 (by omega)
      rwa [nw_zero G (m + 1) (by omega)] at this
    | succ k =>
      refine nw_none m (fun k => G (k + 1)) (fun x hx => ?_) k (by omega)
      have h1 := h x (by omega)
      have h2 := h (x + 1) (by omega)
      rw [nw_step] at h2
      have := Int.dvd_sub h2 h1
      rwa [show nw G (m + 1) x + nw (fun k => G (k + 1)) m x - nw G (m + 1) x = nw (fun k => G (k + 1)) m x by omega] at this
theorem getD_at {s : List Int} {i : Nat} {c : Int} (h : s[i]? = some c) : s.getD i 0 = c := by
  rw [List.getD_eq_getElem?_getD, h]
  rfl
/-- a sum by its steps, at a number from 0 on -/
theorem nval_nw (s : List Int) (x : Nat) : ∀ m, nval (s.take m) 0 (x : Int) = nw (fun k => s.getD k 0 * (fac k : Int)) m x
  | 0 => rfl
  | m + 1 => by
    rw [nw, ← nval_nw s x m]
    by_cases h : m < s.length
    · have e := List.getElem?_eq_getElem h
      have el : (s.take m).length = m := by rw [List.length_take]; omega
      rw [take_nx e, nval_snoc, el, ff_bin, getD_at e, Int.mul_assoc]
    · rw [List.take_of_length_le (by omega), List.take_of_length_le (by omega), getD_out (by omega)]
      simp
theorem nval_nwl (s : List Int) (x m : Nat) (h : s.length ≤ m) : nval s 0 (x : Int) = nw (fun k => s.getD k 0 * (fac k : Int)) m x := by
  rw [← nval_nw, List.take_of_length_le h]
/-- the next row of differences, by n -/
def drow (n : Int) (r : List Int) : List Int := (List.range (r.length - 1)).map fun i => (r.getD (i + 1) 0 - r.getD i 0) % n
theorem drow_len (n : Int) (r : List Int) : (drow n r).length = r.length - 1 := by simp [drow]
theorem drow_at (n : Int) (r : List Int) {i : Nat} (h : i < r.length - 1) : (drow n r).getD i 0 = (r.getD (i + 1) 0 - r.getD i 0) % n := by
  rw [List.getD_eq_getElem?_getD]
  unfold drow
  rw [List.getElem?_map, List.getElem?_range h]
  rfl
/-- the firsts of a row, of its differences, and so on -/
def firsts (n : Int) : Nat → List Int → List Int
  | 0, _ => []
  | m + 1, r => r.getD 0 0 :: firsts n m (drow n r)
theorem firsts_len (n : Int) : ∀ (m : Nat) (r : List Int), (firsts n m r).length = m
  | 0, _ => rfl
  | m + 1, r => by rw [firsts, List.length_cons, firsts_len n m]
theorem sub_mod (n a : Int) : n ∣ a % n - a := ⟨-(a / n), by
  have := Int.mul_ediv_add_emod a n
  grind⟩
theorem firsts_nw (n : Int) : ∀ (m : Nat) (r : List Int), r.length = m → ∀ x < m, n ∣ nw (fun k => (firsts n m r).getD k 0) m x - r.getD x 0
  | 0, _, _, x, hx => absurd hx (by omega)
  | m + 1, r, hl, 0, hx => by
    rw [nw_zero _ (m + 1) (by omega)]
    show n ∣ r.getD 0 0 - r.getD 0 0
    rw [Int.sub_self]
    exact Int.dvd_zero n
  | m + 1, r, hl, x + 1, hx => by
    have h1 := firsts_nw n (m + 1) r hl x (by omega)
    have h2 := firsts_nw n m (drow n r) (by rw [drow_len]; omega) x (by omega)
    rw [drow_at n r (by omega)] at h2
    have h3 := sub_mod n (r.getD (x + 1) 0 - r.getD x 0)
    rw [nw_step]
    have h4 := Int.dvd_add (Int.dvd_add h1 h2) h3
    have e : nw (fun k => (firsts n (m + 1) r).getD (k + 1) 0) m x = nw (fun k => (firsts n m (drow n r)).getD k 0) m x := rfl
    rw [e]
    have e2 : nw (fun k => (firsts n (m + 1) r).getD k 0) (m + 1) x - r.getD x 0 + (nw (fun k => (firsts n m (drow n r)).getD k 0) m x - (r.getD (x + 1) 0 - r.getD x 0) % n) + ((r.getD (x + 1) 0 - r.getD x 0) % n - (r.getD (x + 1) 0 - r.getD x 0)) = nw (fun k => (firsts n (m + 1) r).getD k 0) (m + 1) x + nw (fun k => (firsts n m (drow n r)).getD k 0) m x - r.getD (x + 1) 0 := by omega
    rw [e2] at h4
    exact h4
def gk (n k : Nat) : Nat := Nat.gcd n (fac k)
def sz (n k : Nat) : Nat := n / gk n k
theorem gk_pos {n : Nat} (k : Nat) (hn : 0 < n) : 0 < gk n k := Nat.gcd_pos_of_pos_left _ hn
theorem sz_mul (n k : Nat) : sz n k * gk n k = n := Nat.div_mul_cancel (Nat.gcd_dvd_left _ _)
theorem sz_pos {n : Nat} (k : Nat) (hn : 0 < n) : 0 < sz n k := by
  have h := sz_mul n k
  rcases Nat.eq_zero_or_pos (sz n k) with z | z
  · rw [z, Nat.zero_mul] at h; omega
  · exact z
/-- the multiples: a step times its size is nothing by n -/
theorem sz_fac (n k : Nat) : (n : Int) ∣ (sz n k : Int) * (fac k : Int) := by
  obtain ⟨c, hc⟩ := Nat.gcd_dvd_right n (fac k)
  refine ⟨(c : Int), ?_⟩
  have h := sz_mul n k
  have e : fac k = gk n k * c := hc
  rw [e, ← Int.natCast_mul, ← Int.natCast_mul, ← Nat.mul_assoc, h]
theorem uniq_step {n k : Nat} (hn : 0 < n) {a b : Int} (ha : 0 ≤ a ∧ a < sz n k) (hb : 0 ≤ b ∧ b < sz n k) (h : (n : Int) ∣ (a - b) * (fac k : Int)) : a = b := by
  have hg := gk_pos k hn
  have h1 : n ∣ (a - b).natAbs * fac k := by
    have := Int.natAbs_dvd_natAbs.mpr h
    rwa [Int.natAbs_mul, Int.natAbs_natCast, Int.natAbs_natCast] at this
  obtain ⟨c, hc⟩ := Nat.gcd_dvd_right n (fac k)
  have e : fac k = gk n k * c := hc
  have h2 : sz n k ∣ (a - b).natAbs * c := by
    obtain ⟨d, hd⟩ := h1
    refine ⟨d, Nat.eq_of_mul_eq_mul_left hg ?_⟩
    have h3 := sz_mul n k
    calc gk n k * ((a - b).natAbs * c) = (a - b).natAbs * (gk n k * c) := by grind
      _ = (a - b).natAbs * fac k := by rw [e]
      _ = n * d := hd
      _ = gk n k * (sz n k * d) := by rw [← Nat.mul_assoc, Nat.mul_comm (gk n k), h3]
  have hco : Nat.Coprime (sz n k) c := by
    have := Nat.coprime_div_gcd_div_gcd (m := n) (n := fac k) hg
    have e2 : fac k / Nat.gcd n (fac k) = c := Nat.div_eq_of_eq_mul_right hg e
    rw [e2] at this
    exact this
  have h4 : sz n k ∣ (a - b).natAbs := hco.dvd_of_dvd_mul_right h2
  have h5 : (a - b).natAbs < sz n k := by omega
  have := Nat.eq_zero_of_dvd_of_lt h4 h5
  omega
/-- the steps of a table, within their sizes -/
structure Good (n : Nat) (v f : List Int) : Prop where
  len : f.length = n
  b : ∀ k < n, 0 ≤ f.getD k 0 ∧ f.getD k 0 < sz n k
  v : ∀ x < n, (n : Int) ∣ nval f 0 (x : Int) - v.getD x 0
theorem steps_firsts {n : Nat} {v s : List Int} (hv : v.length = n) (hs : ∀ x < n, (n : Int) ∣ nval s 0 (x : Int) - v.getD x 0) : ∀ k < n, (n : Int) ∣ s.getD k 0 * (fac k : Int) - (firsts n n v).getD k 0 := by
  refine nw_none (n := (n : Int)) n (fun k => s.getD k 0 * (fac k : Int) - (firsts n n v).getD k 0) fun x hx => ?_
  have h1 := hs x hx
  have h2 := firsts_nw n n v hv x hx
  have h3 : nval s 0 (x : Int) = nw (fun k => s.getD k 0 * (fac k : Int)) n x := by
    rcases Nat.le_total s.length n with c | c
    · exact nval_nwl s x n c
    · rw [nval_nwl s x s.length (Nat.le_refl _)]
      -- beyond x nothing is chosen
      have z : ∀ (G : Nat → Int) (m : Nat), x < m → ∀ d, nw G (m + d) x = nw G m x := by
        intro G m hm d
        induction d with
        | zero => rfl
        | succ d ih =>
          rw [← Nat.add_assoc, nw, ih]
          have : bin x (m + d) = 0 := by
            have zz : ∀ (y k : Nat), y < k → bin y k = 0 := by
              intro y
              induction y with
              | zero => intro k hk; cases k with
                | zero => omega
                | succ k => rfl
              | succ y ih => intro k hk; cases k with
                | zero => omega
                | succ k => rw [bin_step, ih k (by omega), ih (k + 1) (by omega)]
            exact zz x (m + d) (by omega)
          rw [this]
          simp
      have := z (fun k => s.getD k 0 * (fac k : Int)) n hx (s.length - n)
      rw [show n + (s.length - n) = s.length by omega] at this
      exact this
  rw [h3] at h1
  rw [nw_sub]
  have := Int.dvd_sub h1 h2
  rwa [show nw (fun k => s.getD k 0 * (fac k : Int)) n x - v.getD x 0 - (nw (fun k => (firsts n n v).getD k 0) n x - v.getD x 0) = nw (fun k => s.getD k 0 * (fac k : Int)) n x - nw (fun k => (firsts n n v).getD k 0) n x by omega] at this
theorem firsts_steps {n : Nat} {v f : List Int} (hv : v.length = n) (hl : f.length = n) (h : ∀ k < n, (n : Int) ∣ f.getD k 0 * (fac k : Int) - (firsts n n v).getD k 0) : ∀ x < n, (n : Int) ∣ nval f 0 (x : Int) - v.getD x 0 := by
  intro x hx
  have h2 := firsts_nw n n v hv x hx
  rw [nval_nwl f x n (by omega)]
  have h3 := nw_dvd (x := x) h
  rw [nw_sub] at h3
  have := Int.dvd_add h3 h2
  rwa [show nw (fun k => f.getD k 0 * (fac k : Int)) n x - nw (fun k => (firsts n n v).getD k 0) n x + (nw (fun k => (firsts n n v).getD k 0) n x - v.getD x 0) = nw (fun k => f.getD k 0 * (fac k : Int)) n x - v.getD x 0 by omega] at this
/-- a step is the one that the table's steps ask for -/
theorem Good.step {n : Nat} {v f : List Int} (g : Good n v f) (hv : v.length = n) {s : List Int} (hs : ∀ x < n, (n : Int) ∣ nval s 0 (x : Int) - v.getD x 0) {k : Nat} (hk : k < n) (hb : 0 ≤ s.getD k 0 ∧ s.getD k 0 < sz n k) : s.getD k 0 = f.getD k 0 := by
  have h1 := steps_firsts hv hs k hk
  have h2 := steps_firsts hv g.v k hk
  refine uniq_step (by omega) hb (g.b k hk) ?_
  have := Int.dvd_sub h1 h2
  rwa [show s.getD k 0 * (fac k : Int) - (firsts n n v).getD k 0 - (f.getD k 0 * (fac k : Int) - (firsts n n v).getD k 0) = (s.getD k 0 - f.getD k 0) * (fac k : Int) by grind] at this
/-- the product of 1, 2, .. by n, as the program takes it on -/
def pf (n : Nat) : Nat → Int
  | 0 => 1
  | i + 1 => (fac i : Int) % (n : Int)
theorem pf_next (n i : Nat) : pf n i * max (i : Int) 1 % (n : Int) = pf n (i + 1) := by
  cases i with
  | zero => rfl
  | succ i =>
    show (fac i : Int) % (n : Int) * max ((i + 1 : Nat) : Int) 1 % (n : Int) = ((fac (i + 1) : Nat) : Int) % (n : Int)
    have e : ((fac (i + 1) : Nat) : Int) = ((i + 1 : Nat) : Int) * (fac i : Int) := by
      show (((i + 1) * fac i : Nat) : Int) = _
      push_cast
      rfl
    rw [e, show max ((i + 1 : Nat) : Int) 1 = ((i + 1 : Nat) : Int) by omega, Int.mul_comm ((i + 1 : Nat) : Int), Int.mul_emod, Int.emod_emod, ← Int.mul_emod]
theorem gcd_pf (n i : Nat) : Nat.gcd (n : Int).natAbs (pf n (i + 1)).natAbs = gk n i := by
  show Nat.gcd n ((fac i : Int) % (n : Int)).natAbs = Nat.gcd n (fac i)
  rw [← Int.natCast_emod, Int.natAbs_natCast, Nat.gcd_comm, ← Nat.gcd_rec]
theorem pf_nat (n i : Nat) : pf n (i + 1) = ((fac i % n : Nat) : Int) := by
  show (fac i : Int) % (n : Int) = _
  rw [Int.natCast_emod]
theorem pf_small {n i : Nat} (hn : 0 < n) : 0 ≤ pf n (i + 1) ∧ pf n (i + 1) < n := by
  rw [pf_nat]
  have := Nat.mod_lt (fac i) hn
  omega
/-- the step that the program reckons -/
theorem step_ok {n i : Nat} (hn : 0 < n) {F u w : Int} (hF : F % (gk n i : Int) = 0) (hu : u * (pf n (i + 1) / (gk n i : Int)) = 1 + (sz n i : Int) * w) :
    (n : Int) ∣ (F / (gk n i : Int) * (u % (sz n i : Int)) % (sz n i : Int)) * (fac i : Int) - F := by
  have hg : (0 : Int) < (gk n i : Int) := by have := gk_pos i hn; omega
  obtain ⟨F', rfl⟩ := Int.dvd_of_emod_eq_zero hF
  rw [Int.mul_ediv_cancel_left _ (by omega)]
  have hpd : (gk n i : Int) ∣ pf n (i + 1) := by
    rw [← gcd_pf n i]
    have := Int.natCast_dvd_natCast.mpr (Nat.gcd_dvd_right (n : Int).natAbs (pf n (i + 1)).natAbs)
    exact Int.dvd_natAbs.mp this
  obtain ⟨p', hp⟩ := hpd
  rw [hp, Int.mul_ediv_cancel_left _ (by omega)] at hu
  have h1 : (n : Int) ∣ pf n (i + 1) - (fac i : Int) := sub_mod _ _
  have h2 : (sz n i : Int) * (gk n i : Int) = (n : Int) := by
    rw [← Int.natCast_mul, sz_mul]
  obtain ⟨z1, hz1⟩ : ∃ z, u % (sz n i : Int) = u + (sz n i : Int) * z := ⟨-(u / (sz n i : Int)), by have := Int.mul_ediv_add_emod u (sz n i : Int); grind⟩
  obtain ⟨z2, hz2⟩ : ∃ z, F' * (u % (sz n i : Int)) % (sz n i : Int) = F' * (u % (sz n i : Int)) + (sz n i : Int) * z := ⟨-(F' * (u % (sz n i : Int)) / (sz n i : Int)), by have := Int.mul_ediv_add_emod (F' * (u % (sz n i : Int))) (sz n i : Int); grind⟩
  obtain ⟨z3, hz3⟩ := h1
  rw [hz2, hz1]
  -- all by the product
  have hf : (fac i : Int) = (gk n i : Int) * p' - (n : Int) * z3 := by omega
  refine ⟨F' * w + (F' * z1 + z2) * p' - (F' * (u + (sz n i : Int) * z1) + (sz n i : Int) * z2) * z3, ?_⟩
  rw [hf, ← h2]
  have e1 : u * p' = 1 + (sz n i : Int) * w := hu
  have e2 : F' * u * (gk n i : Int) * p' = F' * (gk n i : Int) * (1 + (sz n i : Int) * w) := by rw [← e1]; grind
  grind
theorem cop_pf {n i : Nat} (hn : 0 < n) : Nat.gcd (pf n (i + 1) / (gk n i : Int)).natAbs (sz n i) = 1 := by
  rw [pf_nat, ← Int.natCast_ediv, Int.natAbs_natCast]
  have e : gk n i = Nat.gcd n (fac i % n) := by
    show Nat.gcd n (fac i) = _
    rw [Nat.gcd_comm n (fac i % n), ← Nat.gcd_rec]
  unfold sz
  rw [e, Nat.gcd_comm]
  exact Nat.coprime_div_gcd_div_gcd (Nat.gcd_pos_of_pos_left _ hn)
theorem fac_primes : ∀ n ∈ [2, 3, 5, 7, 11], ∀ k < n, gk n k = 1 := by decide
theorem bin_more : ∀ (y k : Nat), y < k → bin y k = 0
  | 0, 0, h => by omega
  | 0, _ + 1, _ => rfl
  | _ + 1, 0, h => by omega
  | y + 1, k + 1, h => by rw [bin_step, bin_more y k (by omega), bin_more y (k + 1) (by omega)]
theorem bin_self : ∀ k : Nat, bin k k = 1
  | 0 => rfl
  | k + 1 => by rw [bin_step, bin_self k, bin_more k (k + 1) (by omega)]
theorem nw_low (G : Nat → Int) {x m : Nat} (hm : x < m) : ∀ d, nw G (m + d) x = nw G m x
  | 0 => rfl
  | d + 1 => by
    rw [← Nat.add_assoc, nw, nw_low G hm d, bin_more x (m + d) (by omega)]
    simp
theorem nval_low (s : List Int) {x m : Nat} (h : x < m) : nval s 0 (x : Int) = nw (fun k => s.getD k 0 * (fac k : Int)) m x := by
  rcases Nat.le_total s.length m with c | c
  · exact nval_nwl s x m c
  · rw [nval_nwl s x s.length (Nat.le_refl _)]
    have := nw_low (fun k => s.getD k 0 * (fac k : Int)) h (s.length - m)
    rwa [show m + (s.length - m) = s.length by omega] at this
/-- at a number, steps beyond it tell nothing -/
theorem nval_upto (s : List Int) {x m : Nat} (h : x < m) : nval (s.take m) 0 (x : Int) = nval s 0 (x : Int) := by
  rw [nval_nw, nval_low s h]
theorem steps_same {n : Int} {i : Nat} {s t : List Int} (h : ∀ x < i, n ∣ nval s 0 ((x : Nat) : Int) - nval t 0 (x : Int)) : ∀ k < i, n ∣ (s.getD k 0 - t.getD k 0) * (fac k : Int) := by
  intro k hk
  have := nw_none i (fun k => s.getD k 0 * (fac k : Int) - t.getD k 0 * (fac k : Int)) (fun x hx => by
    rw [nw_sub, ← nval_low s hx, ← nval_low t hx]
    exact h x hx) k hk
  rwa [← Int.sub_mul] at this
theorem dvd_fac : ∀ {n : Nat}, 0 < n → n ∣ fac n
  | n + 1, _ => ⟨fac n, rfl⟩
theorem fac_dvd : ∀ {k m : Nat}, k ≤ m → fac k ∣ fac m
  | k, 0, h => by
    have : k = 0 := by omega
    subst this
    exact Nat.dvd_refl _
  | k, m + 1, h => by
    by_cases c : k = m + 1
    · subst c; exact Nat.dvd_refl _
    · exact Nat.dvd_trans (fac_dvd (show k ≤ m by omega)) (Nat.dvd_mul_left _ _)
theorem sz_one {n k : Nat} (hn : 0 < n) : sz n k = 1 ↔ n ∣ fac k := by
  constructor
  · intro h
    have := sz_mul n k
    rw [h, Nat.one_mul] at this
    rw [← this]
    exact Nat.gcd_dvd_right _ _
  · intro h
    unfold sz gk
    rw [Nat.gcd_eq_left h]
    exact Nat.div_self hn
theorem sz_self {n : Nat} (hn : 0 < n) : sz n n = 1 := (sz_one hn).mpr (dvd_fac hn)
theorem sz_up {n k m : Nat} (hn : 0 < n) (h : sz n k = 1) (hk : k ≤ m) : sz n m = 1 := (sz_one hn).mpr (Nat.dvd_trans ((sz_one hn).mp h) (fac_dvd hk))
theorem fac_le : ∀ i < 13, fac i ≤ 479001600 := by decide
theorem ff_self (i : Nat) : ffj 0 i (i : Int) = (fac i : Int) := by
  rw [ff_bin, bin_self]
  simp
theorem ff_more {x i : Nat} (h : x < i) : ffj 0 i (x : Int) = 0 := by
  rw [ff_bin, bin_more x i h]
  simp
/-- the table of a sum -/
def tabOf (p : List Int) (n : Nat) : List Int := (List.range n).map fun x : Nat => pval p (x : Int) % (n : Int)
theorem tabOf_len (p : List Int) (n : Nat) : (tabOf p n).length = n := by simp [tabOf]
theorem tabOf_at (p : List Int) {n x : Nat} (h : x < n) : (tabOf p n).getD x 0 = pval p (x : Int) % (n : Int) := by
  rw [List.getD_eq_getElem?_getD]
  unfold tabOf
  rw [List.getElem?_map, List.getElem?_range h]
  rfl
theorem tabOf_snoc (p : List Int) (n i : Nat) : (List.range (i + 1)).map (fun x => pval p ((x : Nat) : Int) % (n : Int)) = (List.range i).map (fun x => pval p ((x : Nat) : Int) % (n : Int)) ++ [pval p (i : Int) % (n : Int)] := by
  rw [List.range_succ, List.map_append]
  rfl
/-- the least form of a sum tells its table's steps -/
theorem form_good {n : Nat} (hn : 0 < n) {p t h f : List Int} (g : Good n (tabOf p n) f) (ht : ∀ x : Int, nval t 0 x = pval p x) (lt : h.length = t.length) (hh : ∀ k < t.length, h.getD k 0 = t.getD k 0 % (sz n k : Int)) : ∀ k, h.getD k 0 = f.getD k 0 := by
  have hs : ∀ x < n, (n : Int) ∣ nval h 0 (x : Int) - (tabOf p n).getD x 0 := by
    intro x hx
    rw [tabOf_at p hx, ← ht, nval_nwl h x t.length (by omega), nval_nwl t x t.length (Nat.le_refl _)]
    have h1 : (n : Int) ∣ nw (fun k => h.getD k 0 * (fac k : Int) - t.getD k 0 * (fac k : Int)) t.length x := nw_dvd fun k hk => by
      rw [hh k hk, ← Int.sub_mul]
      obtain ⟨z, hz⟩ := sub_mod (sz n k : Int) (t.getD k 0)
      rw [hz, Int.mul_assoc, Int.mul_left_comm]
      exact Int.dvd_mul_of_dvd_right (sz_fac n k)
    rw [nw_sub] at h1
    have h2 := sub_mod (n : Int) (nw (fun k => t.getD k 0 * (fac k : Int)) t.length x)
    have := Int.dvd_sub h1 h2
    rwa [show nw (fun k => h.getD k 0 * (fac k : Int)) t.length x - nw (fun k => t.getD k 0 * (fac k : Int)) t.length x - (nw (fun k => t.getD k 0 * (fac k : Int)) t.length x % (n : Int) - nw (fun k => t.getD k 0 * (fac k : Int)) t.length x) = nw (fun k => h.getD k 0 * (fac k : Int)) t.length x - nw (fun k => t.getD k 0 * (fac k : Int)) t.length x % (n : Int) by omega] at this
  have hb : ∀ k, 0 ≤ h.getD k 0 ∧ h.getD k 0 < sz n k := by
    intro k
    have zp := sz_pos k hn
    by_cases c : k < t.length
    · rw [hh k c]
      exact ⟨Int.emod_nonneg _ (by omega), Int.emod_lt_of_pos _ (by omega)⟩
    · rw [getD_out (by omega)]
      omega
  intro k
  by_cases c : k < n
  · exact g.step (tabOf_len p n) hs c (hb k)
  · have h1 := hb k
    rw [sz_up hn (sz_self hn) (by omega)] at h1
    rw [getD_out (p := f) (by rw [g.len]; omega)]
    omega
/-- equal but for 0s at the end -/
theorem pval_same : ∀ (a b : List Int), (∀ k, a.getD k 0 = b.getD k 0) → ∀ x, pval a x = pval b x
  | [], [], _, _ => rfl
  | [], b :: q, h, x => by
    have h0 : b = 0 := (h 0).symm
    have e : pval [] x = pval q x := pval_same [] q (fun k => h (k + 1)) x
    show 0 = b + x * pval q x
    rw [h0, ← e]
    simp [pval]
  | a :: p, [], h, x => by
    have h0 : a = 0 := h 0
    have e : pval p x = pval [] x := pval_same p [] (fun k => h (k + 1)) x
    show a + x * pval p x = 0
    rw [h0, e]
    simp [pval]
  | a :: p, b :: q, h, x => by
    have h0 : a = b := h 0
    rw [h0, pval, pval, pval_same p q (fun k => h (k + 1)) x]
theorem getD_take {s : List Int} {k i : Nat} (h : k < i) : (s.take i).getD k 0 = s.getD k 0 := by
  rw [List.getD_eq_getElem?_getD, List.getElem?_take_of_lt h, ← List.getD_eq_getElem?_getD]
end Vf

namespace Vf
/-! ## sums that turn the rests by a base -/
def Inj (F : Int → Int) (n : Nat) : Prop := ∀ x y : Int, (n : Int) ∣ F x - F y → (n : Int) ∣ x - y
theorem Dv.step {F G : Int → Int} (d : Dv F G) (x y : Int) : ∃ k, F x - F y = (x - y) * (G y + (x - y) * k) := by
  obtain ⟨k, e⟩ := d y (x - y)
  refine ⟨k, ?_⟩
  rw [show y + (x - y) = x by omega] at e
  rw [e]
  grind
theorem Dv.cong {F G : Int → Int} (d : Dv F G) {n x y : Int} (h : n ∣ x - y) : n ∣ F x - F y := by
  obtain ⟨k, e⟩ := d.step x y
  rw [e]
  exact Int.dvd_trans h (Int.dvd_mul_right ..)
theorem noinj : ∀ (n : Nat) (g : Nat → Nat), (∀ x < n + 1, g x < n) → (∀ x < n + 1, ∀ y < n + 1, g x = g y → x = y) → False
  | 0, g, h, _ => absurd (h 0 (by omega)) (by omega)
  | n + 1, g, h, hi => by
    have hv := h (n + 1) (by omega)
    refine noinj n (fun x => if g x > g (n + 1) then g x - 1 else g x) (fun x hx => ?_) (fun x hx y hy e => ?_)
    · have h1 := h x (by omega)
      have h2 : g x ≠ g (n + 1) := fun z => by have := hi x (by omega) (n + 1) (by omega) z; omega
      try dsimp only
      split <;> omega
    · have h2 : g x ≠ g (n + 1) := fun z => by have := hi x (by omega) (n + 1) (by omega) z; omega
      have h3 : g y ≠ g (n + 1) := fun z => by have := hi y (by omega) (n + 1) (by omega) z; omega
      try dsimp only at e
      refine hi x (by omega) y (by omega) ?_
      split at e <;> split at e <;> omega
theorem pig {n : Nat} {g : Nat → Nat} (h : ∀ x < n, g x < n) (hi : ∀ x < n, ∀ y < n, g x = g y → x = y) : ∀ r < n, ∃ x < n, g x = r := by
  intro r hr
  refine Classical.byContradiction fun no => ?_
  cases n with
  | zero => omega
  | succ n =>
    refine noinj n (fun x => if g x > r then g x - 1 else g x) (fun x hx => ?_) (fun x hx y hy e => ?_)
    · have h1 := h x hx
      have h2 : g x ≠ r := fun z => no ⟨x, hx, z⟩
      try dsimp only
      split <;> omega
    · have h2 : g x ≠ r := fun z => no ⟨x, hx, z⟩
      have h3 : g y ≠ r := fun z => no ⟨y, hy, z⟩
      try dsimp only at e
      refine hi x hx y hy ?_
      split at e <;> split at e <;> omega
theorem dvd_mod {n : Nat} (a b : Int) : (n : Int) ∣ a - b ↔ a % (n : Int) = b % (n : Int) :=
  ⟨fun h => Int.emod_eq_emod_iff_emod_sub_eq_zero.mpr (Int.emod_eq_zero_of_dvd h), fun h => Int.dvd_of_emod_eq_zero (Int.emod_eq_emod_iff_emod_sub_eq_zero.mp h)⟩
def rs (n : Nat) (x : Int) : Nat := (x % (n : Int)).toNat
theorem rs_eq {n : Nat} (n0 : 0 < n) (x : Int) : ((rs n x : Nat) : Int) = x % (n : Int) := Int.toNat_of_nonneg (Int.emod_nonneg _ (by omega))
theorem rs_lt {n : Nat} (n0 : 0 < n) (x : Int) : rs n x < n := by
  have h1 := rs_eq n0 x
  have h2 := Int.emod_lt_of_pos x (show (0 : Int) < (n : Int) by omega)
  omega
theorem rs_dvd {n : Nat} (n0 : 0 < n) (x y : Int) : (n : Int) ∣ x - y ↔ rs n x = rs n y := by
  rw [dvd_mod, ← rs_eq n0, ← rs_eq n0]
  omega
theorem rs_self {n : Nat} (n0 : 0 < n) (x : Int) : (n : Int) ∣ x - (rs n x : Nat) := by
  rw [rs_eq n0, dvd_mod, Int.emod_emod]
theorem small_eq {n x y : Nat} (hx : x < n) (hy : y < n) (h : (n : Int) ∣ (x : Int) - (y : Int)) : x = y := by
  rw [dvd_mod, Int.emod_eq_of_lt (by omega) (by omega), Int.emod_eq_of_lt (by omega) (by omega)] at h
  omega
theorem dvd_tr {n a b c : Int} (h1 : n ∣ a - b) (h2 : n ∣ b - c) : n ∣ a - c := by
  have := Int.dvd_add h1 h2
  rwa [show a - b + (b - c) = a - c by omega] at this
theorem dvd_sy {n a b : Int} (h1 : n ∣ a - b) : n ∣ b - a := by
  have := Int.dvd_neg.mpr h1
  rwa [show -(a - b) = b - a by omega] at this
theorem Inj.surj {F G : Int → Int} {n : Nat} (d : Dv F G) (n0 : 0 < n) (h : Inj F n) (r : Int) : ∃ x : Int, (n : Int) ∣ F x - r := by
  obtain ⟨x, hx, e⟩ := pig (n := n) (g := fun x => rs n (F (x : Int))) (fun x _ => rs_lt n0 _) (fun x hx y hy e => small_eq hx hy (h _ _ ((rs_dvd n0 _ _).mpr e))) (rs n r) (rs_lt n0 r)
  exact ⟨(x : Int), (rs_dvd n0 _ _).mpr e⟩
theorem inj_of_surj {F G : Int → Int} {n : Nat} (d : Dv F G) (n0 : 0 < n) (h : ∀ r : Int, ∃ x : Int, (n : Int) ∣ F x - r) : Inj F n := by
  let s : Int → Int := fun r => (h r).choose
  have hs : ∀ r, (n : Int) ∣ F (s r) - r := fun r => (h r).choose_spec
  have hp := pig (n := n) (g := fun r => rs n (s (r : Int))) (fun x _ => rs_lt n0 _) (fun x hx y hy e => small_eq hx hy (dvd_tr (dvd_sy (hs x)) (dvd_tr (d.cong ((rs_dvd n0 _ _).mpr e)) (hs y))))
  intro x y hxy
  obtain ⟨r1, h1, e1⟩ := hp (rs n x) (rs_lt n0 x)
  obtain ⟨r2, h2, e2⟩ := hp (rs n y) (rs_lt n0 y)
  have a1 : (n : Int) ∣ s r1 - x := (rs_dvd n0 _ _).mpr e1
  have a2 : (n : Int) ∣ s r2 - y := (rs_dvd n0 _ _).mpr e2
  have b1 : (n : Int) ∣ (r1 : Int) - F x := dvd_tr (dvd_sy (hs r1)) (d.cong a1)
  have b2 : (n : Int) ∣ (r2 : Int) - F y := dvd_tr (dvd_sy (hs r2)) (d.cong a2)
  have : r1 = r2 := small_eq h1 h2 (dvd_tr b1 (dvd_tr hxy (dvd_sy b2)))
  subst this
  exact dvd_tr (dvd_sy a1) a2
theorem Inj.of_dvd {F G : Int → Int} {m n : Nat} (d : Dv F G) (n0 : 0 < n) (hm : m ∣ n) (h : Inj F n) : Inj F m := by
  have m0 : 0 < m := Nat.pos_of_dvd_of_pos hm n0
  refine inj_of_surj d m0 fun r => ?_
  obtain ⟨x, hx⟩ := h.surj d n0 r
  exact ⟨x, Int.dvd_trans (Int.natCast_dvd_natCast.mpr hm) hx⟩
theorem Inj.mul {F : Int → Int} {a b : Nat} (hc : Nat.Coprime a b) (ha : Inj F a) (hb : Inj F b) : Inj F (a * b) := by
  intro x y h
  have h1 := ha x y (Int.dvd_trans (Int.natCast_dvd_natCast.mpr (Nat.dvd_mul_right a b)) h)
  have h2 := hb x y (Int.dvd_trans (Int.natCast_dvd_natCast.mpr (Nat.dvd_mul_left b a)) h)
  exact Int.ofNat_dvd_left.mpr (hc.mul_dvd_of_dvd_of_dvd (Int.ofNat_dvd_left.mp h1) (Int.ofNat_dvd_left.mp h2))
def Pr (p : Nat) : Prop := 2 ≤ p ∧ ∀ k, k ∣ p → k = 1 ∨ k = p
theorem Pr.euclid {p : Nat} (hp : Pr p) {a b : Int} (h : (p : Int) ∣ a * b) : (p : Int) ∣ a ∨ (p : Int) ∣ b := by
  have h1 := Int.ofNat_dvd_left.mp h
  rw [Int.natAbs_mul] at h1
  rcases hp.2 _ (Nat.gcd_dvd_left p a.natAbs) with c | c
  · exact .inr (Int.ofNat_dvd_left.mpr (Nat.Coprime.dvd_of_dvd_mul_left c h1))
  · exact .inl (Int.ofNat_dvd_left.mpr (by rw [← c]; exact Nat.gcd_dvd_right _ _))
theorem Pr.dvd_pow {p q : Nat} (hp : Pr p) (hq : Pr q) : ∀ e, p ∣ q ^ e → p = q
  | 0, h => by
    have := Nat.le_of_dvd Nat.one_pos h
    have := hp.1
    omega
  | e + 1, h => by
    rw [Nat.pow_succ] at h
    rcases hp.euclid (a := ((q ^ e : Nat) : Int)) (b := (q : Int)) (by rw [← Int.natCast_mul]; exact Int.natCast_dvd_natCast.mpr h) with c | c
    · exact hp.dvd_pow hq e (Int.natCast_dvd_natCast.mp c)
    · rcases hq.2 p (Int.natCast_dvd_natCast.mp c) with d | d
      · have := hp.1
        omega
      · exact d
theorem pow_int (p e : Nat) : ((p ^ e : Nat) : Int) = (p : Int) ^ e := by push_cast; rfl
theorem lift_up {F G : Int → Int} {p : Nat} (d : Dv F G) (hp : Pr p) (h1 : Inj F p) (hg : ∀ x : Int, ¬ (p : Int) ∣ G x) : ∀ e, Inj F (p ^ (e + 1))
  | 0 => by
    rw [Nat.pow_one]
    exact h1
  | e + 1 => by
    intro x y h
    have ih := lift_up d hp h1 hg e
    have p0 : (0 : Int) < ((p ^ (e + 1) : Nat) : Int) := by
      have := Nat.pow_pos (n := e + 1) (show 0 < p by have := hp.1; omega)
      omega
    have e2 : ((p ^ (e + 1 + 1) : Nat) : Int) = ((p ^ (e + 1) : Nat) : Int) * (p : Int) := by rw [← Int.natCast_mul, ← Nat.pow_succ]
    rw [e2] at h ⊢
    obtain ⟨t, ht⟩ := ih x y (Int.dvd_trans (Int.dvd_mul_right ..) h)
    obtain ⟨k, hk⟩ := d.step x y
    rw [hk, ht, Int.mul_assoc] at h
    have h3 : (p : Int) ∣ t * (G y + ((p ^ (e + 1) : Nat) : Int) * t * k) := Int.dvd_of_mul_dvd_mul_left (by omega) h
    rw [ht]
    refine Int.mul_dvd_mul_left _ ?_
    rcases hp.euclid h3 with c | c
    · exact c
    · have h4 : (p : Int) ∣ ((p ^ (e + 1) : Nat) : Int) * t * k := by
        rw [Int.mul_assoc]
        refine Int.dvd_trans ?_ (Int.dvd_mul_right ..)
        exact Int.natCast_dvd_natCast.mpr (by rw [Nat.pow_succ]; exact Nat.dvd_mul_left _ _)
      have := Int.dvd_sub c h4
      rw [show G y + ((p ^ (e + 1) : Nat) : Int) * t * k - ((p ^ (e + 1) : Nat) : Int) * t * k = G y by omega] at this
      exact absurd this (hg y)
theorem lift_down {F G : Int → Int} {p e : Nat} (d : Dv F G) (hp : Pr p) (h : Inj F (p ^ (e + 2))) (x : Int) : ¬ (p : Int) ∣ G x := by
  intro hx
  have p0 : 0 < p ^ (e + 1) := Nat.pow_pos (show 0 < p by have := hp.1; omega)
  obtain ⟨k, hk⟩ := d.step (x + ((p ^ (e + 1) : Nat) : Int)) x
  rw [show x + ((p ^ (e + 1) : Nat) : Int) - x = ((p ^ (e + 1) : Nat) : Int) by omega] at hk
  have e2 : ((p ^ (e + 2) : Nat) : Int) = ((p ^ (e + 1) : Nat) : Int) * (p : Int) := by rw [← Int.natCast_mul, ← Nat.pow_succ]
  have h4 : (p : Int) ∣ ((p ^ (e + 1) : Nat) : Int) * k := Int.dvd_trans (Int.natCast_dvd_natCast.mpr (by rw [Nat.pow_succ]; exact Nat.dvd_mul_left _ _)) (Int.dvd_mul_right ..)
  have h5 := h (x + ((p ^ (e + 1) : Nat) : Int)) x (by rw [hk, e2]; exact Int.mul_dvd_mul_left _ (Int.dvd_add hx h4))
  rw [show x + ((p ^ (e + 1) : Nat) : Int) - x = ((p ^ (e + 1) : Nat) : Int) by omega] at h5
  have h6 := Nat.le_of_dvd p0 (Int.natCast_dvd_natCast.mp h5)
  have h7 : p ^ (e + 2) = p ^ (e + 1) * p := Nat.pow_succ ..
  have := Nat.mul_le_mul_left (p ^ (e + 1)) hp.1
  omega
theorem lift_iff {F G : Int → Int} {p e : Nat} (d : Dv F G) (hp : Pr p) (he : 1 ≤ e) : Inj F (p ^ e) ↔ Inj F p ∧ (e = 1 ∨ ∀ x : Int, ¬ (p : Int) ∣ G x) := by
  have p0 : 0 < p ^ e := Nat.pow_pos (show 0 < p by have := hp.1; omega)
  constructor
  · intro h
    refine ⟨h.of_dvd d p0 (Nat.dvd_trans (by rw [Nat.pow_one]; exact Nat.dvd_refl _) (Nat.pow_dvd_pow p he)), ?_⟩
    rcases Nat.lt_or_ge 1 e with c | c
    · obtain ⟨f, rfl⟩ : ∃ f, e = f + 2 := ⟨e - 2, by omega⟩
      exact .inr (lift_down d hp h)
    · exact .inl (by omega)
  · intro ⟨h1, h2⟩
    rcases h2 with c | c
    · rw [c, Nat.pow_one]
      exact h1
    · obtain ⟨f, rfl⟩ : ∃ f, e = f + 1 := ⟨e - 1, by omega⟩
      exact lift_up d hp h1 c f
/-- the powers of primes that make a base -/
def made : List (Nat × Nat) → Nat
  | [] => 1
  | a :: r => a.1 ^ a.2 * made r
structure Apart (ps : List (Nat × Nat)) (n : Nat) : Prop where
  m : made ps = n
  p : ∀ a ∈ ps, Pr a.1 ∧ 1 ≤ a.2
  s : ps.Pairwise fun a b => a.1 < b.1
theorem cop_primes {p q : Nat} (hp : Pr p) (hq : Pr q) (h : p ≠ q) : Nat.Coprime p q := by
  rcases hp.2 _ (Nat.gcd_dvd_left p q) with c | c
  · exact c
  · have h1 : p ∣ q := by rw [← c]; exact Nat.gcd_dvd_right _ _
    rcases hq.2 p h1 with d | d
    · have := hp.1
      omega
    · exact absurd d h
theorem cop_made {p : Nat} (hp : Pr p) : ∀ (ps : List (Nat × Nat)), (∀ a ∈ ps, Pr a.1 ∧ p < a.1) → Nat.Coprime p (made ps)
  | [], _ => Nat.gcd_one_right p
  | a :: r, h => by
    have h1 := h a List.mem_cons_self
    exact Nat.Coprime.mul_right (Nat.Coprime.pow_right a.2 (cop_primes hp h1.1 (by omega))) (cop_made hp r fun b hb => h b (List.mem_cons_of_mem _ hb))
theorem made_pos : ∀ (ps : List (Nat × Nat)), (∀ a ∈ ps, Pr a.1 ∧ 1 ≤ a.2) → 0 < made ps
  | [], _ => Nat.one_pos
  | a :: r, h => Nat.mul_pos (Nat.pow_pos (by have := (h a List.mem_cons_self).1.1; omega)) (made_pos r fun b hb => h b (List.mem_cons_of_mem _ hb))
theorem made_iff {F G : Int → Int} (d : Dv F G) : ∀ (ps : List (Nat × Nat)), (∀ a ∈ ps, Pr a.1 ∧ 1 ≤ a.2) → ps.Pairwise (fun a b => a.1 < b.1) → (Inj F (made ps) ↔ ∀ a ∈ ps, Inj F (a.1 ^ a.2))
  | [], _, _ => ⟨fun _ a ha => by simp at ha, fun _ x y _ => ⟨x - y, by simp [made]⟩⟩
  | a :: r, hp, hs => by
    have h1 := hp a List.mem_cons_self
    have hr : ∀ b ∈ r, Pr b.1 ∧ 1 ≤ b.2 := fun b hb => hp b (List.mem_cons_of_mem _ hb)
    have ih := made_iff d r hr (List.pairwise_cons.mp hs).2
    have hc : Nat.Coprime (a.1 ^ a.2) (made r) := Nat.Coprime.pow_left _ (cop_made h1.1 r fun b hb => ⟨(hr b hb).1, (List.pairwise_cons.mp hs).1 b hb⟩)
    have pos : 0 < a.1 ^ a.2 * made r := made_pos (a :: r) hp
    show Inj F (a.1 ^ a.2 * made r) ↔ _
    constructor
    · intro h b hb
      rcases List.mem_cons.mp hb with e | e
      · rw [e]
        exact h.of_dvd d pos (Nat.dvd_mul_right _ _)
      · exact ih.mp (h.of_dvd d pos (Nat.dvd_mul_left _ _)) b e
    · intro h
      exact Inj.mul hc (h a List.mem_cons_self) (ih.mpr fun b hb => h b (List.mem_cons_of_mem _ hb))
theorem Apart.turn {F G : Int → Int} {ps : List (Nat × Nat)} {n : Nat} (A : Apart ps n) (d : Dv F G) : Inj F n ↔ ∀ a ∈ ps, Inj F a.1 ∧ (a.2 = 1 ∨ ∀ x : Int, ¬ (a.1 : Int) ∣ G x) := by
  rw [← A.m, made_iff d ps A.p A.s]
  exact ⟨fun h a ha => (lift_iff d (A.p a ha).1 (A.p a ha).2).mp (h a ha), fun h a ha => (lift_iff d (A.p a ha).1 (A.p a ha).2).mpr (h a ha)⟩
theorem line_turn {a s : Int} {n : Nat} (n0 : 0 < n) : Inj (fun x => a + x * s) n ↔ Nat.gcd s.natAbs n = 1 := by
  constructor
  · intro h
    obtain ⟨g, hg⟩ : ∃ g, Nat.gcd s.natAbs n = g := ⟨_, rfl⟩
    rw [hg]
    have g0 : 0 < g := by rw [← hg]; exact Nat.gcd_pos_of_pos_right _ n0
    obtain ⟨c, hc⟩ : g ∣ s.natAbs := by rw [← hg]; exact Nat.gcd_dvd_left _ _
    obtain ⟨m, hm⟩ : g ∣ n := by rw [← hg]; exact Nat.gcd_dvd_right _ _
    have hs : (n : Int) ∣ (m : Int) * s := by
      refine Int.ofNat_dvd_left.mpr ?_
      rw [Int.natAbs_mul, Int.natAbs_natCast, hc, hm]
      exact ⟨c, by rw [Nat.mul_left_comm, Nat.mul_assoc]⟩
    have h1 := h (m : Int) 0 (by
      show (n : Int) ∣ a + (m : Int) * s - (a + 0 * s)
      rw [Int.zero_mul, show a + (m : Int) * s - (a + 0) = (m : Int) * s by omega]
      exact hs)
    rw [Int.sub_zero] at h1
    have m0 : 0 < m := by
      rcases Nat.eq_zero_or_pos m with z | z
      · rw [z, Nat.mul_zero] at hm; omega
      · exact z
    have h2 := Nat.le_of_dvd m0 (Int.natCast_dvd_natCast.mp h1)
    rcases Nat.lt_or_ge 1 g with c2 | c2
    · have := Nat.mul_le_mul_right m c2
      omega
    · omega
  · intro h x y hxy
    have hxy : (n : Int) ∣ a + x * s - (a + y * s) := hxy
    rw [show a + x * s - (a + y * s) = (x - y) * s by grind] at hxy
    have h1 := Int.ofNat_dvd_left.mp hxy
    rw [Int.natAbs_mul] at h1
    exact Int.ofNat_dvd_left.mpr (Nat.Coprime.dvd_of_dvd_mul_right (by rw [Nat.coprime_comm]; exact h) h1)
theorem Inj.comp {F H : Int → Int} {n : Nat} (hf : Inj F n) (hh : Inj H n) : Inj (fun x => F (H x)) n := fun x y h => hh x y (hf _ _ h)
theorem prime_pow_turn {F G : Int → Int} {p e : Nat} (d : Dv F G) (hp : Pr p) (he : 2 ≤ e) : Inj F (p ^ e) ↔ Inj F (p ^ 2) := by
  rw [lift_iff d hp (by omega), lift_iff d hp (show 1 ≤ 2 by decide)]
  constructor
  · intro ⟨a, b⟩
    exact ⟨a, .inr (b.resolve_left (by omega))⟩
  · intro ⟨a, b⟩
    exact ⟨a, .inr (b.resolve_left (by omega))⟩
end Vf

namespace Vf
/-! ## a sum of L coefficients is divided everywhere if it is at 0 to L - 1 -/
theorem padd (j : Int) : ∀ (a b : List Int), b.length ≤ a.length → ∃ r : List Int, r.length = a.length ∧ ∀ x, pval r x = pval a x + j * pval b x
  | [], [], _ => ⟨[], rfl, fun x => by simp [pval]⟩
  | [], _ :: _, h => by simp at h
  | a :: p, [], _ => ⟨a :: p, rfl, fun x => by simp [pval]⟩
  | a :: p, b :: q, h => by
    obtain ⟨r, lr, hr⟩ := padd j p q (by simpa using h)
    refine ⟨(a + j * b) :: r, by simp [lr], fun x => ?_⟩
    rw [pval, hr, pval, pval]
    grind
theorem pquo (j : Int) : ∀ (p : List Int), ∃ r : List Int, r.length = p.length - 1 ∧ ∀ x, pval p x = pval p j + (x - j) * pval r x
  | [] => ⟨[], rfl, fun x => by simp [pval]⟩
  | c :: q => by
    obtain ⟨r, lr, hr⟩ := pquo j q
    obtain ⟨u, lu, hu⟩ := padd j q r (by omega)
    refine ⟨u, by rw [lu]; simp, fun x => ?_⟩
    have h := hr x
    rw [pval, pval, hu]
    grind
theorem newt : ∀ (m : Nat) (p : List Int) (j : Int), p.length = m → ∃ t : List Int, t.length = m ∧ ∀ x, nval t j x = pval p x
  | 0, p, j, h => by
    obtain rfl := List.eq_nil_of_length_eq_zero h
    exact ⟨[], rfl, fun _ => rfl⟩
  | m + 1, p, j, h => by
    obtain ⟨r, lr, hr⟩ := pquo j p
    obtain ⟨t, lt, ht⟩ := newt m r (j + 1) (by omega)
    refine ⟨pval p j :: t, by simp [lt], fun x => ?_⟩
    rw [nval, ht, hr x]
theorem div_all {n : Int} {p : List Int} (h : ∀ x < p.length, n ∣ pval p ((x : Nat) : Int)) (x : Nat) : n ∣ pval p (x : Int) := by
  obtain ⟨t, lt, ht⟩ := newt p.length p 0 rfl
  have h1 : ∀ k < p.length, n ∣ t.getD k 0 * (fac k : Int) := nw_none p.length (fun k => t.getD k 0 * (fac k : Int)) fun y hy => by
    rw [← nval_nwl t y p.length (by omega), ht]
    exact h y hy
  rw [← ht, nval_nwl t x p.length (by omega)]
  exact nw_dvd h1
theorem pval_mod (n : Int) : ∀ (p : List Int) (x y : Int), n ∣ x - y → n ∣ pval p x - pval p y
  | [], x, y, _ => by simp [pval]
  | c :: q, x, y, h => by
    obtain ⟨u, hu⟩ := h
    obtain ⟨v, hv⟩ := pval_mod n q x y ⟨u, hu⟩
    refine ⟨x * v + u * pval q y, ?_⟩
    rw [pval, pval]
    have e : pval q x = pval q y + n * v := by omega
    have e2 : x = y + n * u := by omega
    rw [e, e2]
    grind
/-- all numbers, not those from 0 on alone -/
theorem div_per {n : Nat} (n0 : 0 < n) {p q : List Int} (h : ∀ x < n, (n : Int) ∣ pval p ((x : Nat) : Int) - pval q (x : Int)) (x : Nat) : (n : Int) ∣ pval p (x : Int) - pval q (x : Int) := by
  have h1 := h (x % n) (Nat.mod_lt _ n0)
  have h0 : (n : Int) ∣ (x : Int) - ((x % n : Nat) : Int) := by
    refine ⟨((x / n : Nat) : Int), ?_⟩
    have := Nat.mod_add_div x n
    have e : ((x % n : Nat) : Int) + (n : Int) * ((x / n : Nat) : Int) = (x : Int) := by
      rw [← Int.natCast_mul, ← Int.natCast_add, this]
    omega
  have h2 := pval_mod n p _ _ h0
  have h3 := pval_mod n q _ _ h0
  have := Int.dvd_add (Int.dvd_sub h2 h3) h1
  rwa [show pval p (x : Int) - pval p ((x % n : Nat) : Int) - (pval q (x : Int) - pval q ((x % n : Nat) : Int)) + (pval p ((x % n : Nat) : Int) - pval q ((x % n : Nat) : Int)) = pval p (x : Int) - pval q (x : Int) by omega] at this
/-- the first number at which it is not divided is a rest -/
theorem first_lt {n : Nat} (n0 : 0 < n) {p q : List Int} {x : Nat} (h : ∀ y < x, (n : Int) ∣ pval p ((y : Nat) : Int) - pval q (y : Int)) (hx : ¬ (n : Int) ∣ pval p (x : Int) - pval q (x : Int)) : x < n := by
  rcases Nat.lt_or_ge x n with c | c
  · exact c
  · exact absurd (div_per n0 (fun y hy => h y (by omega)) x) hx
/-- where two sums leave other rests -/
def gapsL (n : Nat) (p q : List Int) (m : Nat) : List Int := ((List.range m).filter fun x : Nat => decide (¬ pval p (x : Int) % (n : Int) = pval q (x : Int) % (n : Int))).map fun x : Nat => (x : Int)
theorem mod_iff {n : Int} (a b : Int) : n ∣ a - b ↔ a % n = b % n := ⟨fun h => Int.emod_eq_emod_iff_emod_sub_eq_zero.mpr (Int.emod_eq_zero_of_dvd h), fun h => Int.dvd_of_emod_eq_zero (Int.emod_eq_emod_iff_emod_sub_eq_zero.mp h)⟩
theorem gaps_nil {n : Nat} {p q : List Int} : gapsL n p q n = [] ↔ ∀ x < n, (n : Int) ∣ pval p ((x : Nat) : Int) - pval q (x : Int) := by
  unfold gapsL
  rw [List.map_eq_nil_iff, List.filter_eq_nil_iff]
  constructor
  · intro h x hx
    have := h x (List.mem_range.mpr hx)
    rw [mod_iff]
    simpa using this
  · intro h x hx
    have := h x (List.mem_range.mp hx)
    rw [mod_iff] at this
    simpa using this
theorem gaps_snoc (n : Nat) (p q : List Int) (m : Nat) : gapsL n p q (m + 1) = gapsL n p q m ++ (if ¬ pval p (m : Int) % (n : Int) = pval q (m : Int) % (n : Int) then [(m : Int)] else []) := by
  unfold gapsL
  rw [List.range_succ, List.filter_append, List.map_append]
  congr 1
  by_cases c : pval p (m : Int) % (n : Int) = pval q (m : Int) % (n : Int)
  · rw [if_neg (by simpa using c)]
    simp [c]
  · rw [if_pos c]
    simp [c]
theorem gaps_len (n : Nat) (p q : List Int) (m : Nat) : (gapsL n p q m).length ≤ m := by
  unfold gapsL
  rw [List.length_map]
  exact Nat.le_trans (List.length_filter_le _ _) (by rw [List.length_range]; exact Nat.le_refl _)
theorem gaps_first {n : Nat} {p q : List Int} {x : Nat} (h : ∀ y < x, (n : Int) ∣ pval p ((y : Nat) : Int) - pval q (y : Int)) (hx : ¬ (n : Int) ∣ pval p (x : Int) - pval q (x : Int)) : ∀ d, ∃ t, gapsL n p q (x + 1 + d) = (x : Int) :: t
  | 0 => by
    have h0 : gapsL n p q x = [] := by
      unfold gapsL
      rw [List.map_eq_nil_iff, List.filter_eq_nil_iff]
      intro y hy
      have := h y (List.mem_range.mp hy)
      rw [mod_iff] at this
      simpa using this
    refine ⟨[], ?_⟩
    rw [Nat.add_zero, gaps_snoc, h0, if_pos (fun c => hx ((mod_iff _ _).mpr c))]
    rfl
  | d + 1 => by
    obtain ⟨t, ht⟩ := gaps_first h hx d
    rw [← Nat.add_assoc, gaps_snoc, ht]
    exact ⟨_, rfl⟩
/-- a least form leaves the rests of its sum, at all numbers from 0 on -/
theorem form_dvd {n : Nat} {p t h : List Int} (ht : ∀ x : Int, nval t 0 x = pval p x) (lt : h.length = t.length) (hh : ∀ k < t.length, h.getD k 0 = t.getD k 0 % (sz n k : Int)) (x : Nat) : (n : Int) ∣ nval h 0 (x : Int) - pval p (x : Int) := by
  rw [← ht, nval_nwl h x t.length (by omega), nval_nwl t x t.length (Nat.le_refl _), ← nw_sub]
  refine nw_dvd fun k hk => ?_
  rw [hh k hk, ← Int.sub_mul]
  obtain ⟨z, hz⟩ := sub_mod (sz n k : Int) (t.getD k 0)
  rw [hz, Int.mul_assoc, Int.mul_left_comm]
  exact Int.dvd_mul_of_dvd_right (sz_fac n k)
/-- two lists alike but for 0s at the end have the same values as steps -/
theorem nval_alike {a b : List Int} (h : ∀ k, a.getD k 0 = b.getD k 0) (x : Nat) : nval a 0 (x : Int) = nval b 0 (x : Int) := by
  rw [nval_nwl a x (max a.length b.length) (by omega), nval_nwl b x (max a.length b.length) (by omega)]
  have e : (fun k => a.getD k 0 * (fac k : Int)) = fun k => b.getD k 0 * (fac k : Int) := by
    funext k
    rw [h k]
  rw [e]
/-- the same values, the same coefficients but for 0s at the end -/
theorem alike {a b : List Int} (h : ∀ x, pval a x = pval b x) : ∀ k, a.getD k 0 = b.getD k 0 :=
  psub_all a b (pval_none fun x _ => by rw [pval_sub, h x, Int.sub_self])
end Vf

namespace Vf
/-! ## a sum that turns the rests is led back by a sum -/
theorem pmulE : ∀ (a b : List Int), ∃ r : List Int, ∀ x, pval r x = pval a x * pval b x
  | [], b => ⟨[], fun x => by simp [pval]⟩
  | c :: a, b => by
    obtain ⟨r, hr⟩ := pmulE a b
    refine ⟨psub (0 :: r) (b.map fun d => -(c * d)), fun x => ?_⟩
    have e : ∀ b : List Int, pval (b.map fun d => -(c * d)) x = -(c * pval b x) := by
      intro b
      induction b with
      | nil => simp [pval]
      | cons d b ih => rw [List.map_cons, pval, ih, pval]; grind
    rw [pval_sub, e, pval, hr, pval]
    grind
theorem pcompE : ∀ (a b : List Int), ∃ r : List Int, ∀ x, pval r x = pval a (pval b x)
  | [], b => ⟨[], fun x => by simp [pval]⟩
  | c :: a, b => by
    obtain ⟨r, hr⟩ := pcompE a b
    obtain ⟨s, hs⟩ := pmulE b r
    refine ⟨psub s [-c], fun x => ?_⟩
    rw [pval_sub, hs, hr]
    simp only [pval]
    grind
def iter (F : Int → Int) : Nat → Int → Int
  | 0, x => x
  | k + 1, x => F (iter F k x)
theorem iter_add (F : Int → Int) (a : Nat) (x : Int) : ∀ b, iter F (b + a) x = iter F b (iter F a x)
  | 0 => by rw [Nat.zero_add]; rfl
  | b + 1 => by
    rw [show b + 1 + a = (b + a) + 1 by omega, iter, iter_add F a x b]
    rfl
theorem iter_poly (p : List Int) : ∀ k, ∃ r : List Int, ∀ x, pval r x = iter (pval p) k x
  | 0 => ⟨[0, 1], fun x => by simp [pval, iter]⟩
  | k + 1 => by
    obtain ⟨r, hr⟩ := iter_poly p k
    obtain ⟨s, hs⟩ := pcompE p r
    exact ⟨s, fun x => by rw [hs, hr]; rfl⟩
theorem iter_cong {F : Int → Int} {n : Int} (hF : ∀ x y, n ∣ x - y → n ∣ F x - F y) : ∀ (k : Nat) (x y : Int), n ∣ x - y → n ∣ iter F k x - iter F k y
  | 0, _, _, h => h
  | k + 1, x, y, h => hF _ _ (iter_cong hF k x y h)
theorem iter_back {F : Int → Int} {n : Nat} (hI : Inj F n) : ∀ (k : Nat) (x y : Int), (n : Int) ∣ iter F k x - iter F k y → (n : Int) ∣ x - y
  | 0, _, _, h => h
  | k + 1, x, y, h => iter_back hI k x y (hI _ _ h)
theorem iter_self {F : Int → Int} {n : Nat} (n0 : 0 < n) (hF : ∀ x y, (n : Int) ∣ x - y → (n : Int) ∣ F x - F y) (hI : Inj F n) (x : Int) : ∃ d, 1 ≤ d ∧ d ≤ n ∧ (n : Int) ∣ iter F d x - x := by
  refine Classical.byContradiction fun hno => ?_
  refine noinj n (fun k => rs n (iter F k x)) (fun k _ => rs_lt n0 _) fun a ha b hb e => ?_
  have key : ∀ a b : Nat, a < b → b < n + 1 → rs n (iter F a x) = rs n (iter F b x) → False := fun a b hab hb e => by
    refine hno ⟨b - a, by omega, by omega, ?_⟩
    have h1 := (rs_dvd n0 _ _).mpr e
    rw [show b = a + (b - a) by omega, iter_add F (b - a) x a] at h1
    exact dvd_sy (iter_back hI a _ _ h1)
  rcases Nat.lt_trichotomy a b with h | h | h
  · exact (key a b h hb e).elim
  · exact h
  · exact (key b a h ha e.symm).elim
theorem iter_mul {F : Int → Int} {n : Int} (hF : ∀ x y, n ∣ x - y → n ∣ F x - F y) {d : Nat} {x : Int} (h : n ∣ iter F d x - x) : ∀ m, n ∣ iter F (d * m) x - x
  | 0 => by rw [Nat.mul_zero]; exact ⟨0, by show x - x = _; omega⟩
  | m + 1 => by
    rw [Nat.mul_succ, iter_add F d x (d * m)]
    exact dvd_tr (iter_cong hF (d * m) _ _ h) (iter_mul hF h m)
theorem dvd_facN {d n : Nat} (h1 : 1 ≤ d) (h : d ≤ n) : d ∣ fac n := Nat.dvd_trans (dvd_fac (show 0 < d by omega)) (fac_dvd h)
/-- what leads back: a sum -/
def Backs (p q : List Int) (n : Nat) : Prop := (∀ x : Int, (n : Int) ∣ pval q (pval p x) - x) ∧ ∀ x : Int, (n : Int) ∣ pval p (pval q x) - x
theorem backs_ex {p : List Int} {n : Nat} (n0 : 0 < n) (hI : Inj (pval p) n) : ∃ q, Backs p q n := by
  have hF : ∀ x y, (n : Int) ∣ x - y → (n : Int) ∣ pval p x - pval p y := fun x y => pval_mod _ p x y
  have all : ∀ x : Int, (n : Int) ∣ iter (pval p) (fac n) x - x := fun x => by
    obtain ⟨d, h1, h2, h3⟩ := iter_self n0 hF hI x
    obtain ⟨m, hm⟩ := dvd_facN h1 h2
    rw [hm]
    exact iter_mul hF h3 m
  obtain ⟨q, hq⟩ := iter_poly p (fac n - 1)
  have f1 := fac_pos n
  refine ⟨q, fun x => ?_, fun x => ?_⟩
  · have h := all x
    rw [show fac n = (fac n - 1) + 1 by omega, iter_add (pval p) 1 x (fac n - 1)] at h
    rw [hq]
    exact h
  · have h := all x
    rw [show fac n = (fac n - 1) + 1 by omega] at h
    rw [hq]
    exact h
theorem Backs.inj {p q : List Int} {n : Nat} (h : Backs p q n) : Inj (pval p) n := fun x y hxy => by
  have h1 := pval_mod _ q _ _ hxy
  exact dvd_tr (dvd_tr (dvd_sy (h.1 x)) h1) (h.1 y)
theorem Backs.sym {p q : List Int} {n : Nat} (h : Backs p q n) : Backs q p n := ⟨h.2, h.1⟩
/-- the same at all rests -/
theorem Backs.of {p q w : List Int} {n : Nat} (h : Backs p q n) (e : ∀ x : Int, (n : Int) ∣ pval w x - pval q x) : Backs p w n :=
  ⟨fun x => dvd_tr (e _) (h.1 x), fun x => dvd_tr (pval_mod _ p _ _ (e x)) (h.2 x)⟩
/-- at the rests, so at all numbers -/
theorem mod_all {w q : List Int} {n : Nat} (n0 : 0 < n) (e : ∀ x < n, (n : Int) ∣ pval w ((x : Nat) : Int) - pval q (x : Int)) (x : Int) : (n : Int) ∣ pval w x - pval q x := by
  have h1 := pval_mod _ w _ _ (rs_self n0 x)
  have h2 := pval_mod _ q _ _ (rs_self n0 x)
  exact dvd_tr h1 (dvd_tr (e (rs n x) (rs_lt n0 x)) (dvd_sy h2))
theorem Backs.same {p q q' : List Int} {n : Nat} (h : Backs p q n) (h' : Backs p q' n) (x : Int) : (n : Int) ∣ pval q x - pval q' x := by
  have h1 := pval_mod _ q _ _ (h'.2 x)
  have h2 := h.1 (pval q' x)
  exact dvd_tr (dvd_sy h1) h2
theorem tab_same {a b : List Int} {n : Nat} (h : ∀ x : Int, (n : Int) ∣ pval a x - pval b x) : tabOf a n = tabOf b n := by
  unfold tabOf
  exact List.map_congr_left fun x _ => (mod_iff _ _).mp (h x)
/-- where a rest comes from -/
theorem Backs.from {p q : List Int} {n : Nat} (n0 : 0 < n) (h : Backs p q n) {x r : Nat} (hx : x < n) (hr : r < n) : (tabOf p n).getD x 0 = (r : Int) ↔ (tabOf q n).getD r 0 = (x : Int) := by
  rw [tabOf_at p hx, tabOf_at q hr]
  have ex : (x : Int) % (n : Int) = x := Int.emod_eq_of_lt (by omega) (by omega)
  have er : (r : Int) % (n : Int) = r := Int.emod_eq_of_lt (by omega) (by omega)
  constructor
  · intro e
    rw [← er] at e
    have h1 := pval_mod _ q _ _ ((mod_iff _ _).mpr e)
    have h2 := dvd_tr (dvd_sy h1) (h.1 x)
    rw [← ex]
    exact (mod_iff _ _).mp h2
  · intro e
    rw [← ex] at e
    have h1 := pval_mod _ p _ _ ((mod_iff _ _).mpr e)
    have h2 := dvd_tr (dvd_sy h1) (h.2 r)
    rw [← er]
    exact (mod_iff _ _).mp h2
end Vf

namespace Vf
/-! ## powers by a base -/
theorem cg_mul {n a b c d : Int} (h1 : a % n = b % n) (h2 : c % n = d % n) : (a * c) % n = (b * d) % n := by
  rw [Int.mul_emod, h1, h2, ← Int.mul_emod]
theorem cg_pow {n a b : Int} (h : a % n = b % n) : ∀ k : Nat, a ^ k % n = b ^ k % n
  | 0 => by rw [Int.pow_zero, Int.pow_zero]
  | k + 1 => by
    rw [Int.pow_succ, Int.pow_succ]
    exact cg_mul (cg_pow h k) h
theorem cg_mod (n a : Int) : (a % n) % n = a % n := Int.emod_emod ..
theorem sq_pow (f : Int) (k : Nat) : (f * f) ^ k = f ^ (2 * k) := by
  rw [Int.pow_mul, show f * f = f ^ 2 by rw [Int.pow_succ, Int.pow_succ, Int.pow_zero, Int.one_mul]]
/-- the turn of raising by squares -/
theorem raise_odd {n p f : Int} {l : Nat} (h : l % 2 = 1) : ((p * f % n) * (f * f % n) ^ (l / 2)) % n = (p * f ^ l) % n := by
  have e : p * f ^ l = (p * f) * (f * f) ^ (l / 2) := by
    have z : l = 2 * (l / 2) + 1 := by omega
    rw [sq_pow]
    conv => lhs; rw [z]
    rw [Int.pow_succ, Int.mul_comm (f ^ (2 * (l / 2))), ← Int.mul_assoc]
  rw [e]
  exact cg_mul (cg_mod _ _) (cg_pow (cg_mod _ _) _)
theorem raise_even {n p f : Int} {l : Nat} (h : l % 2 = 0) : (p * (f * f % n) ^ (l / 2)) % n = (p * f ^ l) % n := by
  have e : p * f ^ l = p * (f * f) ^ (l / 2) := by
    have z : l = 2 * (l / 2) := by omega
    rw [sq_pow]
    conv => lhs; rw [z]
  rw [e]
  exact cg_mul rfl (cg_pow (cg_mod _ _) _)
/-- what turns a number round is one rest -/
theorem inv_one {n x u v : Int} (hu : (u * x) % n = 1 % n) (hv : (v * x) % n = 1 % n) : u % n = v % n := by
  have h1 : (u * (v * x)) % n = (u * 1) % n := cg_mul rfl hv
  have h2 : (v * (u * x)) % n = (v * 1) % n := cg_mul rfl hu
  rw [Int.mul_one] at h1 h2
  rw [← h1, ← h2, Int.mul_left_comm]
theorem inv_pow {n x u : Int} (hu : (u * x) % n = 1 % n) (k : Nat) : (u ^ k * x ^ k) % n = 1 % n := by
  rw [← Int.mul_pow]
  have h := cg_pow hu k
  rw [Int.one_pow] at h
  exact h
/-- open numbers: what turns round one of them tells that it is open -/
theorem open_of {n : Nat} {x u : Int} (hu : (u * x) % (n : Int) = 1 % (n : Int)) : Nat.gcd x.natAbs n = 1 := by
  have d1 : ((Nat.gcd x.natAbs n : Nat) : Int) ∣ x := Int.ofNat_dvd_left.mpr (Nat.gcd_dvd_left _ _)
  have d2 : ((Nat.gcd x.natAbs n : Nat) : Int) ∣ (n : Int) := Int.natCast_dvd_natCast.mpr (Nat.gcd_dvd_right _ _)
  have d3 : (n : Int) ∣ u * x - 1 := Int.dvd_of_emod_eq_zero (Int.emod_eq_emod_iff_emod_sub_eq_zero.mp hu)
  have d4 : ((Nat.gcd x.natAbs n : Nat) : Int) ∣ 1 := by
    have h := Int.dvd_sub (Int.dvd_trans d1 (Int.dvd_mul_left u x)) (Int.dvd_trans d2 d3)
    rw [show u * x - (u * x - 1) = 1 by omega] at h
    exact h
  have := Int.natCast_dvd_natCast.mp (show ((Nat.gcd x.natAbs n : Nat) : Int) ∣ ((1 : Nat) : Int) from d4)
  exact Nat.dvd_one.mp this
end Vf

namespace Vf
/-! ## powers by a base: Fermat, Euler, orders -/
theorem binom (a : Int) : ∀ (x m : Nat) (c : Int), x < m → nw (fun k => c * a ^ k) m x = c * (1 + a) ^ x
  | 0, m, c, h => by
    rw [nw_zero _ m h]
    show c * a ^ 0 = _
    rw [Int.pow_zero, Int.pow_zero]
  | x + 1, m + 1, c, h => by
    rw [nw_step, binom a x (m + 1) c (by omega)]
    rw [show (fun k : Nat => c * a ^ (k + 1)) = fun k => (c * a) * a ^ k by funext k; rw [Int.pow_succ]; grind]
    rw [binom a x m (c * a) (by omega), Int.pow_succ]
    grind
theorem pr_fac {p : Nat} (hp : Pr p) : ∀ k, k < p → ¬ (p : Int) ∣ (fac k : Int)
  | 0, _ => fun h => by
    have h1 := Int.le_of_dvd (by decide) h
    have h2 := hp.1
    rw [show fac 0 = 1 from rfl] at h1
    omega
  | k + 1, hk => fun h => by
    have e : ((fac (k + 1) : Nat) : Int) = ((k + 1 : Nat) : Int) * (fac k : Int) := by
      show (((k + 1) * fac k : Nat) : Int) = _
      push_cast
      rfl
    rw [e] at h
    rcases hp.euclid h with c | c
    · have := Int.le_of_dvd (by omega) c
      omega
    · exact pr_fac hp k (by omega) c
theorem ff_dvd (p : Nat) : ∀ k, (p : Int) ∣ ffj 0 (k + 1) (p : Int)
  | 0 => ⟨1, by simp [ffj]⟩
  | k + 1 => by
    rw [ffj_last]
    exact Int.dvd_trans (ff_dvd p k) (Int.dvd_mul_right ..)
theorem bin_dvd {p : Nat} (hp : Pr p) {k : Nat} (h0 : 0 < k) (h1 : k < p) : (p : Int) ∣ (bin p k : Int) := by
  obtain ⟨j, rfl⟩ : ∃ j, k = j + 1 := ⟨k - 1, by omega⟩
  have h := ff_dvd p j
  rw [ff_bin] at h
  rcases hp.euclid h with c | c
  · exact absurd c (pr_fac hp _ h1)
  · exact c
theorem nw_mid {p : Nat} (hp : Pr p) (G : Nat → Int) : ∀ m, m < p → (p : Int) ∣ nw G (m + 1) p - G 0
  | 0, _ => by
    simp only [nw, bin_zero]
    exact ⟨0, by simp⟩
  | m + 1, h => by
    rw [nw]
    have h1 := nw_mid hp G m (by omega)
    have h2 : (p : Int) ∣ G (m + 1) * (bin p (m + 1) : Int) := Int.dvd_trans (bin_dvd hp (by omega) h) (Int.dvd_mul_left ..)
    have := Int.dvd_add h1 h2
    rwa [show nw G (m + 1) p - G 0 + G (m + 1) * (bin p (m + 1) : Int) = nw G (m + 1) p + G (m + 1) * (bin p (m + 1) : Int) - G 0 by omega] at this
theorem dream {p : Nat} (hp : Pr p) (a : Int) : (p : Int) ∣ (1 + a) ^ p - (1 + a ^ p) := by
  have h := binom a p (p + 1) 1 (by omega)
  obtain ⟨q, rfl⟩ : ∃ q, p = q + 1 := ⟨p - 1, by have := hp.1; omega⟩
  rw [nw] at h
  have h1 := nw_mid hp (fun k => 1 * a ^ k) q (by omega)
  rw [bin_self] at h
  have e : (1 + a) ^ (q + 1) - (1 + a ^ (q + 1)) = nw (fun k => 1 * a ^ k) (q + 1) (q + 1) - 1 * a ^ 0 := by
    simp at h ⊢
    omega
  rw [e]
  exact h1
theorem fermat_nat {p : Nat} (hp : Pr p) : ∀ a : Nat, (p : Int) ∣ (a : Int) ^ p - a
  | 0 => by
    obtain ⟨q, rfl⟩ : ∃ q, p = q + 1 := ⟨p - 1, by have := hp.1; omega⟩
    exact ⟨0, by simp [Int.pow_succ]⟩
  | a + 1 => by
    have h := Int.dvd_add (dream hp (a : Int)) (fermat_nat hp a)
    rwa [show (1 + (a : Int)) ^ p - (1 + (a : Int) ^ p) + ((a : Int) ^ p - a) = ((a + 1 : Nat) : Int) ^ p - ((a + 1 : Nat) : Int) by
      rw [show ((a + 1 : Nat) : Int) = 1 + (a : Int) by omega]
      omega] at h
/-- one by n -/
def One (n : Nat) (y : Int) : Prop := (n : Int) ∣ y - 1
theorem One.mul {n : Nat} {y z : Int} (h1 : One n y) (h2 : One n z) : One n (y * z) := by
  have h := Int.dvd_add (Int.dvd_trans h1 (Int.dvd_mul_right (y - 1) z)) h2
  rwa [show (y - 1) * z + (z - 1) = y * z - 1 by grind] at h
theorem One.pow {n : Nat} {y : Int} (h : One n y) : ∀ k : Nat, One n (y ^ k)
  | 0 => ⟨0, by simp⟩
  | k + 1 => by
    rw [Int.pow_succ]
    exact (One.pow h k).mul h
theorem One.of_mod {n : Nat} {y : Int} : One n y ↔ y % (n : Int) = 1 % (n : Int) :=
  ⟨fun h => Int.emod_eq_emod_iff_emod_sub_eq_zero.mpr (Int.emod_eq_zero_of_dvd h), fun h => Int.dvd_of_emod_eq_zero (Int.emod_eq_emod_iff_emod_sub_eq_zero.mp h)⟩
theorem fermat {p : Nat} (hp : Pr p) {x : Int} (hx : ¬ (p : Int) ∣ x) : One p (x ^ (p - 1)) := by
  have p0 : (0 : Int) < p := by have := hp.1; omega
  have hm : ∀ k : Nat, (p : Int) ∣ x ^ k - (x % p) ^ k := fun k => Int.dvd_of_emod_eq_zero (Int.emod_eq_emod_iff_emod_sub_eq_zero.mp (cg_pow (Int.emod_emod_of_dvd x (Int.dvd_refl _)).symm k))
  obtain ⟨a, ha⟩ := Int.eq_ofNat_of_zero_le (Int.emod_nonneg x (show (p : Int) ≠ 0 by omega))
  have h1 := fermat_nat hp a
  have e : ((a : Int)) ^ p - a = (a : Int) * ((a : Int) ^ (p - 1) - 1) := by
    obtain ⟨q, rfl⟩ : ∃ q, p = q + 1 := ⟨p - 1, by have := hp.1; omega⟩
    rw [Nat.add_sub_cancel, Int.pow_succ]
    grind
  rw [e] at h1
  rcases hp.euclid h1 with c | c
  · refine absurd ?_ hx
    have := Int.emod_emod_of_dvd x (Int.dvd_refl (p : Int))
    rw [ha] at this
    exact Int.dvd_of_emod_eq_zero (by rw [ha]; exact (Int.emod_eq_zero_of_dvd c) ▸ this.symm)
  · have h2 := hm (p - 1)
    rw [ha] at h2
    have := Int.dvd_add h2 c
    show (p : Int) ∣ _
    rwa [show x ^ (p - 1) - (a : Int) ^ (p - 1) + ((a : Int) ^ (p - 1) - 1) = x ^ (p - 1) - 1 by omega] at this
/-! one more of the prime -/
def gs (y : Int) : Nat → Int
  | 0 => 0
  | m + 1 => gs y m + y ^ m
theorem gs_mul (y : Int) : ∀ m, (y - 1) * gs y m = y ^ m - 1
  | 0 => by simp [gs]
  | m + 1 => by
    rw [gs, Int.mul_add, gs_mul y m, Int.pow_succ]
    grind
theorem gs_mod {n : Nat} {y : Int} (h : One n y) : ∀ m : Nat, (n : Int) ∣ gs y m - m
  | 0 => ⟨0, by simp [gs]⟩
  | m + 1 => by
    have := Int.dvd_add (gs_mod h m) (h.pow m)
    rw [gs]
    rwa [show gs y m - (m : Int) + (y ^ m - 1) = gs y m + y ^ m - ((m + 1 : Nat) : Int) by omega] at this
theorem one_up {p e : Nat} (he : 1 ≤ e) {y : Int} (h : One (p ^ e) y) : One (p ^ (e + 1)) (y ^ p) := by
  have hp : One p y := Int.dvd_trans (Int.ofNat_dvd.mpr (by obtain ⟨k, rfl⟩ : ∃ k, e = k + 1 := ⟨e - 1, by omega⟩
                                                            rw [Nat.pow_succ]
                                                            exact Nat.dvd_mul_left ..)) h
  have h1 := gs_mod hp p
  have h2 : (p : Int) ∣ gs y p := by
    have := Int.dvd_add h1 (Int.dvd_refl (p : Int))
    rwa [show gs y p - (p : Int) + p = gs y p by omega] at this
  show (((p ^ (e + 1) : Nat)) : Int) ∣ _
  rw [← gs_mul, Nat.pow_succ]
  push_cast
  have h3 : (((p ^ e : Nat)) : Int) ∣ y - 1 := h
  push_cast at h3
  exact Int.mul_dvd_mul h3 h2
theorem euler {p : Nat} (hp : Pr p) {x : Int} (hx : ¬ (p : Int) ∣ x) : ∀ e : Nat, One (p ^ (e + 1)) (x ^ ((p - 1) * p ^ e))
  | 0 => by
    rw [Nat.pow_zero, Nat.mul_one, Nat.zero_add, Nat.pow_one]
    exact fermat hp hx
  | e + 1 => by
    have := one_up (p := p) (e := e + 1) (by omega) (euler hp hx e)
    rwa [← Int.pow_mul, Nat.mul_assoc, ← Nat.pow_succ] at this
theorem euler_two {x : Int} (hx : ¬ (2 : Int) ∣ x) : ∀ e : Nat, One (2 ^ (e + 3)) (x ^ (2 ^ (e + 1)))
  | 0 => by
    show ((2 ^ 3 : Nat) : Int) ∣ x ^ 2 - 1
    have : x % 8 = 1 ∨ x % 8 = 3 ∨ x % 8 = 5 ∨ x % 8 = 7 := by omega
    have e : x = 8 * (x / 8) + x % 8 := (Int.mul_ediv_add_emod x 8).symm
    generalize x / 8 = k at e
    rcases this with c | c | c | c <;> rw [c] at e <;> rw [e]
    · exact ⟨8 * k * k + 2 * k, by grind⟩
    · exact ⟨8 * k * k + 6 * k + 1, by grind⟩
    · exact ⟨8 * k * k + 10 * k + 3, by grind⟩
    · exact ⟨8 * k * k + 14 * k + 6, by grind⟩
  | e + 1 => by
    have := one_up (p := 2) (e := e + 3) (by omega) (euler_two hx e)
    rwa [← Int.pow_mul, ← Nat.pow_succ] at this
/-! ### primes -/
theorem has_prime : ∀ (n : Nat), 2 ≤ n → ∃ p, Pr p ∧ p ∣ n := by
  intro n
  induction n using Nat.strongRecOn with
  | _ n ih =>
    intro hn
    by_cases h : ∃ k, k ∣ n ∧ k ≠ 1 ∧ k ≠ n
    · obtain ⟨k, hk, k1, kn⟩ := h
      have k0 : 0 < k := Nat.pos_of_dvd_of_pos hk (by omega)
      have kl : k ≤ n := Nat.le_of_dvd (by omega) hk
      obtain ⟨p, hp, hd⟩ := ih k (by omega) (by omega)
      exact ⟨p, hp, Nat.dvd_trans hd hk⟩
    · refine ⟨n, ⟨hn, fun k hk => ?_⟩, Nat.dvd_refl n⟩
      rcases Classical.em (k = 1) with c | c
      · exact .inl c
      · rcases Classical.em (k = n) with c2 | c2
        · exact .inr c2
        · exact absurd ⟨k, hk, c, c2⟩ h
theorem made_prime {p : Nat} (hp : Pr p) : ∀ (ps : List (Nat × Nat)), (∀ a ∈ ps, Pr a.1 ∧ 1 ≤ a.2) → p ∣ made ps → ∃ a ∈ ps, a.1 = p
  | [], _, h => by
    have := Nat.le_of_dvd Nat.one_pos h
    have := hp.1
    omega
  | a :: r, ha, h => by
    by_cases c : a.1 = p
    · exact ⟨a, List.mem_cons_self, c⟩
    · have h1 : Nat.Coprime p (a.1 ^ a.2) := Nat.Coprime.pow_right a.2 (cop_primes hp (ha a List.mem_cons_self).1 fun e => c e.symm)
      obtain ⟨b, hb, e⟩ := made_prime hp r (fun b hb => ha b (List.mem_cons_of_mem _ hb)) (Nat.Coprime.dvd_of_dvd_mul_left h1 h)
      exact ⟨b, List.mem_cons_of_mem _ hb, e⟩
theorem head_not {a b : Nat × Nat} {r t : List (Nat × Nat)} (h : made (a :: r) = made (b :: t)) (ha : ∀ c ∈ a :: r, Pr c.1 ∧ 1 ≤ c.2) (hb : ∀ c ∈ b :: t, Pr c.1 ∧ 1 ≤ c.2) (s : (b :: t).Pairwise fun u v => u.1 < v.1) : ¬ a.1 < b.1 := fun c => by
  have pa := ha a List.mem_cons_self
  have h2 : a.1 ∣ made (a :: r) := by
    obtain ⟨k, hk⟩ : ∃ k, a.2 = k + 1 := ⟨a.2 - 1, by omega⟩
    show a.1 ∣ a.1 ^ a.2 * made r
    rw [hk, Nat.pow_succ, Nat.mul_assoc]
    exact Nat.dvd_trans (Nat.dvd_mul_right _ _) (Nat.dvd_mul_left _ _)
  rw [h] at h2
  obtain ⟨d, hd, e⟩ := made_prime pa.1 _ hb h2
  rcases List.mem_cons.mp hd with rfl | hd
  · omega
  · have := (List.pairwise_cons.mp s).1 d hd
    omega
theorem pow_not {p e f A B : Nat} (hp : 2 ≤ p) (hA : Nat.Coprime p A) (h : p ^ e * A = p ^ f * B) : ¬ e < f := fun c => by
  obtain ⟨d, rfl⟩ : ∃ d, f = e + (d + 1) := ⟨f - e - 1, by omega⟩
  rw [Nat.pow_add, Nat.mul_assoc] at h
  have h1 := Nat.eq_of_mul_eq_mul_left (Nat.pow_pos (by omega)) h
  have h2 : p ∣ A := by
    rw [h1, Nat.pow_succ, Nat.mul_comm (p ^ d) p, Nat.mul_assoc]
    exact Nat.dvd_mul_right _ _
  have h3 : p ∣ Nat.gcd p A := Nat.dvd_gcd (Nat.dvd_refl p) h2
  rw [hA] at h3
  have := Nat.le_of_dvd Nat.one_pos h3
  omega
theorem made_two {a : Nat × Nat} {r : List (Nat × Nat)} (h : ∀ c ∈ a :: r, Pr c.1 ∧ 1 ≤ c.2) : 2 ≤ made (a :: r) := by
  have pa := h a List.mem_cons_self
  have h1 := made_pos r fun b hb => h b (List.mem_cons_of_mem _ hb)
  have h2 : a.1 ≤ a.1 ^ a.2 := Nat.le_self_pow (by have := pa.2; omega) a.1
  have h3 := Nat.mul_le_mul h2 h1
  have := pa.1.1
  show 2 ≤ a.1 ^ a.2 * made r
  rw [Nat.mul_one] at h3
  omega
theorem uniq_made : ∀ (ps qs : List (Nat × Nat)), (∀ a ∈ ps, Pr a.1 ∧ 1 ≤ a.2) → (∀ a ∈ qs, Pr a.1 ∧ 1 ≤ a.2) → ps.Pairwise (fun a b => a.1 < b.1) → qs.Pairwise (fun a b => a.1 < b.1) → made ps = made qs → ps = qs
  | [], [], _, _, _, _, _ => rfl
  | [], b :: t, _, hb, _, _, h => by
    have := made_two hb
    rw [← h] at this
    exact absurd this (by decide)
  | a :: r, [], ha, _, _, _, h => by
    have := made_two ha
    rw [h] at this
    exact absurd this (by decide)
  | a :: r, b :: t, ha, hb, sa, sb, h => by
    have n1 := head_not h ha hb sb
    have n2 := head_not h.symm hb ha sa
    have e1 : a.1 = b.1 := by omega
    have pa := ha a List.mem_cons_self
    have hr : ∀ c ∈ r, Pr c.1 ∧ 1 ≤ c.2 := fun c hc => ha c (List.mem_cons_of_mem _ hc)
    have ht : ∀ c ∈ t, Pr c.1 ∧ 1 ≤ c.2 := fun c hc => hb c (List.mem_cons_of_mem _ hc)
    have c1 : Nat.Coprime a.1 (made r) := cop_made pa.1 r fun c hc => ⟨(hr c hc).1, (List.pairwise_cons.mp sa).1 c hc⟩
    have c2 : Nat.Coprime a.1 (made t) := by
      rw [e1]
      exact cop_made (hb b List.mem_cons_self).1 t fun c hc => ⟨(ht c hc).1, (List.pairwise_cons.mp sb).1 c hc⟩
    have h' : a.1 ^ a.2 * made r = a.1 ^ b.2 * made t := by
      have : a.1 ^ a.2 * made r = b.1 ^ b.2 * made t := h
      rwa [← e1] at this
    have m1 := pow_not pa.1.1 c1 h'
    have m2 := pow_not pa.1.1 c2 h'.symm
    have e2 : a.2 = b.2 := by omega
    rw [e2] at h'
    have h3 := Nat.eq_of_mul_eq_mul_left (Nat.pow_pos (by have := pa.1.1; omega)) h'
    rw [uniq_made r t hr ht (List.pairwise_cons.mp sa).2 (List.pairwise_cons.mp sb).2 h3, Prod.ext e1 e2]
theorem Apart.uniq {ps qs : List (Nat × Nat)} {n : Nat} (h1 : Apart ps n) (h2 : Apart qs n) : ps = qs := uniq_made ps qs h1.p h2.p h1.s h2.s (h1.m.trans h2.m.symm)
/-! ### a length for all numbers that are open -/
theorem One.of_dvd {n k m : Nat} {x : Int} (h : One n (x ^ k)) (hd : k ∣ m) : One n (x ^ m) := by
  obtain ⟨j, rfl⟩ := hd
  rw [Int.pow_mul]
  exact h.pow j
theorem One.both {a b : Nat} {y : Int} (hc : Nat.Coprime a b) (h1 : One a y) (h2 : One b y) : One (a * b) y := by
  have g1 := Int.ofNat_dvd_left.mp h1
  have g2 := Int.ofNat_dvd_left.mp h2
  exact Int.ofNat_dvd_left.mpr (Nat.Coprime.mul_dvd_of_dvd_of_dvd hc g1 g2)
/-- the cycles of a power of a prime -/
def cyc (a : Nat × Nat) : List Nat := if a.1 = 2 ∧ 2 < a.2 then [2, 2 ^ (a.2 - 2)] else [(a.1 - 1) * a.1 ^ (a.2 - 1)]
theorem cyc_one {a : Nat × Nat} (hp : Pr a.1) (he : 1 ≤ a.2) {x : Int} (hx : ¬ (a.1 : Int) ∣ x) {L : Nat} (h : ∀ m ∈ cyc a, m ∣ L) : One (a.1 ^ a.2) (x ^ L) := by
  obtain ⟨p, e⟩ := a
  unfold cyc at h
  dsimp only at *
  split at h
  · rename_i c
    obtain ⟨rfl, c2⟩ := c
    obtain ⟨d, rfl⟩ : ∃ d, e = d + 3 := ⟨e - 3, by omega⟩
    exact (euler_two hx d).of_dvd (h _ (by simp [show d + 3 - 2 = d + 1 by omega]))
  · obtain ⟨d, rfl⟩ : ∃ d, e = d + 1 := ⟨e - 1, by omega⟩
    exact (euler hp hx d).of_dvd (h _ (by simp))
theorem made_one {x : Int} {L : Nat} : ∀ (ps : List (Nat × Nat)), (∀ a ∈ ps, Pr a.1 ∧ 1 ≤ a.2) → ps.Pairwise (fun a b => a.1 < b.1) → (∀ a ∈ ps, ¬ (a.1 : Int) ∣ x) → (∀ a ∈ ps, ∀ m ∈ cyc a, m ∣ L) → One (made ps) (x ^ L)
  | [], _, _, _, _ => ⟨x ^ L - 1, by simp [made]⟩
  | a :: r, hp, hs, hx, hL => by
    have hr : ∀ b ∈ r, Pr b.1 ∧ 1 ≤ b.2 := fun b hb => hp b (List.mem_cons_of_mem _ hb)
    have pa := hp a List.mem_cons_self
    refine One.both (Nat.Coprime.pow_left _ (cop_made pa.1 r fun b hb => ⟨(hr b hb).1, (List.pairwise_cons.mp hs).1 b hb⟩)) ?_ ?_
    · exact cyc_one pa.1 pa.2 (hx a List.mem_cons_self) (hL a List.mem_cons_self)
    · exact made_one r hr (List.pairwise_cons.mp hs).2 (fun b hb => hx b (List.mem_cons_of_mem _ hb)) fun b hb => hL b (List.mem_cons_of_mem _ hb)
theorem open_not {n : Nat} {x : Int} (hg : Nat.gcd x.natAbs n = 1) {p : Nat} (hp : Pr p) (hd : p ∣ n) : ¬ (p : Int) ∣ x := fun h => by
  have h1 := Nat.dvd_gcd (Int.ofNat_dvd_left.mp h) hd
  rw [hg] at h1
  have := Nat.le_of_dvd Nat.one_pos h1
  have := hp.1
  omega
theorem mem_dvd : ∀ (ps : List (Nat × Nat)) (a : Nat × Nat), a ∈ ps → 1 ≤ a.2 → a.1 ∣ made ps
  | b :: r, a, h, ha => by
    show a.1 ∣ b.1 ^ b.2 * made r
    rcases List.mem_cons.mp h with rfl | h
    · obtain ⟨k, hk⟩ : ∃ k, a.2 = k + 1 := ⟨a.2 - 1, by omega⟩
      rw [hk, Nat.pow_succ, Nat.mul_assoc]
      exact Nat.dvd_trans (Nat.dvd_mul_right _ _) (Nat.dvd_mul_left _ _)
    · exact Nat.dvd_trans (mem_dvd r a h ha) (Nat.dvd_mul_left _ _)
theorem Apart.euler {ps : List (Nat × Nat)} {n : Nat} (A : Apart ps n) {x : Int} (hg : Nat.gcd x.natAbs n = 1) {L : Nat} (hL : ∀ a ∈ ps, ∀ m ∈ cyc a, m ∣ L) : One n (x ^ L) := by
  have h := made_one (x := x) (L := L) ps A.p A.s (fun a ha => open_not hg (A.p a ha).1 (by rw [← A.m]; exact mem_dvd ps a ha (A.p a ha).2)) hL
  rwa [A.m] at h
end Vf

namespace Vf
/-! ## orders -/
theorem One.rest {n : Nat} {x : Int} {a k : Nat} (h1 : One n (x ^ a)) (h2 : One n (x ^ k)) : One n (x ^ (k % a)) := by
  have h3 : One n ((x ^ a) ^ (k / a)) := h1.pow _
  rw [← Int.pow_mul] at h3
  have e : x ^ k = x ^ (a * (k / a)) * x ^ (k % a) := by rw [← Int.pow_add, Nat.div_add_mod]
  have h4 : (n : Int) ∣ x ^ k - 1 := h2
  have h5 : (n : Int) ∣ (x ^ (a * (k / a)) - 1) * x ^ (k % a) := Int.dvd_trans h3 (Int.dvd_mul_right ..)
  have := Int.dvd_sub h4 h5
  show (n : Int) ∣ _
  rwa [e, show x ^ (a * (k / a)) * x ^ (k % a) - 1 - (x ^ (a * (k / a)) - 1) * x ^ (k % a) = x ^ (k % a) - 1 by grind] at this
theorem One.gcd {n : Nat} {x : Int} (a k : Nat) (h1 : One n (x ^ a)) (h2 : One n (x ^ k)) : One n (x ^ Nat.gcd a k) := by
  induction a, k using Nat.gcd.induction with
  | H0 k => rwa [Nat.gcd_zero_left]
  | H1 a k ha ih =>
    rw [Nat.gcd_rec]
    exact ih (h1.rest h2) h1
/-- no prime can be taken away -/
def Least (n : Nat) (x : Int) (d : Nat) : Prop := 0 < d ∧ One n (x ^ d) ∧ ∀ p, Pr p → p ∣ d → ¬ One n (x ^ (d / p))
theorem Least.dvd {n d : Nat} {x : Int} (h : Least n x d) {k : Nat} (hk : One n (x ^ k)) : d ∣ k := by
  have hg := One.gcd d k h.2.1 hk
  have h1 : Nat.gcd d k ∣ d := Nat.gcd_dvd_left d k
  obtain ⟨q, hq⟩ := h1
  by_cases c : q = 1
  · rw [c, Nat.mul_one] at hq
    rw [hq]
    exact Nat.gcd_dvd_right d k
  · have q0 : q ≠ 0 := fun z => by
      rw [z, Nat.mul_zero] at hq
      have := h.1
      omega
    obtain ⟨p, hp, r, hr⟩ := has_prime q (by omega)
    refine absurd (hg.of_dvd ?_) (h.2.2 p hp ?_)
    · refine ⟨r, ?_⟩
      refine Nat.div_eq_of_eq_mul_right (by have := hp.1; omega) ?_
      rw [Nat.mul_left_comm, ← hr]
      exact hq
    · rw [hq, hr]
      exact ⟨Nat.gcd d k * r, by rw [Nat.mul_left_comm]⟩
theorem Least.uniq {n d e : Nat} {x : Int} (h1 : Least n x d) (h2 : Least n x e) : d = e := Nat.dvd_antisymm (h1.dvd h2.2.1) (h2.dvd h1.2.1)
/-! ### the descent -/
/-- q stands in m exactly f times -/
def Ex (q f m : Nat) : Prop := ∃ c, m = q ^ f * c ∧ Nat.Coprime q c
theorem Ex.not {q m : Nat} (hq : Pr q) (h : Ex q 0 m) : ¬ q ∣ m := fun hd => by
  obtain ⟨c, rfl, hc⟩ := h
  rw [Nat.pow_zero, Nat.one_mul] at hd
  have h3 : q ∣ Nat.gcd q c := Nat.dvd_gcd (Nat.dvd_refl q) hd
  rw [hc] at h3
  have := Nat.le_of_dvd Nat.one_pos h3
  have := hq.1
  omega
theorem Ex.dvd {q f m : Nat} (h : Ex q (f + 1) m) : q ∣ m := by
  obtain ⟨c, rfl, _⟩ := h
  rw [Nat.pow_succ, Nat.mul_comm (q ^ f) q, Nat.mul_assoc]
  exact Nat.dvd_mul_right _ _
theorem Ex.down {q f m : Nat} (hq : Pr q) (h : Ex q (f + 1) m) : Ex q f (m / q) := by
  obtain ⟨c, rfl, hc⟩ := h
  refine ⟨c, ?_, hc⟩
  refine Nat.div_eq_of_eq_mul_right (by have := hq.1; omega) ?_
  rw [Nat.pow_succ, Nat.mul_comm (q ^ f) q, Nat.mul_assoc]
theorem Ex.other {p q f m : Nat} (hp : Pr p) (hq : Pr q) (hn : p ≠ q) (hd : p ∣ m) (h : Ex q f m) : Ex q f (m / p) := by
  obtain ⟨c, rfl, hc⟩ := h
  have h1 : Nat.Coprime p (q ^ f) := Nat.Coprime.pow_right f (cop_primes hp hq hn)
  obtain ⟨d, rfl⟩ := Nat.Coprime.dvd_of_dvd_mul_left h1 hd
  refine ⟨d, ?_, Nat.Coprime.coprime_mul_left_right hc⟩
  refine Nat.div_eq_of_eq_mul_right (by have := hp.1; omega) ?_
  rw [Nat.mul_left_comm]
theorem ex_made : ∀ (ps : List (Nat × Nat)), (∀ a ∈ ps, Pr a.1 ∧ 1 ≤ a.2) → ps.Pairwise (fun a b => a.1 < b.1) → ∀ a ∈ ps, Ex a.1 a.2 (made ps)
  | b :: r, hp, hs, a, ha => by
    have hr : ∀ c ∈ r, Pr c.1 ∧ 1 ≤ c.2 := fun c hc => hp c (List.mem_cons_of_mem _ hc)
    rcases List.mem_cons.mp ha with rfl | h
    · exact ⟨made r, rfl, cop_made (hp a List.mem_cons_self).1 r fun c hc => ⟨(hr c hc).1, (List.pairwise_cons.mp hs).1 c hc⟩⟩
    · obtain ⟨c, e, hc⟩ := ex_made r hr (List.pairwise_cons.mp hs).2 a h
      refine ⟨b.1 ^ b.2 * c, ?_, Nat.Coprime.mul_right (Nat.Coprime.pow_right _ (cop_primes (hr a h).1 (hp b List.mem_cons_self).1 fun z => ?_)) hc⟩
      · show b.1 ^ b.2 * made r = _
        rw [e, Nat.mul_left_comm]
      · have := (List.pairwise_cons.mp hs).1 a h
        omega
/-- how far the descent is: `done` of the primes are at rest, the others still whole -/
structure Down (n : Nat) (x : Int) (L d : Nat) (rest : List (Nat × Nat)) : Prop where
  d0 : 0 < d
  dl : d ∣ L
  one : One n (x ^ d)
  whole : ∀ a ∈ rest, Ex a.1 a.2 d
  at_rest : ∀ p, Pr p → p ∣ d → (∀ a ∈ rest, a.1 ≠ p) → ¬ One n (x ^ (d / p))
theorem Down.begin {n L : Nat} {x : Int} {ps : List (Nat × Nat)} (A : Apart ps L) (L0 : 0 < L) (h : One n (x ^ L)) : Down n x L L ps :=
  ⟨L0, Nat.dvd_refl L, h, fun a ha => by have := ex_made ps A.p A.s a ha; rwa [A.m] at this, fun p hp hd hno => by
    rw [← A.m] at hd
    obtain ⟨a, ha, e⟩ := made_prime hp ps A.p hd
    exact absurd e (hno a ha)⟩
theorem Down.done {n L d : Nat} {x : Int} (h : Down n x L d []) : Least n x d := ⟨h.d0, h.one, fun p hp hd => h.at_rest p hp hd fun a ha => nomatch ha⟩
/-- inside the turns of one prime: f of its times are left -/
structure Turn (n : Nat) (x : Int) (L d p f : Nat) (rest : List (Nat × Nat)) : Prop where
  d0 : 0 < d
  dl : d ∣ L
  one : One n (x ^ d)
  ex : Ex p f d
  whole : ∀ a ∈ rest, Ex a.1 a.2 d
  at_rest : ∀ q, Pr q → q ∣ d → q ≠ p → (∀ a ∈ rest, a.1 ≠ q) → ¬ One n (x ^ (d / q))
theorem Down.enter {n L d : Nat} {x : Int} {a : Nat × Nat} {rest : List (Nat × Nat)} (h : Down n x L d (a :: rest)) : Turn n x L d a.1 a.2 rest :=
  ⟨h.d0, h.dl, h.one, h.whole a List.mem_cons_self, fun b hb => h.whole b (List.mem_cons_of_mem _ hb), fun q hq hd hn ha => h.at_rest q hq hd fun b hb => by
    rcases List.mem_cons.mp hb with rfl | hb
    · exact fun e => hn e.symm
    · exact ha b hb⟩
theorem Turn.next {n L d p f : Nat} {x : Int} {rest : List (Nat × Nat)} (h : Turn n x L d p (f + 1) rest) (hp : Pr p) (hr : ∀ a ∈ rest, Pr a.1 ∧ a.1 ≠ p) (h1 : One n (x ^ (d / p))) : Turn n x L (d / p) p f rest := by
  have hd := h.ex.dvd
  obtain ⟨k, hk⟩ := hd
  have p0 : 0 < p := by have := hp.1; omega
  have ek : d / p = k := by rw [hk, Nat.mul_div_cancel_left _ p0]
  have k0 : 0 < k := by
    rcases Nat.eq_zero_or_pos k with z | z
    · rw [z, Nat.mul_zero] at hk
      have := h.d0
      omega
    · exact z
  refine ⟨by omega, ?_, h1, h.ex.down hp, fun a ha => (h.whole a ha).other hp (hr a ha).1 (fun e => (hr a ha).2 e.symm) h.ex.dvd, fun q hq hqd hn ha hO => ?_⟩
  · rw [ek]
    exact Nat.dvd_trans ⟨p, by rw [hk, Nat.mul_comm]⟩ h.dl
  · rw [ek] at hqd hO
    obtain ⟨j, hj⟩ := hqd
    have q0 : 0 < q := by have := hq.1; omega
    refine h.at_rest q hq ⟨p * j, by rw [hk, hj, Nat.mul_left_comm]⟩ hn ha (hO.of_dvd ?_)
    rw [hk, hj, Nat.mul_div_cancel_left _ q0, Nat.mul_left_comm, Nat.mul_div_cancel_left _ q0]
    exact Nat.dvd_mul_left _ _
theorem Turn.stop {n L d p f : Nat} {x : Int} {rest : List (Nat × Nat)} (h : Turn n x L d p f rest) (h1 : ¬ One n (x ^ (d / p))) : Down n x L d rest :=
  ⟨h.d0, h.dl, h.one, h.whole, fun q hq hd ha => by
    by_cases c : q = p
    · rw [c]
      exact h1
    · exact h.at_rest q hq hd c ha⟩
theorem Turn.out {n L d p : Nat} {x : Int} {rest : List (Nat × Nat)} (hp : Pr p) (h : Turn n x L d p 0 rest) : Down n x L d rest :=
  ⟨h.d0, h.dl, h.one, h.whole, fun q hq hd ha => by
    by_cases c : q = p
    · rw [c] at hd
      exact absurd hd (h.ex.not hp)
    · exact h.at_rest q hq hd c ha⟩
end Vf

namespace Vf
/-! ## cycles, the common length -/
def prd (l : List Nat) : Nat := l.foldr (fun a b => a * b) 1
theorem prd_app : ∀ l m, prd (l ++ m) = prd l * prd m
  | [], m => by simp [prd]
  | a :: l, m => by
    show a * prd (l ++ m) = a * prd l * prd m
    rw [prd_app l m, Nat.mul_assoc]
theorem prd_pos : ∀ l : List Nat, (∀ m ∈ l, 0 < m) → 0 < prd l
  | [], _ => Nat.one_pos
  | a :: l, h => Nat.mul_pos (h a List.mem_cons_self) (prd_pos l fun m hm => h m (List.mem_cons_of_mem _ hm))
def lcs (l : List Nat) : Nat := l.foldl Nat.lcm 1
theorem lcs_snoc (l : List Nat) (c : Nat) : lcs (l ++ [c]) = Nat.lcm (lcs l) c := by simp [lcs]
theorem fl_dvd : ∀ (l : List Nat) (b : Nat), b ∣ l.foldl Nat.lcm b ∧ ∀ m ∈ l, m ∣ l.foldl Nat.lcm b
  | [], b => ⟨Nat.dvd_refl b, fun m hm => nomatch hm⟩
  | a :: l, b => by
    have h := fl_dvd l (Nat.lcm b a)
    refine ⟨Nat.dvd_trans (Nat.dvd_lcm_left b a) h.1, fun m hm => ?_⟩
    rcases List.mem_cons.mp hm with rfl | hm
    · exact Nat.dvd_trans (Nat.dvd_lcm_right b m) h.1
    · exact h.2 m hm
theorem lcs_dvd {l : List Nat} {m : Nat} (h : m ∈ l) : m ∣ lcs l := (fl_dvd l 1).2 m h
theorem fl_least : ∀ (l : List Nat) (b k : Nat), b ∣ k → (∀ m ∈ l, m ∣ k) → l.foldl Nat.lcm b ∣ k
  | [], _, _, h, _ => h
  | a :: l, b, k, h, hl => fl_least l _ k (Nat.lcm_dvd h (hl a List.mem_cons_self)) fun m hm => hl m (List.mem_cons_of_mem _ hm)
theorem mem_prd : ∀ (l : List Nat) (m : Nat), m ∈ l → m ∣ prd l
  | a :: l, m, h => by
    show m ∣ a * prd l
    rcases List.mem_cons.mp h with rfl | h
    · exact Nat.dvd_mul_right _ _
    · exact Nat.dvd_trans (mem_prd l m h) (Nat.dvd_mul_left _ _)
theorem lcs_le {l : List Nat} (h : ∀ m ∈ l, 0 < m) : 0 < lcs l ∧ lcs l ≤ prd l := by
  have h1 : lcs l ∣ prd l := fl_least l 1 (prd l) (Nat.one_dvd _) (mem_prd l)
  have h2 := prd_pos l h
  exact ⟨Nat.pos_of_dvd_of_pos h1 h2, Nat.le_of_dvd h2 h1⟩
def cycs (ps : List (Nat × Nat)) : List Nat := ps.flatMap cyc
theorem cyc_small {a : Nat × Nat} (hp : Pr a.1 ∧ 1 ≤ a.2) : (∀ m ∈ cyc a, 0 < m) ∧ prd (cyc a) ≤ a.1 ^ a.2 := by
  obtain ⟨p, e⟩ := a
  have p2 := hp.1.1
  have e1 := hp.2
  unfold cyc
  dsimp only at *
  split
  · rename_i c
    obtain ⟨rfl, c2⟩ := c
    refine ⟨fun m hm => ?_, ?_⟩
    · rcases List.mem_cons.mp hm with rfl | hm
      · decide
      · rw [List.mem_singleton.mp hm]
        exact Nat.pow_pos (by decide)
    · show 2 * (2 ^ (e - 2) * 1) ≤ 2 ^ e
      rw [Nat.mul_one, Nat.mul_comm, ← Nat.pow_succ]
      exact Nat.pow_le_pow_right (by decide) (by omega)
  · refine ⟨fun m hm => ?_, ?_⟩
    · rw [List.mem_singleton.mp hm]
      exact Nat.mul_pos (by omega) (Nat.pow_pos (by omega))
    · show (p - 1) * p ^ (e - 1) * 1 ≤ p ^ e
      obtain ⟨d, rfl⟩ : ∃ d, e = d + 1 := ⟨e - 1, by omega⟩
      rw [Nat.mul_one, Nat.add_sub_cancel, Nat.pow_succ, Nat.mul_comm]
      exact Nat.mul_le_mul_left _ (by omega)
theorem cycs_small : ∀ (ps : List (Nat × Nat)), (∀ a ∈ ps, Pr a.1 ∧ 1 ≤ a.2) → (∀ m ∈ cycs ps, 0 < m) ∧ prd (cycs ps) ≤ made ps
  | [], _ => ⟨fun m hm => absurd hm (by simp [cycs]), Nat.le_refl 1⟩
  | a :: r, h => by
    have h1 := cyc_small (h a List.mem_cons_self)
    have h2 := cycs_small r fun b hb => h b (List.mem_cons_of_mem _ hb)
    have e : cycs (a :: r) = cyc a ++ cycs r := by simp [cycs]
    rw [e]
    refine ⟨fun m hm => ?_, ?_⟩
    · rcases List.mem_append.mp hm with c | c
      · exact h1.1 m c
      · exact h2.1 m c
    · rw [prd_app]
      exact Nat.mul_le_mul h1.2 h2.2
theorem cycs_snoc (ps : List (Nat × Nat)) (a : Nat × Nat) : cycs (ps ++ [a]) = cycs ps ++ cyc a := by simp [cycs]
/-- the length common to all that is open by n -/
theorem Apart.length {ps : List (Nat × Nat)} {n : Nat} (A : Apart ps n) : 0 < lcs (cycs ps) ∧ lcs (cycs ps) ≤ n ∧ ∀ x : Int, Nat.gcd x.natAbs n = 1 → One n (x ^ lcs (cycs ps)) := by
  have h := cycs_small ps A.p
  have h1 := lcs_le h.1
  refine ⟨h1.1, Nat.le_trans h1.2 (by rw [← A.m]; exact h.2), fun x hx => A.euler hx fun a ha m hm => lcs_dvd ?_⟩
  exact List.mem_flatMap.mpr ⟨a, ha, hm⟩
theorem pow_step {p f k e : Nat} (h : p * f ^ k = e) : (k % 2 = 1 → (p * f) * (f * f) ^ (k / 2) = e) ∧ (k % 2 = 0 → p * (f * f) ^ (k / 2) = e) := by
  have sq : (f * f) ^ (k / 2) = f ^ (2 * (k / 2)) := by rw [Nat.pow_mul, Nat.pow_two]
  refine ⟨fun o => ?_, fun o => ?_⟩
  · rw [sq, Nat.mul_assoc, ← Nat.pow_succ', show (2 * (k / 2)).succ = k by omega]
    exact h
  · rw [sq, show 2 * (k / 2) = k by omega]
    exact h
end Vf

namespace Vf
/-! ## tails and rounds of the powers of any number -/
theorem Pr.mul {p : Nat} (hp : Pr p) {a b : Nat} (h : p ∣ a * b) : p ∣ a ∨ p ∣ b := by
  have h1 : (p : Int) ∣ (a : Int) * (b : Int) := by
    rw [← Int.natCast_mul]
    exact Int.ofNat_dvd.mpr h
  rcases hp.euclid h1 with z | z
  · exact .inl (Int.ofNat_dvd.mp z)
  · exact .inr (Int.ofNat_dvd.mp z)
theorem Pr.pow {p : Nat} (hp : Pr p) {a : Nat} : ∀ {k : Nat}, p ∣ a ^ k → p ∣ a
  | 0, h => by
    have := Nat.le_of_dvd Nat.one_pos h
    have := hp.1
    omega
  | k + 1, h => by
    rw [Nat.pow_succ] at h
    rcases hp.mul h with z | z
    · exact hp.pow z
    · exact z
/-- c and l: what of n shares a power with x, and what is open to it -/
structure Sp2 (n : Nat) (x : Int) (c l : Nat) : Prop where
  m : c * l = n
  op : Nat.gcd x.natAbs l = 1
  cl : ∃ k, c ∣ x.natAbs ^ k
theorem Sp2.uniq {n : Nat} {x : Int} {c l c' l' : Nat} (h : Sp2 n x c l) (h' : Sp2 n x c' l') (n0 : 0 < n) : c = c' ∧ l = l' := by
  have key : ∀ {c l c' l' : Nat}, Sp2 n x c l → Sp2 n x c' l' → c ∣ c' := fun {c l c' l'} h h' => by
    obtain ⟨k, hk⟩ := h.cl
    have h1 : Nat.Coprime c l' := Nat.Coprime.coprime_dvd_left hk (Nat.Coprime.pow_left k h'.op)
    refine Nat.Coprime.dvd_of_dvd_mul_right h1 ?_
    rw [h'.m, ← h.m]
    exact Nat.dvd_mul_right ..
  have e := Nat.dvd_antisymm (key h h') (key h' h)
  subst e
  refine ⟨rfl, ?_⟩
  have c0 : 0 < c := by
    rcases Nat.eq_zero_or_pos c with z | z
    · have := h.m
      rw [z, Nat.zero_mul] at this
      omega
    · exact z
  exact Nat.eq_of_mul_eq_mul_left c0 (h.m.trans h'.m.symm)
/-- t and d: the tail, the round -/
structure TR (n : Nat) (x : Int) (t d : Nat) : Prop where
  ex : ∃ c l, Sp2 n x c l ∧ c ∣ x.natAbs ^ t ∧ (∀ s, c ∣ x.natAbs ^ s → t ≤ s) ∧ Least l x d
theorem TR.pos {n : Nat} {x : Int} {t d : Nat} (h : TR n x t d) : 0 < d := by
  obtain ⟨c, l, _, _, _, L⟩ := h.ex
  exact L.1
/-- which powers leave the same rest -/
theorem TR.eq_iff {n : Nat} {x : Int} {t d : Nat} (h : TR n x t d) {i k : Nat} (k0 : 0 < k) : x ^ i % (n : Int) = x ^ (i + k) % (n : Int) ↔ t ≤ i ∧ d ∣ k := by
  obtain ⟨c, l, s, ht, hm, L⟩ := h.ex
  have e1 : x ^ i % (n : Int) = x ^ (i + k) % (n : Int) ↔ (n : Int) ∣ x ^ i * (x ^ k - 1) := by
    rw [show x ^ i * (x ^ k - 1) = x ^ (i + k) - x ^ i by rw [Int.pow_add]; grind]
    constructor
    · exact fun e => Int.dvd_of_emod_eq_zero (Int.emod_eq_emod_iff_emod_sub_eq_zero.mp e.symm)
    · exact fun e => (Int.emod_eq_emod_iff_emod_sub_eq_zero.mpr (Int.emod_eq_zero_of_dvd e)).symm
  rw [e1, Int.ofNat_dvd_left, Int.natAbs_mul, Int.natAbs_pow]
  constructor
  · intro hd
    obtain ⟨K, hK⟩ := s.cl
    have hc : Nat.Coprime c (x ^ k - 1).natAbs := by
      have g1 := Nat.gcd_dvd_left c (x ^ k - 1).natAbs
      have g2 := Nat.gcd_dvd_right c (x ^ k - 1).natAbs
      have o1 : One (Nat.gcd c (x ^ k - 1).natAbs) (x ^ k) := Int.ofNat_dvd_left.mpr g2
      have o2 := o1.pow K
      have o3 : ((Nat.gcd c (x ^ k - 1).natAbs : Nat) : Int) ∣ (x ^ k) ^ K := by
        rw [Int.ofNat_dvd_left, ← Int.pow_mul, Int.natAbs_pow]
        refine Nat.dvd_trans g1 (Nat.dvd_trans hK ?_)
        exact Nat.pow_dvd_pow _ (Nat.le_mul_of_pos_left K k0)
      have o4 := Int.dvd_sub o3 o2
      rw [show (x ^ k) ^ K - ((x ^ k) ^ K - 1) = 1 by omega] at o4
      exact Nat.dvd_one.mp (Int.ofNat_dvd.mp o4)
    have c1 : c ∣ x.natAbs ^ i := Nat.Coprime.dvd_of_dvd_mul_right hc (Nat.dvd_trans ⟨l, s.m.symm⟩ hd)
    refine ⟨hm i c1, L.dvd ?_⟩
    have h3 : Nat.Coprime l (x.natAbs ^ i) := (Nat.Coprime.pow_left i s.op).symm
    exact Int.ofNat_dvd_left.mpr (Nat.Coprime.dvd_of_dvd_mul_left h3 (Nat.dvd_trans ⟨c, by rw [Nat.mul_comm]; exact s.m.symm⟩ hd))
  · rintro ⟨h1, h2⟩
    rw [← s.m]
    refine Nat.mul_dvd_mul (Nat.dvd_trans ht (Nat.pow_dvd_pow _ h1)) ?_
    exact Int.ofNat_dvd_left.mp (L.2.1.of_dvd h2)
/-- what a walk finds -/
structure Wk (n : Nat) (x : Int) (j m : Nat) : Prop where
  un : ∀ i < m, ∀ j < i, x ^ j % (n : Int) ≠ x ^ i % (n : Int)
  lt : j < m
  eq : x ^ j % (n : Int) = x ^ m % (n : Int)
theorem TR.walk {n : Nat} {x : Int} {t d j m : Nat} (h : TR n x t d) (w : Wk n x j m) : t = j ∧ m = j + d := by
  have d0 := h.pos
  have e1 := w.eq
  have lt := w.lt
  rw [show m = j + (m - j) by omega, h.eq_iff (by omega)] at e1
  have l1 := Nat.le_of_dvd (by omega) e1.2
  have e2 := (h.eq_iff (i := t) (k := d) d0).mpr ⟨Nat.le_refl t, Nat.dvd_refl d⟩
  have l2 : m ≤ t + d := Classical.byContradiction fun z => w.un (t + d) (by omega) t (by omega) e2
  omega
theorem TR.uniq {n : Nat} {x y : Int} {t d t' d' : Nat} (h : TR n x t d) (h' : TR n y t' d') (e : x % (n : Int) = y % (n : Int)) : t = t' ∧ d = d' := by
  have d0 := h.pos
  have d1 := h'.pos
  have ep : ∀ k : Nat, x ^ k % (n : Int) = y ^ k % (n : Int) := fun k => Vf.cg_pow e k
  have a1 := (h.eq_iff (i := t) (k := d) d0).mpr ⟨Nat.le_refl t, Nat.dvd_refl d⟩
  rw [ep, ep, h'.eq_iff d0] at a1
  have a2 := (h'.eq_iff (i := t') (k := d') d1).mpr ⟨Nat.le_refl t', Nat.dvd_refl d'⟩
  rw [← ep, ← ep, h.eq_iff d1] at a2
  exact ⟨Nat.le_antisymm a2.1 a1.1, Nat.dvd_antisymm a2.2 a1.2⟩
theorem TR.open {n : Nat} {x : Int} {d : Nat} (hg : Nat.gcd x.natAbs n = 1) (L : Least n x d) : TR n x 0 d :=
  ⟨1, n, ⟨Nat.one_mul n, hg, 0, Nat.one_dvd _⟩, Nat.one_dvd _, fun _ _ => Nat.zero_le _, L⟩
/-- a tail is there just if a prime divides both -/
theorem Sp2.shared {n : Nat} {x : Int} {c l : Nat} (s : Sp2 n x c l) (p : Nat) (hp : Pr p) (hn : p ∣ n) : p ∣ x.natAbs ↔ p ∣ c := by
  constructor
  · intro h
    rw [← s.m] at hn
    rcases hp.mul hn with a | a
    · exact a
    · have := Nat.dvd_gcd h a
      rw [s.op] at this
      have := Nat.le_of_dvd Nat.one_pos this
      have := hp.1
      omega
  · intro h
    obtain ⟨k, hk⟩ := s.cl
    exact hp.pow (Nat.dvd_trans h hk)
end Vf

namespace Vf
/-! ## chains of divisors: lists that are joined two by two -/
theorem lcm_gcd_mul (a b : Nat) : Nat.lcm a b * Nat.gcd a b = a * b := by
  rw [Nat.mul_comm]
  exact Nat.gcd_mul_lcm a b
theorem has_power {p : Nat} (hp : Pr p) : ∀ (a : Nat), 0 < a → ∃ i c, a = p ^ i * c ∧ ¬ p ∣ c := by
  intro a
  induction a using Nat.strongRecOn with
  | ind a ih =>
    intro a0
    by_cases h : p ∣ a
    · obtain ⟨b, rfl⟩ := h
      have p2 := hp.1
      have b0 : 0 < b := by
        rcases Nat.eq_zero_or_pos b with z | z
        · rw [z, Nat.mul_zero] at a0
          omega
        · exact z
      have lt : b < p * b := by
        have := Nat.mul_le_mul_right b p2
        omega
      obtain ⟨i, c, e, hc⟩ := ih b lt b0
      exact ⟨i + 1, c, by rw [Nat.pow_succ, Nat.mul_comm (p ^ i) p, Nat.mul_assoc, ← e], hc⟩
    · exact ⟨0, a, by rw [Nat.pow_zero, Nat.one_mul], h⟩
theorem pr_cop {p c : Nat} (hp : Pr p) (h : ¬ p ∣ c) (e : Nat) : Nat.Coprime (p ^ e) c := by
  refine Nat.Coprime.pow_left e ?_
  rcases hp.2 _ (Nat.gcd_dvd_left p c) with g | g
  · exact g
  · exact absurd (by rw [← g]; exact Nat.gcd_dvd_right p c) h
theorem pow_dvd_lcm {p e a b : Nat} (hp : Pr p) (a0 : 0 < a) (b0 : 0 < b) : p ^ e ∣ Nat.lcm a b ↔ p ^ e ∣ a ∨ p ^ e ∣ b := by
  constructor
  · intro h
    obtain ⟨i, c, rfl, hc⟩ := has_power hp a a0
    obtain ⟨j, d, rfl, hd⟩ := has_power hp b b0
    have hcd : ¬ p ∣ c * d := fun z => by
      rcases hp.mul z with y | y
      · exact hc y
      · exact hd y
    rcases Nat.le_total i j with l | l
    · have h1 : Nat.lcm (p ^ i * c) (p ^ j * d) ∣ p ^ j * (c * d) := Nat.lcm_dvd (Nat.mul_dvd_mul (Nat.pow_dvd_pow _ l) (Nat.dvd_mul_right c d)) (Nat.mul_dvd_mul_left _ (Nat.dvd_mul_left d c))
      have h2 := Nat.Coprime.dvd_of_dvd_mul_right (pr_cop hp hcd e) (Nat.dvd_trans h h1)
      exact .inr (Nat.dvd_trans h2 (Nat.dvd_mul_right ..))
    · have h1 : Nat.lcm (p ^ i * c) (p ^ j * d) ∣ p ^ i * (c * d) := Nat.lcm_dvd (Nat.mul_dvd_mul_left _ (Nat.dvd_mul_right c d)) (Nat.mul_dvd_mul (Nat.pow_dvd_pow _ l) (Nat.dvd_mul_left d c))
      have h2 := Nat.Coprime.dvd_of_dvd_mul_right (pr_cop hp hcd e) (Nat.dvd_trans h h1)
      exact .inl (Nat.dvd_trans h2 (Nat.dvd_mul_right ..))
  · rintro (h | h)
    · exact Nat.dvd_trans h (Nat.dvd_lcm_left a b)
    · exact Nat.dvd_trans h (Nat.dvd_lcm_right a b)
/-- what divides by all powers of primes divides -/
theorem dvd_of_powers : ∀ (a b : Nat), 0 < a → (∀ p e, Pr p → p ^ e ∣ a → p ^ e ∣ b) → a ∣ b := by
  intro a
  induction a using Nat.strongRecOn with
  | ind a ih =>
    intro b a0 h
    by_cases a1 : a = 1
    · rw [a1]
      exact Nat.one_dvd b
    · obtain ⟨p, hp, hd⟩ := has_prime a (by omega)
      obtain ⟨i, c, e, hc⟩ := has_power hp a a0
      have p2 := hp.1
      have i0 : i ≠ 0 := fun z => by
        rw [z, Nat.pow_zero, Nat.one_mul] at e
        rw [e] at hd
        exact hc hd
      have c0 : 0 < c := by
        rcases Nat.eq_zero_or_pos c with z | z
        · exact absurd (by rw [z]; exact Nat.dvd_zero p) hc
        · exact z
      have lt : c < a := by
        have h1 : 2 ≤ p ^ i := Nat.le_trans p2 (Nat.le_self_pow i0 p)
        have := Nat.mul_le_mul_right c h1
        omega
      have h2 : c ∣ b := ih c lt b c0 fun q f hq hqf => h q f hq (Nat.dvd_trans hqf (by rw [e]; exact Nat.dvd_mul_left c _))
      have h3 : p ^ i ∣ b := h p i hp (by rw [e]; exact Nat.dvd_mul_right _ c)
      rw [e]
      exact Nat.Coprime.mul_dvd_of_dvd_of_dvd (pr_cop hp hc i) h3 h2
/-- how many of a list a number divides -/
def cnt (q : Nat) : List Nat → Nat
  | [] => 0
  | a :: l => (if q ∣ a then 1 else 0) + cnt q l
theorem cnt_app (q : Nat) : ∀ l m, cnt q (l ++ m) = cnt q l + cnt q m
  | [], m => (Nat.zero_add _).symm
  | a :: l, m => by
    show (if q ∣ a then 1 else 0) + cnt q (l ++ m) = _
    rw [cnt_app q l m, ← Nat.add_assoc]
    rfl
theorem cnt_two {p e a b : Nat} (hp : Pr p) (a0 : 0 < a) (b0 : 0 < b) : (if p ^ e ∣ Nat.lcm a b then 1 else 0) + (if p ^ e ∣ Nat.gcd a b then 1 else 0) = (if p ^ e ∣ a then 1 else 0) + (if p ^ e ∣ b then 1 else 0) := by
  have h1 := pow_dvd_lcm (e := e) hp a0 b0
  have h2 : p ^ e ∣ Nat.gcd a b ↔ p ^ e ∣ a ∧ p ^ e ∣ b := Nat.dvd_gcd_iff
  by_cases ha : p ^ e ∣ a <;> by_cases hb : p ^ e ∣ b <;> simp [h1, h2, ha, hb]
/-- a list each of which divides the one ahead -/
def Desc (l : List Nat) : Prop := l.Pairwise fun a b => b ∣ a
theorem desc_cnt {q a : Nat} {l : List Nat} (h : Desc (a :: l)) : cnt q (a :: l) = 0 ↔ ¬ q ∣ a := by
  have key : ∀ l : List Nat, (∀ b ∈ l, b ∣ a) → ¬ q ∣ a → cnt q l = 0 := fun l => by
    induction l with
    | nil => exact fun _ _ => rfl
    | cons b l ih =>
      intro hb hq
      show (if q ∣ b then 1 else 0) + cnt q l = 0
      rw [if_neg fun z => hq (Nat.dvd_trans z (hb b List.mem_cons_self)), ih (fun c hc => hb c (List.mem_cons_of_mem _ hc)) hq]
  constructor
  · intro z hq
    have z : (if q ∣ a then 1 else 0) + cnt q l = 0 := z
    rw [if_pos hq] at z
    omega
  · intro hq
    show (if q ∣ a then 1 else 0) + cnt q l = 0
    rw [if_neg hq, key l (List.pairwise_cons.mp h).1 hq]
theorem desc_uniq : ∀ (l m : List Nat), Desc l → Desc m → (∀ a ∈ l, 1 < a) → (∀ a ∈ m, 1 < a) → (∀ p e, Pr p → 0 < e → cnt (p ^ e) l = cnt (p ^ e) m) → l = m
  | [], [], _, _, _, _, _ => rfl
  | [], b :: m, _, hm, _, h2, hc => by
    obtain ⟨p, hp, hd⟩ := has_prime b (h2 b List.mem_cons_self)
    have := hc p 1 hp (by decide)
    rw [Nat.pow_one] at this
    exact absurd hd ((desc_cnt hm).mp this.symm)
  | a :: l, [], hl, _, h1, _, hc => by
    obtain ⟨p, hp, hd⟩ := has_prime a (h1 a List.mem_cons_self)
    have := hc p 1 hp (by decide)
    rw [Nat.pow_one] at this
    exact absurd hd ((desc_cnt hl).mp this)
  | a :: l, b :: m, hl, hm, h1, h2, hc => by
    have a1 := h1 a List.mem_cons_self
    have b1 := h2 b List.mem_cons_self
    have key : ∀ p e, Pr p → (p ^ e ∣ a ↔ p ^ e ∣ b) := fun p e hp => by
      rcases Nat.eq_zero_or_pos e with z | z
      · rw [z, Nat.pow_zero]
        exact ⟨fun _ => Nat.one_dvd _, fun _ => Nat.one_dvd _⟩
      · have h3 := hc p e hp z
        have h4 := desc_cnt (q := p ^ e) hl
        have h5 := desc_cnt (q := p ^ e) hm
        rw [h3] at h4
        constructor
        · exact fun z => Classical.byContradiction fun y => h4.mp (h5.mpr y) z
        · exact fun z => Classical.byContradiction fun y => h5.mp (h4.mpr y) z
    have e : a = b := Nat.dvd_antisymm (dvd_of_powers a b (by omega) fun p e hp => (key p e hp).mp) (dvd_of_powers b a (by omega) fun p e hp => (key p e hp).mpr)
    subst e
    congr 1
    refine desc_uniq l m (List.pairwise_cons.mp hl).2 (List.pairwise_cons.mp hm).2 (fun c hc => h1 c (List.mem_cons_of_mem _ hc)) (fun c hc => h2 c (List.mem_cons_of_mem _ hc)) fun p e hp he => ?_
    have h3 : (if p ^ e ∣ a then 1 else 0) + cnt (p ^ e) l = (if p ^ e ∣ a then 1 else 0) + cnt (p ^ e) m := hc p e hp he
    omega
/-- one number laid into a chain, greatest first -/
def lay : List Nat → Nat → List Nat
  | [], x => [x]
  | a :: l, x => Nat.lcm a x :: lay l (Nat.gcd a x)
theorem lay_pos : ∀ (l : List Nat) (x : Nat), (∀ a ∈ l, 0 < a) → 0 < x → ∀ a ∈ lay l x, 0 < a
  | [], x, _, hx, a, ha => by
    rw [List.mem_singleton.mp ha]
    exact hx
  | b :: l, x, h, hx, a, ha => by
    have b0 := h b List.mem_cons_self
    rcases List.mem_cons.mp ha with z | z
    · rw [z]
      exact Nat.lcm_pos b0 hx
    · exact lay_pos l _ (fun c hc => h c (List.mem_cons_of_mem _ hc)) (Nat.gcd_pos_of_pos_left _ b0) a z
theorem lay_dvd : ∀ (l : List Nat) (x n : Nat), (∀ a ∈ l, a ∣ n) → x ∣ n → ∀ a ∈ lay l x, a ∣ n
  | [], x, n, _, hx, a, ha => by
    rw [List.mem_singleton.mp ha]
    exact hx
  | b :: l, x, n, h, hx, a, ha => by
    rcases List.mem_cons.mp ha with z | z
    · rw [z]
      exact Nat.lcm_dvd (h b List.mem_cons_self) hx
    · exact lay_dvd l _ n (fun c hc => h c (List.mem_cons_of_mem _ hc)) (Nat.dvd_trans (Nat.gcd_dvd_right b x) hx) a z
theorem lay_desc : ∀ (l : List Nat) (x : Nat), Desc l → Desc (lay l x)
  | [], x, _ => List.pairwise_singleton _ x
  | b :: l, x, h => by
    obtain ⟨h1, h2⟩ := List.pairwise_cons.mp h
    refine List.pairwise_cons.mpr ⟨fun c hc => ?_, lay_desc l _ h2⟩
    exact lay_dvd l _ _ (fun d hd => Nat.dvd_trans (h1 d hd) (Nat.dvd_lcm_left b x)) (Nat.dvd_trans (Nat.gcd_dvd_left b x) (Nat.dvd_lcm_left b x)) c hc
theorem lay_cnt {p e : Nat} (hp : Pr p) : ∀ (l : List Nat) (x : Nat), (∀ a ∈ l, 0 < a) → 0 < x → cnt (p ^ e) (lay l x) = cnt (p ^ e) l + cnt (p ^ e) [x]
  | [], x, _, _ => (Nat.zero_add _).symm
  | b :: l, x, h, hx => by
    have b0 := h b List.mem_cons_self
    show (if p ^ e ∣ Nat.lcm b x then 1 else 0) + cnt (p ^ e) (lay l (Nat.gcd b x)) = (if p ^ e ∣ b then 1 else 0) + cnt (p ^ e) l + ((if p ^ e ∣ x then 1 else 0) + 0)
    rw [lay_cnt hp l _ (fun c hc => h c (List.mem_cons_of_mem _ hc)) (Nat.gcd_pos_of_pos_left _ b0)]
    show _ + (cnt (p ^ e) l + ((if p ^ e ∣ Nat.gcd b x then 1 else 0) + 0)) = _
    have := cnt_two (e := e) hp b0 hx
    omega
theorem lay_prd : ∀ (l : List Nat) (x : Nat), prd (lay l x) = prd l * x
  | [], x => by simp [lay, prd]
  | b :: l, x => by
    show Nat.lcm b x * prd (lay l (Nat.gcd b x)) = b * prd l * x
    rw [lay_prd l, Nat.mul_comm (prd l), ← Nat.mul_assoc, lcm_gcd_mul, Nat.mul_right_comm]
theorem lay_len : ∀ (l : List Nat) (x : Nat), (lay l x).length = l.length + 1
  | [], _ => rfl
  | b :: l, x => congrArg (· + 1) (lay_len l _)
theorem lay_head : ∀ (l : List Nat) (x : Nat), (lay l x).headD 1 = Nat.lcm (l.headD 1) x
  | [], x => (Nat.lcm_one_left x).symm
  | b :: l, x => rfl
def lays (ms : List Nat) : List Nat := ms.foldl lay []
theorem lays_snoc (ms : List Nat) (x : Nat) : lays (ms ++ [x]) = lay (lays ms) x := by simp [lays]
theorem lays_n : ∀ (n : Nat) (ms : List Nat), ms.length = n → (∀ a ∈ ms, 0 < a) → (∀ a ∈ lays ms, 0 < a) ∧ Desc (lays ms) ∧ (∀ p e, Pr p → cnt (p ^ e) (lays ms) = cnt (p ^ e) ms) ∧ prd (lays ms) = prd ms ∧ (lays ms).headD 1 = lcs ms ∧ (lays ms).length = ms.length
  | 0, [], _, _ => ⟨fun a h => (nomatch h), List.Pairwise.nil, fun _ _ _ => rfl, rfl, rfl, rfl⟩
  | 0, _ :: _, h, _ => by cases h
  | n + 1, ms, hl, h => by
    rcases List.eq_nil_or_concat ms with z | ⟨r, x, z⟩
    · rw [z] at hl
      cases hl
    · rw [List.concat_eq_append] at z
      subst z
      obtain ⟨h1, h2, h3, h4, h5, h6⟩ := lays_n n r (by rw [List.length_append, List.length_singleton] at hl; omega) fun a ha => h a (List.mem_append_left _ ha)
      have x0 := h x (by simp)
      rw [lays_snoc]
      refine ⟨lay_pos _ _ h1 x0, lay_desc _ _ h2, fun p e hp => ?_, ?_, ?_, ?_⟩
      · rw [lay_cnt hp _ _ h1 x0, h3 p e hp, cnt_app]
      · rw [lay_prd, h4, prd_app]
        simp [prd]
      · rw [lay_head, h5, lcs_snoc]
      · rw [lay_len, h6]
        simp
theorem lays_all (ms : List Nat) (h : ∀ a ∈ ms, 0 < a) : (∀ a ∈ lays ms, 0 < a) ∧ Desc (lays ms) ∧ (∀ p e, Pr p → cnt (p ^ e) (lays ms) = cnt (p ^ e) ms) ∧ prd (lays ms) = prd ms ∧ (lays ms).headD 1 = lcs ms ∧ (lays ms).length = ms.length := lays_n ms.length ms rfl h
/-- the parts: what is greater than 1 of it, least first -/
def big (l : List Nat) : List Nat := l.filter fun a => decide (1 < a)
theorem big_cnt {q : Nat} (hq : 1 < q) : ∀ l : List Nat, (∀ a ∈ l, 0 < a) → cnt q (big l) = cnt q l
  | [], _ => rfl
  | a :: l, h => by
    have ih := big_cnt hq l fun b hb => h b (List.mem_cons_of_mem _ hb)
    have a0 := h a List.mem_cons_self
    unfold big at ih ⊢
    by_cases c : 1 < a
    · rw [List.filter_cons, if_pos (show (fun a => decide (1 < a)) a = true from decide_eq_true c)]
      show _ + cnt q _ = _ + cnt q _
      rw [ih]
    · rw [List.filter_cons, if_neg (show ¬ (fun a => decide (1 < a)) a = true by simp [c]), ih]
      show _ = (if q ∣ a then 1 else 0) + cnt q l
      rw [if_neg fun z => by have := Nat.le_of_dvd a0 z; omega, Nat.zero_add]
theorem big_prd : ∀ l : List Nat, (∀ a ∈ l, 0 < a) → prd (big l) = prd l
  | [], _ => rfl
  | a :: l, h => by
    have ih := big_prd l fun b hb => h b (List.mem_cons_of_mem _ hb)
    have a0 := h a List.mem_cons_self
    unfold big at ih ⊢
    by_cases c : 1 < a
    · rw [List.filter_cons, if_pos (show (fun a => decide (1 < a)) a = true from decide_eq_true c)]
      show _ * prd _ = _ * prd _
      rw [ih]
    · rw [List.filter_cons, if_neg (show ¬ (fun a => decide (1 < a)) a = true by simp [c]), ih]
      show prd l = a * prd l
      rw [show a = 1 by omega, Nat.one_mul]
theorem big_desc {l : List Nat} (h : Desc l) : Desc (big l) := h.sublist List.filter_sublist
theorem big_gt {l : List Nat} : ∀ a ∈ big l, 1 < a := fun a ha => of_decide_eq_true (List.mem_filter.mp ha).2
theorem big_head {l : List Nat} (h : Desc l) (h0 : ∀ a ∈ l, 0 < a) : (big l).headD 1 = l.headD 1 := by
  cases l with
  | nil => rfl
  | cons a l =>
    unfold big
    by_cases c : 1 < a
    · rw [List.filter_cons, if_pos (show (fun a => decide (1 < a)) a = true from decide_eq_true c)]
      rfl
    · have a1 : a = 1 := by
        have := h0 a List.mem_cons_self
        omega
      rw [List.filter_cons, if_neg (show ¬ (fun a => decide (1 < a)) a = true by simp [c])]
      have : l.filter (fun a => decide (1 < a)) = [] := by
        rw [List.filter_eq_nil_iff]
        intro b hb z
        have h1 := (List.pairwise_cons.mp h).1 b hb
        rw [a1] at h1
        have := Nat.dvd_one.mp h1
        have := of_decide_eq_true z
        omega
      rw [this, a1]
      rfl
/-- the walk of lay, so far -/
def run : List Nat → Nat → List Nat × Nat
  | [], x => ([], x)
  | a :: l, x => (Nat.lcm a x :: (run l (Nat.gcd a x)).1, (run l (Nat.gcd a x)).2)
theorem lay_run : ∀ (l : List Nat) (x : Nat), lay l x = (run l x).1 ++ [(run l x).2]
  | [], x => rfl
  | a :: l, x => congrArg (Nat.lcm a x :: ·) (lay_run l _)
theorem run_snoc : ∀ (l : List Nat) (a x : Nat), run (l ++ [a]) x = ((run l x).1 ++ [Nat.lcm a (run l x).2], Nat.gcd a (run l x).2)
  | [], a, x => rfl
  | b :: l, a, x => by
    show (Nat.lcm b x :: (run (l ++ [a]) (Nat.gcd b x)).1, (run (l ++ [a]) (Nat.gcd b x)).2) = _
    rw [run_snoc l a]
    rfl
theorem run_len : ∀ (l : List Nat) (x : Nat), (run l x).1.length = l.length
  | [], _ => rfl
  | b :: l, x => congrArg (· + 1) (run_len l _)
theorem run_left : ∀ (l : List Nat) (x : Nat), (∀ a ∈ l, 0 < a) → 0 < x → 0 < (run l x).2 ∧ (run l x).2 ≤ x
  | [], x, _, hx => ⟨hx, Nat.le_refl x⟩
  | b :: l, x, h, hx => by
    have b0 := h b List.mem_cons_self
    have ih := run_left l (Nat.gcd b x) (fun c hc => h c (List.mem_cons_of_mem _ hc)) (Nat.gcd_pos_of_pos_left _ b0)
    exact ⟨ih.1, Nat.le_trans ih.2 (Nat.gcd_le_right _ hx)⟩
/-- one number led along a list -/
def bub (x : Nat) : List Nat → Nat × List Nat
  | [] => (x, [])
  | b :: l => ((bub (Nat.gcd x b) l).1, Nat.lcm x b :: (bub (Nat.gcd x b) l).2)
theorem bub_app : ∀ (l : List Nat) (b x : Nat), bub x (l ++ [b]) = (Nat.gcd (bub x l).1 b, (bub x l).2 ++ [Nat.lcm (bub x l).1 b])
  | [], b, x => rfl
  | c :: l, b, x => by
    show ((bub (Nat.gcd x c) (l ++ [b])).1, Nat.lcm x c :: (bub (Nat.gcd x c) (l ++ [b])).2) = _
    rw [bub_app l b]
    rfl
theorem lays_le {ms : List Nat} (h : ∀ a ∈ ms, 0 < a) : ∀ a ∈ lays ms, a ≤ lcs ms := fun a ha => by
  obtain ⟨h1, h2, _, _, h5, _⟩ := lays_all ms h
  rw [← h5]
  cases hl : lays ms with
  | nil => rw [hl] at ha; cases ha
  | cons b l =>
    rw [hl] at ha h1 h2
    show a ≤ b
    rcases List.mem_cons.mp ha with z | z
    · rw [z]; exact Nat.le_refl b
    · exact Nat.le_of_dvd (h1 b List.mem_cons_self) ((List.pairwise_cons.mp h2).1 a z)
/-! the law's way of joining -/
theorem bub_len : ∀ (l : List Nat) (x : Nat), (bub x l).2.length = l.length
  | [], _ => rfl
  | b :: l, x => congrArg (· + 1) (bub_len l _)
def joins : Nat → List Nat → List Nat
  | 0, _ => []
  | _ + 1, [] => []
  | n + 1, a :: l => (bub a l).1 :: joins n (bub a l).2
theorem bub_dvd : ∀ (l : List Nat) (x : Nat), (bub x l).1 ∣ x ∧ (∀ b ∈ (bub x l).2, (bub x l).1 ∣ b)
  | [], x => ⟨Nat.dvd_refl x, fun b h => nomatch h⟩
  | b :: l, x => by
    have ih := bub_dvd l (Nat.gcd x b)
    refine ⟨Nat.dvd_trans ih.1 (Nat.gcd_dvd_left x b), fun c hc => ?_⟩
    rcases List.mem_cons.mp hc with z | z
    · rw [z]
      exact Nat.dvd_trans ih.1 (Nat.dvd_trans (Nat.gcd_dvd_left x b) (Nat.dvd_lcm_left x b))
    · exact ih.2 c z
theorem bub_pos : ∀ (l : List Nat) (x : Nat), (∀ a ∈ l, 0 < a) → 0 < x → 0 < (bub x l).1 ∧ ∀ b ∈ (bub x l).2, 0 < b
  | [], x, _, hx => ⟨hx, fun b h => nomatch h⟩
  | b :: l, x, h, hx => by
    have ih := bub_pos l (Nat.gcd x b) (fun c hc => h c (List.mem_cons_of_mem _ hc)) (Nat.gcd_pos_of_pos_left _ hx)
    refine ⟨ih.1, fun c hc => ?_⟩
    rcases List.mem_cons.mp hc with z | z
    · rw [z]
      exact Nat.lcm_pos hx (h b List.mem_cons_self)
    · exact ih.2 c z
theorem bub_cnt {p e : Nat} (hp : Pr p) : ∀ (l : List Nat) (x : Nat), (∀ a ∈ l, 0 < a) → 0 < x → cnt (p ^ e) ((bub x l).1 :: (bub x l).2) = cnt (p ^ e) (x :: l)
  | [], x, _, _ => rfl
  | b :: l, x, h, hx => by
    have b0 := h b List.mem_cons_self
    have ih := bub_cnt (e := e) hp l (Nat.gcd x b) (fun c hc => h c (List.mem_cons_of_mem _ hc)) (Nat.gcd_pos_of_pos_left _ hx)
    have c2 := cnt_two (e := e) hp hx b0
    have ih : (if p ^ e ∣ (bub (Nat.gcd x b) l).1 then 1 else 0) + cnt (p ^ e) (bub (Nat.gcd x b) l).2 = (if p ^ e ∣ Nat.gcd x b then 1 else 0) + cnt (p ^ e) l := ih
    show (if p ^ e ∣ (bub (Nat.gcd x b) l).1 then 1 else 0) + ((if p ^ e ∣ Nat.lcm x b then 1 else 0) + cnt (p ^ e) (bub (Nat.gcd x b) l).2) = (if p ^ e ∣ x then 1 else 0) + ((if p ^ e ∣ b then 1 else 0) + cnt (p ^ e) l)
    omega
theorem dvd_bub : ∀ (l : List Nat) (x d : Nat), d ∣ x → (∀ a ∈ l, d ∣ a) → d ∣ (bub x l).1 ∧ ∀ b ∈ (bub x l).2, d ∣ b
  | [], x, d, hx, _ => ⟨hx, fun b h => nomatch h⟩
  | b :: l, x, d, hx, h => by
    have ih := dvd_bub l (Nat.gcd x b) d (Nat.dvd_gcd hx (h b List.mem_cons_self)) fun c hc => h c (List.mem_cons_of_mem _ hc)
    refine ⟨ih.1, fun c hc => ?_⟩
    rcases List.mem_cons.mp hc with z | z
    · rw [z]
      exact Nat.dvd_trans hx (Nat.dvd_lcm_left x b)
    · exact ih.2 c z
theorem joins_all : ∀ (n : Nat) (l : List Nat), l.length = n → (∀ a ∈ l, 0 < a) → (∀ a ∈ joins n l, 0 < a) ∧ (joins n l).Pairwise (fun a b => a ∣ b) ∧ (∀ p e, Pr p → cnt (p ^ e) (joins n l) = cnt (p ^ e) l) ∧ (∀ d, (∀ a ∈ l, d ∣ a) → ∀ a ∈ joins n l, d ∣ a) ∧ (joins n l).length = n
  | 0, [], _, _ => ⟨fun a h => (nomatch h), List.Pairwise.nil, fun _ _ _ => rfl, fun _ _ a h => (nomatch h), rfl⟩
  | 0, a :: l, h, _ => by cases h
  | n + 1, [], h, _ => by cases h
  | n + 1, a :: l, hl, h => by
    have a0 := h a List.mem_cons_self
    have hl0 : ∀ b ∈ l, 0 < b := fun b hb => h b (List.mem_cons_of_mem _ hb)
    have bp := bub_pos l a hl0 a0
    have bd := bub_dvd l a
    have ln : (bub a l).2.length = n := by
      rw [bub_len]
      exact Nat.succ.inj hl
    obtain ⟨i1, i2, i3, i4, i5⟩ := joins_all n (bub a l).2 ln bp.2
    refine ⟨fun c hc => ?_, List.pairwise_cons.mpr ⟨fun c hc => i4 _ bd.2 c hc, i2⟩, fun p e hp => ?_, fun d hd c hc => ?_, congrArg (· + 1) i5⟩
    · rcases List.mem_cons.mp hc with z | z
      · rw [z]; exact bp.1
      · exact i1 c z
    · rw [← bub_cnt hp l a hl0 a0]
      show _ + cnt (p ^ e) (joins n (bub a l).2) = _ + cnt (p ^ e) (bub a l).2
      rw [i3 p e hp]
    · have db := dvd_bub l a d (hd a List.mem_cons_self) fun b hb => hd b (List.mem_cons_of_mem _ hb)
      rcases List.mem_cons.mp hc with z | z
      · rw [z]; exact db.1
      · exact i4 d db.2 c z
theorem cnt_rev (q : Nat) : ∀ l : List Nat, cnt q l.reverse = cnt q l
  | [] => rfl
  | a :: l => by
    rw [List.reverse_cons, cnt_app, cnt_rev q l]
    show _ + ((if q ∣ a then 1 else 0) + 0) = (if q ∣ a then 1 else 0) + cnt q l
    omega
/-- both ways of joining tell the same parts -/
theorem parts_same {ms ns : List Nat} (hm : ∀ a ∈ ms, 0 < a) (hn : ∀ a ∈ ns, 0 < a) (hc : ∀ q, 1 < q → cnt q ms = cnt q ns) : (big (lays ms)).reverse = big (joins ns.length ns) := by
  obtain ⟨l1, l2, l3, _⟩ := lays_all ms hm
  obtain ⟨j1, j2, j3, _⟩ := joins_all ns.length ns rfl hn
  have e : big (lays ms) = (big (joins ns.length ns)).reverse := by
    refine desc_uniq _ _ (big_desc l2) ?_ big_gt (fun a ha => big_gt a (List.mem_reverse.mp ha)) fun p e hp he => ?_
    · unfold Desc
      rw [List.pairwise_reverse]
      exact j2.sublist List.filter_sublist
    · have q1 : 1 < p ^ e := Nat.lt_of_lt_of_le hp.1 (Nat.le_self_pow (by omega) p)
      rw [big_cnt q1 _ l1, cnt_rev, big_cnt q1 _ j1, l3 p e hp, j3 p e hp, hc _ q1]
  rw [e, List.reverse_reverse]
end Vf

namespace Vf
/-! ## sums of powers: made of others -/
def pscale (d : Int) (q : List Int) : List Int := q.map fun c => d * c
theorem pval_scale (d : Int) : ∀ (q : List Int) (x : Int), pval (pscale d q) x = d * pval q x
  | [], _ => by simp [pscale, pval]
  | c :: q, x => by
    have ih := pval_scale d q x
    show d * c + x * pval (pscale d q) x = d * (c + x * pval q x)
    rw [ih]
    grind
theorem padd_ex (u v : List Int) : ∃ w : List Int, ∀ y, pval w y = pval u y + pval v y := ⟨psub u (v.map fun c => -c), fun y => by rw [pval_sub, pval_neg]; omega⟩
/-- what is at n + p * y, less what is at n, is a multiple of p -/
theorem shift_ex (n p : Int) : ∀ q : List Int, ∃ w : List Int, ∀ y, pval q (n + p * y) = pval q n + p * pval w y
  | [] => ⟨[], fun y => by simp [pval]⟩
  | c :: q => by
    obtain ⟨w, hw⟩ := shift_ex n p q
    obtain ⟨w1, h1⟩ := padd_ex [pval q n] (pscale p w)
    obtain ⟨w2, h2⟩ := padd_ex (0 :: w1) []
    obtain ⟨w3, h3⟩ := padd_ex w1 []
    obtain ⟨w4, h4⟩ := padd_ex (0 :: w1) (pscale n w)
    refine ⟨w4, fun y => ?_⟩
    have e1 : pval (0 :: w1) y = y * pval w1 y := by show 0 + y * pval w1 y = _; omega
    have e2 := h1 y
    rw [pval_scale] at e2
    have e3 : pval [pval q n] y = pval q n := by show pval q n + y * 0 = _; omega
    rw [e3] at e2
    show c + (n + p * y) * pval q (n + p * y) = (c + n * pval q n) + p * pval w4 y
    rw [h4 y, e1, pval_scale, e2, hw y]
    grind
/-- equal values make equal coefficients -/
theorem coefs_dvd {u w : List Int} {d : Int} (h : ∀ y, pval u y = d * pval w y) : ∀ c ∈ u, d ∣ c := fun c hc => by
  have z := psub_all u (pscale d w) (pval_none fun x _ => by rw [pval_sub, pval_scale, h]; omega)
  obtain ⟨i, hi, rfl⟩ := List.getElem_of_mem hc
  have e := z i
  rw [List.getD_eq_getElem?_getD, List.getElem?_eq_getElem hi] at e
  change u[i] = _ at e
  rw [e, List.getD_eq_getElem?_getD]
  unfold pscale
  rw [List.getElem?_map]
  cases w[i]? with
  | none => exact Int.dvd_zero _
  | some x => exact ⟨x, rfl⟩
theorem led_dvd {b u : List Int} {n p : Int} (h : ∀ y, pval u y = pval b (n + p * y)) (hd : p ∣ pval b n) : ∀ c ∈ u, p ∣ c := by
  obtain ⟨w, hw⟩ := shift_ex n p b
  obtain ⟨m, hm⟩ := hd
  obtain ⟨w2, h2⟩ := padd_ex [m] w
  refine coefs_dvd (w := w2) fun y => ?_
  have e3 : pval [m] y = m := by show m + y * 0 = _; omega
  rw [h, hw, h2, e3, hm]
  grind
def pdiv (d : Int) (q : List Int) : List Int := q.map fun c => c / d
theorem div_val {d : Int} : ∀ {b : List Int}, (∀ c ∈ b, d ∣ c) → ∀ y, pval b y = d * pval (pdiv d b) y
  | [], _, y => by simp [pdiv, pval]
  | c :: b, h, y => by
    have ih := div_val (b := b) (fun c hc => h c (List.mem_cons_of_mem _ hc)) y
    show c + y * pval b y = d * (c / d + y * pval (pdiv d b) y)
    rw [ih]
    have e := Int.mul_ediv_cancel' (h c List.mem_cons_self)
    conv => lhs; rw [← e]
    grind
theorem div_l1 {d : Int} (hd : 1 ≤ d) : ∀ b : List Int, l1 (pdiv d b) ≤ l1 b
  | [] => Nat.le_refl _
  | c :: b => by
    have ih := div_l1 hd b
    have : (c / d).natAbs ≤ c.natAbs := Int.natAbs_ediv_le_natAbs c d
    show (c / d).natAbs + l1 (pdiv d b) ≤ c.natAbs + l1 b
    omega
theorem div_canon {d : Int} {b : List Int} (h : Canon b) (hd : ∀ c ∈ b, d ∣ c) : Canon (pdiv d b) := by
  refine ⟨fun z => h.1 (List.map_eq_nil_iff.mp z), ?_⟩
  unfold pdiv
  rw [List.length_map]
  rcases h.2 with e | e
  · exact .inl e
  · refine .inr fun z => e ?_
    have l := h.len
    have lt : b.length - 1 < b.length := by omega
    rw [List.getD_eq_getElem?_getD, List.getElem?_map, List.getElem?_eq_getElem lt] at z
    rw [List.getD_eq_getElem?_getD, List.getElem?_eq_getElem lt]
    have e2 := Int.mul_ediv_cancel' (hd _ (List.getElem_mem lt))
    change b[b.length - 1] / d = 0 at z
    change b[b.length - 1] = 0
    rw [← e2, z, Int.mul_zero]
/-- a sum that is not nothing is 0 at no great number -/
theorem no_zeros : ∀ q : List Int, (∃ c ∈ q, c ≠ 0) → ∃ X : Int, 0 ≤ X ∧ ∀ x, X < x → pval q x ≠ 0
  | [], h => by
    obtain ⟨c, hc, _⟩ := h
    exact nomatch hc
  | c :: q, h => by
    by_cases z : ∃ c ∈ q, c ≠ 0
    · obtain ⟨X, X0, hX⟩ := no_zeros q z
      refine ⟨max X (c.natAbs : Int), by omega, fun x hx e => ?_⟩
      have h1 := hX x (by omega)
      have e : c + x * pval q x = 0 := e
      have h2 : x.natAbs * (pval q x).natAbs = c.natAbs := by rw [← Int.natAbs_mul]; omega
      have h3 : x.natAbs * 1 ≤ x.natAbs * (pval q x).natAbs := Nat.mul_le_mul_left _ (by omega)
      omega
    · have z0 : ∀ x, pval q x = 0 := fun x => by
        have key : ∀ q : List Int, (∀ c ∈ q, c = 0) → pval q x = 0 := by
          intro q
          induction q with
          | nil => intro _; rfl
          | cons a r ih =>
            intro h
            show a + x * pval r x = 0
            rw [h a List.mem_cons_self, ih fun c hc => h c (List.mem_cons_of_mem _ hc)]
            omega
        exact key q fun c hc => Classical.byContradiction fun n => z ⟨c, hc, n⟩
      refine ⟨0, Int.le_refl _, fun x _ e => ?_⟩
      have e : c + x * pval q x = 0 := e
      rw [z0] at e
      obtain ⟨d, hd, n⟩ := h
      rcases List.mem_cons.mp hd with rfl | hd
      · omega
      · exact z ⟨d, hd, n⟩
theorem led_nz {b u : List Int} {n p : Int} (p1 : 1 ≤ p) (h : ∀ y, pval u y = pval b (n + p * y)) (nz : ∃ c ∈ b, c ≠ 0) : ∃ c ∈ u, c ≠ 0 := by
  refine Classical.byContradiction fun z => ?_
  have z0 : ∀ x, pval u x = 0 := fun x => by
    have key : ∀ q : List Int, (∀ c ∈ q, c = 0) → pval q x = 0 := by
      intro q
      induction q with
      | nil => intro _; rfl
      | cons a r ih =>
        intro h
        show a + x * pval r x = 0
        rw [h a List.mem_cons_self, ih fun c hc => h c (List.mem_cons_of_mem _ hc)]
        omega
    exact key u fun c hc => Classical.byContradiction fun n => z ⟨c, hc, n⟩
  obtain ⟨X, X0, hX⟩ := no_zeros b nz
  have y0 : (0 : Int) ≤ X + (n.natAbs : Int) + 1 := by omega
  have := Int.mul_le_mul_of_nonneg_right p1 y0
  exact hX (n + p * (X + (n.natAbs : Int) + 1)) (by omega) (by rw [← h, z0])
/-! ## branches of zeros -/
structure Br (f : Int → Int) (p e : Nat) (b : List Int) (r j k : Nat) : Prop where
  cn : Canon b
  ln : b.length ≤ 13
  l1 : l1 b ≤ 2 ^ 50 * (2 * p) ^ (12 * j)
  nz : ∃ c ∈ b, c ≠ 0
  v : ∀ y : Int, (p : Int) ^ k * pval b y = f ((r : Int) + (p : Int) ^ j * y)
  rl : r < p ^ j
  je : j ≤ e
  hd : j = 0 ∨ ((∀ c ∈ b, (p : Int) ∣ c) ∧ j ≤ k + 1)
/-- how often p is held in all coefficients -/
def Held (p : Nat) (b : List Int) (h : Nat) : Prop := (∀ c ∈ b, (p : Int) ^ h ∣ c) ∧ ((∀ c ∈ b, (p : Int) ∣ c) → 1 ≤ h)
theorem Br.leaf {f : Int → Int} {p e r j k h : Nat} {b : List Int} (B : Br f p e b r j k) (H : Held p b h) (l : e ≤ k + h) : ∀ y : Int, (p : Int) ^ e ∣ f ((r : Int) + (p : Int) ^ j * y) := fun y => by
  rw [← B.v y, div_val H.1 y, ← Int.mul_assoc, ← Int.pow_add]
  refine Int.dvd_trans ?_ (Int.dvd_mul_right _ _)
  rw [show k + h = e + (k + h - e) by omega, Int.pow_add]
  exact Int.dvd_mul_right _ _
theorem Br.jk {f : Int → Int} {p e r j k h : Nat} {b : List Int} (B : Br f p e b r j k) (H : Held p b h) : j ≤ k + h := by
  rcases B.hd with e | ⟨h1, h2⟩
  · omega
  · have := H.2 h1
    omega
theorem Br.on {f : Int → Int} {p e r j k h n : Nat} {b u : List Int} (p2 : 2 ≤ p) (B : Br f p e b r j k) (H : Held p b h) (l : k + h < e) (hn : n < p) (hz : (p : Int) ∣ pval (pdiv ((p : Int) ^ h) b) (n : Int))
    (cu : Canon u) (vu : ∀ y, pval u y = pval (pdiv ((p : Int) ^ h) b) ((n : Int) + (p : Int) * y)) (lu : Vf.l1 u ≤ Vf.l1 (pdiv ((p : Int) ^ h) b) * (2 * p) ^ 12) (eu : u.length ≤ 13) : Br f p e u (r + n * p ^ j) (j + 1) (k + h) := by
  have jk := B.jk H
  have pp : (1 : Int) ≤ (p : Int) ^ h := Int.pow_pos (by omega)
  have pj : 0 < p ^ j := Nat.pow_pos (by omega)
  refine ⟨cu, eu, ?_, ?_, fun y => ?_, ?_, by omega, .inr ⟨led_dvd vu hz, by omega⟩⟩
  · refine Nat.le_trans lu (Nat.le_trans (Nat.mul_le_mul_right _ (Nat.le_trans (div_l1 pp b) B.l1)) ?_)
    rw [Nat.mul_assoc, ← Nat.pow_add, show 12 * j + 12 = 12 * (j + 1) by omega]
    exact Nat.le_refl _
  · refine led_nz (by omega) vu ?_
    obtain ⟨c, hc, n0⟩ := B.nz
    refine ⟨c / (p : Int) ^ h, List.mem_map.mpr ⟨c, hc, rfl⟩, fun z => n0 ?_⟩
    rw [← Int.mul_ediv_cancel' (H.1 c hc), z, Int.mul_zero]
  · rw [vu, Int.pow_add, Int.mul_assoc, ← div_val H.1, B.v]
    congr 1
    rw [Int.natCast_add, Int.natCast_mul, Int.natCast_pow, Int.pow_succ]
    grind
  · have rl := B.rl
    have : n * p ^ j + p ^ j ≤ p * p ^ j := by
      rw [← Nat.succ_mul]
      exact Nat.mul_le_mul_right _ hn
    rw [Nat.pow_succ, Nat.mul_comm (p ^ j) p]
    omega
/-! ## classes -/
def Cl (p : Nat) (a : Nat × Nat) (x : Int) : Prop := ∃ y : Int, x = (a.1 : Int) + (p : Int) ^ a.2 * y
abbrev Wt := List Int × Nat × Nat × Nat
def cls (ws : List Wt) (fs : List (Nat × Nat)) : List (Nat × Nat) := ws.map (fun w => (w.2.1, w.2.2.1)) ++ fs
def Ap (p : Nat) (a b : Nat × Nat) : Prop := ∀ x, Cl p a x → Cl p b x → False
theorem Ap.symm {p : Nat} {a b : Nat × Nat} (h : Ap p a b) : Ap p b a := fun x h1 h2 => h x h2 h1
structure ZI (f : Int → Int) (p e : Nat) (ws : List Wt) (fs : List (Nat × Nat)) : Prop where
  br : ∀ w ∈ ws, Br f p e w.1 w.2.1 w.2.2.1 w.2.2.2
  fl : ∀ a ∈ fs, a.1 < p ^ a.2 ∧ a.2 ≤ e ∧ ∀ y : Int, (p : Int) ^ e ∣ f ((a.1 : Int) + (p : Int) ^ a.2 * y)
  dj : (cls ws fs).Pairwise (Ap p)
  cv : ∀ x, (p : Int) ^ e ∣ f x → ∃ a ∈ cls ws fs, Cl p a x
theorem ZI.leaf {f : Int → Int} {p e r j k h : Nat} {b : List Int} {ws : List Wt} {fs : List (Nat × Nat)} (Z : ZI f p e (ws ++ [(b, r, j, k)]) fs) (H : Held p b h) (l : e ≤ k + h) : ZI f p e ws (fs ++ [(r, j)]) := by
  have B := Z.br (b, r, j, k) (List.mem_append_right _ (List.mem_singleton.mpr rfl))
  have pm : (cls (ws ++ [(b, r, j, k)]) fs).Perm (cls ws (fs ++ [(r, j)])) := by
    unfold cls
    rw [List.map_append, List.append_assoc]
    exact List.Perm.append_left _ List.perm_append_comm
  refine ⟨fun w hw => Z.br w (List.mem_append_left _ hw), fun a ha => ?_, pm.pairwise Z.dj Ap.symm, fun x hx => ?_⟩
  · rcases List.mem_append.mp ha with ha | ha
    · exact Z.fl a ha
    · rw [List.mem_singleton.mp ha]
      exact ⟨B.rl, B.je, B.leaf H l⟩
  · obtain ⟨a, ha, c⟩ := Z.cv x hx
    exact ⟨a, pm.mem_iff.mp ha, c⟩
theorem cl_sub {p r j n : Nat} {x : Int} (h : Cl p (r + n * p ^ j, j + 1) x) : Cl p (r, j) x := by
  obtain ⟨y, rfl⟩ := h
  refine ⟨(n : Int) + (p : Int) * y, ?_⟩
  show ((r + n * p ^ j : Nat) : Int) + (p : Int) ^ (j + 1) * y = (r : Int) + (p : Int) ^ j * ((n : Int) + (p : Int) * y)
  rw [Int.natCast_add, Int.natCast_mul, Int.natCast_pow, Int.pow_succ]
  grind
theorem cl_apart {p r j n m : Nat} (p0 : 0 < p) (hn : n < p) (hm : m < p) (ne : n ≠ m) : Ap p (r + n * p ^ j, j + 1) (r + m * p ^ j, j + 1) := by
  rintro x ⟨y, hy⟩ ⟨z, hz⟩
  rw [hy] at hz
  have pj : (p : Int) ^ j ≠ 0 := by
    have : (0 : Int) < (p : Int) ^ j := Int.pow_pos (by omega)
    omega
  have e : (p : Int) ^ j * ((n : Int) + (p : Int) * y) = (p : Int) ^ j * ((m : Int) + (p : Int) * z) := by
    have hz : ((r + n * p ^ j : Nat) : Int) + (p : Int) ^ (j + 1) * y = ((r + m * p ^ j : Nat) : Int) + (p : Int) ^ (j + 1) * z := hz
    rw [Int.natCast_add, Int.natCast_mul, Int.natCast_pow, Int.pow_succ, Int.natCast_add, Int.natCast_mul, Int.natCast_pow] at hz
    grind
  have e2 := Int.eq_of_mul_eq_mul_left pj e
  have e3 := congrArg (· % (p : Int)) e2
  simp only [Int.add_mul_emod_self_left] at e3
  rw [Int.emod_eq_of_lt (by omega) (by omega), Int.emod_eq_of_lt (by omega) (by omega)] at e3
  omega
theorem ZI.on {f : Int → Int} {p e r j k h : Nat} {b : List Int} {ws ch : List Wt} {fs : List (Nat × Nat)} {zs : List Nat} (p2 : 2 ≤ p) (Z : ZI f p e (ws ++ [(b, r, j, k)]) fs) (H : Held p b h) (l : k + h < e)
    (zn : zs.Nodup) (zm : ∀ n, n ∈ zs ↔ n < p ∧ (p : Int) ∣ pval (pdiv ((p : Int) ^ h) b) (n : Int)) (hb : ∀ w ∈ ch, Br f p e w.1 w.2.1 w.2.2.1 w.2.2.2)
    (hc : ch.map (fun w => (w.2.1, w.2.2.1)) = zs.map fun n => (r + n * p ^ j, j + 1)) : ZI f p e (ws ++ ch) fs := by
  have B := Z.br (b, r, j, k) (List.mem_append_right _ (List.mem_singleton.mpr rfl))
  have ec : cls (ws ++ ch) fs = ws.map (fun w => (w.2.1, w.2.2.1)) ++ (zs.map (fun n => (r + n * p ^ j, j + 1)) ++ fs) := by
    unfold cls
    rw [List.map_append, hc, List.append_assoc]
  have eo : cls (ws ++ [(b, r, j, k)]) fs = ws.map (fun w => (w.2.1, w.2.2.1)) ++ ([(r, j)] ++ fs) := by
    unfold cls
    rw [List.map_append, List.append_assoc]
    rfl
  have dj := Z.dj
  rw [eo] at dj
  obtain ⟨d1, d2, d3⟩ := List.pairwise_append.mp dj
  obtain ⟨_, d5, d6⟩ := List.pairwise_append.mp d2
  refine ⟨fun w hw => ?_, Z.fl, ?_, fun x hx => ?_⟩
  · rcases List.mem_append.mp hw with hw | hw
    · exact Z.br w (List.mem_append_left _ hw)
    · exact hb w hw
  · rw [ec]
    refine List.pairwise_append.mpr ⟨d1, List.pairwise_append.mpr ⟨List.pairwise_map.mpr ?_, d5, fun a ha c hc => ?_⟩, fun a ha c hc => ?_⟩
    · exact List.Pairwise.imp_of_mem (fun {n m} hn hm ne => cl_apart (by omega) ((zm n).mp hn).1 ((zm m).mp hm).1 ne) zn
    · obtain ⟨n, hn, rfl⟩ := List.mem_map.mp ha
      exact fun x h1 h2 => d6 (r, j) (List.mem_singleton.mpr rfl) c hc x (cl_sub h1) h2
    · rcases List.mem_append.mp hc with hc | hc
      · obtain ⟨n, hn, rfl⟩ := List.mem_map.mp hc
        exact fun x h1 h2 => d3 a ha (r, j) (List.mem_append_left _ (List.mem_singleton.mpr rfl)) x h1 (cl_sub h2)
      · exact d3 a ha c (List.mem_append_right _ hc)
  · obtain ⟨a, ha, c⟩ := Z.cv x hx
    rw [eo] at ha
    rw [ec]
    rcases List.mem_append.mp ha with ha | ha
    · exact ⟨a, List.mem_append_left _ ha, c⟩
    · rcases List.mem_append.mp ha with ha | ha
      · rw [List.mem_singleton.mp ha] at c
        obtain ⟨y, hy⟩ := c
        have p0 : (0 : Int) < (p : Int) := by omega
        have hv : f x = (p : Int) ^ (k + h) * pval (pdiv ((p : Int) ^ h) b) y := by
          rw [hy, ← B.v y, div_val H.1 y, Int.pow_add, Int.mul_assoc]
        have hdv : (p : Int) ∣ pval (pdiv ((p : Int) ^ h) b) y := by
          rw [hv, show e = (k + h) + 1 + (e - (k + h) - 1) by omega, Int.pow_add, Int.pow_succ] at hx
          obtain ⟨m, hm⟩ := hx
          refine ⟨(p : Int) ^ (e - (k + h) - 1) * m, ?_⟩
          refine Int.eq_of_mul_eq_mul_left (a := (p : Int) ^ (k + h)) (by have : (0 : Int) < (p : Int) ^ (k + h) := Int.pow_pos p0; omega) ?_
          rw [hm]
          grind
        have n0 := Int.emod_nonneg y (show (p : Int) ≠ 0 by omega)
        have n1 := Int.emod_lt_of_pos y p0
        obtain ⟨n, hn⟩ := Int.eq_ofNat_of_zero_le n0
        have ey : y = (n : Int) + (p : Int) * (y / (p : Int)) := by
          have := Int.emod_add_mul_ediv y (p : Int)
          omega
        have hzn : n ∈ zs := (zm n).mpr ⟨by omega, by
          obtain ⟨w, hw⟩ := shift_ex (n : Int) (p : Int) (pdiv ((p : Int) ^ h) b)
          have := hw (y / (p : Int))
          rw [← ey] at this
          rw [this] at hdv
          exact (Int.dvd_add_left (Int.dvd_mul_right _ _)).mp hdv⟩
        refine ⟨(r + n * p ^ j, j + 1), List.mem_append_right _ (List.mem_append_left _ (List.mem_map.mpr ⟨n, hzn, rfl⟩)), y / (p : Int), ?_⟩
        rw [hy]
        show (r : Int) + (p : Int) ^ j * y = ((r + n * p ^ j : Nat) : Int) + (p : Int) ^ (j + 1) * (y / (p : Int))
        conv => lhs; rw [ey]
        rw [Int.natCast_add, Int.natCast_mul, Int.natCast_pow, Int.pow_succ]
        grind
      · exact ⟨a, List.mem_append_right _ (List.mem_append_right _ ha), c⟩
/-- there are no more classes than rests -/
theorem ZI.few {f : Int → Int} {p e : Nat} {ws : List Wt} {fs : List (Nat × Nat)} (p1 : 1 ≤ p) (Z : ZI f p e ws fs) : ws.length + fs.length ≤ p ^ e := by
  have all : ∀ a ∈ cls ws fs, a.1 < p ^ a.2 ∧ a.2 ≤ e := fun a ha => by
    rcases List.mem_append.mp ha with ha | ha
    · obtain ⟨w, hw, rfl⟩ := List.mem_map.mp ha
      exact ⟨(Z.br w hw).rl, (Z.br w hw).je⟩
    · exact ⟨(Z.fl a ha).1, (Z.fl a ha).2.1⟩
  have nd : ((cls ws fs).map Prod.fst).Nodup := List.pairwise_map.mpr (Z.dj.imp fun {a b} h e => h (a.1 : Int) ⟨0, by rw [Int.mul_zero]; omega⟩ ⟨0, by rw [Int.mul_zero, e]; omega⟩)
  have sub : (cls ws fs).map Prod.fst ⊆ List.range (p ^ e) := fun x hx => by
    obtain ⟨a, ha, rfl⟩ := List.mem_map.mp hx
    have := all a ha
    exact List.mem_range.mpr (Nat.lt_of_lt_of_le this.1 (Nat.pow_le_pow_right p1 this.2))
  have := nd.length_le_of_subset sub
  rw [List.length_map, List.length_range] at this
  unfold cls at this
  rw [List.length_append, List.length_map] at this
  exact this
/-- the measure of what waits -/
def tm (p : Nat) : Nat → Nat
  | 0 => 1
  | k + 1 => 1 + p * tm p k
def mu (p e : Nat) (ws : List Wt) : Nat := (ws.map fun w => tm p (e - w.2.2.1)).sum
theorem mu_app (p e : Nat) (a b : List Wt) : mu p e (a ++ b) = mu p e a + mu p e b := by
  unfold mu
  rw [List.map_append, List.sum_append]
theorem tm_pos (p : Nat) : ∀ k, 0 < tm p k
  | 0 => Nat.one_pos
  | k + 1 => by show 0 < 1 + p * tm p k; omega
theorem mu_one (p e : Nat) (w : Wt) : mu p e [w] = tm p (e - w.2.2.1) := by
  show tm p (e - w.2.2.1) + 0 = _
  omega
theorem mu_on {p e r j k : Nat} {b : List Int} {ws ch : List Wt} {zs : List Nat} (l : j < e) (zl : zs.length ≤ p) (hc : ch.map (fun w => (w.2.1, w.2.2.1)) = zs.map fun n => (r + n * p ^ j, j + 1)) : mu p e (ws ++ ch) < mu p e (ws ++ [(b, r, j, k)]) := by
  rw [mu_app, mu_app, mu_one]
  have e1 : mu p e ch = zs.length * tm p (e - (j + 1)) := by
    have : ch.map (fun w => tm p (e - w.2.2.1)) = zs.map fun _ => tm p (e - (j + 1)) := by
      have := congrArg (List.map fun a : Nat × Nat => tm p (e - a.2)) hc
      rw [List.map_map, List.map_map] at this
      exact this
    unfold mu
    rw [this]
    have key : ∀ (zs : List Nat) (c : Nat), (zs.map fun _ => c).sum = zs.length * c := by
      intro zs c
      induction zs with
      | nil => simp
      | cons a r ih => rw [List.map_cons, List.sum_cons, ih, List.length_cons, Nat.succ_mul]; omega
    exact key zs _
  rw [e1]
  show _ < _ + tm p (e - j)
  rw [show e - j = (e - (j + 1)) + 1 by omega]
  show _ < _ + (1 + p * tm p (e - (j + 1)))
  have := Nat.mul_le_mul_right (tm p (e - (j + 1))) zl
  omega
end Vf

namespace Vf
/-! ## how often a prime divides a number, and a product 1 * 2 * .. * n -/
def vn (p n : Nat) : Nat := if h : 2 ≤ p ∧ 0 < n ∧ p ∣ n then vn p (n / p) + 1 else 0
termination_by n
decreasing_by exact Nat.div_lt_self h.2.1 h.1
theorem vn_not {p n : Nat} (h : ¬ p ∣ n) : vn p n = 0 := by
  unfold vn
  rw [dif_neg (fun z => h z.2.2)]
theorem vn_mul {p m : Nat} (hp : 2 ≤ p) (hm : 0 < m) : vn p (p * m) = vn p m + 1 := by
  rw [vn, dif_pos ⟨hp, Nat.mul_pos (by omega) hm, Nat.dvd_mul_right _ _⟩, Nat.mul_div_cancel_left _ (by omega)]
theorem vn_prod {p : Nat} (hp : Pr p) : ∀ (n a b : Nat), a + b = n → 0 < a → 0 < b → vn p (a * b) = vn p a + vn p b := by
  have p2 := hp.1
  intro n
  induction n using Nat.strongRecOn with
  | ind n ih =>
    intro a b e ha hb
    by_cases h1 : p ∣ a
    · obtain ⟨c, rfl⟩ := h1
      have hc : 0 < c := Nat.pos_of_mul_pos_left ha
      have lt : c < p * c := by
        have := Nat.mul_le_mul_right c p2
        omega
      rw [Nat.mul_assoc, vn_mul p2 (Nat.mul_pos hc hb), vn_mul p2 hc, ih (c + b) (by omega) c b rfl hc hb]
      omega
    · by_cases h2 : p ∣ b
      · obtain ⟨c, rfl⟩ := h2
        have hc : 0 < c := Nat.pos_of_mul_pos_left hb
        have lt : c < p * c := by
          have := Nat.mul_le_mul_right c p2
          omega
        rw [Nat.mul_left_comm, vn_mul p2 (Nat.mul_pos ha hc), vn_mul p2 hc, ih (a + c) (by omega) a c rfl ha hc]
        omega
      · rw [vn_not h1, vn_not h2, vn_not]
        intro h
        rcases hp.euclid (a := (a : Int)) (b := (b : Int)) (by exact_mod_cast Int.natCast_dvd_natCast.mpr h) with z | z
        · exact h1 (Int.natCast_dvd_natCast.mp z)
        · exact h2 (Int.natCast_dvd_natCast.mp z)
/-- how often p divides 1 * 2 * .. * n -/
def lg (p n : Nat) : Nat := if h : 2 ≤ p ∧ 0 < n then n / p + lg p (n / p) else 0
termination_by n
decreasing_by exact Nat.div_lt_self h.2 h.1
theorem lg_zero (p : Nat) : lg p 0 = 0 := by
  unfold lg
  rw [dif_neg (fun h => Nat.lt_irrefl _ h.2)]
theorem lg_eq {p n : Nat} (hp : 2 ≤ p) : lg p n = n / p + lg p (n / p) := by
  by_cases h : 0 < n
  · rw [lg, dif_pos ⟨hp, h⟩]
  · rw [show n = 0 by omega, Nat.zero_div, lg_zero]
theorem lg_succ {p : Nat} (hp : 2 ≤ p) : ∀ n, lg p (n + 1) = lg p n + vn p (n + 1) := by
  intro n
  induction n using Nat.strongRecOn with
  | ind n ih =>
    by_cases h : p ∣ n + 1
    · obtain ⟨m, hm⟩ := h
      have m0 : 0 < m := by
        rcases Nat.eq_zero_or_pos m with z | z
        · rw [z] at hm
          omega
        · exact z
      have e1 : (n + 1) / p = m := by rw [hm, Nat.mul_div_cancel_left _ (by omega)]
      have e2 : n / p = m - 1 := by
        have : n = p * (m - 1) + (p - 1) := by
          have : p * m = p * (m - 1) + p := by
            rw [← Nat.mul_succ]
            congr 1
            omega
          omega
        rw [this, Nat.mul_add_div (by omega), Nat.div_eq_of_lt (show p - 1 < p by omega)]
        omega
      have lt : m - 1 < n := by
        have := Nat.mul_le_mul_right m hp
        omega
      have z := ih (m - 1) lt
      rw [show m - 1 + 1 = m by omega] at z
      rw [lg_eq hp (n := n + 1), lg_eq hp (n := n), e1, e2, z, hm, vn_mul hp m0]
      omega
    · have e : (n + 1) / p = n / p := by
        rw [Nat.succ_div, if_neg h]
        rfl
      rw [lg_eq hp (n := n + 1), lg_eq hp (n := n), e, vn_not h]
      rfl
theorem legendre {p : Nat} (hp : Pr p) : ∀ n, vn p (fac n) = lg p n
  | 0 => by
    rw [lg_zero]
    exact vn_not fun h => by
      have := Nat.le_of_dvd (by decide) h
      have := hp.1
      have : fac 0 = 1 := rfl
      omega
  | n + 1 => by
    have ih := legendre hp n
    rw [lg_succ hp.1, ← ih]
    have e : fac (n + 1) = (n + 1) * fac n := by first | rfl | (show fac n * (n + 1) = _; exact Nat.mul_comm _ _)
    rw [e, vn_prod hp _ _ _ rfl (Nat.succ_pos n) (fac_pos n)]
    exact Nat.add_comm _ _
theorem lg_mono {p : Nat} (hp : 2 ≤ p) {m : Nat} : ∀ {n}, m ≤ n → lg p m ≤ lg p n
  | 0, h => by rw [Nat.le_zero.mp h]; exact Nat.le_refl _
  | n + 1, h => by
    by_cases e : m = n + 1
    · rw [e]; exact Nat.le_refl _
    · have := lg_mono hp (m := m) (n := n) (by omega)
      rw [lg_succ hp]
      omega
theorem lg_mult {p : Nat} (hp : 2 ≤ p) (e : Nat) : e ≤ lg p (p * e) := by
  rw [lg_eq hp, Nat.mul_div_cancel_left _ (by omega)]
  exact Nat.le_add_right _ _
/-- between multiples of p nothing is added -/
theorem lg_flat {p : Nat} (hp : 2 ≤ p) (n : Nat) : lg p n = lg p (p * (n / p)) := by
  rw [lg_eq hp (n := n), lg_eq hp (n := p * (n / p)), Nat.mul_div_cancel_left _ (by omega)]
/-! ## the divisors by the primes of a base, and their order -/
/-- as the program and the law list them: by each prime all powers -/
def dvL : List (Nat × Nat) → List Int → List Int
  | [], l => l
  | a :: r, l => dvL r ((List.range (a.2 + 1)).flatMap fun j => l.map fun d => (a.1 : Int) ^ j * d)
theorem flat_same {α β : Type} {f g : α → List β} : ∀ {l : List α}, (∀ j ∈ l, f j = g j) → l.flatMap f = l.flatMap g
  | [], _ => rfl
  | a :: l, h => by
    rw [List.flatMap_cons, List.flatMap_cons, h a List.mem_cons_self, flat_same fun j hj => h j (List.mem_cons_of_mem _ hj)]
theorem flat_perm {α β : Type} {f g : α → List β} : ∀ {l : List α}, (∀ j ∈ l, (f j).Perm (g j)) → (l.flatMap f).Perm (l.flatMap g)
  | [], _ => .refl _
  | a :: l, h => by
    rw [List.flatMap_cons, List.flatMap_cons]
    exact (h a List.mem_cons_self).append (flat_perm fun j hj => h j (List.mem_cons_of_mem _ hj))
theorem perm_flat_rev {α : Type} (f : Nat → List α) : ∀ n, ((List.range (n + 1)).flatMap f).Perm ((List.range (n + 1)).flatMap fun j => f (n - j)) := fun n => by
  have e : (List.range (n + 1)).reverse = (List.range (n + 1)).map fun j => n - j := by
    refine List.ext_getElem? fun i => ?_
    by_cases h : i < n + 1
    · rw [List.getElem?_reverse (by rw [List.length_range]; exact h), List.length_range, List.getElem?_range (by omega), List.getElem?_map, List.getElem?_range h]
      show some _ = some _
      congr 1
    · rw [List.getElem?_eq_none (by rw [List.length_reverse, List.length_range]; omega), List.getElem?_eq_none (by rw [List.length_map, List.length_range]; omega)]
  have e2 : ((List.range (n + 1)).flatMap fun j => f (n - j)) = ((List.range (n + 1)).reverse).flatMap f := by
    rw [e, List.flatMap_map]
  rw [e2]
  exact (List.reverse_perm _).symm.flatMap_right f
/-- the other part of a divisor lies in the list too -/
def Twin (x : Int) (l : List Int) : Prop := (∀ d ∈ l, 0 < d ∧ d ∣ x) ∧ (l.map fun d => x / d).Perm l
theorem twin_step {x : Int} {l : List Int} (p e : Nat) (hp : 0 < p) (h : Twin x l) : Twin (x * (p : Int) ^ e) ((List.range (e + 1)).flatMap fun j => l.map fun d => (p : Int) ^ j * d) := by
  obtain ⟨h1, h2⟩ := h
  have pp : ∀ j : Nat, 0 < (p : Int) ^ j := fun j => Int.pow_pos (by omega)
  refine ⟨fun d hd => ?_, ?_⟩
  · obtain ⟨j, hj, hd⟩ := List.mem_flatMap.mp hd
    obtain ⟨c, hc, rfl⟩ := List.mem_map.mp hd
    have := List.mem_range.mp hj
    refine ⟨Int.mul_pos (pp j) (h1 c hc).1, ?_⟩
    obtain ⟨k, hk⟩ := (h1 c hc).2
    refine ⟨k * (p : Int) ^ (e - j), ?_⟩
    rw [hk, show e = j + (e - j) by omega, Int.pow_add, show j + (e - j) - j = e - j by omega]
    grind
  · have e1 : (((List.range (e + 1)).flatMap fun j => l.map fun d => (p : Int) ^ j * d).map fun d => x * (p : Int) ^ e / d) = (List.range (e + 1)).flatMap fun j => (l.map fun d => x / d).map fun d => (p : Int) ^ (e - j) * d := by
      rw [List.map_flatMap]
      refine flat_same fun j hj => ?_
      have := List.mem_range.mp hj
      rw [List.map_map, List.map_map]
      refine List.map_congr_left fun d hd => ?_
      obtain ⟨d0, k, hk⟩ := h1 d hd
      show x * (p : Int) ^ e / ((p : Int) ^ j * d) = (p : Int) ^ (e - j) * (x / d)
      have q := pp j
      rw [hk, Int.mul_ediv_cancel_left _ (by omega)]
      have e3 : d * k * (p : Int) ^ e = ((p : Int) ^ j * d) * ((p : Int) ^ (e - j) * k) := by
        rw [show (p : Int) ^ e = (p : Int) ^ j * (p : Int) ^ (e - j) by rw [← Int.pow_add]; congr 1; omega]
        grind
      rw [e3, Int.mul_ediv_cancel_left _ (by have := Int.mul_pos q d0; omega)]
    rw [e1]
    refine List.Perm.trans (perm_flat_rev (fun j => (l.map fun d => x / d).map fun d => (p : Int) ^ (e - j) * d) e) ?_
    have e4 : ((List.range (e + 1)).flatMap fun j => (l.map fun d => x / d).map fun d => (p : Int) ^ (e - (e - j)) * d) = (List.range (e + 1)).flatMap fun j => (l.map fun d => x / d).map fun d => (p : Int) ^ j * d := by
      refine flat_same fun j hj => ?_
      have := List.mem_range.mp hj
      rw [show e - (e - j) = j by omega]
    rw [e4]
    exact flat_perm fun j _ => h2.map _
theorem twin_all : ∀ (ps : List (Nat × Nat)) (x : Int) (l : List Int), (∀ a ∈ ps, 0 < a.1) → Twin x l → Twin (x * (made ps : Int)) (dvL ps l)
  | [], x, l, _, h => by
    show Twin (x * ((1 : Nat) : Int)) l
    rw [Int.natCast_one, Int.mul_one]
    exact h
  | a :: r, x, l, hp, h => by
    have := twin_all r _ _ (fun b hb => hp b (List.mem_cons_of_mem _ hb)) (twin_step a.1 a.2 (hp a List.mem_cons_self) h)
    show Twin (x * ((a.1 ^ a.2 * made r : Nat) : Int)) (dvL r _)
    rw [Int.natCast_mul, Int.natCast_pow, ← Int.mul_assoc]
    exact this
/-- what a sorted list of all divisors tells: the first times the last -/
theorem twin_sorted {x : Int} {l s : List Int} (x0 : 0 < x) (h : Twin x l) (hs : s.Pairwise (· ≤ ·)) (hp : s.Perm l) {k : Nat} (hk : k < s.length) : s.getD k 0 * s.getD (s.length - 1 - k) 0 = x := by
  have h1 : ∀ d ∈ s, 0 < d ∧ d ∣ x := fun d hd => h.1 d (hp.mem_iff.mp hd)
  have e : (s.map fun d => x / d).reverse = s := by
    refine List.Perm.eq_of_pairwise (le := fun a b : Int => a ≤ b) (fun a b _ _ u v => Int.le_antisymm u v) ?_ hs ?_
    · refine List.pairwise_reverse.mpr (List.pairwise_map.mpr ?_)
      refine List.Pairwise.imp_of_mem (fun {a b} ha hb hab => ?_) hs
      obtain ⟨a0, c, hc⟩ := h1 a ha
      obtain ⟨b0, d, hd⟩ := h1 b hb
      have ea : x / a = c := by rw [hc, Int.mul_ediv_cancel_left _ (by omega)]
      have eb : x / b = d := by rw [hd, Int.mul_ediv_cancel_left _ (by omega)]
      show x / b ≤ x / a
      rw [ea, eb]
      refine Int.not_lt.mp fun lt => ?_
      have d0 : 0 < d := Int.pos_of_mul_pos_right (by rw [← hd]; exact x0) (by omega)
      have z1 : a * c < a * d := Int.mul_lt_mul_of_pos_left lt a0
      have z2 : a * d ≤ b * d := Int.mul_le_mul_of_nonneg_right hab (by omega)
      omega
    · exact (List.reverse_perm _).trans ((hp.map _).trans (h.2.trans hp.symm))
  have l2 : s.length - 1 - k < s.length := by omega
  have e2 : s[k]? = some (x / s[s.length - 1 - k]) := by
    have : (s.map fun d => x / d).reverse[k]? = some (x / s[s.length - 1 - k]) := by
      rw [List.getElem?_reverse (by rw [List.length_map]; exact hk), List.length_map, List.getElem?_map, List.getElem?_eq_getElem l2]
      rfl
    rwa [e] at this
  rw [List.getD_eq_getElem?_getD, e2, List.getD_eq_getElem?_getD, List.getElem?_eq_getElem l2]
  obtain ⟨d0, c, hc⟩ := h1 _ (List.getElem_mem l2)
  show x / s[s.length - 1 - k] * s[s.length - 1 - k] = x
  exact Int.ediv_mul_cancel ⟨c, hc⟩
end Vf

namespace Vf
/-! ## the list of divisors, prime by prime -/
def stp (p : Nat) (k : Nat) (l : List Int) : List Int := (List.range k).flatMap fun j => l.map fun d => (p : Int) ^ j * d
theorem stp_succ (p k : Nat) (l : List Int) : stp p (k + 1) l = stp p k l ++ l.map fun d => (p : Int) ^ k * d := by
  unfold stp
  rw [List.range_succ, List.flatMap_append]
  congr 1
  exact List.flatMap_singleton _ _
theorem stp_one (p : Nat) (l : List Int) : stp p 1 l = l := by
  rw [stp_succ]
  show [] ++ l.map (fun d => (p : Int) ^ 0 * d) = l
  rw [List.nil_append]
  conv => rhs; rw [← List.map_id l]
  exact List.map_congr_left fun d _ => by show (p : Int) ^ 0 * d = d; rw [Int.pow_zero, Int.one_mul]
theorem dvL_cons (a : Nat × Nat) (r : List (Nat × Nat)) (l : List Int) : dvL (a :: r) l = dvL r (stp a.1 (a.2 + 1) l) := rfl
theorem dvL_snoc : ∀ (ps : List (Nat × Nat)) (a : Nat × Nat) (l : List Int), dvL (ps ++ [a]) l = stp a.1 (a.2 + 1) (dvL ps l)
  | [], a, l => rfl
  | b :: r, a, l => by
    show dvL (r ++ [a]) _ = stp a.1 (a.2 + 1) (dvL r _)
    rw [dvL_snoc r a]
theorem stp_len (p : Nat) (l : List Int) : ∀ k, (stp p k l).length = k * l.length
  | 0 => by rw [Nat.zero_mul]; rfl
  | k + 1 => by rw [stp_succ, List.length_append, stp_len p l k, List.length_map, Nat.succ_mul]
theorem stp_lelen (p : Nat) (l : List Int) {j k : Nat} (h : j ≤ k) : (stp p j l).length ≤ (stp p k l).length := by
  rw [stp_len, stp_len]
  exact Nat.mul_le_mul_right _ h
theorem dvL_grow : ∀ (ps : List (Nat × Nat)) (l : List Int), l.length ≤ (dvL ps l).length
  | [], l => Nat.le_refl _
  | a :: r, l => by
    refine Nat.le_trans ?_ (dvL_grow r (stp a.1 (a.2 + 1) l))
    rw [stp_len]
    exact Nat.le_mul_of_pos_left _ (Nat.succ_pos _)
theorem dvL_append : ∀ (ps qs : List (Nat × Nat)) (l : List Int), dvL (ps ++ qs) l = dvL qs (dvL ps l)
  | [], qs, l => rfl
  | a :: r, qs, l => dvL_append r qs _
theorem dvL_take (ps : List (Nat × Nat)) (l : List Int) (i : Nat) : (dvL (ps.take i) l).length ≤ (dvL ps l).length := by
  conv => rhs; rw [← List.take_append_drop i ps, dvL_append]
  exact dvL_grow _ _
/-- few turns make few divisors -/
theorem dvL_few : ∀ (ps : List (Nat × Nat)) (l : List Int), (dvL ps l).length ≤ 2 ^ (ps.map Prod.snd).sum * l.length
  | [], l => by
    show l.length ≤ 2 ^ 0 * l.length
    omega
  | a :: r, l => by
    have h := dvL_few r (stp a.1 (a.2 + 1) l)
    rw [stp_len] at h
    have e : a.2 + 1 ≤ 2 ^ a.2 := Nat.lt_two_pow_self
    rw [dvL_cons, List.map_cons, List.sum_cons, Nat.pow_add]
    refine Nat.le_trans h ?_
    have : 2 ^ (r.map Prod.snd).sum * ((a.2 + 1) * l.length) ≤ 2 ^ (r.map Prod.snd).sum * (2 ^ a.2 * l.length) := Nat.mul_le_mul_left _ (Nat.mul_le_mul_right _ e)
    refine Nat.le_trans this (Nat.le_of_eq ?_)
    rw [← Nat.mul_assoc, Nat.mul_comm (2 ^ (r.map Prod.snd).sum) (2 ^ a.2)]
theorem twin_one : Twin 1 [1] := ⟨fun d hd => by rw [List.mem_singleton.mp hd]; exact ⟨by decide, ⟨1, rfl⟩⟩, by
  show [(1 : Int) / 1].Perm [1]
  exact .refl _⟩
theorem twin_made {ps : List (Nat × Nat)} (hp : ∀ a ∈ ps, 0 < a.1) : Twin (made ps : Int) (dvL ps [1]) := by
  have := twin_all ps 1 [1] hp twin_one
  rwa [Int.one_mul] at this
theorem made_take_dvd : ∀ (ps : List (Nat × Nat)) (i : Nat), made (ps.take i) ∣ made ps
  | [], i => by rw [List.take_nil]; exact Nat.dvd_refl _
  | a :: r, 0 => ⟨_, (Nat.one_mul _).symm⟩
  | a :: r, i + 1 => Nat.mul_dvd_mul_left _ (made_take_dvd r i)
/-- all that is reckoned on the way stays below the base -/
theorem dvL_le {ps : List (Nat × Nat)} {n : Nat} (hn : made ps = n) (n0 : 0 < n) (hp : ∀ a ∈ ps, 0 < a.1) (i : Nat) : ∀ d ∈ dvL (ps.take i) [1], 0 < d ∧ d ≤ (n : Int) := fun d hd => by
  obtain ⟨d0, dd⟩ := (twin_made (ps := ps.take i) fun a ha => hp a (List.mem_of_mem_take ha)).1 d hd
  refine ⟨d0, Int.le_of_dvd (by omega) (Int.dvd_trans dd ?_)⟩
  rw [← hn]
  exact Int.natCast_dvd_natCast.mpr (made_take_dvd ps i)
theorem stp_mem {p j k : Nat} {l : List Int} (h : j < k) {d : Int} (hd : d ∈ l) : (p : Int) ^ j * d ∈ stp p k l := List.mem_flatMap.mpr ⟨j, List.mem_range.mpr h, List.mem_map.mpr ⟨d, hd, rfl⟩⟩
end Vf

namespace Vf
/-! ## a number built prime by prime -/
def bmp (p : Nat) (ds : List (Nat × Nat)) : List (Nat × Nat) := if p ∈ ds.map Prod.fst then ds.map (fun a => if a.1 = p then (a.1, a.2 + 1) else a) else ds ++ [(p, 1)]
def oft (p : Nat) (ds : List (Nat × Nat)) : Nat := ((ds.find? fun a => decide (a.1 = p)).map Prod.snd).getD 0
theorem made_app : ∀ (ps qs : List (Nat × Nat)), made (ps ++ qs) = made ps * made qs
  | [], qs => (Nat.one_mul _).symm
  | a :: r, qs => by
    show a.1 ^ a.2 * made (r ++ qs) = a.1 ^ a.2 * made r * made qs
    rw [made_app r qs, Nat.mul_assoc]
theorem made_perm {ps qs : List (Nat × Nat)} (h : ps.Perm qs) : made ps = made qs := by
  induction h with
  | nil => rfl
  | cons a _ ih => show a.1 ^ a.2 * made _ = a.1 ^ a.2 * made _; rw [ih]
  | swap a b l => show b.1 ^ b.2 * (a.1 ^ a.2 * made l) = a.1 ^ a.2 * (b.1 ^ b.2 * made l); exact Nat.mul_left_comm _ _ _
  | trans _ _ h1 h2 => exact h1.trans h2
theorem bmp_keys (p : Nat) (ds : List (Nat × Nat)) : (bmp p ds).map Prod.fst = if p ∈ ds.map Prod.fst then ds.map Prod.fst else ds.map Prod.fst ++ [p] := by
  unfold bmp
  split
  · rw [List.map_map]
    refine List.map_congr_left fun a _ => ?_
    show (if a.1 = p then (a.1, a.2 + 1) else a).1 = a.1
    split <;> rfl
  · rw [List.map_append]
    rfl
theorem bmp_nodup {p : Nat} {ds : List (Nat × Nat)} (h : (ds.map Prod.fst).Nodup) : ((bmp p ds).map Prod.fst).Nodup := by
  rw [bmp_keys]
  split
  · exact h
  · rename_i c
    exact List.nodup_append.mpr ⟨h, by simp, fun a ha b hb e => by rw [List.mem_singleton.mp hb] at e; rw [e] at ha; exact c ha⟩
theorem bmp_map_off {p : Nat} : ∀ {ds : List (Nat × Nat)}, p ∉ ds.map Prod.fst → ds.map (fun a => if a.1 = p then (a.1, a.2 + 1) else a) = ds
  | [], _ => rfl
  | a :: r, h => by
    rw [List.map_cons, List.mem_cons, not_or] at h
    rw [List.map_cons, if_neg (fun z => h.1 z.symm), bmp_map_off h.2]
theorem bmp_made {p : Nat} : ∀ {ds : List (Nat × Nat)}, (ds.map Prod.fst).Nodup → made (bmp p ds) = made ds * p := fun {ds} nd => by
  unfold bmp
  split
  · rename_i c
    have key : ∀ (ds : List (Nat × Nat)), (ds.map Prod.fst).Nodup → p ∈ ds.map Prod.fst → made (ds.map fun a => if a.1 = p then (a.1, a.2 + 1) else a) = made ds * p := by
      intro ds
      induction ds with
      | nil => intro _ h; exact nomatch h
      | cons a r ih =>
        intro nd h
        rw [List.map_cons, List.nodup_cons] at nd
        by_cases e : a.1 = p
        · rw [List.map_cons, if_pos e, bmp_map_off (by rw [← e]; exact nd.1)]
          show a.1 ^ (a.2 + 1) * made r = a.1 ^ a.2 * made r * p
          rw [e, Nat.pow_succ]
          grind
        · rw [List.map_cons, if_neg e]
          show a.1 ^ a.2 * made _ = a.1 ^ a.2 * made r * p
          rw [List.map_cons, List.mem_cons] at h
          rw [ih nd.2 (h.resolve_left fun z => e z.symm), Nat.mul_assoc]
    exact key ds nd c
  · rw [made_app]
    show made ds * (p ^ 1 * 1) = made ds * p
    rw [Nat.pow_one, Nat.mul_one]
theorem bmp_sum {p : Nat} {ds : List (Nat × Nat)} (nd : (ds.map Prod.fst).Nodup) : ((bmp p ds).map Prod.snd).sum = (ds.map Prod.snd).sum + 1 := by
  unfold bmp
  split
  · rename_i c
    have key : ∀ (ds : List (Nat × Nat)), (ds.map Prod.fst).Nodup → p ∈ ds.map Prod.fst → ((ds.map fun a => if a.1 = p then (a.1, a.2 + 1) else a).map Prod.snd).sum = (ds.map Prod.snd).sum + 1 := by
      intro ds
      induction ds with
      | nil => intro _ h; exact nomatch h
      | cons a r ih =>
        intro nd h
        rw [List.map_cons, List.nodup_cons] at nd
        by_cases e : a.1 = p
        · rw [List.map_cons, if_pos e, bmp_map_off (by rw [← e]; exact nd.1), List.map_cons, List.sum_cons, List.map_cons, List.sum_cons]
          show a.2 + 1 + _ = _
          omega
        · rw [List.map_cons, if_neg e, List.map_cons, List.sum_cons, List.map_cons, List.sum_cons]
          rw [List.map_cons, List.mem_cons] at h
          rw [ih nd.2 (h.resolve_left fun z => e z.symm)]
          omega
    exact key ds nd c
  · rw [List.map_append, List.sum_append]
    rfl
theorem bmp_ok {p : Nat} (hp : Pr p) {ds : List (Nat × Nat)} (h : ∀ a ∈ ds, Pr a.1 ∧ 1 ≤ a.2) : ∀ a ∈ bmp p ds, Pr a.1 ∧ 1 ≤ a.2 := by
  unfold bmp
  split
  · intro a ha
    obtain ⟨b, hb, rfl⟩ := List.mem_map.mp ha
    have := h b hb
    split
    · exact ⟨this.1, by show 1 ≤ b.2 + 1; omega⟩
    · exact this
  · intro a ha
    rcases List.mem_append.mp ha with z | z
    · exact h a z
    · rw [List.mem_singleton.mp z]
      exact ⟨hp, Nat.le_refl _⟩
theorem oft_mem {p e : Nat} : ∀ {ds : List (Nat × Nat)}, (ds.map Prod.fst).Nodup → (p, e) ∈ ds → oft p ds = e
  | [], _, h => nomatch h
  | a :: r, nd, h => by
    rw [List.map_cons, List.nodup_cons] at nd
    unfold oft
    rw [List.find?_cons]
    by_cases c : a.1 = p
    · rw [decide_eq_true c]
      rcases List.mem_cons.mp h with z | z
      · rw [← z]
        rfl
      · exact absurd (List.mem_map.mpr ⟨_, z, c.symm⟩) nd.1
    · rw [decide_eq_false c]
      rcases List.mem_cons.mp h with z | z
      · rw [← z] at c
        exact absurd rfl c
      · exact oft_mem nd.2 z
/-- the pairs by the sorted primes -/
theorem srt_apart {ds : List (Nat × Nat)} {ys : List Nat} {n : Nat} (nd : (ds.map Prod.fst).Nodup) (hm : made ds = n) (ok : ∀ a ∈ ds, Pr a.1 ∧ 1 ≤ a.2) (hp : ys.Perm (ds.map Prod.fst)) (hs : ys.Pairwise (· ≤ ·)) :
    Apart (ys.map fun p => (p, oft p ds)) n ∧ (ys.map fun p => (p, oft p ds)).Perm ds := by
  have e1 : ((ds.map Prod.fst).map fun p => (p, oft p ds)) = ds := by
    rw [List.map_map]
    conv => rhs; rw [← List.map_id ds]
    refine List.map_congr_left fun a ha => ?_
    show (a.1, oft a.1 ds) = a
    rw [oft_mem nd (show (a.1, a.2) ∈ ds from ha)]
  have pm : (ys.map fun p => (p, oft p ds)).Perm ds := by
    have := hp.map fun p => (p, oft p ds)
    rwa [e1] at this
  refine ⟨⟨by rw [made_perm pm, hm], fun a ha => ok a (pm.mem_iff.mp ha), ?_⟩, pm⟩
  refine List.pairwise_map.mpr ?_
  have nd2 : ys.Nodup := (hp.nodup_iff).mpr nd
  exact List.Pairwise.imp₂ (fun a b h1 h2 => by show a < b; omega) hs nd2
end Vf

namespace Vf
/-! ## zeros as lists -/
def zsL (f : Int → Int) (n : Nat) : List Nat := (List.range n).filter fun x => decide ((n : Int) ∣ f (x : Int))
def lstF (p e : Nat) (fs : List (Nat × Nat)) : List Nat := fs.flatMap fun a => (List.range (p ^ (e - a.2))).map fun i => a.1 + i * p ^ a.2
theorem zs_mem {f : Int → Int} {n x : Nat} : x ∈ zsL f n ↔ x < n ∧ (n : Int) ∣ f (x : Int) := by
  unfold zsL
  rw [List.mem_filter, List.mem_range, decide_eq_true_eq]
theorem zs_nodup (f : Int → Int) (n : Nat) : (zsL f n).Nodup := List.Pairwise.filter _ List.nodup_range
theorem lst_perm {f : Int → Int} {p e : Nat} {fs : List (Nat × Nat)} (p1 : 1 ≤ p) (Z : ZI f p e [] fs) : (lstF p e fs).Perm (zsL f (p ^ e)) := by
  have pj : ∀ j, 0 < p ^ j := fun j => Nat.pow_pos p1
  have dj : fs.Pairwise (Ap p) := Z.dj
  refine (List.perm_ext_iff_of_nodup (List.pairwise_flatMap.mpr ⟨fun a ha => ?_, ?_⟩) (zs_nodup f _)).mpr fun x => ?_
  · refine List.pairwise_map.mpr (List.nodup_range.imp fun {i k} h e2 => h ?_)
    exact Nat.eq_of_mul_eq_mul_right (pj a.2) (by omega)
  · refine dj.imp fun {a b} h x hx y hy exy => ?_
    obtain ⟨i, _, rfl⟩ := List.mem_map.mp hx
    obtain ⟨k, _, rfl⟩ := List.mem_map.mp hy
    refine h ((a.1 + i * p ^ a.2 : Nat) : Int) ⟨(i : Int), ?_⟩ ⟨(k : Int), ?_⟩
    · rw [Int.natCast_add, Int.natCast_mul, Int.natCast_pow, Int.mul_comm]
    · rw [exy, Int.natCast_add, Int.natCast_mul, Int.natCast_pow, Int.mul_comm]
  · rw [zs_mem]
    rw [List.mem_flatMap]
    constructor
    · rintro ⟨a, ha, hx⟩
      obtain ⟨i, hi, rfl⟩ := List.mem_map.mp hx
      obtain ⟨h1, h2, h3⟩ := Z.fl a ha
      have hi := List.mem_range.mp hi
      refine ⟨?_, ?_⟩
      · have e1 : p ^ (e - a.2) * p ^ a.2 = p ^ e := by rw [← Nat.pow_add]; congr 1; omega
        have e2 := Nat.mul_le_mul_right (p ^ a.2) hi
        rw [Nat.succ_mul] at e2
        omega
      · have := h3 (i : Int)
        rw [pow_int, Int.natCast_add, Int.natCast_mul, Int.natCast_pow, Int.mul_comm (i : Int)]
        exact this
    · rintro ⟨h1, h2⟩
      rw [pow_int] at h2
      obtain ⟨a, ha, y, hy⟩ := Z.cv (x : Int) h2
      obtain ⟨g1, g2, _⟩ := Z.fl a ha
      have q0 := pj a.2
      have hy : (x : Int) = (a.1 : Int) + ((p ^ a.2 : Nat) : Int) * y := by rw [pow_int]; exact hy
      have y0 : 0 ≤ y := Int.not_lt.mp fun c => by
        have := Int.mul_le_mul_of_nonneg_left (show y ≤ -1 by omega) (show (0 : Int) ≤ ((p ^ a.2 : Nat) : Int) by omega)
        omega
      obtain ⟨i, rfl⟩ := Int.eq_ofNat_of_zero_le y0
      have ex : x = a.1 + i * p ^ a.2 := by
        have e1 : ((p ^ a.2 : Nat) : Int) * (i : Int) = ((i * p ^ a.2 : Nat) : Int) := by rw [Int.natCast_mul, Int.mul_comm]
        rw [e1] at hy
        omega
      refine ⟨a, ha, List.mem_map.mpr ⟨i, List.mem_range.mpr ?_, ex.symm⟩⟩
      have e1 : p ^ (e - a.2) * p ^ a.2 = p ^ e := by rw [← Nat.pow_add]; congr 1; omega
      refine Nat.lt_of_mul_lt_mul_right (a := p ^ a.2) ?_
      rw [e1]
      omega
theorem lst_len (p e : Nat) (fs : List (Nat × Nat)) : (lstF p e fs).length = (fs.map fun a => p ^ (e - a.2)).sum := by
  unfold lstF
  rw [List.length_flatMap]
  congr 1
  refine List.map_congr_left fun a _ => ?_
  rw [List.length_map, List.length_range]
/-! ## two bases without a common divisor -/
def Cong (f : Int → Int) : Prop := ∀ n x y : Int, n ∣ x - y → n ∣ f x - f y
theorem pval_cong : ∀ t : List Int, Cong (pval t)
  | [], n, x, y, h => by show n ∣ 0 - 0; simp
  | c :: t, n, x, y, h => by
    have ih := pval_cong t n x y h
    show n ∣ (c + x * pval t x) - (c + y * pval t y)
    rw [show (c + x * pval t x) - (c + y * pval t y) = (x - y) * pval t x + y * (pval t x - pval t y) by grind]
    exact Int.dvd_add (Int.dvd_trans h (Int.dvd_mul_right _ _)) (Int.dvd_trans ih (Int.dvd_mul_left _ _))
theorem crt_uniq {m q R S : Nat} (c : Nat.Coprime m q) (hR : R < m * q) (hS : S < m * q) (e1 : R % m = S % m) (e2 : R % q = S % q) : R = S := by
  have key : ∀ R S : Nat, R < m * q → S ≤ R → R % m = S % m → R % q = S % q → R = S := fun R S hR le e1 e2 => by
    have d1 : m ∣ R - S := Nat.dvd_of_mod_eq_zero (Nat.sub_mod_eq_zero_of_mod_eq e1)
    have d2 : q ∣ R - S := Nat.dvd_of_mod_eq_zero (Nat.sub_mod_eq_zero_of_mod_eq e2)
    have d := Nat.Coprime.mul_dvd_of_dvd_of_dvd c d1 d2
    rcases Nat.eq_zero_or_pos (R - S) with z | z
    · omega
    · have := Nat.le_of_dvd z d
      omega
  rcases Nat.le_total S R with h | h
  · exact key R S hR h e1 e2
  · exact (key S R hS h e1.symm e2.symm).symm
theorem crt_ex {m q k l : Nat} (c : Nat.Coprime m q) (hk : k < m) (hl : l < q) : ∃ R, R < m * q ∧ R % m = k ∧ R % q = l := by
  have q0 : 0 < q := by omega
  have m0 : 0 < m := by omega
  have comp : ∀ a b : Nat, b < q → (a * q + b) / q = a ∧ (a * q + b) % q = b := fun a b hb => by
    rw [Nat.add_comm, Nat.add_mul_div_right _ _ q0, Nat.add_mul_mod_self_right, Nat.div_eq_of_lt hb, Nat.mod_eq_of_lt hb]
    exact ⟨Nat.zero_add _, rfl⟩
  have lt : ∀ a b : Nat, a < m → b < q → a * q + b < m * q := fun a b ha hb => by
    have := Nat.mul_le_mul_right q (show a + 1 ≤ m from ha)
    rw [Nat.succ_mul] at this
    omega
  obtain ⟨R, hR, e⟩ := pig (n := m * q) (g := fun R => R % m * q + R % q) (fun x _ => lt _ _ (Nat.mod_lt _ m0) (Nat.mod_lt _ q0)) (fun x hx y hy e => by
    have e : x % m * q + x % q = y % m * q + y % q := e
    have a1 := comp (x % m) (x % q) (Nat.mod_lt _ q0)
    have a2 := comp (y % m) (y % q) (Nat.mod_lt _ q0)
    rw [e] at a1
    exact crt_uniq c hx hy (a1.1.symm.trans a2.1) (a1.2.symm.trans a2.2)) (k * q + l) (lt k l hk hl)
  have e : R % m * q + R % q = k * q + l := e
  have a1 := comp (R % m) (R % q) (Nat.mod_lt _ q0)
  have a2 := comp k l hl
  rw [e] at a1
  exact ⟨R, hR, a1.1.symm.trans a2.1, a1.2.symm.trans a2.2⟩
theorem dvd_rest {f : Int → Int} (hf : Cong f) {n : Nat} (x : Nat) : (n : Int) ∣ f (x : Int) ↔ (n : Int) ∣ f ((x % n : Nat) : Int) := by
  have h : (n : Int) ∣ f (x : Int) - f ((x % n : Nat) : Int) := hf _ _ _ ⟨((x / n : Nat) : Int), by
    have := Nat.mod_add_div x n
    have e : ((n * (x / n) : Nat) : Int) = (n : Int) * ((x / n : Nat) : Int) := by rw [Int.natCast_mul]
    omega⟩
  constructor
  · intro g
    have := Int.dvd_sub g h
    rwa [show f (x : Int) - (f (x : Int) - f ((x % n : Nat) : Int)) = f ((x % n : Nat) : Int) by omega] at this
  · intro g
    have := Int.dvd_add h g
    rwa [show f (x : Int) - f ((x % n : Nat) : Int) + f ((x % n : Nat) : Int) = f (x : Int) by omega] at this
theorem dvd_both {m q : Nat} {z : Int} (c : Nat.Coprime m q) : ((m * q : Nat) : Int) ∣ z ↔ (m : Int) ∣ z ∧ (q : Int) ∣ z := by
  rw [Int.ofNat_dvd_left, Int.ofNat_dvd_left, Int.ofNat_dvd_left]
  exact ⟨fun h => ⟨Nat.dvd_trans (Nat.dvd_mul_right _ _) h, Nat.dvd_trans (Nat.dvd_mul_left _ _) h⟩, fun h => Nat.Coprime.mul_dvd_of_dvd_of_dvd c h.1 h.2⟩
theorem crt_step {f : Int → Int} (hf : Cong f) {m q : Nat} (c : Nat.Coprime m q) (m0 : 0 < m) (q0 : 0 < q) {K L N : List Nat} (hK : K.Perm (zsL f m)) (hL : L.Perm (zsL f q))
    (hN : N.map (fun R => (R % m, R % q)) = K.flatMap fun k => L.map fun l => (k, l)) (hlt : ∀ R ∈ N, R < m * q) : N.Perm (zsL f (m * q)) := by
  have ndK : K.Nodup := hK.symm.pairwise (zs_nodup f m) (fun h => h.symm)
  have ndL : L.Nodup := hL.symm.pairwise (zs_nodup f q) (fun h => h.symm)
  have nd : (N.map fun R => (R % m, R % q)).Nodup := by
    rw [hN]
    refine List.pairwise_flatMap.mpr ⟨fun k _ => List.pairwise_map.mpr (ndL.imp fun h e => h (congrArg Prod.snd e)), ndK.imp fun {a b} h x hx y hy e => ?_⟩
    obtain ⟨_, _, rfl⟩ := List.mem_map.mp hx
    obtain ⟨_, _, rfl⟩ := List.mem_map.mp hy
    exact h (congrArg Prod.fst e)
  refine (List.perm_ext_iff_of_nodup ((List.pairwise_map.mp nd).imp fun h e => h (by rw [e])) (zs_nodup f _)).mpr fun R => ?_
  have pm : ∀ k l, (k, l) ∈ N.map (fun R => (R % m, R % q)) ↔ k ∈ K ∧ l ∈ L := fun k l => by
    rw [hN, List.mem_flatMap]
    constructor
    · rintro ⟨a, ha, h⟩
      obtain ⟨b, hb, e⟩ := List.mem_map.mp h
      cases e
      exact ⟨ha, hb⟩
    · rintro ⟨h1, h2⟩
      exact ⟨k, h1, List.mem_map.mpr ⟨l, h2, rfl⟩⟩
  have iff : ((m * q : Nat) : Int) ∣ f (R : Int) ↔ R % m ∈ K ∧ R % q ∈ L := by
    rw [hK.mem_iff, hL.mem_iff, zs_mem, zs_mem, dvd_both c, dvd_rest hf (n := m), dvd_rest hf (n := q)]
    exact ⟨fun h => ⟨⟨Nat.mod_lt _ m0, h.1⟩, Nat.mod_lt _ q0, h.2⟩, fun h => ⟨h.1.2, h.2.2⟩⟩
  rw [zs_mem, iff, ← pm]
  constructor
  · intro h
    exact ⟨hlt R h, List.mem_map.mpr ⟨R, h, rfl⟩⟩
  · rintro ⟨h1, h2⟩
    obtain ⟨S, hS, e⟩ := List.mem_map.mp h2
    rw [Prod.mk.injEq] at e
    rw [crt_uniq c h1 (hlt S hS) e.1.symm e.2.symm]
    exact hS
theorem zs_mul {f : Int → Int} (hf : Cong f) {m q : Nat} (c : Nat.Coprime m q) (m0 : 0 < m) (q0 : 0 < q) : (zsL f (m * q)).length = (zsL f m).length * (zsL f q).length := by
  have ex : ∀ (P : List (Nat × Nat)), (∀ a ∈ P, a.1 < m ∧ a.2 < q) → ∃ N : List Nat, N.map (fun R => (R % m, R % q)) = P ∧ ∀ R ∈ N, R < m * q := by
    intro P
    induction P with
    | nil => intro _; exact ⟨[], rfl, fun _ h => nomatch h⟩
    | cons a r ih =>
      intro h
      obtain ⟨N, e, l⟩ := ih fun b hb => h b (List.mem_cons_of_mem _ hb)
      have ha := h a List.mem_cons_self
      obtain ⟨R, hR, e1, e2⟩ := crt_ex c ha.1 ha.2
      refine ⟨R :: N, by rw [List.map_cons, e, e1, e2], fun S hS => ?_⟩
      rcases List.mem_cons.mp hS with rfl | hS
      · exact hR
      · exact l S hS
  obtain ⟨N, e, l⟩ := ex ((zsL f m).flatMap fun k => (zsL f q).map fun l => (k, l)) fun a ha => by
    obtain ⟨k, hk, h⟩ := List.mem_flatMap.mp ha
    obtain ⟨b, hb, rfl⟩ := List.mem_map.mp h
    exact ⟨(zs_mem.mp hk).1, (zs_mem.mp hb).1⟩
  have pm := crt_step hf c m0 q0 (.refl _) (.refl _) e l
  rw [← pm.length_eq, ← List.length_map (as := N) (f := fun R => (R % m, R % q)), e, List.length_flatMap]
  have key : ∀ (A B : List Nat), (A.map fun k => (B.map fun l => (k, l)).length).sum = A.length * B.length := by
    intro A B
    induction A with
    | nil => simp
    | cons a r ih => rw [List.map_cons, List.sum_cons, ih, List.length_map, List.length_cons, Nat.succ_mul]; omega
  exact key _ _
theorem cop_pows {p e : Nat} (hp : Pr p) : ∀ (qs : List (Nat × Nat)), (∀ a ∈ qs, Pr a.1 ∧ a.1 ≠ p) → Nat.Coprime (made qs) (p ^ e)
  | [], _ => Nat.coprime_one_left _
  | a :: r, h => by
    obtain ⟨h1, h2⟩ := h a List.mem_cons_self
    exact Nat.Coprime.mul_left (Nat.Coprime.pow _ _ (cop_primes h1 hp h2)) (cop_pows hp r fun b hb => h b (List.mem_cons_of_mem _ hb))
theorem cop_take {ps : List (Nat × Nat)} {n i : Nat} {b : Nat × Nat} (A : Apart ps n) (hb : ps[i]? = some b) : Nat.Coprime (made (ps.take i)) (b.1 ^ b.2) := by
  refine cop_pows (A.p b (List.mem_of_getElem? hb)).1 _ fun a ha => ⟨(A.p a (List.mem_of_mem_take ha)).1, fun e => ?_⟩
  obtain ⟨j, hj, ej⟩ := List.getElem_of_mem ha
  have l : j < i := by have := hj; rw [List.length_take] at this; omega
  obtain ⟨il, ei⟩ := List.getElem?_eq_some_iff.mp hb
  have := List.pairwise_iff_getElem.mp A.s j i (by omega) il l
  rw [List.getElem_take] at ej
  rw [ej, ei, e] at this
  omega
theorem made_next {ps : List (Nat × Nat)} {i : Nat} {b : Nat × Nat} (hb : ps[i]? = some b) : made (ps.take (i + 1)) = made (ps.take i) * b.1 ^ b.2 := by
  rw [List.take_add_one, hb, made_app]
  show _ * (b.1 ^ b.2 * 1) = _
  rw [Nat.mul_one]
end Vf

namespace Vf
/-! ## two facts that may quarrel -/
/-- the place along the one fact at which the other one is met -/
theorem along_math {r s b c g bt ct u w : Int} (hg : 0 < g) (hct : 0 < ct) (eb : b = g * bt) (ec : c = g * ct) (hq : (s - r) % g = 0) (hu : u * bt = 1 + ct * w) :
    (r + b * ((s - r) / g * (u % ct) % ct) - s) % c = 0 := by
  have d : s - r = g * ((s - r) / g) := (Int.mul_ediv_cancel' (Int.dvd_of_emod_eq_zero hq)).symm
  generalize (s - r) / g = t at *
  have e1 := Int.emod_add_mul_ediv u ct
  have e2 := Int.emod_add_mul_ediv (t * (u % ct)) ct
  generalize u / ct = q at *
  generalize t * (u % ct) / ct = v at *
  generalize hm : t * (u % ct) % ct = m at *
  generalize u % ct = n at *
  have key : r + b * m - s = c * (t * w - bt * t * q - bt * v) := by
    have h1 : b * m = g * (bt * m) := by rw [eb, Int.mul_assoc]
    have h2 : bt * m = bt * (t * n) - bt * (ct * v) := by rw [← e2]; grind
    have h3 : u * bt = n * bt + ct * q * bt := by rw [← e1]; grind
    have h4 : n * bt = 1 + ct * w - ct * q * bt := by omega
    have h5 : bt * (t * n) = t * (n * bt) := by grind
    rw [h1, h2, h5, h4, ec]
    have : r - s = -(g * t) := by omega
    grind
  rw [key]
  exact Int.mul_emod_right _ _
theorem cong_lcm {b c : Nat} {x y : Int} (h1 : y % (b : Int) = x % (b : Int)) (h2 : y % (c : Int) = x % (c : Int)) : y % ((Nat.lcm b c : Nat) : Int) = x % ((Nat.lcm b c : Nat) : Int) := by
  have d1 : (b : Int) ∣ y - x := Int.dvd_of_emod_eq_zero (Int.emod_eq_emod_iff_emod_sub_eq_zero.mp h1)
  have d2 : (c : Int) ∣ y - x := Int.dvd_of_emod_eq_zero (Int.emod_eq_emod_iff_emod_sub_eq_zero.mp h2)
  have n1 : b ∣ (y - x).natAbs := Int.ofNat_dvd_left.mp d1
  have n2 : c ∣ (y - x).natAbs := Int.ofNat_dvd_left.mp d2
  exact Int.emod_eq_emod_iff_emod_sub_eq_zero.mpr (Int.emod_eq_zero_of_dvd (Int.ofNat_dvd_left.mpr (Nat.lcm_dvd n1 n2)))
/-- what both make: R is the one number of a round that fits both -/
theorem both_iff {b c : Nat} {r s R : Int} (b0 : 0 < b) (c0 : 0 < c) (h0 : 0 ≤ R) (h1 : R < (Nat.lcm b c : Nat)) (e1 : R % (b : Int) = r) (e2 : R % (c : Int) = s) (x : Int) :
    (x % (b : Int) = r ∧ x % (c : Int) = s) ↔ x % ((Nat.lcm b c : Nat) : Int) = R := by
  constructor
  · rintro ⟨h2, h3⟩
    rw [cong_lcm (x := R) (h2.trans e1.symm) (h3.trans e2.symm), Int.emod_eq_of_lt h0 h1]
  · intro h
    have d1 : (b : Int) ∣ ((Nat.lcm b c : Nat) : Int) := Int.natCast_dvd_natCast.mpr (Nat.dvd_lcm_left b c)
    have d2 : (c : Int) ∣ ((Nat.lcm b c : Nat) : Int) := Int.natCast_dvd_natCast.mpr (Nat.dvd_lcm_right b c)
    rw [← Int.emod_emod_of_dvd x d1, ← Int.emod_emod_of_dvd x d2, h]
    exact ⟨e1, e2⟩
theorem quarrel_none {b c : Nat} {r s : Int} (h : (s - r) % ((Nat.gcd b c : Nat) : Int) ≠ 0) (x : Int) : ¬ (x % (b : Int) = r ∧ x % (c : Int) = s) := by
  rintro ⟨rfl, rfl⟩
  apply h
  have d1 : ((Nat.gcd b c : Nat) : Int) ∣ (b : Int) := Int.natCast_dvd_natCast.mpr (Nat.gcd_dvd_left b c)
  have d2 : ((Nat.gcd b c : Nat) : Int) ∣ (c : Int) := Int.natCast_dvd_natCast.mpr (Nat.gcd_dvd_right b c)
  refine Int.emod_eq_emod_iff_emod_sub_eq_zero.mp ?_
  rw [Int.emod_emod_of_dvd x d1, Int.emod_emod_of_dvd x d2]
/-- R is what the facts make -/
def Jn (fs : List (Int × Int)) (R : Int) : Prop := 0 ≤ R ∧ R < (lcmAll fs : Int) ∧ ∀ x, Fits x fs ↔ x % (lcmAll fs : Int) = R
theorem Jn.nil : Jn [] 0 := ⟨by decide, by decide, fun x => ⟨fun _ => Int.emod_one x, fun _ p hp => absurd hp List.not_mem_nil⟩⟩
theorem fits_snoc {x : Int} {fs : List (Int × Int)} {p : Int × Int} : Fits x (fs ++ [p]) ↔ Fits x fs ∧ x % p.2 = p.1 := by
  constructor
  · intro h
    exact ⟨fun q hq => h q (List.mem_append_left _ hq), h p (List.mem_append_right _ List.mem_cons_self)⟩
  · rintro ⟨h1, h2⟩ q hq
    rcases List.mem_append.mp hq with hq | hq
    · exact h1 q hq
    · rw [List.mem_singleton.mp hq]
      exact h2
theorem Jn.snoc {fs : List (Int × Int)} {p : Int × Int} {R S : Int} (h : Jn fs R) (hp : Fact p) (l0 : 0 < lcmAll fs) (h0 : 0 ≤ S) (h1 : S < (Nat.lcm (lcmAll fs) p.2.natAbs : Nat)) (e1 : S % (lcmAll fs : Int) = R) (e2 : S % p.2 = p.1) : Jn (fs ++ [p]) S := by
  have ep : ((p.2.natAbs : Nat) : Int) = p.2 := by have := hp.1; omega
  refine ⟨h0, by rw [lcmAll_snoc]; exact h1, fun x => ?_⟩
  rw [fits_snoc, h.2.2 x, lcmAll_snoc, ← both_iff (r := R) (s := p.1) l0 (by have := hp.1; omega) h0 h1 e1 (by rw [ep]; exact e2) x, ep]
/-- facts that some number fits make its rest -/
theorem Jn.of_fits {fs : List (Int × Int)} {x R : Int} (hf : ∀ p ∈ fs, Fact p) (hx : Fits x fs) : Jn fs (x % (lcmAll fs : Int)) := by
  have l0 : (0 : Int) < lcmAll fs := by
    have := lcmAll_pos fs 1 hf (by decide)
    exact Int.natCast_pos.mpr this
  refine ⟨Int.emod_nonneg _ (by omega), Int.emod_lt_of_pos _ l0, fun y => ?_⟩
  rw [fits_iff hf hx]
  constructor
  · intro h
    exact Int.emod_eq_emod_iff_emod_sub_eq_zero.mpr (Int.emod_eq_zero_of_dvd h)
  · intro h
    exact Int.dvd_of_emod_eq_zero (Int.emod_eq_emod_iff_emod_sub_eq_zero.mp h)
theorem Jn.fits {fs : List (Int × Int)} {R : Int} (h : Jn fs R) : Fits R fs := (h.2.2 R).mpr (Int.emod_eq_of_lt h.1 h.2.1)
theorem Jn.one {fs : List (Int × Int)} {R S : Int} (h : Jn fs R) (h' : Jn fs S) : R = S := by
  have z := (h'.2.2 R).mp h.fits
  rw [Int.emod_eq_of_lt h.1 h.2.1] at z
  exact z
end Vf

namespace Vf
/-! ## roots counted -/
def cic (x : Int) (k L q : Nat) : Nat := if x ^ (L / Nat.gcd k L) % (q : Int) = 1 % (q : Int) then Nat.gcd k L else 0
def cro (x : Int) (k p e : Nat) : Nat :=
  if p = 2 ∧ 2 < e then (if k % 2 = 1 then 1 else if x % 4 = 1 then 2 * cic x k (p ^ e / 4) (p ^ e) else 0)
  else cic x k (p ^ e / p * (p - 1)) (p ^ e)
def cicN (a k L q : Nat) : Nat := bif Nat.beq (a ^ (L / Nat.gcd k L) % q) (1 % q) then Nat.gcd k L else 0
def croN (a k p e : Nat) : Nat :=
  bif Nat.beq p 2 && Nat.blt 2 e then (bif Nat.beq (k % 2) 1 then 1 else bif Nat.beq (a % 4) 1 then 2 * cicN a k (p ^ e / 4) (p ^ e) else 0)
  else cicN a k (p ^ e / p * (p - 1)) (p ^ e)
def rndN (p e : Nat) : Nat := bif Nat.beq p 2 && Nat.blt 2 e then p ^ e / 4 else p ^ e / p * (p - 1)
def cntU (q k a : Nat) : Nat → Nat
  | 0 => 0
  | y + 1 => cntU q k a y + bif Nat.beq (y ^ k % q) a then 1 else 0
def allN (f : Nat → Bool) : Nat → Bool
  | 0 => true
  | n + 1 => f n && allN f n
theorem allN_at {f : Nat → Bool} : ∀ {n : Nat}, allN f n = true → ∀ i < n, f i = true
  | n + 1, h, i, l => by
    have h' : (f n && allN f n) = true := h
    rw [Bool.and_eq_true] at h'
    rcases Nat.lt_succ_iff_lt_or_eq.mp l with c | c
    · exact allN_at h'.2 i c
    · rw [c]; exact h'.1
def chkP (p e : Nat) : Bool := allN (fun k => allN (fun a => !(Nat.beq (Nat.gcd a (p ^ e)) 1) || Nat.beq (cntU (p ^ e) (k + 1) a (p ^ e)) (croN a (k + 1) p e)) (p ^ e)) (rndN p e)
def pows60 : List (Nat × Nat) := [(2,1),(2,2),(2,3),(2,4),(2,5),(3,1),(3,2),(3,3),(5,1),(5,2),(7,1),(7,2),(11,1),(13,1),(17,1),(19,1),(23,1),(29,1),(31,1),(37,1),(41,1),(43,1),(47,1),(53,1),(59,1)]
theorem chk_all : (pows60.all fun a => chkP a.1 a.2) = true := by decide +kernel
end Vf

namespace Vf
theorem pows_told : ((List.range 61).all fun p => (List.range 6).all fun e => decide (e = 0) || decide (p < 2) || decide (60 < p ^ e) || decide ((p, e) ∈ pows60) || (List.range p).any fun d => decide (2 ≤ d ∧ p % d = 0)) = true := by decide +kernel
theorem pows_mem {p e : Nat} (hp : Pr p) (he : 1 ≤ e) (h : p ^ e ≤ 60) : (p, e) ∈ pows60 := by
  have p2 := hp.1
  have pl : p < 61 := by
    have h1 : p ^ 1 ≤ p ^ e := Nat.pow_le_pow_right (by omega) he
    rw [Nat.pow_one] at h1
    omega
  have el : e < 6 := by
    refine Classical.byContradiction fun g => ?_
    have h1 : 2 ^ 6 ≤ p ^ e := Nat.le_trans (Nat.pow_le_pow_right (by decide) (by omega)) (Nat.pow_le_pow_left p2 e)
    have : (2 : Nat) ^ 6 = 64 := by decide
    omega
  have h1 := List.all_eq_true.mp (List.all_eq_true.mp pows_told p (List.mem_range.mpr pl)) e (List.mem_range.mpr el)
  simp only [Bool.or_eq_true, decide_eq_true_eq, List.any_eq_true, List.mem_range] at h1
  rcases h1 with (((c | c) | c) | c) | ⟨d, hd, h2, h3⟩
  · omega
  · omega
  · omega
  · exact c
  · rcases hp.2 d (Nat.dvd_of_mod_eq_zero h3) with c | c <;> omega
theorem pow_sub_dvd {n x y : Int} (h : n ∣ x - y) : ∀ k : Nat, n ∣ x ^ k - y ^ k
  | 0 => by simp
  | k + 1 => by
    have ih := pow_sub_dvd h k
    rw [show x ^ (k + 1) - y ^ (k + 1) = x * (x ^ k - y ^ k) + y ^ k * (x - y) by rw [Int.pow_succ, Int.pow_succ]; grind]
    exact Int.dvd_add (Int.dvd_trans ih (Int.dvd_mul_left _ _)) (Int.dvd_trans h (Int.dvd_mul_left _ _))
theorem pow_mod {n x y : Int} (h : x % n = y % n) (k : Nat) : x ^ k % n = y ^ k % n :=
  Int.emod_eq_emod_iff_emod_sub_eq_zero.mpr (Int.emod_eq_zero_of_dvd (pow_sub_dvd (Int.dvd_of_emod_eq_zero (Int.emod_eq_emod_iff_emod_sub_eq_zero.mp h)) k))
def fk (x : Int) (k : Nat) (y : Int) : Int := y ^ k - x
theorem fk_cong (x : Int) (k : Nat) : Cong (fk x k) := fun n a b h => by
  show n ∣ a ^ k - x - (b ^ k - x)
  rw [show a ^ k - x - (b ^ k - x) = a ^ k - b ^ k by omega]
  exact pow_sub_dvd h k
theorem fk_iff {x y n : Int} {k : Nat} : n ∣ fk x k y ↔ y ^ k % n = x % n :=
  ⟨fun h => Int.emod_eq_emod_iff_emod_sub_eq_zero.mpr (Int.emod_eq_zero_of_dvd h), fun h => Int.dvd_of_emod_eq_zero (Int.emod_eq_emod_iff_emod_sub_eq_zero.mp h)⟩
theorem cic_cong {x y : Int} {k L q : Nat} (h : x % (q : Int) = y % (q : Int)) : cic x k L q = cic y k L q := by
  unfold cic
  rw [pow_mod h]
theorem nat_mod_iff {a b q : Nat} : (a : Int) % (q : Int) = (b : Int) % (q : Int) ↔ a % q = b % q := by
  rw [← Int.natCast_emod, ← Int.natCast_emod]
  exact ⟨fun h => Int.ofNat.inj h, fun h => by rw [h]⟩
theorem beq_cond {α : Type} {a b : Nat} {x y : α} : (bif Nat.beq a b then x else y) = if a = b then x else y := by
  by_cases h : a = b
  · rw [if_pos h, h, Nat.beq_refl]; rfl
  · rw [if_neg h]
    cases e : Nat.beq a b with
    | true => exact absurd (Nat.eq_of_beq_eq_true e) h
    | false => rfl
theorem cic_nat (a k L q : Nat) : cic (a : Int) k L q = cicN a k L q := by
  unfold cic cicN
  rw [beq_cond]
  have : (a : Int) ^ (L / Nat.gcd k L) % (q : Int) = 1 % (q : Int) ↔ a ^ (L / Nat.gcd k L) % q = 1 % q := by
    rw [← Int.natCast_pow]
    exact nat_mod_iff (b := 1)
  by_cases h : a ^ (L / Nat.gcd k L) % q = 1 % q
  · rw [if_pos h, if_pos (this.mpr h)]
  · rw [if_neg h, if_neg fun c => h (this.mp c)]
theorem and_cond {α : Type} {p e : Nat} {x y : α} : (bif Nat.beq p 2 && Nat.blt 2 e then x else y) = if p = 2 ∧ 2 < e then x else y := by
  by_cases h : p = 2
  · subst h
    by_cases g : 2 < e
    · rw [if_pos ⟨rfl, g⟩]
      have : Nat.blt 2 e = true := Nat.ble_eq.mpr g
      rw [this]; rfl
    · rw [if_neg fun c => g c.2]
      cases z : Nat.blt 2 e with
      | true => exact absurd (Nat.le_of_ble_eq_true z) g
      | false => rfl
  · rw [if_neg fun c => h c.1]
    cases z : Nat.beq p 2 with
    | true => exact absurd (Nat.eq_of_beq_eq_true z) h
    | false => rfl
theorem cro_nat (a k p e : Nat) : cro (a : Int) k p e = croN a k p e := by
  unfold cro croN
  rw [and_cond, beq_cond, beq_cond, cic_nat, cic_nat]
  have : (a : Int) % 4 = 1 ↔ a % 4 = 1 := by omega
  by_cases h : a % 4 = 1
  · rw [if_pos h, if_pos (this.mpr h)]
  · rw [if_neg h, if_neg fun c => h (this.mp c)]
theorem four_dvd {e : Nat} (h : 2 < e) : ∃ c : Nat, 2 ^ e = 4 * c := by
  obtain ⟨d, rfl⟩ : ∃ d, e = d + 2 := ⟨e - 2, by omega⟩
  exact ⟨2 ^ d, by rw [Nat.pow_add]; omega⟩
theorem cro_cong {x y : Int} {k p e : Nat} (h : x % ((p ^ e : Nat) : Int) = y % ((p ^ e : Nat) : Int)) : cro x k p e = cro y k p e := by
  unfold cro
  rw [cic_cong (L := p ^ e / 4) h, cic_cong (L := p ^ e / p * (p - 1)) h]
  by_cases c : p = 2 ∧ 2 < e
  · rw [if_pos c, if_pos c]
    obtain ⟨rfl, c2⟩ := c
    have : x % 4 = y % 4 := by
      obtain ⟨d, hd⟩ := four_dvd c2
      rw [hd] at h
      have h1 := Int.dvd_of_emod_eq_zero (Int.emod_eq_emod_iff_emod_sub_eq_zero.mp h)
      refine Int.emod_eq_emod_iff_emod_sub_eq_zero.mpr (Int.emod_eq_zero_of_dvd (Int.dvd_trans ⟨(d : Int), ?_⟩ h1))
      rw [Int.natCast_mul]; rfl
    rw [this]
  · rw [if_neg c, if_neg c]
theorem cnt_zs {q k a : Nat} (ha : a < q) : ∀ n, cntU q k a n = ((List.range n).filter fun y : Nat => decide ((q : Int) ∣ fk a k (y : Int))).length
  | 0 => rfl
  | n + 1 => by
    rw [List.range_succ, List.filter_append, List.length_append, ← cnt_zs ha n]
    show _ + (bif Nat.beq (n ^ k % q) a then 1 else 0) = _
    rw [beq_cond]
    have e : (q : Int) ∣ fk a k (n : Int) ↔ n ^ k % q = a := by
      rw [fk_iff, ← Int.natCast_pow, nat_mod_iff, Nat.mod_eq_of_lt ha]
    by_cases c : n ^ k % q = a
    · rw [if_pos c, List.filter_cons_of_pos (by rw [decide_eq_true (e.mpr c)])]; rfl
    · rw [if_neg c, List.filter_cons_of_neg (by rw [decide_eq_false fun d => c (e.mp d)]; exact Bool.false_ne_true)]; rfl
theorem zs_rest {x : Int} {k q : Nat} : zsL (fk x k) q = zsL (fk (x % (q : Int)) k) q := by
  refine List.filter_congr fun y _ => ?_
  have : (q : Int) ∣ fk x k (y : Int) ↔ (q : Int) ∣ fk (x % (q : Int)) k (y : Int) := by
    rw [fk_iff, fk_iff, Int.emod_emod_of_dvd _ (Int.dvd_refl _)]
  by_cases c : (q : Int) ∣ fk x k (y : Int)
  · rw [decide_eq_true c, decide_eq_true (this.mp c)]
  · rw [decide_eq_false c, decide_eq_false fun d => c (this.mpr d)]
/-- the length of the round -/
def rnd (p e : Nat) : Nat := if p = 2 ∧ 2 < e then p ^ e / 4 else p ^ e / p * (p - 1)
theorem rnd_n (p e : Nat) : rndN p e = rnd p e := and_cond
theorem rnd_cyc {p e : Nat} (hp : Pr p) (he : 1 ≤ e) : 0 < rnd p e ∧ (∀ m ∈ cyc (p, e), m ∣ rnd p e) ∧ (p = 2 → 2 < e → 2 ∣ rnd p e ∧ cyc (p, e) = [2, rnd p e]) ∧ (¬ (p = 2 ∧ 2 < e) → cyc (p, e) = [rnd p e]) := by
  unfold rnd cyc
  dsimp only
  by_cases c : p = 2 ∧ 2 < e
  · rw [if_pos c, if_pos c]
    obtain ⟨rfl, c2⟩ := c
    obtain ⟨d, rfl⟩ : ∃ d, e = d + 3 := ⟨e - 3, by omega⟩
    have e1 : 2 ^ (d + 3) / 4 = 2 ^ (d + 1) := by
      rw [show d + 3 = d + 1 + 2 by omega, Nat.pow_add]
      exact Nat.mul_div_cancel _ (by decide)
    rw [e1, show d + 3 - 2 = d + 1 by omega]
    have t : 2 ∣ 2 ^ (d + 1) := ⟨2 ^ d, by rw [Nat.pow_succ]; omega⟩
    refine ⟨Nat.pow_pos (by decide), fun m hm => ?_, fun _ _ => ⟨t, rfl⟩, fun n => absurd ⟨rfl, c2⟩ n⟩
    rcases List.mem_cons.mp hm with rfl | hm
    · exact t
    · rw [List.mem_singleton.mp hm]; exact Nat.dvd_refl _
  · rw [if_neg c, if_neg c]
    obtain ⟨d, rfl⟩ : ∃ d, e = d + 1 := ⟨e - 1, by omega⟩
    have p2 := hp.1
    have e1 : p ^ (d + 1) / p = p ^ d := by
      rw [Nat.pow_succ]
      exact Nat.mul_div_cancel _ (by omega)
    rw [e1, show d + 1 - 1 = d by omega, Nat.mul_comm (p - 1)]
    refine ⟨Nat.mul_pos (Nat.pow_pos (by omega)) (by omega), fun m hm => ?_, fun h1 h2 => absurd ⟨h1, h2⟩ c, fun _ => rfl⟩
    rw [List.mem_singleton.mp hm]; exact Nat.dvd_refl _
theorem rnd_one {p e : Nat} (hp : Pr p) (he : 1 ≤ e) {x : Int} (hx : ¬ (p : Int) ∣ x) {L : Nat} (h : rnd p e ∣ L) : One (p ^ e) (x ^ L) :=
  cyc_one (a := (p, e)) hp he hx fun m hm => Nat.dvd_trans ((rnd_cyc hp he).2.1 m hm) h
theorem pow_split {n i t : Nat} {y : Int} (h : One n (y ^ t)) : (n : Int) ∣ y ^ (i + t) - y ^ i := by
  rw [Int.pow_add, show y ^ i * y ^ t - y ^ i = y ^ i * (y ^ t - 1) by grind]
  exact Int.dvd_trans h (Int.dvd_mul_left _ _)
theorem pr_pow_dvd {p : Nat} (hp : Pr p) {y : Int} : ∀ {k : Nat}, (p : Int) ∣ y ^ k → (p : Int) ∣ y := fun {k} h => by
  rw [Int.ofNat_dvd_left] at h ⊢
  rw [Int.natAbs_pow] at h
  exact hp.pow h
theorem dvd_pow_of {p e : Nat} {y : Int} (he : 1 ≤ e) (h : ((p ^ e : Nat) : Int) ∣ y) : (p : Int) ∣ y := by
  refine Int.dvd_trans ?_ h
  obtain ⟨d, rfl⟩ : ∃ d, e = d + 1 := ⟨e - 1, by omega⟩
  exact Int.natCast_dvd_natCast.mpr ⟨p ^ d, by rw [Nat.pow_succ, Nat.mul_comm]⟩
/-- the exponent brought down into 1 .. the round -/
theorem zs_round {p e : Nat} (hp : Pr p) (he : 1 ≤ e) {x : Int} (hx : ¬ (p : Int) ∣ x) {i t : Nat} (hi : 1 ≤ i) (ht : rnd p e ∣ t) : zsL (fk x (i + t)) (p ^ e) = zsL (fk x i) (p ^ e) := by
  refine List.filter_congr fun y _ => ?_
  have : ((p ^ e : Nat) : Int) ∣ fk x (i + t) (y : Int) ↔ ((p ^ e : Nat) : Int) ∣ fk x i (y : Int) := by
    by_cases c : (p : Int) ∣ (y : Int)
    · have no : ∀ j, 1 ≤ j → ¬ ((p ^ e : Nat) : Int) ∣ fk x j (y : Int) := fun j hj d => hx (by
        have d2 : (p : Int) ∣ (y : Int) ^ j - x := dvd_pow_of he d
        have d3 : (p : Int) ∣ (y : Int) ^ j := by
          obtain ⟨i, rfl⟩ : ∃ i, j = i + 1 := ⟨j - 1, by omega⟩
          rw [Int.pow_succ]
          exact Int.dvd_trans c (Int.dvd_mul_left _ _)
        have := Int.dvd_sub d3 d2
        rwa [show (y : Int) ^ j - ((y : Int) ^ j - x) = x by omega] at this)
      exact ⟨fun d => absurd d (no _ (by omega)), fun d => absurd d (no _ hi)⟩
    · have h1 := pow_split (i := i) (rnd_one hp he c ht)
      have e2 : fk x (i + t) (y : Int) = (y : Int) ^ (i + t) - (y : Int) ^ i + fk x i (y : Int) := by
        show (y : Int) ^ (i + t) - x = (y : Int) ^ (i + t) - (y : Int) ^ i + ((y : Int) ^ i - x)
        omega
      rw [e2]
      exact ⟨fun d => (Int.dvd_add_right h1).mp d, fun d => (Int.dvd_add_right h1).mpr d⟩
  by_cases c : ((p ^ e : Nat) : Int) ∣ fk x (i + t) (y : Int)
  · rw [decide_eq_true c, decide_eq_true (this.mp c)]
  · rw [decide_eq_false c, decide_eq_false fun d => c (this.mpr d)]
theorem gcd_round {L i t : Nat} (h : L ∣ t) : Nat.gcd (i + t) L = Nat.gcd i L := by
  obtain ⟨c, rfl⟩ := h
  rw [Nat.mul_comm]
  exact Nat.gcd_add_mul_right_left _ _ _
theorem cro_round {p e : Nat} (hp : Pr p) (he : 1 ≤ e) {x : Int} {i t : Nat} (ht : rnd p e ∣ t) : cro x (i + t) p e = cro x i p e := by
  obtain ⟨_, _, h3, _⟩ := rnd_cyc hp he
  unfold cro
  by_cases c : p = 2 ∧ 2 < e
  · rw [if_pos c, if_pos c]
    have er : rnd p e = p ^ e / 4 := if_pos c
    have h2 := Nat.dvd_trans (h3 c.1 c.2).1 ht
    rw [er] at ht
    unfold cic
    rw [gcd_round ht, show (i + t) % 2 = i % 2 by omega]
  · rw [if_neg c, if_neg c]
    have er : rnd p e = p ^ e / p * (p - 1) := if_neg c
    rw [er] at ht
    unfold cic
    rw [gcd_round ht]
theorem cro_count {p e : Nat} (hp : Pr p) (he : 1 ≤ e) (h60 : p ^ e ≤ 60) {x : Int} (hx : ¬ (p : Int) ∣ x) {k : Nat} (hk : 1 ≤ k) : cro x k p e = (zsL (fk x k) (p ^ e)).length := by
  have q0 : 0 < p ^ e := Nat.pow_pos (by have := hp.1; omega)
  have L0 := (rnd_cyc hp he).1
  obtain ⟨j, t, hj, ht, ek⟩ : ∃ j t, j < rnd p e ∧ rnd p e ∣ t ∧ k = j + 1 + t :=
    ⟨(k - 1) % rnd p e, rnd p e * ((k - 1) / rnd p e), Nat.mod_lt _ L0, Nat.dvd_mul_right _ _, by have := Nat.mod_add_div (k - 1) (rnd p e); omega⟩
  rw [ek, cro_round hp he ht, zs_round hp he hx (by omega) ht, zs_rest]
  obtain ⟨a, ha⟩ : ∃ a : Nat, x % ((p ^ e : Nat) : Int) = (a : Int) := ⟨_, (Int.toNat_of_nonneg (Int.emod_nonneg _ (by omega))).symm⟩
  have al : a < p ^ e := by have := Int.emod_lt_of_pos x (show (0 : Int) < ((p ^ e : Nat) : Int) by omega); omega
  have hxa : x % ((p ^ e : Nat) : Int) = (a : Int) % ((p ^ e : Nat) : Int) := by rw [← ha, Int.emod_emod_of_dvd _ (Int.dvd_refl _)]
  rw [cro_cong hxa, cro_nat, ha]
  have ga : Nat.gcd a (p ^ e) = 1 := by
    have h1 : ¬ p ∣ a := fun d => hx (by
      have h2 := Int.dvd_of_emod_eq_zero (Int.emod_eq_emod_iff_emod_sub_eq_zero.mp hxa)
      have h3 : (p : Int) ∣ x - a := dvd_pow_of he h2
      have h4 := Int.dvd_add h3 (Int.natCast_dvd_natCast.mpr d)
      rwa [Int.sub_add_cancel] at h4)
    exact (pr_cop hp h1 e).symm
  have h1 := List.all_eq_true.mp chk_all (p, e) (pows_mem hp he h60)
  have h2 := allN_at (allN_at h1 j (by rw [rnd_n]; exact hj)) a al
  dsimp only at h2
  rw [ga] at h2
  have h3 : Nat.beq (cntU (p ^ e) (j + 1) a (p ^ e)) (croN a (j + 1) p e) = true := h2
  rw [← Nat.eq_of_beq_eq_true h3, cnt_zs al]
  rfl
theorem cop_head {a : Nat × Nat} {r : List (Nat × Nat)} (hp : ∀ b ∈ a :: r, Pr b.1 ∧ 1 ≤ b.2) (hs : (a :: r).Pairwise fun a b => a.1 < b.1) : Nat.Coprime (a.1 ^ a.2) (made r) :=
  (cop_pows (hp a List.mem_cons_self).1 r fun b hb => ⟨(hp b (List.mem_cons_of_mem _ hb)).1, fun e => by have := (List.pairwise_cons.mp hs).1 b hb; omega⟩).symm
theorem zs_one (f : Int → Int) : (zsL f 1).length = 1 := by
  unfold zsL
  have : decide (((1 : Nat) : Int) ∣ f ((0 : Nat) : Int)) = true := decide_eq_true (Int.one_dvd _)
  show (match decide (((1 : Nat) : Int) ∣ f ((0 : Nat) : Int)) with | true => [0] | false => ([] : List Nat)).length = 1
  rw [this]
  rfl
def cros (x : Int) (k : Nat) (ps : List (Nat × Nat)) : Nat := prd (ps.map fun a => cro x k a.1 a.2)
theorem cros_count {x : Int} {k : Nat} (hk : 1 ≤ k) : ∀ (ps : List (Nat × Nat)), (∀ a ∈ ps, Pr a.1 ∧ 1 ≤ a.2) → (ps.Pairwise fun a b => a.1 < b.1) → (∀ a ∈ ps, a.1 ^ a.2 ≤ 60) → (∀ a ∈ ps, ¬ (a.1 : Int) ∣ x) → cros x k ps = (zsL (fk x k) (made ps)).length
  | [], _, _, _, _ => (zs_one _).symm
  | a :: r, hp, hs, h6, hx => by
    show cro x k a.1 a.2 * cros x k r = (zsL (fk x k) (a.1 ^ a.2 * made r)).length
    have pa := hp a List.mem_cons_self
    have hr : ∀ b ∈ r, Pr b.1 ∧ 1 ≤ b.2 := fun b hb => hp b (List.mem_cons_of_mem _ hb)
    rw [zs_mul (fk_cong x k) (cop_head hp hs) (Nat.pow_pos (by have := pa.1.1; omega)) (made_pos r hr), cro_count pa.1 pa.2 (h6 a List.mem_cons_self) (hx a List.mem_cons_self) hk,
      cros_count hk r hr (List.pairwise_cons.mp hs).2 (fun b hb => h6 b (List.mem_cons_of_mem _ hb)) fun b hb => hx b (List.mem_cons_of_mem _ hb)]
/-! ### powers have as many roots as 1 -/
theorem cic_of_one {x : Int} {k L q : Nat} (L0 : 0 < L) (h : One q (x ^ L)) {z : Int} (hz : z % (q : Int) = x ^ k % (q : Int)) : cic z k L q = Nat.gcd k L := by
  unfold cic
  refine if_pos ?_
  rw [pow_mod hz, ← Int.pow_mul]
  obtain ⟨c, hc⟩ := Nat.gcd_dvd_left k L
  obtain ⟨d, hd⟩ := Nat.gcd_dvd_right k L
  have g0 : 0 < Nat.gcd k L := Nat.gcd_pos_of_pos_right _ L0
  have e1 : L / Nat.gcd k L = d := by
    conv => lhs; lhs; rw [hd]
    exact Nat.mul_div_cancel_left _ g0
  have e2 : L ∣ k * (L / Nat.gcd k L) := ⟨c, by
    rw [e1]
    conv => lhs; lhs; rw [hc]
    conv => rhs; lhs; rw [hd]
    rw [Nat.mul_assoc, Nat.mul_assoc, Nat.mul_comm c d]⟩
  exact One.of_mod.mp (h.of_dvd e2)
theorem odd_sq {x : Int} (h : ¬ (2 : Int) ∣ x) : x ^ 2 % 4 = 1 := by
  obtain ⟨c, hc⟩ : ∃ c, x = 2 * c + 1 := ⟨x / 2, by omega⟩
  rw [hc, show (2 * c + 1) ^ 2 = 1 + 4 * (c * c + c) by rw [show (2 : Nat) = 1 + 1 from rfl, Int.pow_succ, Int.pow_succ, Int.pow_zero]; grind]
  omega
theorem even_pow {x : Int} (h : ¬ (2 : Int) ∣ x) {k : Nat} (hk : k % 2 = 0) : x ^ k % 4 = 1 := by
  obtain ⟨c, rfl⟩ : ∃ c, k = 2 * c := ⟨k / 2, by omega⟩
  rw [Int.pow_mul, pow_mod (y := 1) (odd_sq h) c, Int.one_pow]
  rfl
theorem cro_unit {p e : Nat} (hp : Pr p) (he : 1 ≤ e) {x : Int} (hx : ¬ (p : Int) ∣ x) {k : Nat} {z : Int} (hz : z % ((p ^ e : Nat) : Int) = x ^ k % ((p ^ e : Nat) : Int)) : cro z k p e = prd ((cyc (p, e)).map fun c => Nat.gcd c k) := by
  obtain ⟨L0, h2, h3, h4⟩ := rnd_cyc hp he
  have one := rnd_one hp he hx (Nat.dvd_refl (rnd p e))
  have hc := cic_of_one L0 one hz
  rw [cro_cong hz]
  rw [cic_cong hz] at hc
  unfold cro
  by_cases c : p = 2 ∧ 2 < e
  · rw [if_pos c, (h3 c.1 c.2).2]
    have er : rnd p e = p ^ e / 4 := if_pos c
    rw [er] at hc
    show _ = Nat.gcd 2 k * (Nat.gcd (rnd p e) k * 1)
    obtain ⟨d, hd⟩ := (h3 c.1 c.2).1
    by_cases o : k % 2 = 1
    · rw [if_pos o]
      have g2 : Nat.gcd 2 k = 1 := by rw [Nat.gcd_rec, o]; decide
      rw [g2, Nat.one_mul, Nat.mul_one]
      obtain ⟨f, hf⟩ : ∃ f, rnd p e = 2 ^ f := by
        rw [er, c.1]
        obtain ⟨d, rfl⟩ : ∃ d, e = d + 2 := ⟨e - 2, by have := c.2; omega⟩
        exact ⟨d, by rw [Nat.pow_add]; exact Nat.mul_div_cancel _ (by decide)⟩
      rw [hf]
      have g3 : Nat.Coprime (2 ^ f) k := Nat.Coprime.pow_left f g2
      exact Eq.symm (show Nat.gcd (2 ^ f) k = 1 from g3)
    · have x2 : ¬ (2 : Int) ∣ x := by rw [c.1] at hx; exact hx
      rw [if_neg o, if_pos (even_pow x2 (by omega)), hc]
      have g2 : Nat.gcd 2 k = 2 := Nat.gcd_eq_left (Nat.dvd_of_mod_eq_zero (by omega))
      rw [g2, Nat.mul_one, Nat.gcd_comm, er]
  · rw [if_neg c, h4 c]
    have er : rnd p e = p ^ e / p * (p - 1) := if_neg c
    rw [er] at hc
    rw [hc]
    show _ = Nat.gcd (rnd p e) k * 1
    rw [Nat.mul_one, Nat.gcd_comm, er]
theorem prd_mul (g : Nat → Nat) (l m : List Nat) : prd ((l ++ m).map g) = prd (l.map g) * prd (m.map g) := by rw [List.map_append, prd_app]
theorem cros_unit {x : Int} {k : Nat} {z : Int} : ∀ (ps : List (Nat × Nat)), (∀ a ∈ ps, Pr a.1 ∧ 1 ≤ a.2) → (∀ a ∈ ps, ¬ (a.1 : Int) ∣ x) → ((made ps : Nat) : Int) ∣ z - x ^ k → cros z k ps = prd ((cycs ps).map fun c => Nat.gcd c k)
  | [], _, _, _ => rfl
  | a :: r, hp, hx, hz => by
    show cro z k a.1 a.2 * cros z k r = prd ((cyc a ++ cycs r).map fun c => Nat.gcd c k)
    have pa := hp a List.mem_cons_self
    have e1 : ((made (a :: r) : Nat) : Int) = ((a.1 ^ a.2 : Nat) : Int) * ((made r : Nat) : Int) := by rw [← Int.natCast_mul]; rfl
    rw [prd_mul, cros_unit r (fun b hb => hp b (List.mem_cons_of_mem _ hb)) (fun b hb => hx b (List.mem_cons_of_mem _ hb)) (Int.dvd_trans ⟨_, by rw [e1, Int.mul_comm]⟩ hz),
      cro_unit pa.1 pa.2 (hx a List.mem_cons_self) (z := z) (Int.emod_eq_emod_iff_emod_sub_eq_zero.mpr (Int.emod_eq_zero_of_dvd (Int.dvd_trans ⟨_, e1⟩ hz)))]
theorem gcds_one : ∀ l : List Nat, prd (l.map fun c => Nat.gcd c 1) = 1
  | [] => rfl
  | a :: l => by
    show Nat.gcd a 1 * prd (l.map fun c => Nat.gcd c 1) = 1
    rw [gcds_one l, Nat.gcd_one_right]
/-! ### the chain keeps the count -/
theorem gcd_lcm {a b k : Nat} (a0 : 0 < a) (b0 : 0 < b) (k0 : 0 < k) : Nat.gcd (Nat.lcm a b) k = Nat.lcm (Nat.gcd a k) (Nat.gcd b k) := by
  refine Nat.dvd_antisymm ?_ ?_
  · refine dvd_of_powers _ _ (Nat.gcd_pos_of_pos_right _ k0) fun p e hp h => ?_
    have h1 := Nat.dvd_trans h (Nat.gcd_dvd_right _ _)
    rcases (pow_dvd_lcm hp a0 b0).mp (Nat.dvd_trans h (Nat.gcd_dvd_left _ _)) with c | c
    · exact Nat.dvd_trans (Nat.dvd_gcd c h1) (Nat.dvd_lcm_left _ _)
    · exact Nat.dvd_trans (Nat.dvd_gcd c h1) (Nat.dvd_lcm_right _ _)
  · refine Nat.lcm_dvd (Nat.dvd_gcd ?_ (Nat.gcd_dvd_right _ _)) (Nat.dvd_gcd ?_ (Nat.gcd_dvd_right _ _))
    · exact Nat.dvd_trans (Nat.gcd_dvd_left _ _) (Nat.dvd_lcm_left _ _)
    · exact Nat.dvd_trans (Nat.gcd_dvd_left _ _) (Nat.dvd_lcm_right _ _)
theorem gcd_two {a b k : Nat} (a0 : 0 < a) (b0 : 0 < b) (k0 : 0 < k) : Nat.gcd (Nat.lcm a b) k * Nat.gcd (Nat.gcd a b) k = Nat.gcd a k * Nat.gcd b k := by
  rw [gcd_lcm a0 b0 k0, ← lcm_gcd_mul (Nat.gcd a k) (Nat.gcd b k)]
  congr 1
  refine Nat.dvd_antisymm ?_ ?_
  · exact Nat.dvd_gcd (Nat.dvd_gcd (Nat.dvd_trans (Nat.gcd_dvd_left _ _) (Nat.gcd_dvd_left _ _)) (Nat.gcd_dvd_right _ _)) (Nat.dvd_gcd (Nat.dvd_trans (Nat.gcd_dvd_left _ _) (Nat.gcd_dvd_right _ _)) (Nat.gcd_dvd_right _ _))
  · exact Nat.dvd_gcd (Nat.dvd_gcd (Nat.dvd_trans (Nat.gcd_dvd_left _ _) (Nat.gcd_dvd_left _ _)) (Nat.dvd_trans (Nat.gcd_dvd_right _ _) (Nat.gcd_dvd_left _ _))) (Nat.dvd_trans (Nat.gcd_dvd_left _ _) (Nat.gcd_dvd_right _ _))
theorem lay_gcds {k : Nat} (k0 : 0 < k) : ∀ (l : List Nat) (x : Nat), (∀ a ∈ l, 0 < a) → 0 < x → prd ((lay l x).map fun c => Nat.gcd c k) = prd (l.map fun c => Nat.gcd c k) * Nat.gcd x k
  | [], x, _, _ => by show Nat.gcd x k * 1 = 1 * Nat.gcd x k; omega
  | a :: l, x, h, hx => by
    have a0 := h a List.mem_cons_self
    show Nat.gcd (Nat.lcm a x) k * prd ((lay l (Nat.gcd a x)).map fun c => Nat.gcd c k) = Nat.gcd a k * prd (l.map fun c => Nat.gcd c k) * Nat.gcd x k
    rw [lay_gcds k0 l _ (fun b hb => h b (List.mem_cons_of_mem _ hb)) (Nat.gcd_pos_of_pos_left _ a0)]
    have e := gcd_two a0 hx k0
    rw [Nat.mul_comm (prd _) (Nat.gcd (Nat.gcd a x) k), ← Nat.mul_assoc, e, Nat.mul_assoc, Nat.mul_assoc, Nat.mul_comm (Nat.gcd x k)]
theorem fold_gcds {k : Nat} (k0 : 0 < k) : ∀ (ms l : List Nat), (∀ a ∈ ms, 0 < a) → (∀ a ∈ l, 0 < a) → prd ((ms.foldl lay l).map fun c => Nat.gcd c k) = prd (l.map fun c => Nat.gcd c k) * prd (ms.map fun c => Nat.gcd c k)
  | [], l, _, _ => by show _ = _ * 1; rw [Nat.mul_one]; rfl
  | a :: ms, l, h, hl => by
    have a0 := h a List.mem_cons_self
    show prd ((ms.foldl lay (lay l a)).map fun c => Nat.gcd c k) = _ * (Nat.gcd a k * prd (ms.map fun c => Nat.gcd c k))
    rw [fold_gcds k0 ms (lay l a) (fun b hb => h b (List.mem_cons_of_mem _ hb)) (lay_pos l a hl a0), lay_gcds k0 l a hl a0, Nat.mul_assoc]
theorem big_gcds {k : Nat} : ∀ l : List Nat, (∀ a ∈ l, 0 < a) → prd ((big l).map fun c => Nat.gcd c k) = prd (l.map fun c => Nat.gcd c k)
  | [], _ => rfl
  | a :: l, h => by
    have ih := big_gcds (k := k) l fun b hb => h b (List.mem_cons_of_mem _ hb)
    have a0 := h a List.mem_cons_self
    unfold big at ih ⊢
    by_cases c : 1 < a
    · rw [show (a :: l).filter (fun a => decide (1 < a)) = a :: l.filter (fun a => decide (1 < a)) from List.filter_cons_of_pos (by exact decide_eq_true c)]
      exact congrArg (fun z => Nat.gcd a k * z) ih
    · rw [show (a :: l).filter (fun a => decide (1 < a)) = l.filter (fun a => decide (1 < a)) from List.filter_cons_of_neg (by rw [decide_eq_false c]; exact Bool.false_ne_true), ih]
      show _ = Nat.gcd a k * prd _
      rw [show a = 1 by omega, Nat.gcd_one_left, Nat.one_mul]
theorem prd_rev (g : Nat → Nat) : ∀ l : List Nat, prd (l.reverse.map g) = prd (l.map g)
  | [] => rfl
  | a :: l => by
    rw [List.reverse_cons, prd_mul, prd_rev g l]
    show _ * (g a * 1) = g a * prd _
    rw [Nat.mul_one, Nat.mul_comm]
theorem parts_gcds {ps : List (Nat × Nat)} (hp : ∀ a ∈ ps, Pr a.1 ∧ 1 ≤ a.2) {k : Nat} (k0 : 0 < k) : prd (((big (lays (cycs ps))).reverse).map fun c => Nat.gcd c k) = prd ((cycs ps).map fun c => Nat.gcd c k) := by
  have h := (cycs_small ps hp).1
  rw [prd_rev, big_gcds _ (lays_all _ h).1]
  have := fold_gcds k0 (cycs ps) [] h (fun a ha => nomatch ha)
  unfold lays
  rw [this]
  show 1 * _ = _
  rw [Nat.one_mul]
/-! ### tails -/
theorem made_dvd {z : Int} : ∀ (ps : List (Nat × Nat)), (∀ a ∈ ps, Pr a.1 ∧ 1 ≤ a.2) → (ps.Pairwise fun a b => a.1 < b.1) → (∀ a ∈ ps, ((a.1 ^ a.2 : Nat) : Int) ∣ z) → ((made ps : Nat) : Int) ∣ z
  | [], _, _, _ => Int.one_dvd z
  | a :: r, hp, hs, h => (dvd_both (cop_head hp hs)).mpr ⟨h a List.mem_cons_self, made_dvd r (fun b hb => hp b (List.mem_cons_of_mem _ hb)) (List.pairwise_cons.mp hs).2 fun b hb => h b (List.mem_cons_of_mem _ hb)⟩
theorem pow_le_made : ∀ (ps : List (Nat × Nat)), (∀ a ∈ ps, Pr a.1 ∧ 1 ≤ a.2) → ∀ a ∈ ps, a.1 ^ a.2 ∣ made ps
  | b :: r, h, a, ha => by
    rcases List.mem_cons.mp ha with rfl | ha
    · exact Nat.dvd_mul_right _ _
    · exact Nat.dvd_trans (pow_le_made r (fun c hc => h c (List.mem_cons_of_mem _ hc)) a ha) (Nat.dvd_mul_left _ _)
theorem tails_40 {ps : List (Nat × Nat)} {n : Nat} (A : Apart ps n) (hn : n < 2 ^ 40) (y : Int) {i t : Nat} (hi : 40 ≤ i) (ht : lcs (cycs ps) ∣ t) : y ^ (i + t) % (n : Int) = y ^ i % (n : Int) := by
  refine Int.emod_eq_emod_iff_emod_sub_eq_zero.mpr (Int.emod_eq_zero_of_dvd ?_)
  rw [← A.m]
  refine made_dvd ps A.p A.s fun a ha => ?_
  obtain ⟨hp, he⟩ := A.p a ha
  by_cases c : (a.1 : Int) ∣ y
  · have le : a.2 ≤ 40 := by
      refine Classical.byContradiction fun g => ?_
      have h1 : a.1 ^ a.2 ≤ n := by rw [← A.m]; exact Nat.le_of_dvd (made_pos ps A.p) (pow_le_made ps A.p a ha)
      have h2 : 2 ^ 40 ≤ a.1 ^ a.2 := Nat.le_trans (Nat.pow_le_pow_right (by decide) (by omega)) (Nat.pow_le_pow_left hp.1 _)
      omega
    have d : ∀ j, 40 ≤ j → ((a.1 ^ a.2 : Nat) : Int) ∣ y ^ j := fun j hj => by
      obtain ⟨w, rfl⟩ := c
      obtain ⟨u, rfl⟩ : ∃ u, j = a.2 + u := ⟨j - a.2, by omega⟩
      rw [Int.pow_add, Int.mul_pow, Int.natCast_pow, Int.mul_assoc]
      exact Int.dvd_mul_right _ _
    exact Int.dvd_sub (d _ (by omega)) (d _ hi)
  · exact pow_split (cyc_one hp he c fun m hm => Nat.dvd_trans (lcs_dvd (List.mem_flatMap.mpr ⟨a, ha, hm⟩)) ht)
theorem zs_zero {x : Int} {n : Nat} : (zsL (fk x 0) n).length = if (x - 1) % (n : Int) = 0 then n else 0 := by
  have e : ∀ y : Nat, (n : Int) ∣ fk x 0 (y : Int) ↔ (x - 1) % (n : Int) = 0 := fun y => by
    show (n : Int) ∣ (y : Int) ^ 0 - x ↔ _
    rw [Int.pow_zero, ← Int.dvd_neg, Int.neg_sub]
    exact ⟨Int.emod_eq_zero_of_dvd, Int.dvd_of_emod_eq_zero⟩
  unfold zsL
  by_cases c : (x - 1) % (n : Int) = 0
  · rw [if_pos c, List.filter_eq_self.mpr fun y _ => decide_eq_true ((e y).mpr c), List.length_range]
  · rw [if_neg c, List.filter_eq_nil_iff.mpr fun y _ h => c ((e y).mp (of_decide_eq_true h))]; rfl
end Vf

namespace Vf
open PySem PySem.Spec PyProof.Rows L2
/-! ## tuple(zip(t, u)) of two tuples -/
section
variable {prog : Program} {w : World} {A : Around} {s : Shared} {u TI TO i1 i2 a b : Nat} {xs ys : List Value}
theorem zt_collect {R : List Value → Shared → Prop} {E : Value → Shared → Prop} (hh : A.handled = none) (D : ZipApart u TI TO i1 i2 a b) {i : Nat} (e0 : i = 0) (st : ZTn u TI TO i1 i2 a b i s.heap) (ta : s.heap.IsTuple a xs.toArray) (tb : s.heap.IsTuple b ys.toArray) (hn : min xs.length ys.length ≤ sizeLine)
    (hQ : ∀ h' tk acc c ad, (∀ (d : Nat) o, d ≠ u → d ≠ TO → d ≠ i1 → d ≠ i2 → s.heap.get? d = some o → h'.get? d = some o) → h'.get? s.heap.objs.size = some (lsO acc c) → ad.length = min xs.length ys.length → PrsL s.heap.objs.size xs ys h' ad → acc.toList = ad.map Value.ref → R acc.toList { s with heap := h', toks := tk }) :
    wpAny (model prog w) A (collect (.ref u)) R E s := by
  subst e0
  obtain ⟨⟨f0, f1, p0, p1, zz⟩, ti, ⟨x0, y0, to⟩, t1, t2⟩ := id st
  generalize eS : s.heap.objs.size = S at *
  have lu : u < S := eS ▸ Heap.lt_size zz
  have lI : TI < S := eS ▸ Heap.lt_size ti
  have lO : TO < S := eS ▸ Heap.lt_size to
  have k1 : i1 < S := by
    obtain ⟨_, q, _⟩ := t1
    exact eS ▸ Heap.lt_size q
  have k2 : i2 < S := by
    obtain ⟨_, q, _⟩ := t2
    exact eS ▸ Heap.lt_size q
  have la : a < S := by
    obtain ⟨_, q, _⟩ := ta
    exact eS ▸ Heap.lt_size q
  have lb : b < S := by
    obtain ⟨_, q, _⟩ := tb
    exact eS ▸ Heap.lt_size q
  unfold collect
  refine wpAny_bind (wpAny_runValue (codeAny_builtin entry_proto_collect' ?_))
  rw [Around.under_plainId PySem.F.plain_proto_collect _]
  show wpAny _ A.in1 (newList [] >>= fun l => again (.builtin "list.__iadd__" ⟨[l, .ref u], []⟩)) _ _ s
  refine wpAny_bind (wpAny_newObj_type ?_)
  refine wpAny_pure ⟨plainId_quiet PySem.F.plain_list_iadd _, codeAny_builtin entry_list_iadd' ?_⟩
  rw [Around.under_plainId PySem.F.plain_list_iadd _]
  rw [eS]
  have hS2 : (s.heap.push { cls := .type "list", data := .seq ([] : List Value).toArray }).get? S = some (lsO #[] 0) := eS ▸ Heap.get?_push_size _ rfl
  show wpAny _ _ (Builtin.List.listExtendWith (.ref S) (.ref u) (.ref S)) _ _ _
  have up : ∀ (h : Heap) (f : Obj → Obj), (∀ (d : Nat) o, s.heap.get? d = some o → h.get? d = some o) → ∀ (d : Nat) o, s.heap.get? d = some o → (h.update S f).get? d = some o := fun h f q d o e =>
    (Heap.get?_update_other _ _ (Ne.symm (Nat.ne_of_lt (eS ▸ Heap.lt_size e)))).trans (q d o e)
  have g2 : ∀ (d : Nat) o, s.heap.get? d = some o → (s.heap.push { cls := .type "list", data := .seq ([] : List Value).toArray }).get? d = some o := fun d o e => Heap.get?_push_of_some _ e
  have ty : ∀ {s' : Shared}, (∀ (d : Nat) o, s.heap.get? d = some o → s'.heap.get? d = some o) → s'.TypeIs (.ref u) "zip" := fun q => ⟨_, q _ _ zz, rfl⟩
  unfold Builtin.List.listExtendWith
  refine wpAny_bind (wpAny_typeOf (ty g2) ?_)
  have n1 : Builtin.List.listSameRef (.ref S) (.ref u) = false := by simp only [Builtin.List.listSameRef]; exact beq_false_of_ne (Nat.ne_of_gt lu)
  have n2 : (Value.type "zip" == Value.type "list") = false := by decide
  have n3 : (Value.type "zip" == Value.type "tuple") = false := by decide
  simp only [n1, n2, n3, Bool.or_false, Bool.false_eq_true, if_false]
  refine wpAny_bind (z_iter (f0 := f0) (f1 := f1) (TI := TI) (TO := TO) (g2 _ _ zz) ?_)
  refine wpAny_bind (wpAny_holding ?_)
  unfold Builtin.List.listLengthHint
  refine wpAny_bind (wpAny_specialOf (ty g2) zip_len0 ?_)
  show wpAny _ _ (specialOf (Value.ref u) (Str.ofString "__length_hint__") >>= _) _ _ _
  refine wpAny_bind (wpAny_specialOf (ty g2) zip_hint0 ?_)
  refine wpAny_pure ?_
  show wpAny _ _ (rule "list.extend.makes-room" >>= fun _ => Builtin.List.listTouch (.ref S) >>= fun _ => again (.builtin "list.extend.loop" ⟨[.ref S, .ref u, .ref S], []⟩)) _ _ _
  refine wpAny_bind (wpAny_rule ?_)
  refine wpAny_bind ?_
  show wpAny _ _ (updateSeq S (·.push .none) >>= fun _ => updateSeq S (·.pop)) _ _ _
  refine wpAny_bind (wpAny_updateSeq hS2 rfl ?_)
  have hS3 := Heap.get?_update_self (Obj.mapSeq (·.push Value.none)) hS2 rfl
  refine wpAny_updateSeq (hz := by seq_fits) hS3 rfl ?_
  have hS4 := Heap.get?_update_self (Obj.mapSeq (·.pop)) hS3 rfl
  have g4 := up _ (Obj.mapSeq (·.pop)) (up _ (Obj.mapSeq (·.push Value.none)) g2)
  refine wpAny_pure ⟨plainId_quiet PySem.F.plain_extend_loop _, ?_⟩
  refine zl_loop (s := s) (h₁ := s.heap) (A := A) hh D lu lI lO k1 k2 la lb (.ref S) rfl hn (fun h' tk acc c ad kp e1 e2 e3 e4 => ?_)
    _ 0 _ _ _ #[] [] rfl (Nat.zero_le _) (ZTn.stay st fun d o _ e => g4 d o e) (ta.at fun o e => g4 a o e) (tb.at fun o e => g4 b o e) (fun d o _ _ _ _ _ e => g4 d o e) hS4 rfl rfl ⟨List.Pairwise.nil, (fun _ z => nomatch z), (fun j p z => by simp at z)⟩
  show wpAny _ A (load S >>= _) _ _ _
  refine wpAny_bind (wpAny_load e1 ?_)
  exact wpAny_pure (hQ h' tk acc c ad (fun d o c1 c2 c3 c4 e => kp d o (eS ▸ Heap.lt_size e) c1 c2 c3 c4 e) e1 e2 e3 e4)
theorem zt_code {Q₁ : Value → Shared → Prop} {E : Value → Shared → Prop} (hh : A.handled = none) (D : ZipApart u TI TO i1 i2 a b) (st : ZTn u TI TO i1 i2 a b 0 s.heap) (ta : s.heap.IsTuple a xs.toArray) (tb : s.heap.IsTuple b ys.toArray) (hn : min xs.length ys.length ≤ sizeLine)
    (h : ∀ h' tk acc c ad, (∀ (d : Nat) o, d ≠ u → d ≠ TO → d ≠ i1 → d ≠ i2 → s.heap.get? d = some o → h'.get? d = some o) → h'.get? s.heap.objs.size = some (lsO acc c) → ad.length = min xs.length ys.length → PrsL s.heap.objs.size xs ys h' ad → acc.toList = ad.map Value.ref →
      Q₁ (.ref h'.objs.size) { s with heap := h'.push { cls := .type "tuple", data := .seq acc }, toks := tk }) :
    codeAny (model prog w) A (.call (.builtin "tuple.__new__") ⟨[.type "tuple", .ref u], []⟩) (wants Q₁ E) s := by
  refine codeAny_of_tree ?_
  show wpAny _ A.in1 (do checkBuiltinCall "tuple.__new__" ⟨[.type "tuple", .ref u], []⟩; again (.builtin "tuple.__new__" ⟨[.type "tuple", .ref u], []⟩)) _ _ s
  refine wpAny_bind (wpAny_of_eq (F.newCall_tuple_1 _) (wpAny_pure ⟨plainId_quiet F.plain_tuple_new _, codeAny_builtin F.entry_tuple_new ?_⟩))
  rw [Around.under_plainId F.plain_tuple_new _]
  have hsub := sub_tuple_self
  have hinit := init_tuple_lookup
  have hmh := madeHere_tuple
  obtain ⟨⟨f0, f1, p0, p1, zz⟩, _⟩ := id st
  have hTI : s.TypeIs (.ref u) "zip" := ⟨_, zz, rfl⟩
  wp_walk using wpAny_typeOf hTI, zt_collect (A := A.in1) (xs := xs) (ys := ys) hh D rfl st ta tb hn
  intro h' tk acc c ad kp e1 e2 e3 e4
  show wpAny _ _ (Builtin.Tuple.tupleExact acc.toList.toArray >>= fun v => ret v) _ _ _
  unfold Builtin.Tuple.tupleExact
  refine wpAny_bind (wpAny_newObj_type ?_ (by show acc.toList.toArray.size ≤ sizeLine; simp only [Array.toArray_toList]; rw [← Array.length_toList, e4, List.length_map, e2]; exact hn))
  refine wpAny_pure ?_
  have e : acc.toList.toArray = acc := by simp
  rw [e]
  exact h h' tk acc c ad kp e1 e2 e3 e4
theorem zt_call {E : Value → Shared → Prop} {Q : Value → Shared → Prop} (hh : A.handled = none) (D : ZipApart u TI TO i1 i2 a b) (st : ZTn u TI TO i1 i2 a b 0 s.heap) (ta : s.heap.IsTuple a xs.toArray) (tb : s.heap.IsTuple b ys.toArray) (hn : min xs.length ys.length ≤ sizeLine)
    (hQ : ∀ h' tk acc c ad, (∀ (d : Nat) o, d ≠ u → d ≠ TO → d ≠ i1 → d ≠ i2 → s.heap.get? d = some o → h'.get? d = some o) → h'.get? s.heap.objs.size = some (lsO acc c) → ad.length = min xs.length ys.length → PrsL s.heap.objs.size xs ys h' ad → acc.toList = ad.map Value.ref →
      Q (.ref h'.objs.size) { s with heap := h'.push { cls := .type "tuple", data := .seq acc }, toks := tk }) :
    wpAny (model prog w) A (call (.type "tuple") [.ref u]) Q E s := by
  refine callType_codes (Q₁ := fun obj s₁ => s₁.TypeIs obj "tuple" ∧ Q obj s₁) F.called_tuple (F.typeCall_tuple_1 _) F.entry_object_init
    (zt_code (A := A.in1) hh D st ta tb hn fun h' tk acc c ad kp e1 e2 e3 e4 => ⟨⟨_, Heap.get?_push_size _ rfl, rfl⟩, hQ h' tk acc c ad kp e1 e2 e3 e4⟩) fun obj s₁ h₁ => ?_
  exact ⟨h₁.1, F.args_object_init_2 obj _, object_init_meets F.called_tuple.init.lookup F.called_tuple.made (by decide) prog w A.in1 _ s₁ ⟨h₁.1, rfl, h₁.2⟩⟩
end
/-- what a walk laid, and the tuple of it -/
def tzH (H : Hp) (sz l : Nat) (ad : List Nat) (xs ys : List V) : Hp := fun q => if q < sz then H q else if q = l then some (.tup (ad.map V.ref)) else tblP ad xs ys q
/-- tuple(zip(t, u)) -/
def tTupZip (K : PySem.W.Frag) (ta : TA) : TE := fun σ H Q => ta σ H fun vs H1 => ∃ a b xs ys, vs = [.ref a, .ref b] ∧ SqT K H1 a xs ∧ SqT K H1 b ys ∧
  ∀ (l : Nat) (ad : List Nat) H2, Same H1 H2 → H1 l = none → H2 l = some (.tup (ad.map V.ref)) → ad.length = min xs.length ys.length → (∀ (j : Nat) (p : Nat) (x y : V), ad[j]? = some p → xs[j]? = some x → ys[j]? = some y → H1 p = none ∧ H2 p = some (.tup [x, y])) → Q (.ref l) H2
theorem pe_tupZip {X : Cx} {K : PySem.W.Frag} {e e2 : Expr} {ta : TA} {p p2 pos2 pos : Pos} (ek : X.K = K) (hc : X.calm = true) (hg : Gl X "zip") (hm : X.mg "zip" = none) (hg2 : Gl X "tuple") (hm2 : X.mg "tuple" = none) (ha : PA X [e, e2] ta)
    (hs : starEach [e, e2] X.env = (false, eval e X.env) :: starEach [e2] X.env := by rfl) (hp : (backTo pos2 (starEach [e2] X.env)).any (·.1) = false := by rfl)
    (na : starEach [.Call (.Name "zip" p2) [e, e2] [] pos2] X.env = (false, eval (.Call (.Name "zip" p2) [e, e2] [] pos2) X.env) :: starEach [] X.env := by rfl) :
    PE X (.Call (.Name "tuple" p) [.Call (.Name "zip" p2) [e, e2] [] pos2] [] pos) (tTupZip K ta) := by
  subst ek
  refine ⟨fun pins s σ H Q I h => ?_⟩
  refine Call_ (ld_blt I hg2 hm2 PyProof.Rows.boot_tuple ?_)
  refine PyProof.Rows.callWith_type1 (PyProof.Rows.args_cons ?_ na) na rfl
  refine Call_ (ld_blt I hg hm PyProof.Rows.boot_zip (PyProof.Rows.callWith_type1 (thn (ha.run pos2 pins s σ H _ I h) fun us s1 ⟨vs, H1, I1, r1, q1⟩ => ?_) hs hp))
  obtain ⟨a, b, xs, ys, rfl, qx, qy, q⟩ := q1
  obtain ⟨ua, ub, rfl, ra, rb⟩ : ∃ ua ub, us = [ua, ub] ∧ RelV (.ref a) ua ∧ RelV (.ref b) ub := by
    cases r1 with
    | cons r rr =>
      cases rr with
      | cons r' rr =>
        cases rr
        exact ⟨_, _, rfl, r, r'⟩
  cases ra
  cases rb
  obtain ⟨its, rv, tp, hz1⟩ := I1.tuple qx
  obtain ⟨its2, rv2, tp2, hz2⟩ := I1.tuple qy
  have hB : ∀ B d : Nat, d < B → d ≠ B + 4 ∧ d ≠ B + 3 ∧ d ≠ B ∧ d ≠ B + 1 := fun B d h => by omega
  have le1 := rv.length
  have le2 := rv2.length
  have la : a < s1.heap.objs.size := tp.lt
  have lb : b < s1.heap.objs.size := tp2.lt
  refine RZ.call_zipT tp tp2 fun m hz hTI hTO n1 n2 hsz hk => ?_
  refine PyProof.Rows.args_nil ?_
  have D := PySem.W.ktu_apart s1.heap.objs.size a b la lb
  have st : ZTn (s1.heap.objs.size + 4) (s1.heap.objs.size + 2) (s1.heap.objs.size + 3) s1.heap.objs.size (s1.heap.objs.size + 1) a b 0 m := ⟨⟨.none, .bool false, .inl rfl, ⟨false, rfl⟩, hz⟩, hTI, ⟨_, _, hTO⟩, n1, n2⟩
  refine zt_call (s := { s1 with heap := m }) (xs := its) (ys := its2) (I1.ok.hd hc) D st (let ⟨o, z, r⟩ := tp; ⟨o, hk _ _ z, r⟩) (let ⟨o, z, r⟩ := tp2; ⟨o, hk _ _ z, r⟩) (Nat.le_trans (Nat.min_le_left _ _) (le1 ▸ hz1)) fun h' tk acc c ad kp hl el G ea => ?_
  dsimp only at kp hl G ⊢
  rw [← le1, ← le2] at el
  have sS : m.objs.size = s1.heap.objs.size + 5 := hsz
  have G2 := G.prs
  have big := G.big
  have ltS : ∀ {p : Nat}, p ∈ ad → s1.heap.objs.size ≤ p ∧ p < h'.objs.size := fun hp => by
    have := big _ hp
    exact ⟨by omega, G.lt hp⟩
  have S0 : s1.heap.objs.size ≤ h'.objs.size := by
    have : m.objs.size < h'.objs.size := Heap.lt_size hl
    omega
  have I2 : Inv X pins σ (tzH H1 s1.heap.objs.size h'.objs.size ad xs ys) { s1 with heap := h'.push { cls := .type "tuple", data := .seq acc }, toks := tk } := by
    refine laidN I1 (fun d o w => let z := hB _ d (Heap.lt_size w); Heap.get?_push_of_some _ (kp d o z.1 z.2.1 z.2.2.1 z.2.2.2 (hk d o w))) (fun d hd => if_pos hd) fun d o hd ho => ?_
    unfold tzH at ho
    rw [if_neg (Nat.not_lt.mpr hd)] at ho
    by_cases c2 : d = h'.objs.size
    · subst c2
      rw [if_pos rfl] at ho
      cases ho
      refine ⟨?_, ad.map Value.ref, Vals_refs ad, ?_⟩
      · rw [List.length_map, el]
        omega
      · rw [← ea]
        have := IsTup.new h' acc.toList.toArray
        simp only [Array.toArray_toList] at this ⊢
        exact this
    · rw [if_neg c2] at ho
      obtain ⟨j, x, y, e1, e3, e4, rfl⟩ := tblP_some ho
      obtain ⟨x', y', f1, f2, f3⟩ := G2 j d e1
      obtain ⟨v1, g1, w1⟩ := rv.get e3
      obtain ⟨v2, g2, w2⟩ := rv2.get e4
      rw [f1] at g1
      rw [f2] at g2
      cases g1
      cases g2
      exact ⟨by show 2 ≤ sizeLine; decide, [x', y'], .cons w1 (.cons w2 .nil), ⟨_, Heap.get?_push_of_some _ f3, rfl, _, rfl⟩⟩
  have fr : ∀ {d : Nat}, s1.heap.objs.size ≤ d → H1 d = none := fun hd => I1.hok.fresh hd
  refine ⟨.ref h'.objs.size, _, I2, rfl, q h'.objs.size ad _ (fun d o w => ?_) (fr S0) ?_ el fun j p x y e1 e3 e4 => ?_⟩
  · unfold tzH
    rw [if_pos (I1.hok.lt w)]
    exact w
  · unfold tzH
    rw [if_neg (Nat.not_lt.mpr S0), if_pos rfl]
  · have hp := ltS (List.mem_of_getElem? e1)
    refine ⟨fr hp.1, ?_⟩
    unfold tzH
    rw [if_neg (Nat.not_lt.mpr hp.1), if_neg (fun z => Nat.ne_of_lt hp.2 z)]
    exact tblP_at G.inc e1 e3 e4
theorem r_tupZip {K : PySem.W.Frag} {ta : TA} {σ : L2.St} {H : Hp} {Q : VK} (h : ta σ H fun vs H1 => ∃ a b xs ys, vs = [.ref a, .ref b] ∧ SqT K H1 a xs ∧ SqT K H1 b ys ∧
  ∀ (l : Nat) (ad : List Nat) H2, Same H1 H2 → H1 l = none → H2 l = some (.tup (ad.map V.ref)) → ad.length = min xs.length ys.length → (∀ (j : Nat) (p : Nat) (x y : V), ad[j]? = some p → xs[j]? = some x → ys[j]? = some y → H1 p = none ∧ H2 p = some (.tup [x, y])) → Q (.ref l) H2) : tTupZip K ta σ H Q := h
/-! ## two walks in one comprehension: a list, and a range with a step -/
theorem inn_rangeC {D : Addr} {g1 : TG} {tt1 : TT} {te : TE} {vs1 : List Nat} {σ2 : L2.St} {H4 : Hp} {Nx : Hp → Prop} {lo c : Int} {n : Nat} (Pv : Nat → Hp → Prop) (h0 : Pv 0 H4)
    (hs : ∀ j H, j < n → Pv j H → g1 (.int (lo + (j : Nat) * c)) (wipe σ2 vs1) H fun σ3 H5 => wipe σ3 vs1 = wipe σ2 vs1 ∧ tt1 σ3 H5 fun b H6 =>
        if b = true then te σ3 H6 fun y H7 => ∃ acc, H7 D = some (.lst acc) ∧ acc.length < sizeLine ∧ Pv (j + 1) (upd H7 D (.lst (acc ++ [y]))) else Pv (j + 1) H6)
    (hd : ∀ H, Pv n H → Nx H) : Inn D (Itc lo c n) g1 tt1 te vs1 σ2 H4 Nx := by
  refine ⟨fun i m H => m = n - i ∧ i ≤ n ∧ Pv i H, ⟨n, by omega, Nat.zero_le _, h0⟩, ?_⟩
  rintro i m H ⟨rfl, hi, p⟩
  by_cases lt : i < n
  · refine Or.inr ⟨lt, Pv (i + 1), fun H' p' => ⟨n - (i + 1), by omega, rfl, lt, p'⟩, fun x H' y => ?_⟩
    obtain ⟨e, y⟩ := y
    subst e y
    exact hs i _ lt p
  · have e : i = n := by omega
    subst e
    exact Or.inl ⟨Nat.le_refl _, hd H p⟩
section
variable {K : PySem.W.Frag} {σ : L2.St} {H : Hp} {Q : VK} {g g1 : TG} {tt tt1 : TT} {te : TE} {vs vs1 : List Nat} {wi1 : TI}
theorem r_lc2Li {tl : TE} (h : tl σ H fun x H1 => ∃ a, x = .ref a ∧ (∃ xs, SqL K H1 a xs) ∧ tLc2 (fun _ H2 R => R (Itl K a) H2) g tt wi1 g1 tt1 te vs vs1 σ H1 Q) : tLc2 (iList K tl) g tt wi1 g1 tt1 te vs vs1 σ H Q := h
theorem r_lc2L {a : Addr} (xs : List V) (Pv : Addr → Nat → Hp → Prop) (h0 : ∀ D, H D = none → Pv D 0 (upd H D (.lst []))) (hl : ∀ D i H', H D = none → i ≤ xs.length → Pv D i H' → SqL K H' a xs)
    (hs : ∀ D i x H', H D = none → xs[i]? = some x → Pv D i H' → g x (wipe σ vs) H' fun σ2 H2 => wipe σ2 vs = wipe σ vs ∧ tt σ2 H2 fun b H3 =>
      if b = true then wi1 σ2 H3 fun J1 H4 => Inn D J1 g1 tt1 te vs1 σ2 H4 (Pv D (i + 1)) else Pv D (i + 1) H3)
    (hd : ∀ D H', H D = none → Pv D xs.length H' → Q (.ref D) H') : tLc2 (fun _ H2 R => R (Itl K a) H2) g tt wi1 g1 tt1 te vs vs1 σ H Q := by
  refine fun D hD => ⟨fun i m H => m = xs.length - i ∧ i ≤ xs.length ∧ Pv D i H, ⟨xs.length, by omega, Nat.zero_le _, h0 D hD⟩, ?_⟩
  rintro i m H' ⟨rfl, hi, p⟩
  have q := hl D i H' hD hi p
  by_cases lt : i < xs.length
  · refine Or.inr ⟨⟨xs, xs[i], q, by simp [lt]⟩, Pv D (i + 1), fun H' p' => ⟨xs.length - (i + 1), by omega, rfl, lt, p'⟩, fun x H'' y => ?_⟩
    obtain ⟨e, f⟩ := y
    subst e
    have := f xs q
    exact hs D i x H'' hD this p
  · have e : i = xs.length := by omega
    subst e
    exact Or.inl ⟨⟨xs, q, Nat.le_refl _⟩, hd D H' hD p⟩
theorem r_w3 {ta : TA} {R : It → Hp → Prop} (h : ta σ H fun vs H1 => ∃ (i j c : Int) (n : Nat), vs = [.int i, .int j, .int c] ∧ RgC i j c n ∧ R (Itc i c n) H1) : iRng3 ta σ H R := h
end
end Vf
namespace Vf
open PySem PySem.Spec PyProof.Rows L2
theorem r_sortedI {K : PySem.W.Frag} {H : Hp} {Q : VK} {a : Addr} (ns : List Int) (h1 : SqL K H a (ns.map V.int)) (h : ∀ (ns' : List Int) (p : Addr), ns'.Perm ns → ns'.Pairwise (· ≤ ·) → H p = none → Q (.ref p) (upd H p (.lst (ns'.map V.int)))) : rSortedI K [.ref a] H Q := ⟨a, ns, rfl, h1, h⟩
end Vf

namespace K57
open PySem PySem.Spec PyProof.Rows L2 Vf
/-! ### the text -/
def topS (i : Nat) : Stmt := PySem.Challenge.pw_restworld_k57_whole_roots_beside_facts.main.body.getD i (.Pass ⟨0, 0, 0, 0⟩)
abbrev s_bezout : Stmt := topS 2
theorem sc_bezout : FnScope ["one", "other", "u", "v", "next_u", "next_v", "left", "right", "times"] ["one", "other"] (defScope s_bezout) := ⟨rfl, rfl, rfl, by decide +kernel, rfl, by decide +kernel, by decide +kernel⟩
theorem bd_bezout {K : PySem.W.Frag} {f : Addr} {fd : FuncData} (F : L2.Fun K "bezout" "bezout" s_bezout f fd) : L2.Binds K fd ["one", "other"] [] := F.binds (ps := ["one", "other"]) fun _ _ _ _ _ _ us hl => match us, hl with | [_, _], _ => rfl
abbrev s_inverse : Stmt := topS 3
theorem sc_inverse : FnScope ["number", "base", "u", "_"] ["number", "base"] (defScope s_inverse) := ⟨rfl, rfl, rfl, by decide +kernel, rfl, by decide +kernel, by decide +kernel⟩
theorem bd_inverse {K : PySem.W.Frag} {f : Addr} {fd : FuncData} (F : L2.Fun K "inverse" "inverse" s_inverse f fd) : L2.Binds K fd ["number", "base"] [] := F.binds (ps := ["number", "base"]) fun _ _ _ _ _ _ us hl => match us, hl with | [_, _], _ => rfl
abbrev s_times_in : Stmt := topS 4
theorem sc_times_in : FnScope ["number", "prime", "times", "left"] ["number", "prime"] (defScope s_times_in) := ⟨rfl, rfl, rfl, by decide +kernel, rfl, by decide +kernel, by decide +kernel⟩
theorem bd_times_in {K : PySem.W.Frag} {f : Addr} {fd : FuncData} (F : L2.Fun K "times_in" "times_in" s_times_in f fd) : L2.Binds K fd ["number", "prime"] [] := F.binds (ps := ["number", "prime"]) fun _ _ _ _ _ _ us hl => match us, hl with | [_, _], _ => rfl
abbrev s_raised : Stmt := topS 5
theorem sc_raised : FnScope ["number", "times", "product", "factor", "left"] ["number", "times"] (defScope s_raised) := ⟨rfl, rfl, rfl, by decide +kernel, rfl, by decide +kernel, by decide +kernel⟩
theorem bd_raised {K : PySem.W.Frag} {f : Addr} {fd : FuncData} (F : L2.Fun K "raised" "raised" s_raised f fd) : L2.Binds K fd ["number", "times"] [] := F.binds (ps := ["number", "times"]) fun _ _ _ _ _ _ us hl => match us, hl with | [_, _], _ => rfl
abbrev s_raised_by : Stmt := topS 6
theorem sc_raised_by : FnScope ["number", "times", "base", "product", "factor", "left"] ["number", "times", "base"] (defScope s_raised_by) := ⟨rfl, rfl, rfl, by decide +kernel, rfl, by decide +kernel, by decide +kernel⟩
theorem bd_raised_by {K : PySem.W.Frag} {f : Addr} {fd : FuncData} (F : L2.Fun K "raised_by" "raised_by" s_raised_by f fd) : L2.Binds K fd ["number", "times", "base"] [] := F.binds (ps := ["number", "times", "base"]) fun _ _ _ _ _ _ us hl => match us, hl with | [_, _, _], _ => rfl
abbrev s_is_integer : Stmt := topS 21
theorem sc_is_integer : FnScope ["given"] ["given"] (defScope s_is_integer) := ⟨rfl, rfl, rfl, by decide +kernel, rfl, by decide +kernel, by decide +kernel⟩
theorem bd_is_integer {K : PySem.W.Frag} {f : Addr} {fd : FuncData} (F : L2.Fun K "is_integer" "is_integer" s_is_integer f fd) : L2.Binds K fd ["given"] [] := F.binds (ps := ["given"]) fun _ _ _ _ _ _ us hl => match us, hl with | [_], _ => rfl
abbrev s_is_within : Stmt := topS 22
theorem sc_is_within : FnScope ["given", "least", "most"] ["given", "least", "most"] (defScope s_is_within) := ⟨rfl, rfl, rfl, by decide +kernel, rfl, by decide +kernel, by decide +kernel⟩
theorem bd_is_within {K : PySem.W.Frag} {f : Addr} {fd : FuncData} (F : L2.Fun K "is_within" "is_within" s_is_within f fd) : L2.Binds K fd ["given", "least", "most"] [] := F.binds (ps := ["given", "least", "most"]) fun _ _ _ _ _ _ us hl => match us, hl with | [_, _, _], _ => rfl
abbrev s_check_within : Stmt := topS 23
theorem sc_check_within : FnScope ["given", "least", "most"] ["given", "least", "most"] (defScope s_check_within) := ⟨rfl, rfl, rfl, by decide +kernel, rfl, by decide +kernel, by decide +kernel⟩
theorem bd_check_within {K : PySem.W.Frag} {f : Addr} {fd : FuncData} (F : L2.Fun K "check_within" "check_within" s_check_within f fd) : L2.Binds K fd ["given", "least", "most"] [] := F.binds (ps := ["given", "least", "most"]) fun _ _ _ _ _ _ us hl => match us, hl with | [_, _, _], _ => rfl
abbrev s_check_number : Stmt := topS 24
theorem sc_check_number : FnScope ["given"] ["given"] (defScope s_check_number) := ⟨rfl, rfl, rfl, by decide +kernel, rfl, by decide +kernel, by decide +kernel⟩
theorem bd_check_number {K : PySem.W.Frag} {f : Addr} {fd : FuncData} (F : L2.Fun K "check_number" "check_number" s_check_number f fd) : L2.Binds K fd ["given"] [] := F.binds (ps := ["given"]) fun _ _ _ _ _ _ us hl => match us, hl with | [_], _ => rfl
abbrev s_check_base : Stmt := topS 25
theorem sc_check_base : FnScope ["given"] ["given"] (defScope s_check_base) := ⟨rfl, rfl, rfl, by decide +kernel, rfl, by decide +kernel, by decide +kernel⟩
theorem bd_check_base {K : PySem.W.Frag} {f : Addr} {fd : FuncData} (F : L2.Fun K "check_base" "check_base" s_check_base f fd) : L2.Binds K fd ["given"] [] := F.binds (ps := ["given"]) fun _ _ _ _ _ _ us hl => match us, hl with | [_], _ => rfl
abbrev s_check_walked : Stmt := topS 26
theorem sc_check_walked : FnScope ["base"] ["base"] (defScope s_check_walked) := ⟨rfl, rfl, rfl, by decide +kernel, rfl, by decide +kernel, by decide +kernel⟩
theorem bd_check_walked {K : PySem.W.Frag} {f : Addr} {fd : FuncData} (F : L2.Fun K "check_walked" "check_walked" s_check_walked f fd) : L2.Binds K fd ["base"] [] := F.binds (ps := ["base"]) fun _ _ _ _ _ _ us hl => match us, hl with | [_], _ => rfl
abbrev s_is_fact : Stmt := topS 27
theorem sc_is_fact : FnScope ["given", "rest", "base"] ["given"] (defScope s_is_fact) := ⟨rfl, rfl, rfl, by decide +kernel, rfl, by decide +kernel, by decide +kernel⟩
theorem bd_is_fact {K : PySem.W.Frag} {f : Addr} {fd : FuncData} (F : L2.Fun K "is_fact" "is_fact" s_is_fact f fd) : L2.Binds K fd ["given"] [] := F.binds (ps := ["given"]) fun _ _ _ _ _ _ us hl => match us, hl with | [_], _ => rfl
abbrev s_check_facts : Stmt := topS 28
theorem sc_check_facts : FnScope ["facts"] ["facts"] (defScope s_check_facts) := ⟨rfl, rfl, rfl, by decide +kernel, rfl, by decide +kernel, by decide +kernel⟩
theorem bd_check_facts {K : PySem.W.Frag} {f : Addr} {fd : FuncData} (F : L2.Fun K "check_facts" "check_facts" s_check_facts f fd) : L2.Binds K fd ["facts"] [] := F.binds (ps := ["facts"]) fun _ _ _ _ _ _ us hl => match us, hl with | [_], _ => rfl
abbrev s__check_each_fact : Stmt := topS 29
theorem sc__check_each_fact : FnScope ["facts", "most", "index"] ["facts", "most"] (defScope s__check_each_fact) := ⟨rfl, rfl, rfl, by decide +kernel, rfl, by decide +kernel, by decide +kernel⟩
theorem bd__check_each_fact {K : PySem.W.Frag} {f : Addr} {fd : FuncData} (F : L2.Fun K "_check_each_fact" "_check_each_fact" s__check_each_fact f fd) : L2.Binds K fd ["facts", "most"] [] := F.binds (ps := ["facts", "most"]) fun _ _ _ _ _ _ us hl => match us, hl with | [_, _], _ => rfl
abbrev s__first_wrong_fact : Stmt := topS 30
theorem sc__first_wrong_fact : FnScope ["facts", "most", "index", "fact"] ["facts", "most"] (defScope s__first_wrong_fact) := ⟨rfl, rfl, rfl, by decide +kernel, rfl, by decide +kernel, by decide +kernel⟩
theorem bd__first_wrong_fact {K : PySem.W.Frag} {f : Addr} {fd : FuncData} (F : L2.Fun K "_first_wrong_fact" "_first_wrong_fact" s__first_wrong_fact f fd) : L2.Binds K fd ["facts", "most"] [] := F.binds (ps := ["facts", "most"]) fun _ _ _ _ _ _ us hl => match us, hl with | [_, _], _ => rfl
abbrev s_apart : Stmt := topS 32
theorem sc_apart : FnScope ["base", "pairs", "left", "divisor", "often", "_"] ["base"] (defScope s_apart) := ⟨rfl, rfl, rfl, by decide +kernel, rfl, by decide +kernel, by decide +kernel⟩
theorem bd_apart {K : PySem.W.Frag} {f : Addr} {fd : FuncData} (F : L2.Fun K "apart" "apart" s_apart f fd) : L2.Binds K fd ["base"] [] := F.binds (ps := ["base"]) fun _ _ _ _ _ _ us hl => match us, hl with | [_], _ => rfl
abbrev s_cycles : Stmt := topS 34
theorem sc_cycles : FnScope ["base", "found", "prime", "often"] ["base"] (defScope s_cycles) := ⟨rfl, rfl, rfl, by decide +kernel, rfl, by decide +kernel, by decide +kernel⟩
theorem bd_cycles {K : PySem.W.Frag} {f : Addr} {fd : FuncData} (F : L2.Fun K "cycles" "cycles" s_cycles f fd) : L2.Binds K fd ["base"] [] := F.binds (ps := ["base"]) fun _ _ _ _ _ _ us hl => match us, hl with | [_], _ => rfl
abbrev s_common_length : Stmt := topS 35
theorem sc_common_length : FnScope ["base", "length", "many"] ["base"] (defScope s_common_length) := ⟨rfl, rfl, rfl, by decide +kernel, rfl, by decide +kernel, by decide +kernel⟩
theorem bd_common_length {K : PySem.W.Frag} {f : Addr} {fd : FuncData} (F : L2.Fun K "common_length" "common_length" s_common_length f fd) : L2.Binds K fd ["base"] [] := F.binds (ps := ["base"]) fun _ _ _ _ _ _ us hl => match us, hl with | [_], _ => rfl
abbrev s_power_rest : Stmt := topS 38
theorem sc_power_rest : FnScope ["number", "power", "base"] ["number", "power", "base"] (defScope s_power_rest) := ⟨rfl, rfl, rfl, by decide +kernel, rfl, by decide +kernel, by decide +kernel⟩
theorem bd_power_rest {K : PySem.W.Frag} {f : Addr} {fd : FuncData} (F : L2.Fun K "power_rest" "power_rest" s_power_rest f fd) : L2.Binds K fd ["number", "power", "base"] [] := F.binds (ps := ["number", "power", "base"]) fun _ _ _ _ _ _ us hl => match us, hl with | [_, _, _], _ => rfl
abbrev s_is_open : Stmt := topS 39
theorem sc_is_open : FnScope ["number", "base"] ["number", "base"] (defScope s_is_open) := ⟨rfl, rfl, rfl, by decide +kernel, rfl, by decide +kernel, by decide +kernel⟩
theorem bd_is_open {K : PySem.W.Frag} {f : Addr} {fd : FuncData} (F : L2.Fun K "is_open" "is_open" s_is_open f fd) : L2.Binds K fd ["number", "base"] [] := F.binds (ps := ["number", "base"]) fun _ _ _ _ _ _ us hl => match us, hl with | [_, _], _ => rfl
abbrev s_parts : Stmt := topS 40
theorem sc_parts : FnScope ["base", "chain", "many", "left", "at", "part"] ["base"] (defScope s_parts) := ⟨rfl, rfl, rfl, by decide +kernel, rfl, by decide +kernel, by decide +kernel⟩
theorem bd_parts {K : PySem.W.Frag} {f : Addr} {fd : FuncData} (F : L2.Fun K "parts" "parts" s_parts f fd) : L2.Binds K fd ["base"] [] := F.binds (ps := ["base"]) fun _ _ _ _ _ _ us hl => match us, hl with | [_], _ => rfl
abbrev s_count_roots : Stmt := topS 41
theorem sc_count_roots : FnScope ["number", "power", "base", "many", "prime", "often"] ["number", "power", "base"] (defScope s_count_roots) := ⟨rfl, rfl, rfl, by decide +kernel, rfl, by decide +kernel, by decide +kernel⟩
theorem bd_count_roots {K : PySem.W.Frag} {f : Addr} {fd : FuncData} (F : L2.Fun K "count_roots" "count_roots" s_count_roots f fd) : L2.Binds K fd ["number", "power", "base"] [] := F.binds (ps := ["number", "power", "base"]) fun _ _ _ _ _ _ us hl => match us, hl with | [_, _, _], _ => rfl
abbrev s_roots : Stmt := topS 42
theorem sc_roots : FnScope ["number", "power", "base", "least", "rest", "root"] ["number", "power", "base"] (defScope s_roots) := ⟨rfl, rfl, rfl, by decide +kernel, rfl, by decide +kernel, by decide +kernel⟩
theorem bd_roots {K : PySem.W.Frag} {f : Addr} {fd : FuncData} (F : L2.Fun K "roots" "roots" s_roots f fd) : L2.Binds K fd ["number", "power", "base"] [] := F.binds (ps := ["number", "power", "base"]) fun _ _ _ _ _ _ us hl => match us, hl with | [_, _, _], _ => rfl
abbrev s__check_power : Stmt := topS 43
theorem sc__check_power : FnScope ["power"] ["power"] (defScope s__check_power) := ⟨rfl, rfl, rfl, by decide +kernel, rfl, by decide +kernel, by decide +kernel⟩
theorem bd__check_power {K : PySem.W.Frag} {f : Addr} {fd : FuncData} (F : L2.Fun K "_check_power" "_check_power" s__check_power f fd) : L2.Binds K fd ["power"] [] := F.binds (ps := ["power"]) fun _ _ _ _ _ _ us hl => match us, hl with | [_], _ => rfl
abbrev s__check_open : Stmt := topS 44
theorem sc__check_open : FnScope ["number", "base"] ["number", "base"] (defScope s__check_open) := ⟨rfl, rfl, rfl, by decide +kernel, rfl, by decide +kernel, by decide +kernel⟩
theorem bd__check_open {K : PySem.W.Frag} {f : Addr} {fd : FuncData} (F : L2.Fun K "_check_open" "_check_open" s__check_open f fd) : L2.Binds K fd ["number", "base"] [] := F.binds (ps := ["number", "base"]) fun _ _ _ _ _ _ us hl => match us, hl with | [_, _], _ => rfl
abbrev s__count_roots_by_power : Stmt := topS 45
theorem sc__count_roots_by_power : FnScope ["number", "power", "prime", "often", "base"] ["number", "power", "prime", "often"] (defScope s__count_roots_by_power) := ⟨rfl, rfl, rfl, by decide +kernel, rfl, by decide +kernel, by decide +kernel⟩
theorem bd__count_roots_by_power {K : PySem.W.Frag} {f : Addr} {fd : FuncData} (F : L2.Fun K "_count_roots_by_power" "_count_roots_by_power" s__count_roots_by_power f fd) : L2.Binds K fd ["number", "power", "prime", "often"] [] := F.binds (ps := ["number", "power", "prime", "often"]) fun _ _ _ _ _ _ us hl => match us, hl with | [_, _, _, _], _ => rfl
abbrev s__count_in_cycle : Stmt := topS 46
theorem sc__count_in_cycle : FnScope ["number", "power", "length", "base", "shared"] ["number", "power", "length", "base"] (defScope s__count_in_cycle) := ⟨rfl, rfl, rfl, by decide +kernel, rfl, by decide +kernel, by decide +kernel⟩
theorem bd__count_in_cycle {K : PySem.W.Frag} {f : Addr} {fd : FuncData} (F : L2.Fun K "_count_in_cycle" "_count_in_cycle" s__count_in_cycle f fd) : L2.Binds K fd ["number", "power", "length", "base"] [] := F.binds (ps := ["number", "power", "length", "base"]) fun _ _ _ _ _ _ us hl => match us, hl with | [_, _, _, _], _ => rfl
abbrev s_are_quarrelling : Stmt := topS 48
theorem sc_are_quarrelling : FnScope ["one", "other"] ["one", "other"] (defScope s_are_quarrelling) := ⟨rfl, rfl, rfl, by decide +kernel, rfl, by decide +kernel, by decide +kernel⟩
theorem bd_are_quarrelling {K : PySem.W.Frag} {f : Addr} {fd : FuncData} (F : L2.Fun K "are_quarrelling" "are_quarrelling" s_are_quarrelling f fd) : L2.Binds K fd ["one", "other"] [] := F.binds (ps := ["one", "other"]) fun _ _ _ _ _ _ us hl => match us, hl with | [_, _], _ => rfl
abbrev s_along : Stmt := topS 49
theorem sc_along : FnScope ["fact", "other", "rest", "base", "shared", "between", "step"] ["fact", "other"] (defScope s_along) := ⟨rfl, rfl, rfl, by decide +kernel, rfl, by decide +kernel, by decide +kernel⟩
theorem bd_along {K : PySem.W.Frag} {f : Addr} {fd : FuncData} (F : L2.Fun K "along" "along" s_along f fd) : L2.Binds K fd ["fact", "other"] [] := F.binds (ps := ["fact", "other"]) fun _ _ _ _ _ _ us hl => match us, hl with | [_, _], _ => rfl
abbrev s_merged : Stmt := topS 50
theorem sc_merged : FnScope ["one", "other", "places", "place", "step"] ["one", "other"] (defScope s_merged) := ⟨rfl, rfl, rfl, by decide +kernel, rfl, by decide +kernel, by decide +kernel⟩
theorem bd_merged {K : PySem.W.Frag} {f : Addr} {fd : FuncData} (F : L2.Fun K "merged" "merged" s_merged f fd) : L2.Binds K fd ["one", "other"] [] := F.binds (ps := ["one", "other"]) fun _ _ _ _ _ _ us hl => match us, hl with | [_, _], _ => rfl
abbrev s_all_merged : Stmt := topS 51
theorem sc_all_merged : FnScope ["facts", "made", "fact"] ["facts"] (defScope s_all_merged) := ⟨rfl, rfl, rfl, by decide +kernel, rfl, by decide +kernel, by decide +kernel⟩
theorem bd_all_merged {K : PySem.W.Frag} {f : Addr} {fd : FuncData} (F : L2.Fun K "all_merged" "all_merged" s_all_merged f fd) : L2.Binds K fd ["facts"] [] := F.binds (ps := ["facts"]) fun _ _ _ _ _ _ us hl => match us, hl with | [_], _ => rfl
abbrev s_quarrelling_pairs : Stmt := topS 53
theorem sc_quarrelling_pairs : FnScope ["facts", "many", "i", "j"] ["facts"] (defScope s_quarrelling_pairs) := ⟨rfl, rfl, rfl, by decide +kernel, rfl, by decide +kernel, by decide +kernel⟩
theorem bd_quarrelling_pairs {K : PySem.W.Frag} {f : Addr} {fd : FuncData} (F : L2.Fun K "quarrelling_pairs" "quarrelling_pairs" s_quarrelling_pairs f fd) : L2.Binds K fd ["facts"] [] := F.binds (ps := ["facts"]) fun _ _ _ _ _ _ us hl => match us, hl with | [_], _ => rfl
abbrev s_joined : Stmt := topS 55
theorem sc_joined : FnScope ["facts"] ["facts"] (defScope s_joined) := ⟨rfl, rfl, rfl, by decide +kernel, rfl, by decide +kernel, by decide +kernel⟩
theorem bd_joined {K : PySem.W.Frag} {f : Addr} {fd : FuncData} (F : L2.Fun K "joined" "joined" s_joined f fd) : L2.Binds K fd ["facts"] [] := F.binds (ps := ["facts"]) fun _ _ _ _ _ _ us hl => match us, hl with | [_], _ => rfl
abbrev s__check_no_quarrel : Stmt := topS 56
theorem sc__check_no_quarrel : FnScope ["facts", "i", "j"] ["facts"] (defScope s__check_no_quarrel) := ⟨rfl, rfl, rfl, by decide +kernel, rfl, by decide +kernel, by decide +kernel⟩
theorem bd__check_no_quarrel {K : PySem.W.Frag} {f : Addr} {fd : FuncData} (F : L2.Fun K "_check_no_quarrel" "_check_no_quarrel" s__check_no_quarrel f fd) : L2.Binds K fd ["facts"] [] := F.binds (ps := ["facts"]) fun _ _ _ _ _ _ us hl => match us, hl with | [_], _ => rfl
abbrev s__made_by : Stmt := topS 57
theorem sc__made_by : FnScope ["facts"] ["facts"] (defScope s__made_by) := ⟨rfl, rfl, rfl, by decide +kernel, rfl, by decide +kernel, by decide +kernel⟩
theorem bd__made_by {K : PySem.W.Frag} {f : Addr} {fd : FuncData} (F : L2.Fun K "_made_by" "_made_by" s__made_by f fd) : L2.Binds K fd ["facts"] [] := F.binds (ps := ["facts"]) fun _ _ _ _ _ _ us hl => match us, hl with | [_], _ => rfl
abbrev s__law_mug : Stmt := topS 59
theorem sc__law_mug : FnScope ["_law_cells", "_law_k", "_law_cell", "_law_stirred", "_law_each"] ["_law_cells", "_law_k"] (defScope s__law_mug) := ⟨rfl, rfl, rfl, by decide +kernel, rfl, by decide +kernel, by decide +kernel⟩
theorem bd__law_mug {K : PySem.W.Frag} {f : Addr} {fd : FuncData} (F : L2.Fun K "_law_mug" "_law_mug" s__law_mug f fd) : L2.Binds K fd ["_law_cells", "_law_k"] [] := F.binds (ps := ["_law_cells", "_law_k"]) fun _ _ _ _ _ _ us hl => match us, hl with | [_, _], _ => rfl
abbrev s__law_sip : Stmt := topS 60
theorem sc__law_sip : FnScope ["_law_mug_here", "_law_top", "_law_old", "_law_digit"] ["_law_mug_here", "_law_top"] (defScope s__law_sip) := ⟨rfl, rfl, rfl, by decide +kernel, rfl, by decide +kernel, by decide +kernel⟩
theorem bd__law_sip {K : PySem.W.Frag} {f : Addr} {fd : FuncData} (F : L2.Fun K "_law_sip" "_law_sip" s__law_sip f fd) : L2.Binds K fd ["_law_mug_here", "_law_top"] [] := F.binds (ps := ["_law_mug_here", "_law_top"]) fun _ _ _ _ _ _ us hl => match us, hl with | [_, _], _ => rfl
abbrev s__law_of : Stmt := topS 61
theorem sc__law_of : FnScope ["_law_mug_here", "_law_things"] ["_law_mug_here", "_law_things"] (defScope s__law_of) := ⟨rfl, rfl, rfl, by decide +kernel, rfl, by decide +kernel, by decide +kernel⟩
theorem bd__law_of {K : PySem.W.Frag} {f : Addr} {fd : FuncData} (F : L2.Fun K "_law_of" "_law_of" s__law_of f fd) : L2.Binds K fd ["_law_mug_here", "_law_things"] [] := F.binds (ps := ["_law_mug_here", "_law_things"]) fun _ _ _ _ _ _ us hl => match us, hl with | [_, _], _ => rfl
abbrev s__law_common : Stmt := topS 62
theorem sc__law_common : FnScope ["_law_a", "_law_b"] ["_law_a", "_law_b"] (defScope s__law_common) := ⟨rfl, rfl, rfl, by decide +kernel, rfl, by decide +kernel, by decide +kernel⟩
theorem bd__law_common {K : PySem.W.Frag} {f : Addr} {fd : FuncData} (F : L2.Fun K "_law_common" "_law_common" s__law_common f fd) : L2.Binds K fd ["_law_a", "_law_b"] [] := F.binds (ps := ["_law_a", "_law_b"]) fun _ _ _ _ _ _ us hl => match us, hl with | [_, _], _ => rfl
abbrev s__law_raised : Stmt := topS 63
theorem sc__law_raised : FnScope ["_law_x", "_law_k", "_law_n", "_law_found", "_law_figure", "_law_tenth", "_law_turn"] ["_law_x", "_law_k", "_law_n"] (defScope s__law_raised) := ⟨rfl, rfl, rfl, by decide +kernel, rfl, by decide +kernel, by decide +kernel⟩
theorem bd__law_raised {K : PySem.W.Frag} {f : Addr} {fd : FuncData} (F : L2.Fun K "_law_raised" "_law_raised" s__law_raised f fd) : L2.Binds K fd ["_law_x", "_law_k", "_law_n"] [] := F.binds (ps := ["_law_x", "_law_k", "_law_n"]) fun _ _ _ _ _ _ us hl => match us, hl with | [_, _, _], _ => rfl
abbrev s__law_great : Stmt := topS 64
theorem sc__law_great : FnScope ["_law_mug_here", "_law_top", "_law_found", "_law_turn"] ["_law_mug_here", "_law_top"] (defScope s__law_great) := ⟨rfl, rfl, rfl, by decide +kernel, rfl, by decide +kernel, by decide +kernel⟩
theorem bd__law_great {K : PySem.W.Frag} {f : Addr} {fd : FuncData} (F : L2.Fun K "_law_great" "_law_great" s__law_great f fd) : L2.Binds K fd ["_law_mug_here", "_law_top"] [] := F.binds (ps := ["_law_mug_here", "_law_top"]) fun _ _ _ _ _ _ us hl => match us, hl with | [_, _], _ => rfl
abbrev s__law_made_base : Stmt := topS 65
theorem sc__law_made_base : FnScope ["_law_mug_here", "_law_top", "_law_n", "_law_primes_here", "_law_found", "_law_turn", "_law_p", "_law_e", "_law_step"] ["_law_mug_here", "_law_top"] (defScope s__law_made_base) := ⟨rfl, rfl, rfl, by decide +kernel, rfl, by decide +kernel, by decide +kernel⟩
theorem bd__law_made_base {K : PySem.W.Frag} {f : Addr} {fd : FuncData} (F : L2.Fun K "_law_made_base" "_law_made_base" s__law_made_base f fd) : L2.Binds K fd ["_law_mug_here", "_law_top"] [] := F.binds (ps := ["_law_mug_here", "_law_top"]) fun _ _ _ _ _ _ us hl => match us, hl with | [_, _], _ => rfl
abbrev s__law_counted : Stmt := topS 66
theorem sc__law_counted : FnScope ["_law_x", "_law_k", "_law_n", "_law_e"] ["_law_x", "_law_k", "_law_n"] (defScope s__law_counted) := ⟨rfl, rfl, rfl, by decide +kernel, rfl, by decide +kernel, by decide +kernel⟩
theorem bd__law_counted {K : PySem.W.Frag} {f : Addr} {fd : FuncData} (F : L2.Fun K "_law_counted" "_law_counted" s__law_counted f fd) : L2.Binds K fd ["_law_x", "_law_k", "_law_n"] [] := F.binds (ps := ["_law_x", "_law_k", "_law_n"]) fun _ _ _ _ _ _ us hl => match us, hl with | [_, _, _], _ => rfl
abbrev s__law_one_right : Stmt := topS 67
theorem sc__law_one_right : FnScope ["_law_x", "_law_k", "_law_n", "_law_due", "_law_here"] ["_law_x", "_law_k", "_law_n"] (defScope s__law_one_right) := ⟨rfl, rfl, rfl, by decide +kernel, rfl, by decide +kernel, by decide +kernel⟩
theorem bd__law_one_right {K : PySem.W.Frag} {f : Addr} {fd : FuncData} (F : L2.Fun K "_law_one_right" "_law_one_right" s__law_one_right f fd) : L2.Binds K fd ["_law_x", "_law_k", "_law_n"] [] := F.binds (ps := ["_law_x", "_law_k", "_law_n"]) fun _ _ _ _ _ _ us hl => match us, hl with | [_, _, _], _ => rfl
abbrev s__law_two_right : Stmt := topS 68
theorem sc__law_two_right : FnScope ["_law_x", "_law_k", "_law_m", "_law_n", "_law_due", "_law_first", "_law_second", "_law_fact_here"] ["_law_x", "_law_k", "_law_m", "_law_n"] (defScope s__law_two_right) := ⟨rfl, rfl, rfl, by decide +kernel, rfl, by decide +kernel, by decide +kernel⟩
theorem bd__law_two_right {K : PySem.W.Frag} {f : Addr} {fd : FuncData} (F : L2.Fun K "_law_two_right" "_law_two_right" s__law_two_right f fd) : L2.Binds K fd ["_law_x", "_law_k", "_law_m", "_law_n"] [] := F.binds (ps := ["_law_x", "_law_k", "_law_m", "_law_n"]) fun _ _ _ _ _ _ us hl => match us, hl with | [_, _, _, _], _ => rfl
abbrev s__law_great_right : Stmt := topS 69
theorem sc__law_great_right : FnScope ["_law_mug_here", "_law_k", "_law_n", "_law_primes_here", "_law_due", "_law_each", "_law_x"] ["_law_mug_here", "_law_k"] (defScope s__law_great_right) := ⟨rfl, rfl, rfl, by decide +kernel, rfl, by decide +kernel, by decide +kernel⟩
theorem bd__law_great_right {K : PySem.W.Frag} {f : Addr} {fd : FuncData} (F : L2.Fun K "_law_great_right" "_law_great_right" s__law_great_right f fd) : L2.Binds K fd ["_law_mug_here", "_law_k"] [] := F.binds (ps := ["_law_mug_here", "_law_k"]) fun _ _ _ _ _ _ us hl => match us, hl with | [_, _], _ => rfl
abbrev s__law_right : Stmt := topS 70
theorem sc__law_right : FnScope ["_law_mug_here", "_law_k", "_law_turn", "_law_x", "_law_n", "_law_m"] ["_law_mug_here"] (defScope s__law_right) := ⟨rfl, rfl, rfl, by decide +kernel, rfl, by decide +kernel, by decide +kernel⟩
theorem bd__law_right {K : PySem.W.Frag} {f : Addr} {fd : FuncData} (F : L2.Fun K "_law_right" "_law_right" s__law_right f fd) : L2.Binds K fd ["_law_mug_here"] [] := F.binds (ps := ["_law_mug_here"]) fun _ _ _ _ _ _ us hl => match us, hl with | [_], _ => rfl
abbrev s_law : Stmt := topS 71
theorem sc_law : FnScope ["_law_cells", "_law_k"] ["_law_cells"] (defScope s_law) := ⟨rfl, rfl, rfl, by decide +kernel, rfl, by decide +kernel, by decide +kernel⟩
theorem bd_law {K : PySem.W.Frag} {f : Addr} {fd : FuncData} (F : L2.Fun K "law" "law" s_law f fd) : L2.Binds K fd ["_law_cells"] [] := F.binds (ps := ["_law_cells"]) fun _ _ _ _ _ _ us hl => match us, hl with | [_], _ => rfl
def g_kb_roots_0 {α : Type} (us ws : List α) : List α := match us, ws with | [], [w0, w1, w2] => [w2, w1, w0] | _, _ => []
theorem kb_roots_0 {K : PySem.W.Frag} {f : Addr} {fd : FuncData} (F : L2.Fun K "roots" "roots" s_roots f fd) : KBinds K fd ["number", "power", "base"] [("base" : Str), ("power" : Str), ("number" : Str)] g_kb_roots_0 g_kb_roots_0 := by
  obtain ⟨⟨oc, od, kV, doc, pm, an, cdv, ct, osl, rfl, lk, hcd⟩, _⟩ := F
  refine ⟨fun s us ws _ hl => ?_, fun {vs us zs ws} hv hz => ?_⟩
  · match us, ws, hl with
    | [], [w0, w1, w2], _ => exact .of_eq rfl
  ·
    cases hv with
    | nil =>
      cases hz with
      | nil => exact Paired.nil
      | cons q0 t_q0 =>
        cases t_q0 with
        | nil => exact Paired.nil
        | cons q1 t_q1 =>
          cases t_q1 with
          | nil => exact Paired.nil
          | cons q2 t_q2 =>
            cases t_q2 with
            | nil =>
              exact (.cons q2 (.cons q1 (.cons q0 .nil)))
            | cons _ _ => exact Paired.nil
    | cons _ _ => exact Paired.nil

def g_kb_count_roots_1 {α : Type} (us ws : List α) : List α := match us, ws with | [], [w0, w1, w2] => [w2, w1, w0] | _, _ => []
theorem kb_count_roots_1 {K : PySem.W.Frag} {f : Addr} {fd : FuncData} (F : L2.Fun K "count_roots" "count_roots" s_count_roots f fd) : KBinds K fd ["number", "power", "base"] [("base" : Str), ("power" : Str), ("number" : Str)] g_kb_count_roots_1 g_kb_count_roots_1 := by
  obtain ⟨⟨oc, od, kV, doc, pm, an, cdv, ct, osl, rfl, lk, hcd⟩, _⟩ := F
  refine ⟨fun s us ws _ hl => ?_, fun {vs us zs ws} hv hz => ?_⟩
  · match us, ws, hl with
    | [], [w0, w1, w2], _ => exact .of_eq rfl
  ·
    cases hv with
    | nil =>
      cases hz with
      | nil => exact Paired.nil
      | cons q0 t_q0 =>
        cases t_q0 with
        | nil => exact Paired.nil
        | cons q1 t_q1 =>
          cases t_q1 with
          | nil => exact Paired.nil
          | cons q2 t_q2 =>
            cases t_q2 with
            | nil =>
              exact (.cons q2 (.cons q1 (.cons q0 .nil)))
            | cons _ _ => exact Paired.nil
    | cons _ _ => exact Paired.nil

def clsS (s : Stmt) (j : Nat) : Stmt := match s with
  | .ClassDef _ _ _ b .. => b.getD j (.Pass ⟨0, 0, 0, 0⟩)
  | _ => .Pass ⟨0, 0, 0, 0⟩
abbrev si_NotOpen : Stmt := clsS (topS 13) 0
theorem sci_NotOpen : FnScope ["self", "given"] ["self", "given"] (defScope si_NotOpen) := ⟨rfl, rfl, rfl, by decide +kernel, rfl, by decide +kernel, by decide +kernel⟩
theorem bdi_NotOpen {K : PySem.W.Frag} {f : Addr} {fd : FuncData} (F : L2.Fun K "__init__" "NotOpen.__init__" si_NotOpen f fd) : L2.Binds K fd ["self", "given"] [] := F.binds (ps := ["self", "given"]) fun _ _ _ _ _ _ us hl => match us, hl with | [_, _], _ => rfl
/-! ### the top -/
structure Top (K : PySem.W.Frag) (mg : Str → Option Value) : Prop where
  g_NotOpen : mg "NotOpen" = some (.ref (cA mg "NotOpen"))
  ec_NotOpen : EC K (cA mg "NotOpen") [.type "ArithmeticError", .type "Exception", .type "BaseException", .type "object"] "ArithmeticError.__new__"
  n_NotOpen_given : PySem.W.findIn K (.ref (cA mg "NotOpen")) "given" = some none
  fi_NotOpen : ∃ fI fd, PySem.W.findIn K (.ref (cA mg "NotOpen")) "__init__" = some (some (.ref fI)) ∧ PySem.W.typeIn K (.ref fI) = some (.type "function") ∧ L2.Fun K "__init__" "NotOpen.__init__" si_NotOpen fI fd
  e_NotOpen_NotOpen : PySem.W.exmOne K (.ref (cA mg "NotOpen")) (.ref (cA mg "NotOpen")) = some true
  d_bezout : At K mg "bezout" s_bezout
  d_inverse : At K mg "inverse" s_inverse
  d_times_in : At K mg "times_in" s_times_in
  d_raised : At K mg "raised" s_raised
  d_raised_by : At K mg "raised_by" s_raised_by
  d_is_integer : At K mg "is_integer" s_is_integer
  d_is_within : At K mg "is_within" s_is_within
  d_check_within : At K mg "check_within" s_check_within
  d_check_number : At K mg "check_number" s_check_number
  d_check_base : At K mg "check_base" s_check_base
  d_check_walked : At K mg "check_walked" s_check_walked
  d_is_fact : At K mg "is_fact" s_is_fact
  d_check_facts : At K mg "check_facts" s_check_facts
  d__check_each_fact : At K mg "_check_each_fact" s__check_each_fact
  d__first_wrong_fact : At K mg "_first_wrong_fact" s__first_wrong_fact
  d_apart : At K mg "apart" s_apart
  d_cycles : At K mg "cycles" s_cycles
  d_common_length : At K mg "common_length" s_common_length
  d_power_rest : At K mg "power_rest" s_power_rest
  d_is_open : At K mg "is_open" s_is_open
  d_parts : At K mg "parts" s_parts
  d_count_roots : At K mg "count_roots" s_count_roots
  d_roots : At K mg "roots" s_roots
  d__check_power : At K mg "_check_power" s__check_power
  d__check_open : At K mg "_check_open" s__check_open
  d__count_roots_by_power : At K mg "_count_roots_by_power" s__count_roots_by_power
  d__count_in_cycle : At K mg "_count_in_cycle" s__count_in_cycle
  d_are_quarrelling : At K mg "are_quarrelling" s_are_quarrelling
  d_along : At K mg "along" s_along
  d_merged : At K mg "merged" s_merged
  d_all_merged : At K mg "all_merged" s_all_merged
  d_quarrelling_pairs : At K mg "quarrelling_pairs" s_quarrelling_pairs
  d_joined : At K mg "joined" s_joined
  d__check_no_quarrel : At K mg "_check_no_quarrel" s__check_no_quarrel
  d__made_by : At K mg "_made_by" s__made_by
  d__law_mug : At K mg "_law_mug" s__law_mug
  d__law_sip : At K mg "_law_sip" s__law_sip
  d__law_of : At K mg "_law_of" s__law_of
  d__law_common : At K mg "_law_common" s__law_common
  d__law_raised : At K mg "_law_raised" s__law_raised
  d__law_great : At K mg "_law_great" s__law_great
  d__law_made_base : At K mg "_law_made_base" s__law_made_base
  d__law_counted : At K mg "_law_counted" s__law_counted
  d__law_one_right : At K mg "_law_one_right" s__law_one_right
  d__law_two_right : At K mg "_law_two_right" s__law_two_right
  d__law_great_right : At K mg "_law_great_right" s__law_great_right
  d__law_right : At K mg "_law_right" s__law_right
  d_law : At K mg "law" s_law
  m_gcd : mg "gcd" = some (.builtin "math.gcd")
  m_lcm : mg "lcm" = some (.builtin "math.lcm")
  c_MOST_NUMBER : ∃ t, mg "MOST_NUMBER" = some (.int (10000000000000000000000000000000000000000) t)
  c_MOST_FACT : ∃ t, mg "MOST_FACT" = some (.int (1000000000000000000000000000000) t)
  c_MOST_BASE : ∃ t, mg "MOST_BASE" = some (.int (1000000000000) t)
  c_MOST_FACTS : ∃ t, mg "MOST_FACTS" = some (.int (40) t)
  c_MOST_WALKED : ∃ t, mg "MOST_WALKED" = some (.int (5000) t)
  c_LONGEST_TAIL : ∃ t, mg "LONGEST_TAIL" = some (.int (40) t)
  b_abs : mg "abs" = none
  b_all : mg "all" = none
  b_bool : mg "bool" = none
  b_divmod : mg "divmod" = none
  b_enumerate : mg "enumerate" = none
  b_int : mg "int" = none
  b_isinstance : mg "isinstance" = none
  b_len : mg "len" = none
  b_min : mg "min" = none
  b_range : mg "range" = none
  b_repr : mg "repr" = none
  b_sorted : mg "sorted" = none
  b_str : mg "str" = none
  b_tuple : mg "tuple" = none
/-! ### the exceptions -/
theorem ini_NotOpen {P : Program} {w : World} {K : PySem.W.Frag} {mg : Str → Option Value} {base : Heap} {fI : Addr} {fd : FuncData} (T : Top K mg) (F : L2.Fun K "__init__" "NotOpen.__init__" si_NotOpen fI fd) : FnOk P w K mg base (L2.CX P w) 1 fI fd ["self", "given"] (spI1 (cA mg "NotOpen") "given") := by
  refine F.okX sci_NotOpen (fun vs H Q E h => ?_) (fun cdv A outer s H vs Q E hr h => ?_)
  · obtain ⟨a, v0, rfl, _⟩ := h
    rfl
  · obtain ⟨a, v0, rfl, ha, q⟩ := h
    refine ⟨_, (pss_one (ps_est T.ec_NotOpen PySem.F.store_ArithmeticError T.n_NotOpen_given (pv 0) (pv 1))), v0, rfl, .ref a, rfl, a, rfl, .inl ⟨ha, fun dx hd ne => q dx hd ne⟩⟩
theorem mk_NotOpen {X : Cx} {ta : TA} {p pos : Pos} {e : Expr} {es : List Expr} (T : Top X.K X.mg) (hr : Room 2 X.A) (ha : PA X (e :: es) ta) (hg : Gl X "NotOpen")
    (he : starEach (e :: es) X.env = (false, eval e X.env) :: starEach es X.env := by rfl) (hpl : (backTo pos (starEach es X.env)).any (·.1) = false := by rfl) :
    PMk X (.Call (.Name "NotOpen" p) (e :: es) [] pos) (fun σ H Q => ta σ H fun vs H1 => ∃ v0, vs = [v0] ∧ ∀ d, H1 d = none → Q (.ref (cA X.mg "NotOpen")) (some d) (upd H1 d (.xd [("given", v0)]))) := by
  obtain ⟨fI, fd, iC, tI, F⟩ := T.fi_NotOpen
  exact pmk_ec T.ec_NotOpen PySem.F.excBase_ArithmeticError iC tI (ini_NotOpen T F) hr (bdi_NotOpen F) passL hg T.g_NotOpen ha (by decide) he hpl mk1_of
/-! ### the end -/
theorem top_mk {K : PySem.W.Frag} {h : Heap} {mg : Str → Option Value} (X : K.In h) (G : h.Ns mainGlobals mg)
    {f0 : Addr} {od0 an0 : Option Addr} {sl0 : Array (Option Value)} {oc0 kV0 dc0 pm0 cd0 ct0 : Value}
    {f1 : Addr} {od1 an1 : Option Addr} {sl1 : Array (Option Value)} {oc1 kV1 dc1 pm1 cd1 ct1 : Value}
    {f2 : Addr} {od2 an2 : Option Addr} {sl2 : Array (Option Value)} {oc2 kV2 dc2 pm2 cd2 ct2 : Value}
    {f3 : Addr} {od3 an3 : Option Addr} {sl3 : Array (Option Value)} {oc3 kV3 dc3 pm3 cd3 ct3 : Value}
    {f4 : Addr} {od4 an4 : Option Addr} {sl4 : Array (Option Value)} {oc4 kV4 dc4 pm4 cd4 ct4 : Value}
    {f5 : Addr} {od5 an5 : Option Addr} {sl5 : Array (Option Value)} {oc5 kV5 dc5 pm5 cd5 ct5 : Value}
    {f6 : Addr} {od6 an6 : Option Addr} {sl6 : Array (Option Value)} {oc6 kV6 dc6 pm6 cd6 ct6 : Value}
    {f7 : Addr} {od7 an7 : Option Addr} {sl7 : Array (Option Value)} {oc7 kV7 dc7 pm7 cd7 ct7 : Value}
    {f8 : Addr} {od8 an8 : Option Addr} {sl8 : Array (Option Value)} {oc8 kV8 dc8 pm8 cd8 ct8 : Value}
    {f9 : Addr} {od9 an9 : Option Addr} {sl9 : Array (Option Value)} {oc9 kV9 dc9 pm9 cd9 ct9 : Value}
    {f10 : Addr} {od10 an10 : Option Addr} {sl10 : Array (Option Value)} {oc10 kV10 dc10 pm10 cd10 ct10 : Value}
    {f11 : Addr} {od11 an11 : Option Addr} {sl11 : Array (Option Value)} {oc11 kV11 dc11 pm11 cd11 ct11 : Value}
    {f12 : Addr} {od12 an12 : Option Addr} {sl12 : Array (Option Value)} {oc12 kV12 dc12 pm12 cd12 ct12 : Value}
    {f13 : Addr} {od13 an13 : Option Addr} {sl13 : Array (Option Value)} {oc13 kV13 dc13 pm13 cd13 ct13 : Value}
    {f14 : Addr} {od14 an14 : Option Addr} {sl14 : Array (Option Value)} {oc14 kV14 dc14 pm14 cd14 ct14 : Value}
    {f15 : Addr} {od15 an15 : Option Addr} {sl15 : Array (Option Value)} {oc15 kV15 dc15 pm15 cd15 ct15 : Value}
    {f16 : Addr} {od16 an16 : Option Addr} {sl16 : Array (Option Value)} {oc16 kV16 dc16 pm16 cd16 ct16 : Value}
    {f17 : Addr} {od17 an17 : Option Addr} {sl17 : Array (Option Value)} {oc17 kV17 dc17 pm17 cd17 ct17 : Value}
    {f18 : Addr} {od18 an18 : Option Addr} {sl18 : Array (Option Value)} {oc18 kV18 dc18 pm18 cd18 ct18 : Value}
    {f19 : Addr} {od19 an19 : Option Addr} {sl19 : Array (Option Value)} {oc19 kV19 dc19 pm19 cd19 ct19 : Value}
    {f20 : Addr} {od20 an20 : Option Addr} {sl20 : Array (Option Value)} {oc20 kV20 dc20 pm20 cd20 ct20 : Value}
    {f21 : Addr} {od21 an21 : Option Addr} {sl21 : Array (Option Value)} {oc21 kV21 dc21 pm21 cd21 ct21 : Value}
    {f22 : Addr} {od22 an22 : Option Addr} {sl22 : Array (Option Value)} {oc22 kV22 dc22 pm22 cd22 ct22 : Value}
    {f23 : Addr} {od23 an23 : Option Addr} {sl23 : Array (Option Value)} {oc23 kV23 dc23 pm23 cd23 ct23 : Value}
    {f24 : Addr} {od24 an24 : Option Addr} {sl24 : Array (Option Value)} {oc24 kV24 dc24 pm24 cd24 ct24 : Value}
    {f25 : Addr} {od25 an25 : Option Addr} {sl25 : Array (Option Value)} {oc25 kV25 dc25 pm25 cd25 ct25 : Value}
    {f26 : Addr} {od26 an26 : Option Addr} {sl26 : Array (Option Value)} {oc26 kV26 dc26 pm26 cd26 ct26 : Value}
    {f27 : Addr} {od27 an27 : Option Addr} {sl27 : Array (Option Value)} {oc27 kV27 dc27 pm27 cd27 ct27 : Value}
    {f28 : Addr} {od28 an28 : Option Addr} {sl28 : Array (Option Value)} {oc28 kV28 dc28 pm28 cd28 ct28 : Value}
    {f29 : Addr} {od29 an29 : Option Addr} {sl29 : Array (Option Value)} {oc29 kV29 dc29 pm29 cd29 ct29 : Value}
    {f30 : Addr} {od30 an30 : Option Addr} {sl30 : Array (Option Value)} {oc30 kV30 dc30 pm30 cd30 ct30 : Value}
    {f31 : Addr} {od31 an31 : Option Addr} {sl31 : Array (Option Value)} {oc31 kV31 dc31 pm31 cd31 ct31 : Value}
    {f32 : Addr} {od32 an32 : Option Addr} {sl32 : Array (Option Value)} {oc32 kV32 dc32 pm32 cd32 ct32 : Value}
    {f33 : Addr} {od33 an33 : Option Addr} {sl33 : Array (Option Value)} {oc33 kV33 dc33 pm33 cd33 ct33 : Value}
    {f34 : Addr} {od34 an34 : Option Addr} {sl34 : Array (Option Value)} {oc34 kV34 dc34 pm34 cd34 ct34 : Value}
    {f35 : Addr} {od35 an35 : Option Addr} {sl35 : Array (Option Value)} {oc35 kV35 dc35 pm35 cd35 ct35 : Value}
    {f36 : Addr} {od36 an36 : Option Addr} {sl36 : Array (Option Value)} {oc36 kV36 dc36 pm36 cd36 ct36 : Value}
    {f37 : Addr} {od37 an37 : Option Addr} {sl37 : Array (Option Value)} {oc37 kV37 dc37 pm37 cd37 ct37 : Value}
    {f38 : Addr} {od38 an38 : Option Addr} {sl38 : Array (Option Value)} {oc38 kV38 dc38 pm38 cd38 ct38 : Value}
    {f39 : Addr} {od39 an39 : Option Addr} {sl39 : Array (Option Value)} {oc39 kV39 dc39 pm39 cd39 ct39 : Value}
    {f40 : Addr} {od40 an40 : Option Addr} {sl40 : Array (Option Value)} {oc40 kV40 dc40 pm40 cd40 ct40 : Value}
    {f41 : Addr} {od41 an41 : Option Addr} {sl41 : Array (Option Value)} {oc41 kV41 dc41 pm41 cd41 ct41 : Value}
    {f42 : Addr} {od42 an42 : Option Addr} {sl42 : Array (Option Value)} {oc42 kV42 dc42 pm42 cd42 ct42 : Value}
    {f43 : Addr} {od43 an43 : Option Addr} {sl43 : Array (Option Value)} {oc43 kV43 dc43 pm43 cd43 ct43 : Value}
    {f44 : Addr} {od44 an44 : Option Addr} {sl44 : Array (Option Value)} {oc44 kV44 dc44 pm44 cd44 ct44 : Value}
    {f45 : Addr} {od45 an45 : Option Addr} {sl45 : Array (Option Value)} {oc45 kV45 dc45 pm45 cd45 ct45 : Value}
    {f46 : Addr} {od46 an46 : Option Addr} {sl46 : Array (Option Value)} {oc46 kV46 dc46 pm46 cd46 ct46 : Value}
    {f47 : Addr} {od47 an47 : Option Addr} {sl47 : Array (Option Value)} {oc47 kV47 dc47 pm47 cd47 ct47 : Value}
    {t_MOST_NUMBER : Tok}
    {t_MOST_FACT : Tok}
    {t_MOST_BASE : Tok}
    {t_MOST_FACTS : Tok}
    {t_MOST_WALKED : Tok}
    {t_LONGEST_TAIL : Tok}
    {x_NotOpen : Addr}
    {nm_NotOpen qn_NotOpen : Str} {N_NotOpen : Addr} {bs_NotOpen bm_NotOpen sub_NotOpen : List Value} {sn_NotOpen : List Str} {ab_NotOpen : Bool} {col_NotOpen : Option Bool} {dd_NotOpen : Option Addr} {k0_NotOpen k1_NotOpen k2_NotOpen k3_NotOpen k5_NotOpen : Option Value}
    {fI_NotOpen : Addr} {odI_NotOpen anI_NotOpen : Option Addr} {slI_NotOpen : Array (Option Value)} {ocI_NotOpen kVI_NotOpen dcI_NotOpen pmI_NotOpen cdI_NotOpen ctI_NotOpen : Value}
    (a0 : PySem.W.nsIn K mainGlobals "bezout" = some (some (.ref f0))) (l0 : K.lookup f0 = some ⟨oc0, od0, .func (PySem.W.fnOf "bezout" "bezout" (defArgs s_bezout) (defBody s_bezout) (defScope s_bezout) .none kV0 dc0 pm0 an0 cd0 ct0), sl0⟩) (c0 : PySem.W.codeIn K cd0 "bezout" = true) (k0 : PySem.W.keepIn K (.ref f0) = true)
    (a1 : PySem.W.nsIn K mainGlobals "inverse" = some (some (.ref f1))) (l1 : K.lookup f1 = some ⟨oc1, od1, .func (PySem.W.fnOf "inverse" "inverse" (defArgs s_inverse) (defBody s_inverse) (defScope s_inverse) .none kV1 dc1 pm1 an1 cd1 ct1), sl1⟩) (c1 : PySem.W.codeIn K cd1 "inverse" = true) (k1 : PySem.W.keepIn K (.ref f1) = true)
    (a2 : PySem.W.nsIn K mainGlobals "times_in" = some (some (.ref f2))) (l2 : K.lookup f2 = some ⟨oc2, od2, .func (PySem.W.fnOf "times_in" "times_in" (defArgs s_times_in) (defBody s_times_in) (defScope s_times_in) .none kV2 dc2 pm2 an2 cd2 ct2), sl2⟩) (c2 : PySem.W.codeIn K cd2 "times_in" = true) (k2 : PySem.W.keepIn K (.ref f2) = true)
    (a3 : PySem.W.nsIn K mainGlobals "raised" = some (some (.ref f3))) (l3 : K.lookup f3 = some ⟨oc3, od3, .func (PySem.W.fnOf "raised" "raised" (defArgs s_raised) (defBody s_raised) (defScope s_raised) .none kV3 dc3 pm3 an3 cd3 ct3), sl3⟩) (c3 : PySem.W.codeIn K cd3 "raised" = true) (k3 : PySem.W.keepIn K (.ref f3) = true)
    (a4 : PySem.W.nsIn K mainGlobals "raised_by" = some (some (.ref f4))) (l4 : K.lookup f4 = some ⟨oc4, od4, .func (PySem.W.fnOf "raised_by" "raised_by" (defArgs s_raised_by) (defBody s_raised_by) (defScope s_raised_by) .none kV4 dc4 pm4 an4 cd4 ct4), sl4⟩) (c4 : PySem.W.codeIn K cd4 "raised_by" = true) (k4 : PySem.W.keepIn K (.ref f4) = true)
    (a5 : PySem.W.nsIn K mainGlobals "is_integer" = some (some (.ref f5))) (l5 : K.lookup f5 = some ⟨oc5, od5, .func (PySem.W.fnOf "is_integer" "is_integer" (defArgs s_is_integer) (defBody s_is_integer) (defScope s_is_integer) .none kV5 dc5 pm5 an5 cd5 ct5), sl5⟩) (c5 : PySem.W.codeIn K cd5 "is_integer" = true) (k5 : PySem.W.keepIn K (.ref f5) = true)
    (a6 : PySem.W.nsIn K mainGlobals "is_within" = some (some (.ref f6))) (l6 : K.lookup f6 = some ⟨oc6, od6, .func (PySem.W.fnOf "is_within" "is_within" (defArgs s_is_within) (defBody s_is_within) (defScope s_is_within) .none kV6 dc6 pm6 an6 cd6 ct6), sl6⟩) (c6 : PySem.W.codeIn K cd6 "is_within" = true) (k6 : PySem.W.keepIn K (.ref f6) = true)
    (a7 : PySem.W.nsIn K mainGlobals "check_within" = some (some (.ref f7))) (l7 : K.lookup f7 = some ⟨oc7, od7, .func (PySem.W.fnOf "check_within" "check_within" (defArgs s_check_within) (defBody s_check_within) (defScope s_check_within) .none kV7 dc7 pm7 an7 cd7 ct7), sl7⟩) (c7 : PySem.W.codeIn K cd7 "check_within" = true) (k7 : PySem.W.keepIn K (.ref f7) = true)
    (a8 : PySem.W.nsIn K mainGlobals "check_number" = some (some (.ref f8))) (l8 : K.lookup f8 = some ⟨oc8, od8, .func (PySem.W.fnOf "check_number" "check_number" (defArgs s_check_number) (defBody s_check_number) (defScope s_check_number) .none kV8 dc8 pm8 an8 cd8 ct8), sl8⟩) (c8 : PySem.W.codeIn K cd8 "check_number" = true) (k8 : PySem.W.keepIn K (.ref f8) = true)
    (a9 : PySem.W.nsIn K mainGlobals "check_base" = some (some (.ref f9))) (l9 : K.lookup f9 = some ⟨oc9, od9, .func (PySem.W.fnOf "check_base" "check_base" (defArgs s_check_base) (defBody s_check_base) (defScope s_check_base) .none kV9 dc9 pm9 an9 cd9 ct9), sl9⟩) (c9 : PySem.W.codeIn K cd9 "check_base" = true) (k9 : PySem.W.keepIn K (.ref f9) = true)
    (a10 : PySem.W.nsIn K mainGlobals "check_walked" = some (some (.ref f10))) (l10 : K.lookup f10 = some ⟨oc10, od10, .func (PySem.W.fnOf "check_walked" "check_walked" (defArgs s_check_walked) (defBody s_check_walked) (defScope s_check_walked) .none kV10 dc10 pm10 an10 cd10 ct10), sl10⟩) (c10 : PySem.W.codeIn K cd10 "check_walked" = true) (k10 : PySem.W.keepIn K (.ref f10) = true)
    (a11 : PySem.W.nsIn K mainGlobals "is_fact" = some (some (.ref f11))) (l11 : K.lookup f11 = some ⟨oc11, od11, .func (PySem.W.fnOf "is_fact" "is_fact" (defArgs s_is_fact) (defBody s_is_fact) (defScope s_is_fact) .none kV11 dc11 pm11 an11 cd11 ct11), sl11⟩) (c11 : PySem.W.codeIn K cd11 "is_fact" = true) (k11 : PySem.W.keepIn K (.ref f11) = true)
    (a12 : PySem.W.nsIn K mainGlobals "check_facts" = some (some (.ref f12))) (l12 : K.lookup f12 = some ⟨oc12, od12, .func (PySem.W.fnOf "check_facts" "check_facts" (defArgs s_check_facts) (defBody s_check_facts) (defScope s_check_facts) .none kV12 dc12 pm12 an12 cd12 ct12), sl12⟩) (c12 : PySem.W.codeIn K cd12 "check_facts" = true) (k12 : PySem.W.keepIn K (.ref f12) = true)
    (a13 : PySem.W.nsIn K mainGlobals "_check_each_fact" = some (some (.ref f13))) (l13 : K.lookup f13 = some ⟨oc13, od13, .func (PySem.W.fnOf "_check_each_fact" "_check_each_fact" (defArgs s__check_each_fact) (defBody s__check_each_fact) (defScope s__check_each_fact) .none kV13 dc13 pm13 an13 cd13 ct13), sl13⟩) (c13 : PySem.W.codeIn K cd13 "_check_each_fact" = true) (k13 : PySem.W.keepIn K (.ref f13) = true)
    (a14 : PySem.W.nsIn K mainGlobals "_first_wrong_fact" = some (some (.ref f14))) (l14 : K.lookup f14 = some ⟨oc14, od14, .func (PySem.W.fnOf "_first_wrong_fact" "_first_wrong_fact" (defArgs s__first_wrong_fact) (defBody s__first_wrong_fact) (defScope s__first_wrong_fact) .none kV14 dc14 pm14 an14 cd14 ct14), sl14⟩) (c14 : PySem.W.codeIn K cd14 "_first_wrong_fact" = true) (k14 : PySem.W.keepIn K (.ref f14) = true)
    (a15 : PySem.W.nsIn K mainGlobals "apart" = some (some (.ref f15))) (l15 : K.lookup f15 = some ⟨oc15, od15, .func (PySem.W.fnOf "apart" "apart" (defArgs s_apart) (defBody s_apart) (defScope s_apart) .none kV15 dc15 pm15 an15 cd15 ct15), sl15⟩) (c15 : PySem.W.codeIn K cd15 "apart" = true) (k15 : PySem.W.keepIn K (.ref f15) = true)
    (a16 : PySem.W.nsIn K mainGlobals "cycles" = some (some (.ref f16))) (l16 : K.lookup f16 = some ⟨oc16, od16, .func (PySem.W.fnOf "cycles" "cycles" (defArgs s_cycles) (defBody s_cycles) (defScope s_cycles) .none kV16 dc16 pm16 an16 cd16 ct16), sl16⟩) (c16 : PySem.W.codeIn K cd16 "cycles" = true) (k16 : PySem.W.keepIn K (.ref f16) = true)
    (a17 : PySem.W.nsIn K mainGlobals "common_length" = some (some (.ref f17))) (l17 : K.lookup f17 = some ⟨oc17, od17, .func (PySem.W.fnOf "common_length" "common_length" (defArgs s_common_length) (defBody s_common_length) (defScope s_common_length) .none kV17 dc17 pm17 an17 cd17 ct17), sl17⟩) (c17 : PySem.W.codeIn K cd17 "common_length" = true) (k17 : PySem.W.keepIn K (.ref f17) = true)
    (a18 : PySem.W.nsIn K mainGlobals "power_rest" = some (some (.ref f18))) (l18 : K.lookup f18 = some ⟨oc18, od18, .func (PySem.W.fnOf "power_rest" "power_rest" (defArgs s_power_rest) (defBody s_power_rest) (defScope s_power_rest) .none kV18 dc18 pm18 an18 cd18 ct18), sl18⟩) (c18 : PySem.W.codeIn K cd18 "power_rest" = true) (k18 : PySem.W.keepIn K (.ref f18) = true)
    (a19 : PySem.W.nsIn K mainGlobals "is_open" = some (some (.ref f19))) (l19 : K.lookup f19 = some ⟨oc19, od19, .func (PySem.W.fnOf "is_open" "is_open" (defArgs s_is_open) (defBody s_is_open) (defScope s_is_open) .none kV19 dc19 pm19 an19 cd19 ct19), sl19⟩) (c19 : PySem.W.codeIn K cd19 "is_open" = true) (k19 : PySem.W.keepIn K (.ref f19) = true)
    (a20 : PySem.W.nsIn K mainGlobals "parts" = some (some (.ref f20))) (l20 : K.lookup f20 = some ⟨oc20, od20, .func (PySem.W.fnOf "parts" "parts" (defArgs s_parts) (defBody s_parts) (defScope s_parts) .none kV20 dc20 pm20 an20 cd20 ct20), sl20⟩) (c20 : PySem.W.codeIn K cd20 "parts" = true) (k20 : PySem.W.keepIn K (.ref f20) = true)
    (a21 : PySem.W.nsIn K mainGlobals "count_roots" = some (some (.ref f21))) (l21 : K.lookup f21 = some ⟨oc21, od21, .func (PySem.W.fnOf "count_roots" "count_roots" (defArgs s_count_roots) (defBody s_count_roots) (defScope s_count_roots) .none kV21 dc21 pm21 an21 cd21 ct21), sl21⟩) (c21 : PySem.W.codeIn K cd21 "count_roots" = true) (k21 : PySem.W.keepIn K (.ref f21) = true)
    (a22 : PySem.W.nsIn K mainGlobals "roots" = some (some (.ref f22))) (l22 : K.lookup f22 = some ⟨oc22, od22, .func (PySem.W.fnOf "roots" "roots" (defArgs s_roots) (defBody s_roots) (defScope s_roots) .none kV22 dc22 pm22 an22 cd22 ct22), sl22⟩) (c22 : PySem.W.codeIn K cd22 "roots" = true) (k22 : PySem.W.keepIn K (.ref f22) = true)
    (a23 : PySem.W.nsIn K mainGlobals "_check_power" = some (some (.ref f23))) (l23 : K.lookup f23 = some ⟨oc23, od23, .func (PySem.W.fnOf "_check_power" "_check_power" (defArgs s__check_power) (defBody s__check_power) (defScope s__check_power) .none kV23 dc23 pm23 an23 cd23 ct23), sl23⟩) (c23 : PySem.W.codeIn K cd23 "_check_power" = true) (k23 : PySem.W.keepIn K (.ref f23) = true)
    (a24 : PySem.W.nsIn K mainGlobals "_check_open" = some (some (.ref f24))) (l24 : K.lookup f24 = some ⟨oc24, od24, .func (PySem.W.fnOf "_check_open" "_check_open" (defArgs s__check_open) (defBody s__check_open) (defScope s__check_open) .none kV24 dc24 pm24 an24 cd24 ct24), sl24⟩) (c24 : PySem.W.codeIn K cd24 "_check_open" = true) (k24 : PySem.W.keepIn K (.ref f24) = true)
    (a25 : PySem.W.nsIn K mainGlobals "_count_roots_by_power" = some (some (.ref f25))) (l25 : K.lookup f25 = some ⟨oc25, od25, .func (PySem.W.fnOf "_count_roots_by_power" "_count_roots_by_power" (defArgs s__count_roots_by_power) (defBody s__count_roots_by_power) (defScope s__count_roots_by_power) .none kV25 dc25 pm25 an25 cd25 ct25), sl25⟩) (c25 : PySem.W.codeIn K cd25 "_count_roots_by_power" = true) (k25 : PySem.W.keepIn K (.ref f25) = true)
    (a26 : PySem.W.nsIn K mainGlobals "_count_in_cycle" = some (some (.ref f26))) (l26 : K.lookup f26 = some ⟨oc26, od26, .func (PySem.W.fnOf "_count_in_cycle" "_count_in_cycle" (defArgs s__count_in_cycle) (defBody s__count_in_cycle) (defScope s__count_in_cycle) .none kV26 dc26 pm26 an26 cd26 ct26), sl26⟩) (c26 : PySem.W.codeIn K cd26 "_count_in_cycle" = true) (k26 : PySem.W.keepIn K (.ref f26) = true)
    (a27 : PySem.W.nsIn K mainGlobals "are_quarrelling" = some (some (.ref f27))) (l27 : K.lookup f27 = some ⟨oc27, od27, .func (PySem.W.fnOf "are_quarrelling" "are_quarrelling" (defArgs s_are_quarrelling) (defBody s_are_quarrelling) (defScope s_are_quarrelling) .none kV27 dc27 pm27 an27 cd27 ct27), sl27⟩) (c27 : PySem.W.codeIn K cd27 "are_quarrelling" = true) (k27 : PySem.W.keepIn K (.ref f27) = true)
    (a28 : PySem.W.nsIn K mainGlobals "along" = some (some (.ref f28))) (l28 : K.lookup f28 = some ⟨oc28, od28, .func (PySem.W.fnOf "along" "along" (defArgs s_along) (defBody s_along) (defScope s_along) .none kV28 dc28 pm28 an28 cd28 ct28), sl28⟩) (c28 : PySem.W.codeIn K cd28 "along" = true) (k28 : PySem.W.keepIn K (.ref f28) = true)
    (a29 : PySem.W.nsIn K mainGlobals "merged" = some (some (.ref f29))) (l29 : K.lookup f29 = some ⟨oc29, od29, .func (PySem.W.fnOf "merged" "merged" (defArgs s_merged) (defBody s_merged) (defScope s_merged) .none kV29 dc29 pm29 an29 cd29 ct29), sl29⟩) (c29 : PySem.W.codeIn K cd29 "merged" = true) (k29 : PySem.W.keepIn K (.ref f29) = true)
    (a30 : PySem.W.nsIn K mainGlobals "all_merged" = some (some (.ref f30))) (l30 : K.lookup f30 = some ⟨oc30, od30, .func (PySem.W.fnOf "all_merged" "all_merged" (defArgs s_all_merged) (defBody s_all_merged) (defScope s_all_merged) .none kV30 dc30 pm30 an30 cd30 ct30), sl30⟩) (c30 : PySem.W.codeIn K cd30 "all_merged" = true) (k30 : PySem.W.keepIn K (.ref f30) = true)
    (a31 : PySem.W.nsIn K mainGlobals "quarrelling_pairs" = some (some (.ref f31))) (l31 : K.lookup f31 = some ⟨oc31, od31, .func (PySem.W.fnOf "quarrelling_pairs" "quarrelling_pairs" (defArgs s_quarrelling_pairs) (defBody s_quarrelling_pairs) (defScope s_quarrelling_pairs) .none kV31 dc31 pm31 an31 cd31 ct31), sl31⟩) (c31 : PySem.W.codeIn K cd31 "quarrelling_pairs" = true) (k31 : PySem.W.keepIn K (.ref f31) = true)
    (a32 : PySem.W.nsIn K mainGlobals "joined" = some (some (.ref f32))) (l32 : K.lookup f32 = some ⟨oc32, od32, .func (PySem.W.fnOf "joined" "joined" (defArgs s_joined) (defBody s_joined) (defScope s_joined) .none kV32 dc32 pm32 an32 cd32 ct32), sl32⟩) (c32 : PySem.W.codeIn K cd32 "joined" = true) (k32 : PySem.W.keepIn K (.ref f32) = true)
    (a33 : PySem.W.nsIn K mainGlobals "_check_no_quarrel" = some (some (.ref f33))) (l33 : K.lookup f33 = some ⟨oc33, od33, .func (PySem.W.fnOf "_check_no_quarrel" "_check_no_quarrel" (defArgs s__check_no_quarrel) (defBody s__check_no_quarrel) (defScope s__check_no_quarrel) .none kV33 dc33 pm33 an33 cd33 ct33), sl33⟩) (c33 : PySem.W.codeIn K cd33 "_check_no_quarrel" = true) (k33 : PySem.W.keepIn K (.ref f33) = true)
    (a34 : PySem.W.nsIn K mainGlobals "_made_by" = some (some (.ref f34))) (l34 : K.lookup f34 = some ⟨oc34, od34, .func (PySem.W.fnOf "_made_by" "_made_by" (defArgs s__made_by) (defBody s__made_by) (defScope s__made_by) .none kV34 dc34 pm34 an34 cd34 ct34), sl34⟩) (c34 : PySem.W.codeIn K cd34 "_made_by" = true) (k34 : PySem.W.keepIn K (.ref f34) = true)
    (a35 : PySem.W.nsIn K mainGlobals "_law_mug" = some (some (.ref f35))) (l35 : K.lookup f35 = some ⟨oc35, od35, .func (PySem.W.fnOf "_law_mug" "_law_mug" (defArgs s__law_mug) (defBody s__law_mug) (defScope s__law_mug) .none kV35 dc35 pm35 an35 cd35 ct35), sl35⟩) (c35 : PySem.W.codeIn K cd35 "_law_mug" = true) (k35 : PySem.W.keepIn K (.ref f35) = true)
    (a36 : PySem.W.nsIn K mainGlobals "_law_sip" = some (some (.ref f36))) (l36 : K.lookup f36 = some ⟨oc36, od36, .func (PySem.W.fnOf "_law_sip" "_law_sip" (defArgs s__law_sip) (defBody s__law_sip) (defScope s__law_sip) .none kV36 dc36 pm36 an36 cd36 ct36), sl36⟩) (c36 : PySem.W.codeIn K cd36 "_law_sip" = true) (k36 : PySem.W.keepIn K (.ref f36) = true)
    (a37 : PySem.W.nsIn K mainGlobals "_law_of" = some (some (.ref f37))) (l37 : K.lookup f37 = some ⟨oc37, od37, .func (PySem.W.fnOf "_law_of" "_law_of" (defArgs s__law_of) (defBody s__law_of) (defScope s__law_of) .none kV37 dc37 pm37 an37 cd37 ct37), sl37⟩) (c37 : PySem.W.codeIn K cd37 "_law_of" = true) (k37 : PySem.W.keepIn K (.ref f37) = true)
    (a38 : PySem.W.nsIn K mainGlobals "_law_common" = some (some (.ref f38))) (l38 : K.lookup f38 = some ⟨oc38, od38, .func (PySem.W.fnOf "_law_common" "_law_common" (defArgs s__law_common) (defBody s__law_common) (defScope s__law_common) .none kV38 dc38 pm38 an38 cd38 ct38), sl38⟩) (c38 : PySem.W.codeIn K cd38 "_law_common" = true) (k38 : PySem.W.keepIn K (.ref f38) = true)
    (a39 : PySem.W.nsIn K mainGlobals "_law_raised" = some (some (.ref f39))) (l39 : K.lookup f39 = some ⟨oc39, od39, .func (PySem.W.fnOf "_law_raised" "_law_raised" (defArgs s__law_raised) (defBody s__law_raised) (defScope s__law_raised) .none kV39 dc39 pm39 an39 cd39 ct39), sl39⟩) (c39 : PySem.W.codeIn K cd39 "_law_raised" = true) (k39 : PySem.W.keepIn K (.ref f39) = true)
    (a40 : PySem.W.nsIn K mainGlobals "_law_great" = some (some (.ref f40))) (l40 : K.lookup f40 = some ⟨oc40, od40, .func (PySem.W.fnOf "_law_great" "_law_great" (defArgs s__law_great) (defBody s__law_great) (defScope s__law_great) .none kV40 dc40 pm40 an40 cd40 ct40), sl40⟩) (c40 : PySem.W.codeIn K cd40 "_law_great" = true) (k40 : PySem.W.keepIn K (.ref f40) = true)
    (a41 : PySem.W.nsIn K mainGlobals "_law_made_base" = some (some (.ref f41))) (l41 : K.lookup f41 = some ⟨oc41, od41, .func (PySem.W.fnOf "_law_made_base" "_law_made_base" (defArgs s__law_made_base) (defBody s__law_made_base) (defScope s__law_made_base) .none kV41 dc41 pm41 an41 cd41 ct41), sl41⟩) (c41 : PySem.W.codeIn K cd41 "_law_made_base" = true) (k41 : PySem.W.keepIn K (.ref f41) = true)
    (a42 : PySem.W.nsIn K mainGlobals "_law_counted" = some (some (.ref f42))) (l42 : K.lookup f42 = some ⟨oc42, od42, .func (PySem.W.fnOf "_law_counted" "_law_counted" (defArgs s__law_counted) (defBody s__law_counted) (defScope s__law_counted) .none kV42 dc42 pm42 an42 cd42 ct42), sl42⟩) (c42 : PySem.W.codeIn K cd42 "_law_counted" = true) (k42 : PySem.W.keepIn K (.ref f42) = true)
    (a43 : PySem.W.nsIn K mainGlobals "_law_one_right" = some (some (.ref f43))) (l43 : K.lookup f43 = some ⟨oc43, od43, .func (PySem.W.fnOf "_law_one_right" "_law_one_right" (defArgs s__law_one_right) (defBody s__law_one_right) (defScope s__law_one_right) .none kV43 dc43 pm43 an43 cd43 ct43), sl43⟩) (c43 : PySem.W.codeIn K cd43 "_law_one_right" = true) (k43 : PySem.W.keepIn K (.ref f43) = true)
    (a44 : PySem.W.nsIn K mainGlobals "_law_two_right" = some (some (.ref f44))) (l44 : K.lookup f44 = some ⟨oc44, od44, .func (PySem.W.fnOf "_law_two_right" "_law_two_right" (defArgs s__law_two_right) (defBody s__law_two_right) (defScope s__law_two_right) .none kV44 dc44 pm44 an44 cd44 ct44), sl44⟩) (c44 : PySem.W.codeIn K cd44 "_law_two_right" = true) (k44 : PySem.W.keepIn K (.ref f44) = true)
    (a45 : PySem.W.nsIn K mainGlobals "_law_great_right" = some (some (.ref f45))) (l45 : K.lookup f45 = some ⟨oc45, od45, .func (PySem.W.fnOf "_law_great_right" "_law_great_right" (defArgs s__law_great_right) (defBody s__law_great_right) (defScope s__law_great_right) .none kV45 dc45 pm45 an45 cd45 ct45), sl45⟩) (c45 : PySem.W.codeIn K cd45 "_law_great_right" = true) (k45 : PySem.W.keepIn K (.ref f45) = true)
    (a46 : PySem.W.nsIn K mainGlobals "_law_right" = some (some (.ref f46))) (l46 : K.lookup f46 = some ⟨oc46, od46, .func (PySem.W.fnOf "_law_right" "_law_right" (defArgs s__law_right) (defBody s__law_right) (defScope s__law_right) .none kV46 dc46 pm46 an46 cd46 ct46), sl46⟩) (c46 : PySem.W.codeIn K cd46 "_law_right" = true) (k46 : PySem.W.keepIn K (.ref f46) = true)
    (a47 : PySem.W.nsIn K mainGlobals "law" = some (some (.ref f47))) (l47 : K.lookup f47 = some ⟨oc47, od47, .func (PySem.W.fnOf "law" "law" (defArgs s_law) (defBody s_law) (defScope s_law) .none kV47 dc47 pm47 an47 cd47 ct47), sl47⟩) (c47 : PySem.W.codeIn K cd47 "law" = true) (k47 : PySem.W.keepIn K (.ref f47) = true)
    (m_gcd : PySem.W.nsIn K mainGlobals "gcd" = some (some (.builtin "math.gcd")))
    (m_lcm : PySem.W.nsIn K mainGlobals "lcm" = some (some (.builtin "math.lcm")))
    (q_MOST_NUMBER : PySem.W.nsIn K mainGlobals "MOST_NUMBER" = some (some (.int (10000000000000000000000000000000000000000) t_MOST_NUMBER)))
    (q_MOST_FACT : PySem.W.nsIn K mainGlobals "MOST_FACT" = some (some (.int (1000000000000000000000000000000) t_MOST_FACT)))
    (q_MOST_BASE : PySem.W.nsIn K mainGlobals "MOST_BASE" = some (some (.int (1000000000000) t_MOST_BASE)))
    (q_MOST_FACTS : PySem.W.nsIn K mainGlobals "MOST_FACTS" = some (some (.int (40) t_MOST_FACTS)))
    (q_MOST_WALKED : PySem.W.nsIn K mainGlobals "MOST_WALKED" = some (some (.int (5000) t_MOST_WALKED)))
    (q_LONGEST_TAIL : PySem.W.nsIn K mainGlobals "LONGEST_TAIL" = some (some (.int (40) t_LONGEST_TAIL)))
    (b_abs : PySem.W.nsIn K mainGlobals "abs" = some none)
    (b_all : PySem.W.nsIn K mainGlobals "all" = some none)
    (b_bool : PySem.W.nsIn K mainGlobals "bool" = some none)
    (b_divmod : PySem.W.nsIn K mainGlobals "divmod" = some none)
    (b_enumerate : PySem.W.nsIn K mainGlobals "enumerate" = some none)
    (b_int : PySem.W.nsIn K mainGlobals "int" = some none)
    (b_isinstance : PySem.W.nsIn K mainGlobals "isinstance" = some none)
    (b_len : PySem.W.nsIn K mainGlobals "len" = some none)
    (b_min : PySem.W.nsIn K mainGlobals "min" = some none)
    (b_range : PySem.W.nsIn K mainGlobals "range" = some none)
    (b_repr : PySem.W.nsIn K mainGlobals "repr" = some none)
    (b_sorted : PySem.W.nsIn K mainGlobals "sorted" = some none)
    (b_str : PySem.W.nsIn K mainGlobals "str" = some none)
    (b_tuple : PySem.W.nsIn K mainGlobals "tuple" = some none)
    (g_NotOpen : PySem.W.nsIn K mainGlobals "NotOpen" = some (some (.ref x_NotOpen)))
    (l_NotOpen : K.lookup x_NotOpen = some (excClassObj nm_NotOpen qn_NotOpen x_NotOpen N_NotOpen bs_NotOpen bm_NotOpen true sn_NotOpen sub_NotOpen ab_NotOpen col_NotOpen dd_NotOpen k0_NotOpen k1_NotOpen k2_NotOpen k3_NotOpen k5_NotOpen "ArithmeticError.__new__"))
    (t_NotOpen : PySem.W.excTail [.type "ArithmeticError", .type "Exception", .type "BaseException", .type "object"] bm_NotOpen = true)
    (s_NotOpen : PySem.W.findIn K (.ref x_NotOpen) "__setattr__" = some (some (.builtin "object.__setattr__")))
    (ga_NotOpen : PySem.W.findIn K (.ref x_NotOpen) "__getattribute__" = some (some (.builtin "BaseException.__getattribute__")))
    (gg_NotOpen : PySem.W.findIn K (.ref x_NotOpen) "__getattr__" = some none)
    (b_NotOpen : PySem.W.subIn K (.ref x_NotOpen) (.type "BaseException") = some true)
    (h_NotOpen : PySem.W.hasDictIn K x_NotOpen = true)
    (ty_NotOpen : PySem.W.typeIn K (.ref x_NotOpen) = some (.type "type"))
    (kp_NotOpen : PySem.W.keepIn K (.ref x_NotOpen) = true)
    (n_NotOpen_given : PySem.W.findIn K (.ref x_NotOpen) "given" = some none)
    (i_NotOpen : PySem.W.findIn K (.ref x_NotOpen) "__init__" = some (some (.ref fI_NotOpen)))
    (ti_NotOpen : PySem.W.typeIn K (.ref fI_NotOpen) = some (.type "function"))
    (li_NotOpen : K.lookup fI_NotOpen = some ⟨ocI_NotOpen, odI_NotOpen, .func (PySem.W.fnOf "__init__" "NotOpen.__init__" (defArgs si_NotOpen) (defBody si_NotOpen) (defScope si_NotOpen) .none kVI_NotOpen dcI_NotOpen pmI_NotOpen anI_NotOpen cdI_NotOpen ctI_NotOpen), slI_NotOpen⟩)
    (ci_NotOpen : PySem.W.codeIn K cdI_NotOpen "NotOpen.__init__" = true)
    (ki_NotOpen : PySem.W.keepIn K (.ref fI_NotOpen) = true)
    (e_NotOpen_NotOpen : PySem.W.subIn K (.ref x_NotOpen) (.ref x_NotOpen) = some true) : Top K mg where
  g_NotOpen := by rw [cA_eq (PySem.W.mg_of X G g_NotOpen)]; exact PySem.W.mg_of X G g_NotOpen
  ec_NotOpen := by rw [cA_eq (PySem.W.mg_of X G g_NotOpen)]; exact ⟨⟨_, _, _, _, _, _, _, _, _, _, _, _, _, _, _, l_NotOpen, t_NotOpen⟩, s_NotOpen, ⟨ga_NotOpen, gg_NotOpen, b_NotOpen, h_NotOpen⟩, ty_NotOpen, kp_NotOpen⟩
  n_NotOpen_given := by rw [cA_eq (PySem.W.mg_of X G g_NotOpen)]; exact n_NotOpen_given
  fi_NotOpen := by rw [cA_eq (PySem.W.mg_of X G g_NotOpen)]; exact ⟨_, _, i_NotOpen, ti_NotOpen, fun_mk (st := si_NotOpen) li_NotOpen ci_NotOpen ki_NotOpen⟩
  e_NotOpen_NotOpen := by rw [cA_eq (PySem.W.mg_of X G g_NotOpen)]; exact exm_cls b_NotOpen h_NotOpen ty_NotOpen e_NotOpen_NotOpen
  d_bezout := ⟨_, _, fun_mk (st := s_bezout) l0 c0 k0, PySem.W.mg_of X G a0⟩
  d_inverse := ⟨_, _, fun_mk (st := s_inverse) l1 c1 k1, PySem.W.mg_of X G a1⟩
  d_times_in := ⟨_, _, fun_mk (st := s_times_in) l2 c2 k2, PySem.W.mg_of X G a2⟩
  d_raised := ⟨_, _, fun_mk (st := s_raised) l3 c3 k3, PySem.W.mg_of X G a3⟩
  d_raised_by := ⟨_, _, fun_mk (st := s_raised_by) l4 c4 k4, PySem.W.mg_of X G a4⟩
  d_is_integer := ⟨_, _, fun_mk (st := s_is_integer) l5 c5 k5, PySem.W.mg_of X G a5⟩
  d_is_within := ⟨_, _, fun_mk (st := s_is_within) l6 c6 k6, PySem.W.mg_of X G a6⟩
  d_check_within := ⟨_, _, fun_mk (st := s_check_within) l7 c7 k7, PySem.W.mg_of X G a7⟩
  d_check_number := ⟨_, _, fun_mk (st := s_check_number) l8 c8 k8, PySem.W.mg_of X G a8⟩
  d_check_base := ⟨_, _, fun_mk (st := s_check_base) l9 c9 k9, PySem.W.mg_of X G a9⟩
  d_check_walked := ⟨_, _, fun_mk (st := s_check_walked) l10 c10 k10, PySem.W.mg_of X G a10⟩
  d_is_fact := ⟨_, _, fun_mk (st := s_is_fact) l11 c11 k11, PySem.W.mg_of X G a11⟩
  d_check_facts := ⟨_, _, fun_mk (st := s_check_facts) l12 c12 k12, PySem.W.mg_of X G a12⟩
  d__check_each_fact := ⟨_, _, fun_mk (st := s__check_each_fact) l13 c13 k13, PySem.W.mg_of X G a13⟩
  d__first_wrong_fact := ⟨_, _, fun_mk (st := s__first_wrong_fact) l14 c14 k14, PySem.W.mg_of X G a14⟩
  d_apart := ⟨_, _, fun_mk (st := s_apart) l15 c15 k15, PySem.W.mg_of X G a15⟩
  d_cycles := ⟨_, _, fun_mk (st := s_cycles) l16 c16 k16, PySem.W.mg_of X G a16⟩
  d_common_length := ⟨_, _, fun_mk (st := s_common_length) l17 c17 k17, PySem.W.mg_of X G a17⟩
  d_power_rest := ⟨_, _, fun_mk (st := s_power_rest) l18 c18 k18, PySem.W.mg_of X G a18⟩
  d_is_open := ⟨_, _, fun_mk (st := s_is_open) l19 c19 k19, PySem.W.mg_of X G a19⟩
  d_parts := ⟨_, _, fun_mk (st := s_parts) l20 c20 k20, PySem.W.mg_of X G a20⟩
  d_count_roots := ⟨_, _, fun_mk (st := s_count_roots) l21 c21 k21, PySem.W.mg_of X G a21⟩
  d_roots := ⟨_, _, fun_mk (st := s_roots) l22 c22 k22, PySem.W.mg_of X G a22⟩
  d__check_power := ⟨_, _, fun_mk (st := s__check_power) l23 c23 k23, PySem.W.mg_of X G a23⟩
  d__check_open := ⟨_, _, fun_mk (st := s__check_open) l24 c24 k24, PySem.W.mg_of X G a24⟩
  d__count_roots_by_power := ⟨_, _, fun_mk (st := s__count_roots_by_power) l25 c25 k25, PySem.W.mg_of X G a25⟩
  d__count_in_cycle := ⟨_, _, fun_mk (st := s__count_in_cycle) l26 c26 k26, PySem.W.mg_of X G a26⟩
  d_are_quarrelling := ⟨_, _, fun_mk (st := s_are_quarrelling) l27 c27 k27, PySem.W.mg_of X G a27⟩
  d_along := ⟨_, _, fun_mk (st := s_along) l28 c28 k28, PySem.W.mg_of X G a28⟩
  d_merged := ⟨_, _, fun_mk (st := s_merged) l29 c29 k29, PySem.W.mg_of X G a29⟩
  d_all_merged := ⟨_, _, fun_mk (st := s_all_merged) l30 c30 k30, PySem.W.mg_of X G a30⟩
  d_quarrelling_pairs := ⟨_, _, fun_mk (st := s_quarrelling_pairs) l31 c31 k31, PySem.W.mg_of X G a31⟩
  d_joined := ⟨_, _, fun_mk (st := s_joined) l32 c32 k32, PySem.W.mg_of X G a32⟩
  d__check_no_quarrel := ⟨_, _, fun_mk (st := s__check_no_quarrel) l33 c33 k33, PySem.W.mg_of X G a33⟩
  d__made_by := ⟨_, _, fun_mk (st := s__made_by) l34 c34 k34, PySem.W.mg_of X G a34⟩
  d__law_mug := ⟨_, _, fun_mk (st := s__law_mug) l35 c35 k35, PySem.W.mg_of X G a35⟩
  d__law_sip := ⟨_, _, fun_mk (st := s__law_sip) l36 c36 k36, PySem.W.mg_of X G a36⟩
  d__law_of := ⟨_, _, fun_mk (st := s__law_of) l37 c37 k37, PySem.W.mg_of X G a37⟩
  d__law_common := ⟨_, _, fun_mk (st := s__law_common) l38 c38 k38, PySem.W.mg_of X G a38⟩
  d__law_raised := ⟨_, _, fun_mk (st := s__law_raised) l39 c39 k39, PySem.W.mg_of X G a39⟩
  d__law_great := ⟨_, _, fun_mk (st := s__law_great) l40 c40 k40, PySem.W.mg_of X G a40⟩
  d__law_made_base := ⟨_, _, fun_mk (st := s__law_made_base) l41 c41 k41, PySem.W.mg_of X G a41⟩
  d__law_counted := ⟨_, _, fun_mk (st := s__law_counted) l42 c42 k42, PySem.W.mg_of X G a42⟩
  d__law_one_right := ⟨_, _, fun_mk (st := s__law_one_right) l43 c43 k43, PySem.W.mg_of X G a43⟩
  d__law_two_right := ⟨_, _, fun_mk (st := s__law_two_right) l44 c44 k44, PySem.W.mg_of X G a44⟩
  d__law_great_right := ⟨_, _, fun_mk (st := s__law_great_right) l45 c45 k45, PySem.W.mg_of X G a45⟩
  d__law_right := ⟨_, _, fun_mk (st := s__law_right) l46 c46 k46, PySem.W.mg_of X G a46⟩
  d_law := ⟨_, _, fun_mk (st := s_law) l47 c47 k47, PySem.W.mg_of X G a47⟩
  m_gcd := PySem.W.mg_of X G m_gcd
  m_lcm := PySem.W.mg_of X G m_lcm
  c_MOST_NUMBER := ⟨_, PySem.W.mg_of X G q_MOST_NUMBER⟩
  c_MOST_FACT := ⟨_, PySem.W.mg_of X G q_MOST_FACT⟩
  c_MOST_BASE := ⟨_, PySem.W.mg_of X G q_MOST_BASE⟩
  c_MOST_FACTS := ⟨_, PySem.W.mg_of X G q_MOST_FACTS⟩
  c_MOST_WALKED := ⟨_, PySem.W.mg_of X G q_MOST_WALKED⟩
  c_LONGEST_TAIL := ⟨_, PySem.W.mg_of X G q_LONGEST_TAIL⟩
  b_abs := PySem.W.mg_none_of X G b_abs
  b_all := PySem.W.mg_none_of X G b_all
  b_bool := PySem.W.mg_none_of X G b_bool
  b_divmod := PySem.W.mg_none_of X G b_divmod
  b_enumerate := PySem.W.mg_none_of X G b_enumerate
  b_int := PySem.W.mg_none_of X G b_int
  b_isinstance := PySem.W.mg_none_of X G b_isinstance
  b_len := PySem.W.mg_none_of X G b_len
  b_min := PySem.W.mg_none_of X G b_min
  b_range := PySem.W.mg_none_of X G b_range
  b_repr := PySem.W.mg_none_of X G b_repr
  b_sorted := PySem.W.mg_none_of X G b_sorted
  b_str := PySem.W.mg_none_of X G b_str
  b_tuple := PySem.W.mg_none_of X G b_tuple
local macro_rules | `(tactic| walk_at "vat") => `(tactic| first
  | assumption
  | exact upd_same
  | (refine at_new (by assumption) ?_; walk_at "vat")
  | (refine at_same (by assumption) ?_; walk_at "vat")
  | (refine at_ne (by first | assumption | exact Ne.symm (by assumption)) ?_; walk_at "vat")
  | (refine at_kx (by assumption) (by first | assumption | exact Ne.symm (by assumption)) ?_; walk_at "vat"))
local macro_rules | `(tactic| walk_at "vsq") => `(tactic| first
  | assumption
  | (exact SqL.of (by walk_at "vat"))
  | (exact SqT.of (by walk_at "vat"))
  | (refine new_list (by assumption) ?_; walk_at "vsq")
  | (refine new_tup (by assumption) ?_; walk_at "vsq")
  | (refine Same.list (by assumption) ?_; walk_at "vsq")
  | (refine Same.tup (by assumption) ?_; walk_at "vsq")
  | (refine ne_list (by first | assumption | exact Ne.symm (by assumption)) ?_; walk_at "vsq")
  | (refine ne_tup (by first | assumption | exact Ne.symm (by assumption)) ?_; walk_at "vsq")
  | (refine Kx.list (by assumption) (by first | assumption | exact Ne.symm (by assumption)) ?_; walk_at "vsq")
  | (refine Kx.tup (by assumption) (by first | assumption | exact Ne.symm (by assumption)) ?_; walk_at "vsq"))
local macro_rules | `(tactic| walk_at "vsame") => `(tactic| first
  | exact Same.refl _
  | assumption
  | (refine Same.trans ?_ (Same.new (by assumption)); walk_at "vsame")
  | (refine Same.trans ?_ (by assumption); walk_at "vsame"))
local macro_rules | `(tactic| walk_at "vnone") => `(tactic| first
  | assumption
  | (refine none_up (by assumption))
  | (refine none_same (by assumption) ?_; walk_at "vnone"))
local macro_rules | `(tactic| walk_at "s") => `(tactic| first
  | (with_reducible refine r_seq ?_)
  | (with_reducible refine r_asg ?_)
  | (with_reducible refine r_name ?_)
  | ((with_reducible refine r_var (v := ?kv) ?k1 ?_); (case k1 => exact rfl))
  | (with_reducible refine r_c ?_)
  | (with_reducible refine r_yes ?_)
  | (with_reducible refine r_op ?_)
  | (with_reducible refine r_un ?_)
  | (with_reducible refine r_rI0 ?_)
  | (with_reducible refine r_rU ?_)
  | (with_reducible refine r_test ?_)
  | (with_reducible refine r_B ?_)
  | (with_reducible refine r_ret ?_)
  | (with_reducible refine r_drop ?_)
  | (with_reducible refine r_cons ?_)
  | (with_reducible refine r_nil ?_)
  | (with_reducible refine r_call ?_)
  | (with_reducible refine r_callK ?_)
  | (with_reducible refine r_callW ?_)
  | (with_reducible refine r_callKW ?_)
  | (with_reducible refine r_xf ?_)
  | (with_reducible refine r_forQ ?_)
  | (with_reducible refine r_lcQ ?_)
  | (with_reducible refine r_isn_ref ?_)
  | (with_reducible refine r_isn_int ?_)
  | (with_reducible refine r_isn_non ?_)
  | (with_reducible refine r_nn_ref ?_)
  | (with_reducible refine r_nn_int ?_)
  | (with_reducible refine r_nn_non ?_)
  | (with_reducible refine r_cb ?_)
  | (with_reducible refine r_tup ?_)
  | (with_reducible refine r_lst ?_)
  | (with_reducible refine r_and ?_)
  | (with_reducible refine r_or ?_)
  | (with_reducible refine r_not ?_)
  | (with_reducible refine r_andV ?_)
  | (with_reducible refine r_orV ?_)
  | (with_reducible refine r_notV ?_)
  | (with_reducible refine r_chain ?_)
  | (with_reducible refine r_gcd ?_)
  | (with_reducible refine r_abs ?_)
  | (with_reducible refine r_max2 ?_)
  | (with_reducible refine r_min2 ?_)
  | (with_reducible refine r_int1 ?_)
  | ((with_reducible refine r_lenL (xs := ?kx) ?k1 ?_); (case k1 => walk_at "vsq"))
  | ((with_reducible refine r_lenT (xs := ?kx) ?k1 ?_); (case k1 => walk_at "vsq"))
  | (with_reducible refine is_int_int ?_)
  | (with_reducible refine is_int_bool ?_)
  | (with_reducible refine is_int_tuple ?_)
  | (with_reducible refine is_int_list ?_)
  | (with_reducible refine is_int_str ?_)
  | (with_reducible refine is_bool_int ?_)
  | (with_reducible refine is_bool_bool ?_)
  | (with_reducible refine is_bool_tuple ?_)
  | (with_reducible refine is_bool_list ?_)
  | (with_reducible refine is_bool_str ?_)
  | (with_reducible refine is_NoneType_int ?_)
  | (with_reducible refine is_NoneType_bool ?_)
  | (with_reducible refine is_NoneType_tuple ?_)
  | (with_reducible refine is_NoneType_list ?_)
  | (with_reducible refine is_NoneType_str ?_)
  | (with_reducible refine is_str_int ?_)
  | (with_reducible refine is_str_bool ?_)
  | (with_reducible refine is_str_tuple ?_)
  | (with_reducible refine is_str_list ?_)
  | (with_reducible refine is_str_str ?_)
  | ((with_reducible refine is_tuple_int (xs := ?kx) ?k1 ?_); (case k1 => walk_at "vat"))
  | ((with_reducible refine is_tuple_bool (xs := ?kx) ?k1 ?_); (case k1 => walk_at "vat"))
  | ((with_reducible refine is_tuple_tuple (xs := ?kx) ?k1 ?_); (case k1 => walk_at "vat"))
  | ((with_reducible refine is_tuple_list (xs := ?kx) ?k1 ?_); (case k1 => walk_at "vat"))
  | ((with_reducible refine is_tuple_str (xs := ?kx) ?k1 ?_); (case k1 => walk_at "vat"))
  | ((with_reducible refine is_list_int (xs := ?kx) ?k1 ?_); (case k1 => walk_at "vat"))
  | ((with_reducible refine is_list_bool (xs := ?kx) ?k1 ?_); (case k1 => walk_at "vat"))
  | ((with_reducible refine is_list_tuple (xs := ?kx) ?k1 ?_); (case k1 => walk_at "vat"))
  | ((with_reducible refine is_list_list (xs := ?kx) ?k1 ?_); (case k1 => walk_at "vat"))
  | ((with_reducible refine is_list_str (xs := ?kx) ?k1 ?_); (case k1 => walk_at "vat"))
  | (with_reducible refine r_par ?_)
  | (with_reducible refine r_par3 ?_)
  | ((with_reducible refine r_aug (x := ?kv) ?k1 ?_); (case k1 => exact rfl))
  | (with_reducible refine r_ip ?_)
  | (with_reducible refine r_gsub ?_)
  | ((with_reducible refine r_gtup (xs := ?kx) ?k1 ?k2 ?_); (case k1 => walk_at "vsq"); (case k2 => exact rfl))
  | (with_reducible refine r_gcons ?_)
  | (with_reducible refine And.intro (small (Nat.le_of_ble_eq_true rfl)) (fun _ _ => ?_))
  | (with_reducible refine r_gnil ?_)
  | (with_reducible refine And.intro (Exists.intro _ (by walk_at "vsq")) ?_)
  | (with_reducible refine r_wb ?_)
  | (with_reducible refine r_for1 ?_)
  | (with_reducible refine r_for2 ?_)
  | (with_reducible refine r_forL ?_)
  | (with_reducible refine r_forT ?_)
  | (with_reducible refine r_lcR1 ?_)
  | (with_reducible refine r_lcR2 ?_)
  | (with_reducible refine r_lcL ?_)
  | (with_reducible refine r_lcT ?_)
  | (with_reducible refine r_lcZ3i ?_)
  | (with_reducible refine r_sl ?_)
  | (with_reducible refine r_noPart ?_)
  | (with_reducible refine r_part ?_)
  | (with_reducible refine r_forE ?_)
  | (with_reducible refine r_forZn ?_)
  | (with_reducible refine r_forZa ?_)
  | (with_reducible refine tru_int ?_)
  | (with_reducible refine r_bm ?_)
  | (with_reducible refine r_lc2R1 ?_)
  | (with_reducible refine r_next ?_)
  | (with_reducible refine r_break ?_)
  | (with_reducible refine r_cont ?_)
  | (with_reducible refine r_retN ?_)
  | (with_reducible refine Exists.intro _ (And.intro rfl ?_))
  | (with_reducible refine Exists.intro _ (Exists.intro _ (And.intro rfl ?_)))
  | (with_reducible refine Exists.intro _ (Exists.intro _ (And.intro rfl (And.intro rfl ?_))))
  | (with_reducible refine Exists.intro _ (Exists.intro _ (Exists.intro _ (And.intro rfl ?_))))
  | (with_reducible refine r_bits ?_)
  | (with_reducible refine r_dget ?_)
  | (with_reducible refine r_din ?_)
  | (with_reducible refine r_dput ?_)
  | (with_reducible refine r_dnew ?_)
  | (with_reducible refine r_lcZti ?_)
  | (with_reducible refine ifTT ?_)
  | (with_reducible refine ifFF ?_)
  | (with_reducible refine ifNT ?_)
  | (with_reducible refine ifNF ?_)
  | dsimp only)
local macro_rules | `(tactic| walk_at "go") => `(tactic| repeat walk_at "s")
local macro_rules | `(tactic| walk_at "gi") => `(tactic| repeat first | walk_at "s" | (with_reducible refine r_if ?_) | (with_reducible refine r_ifE ?_))
local macro_rules | `(tactic| walk_at "sti") => `(tactic| ((try dsimp only [cxOf]); walk_at "gi"))
local macro_rules | `(tactic| walk_at "st") => `(tactic| ((try dsimp only [cxOf]); walk_at "go"))
section
variable {P : Program} {w : World} {K : PySem.W.Frag} {mg : Str → Option Value} {base : Heap}
def sp_is_integer : Sp := fun vs H Q _ => ∃ i : Int, vs = [.int i] ∧ Q (.bl true) H
theorem ok_is_integer (T : Top K mg) : Ok P w K mg base 1 "is_integer" s_is_integer ["given"] sp_is_integer := by
  refine T.d_is_integer.ok sc_is_integer (fun vs H Q E h => ?_) (fun f cdv A outer s H vs Q E hg hr h => ?_)
  · obtain ⟨i, rfl, _⟩ := h
    rfl
  · obtain ⟨i, rfl, q⟩ := h
    refine ⟨_, (pss_one (ps_ret (pe_and (pe_callB (id := "isinstance") (c_isi rfl) (by rfl) T.b_isinstance (by decide +kernel) (pa_cons (pv 0) (pa_cons (pe_bltn (v := .ty "int") (by rfl) T.b_int (by decide +kernel) rfl) pa_nil))) (pe_one (pe_not (pe_callB (id := "isinstance") (c_isi rfl) (by rfl) T.b_isinstance (by decide +kernel) (pa_cons (pv 0) (pa_cons (pe_bltn (v := .ty "bool") (by rfl) T.b_bool (by decide +kernel) rfl) pa_nil)))))))), ?_⟩
    walk_at "sti"
    exact q
def sp_is_within : Sp := fun vs H Q _ => ∃ i a b : Int, vs = [.int i, .int a, .int b] ∧ Q (.bl (decide (a ≤ i ∧ i ≤ b))) H
theorem ok_is_within (T : Top K mg) : Ok P w K mg base 2 "is_within" s_is_within ["given", "least", "most"] sp_is_within := by
  have G_is_integer := ok_is_integer (P := P) (w := w) (base := base) T
  refine T.d_is_within.ok sc_is_within (fun vs H Q E h => ?_) (fun f cdv A outer s H vs Q E hg hr h => ?_)
  · obtain ⟨i, a, b, rfl, _⟩ := h
    rfl
  · obtain ⟨i, a, b, rfl, q⟩ := h
    refine ⟨_, (pss_one (ps_ret (pe_and (pe_g G_is_integer (fun _ _ F => bd_is_integer F) hg (hr.mono (by decide)) passL (by rfl) (pa_cons (pv 0) pa_nil)) (pe_one (pe_chain op_le op_le (pv 1) (pv 0) (pv 2)))))), ?_⟩
    walk_at "sti"
    refine ⟨i, rfl, ?_⟩
    walk_at "gi"
    refine ifd (fun c => ?_) (fun c => ?_)
    · walk_at "gi"
      rw [show decide (i ≤ b) = decide (a ≤ i ∧ i ≤ b) by simp [c]]
      exact q
    · rw [show decide (a ≤ i ∧ i ≤ b) = false by simp [c]] at q
      exact q
def sp_check_within : Sp := fun vs H Q _ => ∃ i a b : Int, vs = [.int i, .int a, .int b] ∧ a ≤ i ∧ i ≤ b ∧ Q .non H
theorem ok_check_within (T : Top K mg) : Ok P w K mg base 3 "check_within" s_check_within ["given", "least", "most"] sp_check_within := by
  have G_is_within := ok_is_within (P := P) (w := w) (base := base) T
  refine T.d_check_within.ok sc_check_within (fun vs H Q E h => ?_) (fun f cdv A outer s H vs Q E hg hr h => ?_)
  · obtain ⟨i, a, b, rfl, _⟩ := h
    rfl
  · obtain ⟨i, a, b, rfl, h1, h2, q⟩ := h
    refine ⟨_, (pss_one (ps_if (pt_not (pt_val (pe_g G_is_within (fun _ _ F => bd_is_within F) hg (hr.mono (by decide)) passL (by rfl) (pa_cons (pv 0) (pa_cons (pv 1) (pa_cons (pv 2) pa_nil)))))) (pss_one ps_never) pss_nil)), ?_⟩
    walk_at "sti"
    refine ⟨i, a, b, rfl, ?_⟩
    rw [decide_eq_true (show a ≤ i ∧ i ≤ b from ⟨h1, h2⟩)]
    walk_at "gi"
    exact q
def sp_check_number : Sp := fun vs H Q _ => ∃ i : Int, vs = [.int i] ∧ -(10 ^ 40) ≤ i ∧ i ≤ 10 ^ 40 ∧ Q .non H
theorem ok_check_number (T : Top K mg) : Ok P w K mg base 4 "check_number" s_check_number ["given"] sp_check_number := by
  have G_check_within := ok_check_within (P := P) (w := w) (base := base) T
  refine T.d_check_number.ok sc_check_number (fun vs H Q E h => ?_) (fun f cdv A outer s H vs Q E hg hr h => ?_)
  · obtain ⟨i, rfl, _⟩ := h
    rfl
  · obtain ⟨i, rfl, h1, h2, q⟩ := h
    refine ⟨_, (pss_one (ps_expr (pe_g G_check_within (fun _ _ F => bd_check_within F) hg (hr.mono (by decide)) passL (by rfl) (pa_cons (pv 0) (pa_cons (pe_un un_neg (pe_gi T.c_MOST_NUMBER (by rfl))) (pa_cons (pe_gi T.c_MOST_NUMBER (by rfl)) pa_nil)))))), ?_⟩
    walk_at "sti"
    exact ⟨i, _, _, rfl, h1, h2, q⟩
def Nr (i : Int) : Prop := -(10 ^ 40) ≤ i ∧ i ≤ 10 ^ 40
def sp_is_fact (K : PySem.W.Frag) : Sp := fun vs H Q _ => ∃ (v : V) (p : Int × Int), vs = [v] ∧ PairAt K H v p ∧ Fact p ∧ Q (.bl true) H
theorem ok_is_fact (T : Top K mg) : Ok P w K mg base 3 "is_fact" s_is_fact ["given"] (sp_is_fact K) := by
  have G_is_within := ok_is_within (P := P) (w := w) (base := base) T
  refine T.d_is_fact.ok sc_is_fact (fun vs H Q E h => ?_) (fun f cdv A outer s H vs Q E hg hr h => ?_)
  · obtain ⟨v, p, rfl, _⟩ := h
    rfl
  · obtain ⟨v, p, rfl, ⟨t, rfl, st⟩, ⟨f1, f2, f3, f4⟩, q⟩ := h
    refine ⟨_, (pss_cons (ps_if (PW.pt (pw_or (pt_not (pt_val (pe_callB (id := "isinstance") (c_isi rfl) (by rfl) T.b_isinstance (by decide +kernel) (pa_cons (pv 0) (pa_cons (pe_bltn (v := .ty "tuple") (by rfl) T.b_tuple (by decide +kernel) rfl) pa_nil))))) (pw_or1 (pt_cmpR op_neZ (pe_callB (id := "len") (c_len rfl) (by rfl) T.b_len (by decide +kernel) (pa_cons (pv 0) pa_nil)) pe_int (nomark _))))) (pss_one ps_never) pss_nil)
    (pss_cons (ps_asg (pv 0) (g_tup rfl rfl (pgs_cons (pg_name (i := 1) sc_is_fact.nd rfl (.inl rfl)) (pgs_cons (pg_name (i := 2) sc_is_fact.nd rfl (.inl rfl)) pgs_nil)) rfl rfl))
    (pss_one (ps_ret (pe_and (pe_g G_is_within (fun _ _ F => bd_is_within F) hg (hr.mono (by decide)) passL (by rfl) (pa_cons (pv 2) (pa_cons pe_int (pa_cons (pe_gi T.c_MOST_FACT (by rfl)) pa_nil)))) (pe_one (pe_g G_is_within (fun _ _ F => bd_is_within F) hg (hr.mono (by decide)) passL (by rfl) (pa_cons (pv 1) (pa_cons pe_int (pa_cons (pe_op op_sub (pv 2) pe_int) pa_nil)))))))))), ?_⟩
    walk_at "sti"
    refine is_T_T st ?_
    walk_at "gi"
    refine ifnd (fun c => absurd rfl c) (fun _ => ?_)
    walk_at "gi"
    refine ⟨p.2, 1, _, rfl, ?_⟩
    rw [decide_eq_true (show 1 ≤ p.2 ∧ p.2 ≤ 1000000000000000000000000000000 from ⟨f1, by omega⟩)]
    walk_at "gi"
    refine ⟨p.1, 0, _, rfl, ?_⟩
    rw [decide_eq_true (show 0 ≤ p.1 ∧ p.1 ≤ p.2 - 1 from ⟨f3, by omega⟩)]
    exact q
def sp_first_wrong (K : PySem.W.Frag) : Sp := fun vs H Q _ => ∃ (a : Addr) (fs : List (Int × Int)) (m : Nat), vs = [.ref a, .int (m : Int)] ∧ FactsAt K H a fs ∧ fs.length ≤ m ∧ (∀ p ∈ fs, Fact p) ∧ ∀ H', Same H H' → Q .non H'
theorem ok__first_wrong_fact (T : Top K mg) : Ok P w K mg base 4 "_first_wrong_fact" s__first_wrong_fact ["facts", "most"] (sp_first_wrong K) := by
  have G_is_fact := ok_is_fact (P := P) (w := w) (base := base) T
  refine T.d__first_wrong_fact.ok sc__first_wrong_fact (fun vs H Q E h => ?_) (fun f cdv A outer s H vs Q E hg hr h => ?_)
  · obtain ⟨a, fs, m, rfl, _⟩ := h
    rfl
  · obtain ⟨a, fs, m, rfl, ⟨vs, sv, pvs⟩, hl, hf, q⟩ := h
    have ev := pvs.length
    refine ⟨_, (pss_cons (ps_for (passes_of rfl) rfl (i_enT rfl (by rfl) T.b_enumerate (pa_cons (pv 0) pa_nil)) (g_tup rfl rfl (pgs_cons (pg_name (i := 2) sc__first_wrong_fact.nd rfl (.inl rfl)) (pgs_cons (pg_name (i := 3) sc__first_wrong_fact.nd rfl (.inl rfl)) pgs_nil)) rfl rfl) (pss_one (ps_if (PW.pt (pw_or (pt_cmpR op_ge (pv 2) (pv 1) (nomark _)) (pw_or1 (pt_not (pt_val (pe_g G_is_fact (fun _ _ F => bd_is_fact F) hg (hr.mono (by decide)) passL (by rfl) (pa_cons (pv 3) pa_nil))))))) (pss_one (ps_ret (pv 2))) pss_nil)))
    (pss_one (ps_ret pe_non))), ?_⟩
    walk_at "sti"
    refine ⟨a, vs, rfl, sv, ?_⟩
    refine r_forEn vs (fun i σ H' => ∃ x2 x3, σ = [some (.ref a), some (.int (m : Int)), x2, x3] ∧ Same H H') ⟨_, _, rfl, Same.refl _⟩ (fun i σ H' hi hP => ?_) (fun i x σ H' T' hi hP hT => ?_) (fun σ H' hP => ?_)
    · obtain ⟨x2, x3, rfl, s1⟩ := hP
      exact Same.tup s1 sv
    · obtain ⟨x2, x3, rfl, s1⟩ := hP
      obtain ⟨p, hp, px⟩ := pvs.get hi
      have il : i < vs.length := (List.getElem?_eq_some_iff.mp hi).1
      have s2 : Same H (upd H' T' (.tup [.int (i : Nat), x])) := s1.trans (Same.new hT)
      refine r_gtup (SqT.of upd_same) rfl ?_
      walk_at "gi"
      refine ifd (fun c => ?_) (fun c => ?_)
      · omega
      · walk_at "gi"
        refine ⟨x, p, rfl, px.tt (Same.tt s2), hf p (List.mem_of_getElem? hp), ?_⟩
        walk_at "gi"
        exact s2
    · obtain ⟨x2, x3, rfl, s1⟩ := hP
      walk_at "gi"
      exact q _ s1
def sp_check_each (K : PySem.W.Frag) : Sp := fun vs H Q _ => ∃ (a : Addr) (fs : List (Int × Int)) (m : Nat), vs = [.ref a, .int (m : Int)] ∧ FactsAt K H a fs ∧ fs.length ≤ m ∧ (∀ p ∈ fs, Fact p) ∧ ∀ H', Same H H' → Q .non H'
theorem ok__check_each_fact (T : Top K mg) : Ok P w K mg base 5 "_check_each_fact" s__check_each_fact ["facts", "most"] (sp_check_each K) := by
  have G__first_wrong_fact := ok__first_wrong_fact (P := P) (w := w) (base := base) T
  refine T.d__check_each_fact.ok sc__check_each_fact (fun vs H Q E h => ?_) (fun f cdv A outer s H vs Q E hg hr h => ?_)
  · obtain ⟨a, fs, m, rfl, _⟩ := h
    rfl
  · obtain ⟨a, fs, m, rfl, hfa, hl, hf, q⟩ := h
    obtain ⟨vs, sv, pvs⟩ := id hfa
    refine ⟨_, (pss_cons (ps_if (pt_not (pt_val (pe_callB (id := "isinstance") (c_isi rfl) (by rfl) T.b_isinstance (by decide +kernel) (pa_cons (pv 0) (pa_cons (pe_bltn (v := .ty "tuple") (by rfl) T.b_tuple (by decide +kernel) rfl) pa_nil))))) (pss_one ps_never) pss_nil)
    (pss_cons (ps_set (i := 2) sc__check_each_fact.nd rfl (.inl rfl) (pe_g G__first_wrong_fact (fun _ _ F => bd__first_wrong_fact F) hg (hr.mono (by decide)) passL (by rfl) (pa_cons (pv 0) (pa_cons (pv 1) pa_nil))))
    (pss_one (ps_if (pt_cmpR op_notN (pv 2) pe_non (nomark _)) (pss_one ps_never) pss_nil)))), ?_⟩
    walk_at "sti"
    refine is_T_T sv ?_
    walk_at "gi"
    refine ⟨a, fs, m, rfl, hfa, hl, hf, fun H' s1 => ?_⟩
    walk_at "gi"
    exact q _ s1
def sp_check_facts (K : PySem.W.Frag) : Sp := fun vs H Q _ => ∃ (a : Addr) (fs : List (Int × Int)), vs = [.ref a] ∧ FactsAt K H a fs ∧ Facts fs ∧ ∀ H', Same H H' → Q .non H'
theorem ok_check_facts (T : Top K mg) : Ok P w K mg base 6 "check_facts" s_check_facts ["facts"] (sp_check_facts K) := by
  have G__check_each_fact := ok__check_each_fact (P := P) (w := w) (base := base) T
  refine T.d_check_facts.ok sc_check_facts (fun vs H Q E h => ?_) (fun f cdv A outer s H vs Q E hg hr h => ?_)
  · obtain ⟨a, fs, rfl, _⟩ := h
    rfl
  · obtain ⟨a, fs, rfl, h1, h2, q⟩ := h
    refine ⟨_, (pss_one (ps_expr (pe_g G__check_each_fact (fun _ _ F => bd__check_each_fact F) hg (hr.mono (by decide)) passL (by rfl) (pa_cons (pv 0) (pa_cons (pe_gi T.c_MOST_FACTS (by rfl)) pa_nil))))), ?_⟩
    walk_at "sti"
    exact ⟨a, fs, 40, rfl, h1, h2.1, h2.2, q⟩
def sp_bezout : Sp := fun vs H Q _ => ∃ a b : Int, vs = [.int a, .int b] ∧ a.natAbs ≤ Bq ∧ b.natAbs ≤ Bq ∧
  ∀ u v : Int, u * a + v * b = (Nat.gcd a.natAbs b.natAbs : Nat) → u.natAbs ≤ Bq → NewT [.int u, .int v] H Q
theorem ok_bezout (T : Top K mg) : Ok P w K mg base 1 "bezout" s_bezout ["one", "other"] sp_bezout := by
  refine T.d_bezout.ok sc_bezout (fun vs H Q E h => ?_) (fun f cdv A outer s H vs Q E hg hr h => ?_)
  · obtain ⟨a, b, rfl, _⟩ := h
    rfl
  · obtain ⟨x, y, rfl, hx, hy, q⟩ := h
    refine ⟨_, (pss_cons (ps_asg (pe_tup (pa_cons pe_int (pa_cons pe_int (pa_cons pe_int (pa_cons pe_int pa_nil))))) (g_tup rfl rfl (pgs_cons (pg_name (i := 2) sc_bezout.nd rfl (.inl rfl)) (pgs_cons (pg_name (i := 3) sc_bezout.nd rfl (.inl rfl)) (pgs_cons (pg_name (i := 4) sc_bezout.nd rfl (.inl rfl)) (pgs_cons (pg_name (i := 5) sc_bezout.nd rfl (.inl rfl)) pgs_nil)))) rfl rfl))
    (pss_cons (ps_par (i := 6) (j := 7) (by rfl) sc_bezout.nd rfl rfl (by decide) rfl rfl (pa_cons (pv 0) (pa_cons (pv 1) pa_nil)) (by rfl))
    (pss_cons (ps_while (passes_of rfl) (pt_truth (pv 7) (by intro _; rfl)) (pss_cons (ps_set (i := 8) sc_bezout.nd rfl (.inl rfl) (pe_op op_fdivG (pv 6) (pv 7)))
    (pss_cons (ps_par (i := 6) (j := 7) (by rfl) sc_bezout.nd rfl rfl (by decide) rfl rfl (pa_cons (pv 7) (pa_cons (pe_op op_sub (pv 6) (pe_op op_mulX (pv 8) (pv 7))) pa_nil)) (by rfl))
    (pss_cons (ps_par (i := 2) (j := 4) (by rfl) sc_bezout.nd rfl rfl (by decide) rfl rfl (pa_cons (pv 4) (pa_cons (pe_op op_sub (pv 2) (pe_op op_mulX (pv 8) (pv 4))) pa_nil)) (by rfl))
    (pss_one (ps_par (i := 3) (j := 5) (by rfl) sc_bezout.nd rfl rfl (by decide) rfl rfl (pa_cons (pv 5) (pa_cons (pe_op op_sub (pv 3) (pe_op op_mulX (pv 8) (pv 5))) pa_nil)) (by rfl)))))))
    (pss_cons (ps_if (pt_cmpR op_lt (pv 6) pe_int (nomark _)) (pss_one (ps_ret (pe_tup (pa_cons (pe_un un_neg (pv 2)) (pa_cons (pe_un un_neg (pv 3)) pa_nil))))) pss_nil)
    (pss_one (ps_ret (pe_tup (pa_cons (pv 2) (pa_cons (pv 3) pa_nil))))))))), ?_⟩
    walk_at "sti"
    refine r_while (fun m σ H' => ∃ u v nu nv l r tm, σ = [some (.int x), some (.int y), some (.int u), some (.int v), some (.int nu), some (.int nv), some (.int l), some (.int r), tm] ∧
      Bz x y u v nu nv l r ∧ m = r.natAbs ∧ Same H H') y.natAbs ⟨1, 0, 0, 1, x, y, none, rfl, Bz.first x y, rfl, by walk_at "vsame"⟩ fun m σ H1 hW => ?_
    obtain ⟨u, v, nu, nv, l, r, tm, rfl, B, rfl, s1⟩ := hW
    have bd := B.bounds (B := Bq) hx hy Bq_one
    obtain ⟨b1, b2, b3, b4, b5, b6⟩ := bd
    walk_at "gi"
    refine ifb (fun c => ?_) (fun c => ?_)
    · have hr0 : r ≠ 0 := by simpa using c
      have st := B.step hr0
      have bt : Builtin.Int.intBits (l.fdiv r) ≤ 4003 := by
        refine bit_of (Nat.lt_of_le_of_lt (m := 2 * Bq) (abs_of_mul hr0 ?_) Bq_two)
        have := st.2
        omega
      walk_at "gi"
      refine r_rI ⟨hr0, Nat.lt_of_le_of_lt b4 Bq_90⟩ ?_
      walk_at "gi"
      refine r_rI (bit_mul bt (Bq_bits b4) (by decide)) ?_
      walk_at "gi"
      refine r_rI (bit_mul bt (Bq_bits b2) (by decide)) ?_
      walk_at "gi"
      refine r_rI (bit_mul bt (bit_of (Nat.lt_of_le_of_lt b6 Bq_sq)) (by decide)) ?_
      walk_at "gi"
      exact ⟨_, st.2, _, _, _, _, _, _, _, rfl, st.1, rfl, s1⟩
    · have hr0 : r = 0 := by simpa using c
      have g := B.g
      have e1 := B.e1
      rw [hr0] at g
      have g2 : l.natAbs = Nat.gcd x.natAbs y.natAbs := by rw [← g]; simp
      walk_at "gi"
      refine ifd (fun c => ?_) (fun c => ?_)
      · walk_at "gi"
        refine q (-u) (-v) ?_ (by omega) _ _ (by walk_at "vsame") (by walk_at "vnone") upd_same
        rw [← g2]
        have : -u * x + -v * y = -(u * x + v * y) := by grind
        omega
      · walk_at "gi"
        refine q u v ?_ (by omega) _ _ (by walk_at "vsame") (by walk_at "vnone") upd_same
        omega
theorem gcd_rest (n : Int) (b : Nat) : Nat.gcd (n % (b : Int)).natAbs ((b : Nat) : Int).natAbs = Nat.gcd n.natAbs b := by
  have h := Int.gcd_add_mul_right_right (b : Int) (n % (b : Int)) (n / (b : Int))
  rw [Int.mul_comm, Int.emod_add_mul_ediv, Int.gcd_eq_natAbs_gcd_natAbs, Int.gcd_eq_natAbs_gcd_natAbs, Int.natAbs_natCast] at h
  rw [Int.natAbs_natCast, Nat.gcd_comm, ← h, Nat.gcd_comm]
def sp_inverse : Sp := fun vs H Q _ => ∃ (n : Int) (b : Nat), vs = [.int n, .int (b : Int)] ∧ 0 < b ∧ b ≤ Bq ∧
  ∀ (u w : Int) H', u * n = (Nat.gcd n.natAbs b : Nat) + b * w → Same H H' → Q (.int (u % b)) H'
theorem ok_inverse (T : Top K mg) : Ok P w K mg base 2 "inverse" s_inverse ["number", "base"] sp_inverse := by
  have G_bezout := ok_bezout (P := P) (w := w) (base := base) T
  refine T.d_inverse.ok sc_inverse (fun vs H Q E h => ?_) (fun f cdv A outer s H vs Q E hg hr h => ?_)
  · obtain ⟨a, b, rfl, _⟩ := h
    rfl
  · obtain ⟨n, b, rfl, b0, hb, q⟩ := h
    have m0 := Int.emod_nonneg n (show (b : Int) ≠ 0 by omega)
    have m1 := Int.emod_lt_of_pos n (show (0 : Int) < b by omega)
    refine ⟨_, (pss_cons (ps_asg (pe_g G_bezout (fun _ _ F => bd_bezout F) hg (hr.mono (by decide)) passL (by rfl) (pa_cons (pe_op op_mod (pv 0) (pv 1)) (pa_cons (pv 1) pa_nil))) (g_tup rfl rfl (pgs_cons (pg_name (i := 2) sc_inverse.nd rfl (.inl rfl)) (pgs_cons (pg_name (i := 3) sc_inverse.nd rfl (.inl rfl)) pgs_nil)) rfl rfl))
    (pss_one (ps_ret (pe_op op_mod (pv 2) (pv 1))))), ?_⟩
    walk_at "sti"
    refine r_rI (by omega) ?_
    walk_at "gi"
    refine ⟨_, _, rfl, by omega, by omega, fun u v e ub p H' sH pn pa => ?_⟩
    walk_at "gi"
    refine r_rI (by omega) ?_
    refine q u (u * (n / b) - v) _ ?_ sH
    rw [gcd_rest] at e
    have d := Int.emod_add_mul_ediv n b
    generalize n % (b : Int) = m at *
    generalize n / (b : Int) = z at *
    rw [← e]
    have : u * n = u * m + b * (u * z) := by rw [← d]; grind
    rw [this]
    grind
def sp_check_power : Sp := fun vs H Q _ => ∃ i : Int, vs = [.int i] ∧ 0 ≤ i ∧ i ≤ 10 ^ 40 ∧ Q .non H
theorem ok__check_power (T : Top K mg) : Ok P w K mg base 4 "_check_power" s__check_power ["power"] sp_check_power := by
  have G_check_within := ok_check_within (P := P) (w := w) (base := base) T
  refine T.d__check_power.ok sc__check_power (fun vs H Q E h => ?_) (fun f cdv A outer s H vs Q E hg hr h => ?_)
  · obtain ⟨i, rfl, _⟩ := h
    rfl
  · obtain ⟨i, rfl, h1, h2, q⟩ := h
    refine ⟨_, (pss_one (ps_expr (pe_g G_check_within (fun _ _ F => bd_check_within F) hg (hr.mono (by decide)) passL (by rfl) (pa_cons (pv 0) (pa_cons pe_int (pa_cons (pe_gi T.c_MOST_NUMBER (by rfl)) pa_nil)))))), ?_⟩
    walk_at "sti"
    exact ⟨i, _, _, rfl, h1, h2, q⟩
def sp_check_base : Sp := fun vs H Q _ => ∃ i : Int, vs = [.int i] ∧ 1 ≤ i ∧ i ≤ 10 ^ 12 ∧ Q .non H
theorem ok_check_base (T : Top K mg) : Ok P w K mg base 4 "check_base" s_check_base ["given"] sp_check_base := by
  have G_check_within := ok_check_within (P := P) (w := w) (base := base) T
  refine T.d_check_base.ok sc_check_base (fun vs H Q E h => ?_) (fun f cdv A outer s H vs Q E hg hr h => ?_)
  · obtain ⟨i, rfl, _⟩ := h
    rfl
  · obtain ⟨i, rfl, h1, h2, q⟩ := h
    refine ⟨_, (pss_one (ps_expr (pe_g G_check_within (fun _ _ F => bd_check_within F) hg (hr.mono (by decide)) passL (by rfl) (pa_cons (pv 0) (pa_cons pe_int (pa_cons (pe_gi T.c_MOST_BASE (by rfl)) pa_nil)))))), ?_⟩
    walk_at "sti"
    exact ⟨i, _, _, rfl, h1, h2, q⟩
end
section
variable {P : Program} {w : World} {K : PySem.W.Frag} {mg : Str → Option Value} {base : Heap}
theorem e60 : (2 : Nat) ^ 60 = 1152921504606846976 := by decide
theorem e59 : (2 : Nat) ^ 59 = 576460752303423488 := by decide
theorem e62 : (2 : Int) ^ 62 = 4611686018427387904 := by decide
structure MugOk (a b c : Int) (n : Nat) : Prop where
  a0 : 0 ≤ a
  ab : Builtin.Int.intBits a ≤ 1048600
  b0 : 0 ≤ b
  bM : b < 2147482819
  c0 : 0 ≤ c
  cn : c ≤ n
def Mug (n : Nat) (k : Addr) (H : Hp) : Prop := ∃ a b c : Int, H k = some (.lst [.int a, .int b, .int c]) ∧ MugOk a b c n
theorem Mug.mono {n m : Nat} {k : Addr} {H : Hp} (h : Mug n k H) (l : n ≤ m) : Mug m k H := by
  obtain ⟨a, b, c, e, o⟩ := h
  exact ⟨a, b, c, e, o.a0, o.ab, o.b0, o.bM, o.c0, by have := o.cn; omega⟩
theorem Mug.same {n : Nat} {k : Addr} {H H' : Hp} (h : Mug n k H) (s : Same H H') : Mug n k H' := by
  obtain ⟨a, b, c, e, o⟩ := h
  exact ⟨a, b, c, s _ _ e, o⟩
theorem Mug.new {n : Nat} {k p : Addr} {H : Hp} {o : HO} (h : Mug n k H) (hp : H p = none) : Mug n k (upd H p o) := h.same (Same.new hp)
theorem Mug.ne {n : Nat} {k p : Addr} {H : Hp} (h : Mug n k H) (hp : H p = none) : p ≠ k := by
  obtain ⟨a, b, c, e, o⟩ := h
  exact (ne_of_none e hp).symm
def sp_sip : Sp := fun vs H Q _ => ∃ (k : Addr) (u : Int) (n : Nat), vs = [.ref k, .int u] ∧ Mug n k H ∧ n ≤ 2 ^ 60 ∧ 0 < u ∧ u < 2 ^ 62 ∧
  ∀ f H', 0 ≤ f → f < u → Kx k H H' → Mug (n + 1) k H' → Q (.int f) H'
theorem i_sip {k : Addr} {u : Int} {H : Hp} {Q : VK} {E : XK} (n : Nat) (hk : Mug n k H) (hn : n ≤ 2 ^ 60) (h0 : 0 < u) (h1 : u < 2 ^ 62)
    (q : ∀ f H', 0 ≤ f → f < u → Kx k H H' → Mug (n + 1) k H' → Q (.int f) H') : sp_sip [.ref k, .int u] H Q E := ⟨k, u, n, rfl, hk, hn, h0, h1, q⟩
def sp_of (K : PySem.W.Frag) : Sp := fun vs H Q _ => ∃ (k t : Addr) (xs : List V) (n : Nat), vs = [.ref k, .ref t] ∧ Mug n k H ∧ n ≤ 2 ^ 60 ∧ t ≠ k ∧ SqL K H t xs ∧ 0 < xs.length ∧ xs.length ≤ 100000 ∧
  ∀ (i : Nat) (x : V) H', xs[i]? = some x → Kx k H H' → Mug (n + 1) k H' → Q x H'
theorem i_of {K : PySem.W.Frag} {k t : Addr} {H : Hp} {Q : VK} {E : XK} (n : Nat) (xs : List V) (hk : Mug n k H) (hn : n ≤ 2 ^ 60) (ht : t ≠ k) (hs : SqL K H t xs) (h0 : 0 < xs.length) (h1 : xs.length ≤ 100000)
    (q : ∀ (i : Nat) x H', xs[i]? = some x → Kx k H H' → Mug (n + 1) k H' → Q x H') : sp_of K [.ref k, .ref t] H Q E := ⟨k, t, xs, n, rfl, hk, hn, ht, hs, h0, h1, q⟩
def sp_mug (K : PySem.W.Frag) : Sp := fun vs H Q _ => ∃ (c : Addr) (ns : List Int) (j : Nat), vs = [.ref c, .int (j : Int)] ∧ SqL K H c (ns.map V.int) ∧ Script ns ∧ j ≤ 1000 ∧
  ∀ p H', Same H H' → H p = none → Mug 1 p H' → Q (.ref p) H'
theorem i_mug {K : PySem.W.Frag} {c : Addr} {H : Hp} {Q : VK} {E : XK} (ns : List Int) (j : Nat) (hs : SqL K H c (ns.map V.int)) (hn : Script ns) (hj : j ≤ 1000)
    (q : ∀ p H', Same H H' → H p = none → Mug 1 p H' → Q (.ref p) H') : sp_mug K [.ref c, .int (j : Int)] H Q E := ⟨c, ns, j, rfl, hs, hn, hj, q⟩
theorem ok__law_sip (T : Top K mg) : Ok P w K mg base 1 "_law_sip" s__law_sip ["_law_mug_here", "_law_top"] sp_sip := by
  refine T.d__law_sip.ok sc__law_sip (fun vs H Q E h => ?_) (fun f cdv A outer s H vs Q E hg hr h => ?_)
  · obtain ⟨k, u, n, rfl, _⟩ := h
    rfl
  · obtain ⟨k, u, n, rfl, ⟨a, b, c, hk, o⟩, hn, h0, h1, q⟩ := h
    obtain ⟨oa, oab, ob, obM, oc, ocn⟩ := o
    have E60 := e60
    refine ⟨_, (pss_cons (ps_asg (pe_op op_add (pe_ix (x_list rfl) (pv 0) pe_int (fun _ _ => rfl)) pe_int) (pg_sub (pv 0) pe_int set_list))
    (pss_cons (ps_set (i := 2) sc__law_sip.nd rfl (.inl rfl) (pe_callTy (T := "int") c_int (by rfl) T.b_int (by decide +kernel) (pa_cons (pe_ix (x_list rfl) (pv 0) pe_int (fun _ _ => rfl)) pa_nil)))
    (pss_cons (ps_asg (pe_op op_mod (pe_callTy (T := "int") c_int (by rfl) T.b_int (by decide +kernel) (pa_cons (pe_op op_add (pe_op op_add (pe_op op_mulX (pv 2) (pe_op op_add (pe_op op_mod (pe_callTy (T := "int") c_int (by rfl) T.b_int (by decide +kernel) (pa_cons (pv 2) pa_nil)) pe_int) pe_int)) (pe_op op_mulX pe_int (pe_ix (x_list rfl) (pv 0) pe_int (fun _ _ => rfl)))) pe_int) pa_nil)) pe_int) (pg_sub (pv 0) pe_int set_list))
    (pss_cons (ps_if (pt_cmpR op_gt (pe_ix (x_list rfl) (pv 0) pe_int (fun _ _ => rfl)) pe_int (nomark _)) (pss_cons (ps_asg (pe_callB (id := "divmod") c_divmod (by rfl) T.b_divmod (by decide +kernel) (pa_cons (pe_ix (x_list rfl) (pv 0) pe_int (fun _ _ => rfl)) (pa_cons (pv 1) pa_nil))) (g_tup rfl rfl (pgs_cons (pg_sub (pv 0) pe_int set_list) (pgs_cons (pg_name (i := 3) sc__law_sip.nd rfl (.inl rfl)) pgs_nil)) rfl rfl))
    (pss_one (ps_ret (pv 3)))) pss_nil)
    (pss_one (ps_ret (pe_op op_mod (pe_callTy (T := "int") c_int (by rfl) T.b_int (by decide +kernel) (pa_cons (pe_op op_fdivW (pe_ix (x_list rfl) (pv 0) pe_int (fun _ _ => rfl)) pe_int) pa_nil)) (pv 1)))))))), ?_⟩
    walk_at "st"
    refine r_ixL (SqL.of hk) (atI_nat (j := 2) rfl) ?_
    walk_at "go"
    refine r_setL (j := 2) hk rfl ?_
    walk_at "go"
    have hk1 : upd H k (.lst ([V.int a, V.int b, V.int c].set 2 (V.int (c + 1)))) k = some (.lst [.int a, .int b, .int (c + 1)]) := upd_same
    have x1 : Kx k H (upd H k (.lst ([V.int a, V.int b, V.int c].set 2 (V.int (c + 1))))) := Kx.upd
    generalize upd H k (.lst ([V.int a, V.int b, V.int c].set 2 (V.int (c + 1)))) = H1 at *
    refine r_ixL (SqL.of hk1) (atI_nat (j := 1) rfl) ?_
    walk_at "go"
    refine r_rI (by decide) ?_
    walk_at "go"
    have m1 := Int.emod_nonneg b (show (24001 : Int) ≠ 0 by decide)
    have m2 := Int.emod_lt_of_pos b (show (0 : Int) < 24001 by decide)
    refine r_rI (bit_mul (a := 64) (b := 64) (bit_of (by omega)) (bit_of (by omega)) (by decide)) ?_
    walk_at "go"
    refine r_ixL (SqL.of hk1) (atI_nat (j := 2) rfl) ?_
    walk_at "go"
    refine r_rI (bit_mul (a := 64) (b := 64) (bit_of (by decide)) (bit_of (by omega)) (by decide)) ?_
    walk_at "go"
    refine r_rI (by decide) ?_
    walk_at "go"
    generalize hz : (b * (b % 24001 + 19001) + 58013 * (c + 1) + 73) % 2147482819 = z
    have z1 : 0 ≤ z := by rw [← hz]; exact Int.emod_nonneg _ (by decide)
    have z2 : z < 2147482819 := by rw [← hz]; exact Int.emod_lt_of_pos _ (by decide)
    refine r_setL (j := 1) hk1 rfl ?_
    walk_at "gi"
    have hk2 : upd H1 k (.lst ([V.int a, V.int b, V.int (c + 1)].set 1 (V.int z))) k = some (.lst [.int a, .int z, .int (c + 1)]) := upd_same
    have x2 : Kx k H (upd H1 k (.lst ([V.int a, V.int b, V.int (c + 1)].set 1 (V.int z)))) := x1.trans Kx.upd
    generalize upd H1 k (.lst ([V.int a, V.int b, V.int (c + 1)].set 1 (V.int z))) = H2 at *
    refine r_ixL (SqL.of hk2) (atI_nat (j := 0) rfl) ?_
    walk_at "gi"
    refine ifd (fun ca => ?_) (fun ca => ?_)
    · walk_at "gi"
      refine r_ixL (SqL.of hk2) (atI_nat (j := 0) rfl) ?_
      walk_at "gi"
      refine r_divmod (divp_of h0 h1) fun p hp => ?_
      walk_at "gi"
      refine r_setL (j := 0) (at_new hp hk2) rfl ?_
      walk_at "gi"
      refine q _ _ (Int.emod_nonneg _ (by omega)) (Int.emod_lt_of_pos _ h0) (x2.trans (Kx.trans (Same.toKx (Same.new hp)) Kx.upd)) ⟨a / u, z, c + 1, upd_same, ⟨Int.ediv_nonneg oa (by omega), ?_, z1, z2, by omega, by omega⟩⟩
      refine Nat.le_trans (bits_mono ?_) oab
      have := Int.ediv_le_self u oa
      have := Int.ediv_nonneg oa (show 0 ≤ u by omega)
      omega
    · walk_at "gi"
      refine r_ixL (SqL.of hk2) (atI_nat (j := 1) rfl) ?_
      walk_at "gi"
      refine r_rI (divw_of (by decide) (by decide)) ?_
      walk_at "gi"
      refine r_rI h0 ?_
      exact q _ _ (Int.emod_nonneg _ (by omega)) (Int.emod_lt_of_pos _ h0) x2 ⟨a, z, c + 1, hk2, ⟨oa, oab, z1, z2, by omega, by omega⟩⟩
theorem ok__law_of (T : Top K mg) : Ok P w K mg base 2 "_law_of" s__law_of ["_law_mug_here", "_law_things"] (sp_of K) := by
  have G__law_sip := ok__law_sip (P := P) (w := w) (base := base) T
  refine T.d__law_of.ok sc__law_of (fun vs H Q E h => ?_) (fun f cdv A outer s H vs Q E hg hr h => ?_)
  · obtain ⟨k, t, xs, n, rfl, _⟩ := h
    rfl
  · obtain ⟨k, t, xs, n, rfl, hk, hn, ht, hs, h0, h1, q⟩ := h
    refine ⟨_, (pss_one (ps_ret (pe_ix (x_list rfl) (pv 1) (pe_g G__law_sip (fun _ _ F => bd__law_sip F) hg (hr.mono (by decide)) passL (by rfl) (pa_cons (pv 0) (pa_cons (pe_callB (id := "len") (c_len rfl) (by rfl) T.b_len (by decide +kernel) (pa_cons (pv 1) pa_nil)) pa_nil))) (fun _ _ => rfl)))), ?_⟩
    walk_at "sti"
    refine i_sip n hk hn (by omega) (by omega) fun f H' f0 f1 kx hk' => ?_
    obtain ⟨j, rfl⟩ := Int.eq_ofNat_of_zero_le f0
    have hj : j < xs.length := by omega
    exact r_ixL (kx.list ht hs) (atI_nat (List.getElem?_eq_getElem hj)) (q j _ _ (List.getElem?_eq_getElem hj) kx hk')
theorem ok__law_mug (T : Top K mg) : Ok P w K mg base 1 "_law_mug" s__law_mug ["_law_cells", "_law_k"] (sp_mug K) := by
  refine T.d__law_mug.ok sc__law_mug (fun vs H Q E h => ?_) (fun f cdv A outer s H vs Q E hg hr h => ?_)
  · obtain ⟨c, ns, j, rfl, _⟩ := h
    rfl
  · obtain ⟨c, ns, j, rfl, hs, ⟨hl, hb⟩, hj, q⟩ := h
    have cell : ∀ i : Nat, i < ns.length → ∃ z, (ns.map V.int)[i]? = some (V.int z) ∧ Builtin.Int.intBits z ≤ 1048576 := fun i hi =>
      ⟨ns[i], by rw [List.getElem?_map, List.getElem?_eq_getElem hi]; rfl, hb _ (List.getElem_mem hi)⟩
    refine ⟨_, (pss_cons (ps_set (i := 2) sc__law_mug.nd rfl (.inl rfl) (pe_ifExp (pt_cmpR op_lt (pv 1) (pe_callB (id := "len") (c_len rfl) (by rfl) T.b_len (by decide +kernel) (pa_cons (pv 0) pa_nil)) (nomark _)) (pe_callTy (T := "int") c_int (by rfl) T.b_int (by decide +kernel) (pa_cons (pe_ix (x_list rfl) (pv 0) (pv 1) (fun _ _ => rfl)) pa_nil)) (pe_op op_add (pe_op op_mulX pe_int (pv 1)) pe_int)))
    (pss_cons (ps_set (i := 3) sc__law_mug.nd rfl (.inl rfl) (pe_op op_add pe_int (pe_op op_mulX pe_int (pv 1))))
    (pss_cons (ps_for (passes_of rfl) rfl (i_list rfl (pe_op op_cat (pe_slice (s_list rfl) (pv 0) po_none (po_some pe_int)) (pe_lst (pa_cons (pv 2) pa_nil)))) (pg_name (i := 4) sc__law_mug.nd rfl (.inl rfl)) (pss_one (ps_set (i := 3) sc__law_mug.nd rfl (.inl rfl) (pe_op op_mod (pe_callTy (T := "int") c_int (by rfl) T.b_int (by decide +kernel) (pa_cons (pe_op op_add (pe_op op_mulX (pv 3) pe_int) (pe_callTy (T := "int") c_int (by rfl) T.b_int (by decide +kernel) (pa_cons (pv 4) pa_nil))) pa_nil)) pe_int))))
    (pss_one (ps_ret (pe_lst (pa_cons (pe_ifExp (PW.pt (pw_or (pt_cmpR op_lt (pv 2) pe_int (nomark _)) (pw_or1 (pt_cmpR op_ge (pv 2) (pe_op op_pow pe_int pe_int) (nomark _))))) (pe_callB (id := "abs") c_abs (by rfl) T.b_abs (by decide +kernel) (pa_cons (pv 2) pa_nil)) pe_int) (pa_cons (pv 3) (pa_cons pe_int pa_nil))))))))), ?_⟩
    walk_at "st"
    refine j_if (fun v H' => H' = H ∧ ∃ own : Int, v = .int own ∧ Builtin.Int.intBits own ≤ 1048576) (fun Q' q' => ?_) (fun v H' hv => ?_)
    · walk_at "gi"
      refine ifd (fun cc => ?_) (fun cc => ?_)
      · walk_at "gi"
        have hj2 : j < ns.length := by
          rw [List.length_map] at cc
          omega
        obtain ⟨z, e, hz⟩ := cell j hj2
        refine r_ixL hs (atI_nat e) ?_
        walk_at "gi"
        exact q' _ _ ⟨rfl, z, rfl, hz⟩
      · walk_at "gi"
        refine r_rI (bit_mul (a := 64) (b := 64) (bit_of (by decide)) (bit_of (by omega)) (by decide)) ?_
        walk_at "gi"
        exact q' _ _ ⟨rfl, _, rfl, Nat.le_trans (bit_of (a := 64) (by omega)) (by decide)⟩
    obtain ⟨rfl, own, rfl, ho⟩ := hv
    walk_at "go"
    refine r_rI (bit_mul (a := 64) (b := 64) (bit_of (by decide)) (bit_of (by omega)) (by decide)) ?_
    walk_at "go"
    have ho : Builtin.Int.intBits own ≤ 1048576 := ho
    refine r_slL hs fun p1 np1 => ?_
    walk_at "go"
    rename_i p2 np2
    have cut : cutV (ns.map V.int) none (some 5) = (ns.take 5).map V.int := (cut_to (ns.map V.int) 5).trans (List.map_take ..).symm
    rw [cut]
    rw [cut] at np2
    have hcut : ∀ z ∈ ns.take 5 ++ [own], Builtin.Int.intBits z ≤ 1048576 := fun z hz => by
      rcases List.mem_append.mp hz with hz | hz
      · exact hb z (List.mem_of_mem_take hz)
      · rw [List.mem_singleton.mp hz]
        exact ho
    have l5 : (ns.take 5).length ≤ 5 := List.length_take_le ..
    refine r_cat (at_new np2 upd_same) upd_same (by rw [List.length_map]; exact Nat.le_trans (Nat.add_le_add_right l5 1) (Nat.le_of_ble_eq_true rfl)) fun p3 np3 => ?_
    rw [show (ns.take 5).map V.int ++ [V.int own] = (ns.take 5 ++ [own]).map V.int by rw [List.map_append]; rfl]
    generalize ns.take 5 ++ [own] = ms at *
    have s3 : Same H' (upd (upd (upd H' p1 (.lst ((ns.take 5).map V.int))) p2 (.lst [V.int own])) p3 (.lst (ms.map V.int))) := ((Same.new np1).trans (Same.new np2)).trans (Same.new np3)
    have at3 : upd (upd (upd H' p1 (.lst ((ns.take 5).map V.int))) p2 (.lst [V.int own])) p3 (.lst (ms.map V.int)) p3 = some (.lst (ms.map V.int)) := upd_same
    generalize upd (upd (upd H' p1 (.lst ((ns.take 5).map V.int))) p2 (.lst [V.int own])) p3 (.lst (ms.map V.int)) = H3 at *
    refine ⟨p3, rfl, ⟨_, SqL.of at3⟩, ?_⟩
    refine r_forLs (ms.map V.int) (fun i σ H1 => H1 = H3 ∧ ∃ (bl : Int) (x4 : Option V), σ = [some (.ref c), some (.int (j : Int)), some (.int own), some (.int bl), x4] ∧ 0 ≤ bl ∧ bl < 2147482819)
      ⟨rfl, 99023 + 661 * (j : Int), none, rfl, by omega, by omega⟩ (fun i σ H1 _ hP => ?_) (fun i x σ H1 hi hP => ?_) (fun σ H1 hP => ?_)
    · obtain ⟨rfl, _⟩ := hP
      exact SqL.of at3
    · obtain ⟨rfl, bl, x4, rfl, b0, b1⟩ := hP
      have hx : ∃ z, x = V.int z ∧ Builtin.Int.intBits z ≤ 1048576 := by
        rw [List.getElem?_map] at hi
        cases e : ms[i]? with
        | none => rw [e] at hi; cases hi
        | some z =>
          rw [e] at hi
          exact ⟨z, (Option.some.inj hi).symm, hcut z (List.mem_of_getElem? e)⟩
      obtain ⟨z, rfl, hz⟩ := hx
      walk_at "go"
      refine r_rI (bit_mul (a := 64) (b := 64) (bit_of (by omega)) (bit_of (by decide)) (by decide)) ?_
      walk_at "go"
      refine r_rI (by decide) ?_
      walk_at "go"
      exact ⟨rfl, _, _, rfl, Int.emod_nonneg _ (by decide), Int.emod_lt_of_pos _ (by decide)⟩
    obtain ⟨rfl, bl, x4, rfl, b0, b1⟩ := hP
    walk_at "go"
    refine j_if (fun v H2 => H2 = H1 ∧ ∃ a : Int, v = .int a ∧ 0 ≤ a ∧ Builtin.Int.intBits a ≤ 1048600) (fun Q' q' => ?_) (fun v H2 hv => ?_)
    · walk_at "gi"
      refine ifd (fun cc => ?_) (fun cc => ?_)
      · walk_at "gi"
        refine q' _ _ ⟨rfl, _, rfl, by omega, Nat.le_trans (bits_mono ?_) (Nat.le_trans ho (by decide))⟩
        omega
      · walk_at "gi"
        refine r_rI ⟨by decide, by decide, by decide⟩ ?_
        walk_at "gi"
        refine ifd (fun c2 => ?_) (fun c2 => ?_)
        · walk_at "gi"
          refine q' _ _ ⟨rfl, _, rfl, by omega, Nat.le_trans (bits_mono ?_) (Nat.le_trans ho (by decide))⟩
          omega
        · walk_at "gi"
          exact q' _ _ ⟨rfl, 0, rfl, by decide, by decide⟩
    obtain ⟨rfl, a, rfl, a0, ab⟩ := hv
    walk_at "go"
    refine q _ _ (s3.trans (Same.new (by assumption))) ?_ ⟨a, bl, 0, upd_same, ⟨a0, ab, ?_, ?_, by decide, by decide⟩⟩
    · exact none_same s3 (by assumption)
    · exact b0
    · exact b1
/-- numbers up to 10 ^ 40, bases up to 10 ^ 30 -/
def Ba (n : Int) : Prop := 1 ≤ n ∧ n ≤ 10 ^ 30
def sp_raised_by : Sp := fun vs H Q _ => ∃ (x n : Int) (t : Nat), vs = [.int x, .int (t : Int), .int n] ∧ Nr x ∧ Ba n ∧ Q (.int (x ^ t % n)) H
theorem mod_lt {a n : Int} (h : Ba n) : 0 ≤ a % n ∧ a % n < n ∧ (a % n).natAbs < 2 ^ 100 := by
  have h1 := Int.emod_nonneg a (show n ≠ 0 by have := h.1; omega)
  have h2 := Int.emod_lt_of_pos a (show 0 < n by have := h.1; omega)
  have h3 := h.2
  exact ⟨h1, h2, by omega⟩
theorem ok_raised_by (T : Top K mg) : Ok P w K mg base 1 "raised_by" s_raised_by ["number", "times", "base"] sp_raised_by := by
  refine T.d_raised_by.ok sc_raised_by (fun vs H Q E h => ?_) (fun f cdv A outer s H vs Q E hg hr h => ?_)
  · obtain ⟨x, n, t, rfl, _⟩ := h
    rfl
  · obtain ⟨x, n, t, rfl, hx, hn, q⟩ := h
    have n0 : 0 < n := by have := hn.1; omega
    refine ⟨_, (pss_cons (ps_set (i := 3) sc_raised_by.nd rfl (.inl rfl) (pe_op op_mod pe_int (pv 2)))
    (pss_cons (ps_set (i := 4) sc_raised_by.nd rfl (.inl rfl) (pe_op op_mod (pv 0) (pv 2)))
    (pss_cons (ps_set (i := 5) sc_raised_by.nd rfl (.inl rfl) (pv 1))
    (pss_cons (ps_while (passes_of rfl) (pt_truth (pv 5) (by intro _; rfl)) (pss_cons (ps_if (pt_truth (pe_op op_odd (pv 5) pe_int) (by intro _; rfl)) (pss_one (ps_set (i := 3) sc_raised_by.nd rfl (.inl rfl) (pe_op op_mod (pe_op op_mulX (pv 3) (pv 4)) (pv 2)))) pss_nil)
    (pss_cons (ps_aug (i := 5) sc_raised_by.nd rfl (.inl rfl) pe_int ip_half)
    (pss_one (ps_set (i := 4) sc_raised_by.nd rfl (.inl rfl) (pe_op op_mod (pe_op op_mulX (pv 4) (pv 4)) (pv 2)))))))
    (pss_one (ps_ret (pv 3))))))), ?_⟩
    walk_at "st"
    refine r_rI n0 ?_
    walk_at "go"
    refine r_rI n0 ?_
    walk_at "go"
    refine r_while (fun m σ H' => H' = H ∧ ∃ p f : Int, σ = [some (.int x), some (.int (t : Int)), some (.int n), some (.int p), some (.int f), some (.int (m : Int))] ∧ 0 ≤ p ∧ p < n ∧ 0 ≤ f ∧ f < n ∧ (p * f ^ m) % n = x ^ t % n) t ?_ (fun m σ H' hW => ?_)
    · obtain ⟨a1, a2, _⟩ := mod_lt (a := 1) hn
      obtain ⟨b1, b2, _⟩ := mod_lt (a := x) hn
      refine ⟨rfl, _, _, rfl, a1, a2, b1, b2, ?_⟩
      have h := Vf.cg_mul (Vf.cg_mod n 1) (Vf.cg_pow (Vf.cg_mod n x) t)
      rw [Int.one_mul] at h
      exact h
    · obtain ⟨rfl, p, f, rfl, p0, p1, f0, f1, e⟩ := hW
      have hn2 := hn.2
      walk_at "go"
      refine ifb (fun cm => ?_) (fun cm => ?_)
      · have m0 : m ≠ 0 := by
          intro z
          subst z
          exact absurd cm (by decide)
        walk_at "gi"
        refine ⟨rfl, ?_⟩
        walk_at "gi"
        have nb : n.natAbs < 2 ^ 100 := by omega
        have pb : CMulX p f := bit_mul (a := 100) (b := 100) (bit_of (by omega)) (bit_of (by omega)) (by decide)
        have fb : CMulX f f := bit_mul (a := 100) (b := 100) (bit_of (by omega)) (bit_of (by omega)) (by decide)
        have half : ((m : Nat) : Int) / 2 = ((m / 2 : Nat) : Int) := by omega
        obtain ⟨s1, s2, _⟩ := mod_lt (a := f * f) hn
        obtain ⟨u1, u2, _⟩ := mod_lt (a := p * f) hn
        refine ifb (fun ck => ?_) (fun ck => ?_)
        · have mo : m % 2 = 1 := by
            have z : ((m % 2 : Nat) : Int) ≠ 0 := by simpa using ck
            omega
          walk_at "gi"
          refine r_rI pb ?_
          walk_at "gi"
          refine r_rI n0 ?_
          walk_at "gi"
          refine r_half ?_
          walk_at "gi"
          refine r_rI fb ?_
          walk_at "gi"
          refine r_rI n0 ?_
          walk_at "gi"
          rw [half]
          exact ⟨m / 2, by omega, rfl, _, _, rfl, u1, u2, s1, s2, (Vf.raise_odd mo).trans e⟩
        · have mo : m % 2 = 0 := by
            have z : ((m % 2 : Nat) : Int) = 0 := by simpa using ck
            omega
          walk_at "gi"
          refine r_half ?_
          walk_at "gi"
          refine r_rI fb ?_
          walk_at "gi"
          refine r_rI n0 ?_
          walk_at "gi"
          rw [half]
          exact ⟨m / 2, by omega, rfl, _, _, rfl, p0, p1, s1, s2, (Vf.raise_even mo).trans e⟩
      · have m0 : m = 0 := by
          have z : ((m : Nat) : Int) = 0 := by simpa using cm
          omega
        subst m0
        walk_at "gi"
        rw [Int.pow_zero, Int.mul_one, Int.emod_eq_of_lt p0 p1] at e
        rw [← e] at q
        exact q
end
section
variable {P : Program} {w : World} {K : PySem.W.Frag} {mg : Str → Option Value} {base : Heap}
theorem big12 : (1000000000000 : Nat) < 2 ^ 40 := by decide
def sp_times : Sp := fun vs H Q _ => ∃ n p : Nat, vs = [.int (n : Int), .int (p : Int)] ∧ 0 < n ∧ n ≤ 1000000000000 ∧ 2 ≤ p ∧ p ≤ 1000000000000 ∧ ∀ e m : Nat, n = p ^ e * m → ¬ p ∣ m → e ≤ 40 → Q (.int (e : Int)) H
theorem ok_times_in (T : Top K mg) : Ok P w K mg base 1 "times_in" s_times_in ["number", "prime"] sp_times := by
  refine T.d_times_in.ok sc_times_in (fun vs H Q E h => ?_) (fun f cdv A outer s H vs Q E hg hr h => ?_)
  · obtain ⟨n, p, rfl, _⟩ := h
    rfl
  · obtain ⟨n, p, rfl, n0, n1, p2, p1, q⟩ := h
    refine ⟨_, (pss_cons (ps_set (i := 2) sc_times_in.nd rfl (.inl rfl) pe_int)
    (pss_cons (ps_set (i := 3) sc_times_in.nd rfl (.inl rfl) (pv 0))
    (pss_cons (ps_while (passes_of rfl) (pt_cmpR op_eqZ (pe_op op_mod (pv 3) (pv 1)) pe_int (nomark _)) (pss_cons (ps_aug (i := 3) sc_times_in.nd rfl (.inl rfl) (pv 1) ip_fdivW)
    (pss_one (ps_aug (i := 2) sc_times_in.nd rfl (.inl rfl) pe_int ip_add))))
    (pss_one (ps_ret (pv 2)))))), ?_⟩
    walk_at "sti"
    refine r_while (fun u σ H' => ∃ e : Nat, σ = [some (.int (n : Int)), some (.int (p : Int)), some (.int (e : Int)), some (.int (u : Int))] ∧ H' = H ∧ n = p ^ e * u ∧ 0 < u) n ⟨0, rfl, rfl, by simp, n0⟩ fun u σ H1 hW => ?_
    obtain ⟨e, rfl, rfl, hn, u0⟩ := hW
    have pe : 0 < p ^ e := Nat.pow_pos (by omega)
    have he : e ≤ 40 := by
      refine Classical.byContradiction fun c => ?_
      have h1 : (2 : Nat) ^ 40 ≤ 2 ^ e := Nat.pow_le_pow_right (by decide) (by omega)
      have h2 : 2 ^ e ≤ p ^ e := Nat.pow_le_pow_left p2 e
      have h3 : p ^ e * 1 ≤ p ^ e * u := Nat.mul_le_mul_left _ u0
      have := big12
      omega
    have hun : u ≤ n := by
      have := Nat.mul_le_mul_right u pe
      omega
    walk_at "gi"
    refine r_rI (by omega) ?_
    walk_at "gi"
    refine ifd (fun c => ?_) (fun c => ?_)
    · have hd : p ∣ u := Int.natCast_dvd_natCast.mp (Int.dvd_of_emod_eq_zero c)
      obtain ⟨m, rfl⟩ := hd
      walk_at "gi"
      refine r_ipC (divw_of (j := (p : Int)) (by omega) (by omega)) ?_
      walk_at "gi"
      have m0 : 0 < m := by
        rcases Nat.eq_zero_or_pos m with z | z
        · rw [z, Nat.mul_zero] at u0; omega
        · exact z
      refine ⟨m, ?_, e + 1, ?_, rfl, ?_, m0⟩
      · have := Nat.mul_le_mul_right m p2
        omega
      · rw [Int.natCast_mul, Int.mul_ediv_cancel_left _ (by omega)]
        rfl
      · rw [hn, Nat.pow_succ, Nat.mul_assoc]
    · walk_at "gi"
      exact q e u hn (fun h => c (Int.emod_eq_zero_of_dvd (Int.natCast_dvd_natCast.mpr h))) he
theorem made_snoc : ∀ (ps : List (Nat × Nat)) (a : Nat × Nat), made (ps ++ [a]) = made ps * a.1 ^ a.2
  | [], a => by simp [made]
  | b :: r, a => by
    show b.1 ^ b.2 * made (r ++ [a]) = b.1 ^ b.2 * made r * a.1 ^ a.2
    rw [made_snoc r a, Nat.mul_assoc]
def ci (ps : List (Nat × Nat)) : List (Int × Int) := ps.map fun a => ((a.1 : Int), (a.2 : Int))
/-- all but what is left is taken apart, below d -/
structure Half (n : Nat) (ps : List (Nat × Nat)) (L d : Nat) : Prop where
  m : made ps * L = n
  l0 : 0 < L
  p : ∀ a ∈ ps, Pr a.1 ∧ 1 ≤ a.2
  s : ps.Pairwise fun a b => a.1 < b.1
  b : ∀ a ∈ ps, a.1 < d
  no : ∀ k, 2 ≤ k → k < d → ¬ k ∣ L
theorem Half.le {n : Nat} {ps : List (Nat × Nat)} {L d : Nat} (h : Half n ps L d) : L ≤ n := by
  have := Nat.mul_le_mul_right L (made_pos ps h.p)
  rw [h.m] at this
  omega
theorem Half.pr {n : Nat} {ps : List (Nat × Nat)} {L d : Nat} (h : Half n ps L d) (d2 : 2 ≤ d) (hd : d ∣ L) : Pr d := by
  refine ⟨d2, fun k hk => ?_⟩
  have k0 : 0 < k := Nat.pos_of_dvd_of_pos hk (by omega)
  have k1 := Nat.le_of_dvd (by omega) hk
  by_cases c : k = 1
  · exact .inl c
  · by_cases c2 : k = d
    · exact .inr c2
    · exact absurd (Nat.dvd_trans hk hd) (h.no k (by omega) (by omega))
theorem Half.take {n : Nat} {ps : List (Nat × Nat)} {L d e m : Nat} (h : Half n ps L d) (d2 : 2 ≤ d) (hd : d ∣ L) (hL : L = d ^ e * m) (hm : ¬ d ∣ m) : Half n (ps ++ [(d, e)]) m (d + 1) := by
  have hp := h.pr d2 hd
  have e1 : 1 ≤ e := by
    rcases Nat.eq_zero_or_pos e with z | z
    · rw [z, Nat.pow_zero, Nat.one_mul] at hL
      rw [hL] at hd
      exact absurd hd hm
    · exact z
  refine ⟨?_, ?_, fun a ha => ?_, ?_, fun a ha => ?_, fun k k2 kd => ?_⟩
  · rw [made_snoc, Nat.mul_assoc, ← hL]
    exact h.m
  · rcases Nat.eq_zero_or_pos m with z | z
    · rw [z, Nat.mul_zero] at hL
      have := h.l0
      omega
    · exact z
  · rcases List.mem_append.mp ha with q | q
    · exact h.p a q
    · rw [List.mem_singleton.mp q]
      exact ⟨hp, e1⟩
  · rw [List.pairwise_append]
    refine ⟨h.s, List.pairwise_singleton _ _, fun a ha b hb => ?_⟩
    rw [List.mem_singleton.mp hb]
    exact h.b a ha
  · rcases List.mem_append.mp ha with q | q
    · have := h.b a q
      omega
    · rw [List.mem_singleton.mp q]
      exact Nat.lt_succ_self d
  · by_cases c : k = d
    · rw [c]
      exact hm
    · exact fun hk => h.no k k2 (by omega) (Nat.dvd_trans hk (by rw [hL]; exact Nat.dvd_mul_left _ _))
theorem Half.on {n : Nat} {ps : List (Nat × Nat)} {L d : Nat} (h : Half n ps L d) (hd : ¬ d ∣ L) : Half n ps L (d + 1) := by
  refine ⟨h.m, h.l0, h.p, h.s, fun a ha => by have := h.b a ha; omega, fun k k2 kd => ?_⟩
  by_cases c : k = d
  · rw [c]
    exact hd
  · exact h.no k k2 (by omega)
theorem Half.odd {n : Nat} {ps : List (Nat × Nat)} {L d : Nat} (h : Half n ps L (d + 1)) (d3 : 3 ≤ d) (ho : d % 2 = 1) : Half n ps L (d + 2) := by
  refine ⟨h.m, h.l0, h.p, h.s, fun a ha => by have := h.b a ha; omega, fun k k2 kd => ?_⟩
  by_cases c : k = d + 1
  · intro hk
    exact h.no 2 (by decide) (by omega) (Nat.dvd_trans (by omega) hk)
  · exact h.no k k2 (by omega)
theorem Half.last {n : Nat} {ps : List (Nat × Nat)} {L d : Nat} (h : Half n ps L d) (d2 : 2 ≤ d) (hq : L < d * d) (l1 : 1 < L) : Apart (ps ++ [(L, 1)]) n := by
  have hLd : d ≤ L := by
    refine Classical.byContradiction fun c => ?_
    exact h.no L (by omega) (by omega) (Nat.dvd_refl _)
  have hp : Pr L := by
    refine ⟨by omega, fun k hk => ?_⟩
    obtain ⟨j, hj⟩ := hk
    have k0 : k ≠ 0 := fun z => by rw [z, Nat.zero_mul] at hj; omega
    have j0 : j ≠ 0 := fun z => by rw [z, Nat.mul_zero] at hj; omega
    by_cases c : k = 1
    · exact .inl c
    · by_cases c2 : j = 1
      · rw [c2, Nat.mul_one] at hj
        exact .inr hj.symm
      · have h1 : d ≤ k := Classical.byContradiction fun z => h.no k (by omega) (by omega) ⟨j, hj⟩
        have h2 : d ≤ j := Classical.byContradiction fun z => h.no j (by omega) (by omega) ⟨k, by rw [hj, Nat.mul_comm]⟩
        have := Nat.mul_le_mul h1 h2
        omega
  refine ⟨?_, fun a ha => ?_, ?_⟩
  · rw [made_snoc, Nat.pow_one]
    exact h.m
  · rcases List.mem_append.mp ha with q | q
    · exact h.p a q
    · rw [List.mem_singleton.mp q]
      exact ⟨hp, Nat.le_refl _⟩
  · rw [List.pairwise_append]
    refine ⟨h.s, List.pairwise_singleton _ _, fun a ha b hb => ?_⟩
    rw [List.mem_singleton.mp hb]
    exact Nat.lt_of_lt_of_le (h.b a ha) hLd
theorem Half.len {n : Nat} {ps : List (Nat × Nat)} {L d : Nat} (h : Half n ps L d) (n1 : n ≤ 1000000000000) : ps.length ≤ 40 := by
  have h1 : ∀ (qs : List (Nat × Nat)), (∀ a ∈ qs, Pr a.1 ∧ 1 ≤ a.2) → 2 ^ qs.length ≤ made qs := by
    intro qs
    induction qs with
    | nil => intro _; exact Nat.le_refl _
    | cons a r ih =>
      intro hq
      have h2 := hq a List.mem_cons_self
      have h3 : 2 ^ 1 ≤ a.1 ^ a.2 := Nat.le_trans (Nat.pow_le_pow_left h2.1.1 1) (Nat.pow_le_pow_right (by have := h2.1.1; omega) h2.2)
      have h4 := ih fun b hb => hq b (List.mem_cons_of_mem _ hb)
      show 2 ^ (r.length + 1) ≤ a.1 ^ a.2 * made r
      rw [Nat.pow_succ, Nat.mul_comm]
      exact Nat.mul_le_mul h3 h4
  have h2 := h1 ps h.p
  have h3 : made ps * 1 ≤ made ps * L := Nat.mul_le_mul_left _ h.l0
  rw [h.m] at h3
  refine Classical.byContradiction fun c => ?_
  have h4 : (2 : Nat) ^ 40 ≤ 2 ^ ps.length := Nat.pow_le_pow_right (by decide) (by omega)
  have := big12
  omega
def sp_apart (K : PySem.W.Frag) : Sp := fun vs H Q _ => ∃ n : Nat, vs = [.int (n : Int)] ∧ 1 ≤ n ∧ n ≤ 1000000000000 ∧ ∀ a ps H', Same H H' → FactsAt K H' a (ci ps) → ps.length ≤ 41 → Apart ps n → Q (.ref a) H'
theorem ok_apart (T : Top K mg) : Ok P w K mg base 5 "apart" s_apart ["base"] (sp_apart K) := by
  have G_check_base := ok_check_base (P := P) (w := w) (base := base) T
  have G_times_in := ok_times_in (P := P) (w := w) (base := base) T
  refine T.d_apart.ok sc_apart (fun vs H Q E h => ?_) (fun f cdv A outer s H vs Q E hg hr h => ?_)
  · obtain ⟨n, rfl, _⟩ := h
    rfl
  · obtain ⟨n, rfl, n1, n2, q⟩ := h
    have E62 := e62
    refine ⟨_, (pss_cons (ps_expr (pe_g G_check_base (fun _ _ F => bd_check_base F) hg (hr.mono (by decide)) passL (by rfl) (pa_cons (pv 0) pa_nil)))
    (pss_cons (ps_set (i := 1) sc_apart.nd rfl (.inl rfl) (pe_lst pa_nil))
    (pss_cons (ps_set (i := 2) sc_apart.nd rfl (.inl rfl) (pv 0))
    (pss_cons (ps_set (i := 3) sc_apart.nd rfl (.inl rfl) pe_int)
    (pss_cons (ps_while (passes_of rfl) (pt_cmpR op_le (pe_op op_mulX (pv 3) (pv 3)) (pv 2) (nomark _)) (pss_cons (ps_if (pt_cmpR op_eqZ (pe_op op_mod (pv 2) (pv 3)) pe_int (nomark _)) (pss_cons (ps_set (i := 4) sc_apart.nd rfl (.inl rfl) (pe_g G_times_in (fun _ _ F => bd_times_in F) hg (hr.mono (by decide)) passL (by rfl) (pa_cons (pv 2) (pa_cons (pv 3) pa_nil))))
    (pss_cons (ps_expr (pe_bm PySem.F.plainAttrs_list PySem.F.slot_list_append PySem.F.type_list_append mt_append (pv 1) (pa_cons (pe_tup (pa_cons (pv 3) (pa_cons (pv 4) pa_nil))) pa_nil)))
    (pss_one (ps_for (passes_of rfl) rfl (pi_range1 (by rfl) T.b_range (pa_cons (pv 4) pa_nil)) (pg_name (i := 5) sc_apart.nd rfl (.inl rfl)) (pss_one (ps_aug (i := 2) sc_apart.nd rfl (.inl rfl) (pv 3) ip_fdivW)))))) pss_nil)
    (pss_one (ps_aug (i := 3) sc_apart.nd rfl (.inl rfl) (pe_ifExp (pt_cmpR op_eqZ (pv 3) pe_int (nomark _)) pe_int pe_int) ip_add))))
    (pss_cons (ps_if (pt_cmpR op_gt (pv 2) pe_int (nomark _)) (pss_one (ps_expr (pe_bm PySem.F.plainAttrs_list PySem.F.slot_list_append PySem.F.type_list_append mt_append (pv 1) (pa_cons (pe_tup (pa_cons (pv 2) (pa_cons pe_int pa_nil))) pa_nil)))) pss_nil)
    (pss_one (ps_ret (pe_callTy (T := "tuple") (c_tuple rfl) (by rfl) T.b_tuple (by decide +kernel) (pa_cons (pv 1) pa_nil)))))))))), ?_⟩
    walk_at "sti"
    refine ⟨(n : Int), rfl, by omega, by omega, ?_⟩
    walk_at "gi"
    rename_i F hF
    refine r_while (fun u σ H' => ∃ (d L : Nat) (ps : List (Nat × Nat)) (vs : List V) (x4 x5 : Option V), u + d = 1000003 ∧ σ = [some (.int (n : Int)), some (.ref F), some (.int (L : Int)), some (.int (d : Int)), x4, x5] ∧ Same H H' ∧ H' F = some (.lst vs) ∧ PairsAt K H' vs (ci ps) ∧ Half n ps L d ∧ 2 ≤ d ∧ (d = 2 ∨ d % 2 = 1)) 1000001
      ⟨2, n, [], [], _, _, rfl, rfl, Same.new hF, upd_same, .nil, ⟨by simp [made], by omega, fun a ha => by simp at ha, List.Pairwise.nil, fun a ha => by simp at ha, fun k a b => absurd a (by omega)⟩, by decide, .inl rfl⟩ fun u σ H1 hW => ?_
    obtain ⟨d, L, ps, vs, x4, x5, hu, rfl, s1, f1, p1, hh, d2, dd⟩ := hW
    have hL := hh.le
    have hl0 := hh.l0
    have hlen := hh.len n2
    have hvs : vs.length ≤ 40 := by rw [p1.length]; simp only [ci, List.length_map]; exact hlen
    walk_at "gi"
    refine r_rI (bit_mul (a := 64) (b := 64) (bit_of (by omega)) (bit_of (by omega)) (by decide)) ?_
    walk_at "gi"
    refine ifd (fun c => ?_) (fun c => ?_)
    · have c' : d * d ≤ L := by
        have : ((d * d : Nat) : Int) ≤ (L : Int) := by push_cast; exact c
        omega
      have d6 : d ≤ 1000000 := by
        refine Classical.byContradiction fun z => ?_
        have := Nat.mul_le_mul (show 1000001 ≤ d by omega) (show 1000001 ≤ d by omega)
        omega
      walk_at "go"
      refine j_s (fun σ' H' => ∃ (L' : Nat) (ps' : List (Nat × Nat)) (vs' : List V) (x4 x5 : Option V), σ' = [some (.int (n : Int)), some (.ref F), some (.int (L' : Int)), some (.int (d : Int)), x4, x5] ∧ Same H H' ∧ H' F = some (.lst vs') ∧ PairsAt K H' vs' (ci ps') ∧ Half n ps' L' (d + 1)) (fun nx' hnx => ?_) (fun σ' H2 hM => ?_)
      · walk_at "gi"
        refine r_rI (by omega) ?_
        walk_at "gi"
        refine ifd (fun c2 => ?_) (fun c2 => ?_)
        · have hd : d ∣ L := Int.natCast_dvd_natCast.mp (Int.dvd_of_emod_eq_zero c2)
          walk_at "gi"
          refine ⟨L, d, rfl, hl0, by omega, d2, by omega, fun e m hem hm he => ?_⟩
          walk_at "gi"
          refine ⟨.inl ⟨rfl, _, SqL.of f1⟩, ?_⟩
          walk_at "gi"
          rename_i t1 ht1
          refine r_app ((Same.new ht1) _ _ f1) (by omega) ?_
          walk_at "gi"
          have s3 : Same H (upd (upd H1 t1 (.tup [.int (d : Int), .int (e : Int)])) F (.lst (vs ++ [.ref t1]))) := fun b o eb => by
            rw [upd_ne (ne_of_none eb hF)]
            exact (Same.new ht1) _ _ (s1 _ _ eb)
          have p3 : PairsAt K (upd (upd H1 t1 (.tup [.int (d : Int), .int (e : Int)])) F (.lst (vs ++ [.ref t1]))) (vs ++ [.ref t1]) (ci (ps ++ [(d, e)])) := by
            rw [show ci (ps ++ [(d, e)]) = ci ps ++ [((d : Int), (e : Int))] by simp [ci]]
            exact PairsAt.tt (upd_tt ((Same.new ht1) _ _ f1)) (PairsAt.append (p1.tt (new_tt ht1)) (.cons ⟨t1, rfl, SqT.of upd_same⟩ .nil))
          have f3 : upd (upd H1 t1 (.tup [.int (d : Int), .int (e : Int)])) F (.lst (vs ++ [.ref t1])) F = some (.lst (vs ++ [.ref t1])) := upd_same
          generalize upd (upd H1 t1 (.tup [.int (d : Int), .int (e : Int)])) F (.lst (vs ++ [.ref t1])) = H3 at *
          refine ⟨by omega, by omega, ?_⟩
          rw [Int.toNat_natCast]
          have h4 := hh.take d2 hd hem hm
          refine r_forR (fun j σ H' => ∃ x5, σ = [some (.int (n : Int)), some (.ref F), some (.int ((d ^ (e - j) * m : Nat) : Int)), some (.int (d : Int)), some (.int (e : Int)), x5] ∧ H' = H3) ⟨x5, by rw [Nat.sub_zero, ← hem]; rfl, rfl⟩ (fun j σ H' hj hP => ?_) (fun σ H' hP => ?_)
          · obtain ⟨x5, rfl, rfl⟩ := hP
            walk_at "gi"
            refine r_ipC (divw_of (j := (d : Int)) (by omega) (by omega)) ?_
            walk_at "gi"
            refine ⟨some (.int (0 + (j : Int))), ?_, rfl⟩
            rw [show e - j = (e - (j + 1)) + 1 by omega, Nat.pow_succ, show d ^ (e - (j + 1)) * d * m = d * (d ^ (e - (j + 1)) * m) by rw [Nat.mul_comm _ d, Nat.mul_assoc], Int.natCast_mul, Int.mul_ediv_cancel_left _ (by omega)]
            rfl
          · obtain ⟨x5, rfl, rfl⟩ := hP
            rw [Nat.sub_self, Nat.pow_zero, Nat.one_mul]
            exact hnx _ _ ⟨m, _, _, _, _, rfl, s3, f3, p3, h4⟩
        · have hd : ¬ d ∣ L := fun h => c2 (Int.emod_eq_zero_of_dvd (Int.natCast_dvd_natCast.mpr h))
          walk_at "gi"
          exact hnx _ _ ⟨L, ps, vs, _, _, rfl, s1, f1, p1, hh.on hd⟩
      obtain ⟨L', ps', vs', x4', x5', rfl, s2, f2, p2, h2⟩ := hM
      walk_at "gi"
      refine ifd (fun c3 => ?_) (fun c3 => ?_)
      · have d22 : d = 2 := by omega
        subst d22
        walk_at "gi"
        exact ⟨u - 1, by omega, 3, L', ps', vs', _, _, by omega, rfl, s2, f2, p2, h2, by decide, .inr rfl⟩
      · walk_at "gi"
        exact ⟨u - 2, by omega, d + 2, L', ps', vs', _, _, by omega, rfl, s2, f2, p2, h2.odd (by omega) (by omega), by omega, .inr (by omega)⟩
    · have c' : L < d * d := by
        refine Nat.lt_of_not_le fun z => c ?_
        have : ((d * d : Nat) : Int) ≤ (L : Int) := by omega
        push_cast at this
        exact this
      walk_at "gi"
      refine ifd (fun c3 => ?_) (fun c3 => ?_)
      · walk_at "gi"
        refine ⟨.inl ⟨rfl, _, SqL.of f1⟩, ?_⟩
        walk_at "gi"
        rename_i t1 ht1
        refine r_app ((Same.new ht1) _ _ f1) (by omega) ?_
        walk_at "gi"
        refine r_tupL (SqL.of upd_same) fun a ha => ?_
        refine q a (ps ++ [(L, 1)]) _ (fun b o eb => ?_) ⟨_, SqT.of upd_same, ?_⟩ (by rw [List.length_append]; simp; omega) (hh.last d2 c' (by omega))
        · have e2 : upd (upd H1 t1 (.tup [.int (L : Int), .int 1])) F (.lst (vs ++ [.ref t1])) b = some o := by
            rw [upd_ne (ne_of_none eb hF)]
            exact (Same.new ht1) _ _ (s1 _ _ eb)
          exact (Same.new ha) _ _ e2
        · rw [show ci (ps ++ [(L, 1)]) = ci ps ++ [((L : Int), (1 : Int))] by simp [ci]]
          exact PairsAt.tt (new_tt ha) (PairsAt.tt (upd_tt ((Same.new ht1) _ _ f1)) (PairsAt.append (p1.tt (new_tt ht1)) (.cons ⟨t1, rfl, SqT.of upd_same⟩ .nil)))
      · walk_at "gi"
        have L1 : L = 1 := by omega
        refine r_tupL (SqL.of f1) fun a ha => ?_
        refine q a ps _ (s1.trans (Same.new ha)) ⟨_, SqT.of upd_same, p1.tt (new_tt ha)⟩ (by omega) ⟨?_, hh.p, hh.s⟩
        have := hh.m
        rw [L1, Nat.mul_one] at this
        exact this
theorem made_dvd : ∀ (ps : List (Nat × Nat)) (a : Nat × Nat), a ∈ ps → 1 ≤ a.2 → a.1 ∣ made ps ∧ a.1 ^ a.2 ∣ made ps
  | [], a, h, _ => by simp at h
  | b :: r, a, h, ha => by
    show a.1 ∣ b.1 ^ b.2 * made r ∧ a.1 ^ a.2 ∣ b.1 ^ b.2 * made r
    rcases List.mem_cons.mp h with e | e
    · subst e
      exact ⟨Nat.dvd_trans (by obtain ⟨k, hk⟩ : ∃ k, a.2 = k + 1 := ⟨a.2 - 1, by omega⟩
                               rw [hk, Nat.pow_succ]
                               exact Nat.dvd_mul_left _ _) (Nat.dvd_mul_right _ _), Nat.dvd_mul_right _ _⟩
    · have := made_dvd r a e ha
      exact ⟨Nat.dvd_trans this.1 (Nat.dvd_mul_left _ _), Nat.dvd_trans this.2 (Nat.dvd_mul_left _ _)⟩
theorem ci_at {ps : List (Nat × Nat)} {i : Nat} {z : Int × Int} (h : (ci ps)[i]? = some z) : ∃ a, ps[i]? = some a ∧ z = ((a.1 : Int), (a.2 : Int)) := by
  unfold ci at h
  rw [List.getElem?_map, Option.map_eq_some_iff] at h
  obtain ⟨a, ha, e⟩ := h
  exact ⟨a, ha, e.symm⟩
end
section
variable {P : Program} {w : World} {K : PySem.W.Frag} {mg : Str → Option Value} {base : Heap}
def sp_raised : Sp := fun vs H Q _ => ∃ p e : Nat, vs = [.int (p : Int), .int (e : Int)] ∧ 1 ≤ p ∧ p ^ e ≤ 1000000000000 ∧ p ≤ 1000000000000 ∧ Q (.int ((p ^ e : Nat) : Int)) H
theorem ok_raised (T : Top K mg) : Ok P w K mg base 1 "raised" s_raised ["number", "times"] sp_raised := by
  refine T.d_raised.ok sc_raised (fun vs H Q E h => ?_) (fun f cdv A outer s H vs Q E hg hr h => ?_)
  · obtain ⟨p, e, rfl, _⟩ := h
    rfl
  · obtain ⟨p, e, rfl, p1, pe, pp, q⟩ := h
    refine ⟨_, (pss_cons (ps_set (i := 2) sc_raised.nd rfl (.inl rfl) pe_int)
    (pss_cons (ps_set (i := 3) sc_raised.nd rfl (.inl rfl) (pv 0))
    (pss_cons (ps_set (i := 4) sc_raised.nd rfl (.inl rfl) (pv 1))
    (pss_cons (ps_while (passes_of rfl) (pt_truth (pv 4) (by intro _; rfl)) (pss_cons (ps_if (pt_truth (pe_op op_odd (pv 4) pe_int) (by intro _; rfl)) (pss_one (ps_aug (i := 2) sc_raised.nd rfl (.inl rfl) (pv 3) ip_mulX)) pss_nil)
    (pss_cons (ps_aug (i := 4) sc_raised.nd rfl (.inl rfl) pe_int ip_half)
    (pss_one (ps_if (pt_truth (pv 4) (by intro _; rfl)) (pss_one (ps_aug (i := 3) sc_raised.nd rfl (.inl rfl) (pv 3) ip_mulX)) pss_nil)))))
    (pss_one (ps_ret (pv 2))))))), ?_⟩
    walk_at "sti"
    refine r_while (fun m σ H' => H' = H ∧ ∃ z f : Nat, σ = [some (.int (p : Int)), some (.int (e : Int)), some (.int (z : Int)), some (.int (f : Int)), some (.int (m : Int))] ∧ 1 ≤ z ∧ 1 ≤ f ∧ f ≤ 1000000000000 ∧ z * f ^ m = p ^ e) e
      ⟨rfl, 1, p, rfl, by decide, p1, pp, by rw [Nat.one_mul]⟩ fun m σ H1 hW => ?_
    obtain ⟨rfl, z, f, rfl, z1, f1, f2, eq⟩ := hW
    walk_at "gi"
    have zl : z ≤ p ^ e := by
      rw [← eq]
      exact Nat.le_mul_of_pos_right z (Nat.pow_pos (by omega))
    by_cases m0 : m = 0
    · subst m0
      rw [if_neg (by simp)]
      walk_at "gi"
      rw [Nat.pow_zero, Nat.mul_one] at eq
      rw [eq]
      exact q
    rw [if_pos (bne_iff_ne.mpr (show (m : Int) ≠ 0 by omega))]
    refine ⟨_, fun _ _ h => h, ?_⟩
    have fl : f ≤ p ^ e := by
      rw [← eq]
      exact Nat.le_trans (Nat.le_self_pow m0 f) (Nat.le_mul_of_pos_left _ (by omega))
    have st := pow_step eq
    walk_at "go"
    refine j_s (fun σ' H2 => H2 = H1 ∧ ∃ z' : Nat, σ' = [some (.int (p : Int)), some (.int (e : Int)), some (.int (z' : Int)), some (.int (f : Int)), some (.int (m : Int))] ∧ 1 ≤ z' ∧ z' * (f * f) ^ (m / 2) = p ^ e) (fun nx' hnx => ?_) (fun σ' H2 hM => ?_)
    · walk_at "gi"
      refine ⟨rfl, ?_⟩
      walk_at "gi"
      by_cases odd : m % 2 = 0
      · rw [odd, if_neg (by simp)]
        walk_at "gi"
        exact hnx _ _ ⟨rfl, z, rfl, z1, st.2 odd⟩
      · have o1 : m % 2 = 1 := by omega
        rw [o1, if_pos (by simp)]
        walk_at "gi"
        have pb : CMulX (z : Int) (f : Int) := bit_mul (a := 64) (b := 64) (bit_of (by omega)) (bit_of (by omega)) (by decide)
        refine r_ipC pb ?_
        walk_at "gi"
        exact hnx _ _ ⟨rfl, z * f, by rw [Int.natCast_mul]; rfl, Nat.mul_pos z1 f1, st.1 o1⟩
    obtain ⟨rfl, z', rfl, z1', eq'⟩ := hM
    walk_at "gi"
    refine r_half ?_
    walk_at "gi"
    rw [show (m : Int) / 2 = ((m / 2 : Nat) : Int) by omega]
    by_cases h0 : m / 2 = 0
    · rw [h0, if_neg (by simp)]
      walk_at "gi"
      exact ⟨0, by omega, rfl, z', f, rfl, z1', f1, f2, by rw [h0] at eq'; simpa using eq'⟩
    · rw [if_pos (bne_iff_ne.mpr (show ((m / 2 : Nat) : Int) ≠ 0 by omega))]
      walk_at "gi"
      have ff : f * f ≤ p ^ e := by
        rw [← eq']
        exact Nat.le_trans (Nat.le_self_pow h0 _) (Nat.le_mul_of_pos_left _ (by omega))
      have pb : CMulX (f : Int) (f : Int) := bit_mul (a := 64) (b := 64) (bit_of (by omega)) (bit_of (by omega)) (by decide)
      refine r_ipC pb ?_
      walk_at "gi"
      exact ⟨m / 2, by omega, rfl, z', f * f, by rw [Int.natCast_mul]; rfl, z1', Nat.mul_pos f1 f1, by omega, eq'⟩
theorem cyc_len (a : Nat × Nat) : (cyc a).length ≤ 2 := by
  unfold cyc
  split <;> simp
theorem cycs_len : ∀ ps : List (Nat × Nat), (cycs ps).length ≤ 2 * ps.length
  | [] => by simp [cycs]
  | a :: r => by
    have h1 := cyc_len a
    have h2 := cycs_len r
    rw [show cycs (a :: r) = cyc a ++ cycs r by simp [cycs], List.length_append, List.length_cons]
    omega
theorem lenle {α : Type} {l : List α} {n : Nat} (h : l.length ≤ n) (hn : n < 100000) : l.length < sizeLine := Nat.lt_of_lt_of_le (Nat.lt_of_le_of_lt h hn) (by decide)
theorem at_first {H : Hp} {l : Addr} (nl : H l = none) : upd H l (.lst []) l = some (.lst []) := upd_same
def sp_cycles (K : PySem.W.Frag) : Sp := fun vs H Q _ => ∃ n : Nat, vs = [.int (n : Int)] ∧ 1 ≤ n ∧ n ≤ 1000000000000 ∧ ∀ l ps H', Same H H' → H l = none → H' l = some (.lst ((cycs ps).map fun m : Nat => V.int (m : Int))) → (cycs ps).length ≤ 82 → Apart ps n → Q (.ref l) H'
theorem ok_cycles (T : Top K mg) : Ok P w K mg base 6 "cycles" s_cycles ["base"] (sp_cycles K) := by
  have G_apart := ok_apart (P := P) (w := w) (base := base) T
  have G_raised := ok_raised (P := P) (w := w) (base := base) T
  refine T.d_cycles.ok sc_cycles (fun vs H Q E h => ?_) (fun f cdv A outer s H vs Q E hg hr h => ?_)
  · obtain ⟨n, rfl, _⟩ := h
    rfl
  · obtain ⟨n, rfl, n1, n2, q⟩ := h
    refine ⟨_, (pss_cons (ps_set (i := 1) sc_cycles.nd rfl (.inl rfl) (pe_lst pa_nil))
    (pss_cons (ps_for (passes_of rfl) rfl (i_tup' rfl (pe_g G_apart (fun _ _ F => bd_apart F) hg (hr.mono (by decide)) passL (by rfl) (pa_cons (pv 0) pa_nil))) (g_tup rfl rfl (pgs_cons (pg_name (i := 2) sc_cycles.nd rfl (.inl rfl)) (pgs_cons (pg_name (i := 3) sc_cycles.nd rfl (.inl rfl)) pgs_nil)) rfl rfl) (pss_one (ps_if (PW.pt (pw_and (pt_cmpR op_eqZ (pv 2) pe_int (nomark _)) (pw_and1 (pt_cmpR op_gt (pv 3) pe_int (nomark _))))) (pss_cons (ps_expr (pe_bm PySem.F.plainAttrs_list PySem.F.slot_list_append PySem.F.type_list_append mt_append (pv 1) (pa_cons pe_int pa_nil)))
    (pss_one (ps_expr (pe_bm PySem.F.plainAttrs_list PySem.F.slot_list_append PySem.F.type_list_append mt_append (pv 1) (pa_cons (pe_g G_raised (fun _ _ F => bd_raised F) hg (hr.mono (by decide)) passL (by rfl) (pa_cons pe_int (pa_cons (pe_op op_sub (pv 3) pe_int) pa_nil))) pa_nil))))) (pss_one (ps_expr (pe_bm PySem.F.plainAttrs_list PySem.F.slot_list_append PySem.F.type_list_append mt_append (pv 1) (pa_cons (pe_op op_mulX (pe_op op_sub (pv 2) pe_int) (pe_g G_raised (fun _ _ F => bd_raised F) hg (hr.mono (by decide)) passL (by rfl) (pa_cons (pv 2) (pa_cons (pe_op op_sub (pv 3) pe_int) pa_nil)))) pa_nil)))))))
    (pss_one (ps_ret (pv 1))))), ?_⟩
    walk_at "sti"
    rename_i l nl
    refine ⟨n, rfl, n1, n2, fun a ps H1 s1 hf hl A => ?_⟩
    walk_at "gi"
    obtain ⟨vs, sv, pb⟩ := hf
    refine ⟨⟨_, sv⟩, ?_⟩
    have hvl : vs.length = ps.length := by rw [pb.length]; simp [ci]
    have e0 := s1 _ _ (at_first nl)
    refine r_forTs vs (fun i σ H' => ∃ x2 x3, σ = [some (.int (n : Int)), some (.ref l), x2, x3] ∧ Kx l H1 H' ∧ H' l = some (.lst ((cycs (ps.take i)).map fun m : Nat => V.int (m : Int))))
      ⟨_, _, rfl, Kx.refl _, e0⟩ (fun i σ H' hi hP => ?_) (fun i v σ H' hi hP => ?_) (fun σ H' hP => ?_)
    · obtain ⟨x2, x3, rfl, y2, _⟩ := hP
      exact y2.tt e0 _ _ _ sv
    · obtain ⟨x2, x3, rfl, y2, el⟩ := hP
      obtain ⟨z, hz, t, rfl, st⟩ := pb.get hi
      obtain ⟨c, hc, rfl⟩ := ci_at hz
      have hcm := List.mem_of_getElem? hc
      have h1 := A.p c hcm
      have c2 := h1.1.1
      have cp := Nat.le_of_dvd (by omega) (by rw [← A.m]; exact (made_dvd ps c hcm h1.2).2 : c.1 ^ c.2 ∣ n)
      have c3 : c.1 ^ (c.2 - 1) ≤ c.1 ^ c.2 := Nat.pow_le_pow_right (by omega) (by omega)
      have c4 : c.1 ≤ c.1 ^ c.2 := Nat.le_self_pow (by omega) _
      have tk : ps.take (i + 1) = ps.take i ++ [c] := by rw [List.take_add_one, hc]; rfl
      have hlen := cycs_len (ps.take i)
      rw [List.length_take] at hlen
      rw [tk, cycs_snoc, List.map_append]
      refine r_gtup (y2.tt e0 _ _ _ st) rfl ?_
      walk_at "gi"
      refine ifd (fun k1 => ?_) (fun k1 => ?_)
      · walk_at "gi"
        refine ifd (fun k2 => ?_) (fun k2 => ?_)
        · have cy : cyc c = [2, 2 ^ (c.2 - 2)] := if_pos ⟨by omega, by omega⟩
          have c5 : 2 ^ (c.2 - 2) ≤ c.1 ^ c.2 := by
            rw [show c.1 = 2 by omega]
            exact Nat.pow_le_pow_right (by decide) (by omega)
          rw [cy]
          walk_at "gi"
          refine ⟨.inl ⟨rfl, _, SqL.of el⟩, ?_⟩
          walk_at "gi"
          refine r_app el (by rw [List.length_map]; omega) ?_
          walk_at "gi"
          refine ⟨.inl ⟨rfl, _, SqL.of upd_same⟩, ?_⟩
          walk_at "gi"
          rw [show (c.2 : Int) - 2 = ((c.2 - 2 : Nat) : Int) by omega]
          refine ⟨2, c.2 - 2, rfl, by decide, by omega, by decide, ?_⟩
          walk_at "gi"
          refine r_app upd_same (by rw [List.length_append, List.length_map]; simp only [List.length_singleton]; omega) ?_
          walk_at "gi"
          refine ⟨(y2.trans Kx.upd).trans Kx.upd, ?_⟩
          rw [List.append_assoc]
          exact upd_same
        · walk_at "gi"
          have cy : cyc c = [(c.1 - 1) * c.1 ^ (c.2 - 1)] := if_neg fun z => absurd z.2 (by omega)
          rw [cy]
          walk_at "gi"
          refine ⟨.inl ⟨rfl, _, SqL.of el⟩, ?_⟩
          walk_at "gi"
          rw [show (c.2 : Int) - 1 = ((c.2 - 1 : Nat) : Int) by omega]
          refine ⟨c.1, c.2 - 1, rfl, by omega, by omega, by omega, ?_⟩
          have pb : CMulX ((c.1 : Int) - 1) ((c.1 ^ (c.2 - 1) : Nat) : Int) := bit_mul (a := 64) (b := 64) (bit_of (by omega)) (bit_of (by omega)) (by decide)
          refine r_rI pb ?_
          walk_at "gi"
          refine r_app el (by rw [List.length_map]; omega) ?_
          walk_at "gi"
          refine ⟨y2.trans Kx.upd, ?_⟩
          rw [show ((c.1 : Int) - 1) * ((c.1 ^ (c.2 - 1) : Nat) : Int) = (((c.1 - 1) * c.1 ^ (c.2 - 1) : Nat) : Int) by rw [Int.natCast_mul]; congr 1; omega]
          exact upd_same
      · walk_at "gi"
        have cy : cyc c = [(c.1 - 1) * c.1 ^ (c.2 - 1)] := if_neg fun z => absurd z.1 (by omega)
        rw [cy]
        walk_at "gi"
        refine ⟨.inl ⟨rfl, _, SqL.of el⟩, ?_⟩
        walk_at "gi"
        rw [show (c.2 : Int) - 1 = ((c.2 - 1 : Nat) : Int) by omega]
        refine ⟨c.1, c.2 - 1, rfl, by omega, by omega, by omega, ?_⟩
        have pb : CMulX ((c.1 : Int) - 1) ((c.1 ^ (c.2 - 1) : Nat) : Int) := bit_mul (a := 64) (b := 64) (bit_of (by omega)) (bit_of (by omega)) (by decide)
        refine r_rI pb ?_
        walk_at "gi"
        refine r_app el (by rw [List.length_map]; omega) ?_
        walk_at "gi"
        refine ⟨y2.trans Kx.upd, ?_⟩
        rw [show ((c.1 : Int) - 1) * ((c.1 ^ (c.2 - 1) : Nat) : Int) = (((c.1 - 1) * c.1 ^ (c.2 - 1) : Nat) : Int) by rw [Int.natCast_mul]; congr 1; omega]
        exact upd_same
    · obtain ⟨x2, x3, rfl, y2, el⟩ := hP
      walk_at "gi"
      rw [hvl, List.take_length] at el
      have hlen := cycs_len ps
      exact q l ps H' (fun b o e => y2 _ _ (ne_of_none e nl) (s1 _ _ (Same.new nl _ _ e))) nl el (by omega) A
def sp_clen : Sp := fun vs H Q _ => ∃ n : Nat, vs = [.int (n : Int)] ∧ 1 ≤ n ∧ n ≤ 1000000000000 ∧ ∀ ps H', Same H H' → Apart ps n → Q (.int (lcs (cycs ps) : Int)) H'
theorem ok_common_length (T : Top K mg) : Ok P w K mg base 7 "common_length" s_common_length ["base"] sp_clen := by
  have G_cycles := ok_cycles (P := P) (w := w) (base := base) T
  refine T.d_common_length.ok sc_common_length (fun vs H Q E h => ?_) (fun f cdv A outer s H vs Q E hg hr h => ?_)
  · obtain ⟨n, rfl, _⟩ := h
    rfl
  · obtain ⟨n, rfl, n1, n2, q⟩ := h
    refine ⟨_, (pss_cons (ps_set (i := 1) sc_common_length.nd rfl (.inl rfl) pe_int)
    (pss_cons (ps_for (passes_of rfl) rfl (i_list rfl (pe_g G_cycles (fun _ _ F => bd_cycles F) hg (hr.mono (by decide)) passL (by rfl) (pa_cons (pv 0) pa_nil))) (pg_name (i := 2) sc_common_length.nd rfl (.inl rfl)) (pss_one (ps_set (i := 1) sc_common_length.nd rfl (.inl rfl) (pe_callBfun (id := "math.lcm") cr_lcm (by rfl) T.m_lcm (pa_cons (pv 1) (pa_cons (pv 2) pa_nil))))))
    (pss_one (ps_ret (pv 1))))), ?_⟩
    walk_at "sti"
    refine ⟨n, rfl, n1, n2, fun l ps H1 s1 nl el hl A => ?_⟩
    walk_at "gi"
    refine r_forLs ((cycs ps).map fun m : Nat => V.int (m : Int)) (fun i σ H' => ∃ x2, σ = [some (.int (n : Int)), some (.int (lcs ((cycs ps).take i) : Int)), x2] ∧ H' = H1)
      ⟨_, rfl, rfl⟩ (fun i σ H' hi hP => ?_) (fun i v σ H' hi hP => ?_) (fun σ H' hP => ?_)
    · obtain ⟨x2, rfl, rfl⟩ := hP
      exact SqL.of el
    · obtain ⟨x2, rfl, rfl⟩ := hP
      obtain ⟨c, hc, rfl⟩ : ∃ c : Nat, (cycs ps)[i]? = some c ∧ v = .int (c : Int) := by
        rw [List.getElem?_map] at hi
        cases e : (cycs ps)[i]? with
        | none => rw [e] at hi; cases hi
        | some c =>
          rw [e] at hi
          exact ⟨c, rfl, (Option.some.inj hi).symm⟩
      rw [List.take_add_one, hc, Option.toList_some, lcs_snoc]
      walk_at "gi"
      have h0 := A.length
      have d1 : lcs ((cycs ps).take i) ∣ lcs (cycs ps) := fl_least _ 1 _ (Nat.one_dvd _) fun m hm => lcs_dvd (List.mem_of_mem_take hm)
      have l1 := Nat.le_of_dvd h0.1 d1
      have l2 := Nat.le_of_dvd h0.1 (lcs_dvd (List.mem_of_getElem? hc))
      have big : (2 : Nat) ^ 64 ≤ 2 ^ 9000 := Nat.pow_le_pow_right (by decide) (by decide)
      refine r_lcm (Nat.lt_of_lt_of_le (show _ < 2 ^ 64 by omega) big) (Nat.lt_of_lt_of_le (show _ < 2 ^ 64 by omega) big) ?_
      rw [Int.natAbs_natCast, Int.natAbs_natCast]
      walk_at "gi"
    · obtain ⟨x2, rfl, rfl⟩ := hP
      walk_at "gi"
      rw [List.length_map, List.take_length]
      exact q ps _ s1 A
theorem one_iff {n : Nat} {x : Int} {k : Nat} : x ^ k % (n : Int) = 1 % (n : Int) ↔ One n (x ^ k) := One.of_mod.symm
end
section
variable {P : Program} {w : World} {K : PySem.W.Frag} {mg : Str → Option Value} {base : Heap}
def sp_power_rest : Sp := fun vs H Q _ => ∃ (x n : Int) (t : Nat), vs = [.int x, .int (t : Int), .int n] ∧ Nr x ∧ t ≤ 10 ^ 40 ∧ Ba n ∧ Q (.int (x ^ t % n)) H
theorem ok_power_rest (T : Top K mg) : Ok P w K mg base 5 "power_rest" s_power_rest ["number", "power", "base"] sp_power_rest := by
  have G_check_number := ok_check_number (P := P) (w := w) (base := base) T
  have G__check_power := ok__check_power (P := P) (w := w) (base := base) T
  have G_check_within := ok_check_within (P := P) (w := w) (base := base) T
  have G_raised_by := ok_raised_by (P := P) (w := w) (base := base) T
  refine T.d_power_rest.ok sc_power_rest (fun vs H Q E h => ?_) (fun f cdv A outer s H vs Q E hg hr h => ?_)
  · obtain ⟨x, n, t, rfl, _⟩ := h
    rfl
  · obtain ⟨x, n, t, rfl, hx, ht, hn, q⟩ := h
    refine ⟨_, (pss_cons (ps_expr (pe_g G_check_number (fun _ _ F => bd_check_number F) hg (hr.mono (by decide)) passL (by rfl) (pa_cons (pv 0) pa_nil)))
    (pss_cons (ps_expr (pe_g G__check_power (fun _ _ F => bd__check_power F) hg (hr.mono (by decide)) passL (by rfl) (pa_cons (pv 1) pa_nil)))
    (pss_cons (ps_expr (pe_g G_check_within (fun _ _ F => bd_check_within F) hg (hr.mono (by decide)) passL (by rfl) (pa_cons (pv 2) (pa_cons pe_int (pa_cons (pe_gi T.c_MOST_FACT (by rfl)) pa_nil)))))
    (pss_one (ps_ret (pe_g G_raised_by (fun _ _ F => bd_raised_by F) hg (hr.mono (by decide)) passL (by rfl) (pa_cons (pv 0) (pa_cons (pv 1) (pa_cons (pv 2) pa_nil))))))))), ?_⟩
    walk_at "sti"
    refine ⟨x, rfl, hx.1, hx.2, ?_⟩
    walk_at "gi"
    refine ⟨(t : Int), rfl, by omega, by omega, ?_⟩
    walk_at "gi"
    refine ⟨n, _, _, rfl, hn.1, hn.2, ?_⟩
    walk_at "gi"
    exact ⟨x, n, t, rfl, hx, hn, q⟩
theorem gcd_flip (x n : Int) : Nat.gcd x.natAbs n.natAbs = Nat.gcd n.natAbs x.natAbs := Nat.gcd_comm _ _
def sp_is_open : Sp := fun vs H Q _ => ∃ x n : Int, vs = [.int x, .int n] ∧ Nr x ∧ Ba n ∧ Q (.bl (decide (Nat.gcd x.natAbs n.natAbs = 1))) H
theorem ok_is_open (T : Top K mg) : Ok P w K mg base 5 "is_open" s_is_open ["number", "base"] sp_is_open := by
  have G_check_number := ok_check_number (P := P) (w := w) (base := base) T
  have G_check_within := ok_check_within (P := P) (w := w) (base := base) T
  refine T.d_is_open.ok sc_is_open (fun vs H Q E h => ?_) (fun f cdv A outer s H vs Q E hg hr h => ?_)
  · obtain ⟨x, n, rfl, _⟩ := h
    rfl
  · obtain ⟨x, n, rfl, hx, hn, q⟩ := h
    refine ⟨_, (pss_cons (ps_expr (pe_g G_check_number (fun _ _ F => bd_check_number F) hg (hr.mono (by decide)) passL (by rfl) (pa_cons (pv 0) pa_nil)))
    (pss_cons (ps_expr (pe_g G_check_within (fun _ _ F => bd_check_within F) hg (hr.mono (by decide)) passL (by rfl) (pa_cons (pv 1) (pa_cons pe_int (pa_cons (pe_gi T.c_MOST_FACT (by rfl)) pa_nil)))))
    (pss_one (ps_ret (pe_cmpR op_eqZ (pe_callBfun (id := "math.gcd") cr_gcd (by rfl) T.m_gcd (pa_cons (pv 0) (pa_cons (pv 1) pa_nil))) pe_int (nomark _)))))), ?_⟩
    walk_at "sti"
    refine ⟨x, rfl, hx.1, hx.2, ?_⟩
    walk_at "gi"
    refine ⟨n, _, _, rfl, hn.1, hn.2, ?_⟩
    walk_at "gi"
    rw [show decide (((Nat.gcd x.natAbs n.natAbs : Nat) : Int) = 1) = decide (Nat.gcd x.natAbs n.natAbs = 1) from decide_eq_decide.mpr ⟨fun z => by omega, fun z => by omega⟩]
    exact q
def sp_lcommon : Sp := fun vs H Q _ => ∃ a b : Int, vs = [.int a, .int b] ∧ Q (.int ((Nat.gcd a.natAbs b.natAbs : Nat) : Int)) H
theorem ok__law_common (T : Top K mg) : Ok P w K mg base 1 "_law_common" s__law_common ["_law_a", "_law_b"] sp_lcommon := by
  refine T.d__law_common.ok sc__law_common (fun vs H Q E h => ?_) (fun f cdv A outer s H vs Q E hg hr h => ?_)
  · obtain ⟨a, b, rfl, _⟩ := h
    rfl
  · obtain ⟨a, b, rfl, q⟩ := h
    refine ⟨_, (pss_cons (ps_par (i := 0) (j := 1) (by rfl) sc__law_common.nd rfl rfl (by decide) rfl rfl (pa_cons (pe_callB (id := "abs") c_abs (by rfl) T.b_abs (by decide +kernel) (pa_cons (pv 0) pa_nil)) (pa_cons (pe_callB (id := "abs") c_abs (by rfl) T.b_abs (by decide +kernel) (pa_cons (pv 1) pa_nil)) pa_nil)) (by rfl))
    (pss_cons (ps_while (passes_of rfl) (pt_cmpR op_gt (pv 1) pe_int (nomark _)) (pss_one (ps_par (i := 0) (j := 1) (by rfl) sc__law_common.nd rfl rfl (by decide) rfl rfl (pa_cons (pv 1) (pa_cons (pe_op op_mod (pe_callTy (T := "int") c_int (by rfl) T.b_int (by decide +kernel) (pa_cons (pv 0) pa_nil)) (pv 1)) pa_nil)) (by rfl))))
    (pss_one (ps_ret (pv 0))))), ?_⟩
    walk_at "st"
    refine r_while (fun m σ H' => H' = H ∧ ∃ x : Nat, σ = [some (.int (x : Int)), some (.int (m : Int))] ∧ Nat.gcd x m = Nat.gcd a.natAbs b.natAbs) b.natAbs ?_ (fun m σ H' hW => ?_)
    · exact ⟨rfl, a.natAbs, rfl, rfl⟩
    · obtain ⟨rfl, x, rfl, e⟩ := hW
      walk_at "go"
      refine ifd (fun c => ?_) (fun c => ?_)
      · walk_at "gi"
        refine r_rI c ?_
        walk_at "gi"
        refine ⟨x % m, Nat.mod_lt _ (by omega), rfl, m, rfl, ?_⟩
        rw [Nat.gcd_comm, ← Nat.gcd_rec, Nat.gcd_comm]
        exact e
      · walk_at "gi"
        have m0 : m = 0 := by omega
        subst m0
        rw [Nat.gcd_zero_right] at e
        rw [e]
        exact q
def sp_lraised : Sp := fun vs H Q _ => ∃ (x n : Int) (k : Nat), vs = [.int x, .int (k : Int), .int n] ∧ x.natAbs < 2 ^ 200 ∧ k ≤ 10 ^ 40 ∧ Ba n ∧ Q (.int (x ^ k % n)) H
theorem ok__law_raised (T : Top K mg) : Ok P w K mg base 1 "_law_raised" s__law_raised ["_law_x", "_law_k", "_law_n"] sp_lraised := by
  refine T.d__law_raised.ok sc__law_raised (fun vs H Q E h => ?_) (fun f cdv A outer s H vs Q E hg hr h => ?_)
  · obtain ⟨x, n, k, rfl, _⟩ := h
    rfl
  · obtain ⟨x, n, k, rfl, hx, hk, hn, q⟩ := h
    have n0 : 0 < n := by have := hn.1; omega
    have hn2 := hn.2
    refine ⟨_, (pss_cons (ps_set (i := 3) sc__law_raised.nd rfl (.inl rfl) (pe_op op_mod (pe_callTy (T := "int") c_int (by rfl) T.b_int (by decide +kernel) (pa_cons pe_int pa_nil)) (pv 2)))
    (pss_cons (ps_for (passes_of rfl) rfl (pi_str (pe_callTy (T := "str") call_str_int (by rfl) T.b_str (by decide +kernel) (pa_cons (pv 1) pa_nil))) (pg_name (i := 4) sc__law_raised.nd rfl (.inl rfl)) (pss_cons (ps_set (i := 5) sc__law_raised.nd rfl (.inl rfl) (pv 3))
    (pss_cons (ps_for (passes_of rfl) rfl (pi_range1 (by rfl) T.b_range (pa_cons pe_int pa_nil)) (pg_name (i := 6) sc__law_raised.nd rfl (.inl rfl)) (pss_one (ps_set (i := 5) sc__law_raised.nd rfl (.inl rfl) (pe_op op_mod (pe_callTy (T := "int") c_int (by rfl) T.b_int (by decide +kernel) (pa_cons (pe_op op_mulX (pv 5) (pv 3)) pa_nil)) (pv 2)))))
    (pss_cons (ps_for (passes_of rfl) rfl (pi_range1 (by rfl) T.b_range (pa_cons (pe_callTy (T := "int") call_int_str (by rfl) T.b_int (by decide +kernel) (pa_cons (pv 4) pa_nil)) pa_nil)) (pg_name (i := 6) sc__law_raised.nd rfl (.inl rfl)) (pss_one (ps_set (i := 5) sc__law_raised.nd rfl (.inl rfl) (pe_op op_mod (pe_callTy (T := "int") c_int (by rfl) T.b_int (by decide +kernel) (pa_cons (pe_op op_mulX (pv 5) (pv 0)) pa_nil)) (pv 2)))))
    (pss_one (ps_set (i := 3) sc__law_raised.nd rfl (.inl rfl) (pv 5)))))))
    (pss_one (ps_ret (pv 3))))), ?_⟩
    walk_at "st"
    refine r_rI n0 ?_
    walk_at "go"
    refine r_forStr ?_
    walk_at "go"
    refine ⟨Nat.lt_of_lt_of_le (log_lim (n := ((k : Nat) : Int).natAbs) (k := 140) (by omega) (by decide)) (by decide), sgn k, rfl, ?_⟩
    refine r_forSs (fun i σ H' => H' = H ∧ ∃ (f : Int) (x4 x5 x6 : Option V), σ = [some (.int x), some (.int (k : Int)), some (.int n), some (.int f), x4, x5, x6] ∧ f = x ^ dv k i % n) ?_ (fun i c σ H' hc hP => ?_) (fun σ H' hP => ?_)
    · exact ⟨rfl, _, none, none, none, rfl, by rw [dv_zero, Int.pow_zero]⟩
    · obtain ⟨rfl, f, x4, x5, x6, rfl, ef⟩ := hP
      obtain ⟨c1, c2⟩ := sgn_digit hc
      obtain ⟨f0, f1, fb⟩ := mod_lt (a := x ^ dv k i) hn
      walk_at "go"
      have nx2 : x.natAbs < 2 ^ 200 := hx
      refine ⟨by decide, by decide, ?_⟩
      refine r_forR (fun l σ H2 => H2 = H' ∧ ∃ (g : Int) (x6 : Option V), σ = [some (.int x), some (.int (k : Int)), some (.int n), some (.int f), some (.str ⟨#[c]⟩), some (.int g), x6] ∧ 0 ≤ g ∧ g < n ∧ g = (x ^ dv k i) ^ (l + 1) % n)
        ⟨rfl, f, x6, rfl, by rw [ef]; exact f0, by rw [ef]; exact f1, by rw [ef, Int.pow_succ, Int.pow_zero, Int.one_mul]⟩ (fun l σ H2 hl hP => ?_) (fun σ H2 hP => ?_)
      · obtain ⟨rfl, g, x6, rfl, g0, g1, eg⟩ := hP
        walk_at "go"
        refine r_rI (bit_mul (a := 100) (b := 100) (bit_of (by omega)) (bit_of (by rw [ef]; exact fb)) (by decide)) ?_
        walk_at "go"
        refine r_rI n0 ?_
        walk_at "go"
        obtain ⟨h0, h1, _⟩ := mod_lt (a := g * f) hn
        refine ⟨rfl, _, _, rfl, h0, h1, ?_⟩
        rw [Int.pow_succ (x ^ dv k i) (l + 1)]
        exact Vf.cg_mul (by rw [eg, Vf.cg_mod]) (by rw [ef, Vf.cg_mod])
      · obtain ⟨rfl, g, x6, rfl, g0, g1, eg⟩ := hP
        walk_at "go"
        refine ⟨_, _, rfl, Vf.one_sign c1 c2, (by decide : 1 ≤ 640), ?_⟩
        walk_at "go"
        refine ⟨by omega, by omega, ?_⟩
        rw [Int.toNat_natCast]
        refine r_forR (fun l σ H3 => H3 = H2 ∧ ∃ (g : Int) (x6 : Option V), σ = [some (.int x), some (.int (k : Int)), some (.int n), some (.int f), some (.str ⟨#[c]⟩), some (.int g), x6] ∧ 0 ≤ g ∧ g < n ∧ g = x ^ (dv k i * 10 + l) % n)
          ⟨rfl, g, x6, rfl, g0, g1, by rw [eg, ← Int.pow_mul]; rfl⟩ (fun l σ H3 hl hP => ?_) (fun σ H3 hP => ?_)
        · obtain ⟨rfl, g, x6, rfl, g0, g1, eg⟩ := hP
          walk_at "go"
          refine r_rI (bit_mul (a := 100) (b := 200) (bit_of (by omega)) (bit_of (by omega)) (by decide)) ?_
          walk_at "go"
          refine r_rI n0 ?_
          walk_at "go"
          obtain ⟨h0, h1, _⟩ := mod_lt (a := g * x) hn
          refine ⟨rfl, _, _, rfl, h0, h1, ?_⟩
          rw [← Nat.add_assoc, Int.pow_succ]
          exact Vf.cg_mul (by rw [eg, Vf.cg_mod]) rfl
        · obtain ⟨rfl, g, x6, rfl, g0, g1, eg⟩ := hP
          walk_at "go"
          exact ⟨rfl, _, _, _, _, rfl, by rw [eg, dv_next hc]⟩
    · obtain ⟨rfl, f, x4, x5, x6, rfl, ef⟩ := hP
      walk_at "go"
      rw [ef, dv_all]
      exact q
def sp_great : Sp := fun vs H Q _ => ∃ (k : Addr) (u : Int) (n : Nat), vs = [.ref k, .int u] ∧ Mug n k H ∧ n ≤ 2 ^ 59 ∧ 0 ≤ u ∧
  ∀ (x : Nat) H', (x : Int) ≤ u → Kx k H H' → Mug (n + 12) k H' → Q (.int (x : Int)) H'
theorem i_great {k : Addr} {u : Int} {H : Hp} {Q : VK} {E : XK} (n : Nat) (hk : Mug n k H) (hn : n ≤ 2 ^ 59) (h0 : 0 ≤ u)
    (q : ∀ (x : Nat) H', (x : Int) ≤ u → Kx k H H' → Mug (n + 12) k H' → Q (.int (x : Int)) H') : sp_great [.ref k, .int u] H Q E := ⟨k, u, n, rfl, hk, hn, h0, q⟩
theorem ok__law_great (T : Top K mg) : Ok P w K mg base 2 "_law_great" s__law_great ["_law_mug_here", "_law_top"] sp_great := by
  have G__law_sip := ok__law_sip (P := P) (w := w) (base := base) T
  refine T.d__law_great.ok sc__law_great (fun vs H Q E h => ?_) (fun f cdv A outer s H vs Q E hg hr h => ?_)
  · obtain ⟨k, u, n, rfl, _⟩ := h
    rfl
  · obtain ⟨k, u, n, rfl, hk, hn, h0, q⟩ := h
    have E60 := e60
    have E59 := e59
    refine ⟨_, (pss_cons (ps_set (i := 2) sc__law_great.nd rfl (.inl rfl) pe_int)
    (pss_cons (ps_for (passes_of rfl) rfl (pi_range1 (by rfl) T.b_range (pa_cons (pe_op op_add pe_int (pe_g G__law_sip (fun _ _ F => bd__law_sip F) hg (hr.mono (by decide)) passL (by rfl) (pa_cons (pv 0) (pa_cons pe_int pa_nil)))) pa_nil)) (pg_name (i := 3) sc__law_great.nd rfl (.inl rfl)) (pss_one (ps_set (i := 2) sc__law_great.nd rfl (.inl rfl) (pe_op op_add (pe_op op_mulX pe_int (pv 2)) (pe_g G__law_sip (fun _ _ F => bd__law_sip F) hg (hr.mono (by decide)) passL (by rfl) (pa_cons (pv 0) (pa_cons pe_int pa_nil)))))))
    (pss_one (ps_ret (pe_callB (id := "min") (c_min2 rfl) (by rfl) T.b_min (by decide +kernel) (pa_cons (pv 2) (pa_cons (pv 1) pa_nil))))))), ?_⟩
    walk_at "st"
    refine i_sip n hk (by omega) (by decide) (by decide) fun m H1 m0 m1 x1 k1 => ?_
    walk_at "go"
    refine ⟨by omega, by omega, ?_⟩
    have hm : (1 + m).toNat ≤ 10 := by omega
    generalize (1 + m).toNat = r at *
    refine r_forR (fun i σ H' => ∃ (x : Nat) (x3 : Option V), σ = [some (.ref k), some (.int u), some (.int (x : Int)), x3] ∧ x < 10000 ^ i ∧ Kx k H H' ∧ Mug (n + 1 + i) k H')
      ⟨0, none, rfl, by decide, x1, k1⟩ (fun i σ H' hi hP => ?_) (fun σ H' hP => ?_)
    · obtain ⟨x, x3, rfl, xl, x2, k2⟩ := hP
      have p10 : 10000 ^ i ≤ 10000 ^ 10 := Nat.pow_le_pow_right (by decide) (by omega)
      have p11 : (10000 : Nat) ^ 10 = 10000000000000000000000000000000000000000 := by decide
      walk_at "go"
      refine r_rI (bit_mul (a := 20) (b := 140) (bit_of (by decide)) (bit_of (by omega)) (by decide)) ?_
      walk_at "go"
      refine i_sip _ k2 (by omega) (by decide) (by decide) fun y H3 y0 y1 x4 k3 => ?_
      walk_at "go"
      obtain ⟨y', rfl⟩ := Int.eq_ofNat_of_zero_le y0
      refine ⟨10000 * x + y', _, rfl, ?_, x2.trans x4, k3⟩
      rw [Nat.pow_succ]
      omega
    · obtain ⟨x, x3, rfl, xl, x2, k2⟩ := hP
      walk_at "go"
      rw [show min (x : Int) u = ((min x u.toNat : Nat) : Int) by omega]
      exact q _ _ (by omega) x2 (k2.mono (by omega))
theorem e12 : (10 : Int) ^ 12 = 1000000000000 := by decide
def sp_check_open (C : Addr) : Sp := fun vs H Q E => ∃ (x : Int) (n : Nat), vs = [.int x, .int (n : Int)] ∧ Nr x ∧ 1 ≤ n ∧ n ≤ 1000000000000 ∧
  (Nat.gcd x.natAbs n = 1 → Q .non H) ∧ (Nat.gcd x.natAbs n ≠ 1 → ∀ d, H d = none → E (.ref C) (some d) (upd H d (.xd [("given", .int x)])))
theorem ok__check_open (T : Top K mg) : Ok P w K mg base 5 "_check_open" s__check_open ["number", "base"] (sp_check_open (cA mg "NotOpen")) := by
  have G_check_number := ok_check_number (P := P) (w := w) (base := base) T
  have G_check_base := ok_check_base (P := P) (w := w) (base := base) T
  refine T.d__check_open.ok sc__check_open (fun vs H Q E h => ?_) (fun f cdv A outer s H vs Q E hg hr h => ?_)
  · obtain ⟨x, n, rfl, _⟩ := h
    rfl
  · obtain ⟨x, n, rfl, hx, n1, n2, q1, q2⟩ := h
    have E12 := e12
    refine ⟨_, (pss_cons (ps_expr (pe_g G_check_number (fun _ _ F => bd_check_number F) hg (hr.mono (by decide)) passL (by rfl) (pa_cons (pv 0) pa_nil)))
    (pss_cons (ps_expr (pe_g G_check_base (fun _ _ F => bd_check_base F) hg (hr.mono (by decide)) passL (by rfl) (pa_cons (pv 1) pa_nil)))
    (pss_one (ps_if (pt_cmpR op_neZ (pe_callBfun (id := "math.gcd") cr_gcd (by rfl) T.m_gcd (pa_cons (pv 0) (pa_cons (pv 1) pa_nil))) pe_int (nomark _)) (pss_one (ps_raise rfl (takes_of rfl rfl rfl rfl) (mk_NotOpen T (hr.mono (by decide)) (pa_cons (pv 0) pa_nil) (by rfl)))) pss_nil)))), ?_⟩
    walk_at "sti"
    refine ⟨x, rfl, hx.1, hx.2, ?_⟩
    walk_at "gi"
    refine ⟨(n : Int), rfl, by omega, by omega, ?_⟩
    walk_at "gi"
    refine ifnd (fun c => ?_) (fun c => ?_)
    · walk_at "gi"
      exact fun d hd => q2 (fun z => c (by rw [Int.natAbs_natCast, z]; rfl)) d hd
    · walk_at "gi"
      exact q1 (by rw [Int.natAbs_natCast] at c; omega)
theorem prd_snoc (l : List Nat) (c : Nat) : prd (l ++ [c]) = prd l * c := by
  rw [prd_app]
  simp [prd]
end
section
variable {P : Program} {w : World} {K : PySem.W.Frag} {mg : Str → Option Value} {base : Heap}
/-! ### parts -/
def nats (l : List Nat) : List V := l.map fun m : Nat => V.int (m : Int)
theorem nats_app (l m : List Nat) : nats (l ++ m) = nats l ++ nats m := List.map_append ..
theorem nats_len (l : List Nat) : (nats l).length = l.length := List.length_map ..
theorem nats_at {l : List Nat} {i : Nat} {v : V} (h : (nats l)[i]? = some v) : ∃ a, l[i]? = some a ∧ v = .int (a : Int) := by
  unfold nats at h
  rw [List.getElem?_map] at h
  cases e : l[i]? with
  | none => rw [e] at h; cases h
  | some a =>
    rw [e] at h
    exact ⟨a, rfl, (Option.some.inj h).symm⟩
theorem nats_get {l : List Nat} {i a : Nat} (h : l[i]? = some a) : (nats l)[i]? = some (.int (a : Int)) := by
  unfold nats
  rw [List.getElem?_map, h]
  rfl
theorem nats_set (l : List Nat) (i a : Nat) : (nats l).set i (.int (a : Int)) = nats (l.set i a) := by
  unfold nats
  rw [List.map_set]
theorem set_mid {α : Type} : ∀ (l m : List α) (a b : α), (l ++ a :: m).set l.length b = l ++ b :: m
  | [], _, _, _ => rfl
  | c :: l, m, a, b => congrArg (c :: ·) (set_mid l m a b)
theorem ixN_nat {n j : Nat} (h : j < n) : ixN n (j : Int) = some j := by
  unfold ixN
  rw [if_pos (by omega), if_pos (by omega)]
  rfl
/-- the elements greater than 1 of a list -/
def dps (ps : List (Nat × Nat)) : List Nat := (big (lays (cycs ps))).reverse
theorem pow_len : ∀ (qs : List (Nat × Nat)), (∀ a ∈ qs, Pr a.1 ∧ 1 ≤ a.2) → 2 ^ qs.length ≤ made qs
  | [], _ => Nat.le_refl 1
  | a :: r, h => by
    have ih := pow_len r fun b hb => h b (List.mem_cons_of_mem _ hb)
    have ha := h a List.mem_cons_self
    show 2 ^ (r.length + 1) ≤ a.1 ^ a.2 * made r
    rw [Nat.pow_succ, Nat.mul_comm]
    exact Nat.mul_le_mul (Nat.le_trans ha.1.1 (Nat.le_self_pow (by omega) _)) ih
theorem dps_len (ps : List (Nat × Nat)) (h : ∀ a ∈ ps, Pr a.1 ∧ 1 ≤ a.2) : (dps ps).length ≤ 2 * ps.length := by
  unfold dps big
  rw [List.length_reverse]
  refine Nat.le_trans (List.length_filter_le ..) ?_
  rw [(lays_all (cycs ps) (cycs_small ps h).1).2.2.2.2.2]
  exact cycs_len ps
def sp_parts (K : PySem.W.Frag) : Sp := fun vs H Q _ => ∃ n : Nat, vs = [.int (n : Int)] ∧ 1 ≤ n ∧ n ≤ 1000000000000 ∧
  ∀ p ps H', Same H H' → H p = none → H' p = some (.tup (nats (dps ps))) → Apart ps n → ps.length ≤ 41 → Q (.ref p) H'
theorem ok_parts (T : Top K mg) : Ok P w K mg base 7 "parts" s_parts ["base"] (sp_parts K) := by
  have G_check_base := ok_check_base (P := P) (w := w) (base := base) T
  have G_cycles := ok_cycles (P := P) (w := w) (base := base) T
  refine T.d_parts.ok sc_parts (fun vs H Q E h => ?_) (fun f cdv A outer s H vs Q E hg hr h => ?_)
  · obtain ⟨n, rfl, _⟩ := h
    rfl
  · obtain ⟨n, rfl, n1, n2, q⟩ := h
    have E12 := e12
    refine ⟨_, (pss_cons (ps_expr (pe_g G_check_base (fun _ _ F => bd_check_base F) hg (hr.mono (by decide)) passL (by rfl) (pa_cons (pv 0) pa_nil)))
    (pss_cons (ps_set (i := 1) sc_parts.nd rfl (.inl rfl) (pe_lst pa_nil))
    (pss_cons (ps_for (passes_of rfl) rfl (i_list rfl (pe_g G_cycles (fun _ _ F => bd_cycles F) hg (hr.mono (by decide)) passL (by rfl) (pa_cons (pv 0) pa_nil))) (pg_name (i := 2) sc_parts.nd rfl (.inl rfl)) (pss_cons (ps_set (i := 3) sc_parts.nd rfl (.inl rfl) (pv 2))
    (pss_cons (ps_for (passes_of rfl) rfl (pi_range3 (by rfl) T.b_range (pa_cons (pe_op op_sub (pe_callB (id := "len") (c_len rfl) (by rfl) T.b_len (by decide +kernel) (pa_cons (pv 1) pa_nil)) pe_int) (pa_cons (pe_un un_neg pe_int) (pa_cons (pe_un un_neg pe_int) pa_nil)))) (pg_name (i := 4) sc_parts.nd rfl (.inl rfl)) (pss_one (ps_asg (pe_tup (pa_cons (pe_callBfun (id := "math.lcm") cr_lcm (by rfl) T.m_lcm (pa_cons (pe_ix (x_list rfl) (pv 1) (pv 4) (fun _ _ => rfl)) (pa_cons (pv 3) pa_nil))) (pa_cons (pe_callBfun (id := "math.gcd") cr_gcd (by rfl) T.m_gcd (pa_cons (pe_ix (x_list rfl) (pv 1) (pv 4) (fun _ _ => rfl)) (pa_cons (pv 3) pa_nil))) pa_nil))) (g_tup rfl rfl (pgs_cons (pg_sub (pv 1) (pv 4) set_list) (pgs_cons (pg_name (i := 3) sc_parts.nd rfl (.inl rfl)) pgs_nil)) rfl rfl))))
    (pss_one (ps_expr (pe_bm PySem.F.plainAttrs_list PySem.F.slot_list_insert PySem.F.type_list_insert mt_ins (pv 1) (pa_cons pe_int (pa_cons (pv 3) pa_nil))))))))
    (pss_one (ps_ret (pe_callTy (T := "tuple") (c_tuple rfl) (by rfl) T.b_tuple (by decide +kernel) (pa_cons (pe_lc (own := [("part", 5)]) (by rfl) sc_parts.nd (i_list rfl (pv 1)) (blkOk_by (own := [("part", 5)]) (N := ["base", "chain", "many", "left", "at", "part"]) (sc := defScope s_parts) (by decide +kernel)) (fun _ _ _ _ _ => (pg_name (i := 5) sc_parts.nd rfl (by first | exact Or.inl rfl | exact Or.inr rfl))) (fun _ _ _ _ _ => (pts_one (pt_cmpR op_gt (pv 5) pe_int (nomark _)))) (fun _ _ _ _ _ => (pv 5))) pa_nil))))))), ?_⟩
    walk_at "sti"
    refine ⟨(n : Int), rfl, by omega, by omega, ?_⟩
    walk_at "gi"
    rename_i F nF
    refine ⟨n, rfl, n1, n2, fun l ps H1 s1 nl el cl Ap => ?_⟩
    walk_at "gi"
    have hcs := cycs_small ps Ap.p
    rw [Ap.m] at hcs
    have el : H1 l = some (.lst (nats (cycs ps))) := el
    have eF : H1 F = some (.lst []) := s1 _ _ upd_same
    have lF : l ≠ F := fun e => by rw [e, upd_same] at nl; cases nl
    generalize hms : cycs ps = ms at *
    have tk : ∀ i, (∀ a ∈ ms.take i, 0 < a) ∧ prd (ms.take i) ≤ 1000000000000 := fun i => by
      refine ⟨fun a ha => hcs.1 a (List.mem_of_mem_take ha), ?_⟩
      have h1 : prd (ms.take i) ∣ prd ms := ⟨prd (ms.drop i), by rw [← prd_app, List.take_append_drop]⟩
      have := Nat.le_of_dvd (prd_pos _ hcs.1) h1
      omega
    refine r_forLs (nats ms) (fun i σ H' => ∃ x2 x3 x4 x5, σ = [some (.int (n : Int)), some (.ref F), x2, x3, x4, x5] ∧ Kx F H1 H' ∧ H' F = some (.lst (nats (lays (ms.take i)).reverse)))
      ⟨_, _, _, _, rfl, Kx.refl _, eF⟩ (fun i σ H' hi hP => ?_) (fun i v σ H' hi hP => ?_) (fun σ H' hP => ?_)
    · obtain ⟨x2, x3, x4, x5, rfl, y2, eF2⟩ := hP
      exact y2.list lF (SqL.of el)
    · obtain ⟨x2, x3, x4, x5, rfl, y2, eF2⟩ := hP
      obtain ⟨c, hc, rfl⟩ := nats_at hi
      have c0 := hcs.1 c (List.mem_of_getElem? hc)
      have cn := Nat.le_trans (Nat.le_of_dvd (prd_pos _ hcs.1) (mem_prd ms c (List.mem_of_getElem? hc))) hcs.2
      obtain ⟨t1, t2⟩ := tk i
      have la := lays_all (ms.take i) t1
      have ll := lays_le t1
      have lq := (lcs_le t1).2
      have tki : ms.take (i + 1) = ms.take i ++ [c] := by rw [List.take_add_one, hc, Option.toList_some]
      have il : (ms.take i).length ≤ 82 := Nat.le_trans (List.length_take_le' ..) cl
      have lln := la.2.2.2.2.2
      have l0 := la.1
      rw [tki, lays_snoc]
      generalize hR : lays (ms.take i) = R at *
      walk_at "gi"
      refine r_for3 ?_
      walk_at "gi"
      rw [nats_len, List.length_reverse]
      have rg := RgC.neg (i := (R.length : Int) - 1) (j := -1) (by omega) (by omega) (by omega) (by omega)
      rw [show ((R.length : Int) - 1 - -1).toNat = R.length by omega] at rg
      refine ⟨_, _, _, R.length, rfl, rg, ?_⟩
      refine r_forC (fun j σ H2 => ∃ x4, σ = [some (.int (n : Int)), some (.ref F), some (.int (c : Int)), some (.int ((run (R.take j) c).2 : Int)), x4, x5] ∧ Kx F H1 H2 ∧ H2 F = some (.lst (nats ((run (R.take j) c).1 ++ R.drop j).reverse)))
        ⟨_, rfl, y2, eF2⟩ (fun j σ H2 hj hP => ?_) (fun σ H2 hP => ?_)
      · obtain ⟨x4, rfl, y3, eF3⟩ := hP
        obtain ⟨a, ha⟩ : ∃ a, R[j]? = some a := ⟨_, List.getElem?_eq_getElem hj⟩
        have am := List.mem_of_getElem? ha
        have a0 := l0 a am
        have an := ll a am
        have rl := run_left (R.take j) c (fun z hz => l0 z (List.mem_of_mem_take hz)) c0
        have rn := run_len (R.take j) c
        rw [List.length_take, show min j R.length = j by omega] at rn
        have tj : R.take (j + 1) = R.take j ++ [a] := by rw [List.take_add_one, ha, Option.toList_some]
        have dj : R.drop j = a :: R.drop (j + 1) := by
          obtain ⟨hlt, e⟩ := List.getElem?_eq_some_iff.mp ha
          rw [← e]
          exact List.drop_eq_getElem_cons hlt
        rw [tj, run_snoc]
        rw [dj] at eF3
        generalize hA : (run (R.take j) c).1 = A at *
        generalize hx : (run (R.take j) c).2 = x at *
        have rv : (A ++ a :: R.drop (j + 1)).reverse = (R.drop (j + 1)).reverse ++ a :: A.reverse := by simp
        rw [rv] at eF3
        have dl : (R.drop (j + 1)).reverse.length = R.length - 1 - j := by rw [List.length_reverse, List.length_drop]; omega
        have at1 : ((R.drop (j + 1)).reverse ++ a :: A.reverse)[R.length - 1 - j]? = some a := by
          rw [← dl]
          simp
        have cast1 : (R.length : Int) - 1 + (j : Int) * -1 = ((R.length - 1 - j : Nat) : Int) := by omega
        walk_at "gi"
        rw [cast1]
        refine r_ixL (SqL.of eF3) (atI_nat (nats_get at1)) ?_
        walk_at "gi"
        have ab : (a : Int).natAbs < 2 ^ 9000 := by
          rw [Int.natAbs_natCast]
          exact Nat.lt_of_lt_of_le (show a < 2 ^ 64 by omega) (Nat.pow_le_pow_right (by decide) (by decide))
        have xb : (x : Int).natAbs < 2 ^ 9000 := by
          rw [Int.natAbs_natCast]
          exact Nat.lt_of_lt_of_le (show x < 2 ^ 64 by omega) (Nat.pow_le_pow_right (by decide) (by decide))
        refine r_lcm ab xb ?_
        walk_at "gi"
        refine r_ixL (SqL.of eF3) (atI_nat (nats_get at1)) ?_
        walk_at "gi"
        rw [Int.natAbs_natCast, Int.natAbs_natCast]
        rename_i p np
        refine r_setL (j := R.length - 1 - j) (at_new np eF3) (by rw [nats_len]; exact ixN_nat (by rw [← rv, List.length_reverse, List.length_append, List.length_cons, List.length_drop]; omega)) ?_
        walk_at "gi"
        refine ⟨y3.trans (Kx.trans (Same.toKx (Same.new np)) Kx.upd), ?_⟩
        rw [upd_same, nats_set, ← dl, set_mid]
        congr 3
        simp
      · obtain ⟨x4, rfl, y3, eF3⟩ := hP
        rw [List.take_length, List.drop_length, List.append_nil] at eF3
        walk_at "gi"
        refine ⟨.inl ⟨rfl, _, SqL.of eF3⟩, ?_⟩
        walk_at "gi"
        refine r_ins eF3 (by rw [nats_len, List.length_reverse, run_len]; omega) ?_
        rw [List.take_length]
        refine ⟨_, _, _, _, rfl, y3.trans Kx.upd, ?_⟩
        rw [upd_same, lay_run, List.reverse_append]
        rfl
    · obtain ⟨x2, x3, x4, x5, rfl, y2, eF2⟩ := hP
      rw [nats_len, List.take_length] at eF2
      have la := lays_all ms hcs.1
      have ll := lays_le hcs.1
      have ln := la.2.2.2.2.2
      generalize hR : lays ms = R at *
      walk_at "gi"
      refine r_lcLs (nats R.reverse) (fun D i H2 => Same H' H2 ∧ H2 D = some (.lst (nats (big (R.reverse.take i))))) (fun D hD => ⟨Same.new hD, upd_same⟩) (fun D i H2 hD hi hP => ?_) (fun D i v H2 hD hi hP => ?_) (fun D H2 hD hP => ?_)
      · exact SqL.of (hP.1 _ _ eF2)
      · obtain ⟨s3, eD⟩ := hP
        obtain ⟨c, hc, rfl⟩ := nats_at hi
        have bs : big (R.reverse.take (i + 1)) = big (R.reverse.take i) ++ (if 1 < c then [c] else []) := by
          rw [List.take_add_one, hc, Option.toList_some]
          unfold big
          rw [List.filter_append]
          by_cases z : 1 < c <;> simp [z]
        have bl : (nats (big (R.reverse.take i))).length < sizeLine := by
          rw [nats_len]
          refine lenle (n := 82) ?_ (by decide)
          exact Nat.le_trans (List.length_filter_le ..) (Nat.le_trans (List.length_take_le' ..) (by rw [List.length_reverse]; omega))
        walk_at "go"
        refine ⟨rfl, ?_⟩
        walk_at "go"
        by_cases z : 1 < c
        · rw [if_pos z] at bs
          rw [decide_eq_true (show (c : Int) > 1 by omega)]
          walk_at "go"
          refine ⟨_, eD, bl, fun x o e => by rw [upd_ne (ne_of_none e hD)]; exact s3 _ _ e, ?_⟩
          rw [upd_same, bs, nats_app]
          rfl
        · rw [if_neg z, List.append_nil] at bs
          rw [decide_eq_false (show ¬ (c : Int) > 1 by omega)]
          walk_at "go"
          rw [bs]
          exact ⟨s3, eD⟩
      · obtain ⟨s3, eD⟩ := hP
        rw [nats_len, List.take_length] at eD
        walk_at "gi"
        refine r_tupL (SqL.of eD) fun tt ntt => ?_
        have sF : Same H H' := fun b o e => y2 b o (ne_of_none e nF) (s1 _ _ (at_new nF e))
        refine q tt ps _ ((sF.trans s3).trans (Same.new ntt)) (none_same (sF.trans s3) ntt) ?_ Ap ?_
        · rw [upd_same]
          unfold dps
          rw [hms, hR]
          unfold big
          rw [List.filter_reverse]
        · refine Classical.byContradiction fun z => ?_
          have : 2 ^ ps.length ≤ made ps := pow_len ps Ap.p
          rw [Ap.m] at this
          have h2 := Nat.pow_le_pow_right (show 0 < 2 by decide) (show 42 ≤ ps.length by omega)
          have : (2 : Nat) ^ 42 = 4398046511104 := by decide
          omega
end
section
variable {P : Program} {w : World} {K : PySem.W.Frag} {mg : Str → Option Value} {base : Heap}
/-! ### bases made -/
theorem pr_check {p : Nat} (h2 : 2 ≤ p) (hp : p < 1000000) (c : ((List.range 1001).all fun d => decide (d < 2) || decide (p < d * d) || decide (p % d ≠ 0)) = true) : Pr p := by
  have key : ∀ d : Nat, 2 ≤ d → d * d ≤ p → ¬ d ∣ p := fun d d2 dd hd => by
    have d3 : d < 1001 := Classical.byContradiction fun g => by
      have := Nat.mul_le_mul (show 1001 ≤ d by omega) (show 1001 ≤ d by omega)
      omega
    have := List.all_eq_true.mp c d (List.mem_range.mpr d3)
    simp only [Bool.or_eq_true, decide_eq_true_eq] at this
    have hm := Nat.mod_eq_zero_of_dvd hd
    omega
  refine ⟨h2, fun k hk => ?_⟩
  obtain ⟨j, hj⟩ := hk
  refine Classical.byContradiction fun g => ?_
  have k1 : k ≠ 1 := fun e => g (.inl e)
  have k2 : k ≠ p := fun e => g (.inr e)
  have k0 : k ≠ 0 := fun e => by rw [e, Nat.zero_mul] at hj; omega
  have j0 : j ≠ 0 := fun e => by rw [e, Nat.mul_zero] at hj; omega
  have j1 : j ≠ 1 := fun e => by rw [e, Nat.mul_one] at hj; exact k2 hj.symm
  rcases Nat.le_total k j with c2 | c2
  · exact key k (by omega) (by rw [hj]; exact Nat.mul_le_mul_left k c2) ⟨j, hj⟩
  · exact key j (by omega) (by rw [hj]; exact Nat.mul_le_mul_right j c2) ⟨k, by rw [hj, Nat.mul_comm]⟩
def nine : List Nat := [2, 3, 5, 7, 11, 13, 101, 9973, 999983]
theorem nine_pr : ∀ p ∈ nine, Pr p := fun p hp => by
  simp only [nine, List.mem_cons, List.not_mem_nil, or_false] at hp
  rcases hp with rfl | rfl | rfl | rfl | rfl | rfl | rfl | rfl | rfl <;> exact pr_check (by decide) (by decide) (by decide +kernel)
theorem nine_le : ∀ p ∈ nine, p ≤ 999983 := by decide
theorem nine_nd : nine.Nodup := by decide
/-- the pairs that stand in a list -/
def kp (H : Hp) (v : V) : Int × Int := match v with
  | .ref t => match H t with
    | some (.tup [.int a, .int b]) => (a, b)
    | _ => (0, 0)
  | _ => (0, 0)
theorem kp_at {H : Hp} {t : Addr} {a b : Int} (h : H t = some (.tup [.int a, .int b])) : kp H (.ref t) = (a, b) := by
  simp only [kp, h]
theorem made_perm {a b : List (Nat × Nat)} (h : a.Perm b) : made a = made b := by
  induction h with
  | nil => rfl
  | cons x _ ih =>
    show x.1 ^ x.2 * made _ = x.1 ^ x.2 * made _
    rw [ih]
  | swap x y l =>
    show y.1 ^ y.2 * (x.1 ^ x.2 * made l) = x.1 ^ x.2 * (y.1 ^ y.2 * made l)
    rw [Nat.mul_left_comm]
  | trans _ _ h1 h2 => exact h1.trans h2
def kn (H : Hp) (v : V) : Nat × Nat := ((kp H v).1.toNat, (kp H v).2.toNat)
def TupN (H : Hp) (v : V) : Prop := ∃ (t : Addr) (a b : Nat), v = .ref t ∧ H t = some (.tup [.int (a : Int), .int (b : Int)])
theorem TupN.kn {H : Hp} {v : V} (h : TupN H v) : ∃ t, v = .ref t ∧ H t = some (.tup [.int ((kn H v).1 : Int), .int ((kn H v).2 : Int)]) ∧ kp H v = (((kn H v).1 : Int), ((kn H v).2 : Int)) := by
  obtain ⟨t, a, b, rfl, e⟩ := h
  have hk := kp_at e
  have : K57.kn H (.ref t) = (a, b) := by
    unfold K57.kn
    rw [hk]
    rfl
  rw [this]
  exact ⟨t, rfl, e, hk⟩
theorem pairs_kn {H : Hp} : ∀ ys : List V, (∀ y ∈ ys, TupN H y) → PairsAt K H ys (ci (ys.map (kn H)))
  | [], _ => .nil
  | y :: ys, h => by
    obtain ⟨t, e, ht, _⟩ := (h y List.mem_cons_self).kn
    exact .cons ⟨t, e, SqT.of ht⟩ (pairs_kn ys fun z hz => h z (List.mem_cons_of_mem _ hz))
theorem sorted_pairs {H : Hp} {xs ys : List V} {n : Nat} (hx : ∀ x ∈ xs, TupN H x) (hp : ys.Perm xs) (hs : SrtO.Srtd (ltP (kp H)) ys) (hn : made (xs.map (kn H)) = n) (hpr : ∀ x ∈ xs, Pr (kn H x).1 ∧ 1 ≤ (kn H x).2) (nd : (xs.map fun x => (kn H x).1).Nodup) :
    PairsAt K H ys (ci (ys.map (kn H))) ∧ Apart (ys.map (kn H)) n := by
  have hy : ∀ y ∈ ys, TupN H y := fun y h => hx y (hp.mem_iff.mp h)
  refine ⟨pairs_kn ys hy, (made_perm (hp.map _)).trans hn, fun a ha => ?_, ?_⟩
  · obtain ⟨y, h, rfl⟩ := List.mem_map.mp ha
    exact hpr y (hp.mem_iff.mp h)
  · have nd2 : (ys.map fun x => (kn H x).1).Nodup := (hp.map _).nodup_iff.mpr nd
    have h1 : ys.Pairwise fun x y => (kn H x).1 ≠ (kn H y).1 := List.pairwise_map.mp nd2
    rw [List.pairwise_map]
    have h2 := (hs.and h1).imp_of_mem (S := fun x y => (kn H x).1 < (kn H y).1) fun {x y} mx my h => by
      obtain ⟨_, _, _, e1⟩ := (hy x mx).kn
      obtain ⟨_, _, _, e2⟩ := (hy y my).kn
      have := SrtO.lexB_no.mp h.1
      rw [e1, e2] at this
      have h3 := h.2
      dsimp only at this
      omega
    exact h2
theorem er_map {α β : Type} (f : α → β) : ∀ (l : List α) (j : Nat), (l.eraseIdx j).map f = (l.map f).eraseIdx j
  | [], _ => rfl
  | _ :: _, 0 => rfl
  | a :: l, j + 1 => by
    show f a :: (l.eraseIdx j).map f = f a :: (l.map f).eraseIdx j
    rw [er_map f l j]
theorem er_perm {α : Type} {a : α} : ∀ (l : List α) (j : Nat), l[j]? = some a → (a :: l.eraseIdx j).Perm l
  | [], _, h => by simp at h
  | b :: l, 0, h => by
    rw [show b = a from Option.some.inj h]
    exact List.Perm.refl _
  | b :: l, j + 1, h => (List.Perm.swap b a _).trans ((er_perm l j h).cons b)
def sp_lmade (K : PySem.W.Frag) : Sp := fun vs H Q _ => ∃ (k : Addr) (m U : Nat), vs = [.ref k, .int (U : Int)] ∧ 1 ≤ U ∧ U ≤ 1000000000000 ∧ Mug m k H ∧ m ≤ 2 ^ 58 ∧
  ∀ u F n us ps H', Kx k H H' → Mug (m + 40) k H' → H' u = some (.lst [.int ((n : Nat) : Int), .ref F]) → H' F = some (.lst us) → PairsAt K H' us (ci ps) → Apart ps n → n ≤ U → ps.length ≤ 9 → u ≠ k → F ≠ k → Q (.ref u) H'
theorem e58 : (2 : Nat) ^ 58 = 288230376151711744 := by decide
theorem ok__law_made_base (T : Top K mg) : Ok P w K mg base 3 "_law_made_base" s__law_made_base ["_law_mug_here", "_law_top"] (sp_lmade K) := by
  have G__law_sip := ok__law_sip (P := P) (w := w) (base := base) T
  have G__law_of := ok__law_of (P := P) (w := w) (base := base) T
  refine T.d__law_made_base.ok sc__law_made_base (fun vs H Q E h => ?_) (fun f cdv A outer s H vs Q E hg hr h => ?_)
  · obtain ⟨k, m, U, rfl, _⟩ := h
    rfl
  · obtain ⟨k, m, U, rfl, hU1, hU, hk, hm, q⟩ := h
    have E62 := e62
    have E60 := e60
    have E58 := e58
    refine ⟨_, (pss_cons (ps_par3 (i := 2) (j := 3) (l := 4) (by rfl) sc__law_made_base.nd rfl rfl rfl (by decide) (by decide) (by decide) rfl rfl rfl (pa_cons pe_int (pa_cons (pe_lst (pa_cons pe_int (pa_cons pe_int (pa_cons pe_int (pa_cons pe_int (pa_cons pe_int (pa_cons pe_int (pa_cons pe_int (pa_cons pe_int (pa_cons pe_int pa_nil)))))))))) (pa_cons (pe_lst pa_nil) pa_nil))) (by rfl))
    (pss_cons (ps_for (passes_of rfl) rfl (pi_range1 (by rfl) T.b_range (pa_cons (pe_op op_add pe_int (pe_g G__law_sip (fun _ _ F => bd__law_sip F) hg (hr.mono (by decide)) passL (by rfl) (pa_cons (pv 0) (pa_cons pe_int pa_nil)))) pa_nil)) (pg_name (i := 5) sc__law_made_base.nd rfl (.inl rfl)) (pss_cons (ps_set (i := 6) sc__law_made_base.nd rfl (.inl rfl) (pe_bm PySem.F.plainAttrs_list PySem.F.slot_list_pop PySem.F.type_list_pop mt_popAt (pv 3) (pa_cons (pe_g G__law_sip (fun _ _ F => bd__law_sip F) hg (hr.mono (by decide)) passL (by rfl) (pa_cons (pv 0) (pa_cons (pe_callB (id := "len") (c_len rfl) (by rfl) T.b_len (by decide +kernel) (pa_cons (pv 3) pa_nil)) pa_nil))) pa_nil)))
    (pss_cons (ps_set (i := 7) sc__law_made_base.nd rfl (.inl rfl) pe_int)
    (pss_cons (ps_for (passes_of rfl) rfl (pi_range1 (by rfl) T.b_range (pa_cons (pe_op op_add pe_int (pe_g G__law_of (fun _ _ F => bd__law_of F) hg (hr.mono (by decide)) passL (by rfl) (pa_cons (pv 0) (pa_cons (pe_lst (pa_cons pe_int (pa_cons pe_int (pa_cons pe_int (pa_cons pe_int (pa_cons pe_int (pa_cons pe_int pa_nil))))))) pa_nil)))) pa_nil)) (pg_name (i := 8) sc__law_made_base.nd rfl (.inl rfl)) (pss_one (ps_if (PW.pt (pw_and (pt_cmpR op_le (pe_op op_mulX (pv 2) (pv 6)) (pv 1) (nomark _)) (pw_and1 (PW.pt (pw_or (pt_cmpR op_lt (pv 6) pe_int (nomark _)) (pw_or1 (pt_cmpR op_eqZ (pv 7) pe_int (nomark _)))))))) (pss_one (ps_par (i := 2) (j := 7) (by rfl) sc__law_made_base.nd rfl rfl (by decide) rfl rfl (pa_cons (pe_op op_mulX (pv 2) (pv 6)) (pa_cons (pe_op op_add (pv 7) pe_int) pa_nil)) (by rfl))) pss_nil)))
    (pss_one (ps_if (pt_cmpR op_gt (pv 7) pe_int (nomark _)) (pss_one (ps_expr (pe_bm PySem.F.plainAttrs_list PySem.F.slot_list_append PySem.F.type_list_append mt_append (pv 4) (pa_cons (pe_tup (pa_cons (pv 6) (pa_cons (pv 7) pa_nil))) pa_nil)))) pss_nil))))))
    (pss_one (ps_ret (pe_lst (pa_cons (pv 2) (pa_cons (pe_callB (id := "sorted") cr_sortedPO (by rfl) T.b_sorted (by decide +kernel) (pa_cons (pv 4) pa_nil)) pa_nil))))))), ?_⟩
    walk_at "st"
    rename_i P0 nP F0 nF
    have hk2 := (hk.new (o := .lst [.int 2, .int 3, .int 5, .int 7, .int 11, .int 13, .int 101, .int 9973, .int 999983]) nP).new (o := .lst []) nF
    refine i_sip m hk2 (by omega) (by decide) (by decide) fun f1 H1 f10 f11 x1 k1 => ?_
    walk_at "go"
    refine ⟨by omega, by omega, ?_⟩
    have hr4 : (1 + f1).toNat ≤ 4 := by omega
    generalize (1 + f1).toNat = tn at *
    have kP : P0 ≠ k := hk.ne nP
    have kF : F0 ≠ k := (hk.new (o := .lst [.int 2, .int 3, .int 5, .int 7, .int 11, .int 13, .int 101, .int 9973, .int 999983]) nP).ne nF
    have nF0 : H F0 = none := none_up nF
    have PF : P0 ≠ F0 := ne_of_none upd_same nF
    have y1 : Kx k H H1 := Same.kx ((Same.new nP).trans (Same.new nF)) x1
    refine r_forR (fun i σ H' => ∃ (n : Nat) (pr : List Nat) (ts : List (Addr × Nat × Nat)) (x5 x6 x7 x8 : Option V), σ = [some (.ref k), some (.int (U : Int)), some (.int (n : Int)), some (.ref P0), some (.ref F0), x5, x6, x7, x8] ∧ Kx k H H' ∧ Mug (m + 1 + 2 * i) k H' ∧ H' P0 = some (.lst (nats pr)) ∧ H' F0 = some (.lst (ts.map fun z => V.ref z.1)) ∧ (∀ z ∈ ts, H' z.1 = some (.tup [.int (z.2.1 : Int), .int (z.2.2 : Int)])) ∧ made (ts.map fun z => z.2) = n ∧ n ≤ U ∧ (∀ z ∈ ts, Pr z.2.1 ∧ 1 ≤ z.2.2) ∧ (pr ++ ts.map fun z => z.2.1).Nodup ∧ (∀ p ∈ pr, p ∈ nine) ∧ pr.length = 9 - i ∧ ts.length ≤ i)
      ⟨1, nine, [], _, _, _, _, rfl, y1, k1, x1 _ _ kP (at_new nF upd_same), x1 _ _ kF upd_same, fun z hz => absurd hz (by simp), rfl, hU1, fun z hz => absurd hz (by simp), by decide, fun p hp => hp, rfl, by simp⟩ (fun i σ H' hi hP => ?_) (fun σ H' hP => ?_)
    · obtain ⟨n, pr, ts, x5, x6, x7, x8, rfl, y2, k2, eP, eF, hT, hmd, hn, hpr, nd, hnine, hlen, htl⟩ := hP
      walk_at "gi"
      refine ⟨.inl ⟨rfl, _, SqL.of eP⟩, ?_⟩
      walk_at "gi"
      rw [nats_len]
      refine i_sip _ k2 (by omega) (by omega) (by omega) fun f2 H2 f20 f21 x2 k3 => ?_
      obtain ⟨kk, rfl⟩ := Int.eq_ofNat_of_zero_le f20
      have hkk : kk < pr.length := by omega
      obtain ⟨p, hp⟩ : ∃ p, pr[kk]? = some p := ⟨_, List.getElem?_eq_getElem hkk⟩
      have hp9 := hnine p (List.mem_of_getElem? hp)
      have ple := nine_le p hp9
      have ppr := nine_pr p hp9
      have p2 := ppr.1
      have eP2 := x2 _ _ kP eP
      have eF2 := x2 _ _ kF eF
      have hT2 : ∀ z ∈ ts, H2 z.1 = some (.tup [.int (z.2.1 : Int), .int (z.2.2 : Int)]) := fun z hz => x2 _ _ (fun e => by
        have := hT z hz
        rw [e] at this
        obtain ⟨_, _, _, w, _⟩ := k2
        rw [w] at this
        cases this) (hT z hz)
      walk_at "gi"
      refine ⟨P0, nats pr, (kk : Int), kk, .int (p : Int), rfl, rfl, eP2, by omega, by omega, ?_, ?_, ?_⟩
      · unfold seqIndex?
        rw [nats_len, if_neg (show ¬ ((kk : Int) < 0) by omega)]
        have h1 : decide ((0 : Int) ≤ (kk : Int)) = true := decide_eq_true (by omega)
        have h2 : decide ((kk : Int) < (pr.length : Int)) = true := decide_eq_true (by omega)
        simp only [h1, h2]
        rfl
      · unfold nats
        rw [List.getElem?_map, hp]
        rfl
      have y3 : Kx k H (upd H2 P0 (.lst ((nats pr).eraseIdx kk))) := fun b' o ne e => by
        rw [upd_ne (ne_of_none e nP)]
        exact (y2.trans x2) b' o ne e
      have k4 : Mug (m + 1 + 2 * i + 1) k (upd H2 P0 (.lst ((nats pr).eraseIdx kk))) := by
        obtain ⟨a, b, c, e, o⟩ := k3
        exact ⟨a, b, c, by rw [upd_ne (Ne.symm kP)]; exact e, o⟩
      have eP3 : upd H2 P0 (.lst ((nats pr).eraseIdx kk)) P0 = some (.lst (nats (pr.eraseIdx kk))) := by
        rw [upd_same]
        unfold nats
        rw [er_map]
      have eF3 : upd H2 P0 (.lst ((nats pr).eraseIdx kk)) F0 = some (.lst (ts.map fun z => V.ref z.1)) := by
        rw [upd_ne (Ne.symm PF)]
        exact eF2
      have hT3 : ∀ z ∈ ts, upd H2 P0 (.lst ((nats pr).eraseIdx kk)) z.1 = some (.tup [.int (z.2.1 : Int), .int (z.2.2 : Int)]) := fun z hz => by
        rw [upd_ne fun e => by
          have := hT2 z hz
          rw [e, eP2] at this
          cases this]
        exact hT2 z hz
      generalize upd H2 P0 (.lst ((nats pr).eraseIdx kk)) = H3 at *
      walk_at "gi"
      rename_i bl nb
      refine i_of _ [.int 0, .int 0, .int 1, .int 1, .int 2, .int 5] (k4.new nb) (by omega) (k4.ne nb) (SqL.of upd_same) (by decide) (by decide) fun j v H4 hj x4 k5 => ?_
      obtain ⟨c, rfl, c0, c5⟩ : ∃ c : Int, v = .int c ∧ 0 ≤ c ∧ c ≤ 5 := by
        rcases j with _ | _ | _ | _ | _ | _ | j
        · exact ⟨_, (Option.some.inj hj).symm, by decide, by decide⟩
        · exact ⟨_, (Option.some.inj hj).symm, by decide, by decide⟩
        · exact ⟨_, (Option.some.inj hj).symm, by decide, by decide⟩
        · exact ⟨_, (Option.some.inj hj).symm, by decide, by decide⟩
        · exact ⟨_, (Option.some.inj hj).symm, by decide, by decide⟩
        · exact ⟨_, (Option.some.inj hj).symm, by decide, by decide⟩
        · exact absurd hj (by simp)
      have y4 : Kx k H H4 := (y3.same (Same.new nb)).trans x4
      have eP4 := x4 _ _ kP (at_new nb eP3)
      have eF4 := x4 _ _ kF (at_new nb eF3)
      have hT4 : ∀ z ∈ ts, H4 z.1 = some (.tup [.int (z.2.1 : Int), .int (z.2.2 : Int)]) := fun z hz => x4 _ _ (fun e => by
        have := hT3 z hz
        rw [e] at this
        obtain ⟨_, _, _, w, _⟩ := k4
        rw [w] at this
        cases this) (at_new nb (hT3 z hz))
      walk_at "gi"
      refine ⟨by omega, by omega, ?_⟩
      generalize (1 + c).toNat = cn at *
      refine r_forR (fun j σ H5 => ∃ (e : Nat) (x8 : Option V), σ = [some (.ref k), some (.int (U : Int)), some (.int ((n * p ^ e : Nat) : Int)), some (.ref P0), some (.ref F0), some (.int (0 + (i : Int))), some (.int (p : Int)), some (.int (e : Int)), x8] ∧ H5 = H4 ∧ n * p ^ e ≤ U)
        ⟨0, _, by rw [Nat.pow_zero, Nat.mul_one]; rfl, rfl, by rw [Nat.pow_zero, Nat.mul_one]; exact hn⟩ (fun j σ H5 hj hP => ?_) (fun σ H5 hP => ?_)
      · obtain ⟨e, x8, rfl, rfl, hne⟩ := hP
        have em : n * p ^ (e + 1) = n * p ^ e * p := by rw [Nat.pow_succ, Nat.mul_assoc]
        generalize hN : n * p ^ e = N at *
        walk_at "gi"
        have pb : CMulX (N : Int) (p : Int) := bit_mul (a := 64) (b := 64) (bit_of (by omega)) (bit_of (by omega)) (by decide)
        refine r_rI pb ?_
        walk_at "gi"
        refine ifd (fun c1 => ?_) (fun c1 => ?_)
        · have c1' : N * p ≤ U := by
            rw [← Int.natCast_mul] at c1
            omega
          walk_at "gi"
          refine ifd (fun c2 => ?_) (fun c2 => ?_)
          · walk_at "gi"
            refine r_rI pb ?_
            walk_at "gi"
            exact ⟨e + 1, _, by rw [em, Int.natCast_mul]; rfl, rfl, by rw [em]; exact c1'⟩
          · walk_at "gi"
            refine ifd (fun c3 => ?_) (fun c3 => ?_)
            · walk_at "gi"
              refine r_rI pb ?_
              walk_at "gi"
              exact ⟨e + 1, _, by rw [em, Int.natCast_mul]; rfl, rfl, by rw [em]; exact c1'⟩
            · walk_at "gi"
              exact ⟨e, _, by rw [hN]; rfl, rfl, by rw [hN]; exact hne⟩
        · walk_at "gi"
          exact ⟨e, _, by rw [hN]; rfl, rfl, by rw [hN]; exact hne⟩
      · obtain ⟨e, x8, rfl, rfl, hne⟩ := hP
        have hper := er_perm pr kk hp
        have hle : (pr.eraseIdx kk).length = 9 - (i + 1) := by
          rw [List.length_eraseIdx, if_pos hkk]
          omega
        have h9 : ∀ q ∈ pr.eraseIdx kk, q ∈ nine := fun q hq => hnine q (List.mem_of_mem_eraseIdx hq)
        have nd2 : (pr.eraseIdx kk ++ (ts.map fun z => z.2.1) ++ [p]).Nodup := by
          refine (List.Perm.nodup_iff ?_).mpr nd
          refine List.perm_append_comm.trans ?_
          exact List.Perm.append_right (ts.map fun z => z.2.1) hper
        walk_at "gi"
        refine ifd (fun c1 => ?_) (fun c1 => ?_)
        · walk_at "gi"
          refine ⟨.inl ⟨rfl, _, SqL.of eF4⟩, ?_⟩
          walk_at "gi"
          rename_i t nt
          refine r_app (at_new nt eF4) (by rw [List.length_map]; omega) ?_
          walk_at "gi"
          have tF : t ≠ F0 := Ne.symm (ne_of_none eF4 nt)
          refine ⟨n * p ^ e, pr.eraseIdx kk, ts ++ [(t, p, e)], _, _, _, _, rfl, fun b' o ne e' => ?_, ?_, ?_, ?_, fun z hz => ?_, ?_, hne, fun z hz => ?_, ?_, h9, hle, ?_⟩
          · rw [upd_ne (ne_of_none e' nF0)]
            exact at_new nt (y4 b' o ne e')
          · obtain ⟨a, b, c', w, o⟩ := k5.mono (show m + 1 + 2 * i + 1 + 1 ≤ m + 1 + 2 * (i + 1) by omega)
            exact ⟨a, b, c', by rw [upd_ne (Ne.symm kF)]; exact at_new nt w, o⟩
          · rw [upd_ne PF]
            exact at_new nt eP4
          · rw [upd_same, List.map_append]
            rfl
          · rcases List.mem_append.mp hz with g | g
            · rw [upd_ne fun e' => by
                have := hT4 z g
                rw [e', eF4] at this
                cases this]
              exact at_new nt (hT4 z g)
            · rw [List.mem_singleton.mp g, upd_ne tF]
              exact upd_same
          · rw [List.map_append, List.map_singleton, made_snoc, hmd]
          · rcases List.mem_append.mp hz with g | g
            · exact hpr z g
            · rw [List.mem_singleton.mp g]
              exact ⟨ppr, show 1 ≤ e by omega⟩
          · rw [List.map_append, ← List.append_assoc]
            exact nd2
          · rw [List.length_append, List.length_singleton]
            omega
        · walk_at "gi"
          have e0 : e = 0 := by omega
          subst e0
          rw [Nat.pow_zero, Nat.mul_one]
          exact ⟨n, pr.eraseIdx kk, ts, _, _, _, _, rfl, y4, k5.mono (by omega), eP4, eF4, hT4, hmd, hn, hpr, (List.nodup_append.mp nd2).1, h9, hle, by omega⟩
    · obtain ⟨n, pr, ts, x5, x6, x7, x8, rfl, y2, k2, eP, eF, hT, hmd, hn, hpr, nd, hnine, hlen, htl⟩ := hP
      walk_at "gi"
      have hx : ∀ x ∈ ts.map fun z => V.ref z.1, TupN H' x := fun x hx => by
        obtain ⟨z, hz, rfl⟩ := List.mem_map.mp hx
        exact ⟨z.1, z.2.1, z.2.2, rfl, hT z hz⟩
      have hkn : ∀ z ∈ ts, kn H' (V.ref z.1) = z.2 := fun z hz => by
        unfold kn
        rw [kp_at (hT z hz)]
        rfl
      have hm1 : (ts.map fun z => V.ref z.1).map (kn H') = ts.map fun z => z.2 := by
        rw [List.map_map]
        exact List.map_congr_left fun z hz => hkn z hz
      have hm2 : (ts.map fun z => V.ref z.1).map (fun x => (kn H' x).1) = ts.map fun z => z.2.1 := by
        rw [List.map_map]
        exact List.map_congr_left fun z hz => congrArg Prod.fst (hkn z hz)
      refine ⟨F0, ts.map fun z => V.ref z.1, kp H', rfl, SqL.of eF, fun x hxm => ?_, fun ys p hs hb np => ?_⟩
      · obtain ⟨t, e1, e2, e3⟩ := (hx x hxm).kn
        exact ⟨t, e1, by rw [e3]; exact e2⟩
      obtain ⟨hq1, hq2⟩ := sorted_pairs (K := K) (n := n) hx hb.perm hs (by rw [hm1]; exact hmd) (fun x hxm => by
        obtain ⟨z, hz, rfl⟩ := List.mem_map.mp hxm
        rw [hkn z hz]
        exact hpr z hz) (by rw [hm2]; exact (List.nodup_append.mp nd).2.1)
      walk_at "gi"
      rename_i u nu
      have s3 := (Same.new (o := .lst ys) np).trans (Same.new (o := .lst [.int (n : Int), .ref p]) nu)
      refine q u p n ys (ys.map (kn H')) _ (y2.same s3) ((k2.mono (by omega)).same s3) upd_same (at_new nu upd_same) (PairsAt.tt (Same.tt s3) hq1) hq2 hn ?_ ((k2.new np).ne nu) (k2.ne np)
      rw [List.length_map, hb.len, List.length_map]
      omega
end
section
variable {P : Program} {w : World} {K : PySem.W.Frag} {mg : Str → Option Value} {base : Heap}
/-! ### facts put together, whether they quarrel or not -/
def sp_along (K : PySem.W.Frag) : Sp := fun vs H Q _ => ∃ (a d : Addr) (r s : Int) (b c : Nat), vs = [.ref a, .ref d] ∧ SqT K H a [.int r, .int (b : Int)] ∧ SqT K H d [.int s, .int (c : Int)] ∧
  0 < b ∧ 0 < c ∧ b ≤ Bq ∧ c ≤ Bq ∧ 0 ≤ r ∧ r < b ∧ 0 ≤ s ∧ s < c ∧ ((s - r) % ((Nat.gcd b c : Nat) : Int) ≠ 0 → Q .non H) ∧
  ((s - r) % ((Nat.gcd b c : Nat) : Int) = 0 → ∀ pl : Int, 0 ≤ pl → pl < (c / Nat.gcd b c : Nat) → (r + b * pl - s) % (c : Int) = 0 → NewT [.int pl, .int ((c / Nat.gcd b c : Nat) : Int)] H Q)
theorem ok_along (T : Top K mg) : Ok P w K mg base 3 "along" s_along ["fact", "other"] (sp_along K) := by
  have G_inverse := ok_inverse (P := P) (w := w) (base := base) T
  refine T.d_along.ok sc_along (fun vs H Q E h => ?_) (fun f cdv A outer s H vs Q E hg hr h => ?_)
  · obtain ⟨a, d, r, s, b, c, rfl, _⟩ := h
    rfl
  · obtain ⟨a, d, r, s, b, c, rfl, sa, sd, b0, c0, bB, cB, r0, r1, s0, s1, q1, q2⟩ := h
    have bq := Bq_one
    have g0 : 0 < Nat.gcd b c := Nat.gcd_pos_of_pos_left _ b0
    have gl : Nat.gcd b c ≤ b := Nat.gcd_le_left _ b0
    have cop : Nat.gcd (b / Nat.gcd b c) (c / Nat.gcd b c) = 1 := by rw [Nat.gcd_div (Nat.gcd_dvd_left b c) (Nat.gcd_dvd_right b c), Nat.div_self g0]
    have e1 : b = Nat.gcd b c * (b / Nat.gcd b c) := (Nat.mul_div_cancel' (Nat.gcd_dvd_left b c)).symm
    have e2 : c = Nat.gcd b c * (c / Nat.gcd b c) := (Nat.mul_div_cancel' (Nat.gcd_dvd_right b c)).symm
    have lb : b / Nat.gcd b c ≤ b := Nat.div_le_self _ _
    have lc : c / Nat.gcd b c ≤ c := Nat.div_le_self _ _
    have cb : ((c : Nat) : Int) / ((Nat.gcd b c : Nat) : Int) = ((c / Nat.gcd b c : Nat) : Int) := (Int.natCast_ediv c _).symm
    have bb : ((b : Nat) : Int) / ((Nat.gcd b c : Nat) : Int) = ((b / Nat.gcd b c : Nat) : Int) := (Int.natCast_ediv b _).symm
    refine ⟨_, (pss_cons (ps_asg (pv 0) (g_tup rfl rfl (pgs_cons (pg_name (i := 2) sc_along.nd rfl (.inl rfl)) (pgs_cons (pg_name (i := 3) sc_along.nd rfl (.inl rfl)) pgs_nil)) rfl rfl))
    (pss_cons (ps_set (i := 4) sc_along.nd rfl (.inl rfl) (pe_callBfun (id := "math.gcd") cr_gcd (by rfl) T.m_gcd (pa_cons (pv 3) (pa_cons (pe_ix (x_tup rfl) (pv 1) pe_int (fun _ _ => rfl)) pa_nil))))
    (pss_cons (ps_set (i := 5) sc_along.nd rfl (.inl rfl) (pe_op op_sub (pe_ix (x_tup rfl) (pv 1) pe_int (fun _ _ => rfl)) (pv 2)))
    (pss_cons (ps_if (pt_truth (pe_op op_mod (pv 5) (pv 4)) (by intro _; rfl)) (pss_one (ps_ret pe_non)) pss_nil)
    (pss_cons (ps_set (i := 6) sc_along.nd rfl (.inl rfl) (pe_op op_fdivW (pe_ix (x_tup rfl) (pv 1) pe_int (fun _ _ => rfl)) (pv 4)))
    (pss_one (ps_ret (pe_tup (pa_cons (pe_op op_mod (pe_op op_mulX (pe_op op_fdivW (pv 5) (pv 4)) (pe_g G_inverse (fun _ _ F => bd_inverse F) hg (hr.mono (by decide)) passL (by rfl) (pa_cons (pe_op op_fdivW (pv 3) (pv 4)) (pa_cons (pv 6) pa_nil)))) (pv 6)) (pa_cons (pv 6) pa_nil)))))))))), ?_⟩
    walk_at "sti"
    refine r_ixT sd (atI_nat (j := 1) rfl) ?_
    walk_at "gi"
    rw [Int.natAbs_natCast, Int.natAbs_natCast]
    generalize Nat.gcd b c = g at *
    generalize b / g = bt at *
    generalize c / g = ct at *
    have ct0 : 0 < ct := by
      rcases Nat.eq_zero_or_pos ct with z | z
      · rw [z] at e2; omega
      · exact z
    have gI : (0 : Int) < g := by omega
    refine r_ixT sd (atI_nat (j := 0) rfl) ?_
    walk_at "gi"
    refine r_rI gI ?_
    walk_at "gi"
    refine ifb (fun cc => ?_) (fun cc => ?_)
    · walk_at "gi"
      exact q1 (by simpa using cc)
    have nq : (s - r) % (g : Int) = 0 := by simpa using cc
    walk_at "gi"
    refine r_ixT sd (atI_nat (j := 1) rfl) ?_
    walk_at "gi"
    refine r_rI (Bq_div gI (by omega)) ?_
    rw [cb]
    walk_at "gi"
    have dv : (s - r) / g * g = s - r := Int.ediv_mul_cancel (Int.dvd_of_emod_eq_zero nq)
    have db : ((s - r) / g).natAbs ≤ Bq := abs_of_mul (y := (g : Int)) (by omega) (by rw [dv]; omega)
    refine r_rI (Bq_div gI (by omega)) ?_
    walk_at "gi"
    refine r_rI (Bq_div gI (by omega)) ?_
    rw [bb]
    walk_at "gi"
    refine ⟨_, ct, rfl, ct0, by omega, fun u wz H' eu sH => ?_⟩
    rw [Int.natAbs_natCast, cop] at eu
    have u0 := Int.emod_nonneg u (show (ct : Int) ≠ 0 by omega)
    have u1 := Int.emod_lt_of_pos u (show (0 : Int) < ct by omega)
    have am := Vf.along_math (r := r) (s := s) (b := b) (c := c) (g := g) (bt := bt) (ct := ct) (u := u) (w := wz) gI (by omega) (by rw [e1]; push_cast; rfl) (by rw [e2]; push_cast; rfl) nq (by rw [eu]; rfl)
    walk_at "gi"
    refine r_rI (bit_mul (Bq_bits db) (Bq_bits (by omega)) (by decide)) ?_
    walk_at "gi"
    refine r_rI (by omega) ?_
    walk_at "gi"
    have t0 := Int.emod_nonneg ((s - r) / g * (u % ct)) (show (ct : Int) ≠ 0 by omega)
    have t1 := Int.emod_lt_of_pos ((s - r) / g * (u % ct)) (show (0 : Int) < ct by omega)
    generalize ((s - r) / g * (u % ct)) % ct = tm at *
    exact q2 nq tm t0 t1 am _ _ (by walk_at "vsame") (none_same sH (by assumption)) upd_same
def sp_merged (K : PySem.W.Frag) : Sp := fun vs H Q _ => ∃ (a d : Addr) (r s : Int) (b c : Nat), vs = [.ref a, .ref d] ∧ SqT K H a [.int r, .int (b : Int)] ∧ SqT K H d [.int s, .int (c : Int)] ∧
  0 < b ∧ 0 < c ∧ b ≤ Bq ∧ c ≤ Bq ∧ 0 ≤ r ∧ r < b ∧ 0 ≤ s ∧ s < c ∧ ((s - r) % ((Nat.gcd b c : Nat) : Int) ≠ 0 → Q .non H) ∧
  ((s - r) % ((Nat.gcd b c : Nat) : Int) = 0 → ∀ R : Int, 0 ≤ R → R < (Nat.lcm b c : Nat) → R % (b : Int) = r → R % (c : Int) = s → NewT [.int R, .int ((Nat.lcm b c : Nat) : Int)] H Q)
theorem ok_merged (T : Top K mg) : Ok P w K mg base 4 "merged" s_merged ["one", "other"] (sp_merged K) := by
  have G_along := ok_along (P := P) (w := w) (base := base) T
  refine T.d_merged.ok sc_merged (fun vs H Q E h => ?_) (fun f cdv A outer s H vs Q E hg hr h => ?_)
  · obtain ⟨a, d, r, s, b, c, rfl, _⟩ := h
    rfl
  · obtain ⟨a, d, r, s, b, c, rfl, sa, sd, b0, c0, bB, cB, r0, r1, s0, s1, q1, q2⟩ := h
    refine ⟨_, (pss_cons (ps_set (i := 2) sc_merged.nd rfl (.inl rfl) (pe_g G_along (fun _ _ F => bd_along F) hg (hr.mono (by decide)) passL (by rfl) (pa_cons (pv 0) (pa_cons (pv 1) pa_nil))))
    (pss_cons (ps_if (pt_cmpR op_isN (pv 2) pe_non (nomark _)) (pss_one (ps_ret pe_non)) pss_nil)
    (pss_cons (ps_asg (pv 2) (g_tup rfl rfl (pgs_cons (pg_name (i := 3) sc_merged.nd rfl (.inl rfl)) (pgs_cons (pg_name (i := 4) sc_merged.nd rfl (.inl rfl)) pgs_nil)) rfl rfl))
    (pss_one (ps_ret (pe_tup (pa_cons (pe_op op_add (pe_ix (x_tup rfl) (pv 0) pe_int (fun _ _ => rfl)) (pe_op op_mulX (pe_ix (x_tup rfl) (pv 0) pe_int (fun _ _ => rfl)) (pv 3))) (pa_cons (pe_op op_mulX (pe_ix (x_tup rfl) (pv 0) pe_int (fun _ _ => rfl)) (pv 4)) pa_nil)))))))), ?_⟩
    walk_at "sti"
    refine ⟨a, d, r, s, b, c, rfl, sa, sd, b0, c0, bB, cB, r0, r1, s0, s1, fun z => ?_, fun nq pl p0 p1 am p H1 s1' np hp => ?_⟩
    · walk_at "gi"
      exact q1 z
    · walk_at "gi"
      have el : Nat.lcm b c = b * (c / Nat.gcd b c) := Nat.mul_div_assoc b (Nat.gcd_dvd_right b c)
      have lc : c / Nat.gcd b c ≤ c := Nat.div_le_self _ _
      rw [el] at q2
      generalize c / Nat.gcd b c = ct at *
      refine r_ixT (Same.tup s1' sa) (atI_nat (j := 0) rfl) ?_
      walk_at "gi"
      refine r_ixT (Same.tup s1' sa) (atI_nat (j := 1) rfl) ?_
      walk_at "gi"
      refine r_rI (bit_mul (Bq_bits (by omega)) (Bq_bits (by omega)) (by decide)) ?_
      walk_at "gi"
      refine r_ixT (Same.tup s1' sa) (atI_nat (j := 1) rfl) ?_
      walk_at "gi"
      refine r_rI (bit_mul (Bq_bits (by omega)) (Bq_bits (by omega)) (by decide)) ?_
      walk_at "gi"
      have up : (b : Int) * pl + b ≤ b * ct := by
        have z : (b : Int) * (pl + 1) ≤ b * ct := Int.mul_le_mul_of_nonneg_left (by omega) (by omega)
        rw [Int.mul_add, Int.mul_one] at z
        exact z
      have lo : 0 ≤ (b : Int) * pl := Int.mul_nonneg (by omega) p0
      refine q2 nq (r + b * pl) (by omega) (by rw [Int.natCast_mul]; omega) ?_ ?_ _ _ (by walk_at "vsame") (none_same s1' (by assumption)) (by rw [Int.natCast_mul]; exact upd_same)
      · rw [Int.add_mul_emod_self_left, Int.emod_eq_of_lt r0 r1]
      · rw [Int.emod_eq_emod_iff_emod_sub_eq_zero.mpr am, Int.emod_eq_of_lt s0 s1]
def sp_all_merged (K : PySem.W.Frag) : Sp := fun vs H Q _ => ∃ (a : Addr) (fs : List (Int × Int)), vs = [.ref a] ∧ FactsAt K H a fs ∧ Facts fs ∧
  ((∀ x, ¬ Fits x fs) → ∀ H', Same H H' → Q .non H') ∧ (∀ R, Vf.Jn fs R → NewT [.int R, .int (lcmAll fs : Int)] H Q)
theorem ok_all_merged (T : Top K mg) : Ok P w K mg base 5 "all_merged" s_all_merged ["facts"] (sp_all_merged K) := by
  have G_merged := ok_merged (P := P) (w := w) (base := base) T
  refine T.d_all_merged.ok sc_all_merged (fun vs H Q E h => ?_) (fun f cdv A outer s H vs Q E hg hr h => ?_)
  · obtain ⟨a, fs, rfl, _⟩ := h
    rfl
  · obtain ⟨a, fs, rfl, hfa, hf, q1, q2⟩ := h
    refine ⟨_, (pss_cons (ps_set (i := 1) sc_all_merged.nd rfl (.inl rfl) (pe_tup (pa_cons pe_int (pa_cons pe_int pa_nil))))
    (pss_cons (ps_for (passes_of rfl) rfl (i_tup' rfl (pv 0)) (pg_name (i := 2) sc_all_merged.nd rfl (.inl rfl)) (pss_one (ps_if (pt_cmpR op_notN (pv 1) pe_non (nomark _)) (pss_one (ps_set (i := 1) sc_all_merged.nd rfl (.inl rfl) (pe_g G_merged (fun _ _ F => bd_merged F) hg (hr.mono (by decide)) passL (by rfl) (pa_cons (pv 1) (pa_cons (pv 2) pa_nil))))) pss_nil)))
    (pss_one (ps_ret (pv 1))))), ?_⟩
    walk_at "sti"
    rename_i p0 n0
    obtain ⟨vs, sv, pvs⟩ := hfa
    have ev := pvs.length
    refine ⟨⟨vs, new_tup n0 sv⟩, ?_⟩
    refine r_forTs vs (fun i σ H' => ∃ m x2, σ = [some (.ref a), some m, x2] ∧ Same H H' ∧ ((m = .non ∧ ∀ x, ¬ Fits x (fs.take i)) ∨ ∃ (t : Addr) (R : Int), m = .ref t ∧ H t = none ∧ H' t = some (.tup [.int R, .int (lcmAll (fs.take i) : Int)]) ∧ Vf.Jn (fs.take i) R))
      ⟨.ref p0, _, rfl, Same.new n0, .inr ⟨p0, 0, rfl, n0, upd_same, Vf.Jn.nil⟩⟩ (fun i σ H' hi hP => ?_) (fun i v σ H' hi hP => ?_) (fun σ H' hP => ?_)
    · obtain ⟨m, x2, rfl, s2, _⟩ := hP
      exact Same.tup s2 sv
    · obtain ⟨m, x2, rfl, s2, hm⟩ := hP
      obtain ⟨o, ho, t, rfl, st⟩ := pvs.get hi
      have fo := hf.at ho
      have ii : i < fs.length := (List.getElem?_eq_some_iff.mp ho).1
      have tk : fs.take (i + 1) = fs.take i ++ [o] := by rw [List.take_add_one, ho]; rfl
      rcases hm with ⟨rfl, nf⟩ | ⟨m, R, rfl, nm, sm, jn⟩
      · walk_at "gi"
        refine ⟨s2, .inl ⟨rfl, fun x hx => nf x ?_⟩⟩
        rw [tk] at hx
        exact (Vf.fits_snoc.mp hx).1
      · have mo : ∀ p ∈ fs.take i, Fact p := fun p hp => hf.2 p (List.mem_of_mem_take hp)
        have lm : 0 < lcmAll (fs.take i) := lcmAll_pos (fs.take i) 1 mo (by decide)
        have lq := Facts.lcm_Bq mo (by rw [List.length_take]; have := hf.1; omega)
        have oq : o.2.natAbs ≤ Bq := by
          refine Nat.le_trans (?_ : o.2.natAbs ≤ 2 ^ 100) (Nat.pow_le_pow_right (by decide) (by decide))
          obtain ⟨h1, h2, _⟩ := fo
          omega
        have eo : ((o.2.natAbs : Nat) : Int) = o.2 := by have := fo.1; omega
        walk_at "gi"
        refine ⟨m, t, R, o.1, lcmAll (fs.take i), o.2.natAbs, rfl, SqT.of sm, by rw [eo]; exact Same.tup s2 st, lm, by have := fo.1; omega, lq, oq, jn.1, jn.2.1, fo.2.2.1, by have := fo.2.2.2; omega, fun z => ?_, fun nq S S0 S1 h1 h2 p2 H2 s3 n3 e3 => ?_⟩
        · walk_at "gi"
          refine ⟨s2, .inl ⟨rfl, fun x hx => ?_⟩⟩
          rw [tk] at hx
          obtain ⟨y1, y2⟩ := Vf.fits_snoc.mp hx
          exact Vf.quarrel_none z x ⟨(jn.2.2 x).mp y1, by rw [eo]; exact y2⟩
        · walk_at "gi"
          refine ⟨s2.trans s3, .inr ⟨p2, S, rfl, none_same s2 n3, ?_, ?_⟩⟩
          · rw [tk, lcmAll_snoc]
            exact e3
          · rw [tk]
            exact jn.snoc fo lm S0 S1 h1 (by rw [← eo]; exact h2)
    · obtain ⟨m, x2, rfl, s2, hm⟩ := hP
      rw [List.take_of_length_le (by omega)] at hm
      rcases hm with ⟨rfl, nf⟩ | ⟨m, R, rfl, nm, sm, jn⟩
      · walk_at "go"
        exact q1 nf _ s2
      · walk_at "go"
        exact q2 R jn _ _ s2 nm sm
end
section
variable {P : Program} {w : World} {K : PySem.W.Frag} {mg : Str → Option Value} {base : Heap}
def sp_quar (K : PySem.W.Frag) : Sp := fun vs H Q _ => ∃ (v z : V) (p o : Int × Int), vs = [v, z] ∧ PairAt K H v p ∧ PairAt K H z o ∧ 0 < p.2 ∧
  Q (.bl (!decide ((p.1 - o.1) % ((Nat.gcd p.2.natAbs o.2.natAbs : Nat) : Int) = 0))) H
theorem ok_are_quarrelling (T : Top K mg) : Ok P w K mg base 1 "are_quarrelling" s_are_quarrelling ["one", "other"] (sp_quar K) := by
  refine T.d_are_quarrelling.ok sc_are_quarrelling (fun vs H Q E h => ?_) (fun f cdv A outer s H vs Q E hg hr h => ?_)
  · obtain ⟨v, z, p, o, rfl, _⟩ := h
    rfl
  · obtain ⟨v, z, p, o, rfl, ⟨t, rfl, st⟩, ⟨t2, rfl, st2⟩, h0, q⟩ := h
    refine ⟨_, (pss_one (ps_ret (pe_cmpR op_neZ (pe_op op_mod (pe_op op_sub (pe_ix (x_tup rfl) (pv 0) pe_int (fun _ _ => rfl)) (pe_ix (x_tup rfl) (pv 1) pe_int (fun _ _ => rfl))) (pe_callBfun (id := "math.gcd") cr_gcd (by rfl) T.m_gcd (pa_cons (pe_ix (x_tup rfl) (pv 0) pe_int (fun _ _ => rfl)) (pa_cons (pe_ix (x_tup rfl) (pv 1) pe_int (fun _ _ => rfl)) pa_nil)))) pe_int (nomark _)))), ?_⟩
    walk_at "sti"
    refine r_ixT st (atI_nat (j := 0) rfl) ?_
    walk_at "gi"
    refine r_ixT st2 (atI_nat (j := 0) rfl) ?_
    walk_at "gi"
    refine r_ixT st (atI_nat (j := 1) rfl) ?_
    walk_at "gi"
    refine r_ixT st2 (atI_nat (j := 1) rfl) ?_
    walk_at "gi"
    have hg : 0 < Nat.gcd p.2.natAbs o.2.natAbs := Nat.gcd_pos_of_pos_left _ (by omega)
    refine r_rI (by omega) ?_
    walk_at "gi"
    exact q
theorem no_quarrel (x : Int) (b c : Nat) : (x % b - x % c) % ((Nat.gcd b c : Nat) : Int) = 0 := by
  refine Int.emod_eq_emod_iff_emod_sub_eq_zero.mp ?_
  rw [Int.emod_emod_of_dvd x (Int.natCast_dvd_natCast.mpr (Nat.gcd_dvd_left b c)), Int.emod_emod_of_dvd x (Int.natCast_dvd_natCast.mpr (Nat.gcd_dvd_right b c))]
def sp_qp (K : PySem.W.Frag) : Sp := fun vs H Q _ => ∃ (a : Addr) (fs : List (Int × Int)) (x : Int), vs = [.ref a] ∧ FactsAt K H a fs ∧ Facts fs ∧ Fits x fs ∧ NewL [] H Q
theorem ok_quarrelling_pairs (T : Top K mg) : Ok P w K mg base 2 "quarrelling_pairs" s_quarrelling_pairs ["facts"] (sp_qp K) := by
  have G_are_quarrelling := ok_are_quarrelling (P := P) (w := w) (base := base) T
  refine T.d_quarrelling_pairs.ok sc_quarrelling_pairs (fun vs H Q E h => ?_) (fun f cdv A outer s H vs Q E hg hr h => ?_)
  · obtain ⟨a, fs, x, rfl, _⟩ := h
    rfl
  · obtain ⟨a, fs, x, rfl, ⟨vs, sv, pvs⟩, hf, hx, q⟩ := h
    have ev := pvs.length
    have hl := hf.1
    refine ⟨_, (pss_cons (ps_set (i := 1) sc_quarrelling_pairs.nd rfl (.inr rfl) (pe_callB (id := "len") (c_len rfl) (by rfl) T.b_len (by decide +kernel) (pa_cons (pv 0) pa_nil)))
    (pss_one (ps_ret (pe_lc2 (own := [("i", 2), ("j", 3)]) (by rfl) sc_quarrelling_pairs.nd (pi_range1 (by rfl) T.b_range (pa_cons (pv 1) pa_nil)) (blkOk_by (own := [("i", 2), ("j", 3)]) (N := ["facts", "many", "i", "j"]) (sc := defScope s_quarrelling_pairs) (by decide +kernel)) (vs1 := [3]) (by decide) (fun _ _ _ _ _ => (pg_name (i := 2) sc_quarrelling_pairs.nd rfl (by first | exact Or.inl rfl | exact Or.inr rfl))) (fun _ _ _ _ _ => pts_nil) (fun _ _ _ _ _ => (pi_range2 (by rfl) T.b_range (pa_cons (pe_op op_add (pv 2) pe_int) (pa_cons (pv 1) pa_nil)))) (fun _ _ _ _ _ => (pg_name (i := 3) sc_quarrelling_pairs.nd rfl (by first | exact Or.inl rfl | exact Or.inr rfl))) (fun _ _ _ _ _ => (pts_one (pt_val (pe_g G_are_quarrelling (fun _ _ F => bd_are_quarrelling F) hg (hr.mono (by decide)) passL (by rfl) (pa_cons (pe_ix (x_tup rfl) (pv 0) (pv 2) (fun _ _ => rfl)) (pa_cons (pe_ix (x_tup rfl) (pv 0) (pv 3) (fun _ _ => rfl)) pa_nil)))))) (fun _ _ _ _ _ => (pe_tup (pa_cons (pv 2) (pa_cons (pv 3) pa_nil)))))))), ?_⟩
    walk_at "sti"
    refine ⟨by omega, by omega, ?_⟩
    refine r_lc2R (fun D i H' => H' = upd H D (.lst [])) (fun D hD => rfl) (fun D i H' hD hi hP => ?_) (fun D H' hD hP => ?_)
    · subst hP
      walk_at "go"
      refine ⟨rfl, ?_⟩
      walk_at "go"
      refine r_w2 ?_
      walk_at "go"
      refine ⟨by omega, ?_⟩
      refine inn_range (fun j H' => H' = upd H D (.lst [])) rfl (fun j H' hj hP => ?_) (fun H' hP => hP)
      subst hP
      walk_at "go"
      refine ⟨rfl, ?_⟩
      have i1 : i < vs.length := by omega
      have i2 : i + 1 + j < vs.length := by omega
      obtain ⟨p, hp, pp⟩ := pvs.get (List.getElem?_eq_getElem i1)
      obtain ⟨o, ho, oo⟩ := pvs.get (List.getElem?_eq_getElem i2)
      have s1 : SqT K (upd H D (.lst [])) a vs := new_tup hD sv
      have tD : Tt H (upd H D (.lst [])) := new_tt hD
      walk_at "go"
      refine r_ixT s1 (show atI vs (0 + (i : Int)) = _ by rw [Int.zero_add]; exact atI_nat (List.getElem?_eq_getElem i1)) ?_
      walk_at "go"
      refine r_ixT s1 (show atI vs (0 + (i : Int) + 1 + (j : Int)) = _ by rw [show 0 + (i : Int) + 1 + (j : Int) = ((i + 1 + j : Nat) : Int) by omega]; exact atI_nat (List.getElem?_eq_getElem i2)) ?_
      walk_at "go"
      have f1 := hf.at hp
      have f2 := hf.at ho
      refine ⟨_, _, p, o, rfl, pp.tt tD, oo.tt tD, by have := f1.1; omega, ?_⟩
      have nq := no_quarrel x p.2.natAbs o.2.natAbs
      rw [show ((p.2.natAbs : Nat) : Int) = p.2 by have := f1.1; omega, show ((o.2.natAbs : Nat) : Int) = o.2 by have := f2.1; omega, hx p (List.mem_of_getElem? hp), hx o (List.mem_of_getElem? ho)] at nq
      rw [nq]
      walk_at "go"
      exact rfl
    · subst hP
      walk_at "go"
      exact q _ _ (Same.new hD) hD upd_same
def sp_cnq (K : PySem.W.Frag) : Sp := fun vs H Q _ => ∃ (a : Addr) (fs : List (Int × Int)) (x : Int), vs = [.ref a] ∧ FactsAt K H a fs ∧ Facts fs ∧ Fits x fs ∧ ∀ H', Same H H' → Q .non H'
theorem ok__check_no_quarrel (T : Top K mg) : Ok P w K mg base 3 "_check_no_quarrel" s__check_no_quarrel ["facts"] (sp_cnq K) := by
  have G_quarrelling_pairs := ok_quarrelling_pairs (P := P) (w := w) (base := base) T
  refine T.d__check_no_quarrel.ok sc__check_no_quarrel (fun vs H Q E h => ?_) (fun f cdv A outer s H vs Q E hg hr h => ?_)
  · obtain ⟨a, fs, x, rfl, _⟩ := h
    rfl
  · obtain ⟨a, fs, x, rfl, hfa, hf, hx, q⟩ := h
    refine ⟨_, (pss_one (ps_for (passes_of rfl) rfl (i_list rfl (pe_g G_quarrelling_pairs (fun _ _ F => bd_quarrelling_pairs F) hg (hr.mono (by decide)) passL (by rfl) (pa_cons (pv 0) pa_nil))) (g_tup rfl rfl (pgs_cons (pg_name (i := 1) sc__check_no_quarrel.nd rfl (.inl rfl)) (pgs_cons (pg_name (i := 2) sc__check_no_quarrel.nd rfl (.inl rfl)) pgs_nil)) rfl rfl) (pss_one ps_never))), ?_⟩
    walk_at "sti"
    refine ⟨a, fs, x, rfl, hfa, hf, hx, fun p H' s1 np e => ?_⟩
    walk_at "gi"
    refine r_forLs [] (fun i σ H2 => H2 = H') rfl (fun i σ H2 hi hP => ?_) (fun i x σ H2 hi hP => ?_) (fun σ H2 hP => ?_)
    · subst hP
      exact SqL.of e
    · simp at hi
    · subst hP
      walk_at "gi"
      exact q _ s1
def sp_made (K : PySem.W.Frag) : Sp := fun vs H Q _ => ∃ (a : Addr) (fs : List (Int × Int)) (x : Int), vs = [.ref a] ∧ FactsAt K H a fs ∧ Facts fs ∧ Fits x fs ∧ NewT [.int (x % (lcmAll fs : Int)), .int (lcmAll fs : Int)] H Q
theorem ok__made_by (T : Top K mg) : Ok P w K mg base 6 "_made_by" s__made_by ["facts"] (sp_made K) := by
  have G__check_no_quarrel := ok__check_no_quarrel (P := P) (w := w) (base := base) T
  have G_all_merged := ok_all_merged (P := P) (w := w) (base := base) T
  refine T.d__made_by.ok sc__made_by (fun vs H Q E h => ?_) (fun f cdv A outer s H vs Q E hg hr h => ?_)
  · obtain ⟨a, fs, x, rfl, _⟩ := h
    rfl
  · obtain ⟨a, fs, x, rfl, hfa, hf, hx, q⟩ := h
    refine ⟨_, (pss_cons (ps_expr (pe_g G__check_no_quarrel (fun _ _ F => bd__check_no_quarrel F) hg (hr.mono (by decide)) passL (by rfl) (pa_cons (pv 0) pa_nil)))
    (pss_one (ps_ret (pe_g G_all_merged (fun _ _ F => bd_all_merged F) hg (hr.mono (by decide)) passL (by rfl) (pa_cons (pv 0) pa_nil))))), ?_⟩
    walk_at "sti"
    refine ⟨a, fs, x, rfl, hfa, hf, hx, fun H1 s1 => ?_⟩
    walk_at "gi"
    refine ⟨a, fs, rfl, hfa.tt (Same.tt s1), hf, fun z => absurd hx (z x), fun R jn p H2 s2 np hp => ?_⟩
    rw [← (jn.2.2 x).mp hx] at hp
    exact q _ _ (s1.trans s2) (none_same s1 np) hp
def sp_joined (K : PySem.W.Frag) : Sp := fun vs H Q _ => ∃ (a : Addr) (fs : List (Int × Int)) (x : Int), vs = [.ref a] ∧ FactsAt K H a fs ∧ Facts fs ∧ Fits x fs ∧ NewT [.int (x % (lcmAll fs : Int)), .int (lcmAll fs : Int)] H Q
theorem ok_joined (T : Top K mg) : Ok P w K mg base 7 "joined" s_joined ["facts"] (sp_joined K) := by
  have G_check_facts := ok_check_facts (P := P) (w := w) (base := base) T
  have G__made_by := ok__made_by (P := P) (w := w) (base := base) T
  refine T.d_joined.ok sc_joined (fun vs H Q E h => ?_) (fun f cdv A outer s H vs Q E hg hr h => ?_)
  · obtain ⟨a, fs, x, rfl, _⟩ := h
    rfl
  · obtain ⟨a, fs, x, rfl, hfa, hf, hx, q⟩ := h
    refine ⟨_, (pss_cons (ps_expr (pe_g G_check_facts (fun _ _ F => bd_check_facts F) hg (hr.mono (by decide)) passL (by rfl) (pa_cons (pv 0) pa_nil)))
    (pss_one (ps_ret (pe_g G__made_by (fun _ _ F => bd__made_by F) hg (hr.mono (by decide)) passL (by rfl) (pa_cons (pv 0) pa_nil))))), ?_⟩
    walk_at "sti"
    refine ⟨a, fs, rfl, hfa, hf, fun H1 s1 => ?_⟩
    walk_at "gi"
    exact ⟨a, fs, x, rfl, hfa.tt (Same.tt s1), hf, hx, fun p H2 s2 n2 e2 => q p H2 (s1.trans s2) (none_same s1 n2) e2⟩
end
section
variable {P : Program} {w : World} {K : PySem.W.Frag} {mg : Str → Option Value} {base : Heap}
/-! ### roots counted -/
def sp_check_walked : Sp := fun vs H Q _ => ∃ n : Nat, vs = [.int (n : Int)] ∧ n ≤ 5000 ∧ Q .non H
theorem ok_check_walked (T : Top K mg) : Ok P w K mg base 1 "check_walked" s_check_walked ["base"] sp_check_walked := by
  refine T.d_check_walked.ok sc_check_walked (fun vs H Q E h => ?_) (fun f cdv A outer s H vs Q E hg hr h => ?_)
  · obtain ⟨n, rfl, _⟩ := h
    rfl
  · obtain ⟨n, rfl, n5, q⟩ := h
    refine ⟨_, (pss_one (ps_if (pt_cmpR op_gt (pv 0) (pe_gi T.c_MOST_WALKED (by rfl)) (nomark _)) (pss_one ps_never) pss_nil)), ?_⟩
    walk_at "sti"
    refine ifd (fun c => absurd c (by omega)) (fun _ => ?_)
    walk_at "gi"
    exact q
def sp_cic : Sp := fun vs H Q _ => ∃ (x : Int) (k L q : Nat), vs = [.int x, .int (k : Int), .int (L : Int), .int (q : Int)] ∧ Nr x ∧ 0 < L ∧ L ≤ 1000000000000 ∧ 1 ≤ q ∧ q ≤ 1000000000000 ∧ Q (.int (cic x k L q : Int)) H
theorem ok__count_in_cycle (T : Top K mg) : Ok P w K mg base 2 "_count_in_cycle" s__count_in_cycle ["number", "power", "length", "base"] sp_cic := by
  have G_raised_by := ok_raised_by (P := P) (w := w) (base := base) T
  refine T.d__count_in_cycle.ok sc__count_in_cycle (fun vs H Q E h => ?_) (fun f cdv A outer s H vs Q E hg hr h => ?_)
  · obtain ⟨x, k, L, q, rfl, _⟩ := h
    rfl
  · obtain ⟨x, k, L, q, rfl, hx, L0, L1, q1, q2, hq⟩ := h
    refine ⟨_, (pss_cons (ps_set (i := 4) sc__count_in_cycle.nd rfl (.inl rfl) (pe_callBfun (id := "math.gcd") cr_gcd (by rfl) T.m_gcd (pa_cons (pv 1) (pa_cons (pv 2) pa_nil))))
    (pss_one (ps_ret (pe_ifExp (pt_cmpR op_eqZ (pe_g G_raised_by (fun _ _ F => bd_raised_by F) hg (hr.mono (by decide)) passL (by rfl) (pa_cons (pv 0) (pa_cons (pe_op op_fdivW (pv 2) (pv 4)) (pa_cons (pv 3) pa_nil)))) (pe_op op_mod pe_int (pv 3)) (nomark _)) (pv 4) pe_int)))), ?_⟩
    walk_at "sti"
    rw [Int.natAbs_natCast, Int.natAbs_natCast]
    have g0 : 0 < Nat.gcd k L := Nat.gcd_pos_of_pos_right _ L0
    have g1 : Nat.gcd k L ≤ L := Nat.le_of_dvd L0 (Nat.gcd_dvd_right _ _)
    walk_at "gi"
    refine ⟨_, _, rfl, rfl, divw_of (by omega) (by omega), ?_⟩
    walk_at "gi"
    have b30 : Ba (q : Int) := ⟨by omega, by omega⟩
    refine ⟨x, (q : Int), L / Nat.gcd k L, by rw [Int.natCast_ediv], hx, b30, ?_⟩
    walk_at "gi"
    refine ⟨_, _, rfl, rfl, by omega, ?_⟩
    walk_at "gi"
    unfold cic at hq
    refine ifd (fun c => ?_) (fun c => ?_)
    · rw [if_pos c] at hq
      walk_at "gi"
      exact hq
    · rw [if_neg c] at hq
      walk_at "gi"
      exact hq
def sp_cro : Sp := fun vs H Q _ => ∃ (x : Int) (k p e : Nat), vs = [.int x, .int (k : Int), .int (p : Int), .int (e : Int)] ∧ Nr x ∧ Pr p ∧ 1 ≤ e ∧ p ^ e ≤ 1000000000000 ∧ Q (.int (cro x k p e : Int)) H
theorem ok__count_roots_by_power (T : Top K mg) : Ok P w K mg base 3 "_count_roots_by_power" s__count_roots_by_power ["number", "power", "prime", "often"] sp_cro := by
  have G_raised := ok_raised (P := P) (w := w) (base := base) T
  have G__count_in_cycle := ok__count_in_cycle (P := P) (w := w) (base := base) T
  refine T.d__count_roots_by_power.ok sc__count_roots_by_power (fun vs H Q E h => ?_) (fun f cdv A outer s H vs Q E hg hr h => ?_)
  · obtain ⟨x, k, p, e, rfl, _⟩ := h
    rfl
  · obtain ⟨x, k, p, e, rfl, hx, hp, he, hq, q⟩ := h
    have p2 := hp.1
    have pq : p ≤ p ^ e := Nat.le_self_pow (by omega) _
    refine ⟨_, (pss_cons (ps_set (i := 4) sc__count_roots_by_power.nd rfl (.inl rfl) (pe_g G_raised (fun _ _ F => bd_raised F) hg (hr.mono (by decide)) passL (by rfl) (pa_cons (pv 2) (pa_cons (pv 3) pa_nil))))
    (pss_cons (ps_if (PW.pt (pw_and (pt_cmpR op_eqZ (pv 2) pe_int (nomark _)) (pw_and1 (pt_cmpR op_gt (pv 3) pe_int (nomark _))))) (pss_cons (ps_if (pt_truth (pe_op op_mod (pv 1) pe_int) (by intro _; rfl)) (pss_one (ps_ret pe_int)) pss_nil)
    (pss_cons (ps_if (pt_cmpR op_neZ (pe_op op_mod (pv 0) pe_int) pe_int (nomark _)) (pss_one (ps_ret pe_int)) pss_nil)
    (pss_one (ps_ret (pe_op op_mulX pe_int (pe_g G__count_in_cycle (fun _ _ F => bd__count_in_cycle F) hg (hr.mono (by decide)) passL (by rfl) (pa_cons (pv 0) (pa_cons (pv 1) (pa_cons (pe_op op_fdivW (pv 4) pe_int) (pa_cons (pv 4) pa_nil)))))))))) pss_nil)
    (pss_one (ps_ret (pe_g G__count_in_cycle (fun _ _ F => bd__count_in_cycle F) hg (hr.mono (by decide)) passL (by rfl) (pa_cons (pv 0) (pa_cons (pv 1) (pa_cons (pe_op op_mulX (pe_op op_fdivW (pv 4) (pv 2)) (pe_op op_sub (pv 2) pe_int)) (pa_cons (pv 4) pa_nil))))))))), ?_⟩
    walk_at "sti"
    refine ⟨p, e, rfl, by omega, hq, by omega, ?_⟩
    walk_at "gi"
    have cyc_case : ¬ (p = 2 ∧ 2 < e) → cro x k p e = cic x k (p ^ e / p * (p - 1)) (p ^ e) := fun c => if_neg c
    have two_case : (p = 2 ∧ 2 < e) → cro x k p e = (if k % 2 = 1 then 1 else if x % 4 = 1 then 2 * cic x k (p ^ e / 4) (p ^ e) else 0) := fun c => if_pos c
    have rp := rnd_cyc hp he
    unfold rnd at rp
    refine ifd (fun c => ?_) (fun c => ?_)
    · walk_at "gi"
      refine ifd (fun d => ?_) (fun d => ?_)
      · have pe : p = 2 ∧ 2 < e := ⟨by omega, by omega⟩
        rw [two_case pe] at q
        rw [if_pos pe] at rp
        walk_at "gi"
        refine ⟨_, _, rfl, rfl, by omega, ?_⟩
        walk_at "gi"
        by_cases k1 : k % 2 = 1
        · rw [if_pos k1] at q
          rw [if_pos (bne_iff_ne.mpr (show (k : Int) % 2 ≠ 0 by omega))]
          walk_at "gi"
          exact q
        rw [if_neg k1] at q
        rw [show (k : Int) % 2 = 0 by omega, if_neg (by simp)]
        walk_at "gi"
        refine ⟨_, _, rfl, rfl, by omega, ?_⟩
        walk_at "gi"
        refine ifnd (fun c4 => ?_) (fun c4 => ?_)
        · rw [if_neg c4] at q
          walk_at "gi"
          exact q
        rw [if_pos c4] at q
        walk_at "gi"
        refine ⟨_, _, rfl, rfl, divw_of (by omega) (by omega), ?_⟩
        walk_at "gi"
        have L2 : p ^ e / 4 ≤ p ^ e := Nat.div_le_self _ _
        have cb : cic x k (p ^ e / 4) (p ^ e) ≤ p ^ e / 4 := by
          unfold cic
          split
          · exact Nat.le_of_dvd rp.1 (Nat.gcd_dvd_right _ _)
          · omega
        refine ⟨x, k, p ^ e / 4, p ^ e, by rw [Int.natCast_ediv]; rfl, hx, rp.1, by omega, by omega, hq, ?_⟩
        walk_at "gi"
        refine ⟨_, _, rfl, rfl, bit_mul (a := 64) (b := 64) (bit_of (by omega)) (bit_of (by omega)) (by decide), ?_⟩
        walk_at "gi"
        rw [show (2 : Int) * (cic x k (p ^ e / 4) (p ^ e) : Int) = ((2 * cic x k (p ^ e / 4) (p ^ e) : Nat) : Int) by omega]
        exact q
      · rw [cyc_case (by omega)] at q
        rw [if_neg (by omega)] at rp
        walk_at "gi"
        refine ⟨_, _, rfl, rfl, divw_of (by omega) (by omega), ?_⟩
        walk_at "gi"
        have L1 : p ^ e / p * (p - 1) ≤ p ^ e := Nat.le_trans (Nat.mul_le_mul_left _ (Nat.sub_le p 1)) (Nat.div_mul_le_self _ _)
        have L2 : p ^ e / p ≤ p ^ e := Nat.div_le_self _ _
        have L3 : (p : Int) - 1 = ((p - 1 : Nat) : Int) := by omega
        generalize hA : p ^ e / p = A at *
        have hA2 : ((p ^ e : Nat) : Int) / (p : Int) = (A : Int) := by rw [← hA, Int.natCast_ediv]
        rw [hA2, L3]
        refine ⟨_, _, rfl, rfl, bit_mul (a := 64) (b := 64) (bit_of (by omega)) (bit_of (by omega)) (by decide), ?_⟩
        walk_at "gi"
        refine ⟨x, k, A * (p - 1), p ^ e, by rw [Int.natCast_mul], hx, rp.1, by omega, by omega, hq, q⟩
    · rw [cyc_case (by omega)] at q
      rw [if_neg (by omega)] at rp
      walk_at "gi"
      refine ⟨_, _, rfl, rfl, divw_of (by omega) (by omega), ?_⟩
      walk_at "gi"
      have L1 : p ^ e / p * (p - 1) ≤ p ^ e := Nat.le_trans (Nat.mul_le_mul_left _ (Nat.sub_le p 1)) (Nat.div_mul_le_self _ _)
      have L2 : p ^ e / p ≤ p ^ e := Nat.div_le_self _ _
      have L3 : (p : Int) - 1 = ((p - 1 : Nat) : Int) := by omega
      generalize hA : p ^ e / p = A at *
      have hA2 : ((p ^ e : Nat) : Int) / (p : Int) = (A : Int) := by rw [← hA, Int.natCast_ediv]
      rw [hA2, L3]
      refine ⟨_, _, rfl, rfl, bit_mul (a := 64) (b := 64) (bit_of (by omega)) (bit_of (by omega)) (by decide), ?_⟩
      walk_at "gi"
      refine ⟨x, k, A * (p - 1), p ^ e, by rw [Int.natCast_mul], hx, rp.1, by omega, by omega, hq, q⟩
theorem cro_le {x : Int} {k p e : Nat} (hp : Pr p) (he : 1 ≤ e) : cro x k p e ≤ p ^ e := by
  have rp := rnd_cyc hp he
  have q0 : 0 < p ^ e := Nat.pow_pos (by have := hp.1; omega)
  have cb : ∀ L, 0 < L → cic x k L (p ^ e) ≤ L := fun L L0 => by
    unfold cic
    split
    · exact Nat.le_of_dvd L0 (Nat.gcd_dvd_right _ _)
    · omega
  unfold rnd at rp
  unfold cro
  by_cases c : p = 2 ∧ 2 < e
  · rw [if_pos c] at rp ⊢
    have := cb _ rp.1
    split
    · exact q0
    · split
      · omega
      · omega
  · rw [if_neg c] at rp ⊢
    exact Nat.le_trans (cb _ rp.1) (Nat.le_trans (Nat.mul_le_mul_left _ (Nat.sub_le p 1)) (Nat.div_mul_le_self _ _))
theorem cros_le {x : Int} {k : Nat} : ∀ ps : List (Nat × Nat), (∀ a ∈ ps, Pr a.1 ∧ 1 ≤ a.2) → cros x k ps ≤ made ps
  | [], _ => Nat.le_refl _
  | a :: r, h => Nat.mul_le_mul (cro_le (h a List.mem_cons_self).1 (h a List.mem_cons_self).2) (cros_le r fun b hb => h b (List.mem_cons_of_mem _ hb))
theorem cros_snoc (x : Int) (k : Nat) (l : List (Nat × Nat)) (c : Nat × Nat) : cros x k (l ++ [c]) = cros x k l * cro x k c.1 c.2 := by
  unfold cros
  rw [List.map_append, prd_app]
  show _ * (cro x k c.1 c.2 * 1) = _
  rw [Nat.mul_one]
def Crt (x : Int) (k n v : Nat) : Prop := (k = 0 → v = if (x - 1) % (n : Int) = 0 then n else 0) ∧ (k ≠ 0 → ∃ ps, Apart ps n ∧ v = cros x k ps)
def sp_crt (C : Addr) : Sp := fun vs H Q E => ∃ (x : Int) (k n : Nat), vs = [.int x, .int (k : Int), .int (n : Int)] ∧ Nr x ∧ k ≤ 10 ^ 40 ∧ 1 ≤ n ∧ n ≤ 1000000000000 ∧
  (Nat.gcd x.natAbs n = 1 → ∀ v H', Same H H' → Crt x k n v → Q (.int (v : Int)) H') ∧
  (Nat.gcd x.natAbs n ≠ 1 → ∀ d, H d = none → E (.ref C) (some d) (upd H d (.xd [("given", .int x)])))
theorem ok_count_roots (T : Top K mg) : Ok P w K mg base 6 "count_roots" s_count_roots ["number", "power", "base"] (sp_crt (cA mg "NotOpen")) := by
  have G_check_number := ok_check_number (P := P) (w := w) (base := base) T
  have G__check_power := ok__check_power (P := P) (w := w) (base := base) T
  have G__check_open := ok__check_open (P := P) (w := w) (base := base) T
  have G_apart := ok_apart (P := P) (w := w) (base := base) T
  have G__count_roots_by_power := ok__count_roots_by_power (P := P) (w := w) (base := base) T
  refine T.d_count_roots.ok sc_count_roots (fun vs H Q E h => ?_) (fun f cdv A outer s H vs Q E hg hr h => ?_)
  · obtain ⟨x, k, n, rfl, _⟩ := h
    rfl
  · obtain ⟨x, k, n, rfl, hx, hk, n1, n2, q1, q2⟩ := h
    have k4 : (k : Int) ≤ 10 ^ 40 := by exact_mod_cast hk
    refine ⟨_, (pss_cons (ps_expr (pe_g G_check_number (fun _ _ F => bd_check_number F) hg (hr.mono (by decide)) passL (by rfl) (pa_cons (pv 0) pa_nil)))
    (pss_cons (ps_expr (pe_g G__check_power (fun _ _ F => bd__check_power F) hg (hr.mono (by decide)) passL (by rfl) (pa_cons (pv 1) pa_nil)))
    (pss_cons (ps_expr (pe_gS G__check_open (fun _ _ F => bd__check_open F) hg (hr.mono (by decide)) (takes_of rfl rfl rfl rfl) (by rfl) (pa_cons (pv 0) (pa_cons (pv 2) pa_nil))))
    (pss_cons (ps_if (pt_cmpR op_eqZ (pv 1) pe_int (nomark _)) (pss_one (ps_ret (pe_ifExp (pt_cmpR op_eqZ (pe_op op_mod (pe_op op_sub (pv 0) pe_int) (pv 2)) pe_int (nomark _)) (pv 2) pe_int))) pss_nil)
    (pss_cons (ps_set (i := 3) sc_count_roots.nd rfl (.inl rfl) pe_int)
    (pss_cons (ps_for (passes_of rfl) rfl (i_tup' rfl (pe_g G_apart (fun _ _ F => bd_apart F) hg (hr.mono (by decide)) passL (by rfl) (pa_cons (pv 2) pa_nil))) (g_tup rfl rfl (pgs_cons (pg_name (i := 4) sc_count_roots.nd rfl (.inl rfl)) (pgs_cons (pg_name (i := 5) sc_count_roots.nd rfl (.inl rfl)) pgs_nil)) rfl rfl) (pss_one (ps_aug (i := 3) sc_count_roots.nd rfl (.inl rfl) (pe_g G__count_roots_by_power (fun _ _ F => bd__count_roots_by_power F) hg (hr.mono (by decide)) passL (by rfl) (pa_cons (pv 0) (pa_cons (pv 1) (pa_cons (pv 4) (pa_cons (pv 5) pa_nil))))) ip_mulX)))
    (pss_one (ps_ret (pv 3))))))))), ?_⟩
    walk_at "sti"
    refine ⟨x, rfl, hx.1, hx.2, ?_⟩
    walk_at "gi"
    refine ⟨(k : Int), rfl, by omega, k4, ?_⟩
    walk_at "gi"
    refine ⟨x, n, rfl, hx, n1, n2, fun c => ?_, fun c d hd => q2 c d hd⟩
    have q := q1 c
    walk_at "gi"
    refine ifd (fun k0 => ?_) (fun k0 => ?_)
    · walk_at "gi"
      refine ⟨_, _, rfl, rfl, by omega, ?_⟩
      walk_at "gi"
      refine ifd (fun d => ?_) (fun d => ?_)
      · walk_at "gi"
        exact q n H (Same.refl _) ⟨fun _ => (if_pos d).symm, fun z => absurd (by omega) z⟩
      · walk_at "gi"
        exact q 0 H (Same.refl _) ⟨fun _ => (if_neg d).symm, fun z => absurd (by omega) z⟩
    walk_at "gi"
    refine ⟨n, rfl, n1, n2, fun a ps H1 s1 hf hl A => ?_⟩
    walk_at "gi"
    obtain ⟨vs, sv, pb⟩ := hf
    refine ⟨⟨_, sv⟩, ?_⟩
    have hvl : vs.length = ps.length := by rw [pb.length]; simp [ci]
    refine r_forTs vs (fun i σ H' => ∃ x2 x3, σ = [some (.int x), some (.int (k : Int)), some (.int (n : Int)), some (.int (cros x k (ps.take i) : Int)), x2, x3] ∧ H' = H1)
      ⟨_, _, rfl, rfl⟩ (fun i σ H' hi hP => ?_) (fun i v σ H' hi hP => ?_) (fun σ H' hP => ?_)
    · obtain ⟨x2, x3, rfl, rfl⟩ := hP
      exact sv
    · obtain ⟨x2, x3, rfl, rfl⟩ := hP
      obtain ⟨z, hz, t, rfl, st⟩ := pb.get hi
      obtain ⟨c, hc, rfl⟩ := ci_at hz
      have hcm := List.mem_of_getElem? hc
      have h1 := A.p c hcm
      have cp := Nat.le_of_dvd (by omega) (by rw [← A.m]; exact (made_dvd ps c hcm h1.2).2 : c.1 ^ c.2 ∣ n)
      have tk : ps.take (i + 1) = ps.take i ++ [c] := by rw [List.take_add_one, hc]; rfl
      have cb := cros_le (x := x) (k := k) (ps.take i) fun a ha => A.p a (List.mem_of_mem_take ha)
      have mb : made (ps.take i) ≤ n := by
        have e : made ps = made (ps.take i) * made (ps.drop i) := by rw [← made_app, List.take_append_drop]
        rw [← A.m]
        exact Nat.le_of_dvd (made_pos ps A.p) ⟨_, e⟩
      have ob := cro_le (x := x) (k := k) h1.1 h1.2
      rw [tk, cros_snoc, Int.natCast_mul]
      refine r_gtup st rfl ?_
      walk_at "gi"
      refine ⟨x, k, c.1, c.2, rfl, hx, h1.1, h1.2, by omega, ?_⟩
      walk_at "gi"
      have pb : CMulX ((cros x k (ps.take i) : Nat) : Int) ((cro x k c.1 c.2 : Nat) : Int) := bit_mul (a := 64) (b := 64) (bit_of (by omega)) (bit_of (by omega)) (by decide)
      refine r_ipC pb ?_
      walk_at "gi"
    · obtain ⟨x2, x3, rfl, rfl⟩ := hP
      walk_at "gi"
      rw [hvl, List.take_length]
      exact q _ _ s1 ⟨fun z => absurd (by omega) k0, fun _ => ⟨ps, A, rfl⟩⟩
def frt (x : Int) (k n i : Nat) : List Nat := (List.range i).filter fun y : Nat => decide ((n : Int) ∣ fk x k (y : Int))
theorem frt_le (x : Int) (k n i : Nat) : (frt x k n i).length ≤ i := by
  have := List.length_filter_le (fun y : Nat => decide ((n : Int) ∣ fk x k (y : Int))) (List.range i)
  rwa [List.length_range] at this
theorem frt_succ (x : Int) (k n i : Nat) : frt x k n (i + 1) = frt x k n i ++ if (i : Int) ^ k % (n : Int) = x % (n : Int) then [i] else [] := by
  unfold frt
  rw [List.range_succ, List.filter_append]
  congr 1
  by_cases c : (i : Int) ^ k % (n : Int) = x % (n : Int)
  · rw [if_pos c, List.filter_cons_of_pos (by rw [decide_eq_true (fk_iff.mpr c)])]
    rfl
  · rw [if_neg c, List.filter_cons_of_neg (by rw [decide_eq_false fun d => c (fk_iff.mp d)]; exact Bool.false_ne_true)]
    rfl
def sp_roots (K : PySem.W.Frag) : Sp := fun vs H Q _ => ∃ (x : Int) (k n : Nat), vs = [.int x, .int (k : Int), .int (n : Int)] ∧ Nr x ∧ k ≤ 10 ^ 40 ∧ 1 ≤ n ∧ n ≤ 5000 ∧
  ∀ a H', Same H H' → SqT K H' a ((zsL (fk x k) n).map fun y : Nat => V.int (y : Int)) → Q (.ref a) H'
theorem ok_roots (T : Top K mg) : Ok P w K mg base 8 "roots" s_roots ["number", "power", "base"] (sp_roots K) := by
  have G_check_number := ok_check_number (P := P) (w := w) (base := base) T
  have G__check_power := ok__check_power (P := P) (w := w) (base := base) T
  have G_check_base := ok_check_base (P := P) (w := w) (base := base) T
  have G_check_walked := ok_check_walked (P := P) (w := w) (base := base) T
  have G_common_length := ok_common_length (P := P) (w := w) (base := base) T
  have G_raised_by := ok_raised_by (P := P) (w := w) (base := base) T
  refine T.d_roots.ok sc_roots (fun vs H Q E h => ?_) (fun f cdv A outer s H vs Q E hg hr h => ?_)
  · obtain ⟨x, k, n, rfl, _⟩ := h
    rfl
  · obtain ⟨x, k, n, rfl, hx, hk, n1, n2, q⟩ := h
    have k4 : (k : Int) ≤ 10 ^ 40 := by exact_mod_cast hk
    refine ⟨_, (pss_cons (ps_expr (pe_g G_check_number (fun _ _ F => bd_check_number F) hg (hr.mono (by decide)) passL (by rfl) (pa_cons (pv 0) pa_nil)))
    (pss_cons (ps_expr (pe_g G__check_power (fun _ _ F => bd__check_power F) hg (hr.mono (by decide)) passL (by rfl) (pa_cons (pv 1) pa_nil)))
    (pss_cons (ps_expr (pe_g G_check_base (fun _ _ F => bd_check_base F) hg (hr.mono (by decide)) passL (by rfl) (pa_cons (pv 2) pa_nil)))
    (pss_cons (ps_expr (pe_g G_check_walked (fun _ _ F => bd_check_walked F) hg (hr.mono (by decide)) passL (by rfl) (pa_cons (pv 2) pa_nil)))
    (pss_cons (ps_set (i := 3) sc_roots.nd rfl (.inr rfl) (pv 1))
    (pss_cons (ps_if (pt_cmpR op_gt (pv 1) (pe_gi T.c_LONGEST_TAIL (by rfl)) (nomark _)) (pss_one (ps_set (i := 3) sc_roots.nd rfl (.inr rfl) (pe_op op_add (pe_gi T.c_LONGEST_TAIL (by rfl)) (pe_op op_mod (pe_op op_sub (pv 1) (pe_gi T.c_LONGEST_TAIL (by rfl))) (pe_g G_common_length (fun _ _ F => bd_common_length F) hg (hr.mono (by decide)) passL (by rfl) (pa_cons (pv 2) pa_nil)))))) pss_nil)
    (pss_cons (ps_set (i := 4) sc_roots.nd rfl (.inr rfl) (pe_op op_mod (pv 0) (pv 2)))
    (pss_one (ps_ret (pe_callTy (T := "tuple") (c_tuple rfl) (by rfl) T.b_tuple (by decide +kernel) (pa_cons (pe_lc (own := [("root", 5)]) (by rfl) sc_roots.nd (pi_range1 (by rfl) T.b_range (pa_cons (pv 2) pa_nil)) (blkOk_by (own := [("root", 5)]) (N := ["number", "power", "base", "least", "rest", "root"]) (sc := defScope s_roots) (by decide +kernel)) (fun _ _ _ _ _ => (pg_name (i := 5) sc_roots.nd rfl (by first | exact Or.inl rfl | exact Or.inr rfl))) (fun _ _ _ _ _ => (pts_one (pt_cmpR op_eqZ (pe_g G_raised_by (fun _ _ F => bd_raised_by F) hg (hr.mono (by decide)) passL (by rfl) (pa_cons (pv 5) (pa_cons (pv 3) (pa_cons (pv 2) pa_nil)))) (pv 4) (nomark _)))) (fun _ _ _ _ _ => (pv 5))) pa_nil))))))))))), ?_⟩
    walk_at "sti"
    refine ⟨x, rfl, hx.1, hx.2, ?_⟩
    walk_at "gi"
    refine ⟨(k : Int), rfl, by omega, k4, ?_⟩
    walk_at "gi"
    have E12 := e12
    refine ⟨(n : Int), rfl, by omega, by omega, ?_⟩
    walk_at "gi"
    refine ⟨n, rfl, n2, ?_⟩
    walk_at "go"
    refine j_s (fun σ' H2 => Same H H2 ∧ ∃ m : Nat, σ' = [some (.int x), some (.int (k : Int)), some (.int (n : Int)), some (.int (m : Int)), none, none] ∧ ∀ y : Int, y ^ m % (n : Int) = y ^ k % (n : Int)) (fun nx' hnx => ?_) (fun σ' H2 hM => ?_)
    · walk_at "gi"
      refine ifd (fun c => ?_) (fun c => ?_)
      · walk_at "gi"
        refine ⟨n, rfl, n1, by omega, fun ps H1 s1 A => ?_⟩
        walk_at "gi"
        have L0 := A.length.1
        refine ⟨_, _, rfl, rfl, by omega, ?_⟩
        walk_at "gi"
        refine hnx _ _ ⟨s1, 40 + (k - 40) % lcs (cycs ps), ?_, fun y => ?_⟩
        · rw [show (40 : Int) + ((k : Int) - 40) % (lcs (cycs ps) : Int) = ((40 + (k - 40) % lcs (cycs ps) : Nat) : Int) by
            rw [Int.natCast_add, Int.natCast_emod, show ((k - 40 : Nat) : Int) = (k : Int) - 40 by omega]; rfl]
          rfl
        · have e := tails_40 A (Nat.lt_of_le_of_lt n2 (by decide)) y (i := 40 + (k - 40) % lcs (cycs ps)) (t := lcs (cycs ps) * ((k - 40) / lcs (cycs ps))) (by omega) (Nat.dvd_mul_right _ _)
          rw [← e]
          have := Nat.mod_add_div (k - 40) (lcs (cycs ps))
          rw [show 40 + (k - 40) % lcs (cycs ps) + lcs (cycs ps) * ((k - 40) / lcs (cycs ps)) = k by omega]
      · walk_at "gi"
        exact hnx _ _ ⟨Same.refl _, k, rfl, fun y => rfl⟩
    obtain ⟨s2, m, rfl, hm⟩ := hM
    walk_at "gi"
    refine ⟨_, _, rfl, rfl, by omega, ?_⟩
    walk_at "gi"
    refine ⟨by omega, by omega, ?_⟩
    rw [Int.toNat_natCast]
    refine r_lcR (fun D i H' => Same H2 H' ∧ H' D = some (.lst ((frt x k n i).map fun y : Nat => V.int (y : Int)))) (fun D hD => ⟨Same.new hD, upd_same⟩) (fun D i H' hD hi hP => ?_) (fun D H' hD hP => ?_)
    · obtain ⟨s3, d3⟩ := hP
      have li := frt_le x k n i
      have ef := frt_succ x k n i
      have b30 : Ba (n : Int) := ⟨by omega, by omega⟩
      walk_at "gi"
      refine ⟨rfl, ?_⟩
      walk_at "gi"
      rw [Int.zero_add] at *
      refine ⟨(i : Int), (n : Int), m, rfl, ⟨by omega, by omega⟩, b30, ?_⟩
      rw [hm]
      walk_at "gi"
      refine ifd (fun c => ?_) (fun c => ?_)
      · rw [if_pos c] at ef
        walk_at "gi"
        refine ⟨_, d3, Nat.lt_of_le_of_lt (show _ ≤ 5000 by rw [List.length_map]; omega) (by decide), fun b o e => ?_, ?_⟩
        · rw [upd_ne (ne_of_none e hD)]
          exact s3 _ _ e
        · rw [ef, List.map_append]
          exact upd_same
      · rw [if_neg c, List.append_nil] at ef
        rw [ef]
        exact ⟨s3, d3⟩
    · obtain ⟨s3, d3⟩ := hP
      walk_at "gi"
      exact r_tupL (SqL.of d3) fun l hl => q l _ ((s2.trans s3).trans (Same.new hl)) (SqT.of upd_same)
end
section
variable {P : Program} {w : World} {K : PySem.W.Frag} {mg : Str → Option Value} {base : Heap}
theorem Nr.nat {x : Nat} (h : x ≤ 10 ^ 40) : Nr (x : Int) := by
  unfold Nr
  omega
theorem Nr.mod {a n : Int} (h : Ba n) : Nr (a % n) := by
  obtain ⟨h1, h2, _⟩ := mod_lt (a := a) h
  have := h.2
  unfold Nr
  omega
theorem shapedOne {z : Str} (x : Int) (hz : PyData.canLay0 (.str z) = true) : SeqAt.shaped (.tuple [.str z, .int x]) = true := by
  unfold SeqAt.shaped
  rw [Bool.and_eq_true]
  refine ⟨?_, decide_eq_true ?_⟩
  · show (PyData.canLay0 (.str z) && (true && true)) = true
    rw [hz]; rfl
  · show max (0 : Nat) (max 0 0) + 1 ≤ 64
    decide
theorem openOk : PyData.canLay0 (.str "open") = true := by decide +kernel
end
section
variable {P : Program} {w : World} {K : PySem.W.Frag} {mg : Str → Option Value} {base : Heap}
/-! ### small bases -/
def sp_lcounted (K : PySem.W.Frag) : Sp := fun vs H Q _ => ∃ (x : Int) (k n : Nat), vs = [.int x, .int (k : Int), .int (n : Int)] ∧ Nr x ∧ k ≤ 10 ^ 40 ∧ 1 ≤ n ∧ n ≤ 1000000000000 ∧
  Nat.gcd x.natAbs n ≠ 1 ∧ ∀ p H', Same H H' → H p = none → H' p = some (.tup [.str "open", .int x]) → Q (.ref p) H'
theorem ok__law_counted (T : Top K mg) : Ok P w K mg base 7 "_law_counted" s__law_counted ["_law_x", "_law_k", "_law_n"] (sp_lcounted K) := by
  have G_count_roots := ok_count_roots (P := P) (w := w) (base := base) T
  refine T.d__law_counted.ok sc__law_counted (fun vs H Q E h => ?_) (fun f cdv A outer s H vs Q E hg hr h => ?_)
  · obtain ⟨x, k, n, rfl, _⟩ := h
    rfl
  · obtain ⟨x, k, n, rfl, hx, hk, n1, n2, c, q⟩ := h
    refine ⟨_, (pss_one (ps_try_as (i := 3) rfl rfl sc__law_counted.nd rfl rfl ⟨by rfl, by decide, .inl T.g_NotOpen⟩ takes0 (fun W pn xe tk po => (pss_one (ps_ret (pe_gS G_count_roots (fun _ _ F => bd_count_roots F) hg (hr.mono (by decide)) tk (by rfl) (pa_cons (pv 0) (pa_cons (pv 1) (pa_cons (pv 2) pa_nil))))))) (fun a oe cls dd pn hz hf => (pss_one (ps_ret (pe_tup (pa_cons pe_str (pa_cons (pe_xf T.ec_NotOpen.xf T.n_NotOpen_given hz hf (pv 3)) pa_nil)))))))), ?_⟩
    walk_at "st"
    refine ⟨x, k, n, rfl, hx, hk, n1, n2, fun z => absurd z c, fun _ d hd => w_as T.e_NotOpen_NotOpen fun a ha => ?_⟩
    walk_at "go"
    refine ⟨rfl, rfl, d, _, _, rfl, upd_same, rfl, ?_⟩
    walk_at "go"
    exact q _ _ ((Same.new hd).trans (Same.new (by assumption))) (none_up (by assumption)) upd_same
theorem r_reprB {H : Hp} {Q : VK} {a : Addr} (d : PyData) (hd : Dp K H (.ref a) d) (ht : tame d = true) (hp : d.depth ≤ 40) (hz : room d ≤ 16000000) (h : Q (.str d.shown) H) : rRepr K [.ref a] H Q := by
  obtain ⟨h1, _, h2⟩ := shown_le d ht
  exact r_repr hd h1 hp (Nat.le_trans (Nat.le_trans h2 hz) (by decide)) h
theorem r_reprTB {H : Hp} {Q : VK} {a p q : Addr} (ns : List Int) (hs : SqL K H a [.ref p, .ref q]) (h1 : SqT K H p (ns.map V.int)) (h2 : SqT K H q (ns.map V.int)) (b : ∀ n ∈ ns, n.natAbs < 2 ^ 1900) (l1 : ns.length ≤ 1000)
    (h : Q (.str (PyData.list [tupD ns, tupD ns]).shown) H) : rRepr K [.ref a] H Q := by
  refine r_reprB (PyData.list [tupD ns, tupD ns]) (.lst hs (.cons (Dp.tupD h1) (.cons (Dp.tupD h2) .nil))) ?_ ?_ ?_ h
  · show (tameAll (ns.map PyData.int) && (tameAll (ns.map PyData.int) && true)) = true
    rw [tameInts ns b]
    rfl
  · show max (PyData.depthAll (ns.map PyData.int) + 1) (max (PyData.depthAll (ns.map PyData.int) + 1) 0) + 1 ≤ 40
    rw [depthInts]
    decide
  · show 4 + ((4 + roomAll (ns.map PyData.int)) + 2 + ((4 + roomAll (ns.map PyData.int)) + 2 + 0)) ≤ 16000000
    rw [roomInts]
    omega
def rt (x : Int) (k n : Nat) : List Int := (zsL (fk x k) n).map fun y : Nat => (y : Int)
theorem rt_v (x : Int) (k n : Nat) : ((zsL (fk x k) n).map fun y : Nat => V.int (y : Int)) = (rt x k n).map V.int := by
  unfold rt
  rw [List.map_map]
  rfl
theorem rt_len (x : Int) (k n : Nat) : (rt x k n).length = (zsL (fk x k) n).length := List.length_map ..
theorem rt_le (x : Int) (k n : Nat) : (rt x k n).length ≤ n := by
  rw [rt_len]
  exact frt_le x k n n
theorem rt_small {x : Int} {k n : Nat} (h : n ≤ 1000) : ∀ z ∈ rt x k n, z.natAbs < 2 ^ 1900 := fun z hz => by
  obtain ⟨y, hy, rfl⟩ := List.mem_map.mp hz
  have := (zs_mem.mp hy).1
  rw [Int.natAbs_natCast]
  exact Nat.lt_of_lt_of_le (show y < 2 ^ 10 by omega) (Nat.pow_le_pow_right (by decide) (by decide))
/-- every power of a prime that divides is small -/
def Sm (n : Nat) : Prop := ∀ p e, Pr p → p ^ e ∣ n → p ^ e ≤ 60
theorem Crt.told {x : Int} {k n v : Nat} (h : Crt x k n v) (s : Sm n) (g : Nat.gcd x.natAbs n = 1) : v = (zsL (fk x k) n).length := by
  by_cases k0 : k = 0
  · subst k0
    rw [h.1 rfl, zs_zero]
  · obtain ⟨ps, A, e⟩ := h.2 k0
    rw [e, cros_count (by omega) ps A.p A.s (fun a ha => s _ _ (A.p a ha).1 (by rw [← A.m]; exact pow_le_made ps A.p a ha)) (fun a ha => open_not g (A.p a ha).1 (by rw [← A.m]; exact mem_dvd ps a ha (A.p a ha).2)), A.m]
def sp_one : Sp := fun vs H Q _ => ∃ (x : Int) (k n : Nat), vs = [.int x, .int (k : Int), .int (n : Int)] ∧ x.natAbs ≤ 1000 ∧ k ≤ 10 ^ 40 ∧ 1 ≤ n ∧ n ≤ 60 ∧ ∀ H', Same H H' → Q (.bl true) H'
theorem ok__law_one_right (T : Top K mg) : Ok P w K mg base 9 "_law_one_right" s__law_one_right ["_law_x", "_law_k", "_law_n"] sp_one := by
  have G__law_raised := ok__law_raised (P := P) (w := w) (base := base) T
  have G_roots := ok_roots (P := P) (w := w) (base := base) T
  have G_is_open := ok_is_open (P := P) (w := w) (base := base) T
  have G__law_counted := ok__law_counted (P := P) (w := w) (base := base) T
  have G_count_roots := ok_count_roots (P := P) (w := w) (base := base) T
  refine T.d__law_one_right.ok sc__law_one_right (fun vs H Q E h => ?_) (fun f cdv A outer s H vs Q E hg hr h => ?_)
  · obtain ⟨x, k, n, rfl, _⟩ := h
    rfl
  · obtain ⟨x, k, n, rfl, hx, hk, n1, n2, q⟩ := h
    have nx : Nr x := ⟨by omega, by omega⟩
    have b30 : Ba (n : Int) := ⟨by omega, by omega⟩
    refine ⟨_, (pss_cons (ps_set (i := 3) sc__law_one_right.nd rfl (.inl rfl) (pe_callTy (T := "tuple") (c_tuple rfl) (by rfl) T.b_tuple (by decide +kernel) (pa_cons (pe_lc (own := [("_law_here", 4)]) (by rfl) sc__law_one_right.nd (pi_range1 (by rfl) T.b_range (pa_cons (pv 2) pa_nil)) (blkOk_by (own := [("_law_here", 4)]) (N := ["_law_x", "_law_k", "_law_n", "_law_due", "_law_here"]) (sc := defScope s__law_one_right) (by decide +kernel)) (fun _ _ _ _ _ => (pg_name (i := 4) sc__law_one_right.nd rfl (by first | exact Or.inl rfl | exact Or.inr rfl))) (fun _ _ _ _ _ => (pts_one (pt_cmpR op_eqZ (pe_g G__law_raised (fun _ _ F => bd__law_raised F) hg (hr.mono (by decide)) passL (by rfl) (pa_cons (pv 4) (pa_cons (pv 1) (pa_cons (pv 2) pa_nil)))) (pe_op op_mod (pe_callTy (T := "int") c_int (by rfl) T.b_int (by decide +kernel) (pa_cons (pv 0) pa_nil)) (pv 2)) (nomark _)))) (fun _ _ _ _ _ => (pv 4))) pa_nil)))
    (pss_cons (ps_if (pt_cmpR op_neS (pe_callB (id := "repr") (c_repr rfl hg hr.units) (by rfl) T.b_repr (by decide +kernel) (pa_cons (pe_lst (pa_cons (pe_g G_roots (fun _ _ F => bd_roots F) hg (hr.mono (by decide)) passL (by rfl) (pa_cons (pv 0) (pa_cons (pv 1) (pa_cons (pv 2) pa_nil)))) (pa_cons (pe_gk0 G_roots (fun _ _ F => kb_roots_0 F) hg (hr.mono (by decide)) passL (by rfl) (pk_cons (pv 2) (pk_cons (pv 1) (pk_cons (pv 0) pk_nil)))) pa_nil))) pa_nil)) (pe_callB (id := "repr") (c_repr rfl hg hr.units) (by rfl) T.b_repr (by decide +kernel) (pa_cons (pe_lst (pa_cons (pv 3) (pa_cons (pv 3) pa_nil))) pa_nil)) (nomark _)) (pss_one (ps_ret pe_bl)) pss_nil)
    (pss_cons (ps_if (pt_not (pt_val (pe_g G_is_open (fun _ _ F => bd_is_open F) hg (hr.mono (by decide)) passL (by rfl) (pa_cons (pv 0) (pa_cons (pv 2) pa_nil))))) (pss_one (ps_ret (pe_cmpR (o_eqD rfl hr.units) (pe_g G__law_counted (fun _ _ F => bd__law_counted F) hg (hr.mono (by decide)) passL (by rfl) (pa_cons (pv 0) (pa_cons (pv 1) (pa_cons (pv 2) pa_nil)))) (pe_tup (pa_cons pe_str (pa_cons (pv 0) pa_nil))) (nomark _)))) pss_nil)
    (pss_one (ps_ret (pe_cmpR op_eqS (pe_callB (id := "repr") (c_repr rfl hg hr.units) (by rfl) T.b_repr (by decide +kernel) (pa_cons (pe_lst (pa_cons (pe_gS G_count_roots (fun _ _ F => bd_count_roots F) hg (hr.mono (by decide)) (takes_of rfl rfl rfl rfl) (by rfl) (pa_cons (pv 0) (pa_cons (pv 1) (pa_cons (pv 2) pa_nil)))) (pa_cons (pe_gkS0 G_count_roots (fun _ _ F => kb_count_roots_1 F) hg (hr.mono (by decide)) (takes_of rfl rfl rfl rfl) (by rfl) (pk_cons (pv 2) (pk_cons (pv 1) (pk_cons (pv 0) pk_nil)))) pa_nil))) pa_nil)) (pe_callB (id := "repr") (c_repr rfl hg hr.units) (by rfl) T.b_repr (by decide +kernel) (pa_cons (pe_op op_rep (pe_lst (pa_cons (pe_callB (id := "len") (c_len rfl) (by rfl) T.b_len (by decide +kernel) (pa_cons (pv 3) pa_nil)) pa_nil)) pe_int) pa_nil)) (nomark _))))))), ?_⟩
    walk_at "sti"
    refine ⟨by omega, by omega, ?_⟩
    rw [Int.toNat_natCast]
    refine r_lcR (fun D i H' => Same H H' ∧ H' D = some (.lst ((frt x k n i).map fun y : Nat => V.int (y : Int)))) (fun D hD => ⟨Same.new hD, upd_same⟩) (fun D i H' hD hi hP => ?_) (fun D H' hD hP => ?_)
    · obtain ⟨s3, d3⟩ := hP
      have li := frt_le x k n i
      have ef := frt_succ x k n i
      walk_at "gi"
      refine ⟨rfl, ?_⟩
      walk_at "gi"
      rw [Int.zero_add] at *
      refine ⟨(i : Int), (n : Int), k, rfl, Nat.lt_of_le_of_lt (show _ ≤ 60 by omega) (by decide), hk, b30, ?_⟩
      walk_at "gi"
      refine ⟨_, _, rfl, rfl, by omega, ?_⟩
      walk_at "gi"
      refine ifd (fun c => ?_) (fun c => ?_)
      · rw [if_pos c] at ef
        walk_at "gi"
        refine ⟨_, d3, Nat.lt_of_le_of_lt (show _ ≤ 5000 by rw [List.length_map]; omega) (by decide), fun b o e => ?_, ?_⟩
        · rw [upd_ne (ne_of_none e hD)]
          exact s3 _ _ e
        · rw [ef, List.map_append]
          exact upd_same
      · rw [if_neg c, List.append_nil] at ef
        rw [ef]
        exact ⟨s3, d3⟩
    · obtain ⟨s3, d3⟩ := hP
      have d4 : SqL K H' D ((rt x k n).map V.int) := by rw [← rt_v]; exact SqL.of d3
      walk_at "gi"
      refine r_tupL d4 fun l hl => ?_
      walk_at "gi"
      have tl : SqT K (upd H' l (.tup ((rt x k n).map V.int))) l ((rt x k n).map V.int) := SqT.of upd_same
      have sl := s3.trans (Same.new (o := .tup ((rt x k n).map V.int)) hl)
      generalize upd H' l (.tup ((rt x k n).map V.int)) = H0 at *
      refine ⟨x, k, n, rfl, nx, hk, n1, by omega, fun a1 H1 s1 t1 => ?_⟩
      rw [rt_v] at t1
      walk_at "gi"
      refine ⟨x, k, n, rfl, nx, hk, n1, by omega, fun a2 H2 s2 t2 => ?_⟩
      rw [rt_v] at t2
      walk_at "gi"
      rename_i p3 h3
      have s23 := s2.trans (Same.new (o := .lst [.ref a1, .ref a2]) h3)
      refine r_reprTB (rt x k n) (SqL.of upd_same) (Same.tt s23 _ _ _ t1) (Same.tt (Same.new h3) _ _ _ t2) (rt_small (by omega)) (Nat.le_trans (rt_le x k n) (by omega)) ?_
      have tl3 := Same.tt (s1.trans s23) _ _ _ tl
      have sl3 := sl.trans (s1.trans s23)
      generalize upd H2 p3 (.lst [.ref a1, .ref a2]) = H3 at *
      walk_at "gi"
      rename_i p4 h4
      refine r_reprTB (rt x k n) (SqL.of upd_same) (Same.tt (Same.new h4) _ _ _ tl3) (Same.tt (Same.new h4) _ _ _ tl3) (rt_small (by omega)) (Nat.le_trans (rt_le x k n) (by omega)) ?_
      have sl4 := sl3.trans (Same.new (o := .lst [.ref l, .ref l]) h4)
      have tl4 := Same.tt (Same.new (o := .lst [.ref l, .ref l]) h4) _ _ _ tl3
      generalize upd H3 p4 (.lst [.ref l, .ref l]) = H4 at *
      walk_at "gi"
      refine ifnd (fun c => absurd rfl c) (fun _ => ?_)
      walk_at "gi"
      refine ⟨x, (n : Int), rfl, nx, b30, ?_⟩
      rw [Int.natAbs_natCast]
      walk_at "go"
      refine ifnd (fun g => ?_) (fun g => ?_)
      · walk_at "gi"
        refine ⟨x, k, n, rfl, nx, hk, n1, by omega, g, fun p5 H5 s5 np hp5 => ?_⟩
        walk_at "gi"
        refine r_eqD (d := .tuple [.str "open", .int x]) (e := .tuple [.str "open", .int x]) (.tup (SqT.of (by walk_at "vat")) (.cons (.str _) (.cons (.int _) .nil))) (.tup (SqT.of upd_same) (.cons (.str _) (.cons (.int _) .nil))) (shapedOne _ openOk) (shapedOne _ openOk) ?_
        rw [SeqAt.eqv_refl _ (SeqAt.canLay_of_shaped (shapedOne _ openOk))]
        walk_at "gi"
        exact q _ ((sl4.trans s5).trans (Same.new (by assumption)))
      · have sm : Sm n := fun p e hp hd => Nat.le_trans (Nat.le_of_dvd n1 hd) n2
        walk_at "gi"
        refine ⟨x, k, n, rfl, nx, hk, n1, by omega, fun _ v1 H5 s5 c1 => ?_, fun z => absurd g z⟩
        rw [c1.told sm g]
        walk_at "gi"
        refine ⟨x, k, n, rfl, nx, hk, n1, by omega, fun _ v2 H6 s6 c2 => ?_, fun z => absurd g z⟩
        rw [c2.told sm g]
        have L60 : (zsL (fk x k) n).length ≤ 60 := by have := rt_le x k n; rw [rt_len] at this; omega
        generalize hN : (zsL (fk x k) n).length = N at *
        have sm2 : ∀ z ∈ [(N : Int), (N : Int)], z.natAbs < 2 ^ 1900 := fun z hz => by
          have : z = (N : Int) := by simpa using hz
          rw [this]
          exact Nat.lt_of_le_of_lt (show _ ≤ 60 by omega) (Nat.lt_of_lt_of_le (show 60 < 2 ^ 6 by decide) (Nat.pow_le_pow_right (by decide) (by decide)))
        walk_at "gi"
        rename_i p7 h7
        refine r_reprI [(N : Int), (N : Int)] (SqL.of upd_same) sm2 (Nat.le_of_ble_eq_true rfl) ?_
        have s67 := (s5.trans s6).trans (Same.new (o := .lst [.int (N : Int), .int (N : Int)]) h7)
        have tl7 := Same.tt s67 _ _ _ tl4
        have sl7 := sl4.trans s67
        generalize upd H6 p7 (.lst [.int (N : Int), .int (N : Int)]) = H7 at *
        walk_at "gi"
        rw [List.length_map, rt_len, hN]
        rename_i p8 h8
        refine r_rep upd_same (by omega) (by omega) (Nat.le_of_ble_eq_true rfl) fun p9 h9 => ?_
        walk_at "gi"
        refine r_reprI [(N : Int), (N : Int)] (SqL.of upd_same) sm2 (Nat.le_of_ble_eq_true rfl) ?_
        refine ⟨_, _, rfl, rfl, ?_⟩
        rw [decide_eq_true rfl]
        exact q _ ((sl7.trans (Same.new h8)).trans (Same.new h9))
end
section
variable {P : Program} {w : World} {K : PySem.W.Frag} {mg : Str → Option Value} {base : Heap}
/-! ### two bases -/
theorem flatMap_same {α β : Type} {f g : α → List β} : ∀ {l : List α}, (∀ a ∈ l, f a = g a) → l.flatMap f = l.flatMap g
  | [], _ => rfl
  | a :: l, h => by
    rw [List.flatMap_cons, List.flatMap_cons, h a List.mem_cons_self, flatMap_same fun b hb => h b (List.mem_cons_of_mem _ hb)]
open Classical in
noncomputable def crN (m q a b : Nat) : Nat := if h : ∃ R, R < m * q ∧ R % m = a ∧ R % q = b then h.choose else 0
theorem crN_spec {m q a b : Nat} (c : Nat.Coprime m q) (ha : a < m) (hb : b < q) : crN m q a b < m * q ∧ crN m q a b % m = a ∧ crN m q a b % q = b := by
  have h := crt_ex c ha hb
  unfold crN
  rw [dif_pos h]
  exact h.choose_spec
noncomputable def twoL (m q : Nat) (A B : List Nat) : List Nat := A.flatMap fun a => B.map fun b => crN m q a b
theorem twoL_len (m q : Nat) (A B : List Nat) : (twoL m q A B).length = A.length * B.length := by
  unfold twoL
  induction A with
  | nil => simp
  | cons a A ih => rw [List.flatMap_cons, List.length_append, ih, List.length_map, List.length_cons, Nat.add_mul, Nat.one_mul, Nat.add_comm]
theorem zs_lt {f : Int → Int} {n : Nat} : ∀ a ∈ zsL f n, a < n := fun a h => (zs_mem.mp h).1
theorem twoL_perm {x : Int} {k m q : Nat} (c : Nat.Coprime m q) (m0 : 0 < m) (q0 : 0 < q) : (twoL m q (zsL (fk x k) m) (zsL (fk x k) q)).Perm (zsL (fk x k) (m * q)) := by
  refine crt_step (fk_cong x k) c m0 q0 (List.Perm.refl _) (List.Perm.refl _) ?_ fun R hR => ?_
  · unfold twoL
    rw [List.map_flatMap]
    refine flatMap_same fun a ha => ?_
    rw [List.map_map]
    refine List.map_congr_left fun b hb => ?_
    have h := crN_spec c (zs_lt a ha) (zs_lt b hb)
    show (crN m q a b % m, crN m q a b % q) = (a, b)
    rw [h.2.1, h.2.2]
  · obtain ⟨a, ha, h⟩ := List.mem_flatMap.mp hR
    obtain ⟨b, hb, rfl⟩ := List.mem_map.mp h
    exact (crN_spec c (zs_lt a ha) (zs_lt b hb)).1
theorem rt_asc (x : Int) (k n : Nat) : (rt x k n).Pairwise (· < ·) := by
  unfold rt zsL
  refine List.pairwise_map.mpr ((List.pairwise_lt_range.filter _).imp fun h => by omega)
theorem same_sorted {a b : List Int} (h : a.Perm b) (s1 : a.Pairwise (· ≤ ·)) (s2 : b.Pairwise (· < ·)) : a = b :=
  List.Perm.eq_of_pairwise (le := fun a b : Int => a ≤ b) (fun _ _ _ _ u v => Int.le_antisymm u v) s1 (s2.imp fun h => by omega) h
theorem lcm_two {a b m n : Nat} (c : Nat.Coprime m n) : lcmAll [((a : Int), (m : Int)), ((b : Int), (n : Int))] = m * n := by
  show Nat.lcm (Nat.lcm 1 (m : Int).natAbs) (n : Int).natAbs = m * n
  rw [Int.natAbs_natCast, Int.natAbs_natCast, Nat.lcm_one_left]
  have h := Nat.gcd_mul_lcm m n
  rwa [c, Nat.one_mul] at h
theorem nat_v (l : List Nat) : (l.map fun y : Nat => V.int (y : Int)) = (l.map fun y : Nat => (y : Int)).map V.int := by
  rw [List.map_map]
  rfl
theorem sm_mul {m n : Nat} (c : Nat.Coprime m n) (m0 : 0 < m) (n0 : 0 < n) (hm : m ≤ 60) (hn : n ≤ 60) : Sm (m * n) := fun p e hp hd => by
  by_cases d : p ∣ m
  · have h1 : ¬ p ∣ n := fun h => by
      have h2 := Nat.dvd_gcd d h
      rw [c] at h2
      have := Nat.le_of_dvd Nat.one_pos h2
      have := hp.1
      omega
    exact Nat.le_trans (Nat.le_of_dvd m0 (Nat.Coprime.dvd_of_dvd_mul_right (pr_cop hp h1 e) hd)) hm
  · exact Nat.le_trans (Nat.le_of_dvd n0 (Nat.Coprime.dvd_of_dvd_mul_left (pr_cop hp d e) hd)) hn
def sp_two : Sp := fun vs H Q _ => ∃ (x : Int) (k m n : Nat), vs = [.int x, .int (k : Int), .int (m : Int), .int (n : Int)] ∧ x.natAbs ≤ 1000 ∧ k ≤ 10 ^ 40 ∧ 1 ≤ m ∧ m ≤ 60 ∧ 1 ≤ n ∧ n ≤ 60 ∧ Nat.Coprime m n ∧ ∀ H', Same H H' → Q (.bl true) H'
theorem ok__law_two_right (T : Top K mg) : Ok P w K mg base 9 "_law_two_right" s__law_two_right ["_law_x", "_law_k", "_law_m", "_law_n"] sp_two := by
  have G_roots := ok_roots (P := P) (w := w) (base := base) T
  have G_joined := ok_joined (P := P) (w := w) (base := base) T
  have G_is_open := ok_is_open (P := P) (w := w) (base := base) T
  have G_count_roots := ok_count_roots (P := P) (w := w) (base := base) T
  refine T.d__law_two_right.ok sc__law_two_right (fun vs H Q E h => ?_) (fun f cdv A outer s H vs Q E hg hr h => ?_)
  · obtain ⟨x, k, m, n, rfl, _⟩ := h
    rfl
  · obtain ⟨x, k, m, n, rfl, hx, hk, m1, m2, n1, n2, co, q⟩ := h
    have nx : Nr x := ⟨by omega, by omega⟩
    have mn1 : m * n ≤ 60 * 60 := Nat.mul_le_mul m2 n2
    have mn0 : 0 < m * n := Nat.mul_pos m1 n1
    have mm : CMulX (m : Int) (n : Int) := bit_mul (a := 64) (b := 64) (bit_of (by omega)) (bit_of (by omega)) (by decide)
    refine ⟨_, (pss_cons (ps_set (i := 4) sc__law_two_right.nd rfl (.inl rfl) (pe_lst pa_nil))
    (pss_cons (ps_for (passes_of rfl) rfl (i_tup' rfl (pe_g G_roots (fun _ _ F => bd_roots F) hg (hr.mono (by decide)) passL (by rfl) (pa_cons (pv 0) (pa_cons (pv 1) (pa_cons (pv 2) pa_nil))))) (pg_name (i := 5) sc__law_two_right.nd rfl (.inl rfl)) (pss_one (ps_for (passes_of rfl) rfl (i_tup' rfl (pe_g G_roots (fun _ _ F => bd_roots F) hg (hr.mono (by decide)) passL (by rfl) (pa_cons (pv 0) (pa_cons (pv 1) (pa_cons (pv 3) pa_nil))))) (pg_name (i := 6) sc__law_two_right.nd rfl (.inl rfl)) (pss_cons (ps_set (i := 7) sc__law_two_right.nd rfl (.inl rfl) (pe_g G_joined (fun _ _ F => bd_joined F) hg (hr.mono (by decide)) passL (by rfl) (pa_cons (pe_tup (pa_cons (pe_tup (pa_cons (pv 5) (pa_cons (pv 2) pa_nil))) (pa_cons (pe_tup (pa_cons (pv 6) (pa_cons (pv 3) pa_nil))) pa_nil))) pa_nil)))
    (pss_cons (ps_if (pt_cmpR op_neZ (pe_ix (x_tup rfl) (pv 7) pe_int (fun _ _ => rfl)) (pe_op op_mulX (pv 2) (pv 3)) (nomark _)) (pss_one (ps_ret pe_bl)) pss_nil)
    (pss_one (ps_expr (pe_bm PySem.F.plainAttrs_list PySem.F.slot_list_append PySem.F.type_list_append mt_append (pv 4) (pa_cons (pe_ix (x_tup rfl) (pv 7) pe_int (fun _ _ => rfl)) pa_nil)))))))))
    (pss_cons (ps_if (pt_cmpR (o_neD rfl hr.units) (pe_callTy (T := "tuple") (c_tuple rfl) (by rfl) T.b_tuple (by decide +kernel) (pa_cons (pe_callB (id := "sorted") (c_sortedI rfl) (by rfl) T.b_sorted (by decide +kernel) (pa_cons (pv 4) pa_nil)) pa_nil)) (pe_g G_roots (fun _ _ F => bd_roots F) hg (hr.mono (by decide)) passL (by rfl) (pa_cons (pv 0) (pa_cons (pv 1) (pa_cons (pe_op op_mulX (pv 2) (pv 3)) pa_nil)))) (nomark _)) (pss_one (ps_ret pe_bl)) pss_nil)
    (pss_cons (ps_if (pt_not (pt_val (pe_g G_is_open (fun _ _ F => bd_is_open F) hg (hr.mono (by decide)) passL (by rfl) (pa_cons (pv 0) (pa_cons (pe_op op_mulX (pv 2) (pv 3)) pa_nil))))) (pss_one (ps_ret pe_bl)) pss_nil)
    (pss_one (ps_ret (pe_cmpR op_eqZ (pe_gS G_count_roots (fun _ _ F => bd_count_roots F) hg (hr.mono (by decide)) (takes_of rfl rfl rfl rfl) (by rfl) (pa_cons (pv 0) (pa_cons (pv 1) (pa_cons (pe_op op_mulX (pv 2) (pv 3)) pa_nil)))) (pe_op op_mulX (pe_gS G_count_roots (fun _ _ F => bd_count_roots F) hg (hr.mono (by decide)) (takes_of rfl rfl rfl rfl) (by rfl) (pa_cons (pv 0) (pa_cons (pv 1) (pa_cons (pv 2) pa_nil)))) (pe_gS G_count_roots (fun _ _ F => bd_count_roots F) hg (hr.mono (by decide)) (takes_of rfl rfl rfl rfl) (by rfl) (pa_cons (pv 0) (pa_cons (pv 1) (pa_cons (pv 3) pa_nil))))) (nomark _)))))))), ?_⟩
    walk_at "sti"
    rename_i D hD
    have sD : Same H (upd H D (.lst [])) := Same.new hD
    have eD : upd H D (.lst []) D = some (.lst []) := upd_same
    generalize upd H D (.lst []) = H0 at *
    refine ⟨x, k, m, rfl, nx, hk, m1, by omega, fun a1 H1 s1 t1 => ?_⟩
    walk_at "gi"
    have kl := rt_le x k m
    have ll := rt_le x k n
    rw [rt_len] at kl ll
    have lt1 : ∀ a ∈ zsL (fk x k) m, a < m := zs_lt
    have lt2 : ∀ a ∈ zsL (fk x k) n, a < n := zs_lt
    have fin := twoL_perm (x := x) (k := k) co m1 n1
    generalize eA : zsL (fk x k) m = As at *
    generalize eB : zsL (fk x k) n = Bs at *
    have e1 := s1 _ _ eD
    refine r_forTs (As.map fun y : Nat => V.int (y : Int)) (fun i σ H' => ∃ x5 x6 x7, σ = [some (.int x), some (.int (k : Int)), some (.int (m : Int)), some (.int (n : Int)), some (.ref D), x5, x6, x7] ∧ Kx D H1 H' ∧ H' D = some (.lst ((twoL m n (As.take i) Bs).map fun y : Nat => V.int (y : Int))))
      ⟨_, _, _, rfl, Kx.refl _, e1⟩ (fun i σ H' hi hP => ?_) (fun i v σ H' hi hP => ?_) (fun σ H' hP => ?_)
    · obtain ⟨x5, x6, x7, rfl, y2, _⟩ := hP
      exact y2.tt e1 _ _ _ t1
    · obtain ⟨x5, x6, x7, rfl, y2, el⟩ := hP
      obtain ⟨a, ha, rfl⟩ : ∃ a : Nat, As[i]? = some a ∧ v = .int (a : Int) := by
        rw [List.getElem?_map] at hi
        cases e : As[i]? with
        | none => rw [e] at hi; cases hi
        | some c =>
          rw [e] at hi
          exact ⟨c, rfl, (Option.some.inj hi).symm⟩
      have tkA : twoL m n (As.take (i + 1)) Bs = twoL m n (As.take i) Bs ++ Bs.map fun b => crN m n a b := by
        unfold twoL
        rw [List.take_add_one, ha, List.flatMap_append]
        simp
      have al := lt1 a (List.mem_of_getElem? ha)
      have l1 : (twoL m n (As.take i) Bs).length ≤ 60 * 60 := by
        rw [twoL_len, List.length_take]
        exact Nat.mul_le_mul (by omega) (by omega)
      generalize twoL m n (As.take i) Bs = Ts at *
      rw [tkA]
      walk_at "gi"
      refine ⟨x, k, n, rfl, nx, hk, n1, by omega, fun a2 H2 s2 t2 => ?_⟩
      rw [eB] at t2
      walk_at "gi"
      have e2 := s2 _ _ el
      refine r_forTs (Bs.map fun y : Nat => V.int (y : Int)) (fun j σ H' => ∃ x6 x7, σ = [some (.int x), some (.int (k : Int)), some (.int (m : Int)), some (.int (n : Int)), some (.ref D), some (.int (a : Int)), x6, x7] ∧ Kx D H2 H' ∧ H' D = some (.lst ((Ts ++ (Bs.take j).map fun b => crN m n a b).map fun y : Nat => V.int (y : Int))))
        ⟨_, _, rfl, Kx.refl _, by rw [List.take_zero, List.map_nil, List.append_nil]; exact e2⟩ (fun j σ H' hi hP => ?_) (fun j v σ H' hi hP => ?_) (fun σ H' hP => ?_)
      · obtain ⟨x6, x7, rfl, y3, _⟩ := hP
        exact y3.tt e2 _ _ _ t2
      · obtain ⟨x6, x7, rfl, y3, el3⟩ := hP
        obtain ⟨b, hb, rfl⟩ : ∃ b : Nat, Bs[j]? = some b ∧ v = .int (b : Int) := by
          rw [List.getElem?_map] at hi
          cases e : Bs[j]? with
          | none => rw [e] at hi; cases hi
          | some c =>
            rw [e] at hi
            exact ⟨c, rfl, (Option.some.inj hi).symm⟩
        have bl := lt2 b (List.mem_of_getElem? hb)
        have tkB : (Bs.take (j + 1)).map (fun b => crN m n a b) = (Bs.take j).map (fun b => crN m n a b) ++ [crN m n a b] := by
          rw [List.take_add_one, hb, List.map_append]
          rfl
        have hc := crN_spec co al bl
        have l2 : (Bs.take j).length ≤ 60 := by rw [List.length_take]; omega
        rw [tkB]
        walk_at "gi"
        rename_i p1 h1 p2 h2 p3 h3
        have fc : Facts [((a : Int), (m : Int)), ((b : Int), (n : Int))] := ⟨Nat.le_of_ble_eq_true rfl, fun p hp => by
          rcases List.mem_cons.mp hp with rfl | hp
          · exact ⟨by omega, by show (m : Int) ≤ _; omega, by omega, by show (a : Int) < m; omega⟩
          · rw [List.mem_singleton.mp hp]
            exact ⟨by omega, by show (n : Int) ≤ _; omega, by omega, by show (b : Int) < n; omega⟩⟩
        have ft : Fits (crN m n a b : Int) [((a : Int), (m : Int)), ((b : Int), (n : Int))] := fun p hp => by
          rcases List.mem_cons.mp hp with rfl | hp
          · show (crN m n a b : Int) % (m : Int) = (a : Int)
            rw [← Int.natCast_emod, hc.2.1]
          · rw [List.mem_singleton.mp hp]
            show (crN m n a b : Int) % (n : Int) = (b : Int)
            rw [← Int.natCast_emod, hc.2.2]
        refine ⟨p3, _, (crN m n a b : Int), rfl, ⟨_, SqT.of upd_same, .cons ⟨p1, rfl, SqT.of (by walk_at "vat")⟩ (.cons ⟨p2, rfl, SqT.of (by walk_at "vat")⟩ .nil)⟩, fc, ft, fun tJ H4 s4 nJ eJ => ?_⟩
        rw [lcm_two co, Int.emod_eq_of_lt (by omega) (by omega)] at eJ
        have xk : Kx D H' H4 := Same.kx ((((Same.new h1).trans (Same.new h2)).trans (Same.new h3)).trans s4) (Kx.refl _)
        have el4 : H4 D = some (.lst ((Ts ++ (Bs.take j).map fun b => crN m n a b).map fun y : Nat => V.int (y : Int))) := s4 _ _ (at_new h3 (at_new h2 (at_new h1 el3)))
        walk_at "gi"
        refine r_ixT (SqT.of eJ) rfl ?_
        walk_at "gi"
        refine ⟨_, _, rfl, rfl, mm, ?_⟩
        walk_at "gi"
        refine ifnd (fun c => absurd (by rw [Int.natCast_mul]) c) (fun _ => ?_)
        walk_at "gi"
        refine ⟨.inl ⟨rfl, _, SqL.of el4⟩, ?_⟩
        walk_at "gi"
        refine r_ixT (SqT.of eJ) rfl ?_
        walk_at "gi"
        refine r_app el4 (by rw [List.length_map, List.length_append, List.length_map]; omega) ?_
        walk_at "gi"
        refine ⟨(y3.trans xk).trans Kx.upd, ?_⟩
        rw [← List.append_assoc, List.map_append (l₂ := [crN m n a b])]
        exact upd_same
      · obtain ⟨x6, x7, rfl, y3, el3⟩ := hP
        rw [List.length_map, List.take_length] at el3
        exact ⟨_, _, _, rfl, y2.trans (Same.kx s2 y3), el3⟩
    · obtain ⟨x5, x6, x7, rfl, y2, el⟩ := hP
      rw [List.length_map, List.take_length, nat_v] at el
      walk_at "gi"
      refine r_sortedI _ (SqL.of el) fun ms p6 m1' m2' hp6 => ?_
      have em : ms = rt x k (m * n) := same_sorted (m1'.trans (fin.map fun y : Nat => (y : Int))) m2' (rt_asc x k (m * n))
      rw [em]
      walk_at "gi"
      refine r_tupL (SqL.of upd_same) fun p7 hp7 => ?_
      have s7 : Same H H' → Same H (upd (upd H' p6 (.lst ((rt x k (m * n)).map V.int))) p7 (.tup ((rt x k (m * n)).map V.int))) := fun s => (s.trans (Same.new hp6)).trans (Same.new hp7)
      have e7 : SqT K (upd (upd H' p6 (.lst ((rt x k (m * n)).map V.int))) p7 (.tup ((rt x k (m * n)).map V.int))) p7 ((rt x k (m * n)).map V.int) := SqT.of upd_same
      generalize upd (upd H' p6 (.lst ((rt x k (m * n)).map V.int))) p7 (.tup ((rt x k (m * n)).map V.int)) = H7 at *
      have s8 : Same H H7 := s7 fun b o e => y2 b o (ne_of_none e hD) (s1 _ _ (sD _ _ e))
      walk_at "gi"
      refine ⟨_, _, rfl, rfl, mm, ?_⟩
      walk_at "gi"
      refine ⟨x, k, m * n, by rw [Int.natCast_mul], nx, hk, mn0, by omega, fun a8 H8 s9 t8 => ?_⟩
      rw [rt_v] at t8
      refine r_neT (rt x k (m * n)) (rt x k (m * n)) (Same.tt s9 _ _ _ e7) t8 ?_
      rw [decide_eq_true rfl]
      walk_at "gi"
      refine ⟨_, _, rfl, rfl, mm, ?_⟩
      walk_at "gi"
      have b30 : Ba ((m * n : Nat) : Int) := ⟨by omega, by omega⟩
      refine ⟨x, ((m * n : Nat) : Int), by rw [Int.natCast_mul], nx, b30, ?_⟩
      rw [Int.natAbs_natCast]
      walk_at "go"
      refine ifnd (fun g => ?_) (fun g => ?_)
      · walk_at "gi"
        exact q _ (s8.trans s9)
      have gm : Nat.gcd x.natAbs m = 1 := Nat.Coprime.coprime_dvd_right (Nat.dvd_mul_right m n) g
      have gn : Nat.gcd x.natAbs n = 1 := Nat.Coprime.coprime_dvd_right (Nat.dvd_mul_left n m) g
      walk_at "gi"
      refine ⟨_, _, rfl, rfl, mm, ?_⟩
      walk_at "gi"
      refine ⟨x, k, m * n, by rw [Int.natCast_mul], nx, hk, mn0, by omega, fun _ v1 H9 s10 c1 => ?_, fun z => absurd g z⟩
      walk_at "gi"
      refine ⟨x, k, m, rfl, nx, hk, m1, by omega, fun _ v2 H10 s11 c2 => ?_, fun z => absurd gm z⟩
      walk_at "gi"
      refine ⟨x, k, n, rfl, nx, hk, n1, by omega, fun _ v3 H11 s12 c3 => ?_, fun z => absurd gn z⟩
      have w1 := c1.told (sm_mul co m1 n1 m2 n2) g
      have w2 := c2.told (fun p e hp hd => Nat.le_trans (Nat.le_of_dvd m1 hd) m2) gm
      have w3 := c3.told (fun p e hp hd => Nat.le_trans (Nat.le_of_dvd n1 hd) n2) gn
      have w4 : v1 = v2 * v3 := by rw [w1, w2, w3, zs_mul (fk_cong x k) co m1 n1]
      have b2 : v2 ≤ 60 := by rw [w2, eA]; omega
      have b3 : v3 ≤ 60 := by rw [w3, eB]; omega
      walk_at "gi"
      refine ⟨_, _, rfl, rfl, bit_mul (a := 64) (b := 64) (bit_of (by omega)) (bit_of (by omega)) (by decide), ?_⟩
      rw [w4, Int.natCast_mul]
      refine ⟨_, _, rfl, rfl, ?_⟩
      show Q (V.bl (decide ((v2 : Int) * (v3 : Int) = (v2 : Int) * (v3 : Int)))) H11
      rw [decide_eq_true rfl]
      exact q _ ((((s8.trans s9).trans s10).trans s11).trans s12)
end
section
variable {P : Program} {w : World} {K : PySem.W.Frag} {mg : Str → Option Value} {base : Heap}
theorem one_cong {n : Nat} {a b : Int} (h : a % (n : Int) = b % (n : Int)) (k : Nat) : One n (a ^ k) ↔ One n (b ^ k) := by
  rw [One.of_mod, One.of_mod, Vf.cg_pow h k]
theorem gcd_cong {n : Nat} {a b : Int} (h : a % (n : Int) = b % (n : Int)) : Nat.gcd a.natAbs n = Nat.gcd b.natAbs n := by
  rw [← gcd_rest a n, ← gcd_rest b n, h]
end
section
variable {P : Program} {w : World} {K : PySem.W.Frag} {mg : Str → Option Value} {base : Heap}
/-! ### a great base -/
theorem gcds_le (k : Nat) : ∀ l : List Nat, (∀ a ∈ l, 0 < a) → prd (l.map fun c => Nat.gcd c k) ≤ prd l
  | [], _ => Nat.le_refl _
  | a :: l, h => Nat.mul_le_mul (Nat.le_of_dvd (h a List.mem_cons_self) (Nat.gcd_dvd_left _ _)) (gcds_le k l fun b hb => h b (List.mem_cons_of_mem _ hb))
theorem prd_take {l : List Nat} (h : ∀ a ∈ l, 0 < a) (i : Nat) : prd (l.take i) ≤ prd l := by
  refine Nat.le_of_dvd (prd_pos l h) ⟨prd (l.drop i), ?_⟩
  rw [← prd_app, List.take_append_drop]
theorem dps_all {ps : List (Nat × Nat)} {n : Nat} (A : Apart ps n) : (∀ a ∈ dps ps, 0 < a) ∧ prd (dps ps) ≤ n := by
  have hc := cycs_small ps A.p
  have hl := lays_all _ hc.1
  have hb : ∀ a ∈ big (lays (cycs ps)), 0 < a := fun a ha => by have := big_gt a ha; omega
  refine ⟨fun a ha => hb a (List.mem_reverse.mp ha), ?_⟩
  have e : prd (dps ps) = prd (cycs ps) := by
    have h1 := prd_rev id (big (lays (cycs ps)))
    rw [List.map_id, List.map_id] at h1
    unfold dps
    rw [h1, big_prd _ hl.1, hl.2.2.2.1]
  rw [e, ← A.m]
  exact hc.2
theorem Crt.unit {x z : Int} {k n v : Nat} (h : Crt z k n v) (k0 : 0 < k) (g : Nat.gcd x.natAbs n = 1) (hz : (n : Int) ∣ z - x ^ k) {ps : List (Nat × Nat)} (A : Apart ps n) : v = prd ((cycs ps).map fun c => Nat.gcd c k) := by
  obtain ⟨qs, B, e⟩ := h.2 (by omega)
  rw [B.uniq A] at e
  rw [e, cros_unit ps A.p (fun a ha => open_not g (A.p a ha).1 (by rw [← A.m]; exact mem_dvd ps a ha (A.p a ha).2)) (by rw [A.m]; exact hz)]
def sp_lgreat : Sp := fun vs H Q _ => ∃ (a : Addr) (m k : Nat), vs = [.ref a, .int (k : Int)] ∧ Mug m a H ∧ m ≤ 2 ^ 57 ∧ k ≤ 10 ^ 30 ∧ ∀ H', Kx a H H' → Mug (m + 60) a H' → Q (.bl true) H'
theorem ok__law_great_right (T : Top K mg) : Ok P w K mg base 8 "_law_great_right" s__law_great_right ["_law_mug_here", "_law_k"] sp_lgreat := by
  have G__law_made_base := ok__law_made_base (P := P) (w := w) (base := base) T
  have G_parts := ok_parts (P := P) (w := w) (base := base) T
  have G__law_common := ok__law_common (P := P) (w := w) (base := base) T
  have G_count_roots := ok_count_roots (P := P) (w := w) (base := base) T
  have G__law_great := ok__law_great (P := P) (w := w) (base := base) T
  have G_power_rest := ok_power_rest (P := P) (w := w) (base := base) T
  refine T.d__law_great_right.ok sc__law_great_right (fun vs H Q E h => ?_) (fun f cdv A outer s H vs Q E hg hr h => ?_)
  · obtain ⟨a, m, k, rfl, _⟩ := h
    rfl
  · obtain ⟨a, m, k, rfl, hk, hm, k30, q⟩ := h
    have E58 := e58
    have E57 : (2 : Nat) ^ 57 = 144115188075855872 := by decide
    have E59 := e59
    have k4 : (k : Int) ≤ 10 ^ 40 := by omega
    have k40 : k ≤ 10 ^ 40 := by omega
    refine ⟨_, (pss_cons (ps_asg (pe_g G__law_made_base (fun _ _ F => bd__law_made_base F) hg (hr.mono (by decide)) passL (by rfl) (pa_cons (pv 0) (pa_cons (pe_op op_pow pe_int pe_int) pa_nil))) (g_lst rfl rfl (pgs_cons (pg_name (i := 2) sc__law_great_right.nd rfl (.inl rfl)) (pgs_cons (pg_name (i := 3) sc__law_great_right.nd rfl (.inl rfl)) pgs_nil)) rfl rfl))
    (pss_cons (ps_set (i := 4) sc__law_great_right.nd rfl (.inl rfl) pe_int)
    (pss_cons (ps_for (passes_of rfl) rfl (i_tup' rfl (pe_g G_parts (fun _ _ F => bd_parts F) hg (hr.mono (by decide)) passL (by rfl) (pa_cons (pv 2) pa_nil))) (pg_name (i := 5) sc__law_great_right.nd rfl (.inl rfl)) (pss_one (ps_set (i := 4) sc__law_great_right.nd rfl (.inl rfl) (pe_op op_mulX (pv 4) (pe_g G__law_common (fun _ _ F => bd__law_common F) hg (hr.mono (by decide)) passL (by rfl) (pa_cons (pv 5) (pa_cons (pv 1) pa_nil)))))))
    (pss_cons (ps_if (PW.pt (pw_or (PW.pt (pw_and (pt_cmpR op_gt (pv 1) pe_int (nomark _)) (pw_and1 (pt_cmpR op_neZ (pe_gS G_count_roots (fun _ _ F => bd_count_roots F) hg (hr.mono (by decide)) (takes_of rfl rfl rfl rfl) (by rfl) (pa_cons pe_int (pa_cons (pv 1) (pa_cons (pv 2) pa_nil)))) (pv 4) (nomark _))))) (pw_or1 (PW.pt (pw_and (pt_cmpR op_eqZ (pv 1) pe_int (nomark _)) (pw_and1 (pt_cmpR op_neZ (pe_gS G_count_roots (fun _ _ F => bd_count_roots F) hg (hr.mono (by decide)) (takes_of rfl rfl rfl rfl) (by rfl) (pa_cons pe_int (pa_cons (pv 1) (pa_cons (pv 2) pa_nil)))) (pv 2) (nomark _)))))))) (pss_one (ps_ret pe_bl)) pss_nil)
    (pss_cons (ps_set (i := 6) sc__law_great_right.nd rfl (.inl rfl) (pe_g G__law_great (fun _ _ F => bd__law_great F) hg (hr.mono (by decide)) passL (by rfl) (pa_cons (pv 0) (pa_cons (pe_op op_pow pe_int pe_int) pa_nil))))
    (pss_cons (ps_if (PW.pt (pw_or (pt_cmpR op_eqZ (pv 1) pe_int (nomark _)) (pw_or1 (pt_cmpR op_neZ (pe_g G__law_common (fun _ _ F => bd__law_common F) hg (hr.mono (by decide)) passL (by rfl) (pa_cons (pv 6) (pa_cons (pv 2) pa_nil))) pe_int (nomark _))))) (pss_one (ps_ret pe_bl)) pss_nil)
    (pss_one (ps_ret (pe_and (pe_cmpR op_eqZ (pe_gS G_count_roots (fun _ _ F => bd_count_roots F) hg (hr.mono (by decide)) (takes_of rfl rfl rfl rfl) (by rfl) (pa_cons (pe_g G_power_rest (fun _ _ F => bd_power_rest F) hg (hr.mono (by decide)) passL (by rfl) (pa_cons (pv 6) (pa_cons (pv 1) (pa_cons (pv 2) pa_nil)))) (pa_cons (pv 1) (pa_cons (pv 2) pa_nil)))) (pv 4) (nomark _)) (pe_one (pe_cmpR op_eqZ (pe_gS G_count_roots (fun _ _ F => bd_count_roots F) hg (hr.mono (by decide)) (takes_of rfl rfl rfl rfl) (by rfl) (pa_cons (pv 6) (pa_cons pe_int (pa_cons (pv 2) pa_nil)))) pe_int (nomark _)))))))))))), ?_⟩
    walk_at "sti"
    refine r_rI ⟨by decide, by decide, by decide⟩ ?_
    walk_at "gi"
    refine ⟨a, m, 1000000000000, rfl, by decide, by decide, hk, by omega, fun u F n us ps H1 y1 k1 eu eF pF Ap n12 pl uk Fk => ?_⟩
    refine r_glst (SqL.of eu) rfl ?_
    have n1 : 1 ≤ n := by
      have := made_pos ps Ap.p
      rw [Ap.m] at this
      exact this
    walk_at "gi"
    refine ⟨n, rfl, n1, n12, fun p qs H2 s2 np ep B bl => ?_⟩
    have eqs := B.uniq Ap
    subst eqs
    have dp := dps_all B
    have y2 := y1.same s2
    have k2 := k1.same s2
    have dlen := dps_len qs B.p
    walk_at "gi"
    refine r_forTs (nats (dps qs)) (fun i σ H' => ∃ x5 x6, σ = [some (.ref a), some (.int (k : Int)), some (.int (n : Int)), some (.ref F), some (.int (prd (((dps qs).take i).map fun c => Nat.gcd c k) : Int)), x5, x6] ∧ H' = H2)
      ⟨_, _, rfl, rfl⟩ (fun i σ H' hi hP => ?_) (fun i v σ H' hi hP => ?_) (fun σ H' hP => ?_)
    · obtain ⟨x5, x6, rfl, rfl⟩ := hP
      exact SqT.of ep
    · obtain ⟨x5, x6, rfl, rfl⟩ := hP
      obtain ⟨c, hc, rfl⟩ := nats_at hi
      have hcm := List.mem_of_getElem? hc
      have c0 := dp.1 c hcm
      have c1 : c ≤ n := Nat.le_trans (Nat.le_of_dvd (prd_pos _ dp.1) (mem_prd _ c hcm)) dp.2
      have g1 : Nat.gcd c k ≤ c := Nat.le_of_dvd c0 (Nat.gcd_dvd_left _ _)
      have t1 := gcds_le k ((dps qs).take i) fun b hb => dp.1 b (List.mem_of_mem_take hb)
      have t2 := prd_take dp.1 i
      have tk : prd (((dps qs).take (i + 1)).map fun c => Nat.gcd c k) = prd (((dps qs).take i).map fun c => Nat.gcd c k) * Nat.gcd c k := by
        rw [List.take_add_one, hc, List.map_append, prd_app]
        show _ * (Nat.gcd c k * 1) = _
        rw [Nat.mul_one]
      rw [tk, Int.natCast_mul]
      walk_at "gi"
      refine ⟨(c : Int), (k : Int), rfl, ?_⟩
      rw [Int.natAbs_natCast, Int.natAbs_natCast]
      walk_at "gi"
      refine r_rI (bit_mul (a := 64) (b := 64) (bit_of (by omega)) (bit_of (by omega)) (by decide)) ?_
      walk_at "gi"
    obtain ⟨x5, x6, rfl, rfl⟩ := hP
    rw [nats_len, List.take_length]
    have g1 : Nat.gcd (1 : Int).natAbs n = 1 := Nat.gcd_one_left n
    have nr1 : Nr 1 := ⟨by decide, by decide⟩
    have one : ∀ v, Crt 1 k n v → (0 < k → v = prd (((dps qs)).map fun c => Nat.gcd c k)) ∧ (k = 0 → v = n) := fun v h => by
      refine ⟨fun k0 => ?_, fun k0 => ?_⟩
      · have e := h.unit (x := 1) k0 g1 (by rw [Int.one_pow]; exact ⟨0, rfl⟩) B
        rw [e]
        exact (parts_gcds B.p k0).symm
      · rw [h.1 k0]
        exact if_pos (by rw [show (1 : Int) - 1 = 0 from rfl, Int.zero_emod])
    have due_eq : 0 < k → prd ((dps qs).map fun c => Nat.gcd c k) = prd ((cycs qs).map fun c => Nat.gcd c k) := fun k0 => parts_gcds B.p k0
    generalize prd ((dps qs).map fun c => Nat.gcd c k) = due at *
    walk_at "go"
    refine j_s (fun σ' H3 => σ' = [some (.ref a), some (.int (k : Int)), some (.int (n : Int)), some (.ref F), some (.int (due : Int)), x5, x6] ∧ Same H' H3) (fun nx' hnx => ?_) (fun σ' H3 hM => ?_)
    · walk_at "gi"
      refine ifd (fun c => ?_) (fun c => ?_)
      · walk_at "gi"
        refine ⟨1, k, n, rfl, nr1, k40, n1, n12, fun _ v1 H3 s3 c1 => ?_, fun z => absurd g1 z⟩
        rw [(one v1 c1).1 (by omega)]
        walk_at "gi"
        refine ifnd (fun c => absurd rfl c) (fun _ => ?_)
        walk_at "gi"
        refine ifd (fun c => absurd c (by omega)) (fun _ => ?_)
        walk_at "gi"
        exact hnx _ _ ⟨rfl, s3⟩
      · walk_at "gi"
        refine ifd (fun c => ?_) (fun c => absurd (by omega) c)
        walk_at "gi"
        refine ⟨1, k, n, rfl, nr1, k40, n1, n12, fun _ v1 H3 s3 c1 => ?_, fun z => absurd g1 z⟩
        rw [(one v1 c1).2 (by omega)]
        walk_at "gi"
        refine ifnd (fun c => absurd rfl c) (fun _ => ?_)
        walk_at "gi"
        exact hnx _ _ ⟨rfl, s3⟩
    obtain ⟨rfl, s3⟩ := hM
    walk_at "gi"
    refine r_rI ⟨by decide, by decide, by decide⟩ ?_
    walk_at "gi"
    refine i_great _ (k2.same s3) (by omega) (by decide) fun x H4 xU x4 k5 => ?_
    have xU' : x ≤ 1000000000000 := by have : ((10 : Int) ^ (12 : Int).toNat) = 1000000000000 := by decide
                                       omega
    have y4 := (y2.same s3).trans x4
    have k6 := k5.mono (show _ ≤ m + 60 by omega)
    walk_at "gi"
    refine ifd (fun kz => ?_) (fun kz => ?_)
    · walk_at "gi"
      exact q _ y4 k6
    walk_at "gi"
    refine ⟨(x : Int), (n : Int), rfl, ?_⟩
    rw [Int.natAbs_natCast, Int.natAbs_natCast]
    walk_at "gi"
    refine ifnd (fun c => ?_) (fun c => ?_)
    · walk_at "gi"
      exact q _ y4 k6
    have k0 : 0 < k := by omega
    have gx : Nat.gcd x n = 1 := by omega
    have nrx : Nr (x : Int) := ⟨by omega, by omega⟩
    have b30 : Ba (n : Int) := ⟨by omega, by omega⟩
    walk_at "gi"
    refine ⟨(x : Int), (n : Int), k, rfl, nrx, k40, b30, ?_⟩
    have z0 := Int.emod_nonneg ((x : Int) ^ k) (show (n : Int) ≠ 0 by omega)
    have z1 := Int.emod_lt_of_pos ((x : Int) ^ k) (show (0 : Int) < (n : Int) by omega)
    have gz : Nat.gcd ((x : Int) ^ k % (n : Int)).natAbs n = 1 := by
      rw [show Nat.gcd ((x : Int) ^ k % (n : Int)).natAbs n = Nat.gcd ((x : Int) ^ k).natAbs n from gcd_rest _ n, Int.natAbs_pow, Int.natAbs_natCast]
      exact Nat.Coprime.pow_left k gx
    have dz : (n : Int) ∣ (x : Int) ^ k % (n : Int) - (x : Int) ^ k := Int.dvd_of_emod_eq_zero (Int.emod_eq_emod_iff_emod_sub_eq_zero.mp (Int.emod_emod_of_dvd _ (Int.dvd_refl _)))
    generalize (x : Int) ^ k % (n : Int) = z at *
    have nrz : Nr z := ⟨by omega, by omega⟩
    walk_at "gi"
    refine ⟨z, k, n, rfl, nrz, k40, n1, n12, fun _ v1 H5 s5 c1 => ?_, fun h => absurd gz h⟩
    have ev : v1 = due := by rw [due_eq k0]; exact c1.unit (x := (x : Int)) k0 (by rw [Int.natAbs_natCast]; exact gx) dz B
    rw [ev]
    walk_at "gi"
    refine ifd (fun _ => ?_) (fun c => absurd rfl c)
    walk_at "gi"
    refine ⟨(x : Int), 1, n, rfl, nrx, by decide, n1, n12, fun _ v2 H6 s6 c2 => ?_, fun h => absurd (by rw [Int.natAbs_natCast]; exact gx) h⟩
    have e2 : v2 = 1 := by
      rw [c2.unit (x := (x : Int)) (by decide) (by rw [Int.natAbs_natCast]; exact gx) (by rw [Int.pow_one, Int.sub_self]; exact ⟨0, by rw [Int.mul_zero]⟩) B]
      exact gcds_one _
    rw [e2]
    walk_at "gi"
    have s56 := s5.trans s6
    exact q _ (y4.same s56) (k6.same s56)
end
section
variable {P : Program} {w : World} {K : PySem.W.Frag} {mg : Str → Option Value} {base : Heap}
def sp_lright : Sp := fun vs H Q _ => ∃ (a : Addr), vs = [.ref a] ∧ Mug 1 a H ∧ ∀ H', Kx a H H' → Q (.bl true) H'
theorem cop_all : ([3, 4, 5, 8, 9].all fun m => [1, 7, 11, 13, 49].all fun n => decide (Nat.gcd m n = 1)) = true := by decide +kernel
theorem ok__law_right (T : Top K mg) : Ok P w K mg base 10 "_law_right" s__law_right ["_law_mug_here"] sp_lright := by
  have G__law_of := ok__law_of (P := P) (w := w) (base := base) T
  have G__law_great := ok__law_great (P := P) (w := w) (base := base) T
  have G__law_sip := ok__law_sip (P := P) (w := w) (base := base) T
  have G__law_one_right := ok__law_one_right (P := P) (w := w) (base := base) T
  have G__law_two_right := ok__law_two_right (P := P) (w := w) (base := base) T
  have G__law_great_right := ok__law_great_right (P := P) (w := w) (base := base) T
  refine T.d__law_right.ok sc__law_right (fun vs H Q E h => ?_) (fun f cdv A outer s H vs Q E hg hr h => ?_)
  · obtain ⟨a, rfl, _⟩ := h
    rfl
  · obtain ⟨a, rfl, hk, q⟩ := h
    have E60 := e60
    have E59 := e59
    have E57 : (2 : Nat) ^ 57 = 144115188075855872 := by decide
    refine ⟨_, (pss_cons (ps_set (i := 1) sc__law_right.nd rfl (.inl rfl) (pe_g G__law_of (fun _ _ F => bd__law_of F) hg (hr.mono (by decide)) passL (by rfl) (pa_cons (pv 0) (pa_cons (pe_lst (pa_cons pe_int (pa_cons pe_int (pa_cons pe_int (pa_cons pe_int (pa_cons pe_int (pa_cons pe_int (pa_cons pe_int (pa_cons pe_int (pa_cons (pe_g G__law_great (fun _ _ F => bd__law_great F) hg (hr.mono (by decide)) passL (by rfl) (pa_cons (pv 0) (pa_cons (pe_op op_pow pe_int pe_int) pa_nil))) pa_nil)))))))))) pa_nil))))
    (pss_cons (ps_for (passes_of rfl) rfl (pi_range1 (by rfl) T.b_range (pa_cons pe_int pa_nil)) (pg_name (i := 2) sc__law_right.nd rfl (.inl rfl)) (pss_cons (ps_par (i := 3) (j := 4) (by rfl) sc__law_right.nd rfl rfl (by decide) rfl rfl (pa_cons (pe_g G__law_of (fun _ _ F => bd__law_of F) hg (hr.mono (by decide)) passL (by rfl) (pa_cons (pv 0) (pa_cons (pe_lst (pa_cons pe_int (pa_cons pe_int (pa_cons (pe_un un_neg pe_int) (pa_cons pe_int (pa_cons pe_int (pa_cons (pe_op op_sub (pe_g G__law_sip (fun _ _ F => bd__law_sip F) hg (hr.mono (by decide)) passL (by rfl) (pa_cons (pv 0) (pa_cons pe_int pa_nil))) pe_int) pa_nil))))))) pa_nil))) (pa_cons (pe_op op_add pe_int (pe_g G__law_sip (fun _ _ F => bd__law_sip F) hg (hr.mono (by decide)) passL (by rfl) (pa_cons (pv 0) (pa_cons pe_int pa_nil)))) pa_nil)) (by rfl))
    (pss_one (ps_if (pt_not (pt_val (pe_g G__law_one_right (fun _ _ F => bd__law_one_right F) hg (hr.mono (by decide)) passL (by rfl) (pa_cons (pv 3) (pa_cons (pv 1) (pa_cons (pv 4) pa_nil)))))) (pss_one (ps_ret pe_bl)) pss_nil))))
    (pss_cons (ps_par (i := 5) (j := 4) (by rfl) sc__law_right.nd rfl rfl (by decide) rfl rfl (pa_cons (pe_g G__law_of (fun _ _ F => bd__law_of F) hg (hr.mono (by decide)) passL (by rfl) (pa_cons (pv 0) (pa_cons (pe_lst (pa_cons pe_int (pa_cons pe_int (pa_cons pe_int (pa_cons pe_int (pa_cons pe_int pa_nil)))))) pa_nil))) (pa_cons (pe_g G__law_of (fun _ _ F => bd__law_of F) hg (hr.mono (by decide)) passL (by rfl) (pa_cons (pv 0) (pa_cons (pe_lst (pa_cons pe_int (pa_cons pe_int (pa_cons pe_int (pa_cons pe_int (pa_cons pe_int pa_nil)))))) pa_nil))) pa_nil)) (by rfl))
    (pss_cons (ps_if (pt_not (pt_val (pe_g G__law_two_right (fun _ _ F => bd__law_two_right F) hg (hr.mono (by decide)) passL (by rfl) (pa_cons (pe_g G__law_sip (fun _ _ F => bd__law_sip F) hg (hr.mono (by decide)) passL (by rfl) (pa_cons (pv 0) (pa_cons pe_int pa_nil))) (pa_cons (pv 1) (pa_cons (pv 5) (pa_cons (pv 4) pa_nil))))))) (pss_one (ps_ret pe_bl)) pss_nil)
    (pss_one (ps_ret (pe_g G__law_great_right (fun _ _ F => bd__law_great_right F) hg (hr.mono (by decide)) passL (by rfl) (pa_cons (pv 0) (pa_cons (pv 1) pa_nil))))))))), ?_⟩
    walk_at "sti"
    refine r_rI ⟨by decide, by decide, by decide⟩ ?_
    walk_at "gi"
    refine i_great 1 hk (by omega) (by decide) fun g H1 gU x1 k1 => ?_
    have gU' : g ≤ 10 ^ 30 := by have : ((10 : Int) ^ (30 : Int).toNat) = 1000000000000000000000000000000 := by decide
                                 omega
    walk_at "gi"
    rename_i l nl
    refine i_of _ [V.int 0, V.int 1, V.int 2, V.int 2, V.int 3, V.int 4, V.int 6, V.int 12, V.int (g : Int)] (k1.new nl) (by omega) (k1.ne nl) (SqL.of upd_same) (Nat.le_of_ble_eq_true rfl) (Nat.le_of_ble_eq_true rfl) fun j v H2 hv x2 k2 => ?_
    obtain ⟨k, rfl, kb⟩ : ∃ k : Nat, v = .int (k : Int) ∧ k ≤ 10 ^ 30 := by
      rcases j with _ | _ | _ | _ | _ | _ | _ | _ | _ | j
      · exact ⟨0, (Option.some.inj hv).symm, by decide⟩
      · exact ⟨1, (Option.some.inj hv).symm, by decide⟩
      · exact ⟨2, (Option.some.inj hv).symm, by decide⟩
      · exact ⟨2, (Option.some.inj hv).symm, by decide⟩
      · exact ⟨3, (Option.some.inj hv).symm, by decide⟩
      · exact ⟨4, (Option.some.inj hv).symm, by decide⟩
      · exact ⟨6, (Option.some.inj hv).symm, by decide⟩
      · exact ⟨12, (Option.some.inj hv).symm, by decide⟩
      · exact ⟨g, (Option.some.inj hv).symm, gU'⟩
      · exact absurd hv (by simp)
    have k40 : k ≤ 10 ^ 40 := by omega
    have y2 : Kx a H H2 := x1.trans (Kx.trans (Same.toKx (Same.new nl)) x2)
    walk_at "gi"
    refine ⟨by decide, by decide, ?_⟩
    refine r_forR (fun i σ H' => ∃ z2 z3 z4 z5, σ = [some (.ref a), some (.int (k : Int)), z2, z3, z4, z5] ∧ Kx a H H' ∧ Mug (20 + 3 * i) a H')
      ⟨_, _, _, _, rfl, y2, k2.mono (by omega)⟩ (fun i σ H' hi hP => ?_) (fun σ H' hP => ?_)
    · obtain ⟨z2, z3, z4, z5, rfl, y3, k3⟩ := hP
      have hi4 : i < 2 := hi
      walk_at "gi"
      refine i_sip _ k3 (by omega) (by decide) (by decide) fun f2 H3 f20 f21 w2 k4 => ?_
      walk_at "gi"
      rename_i l2 nl2
      refine i_of _ [V.int 0, V.int 1, V.int (-1), V.int 4, V.int 9, V.int (f2 - 49)] (k4.new nl2) (by omega) (k4.ne nl2) (SqL.of upd_same) (Nat.le_of_ble_eq_true rfl) (Nat.le_of_ble_eq_true rfl) fun j v H4 hv w3 k5 => ?_
      obtain ⟨x, rfl, xb⟩ : ∃ x : Int, v = .int x ∧ x.natAbs ≤ 1000 := by
        rcases j with _ | _ | _ | _ | _ | _ | j
        all_goals first
          | exact ⟨_, (Option.some.inj hv).symm, by omega⟩
          | exact absurd hv (by simp)
      walk_at "gi"
      refine i_sip _ k5 (by omega) (by decide) (by decide) fun f3 H5 f30 f31 w4 k6 => ?_
      obtain ⟨n, hN⟩ : ∃ n : Nat, 1 + f3 = (n : Int) := ⟨(1 + f3).toNat, by omega⟩
      walk_at "gi"
      rw [hN]
      refine ⟨x, k, n, rfl, xb, k40, by omega, by omega, fun H6 s6 => ?_⟩
      walk_at "gi"
      exact ⟨_, _, _, _, rfl, (((y3.trans w2).trans (Kx.trans (Same.toKx (Same.new nl2)) w3)).trans w4).same s6, (k6.same s6).mono (by omega)⟩
    obtain ⟨z2, z3, z4, z5, rfl, y3, k3⟩ := hP
    walk_at "gi"
    rename_i l3 nl3
    refine i_of _ [V.int 3, V.int 4, V.int 5, V.int 8, V.int 9] (k3.new nl3) (by omega) (k3.ne nl3) (SqL.of upd_same) (Nat.le_of_ble_eq_true rfl) (Nat.le_of_ble_eq_true rfl) fun j v H4 hv w3 k5 => ?_
    obtain ⟨m, rfl, mm⟩ : ∃ m : Nat, v = .int (m : Int) ∧ m ∈ [3, 4, 5, 8, 9] := by
      rcases j with _ | _ | _ | _ | _ | j
      · exact ⟨3, (Option.some.inj hv).symm, by decide⟩
      · exact ⟨4, (Option.some.inj hv).symm, by decide⟩
      · exact ⟨5, (Option.some.inj hv).symm, by decide⟩
      · exact ⟨8, (Option.some.inj hv).symm, by decide⟩
      · exact ⟨9, (Option.some.inj hv).symm, by decide⟩
      · exact absurd hv (by simp)
    walk_at "gi"
    rename_i l4 nl4
    refine i_of _ [V.int 1, V.int 7, V.int 11, V.int 13, V.int 49] (k5.new nl4) (by omega) (k5.ne nl4) (SqL.of upd_same) (Nat.le_of_ble_eq_true rfl) (Nat.le_of_ble_eq_true rfl) fun j2 v2 H5 hv2 w4 k6 => ?_
    obtain ⟨n, rfl, nn⟩ : ∃ n : Nat, v2 = .int (n : Int) ∧ n ∈ [1, 7, 11, 13, 49] := by
      rcases j2 with _ | _ | _ | _ | _ | j2
      · exact ⟨1, (Option.some.inj hv2).symm, by decide⟩
      · exact ⟨7, (Option.some.inj hv2).symm, by decide⟩
      · exact ⟨11, (Option.some.inj hv2).symm, by decide⟩
      · exact ⟨13, (Option.some.inj hv2).symm, by decide⟩
      · exact ⟨49, (Option.some.inj hv2).symm, by decide⟩
      · exact absurd hv2 (by simp)
    have co : Nat.gcd m n = 1 := of_decide_eq_true (List.all_eq_true.mp (List.all_eq_true.mp cop_all m mm) n nn)
    have m60 : 1 ≤ m ∧ m ≤ 60 := (by decide : ∀ m ∈ [3, 4, 5, 8, 9], 1 ≤ m ∧ m ≤ 60) m mm
    have n60 : 1 ≤ n ∧ n ≤ 60 := (by decide : ∀ n ∈ [1, 7, 11, 13, 49], 1 ≤ n ∧ n ≤ 60) n nn
    walk_at "gi"
    refine i_sip _ k6 (by omega) (by decide) (by decide) fun f3 H6 f30 f31 w5 k7 => ?_
    walk_at "gi"
    refine ⟨f3, k, m, n, rfl, by omega, k40, m60.1, m60.2, n60.1, n60.2, co, fun H7 s7 => ?_⟩
    have y7 : Kx a H H7 := ((((y3.trans (Kx.trans (Same.toKx (Same.new nl3)) w3)).trans (Kx.trans (Same.toKx (Same.new nl4)) w4)).trans w5)).same s7
    walk_at "gi"
    refine ⟨a, _, k, rfl, k7.same s7, by omega, kb, fun H8 w8 _ => ?_⟩
    exact q _ (y7.trans w8)
def sp_law (K : PySem.W.Frag) : Sp := fun vs H Q _ => ∃ (c : Addr) (ns : List Int), vs = [.ref c] ∧ SqL K H c (ns.map V.int) ∧ Script ns ∧ ∀ H', Q (.bl true) H'
theorem ok_law (T : Top K mg) : Ok P w K mg base 11 "law" s_law ["_law_cells"] (sp_law K) := by
  have G__law_right := ok__law_right (P := P) (w := w) (base := base) T
  have G__law_mug := ok__law_mug (P := P) (w := w) (base := base) T
  refine T.d_law.ok sc_law (fun vs H Q E h => ?_) (fun f cdv A outer s H vs Q E hg hr h => ?_)
  · obtain ⟨c, ns, rfl, _⟩ := h
    rfl
  · obtain ⟨c, ns, rfl, hs, hn, q⟩ := h
    refine ⟨_, (pss_one (ps_ret (pe_callB (id := "all") (c_all rfl rfl) (by rfl) T.b_all (by decide +kernel) (pa_cons (pe_lc (own := [("_law_k", 1)]) (by rfl) sc_law.nd (pi_range1 (by rfl) T.b_range (pa_cons pe_int pa_nil)) (blkOk_by (own := [("_law_k", 1)]) (N := ["_law_cells", "_law_k"]) (sc := defScope s_law) (by decide +kernel)) (fun _ _ _ _ _ => (pg_name (i := 1) sc_law.nd rfl (by first | exact Or.inl rfl | exact Or.inr rfl))) (fun _ _ _ _ _ => pts_nil) (fun _ _ _ _ _ => (pe_g G__law_right (fun _ _ F => bd__law_right F) hg (hr.mono (by decide)) passL (by rfl) (pa_cons (pe_g G__law_mug (fun _ _ F => bd__law_mug F) hg (hr.mono (by decide)) passL (by rfl) (pa_cons (pv 0) (pa_cons (pv 1) pa_nil))) pa_nil)))) pa_nil)))), ?_⟩
    walk_at "st"
    refine ⟨by decide, by decide, ?_⟩
    refine r_lcR (fun D i H' => Same H H' ∧ H' D = some (.lst ((List.replicate i true).map V.bl))) (fun D hD => ⟨Same.new hD, upd_same⟩) (fun D i H' hD hi hP => ?_) (fun D H' hD hP => ?_)
    · obtain ⟨s1, d1⟩ := hP
      have hi4 : i < 2 := hi
      walk_at "go"
      refine ⟨rfl, ?_⟩
      walk_at "go"
      rw [Int.zero_add]
      refine i_mug ns i (Same.list s1 hs) hn (by omega) fun p H2 s2 n2 k2 => ?_
      have npD : D ≠ p := ne_of_none d1 n2
      walk_at "go"
      refine ⟨p, rfl, k2, fun H3 x3 => ?_⟩
      have d3 : H3 D = some (.lst ((List.replicate i true).map V.bl)) := x3 _ _ npD (s2 _ _ d1)
      refine ⟨_, d3, ?_, fun b o e => ?_, ?_⟩
      · rw [List.length_map, List.length_replicate]
        exact Nat.lt_of_le_of_lt (show i ≤ 3 by omega) (by decide)
      · have nb : b ≠ D := ne_of_none e hD
        have e1 := s1 _ _ e
        rw [upd_ne nb]
        exact x3 _ _ (ne_of_none e1 n2) (s2 _ _ e1)
      · rw [upd_same, List.replicate_succ', List.map_append]
        rfl
    obtain ⟨s1, d1⟩ := hP
    refine r_all (SqL.of d1) ?_
    rw [show ∀ m : Nat, (List.replicate m true).all id = true from fun m => by simp]
    exact q _
end
end K57
open PySem PySem.W PyProof.Rows
set_option maxHeartbeats 0 in
theorem PySem.Challenge.cw_restworld_k57_whole_roots_beside_facts_holds : PySem.Challenge.rw_restworld_k57_whole_roots_beside_facts.Holds := by
  w_on; o_law; k_head; (case hw => w_witness2)
  k_fill
  refine Vf.walk_g (l := PySem.Challenge.rw_restworld_k57_whole_roots_beside_facts) (n := 63) (k := 11) (y := "_law_cells") (st := K57.s_law) (sp := K57.sp_law) rfl (by decide) rfl ⟨rfl, by decide, by decide⟩ (fun w h Y => PySem.W.kIn_of Y) ?F (fun w f fd G => K57.bd_law G) (fun w H a ns hl hb hS => ⟨a, ns, rfl, hS, ⟨hl, hb⟩, fun _ => rfl⟩)
  case F =>
    intro w mg h KX G base kb gb
    refine' K57.ok_law (K57.top_mk KX G ?a0 ?l0 ?c0 ?k0 ?a1 ?l1 ?c1 ?k1 ?a2 ?l2 ?c2 ?k2 ?a3 ?l3 ?c3 ?k3 ?a4 ?l4 ?c4 ?k4 ?a5 ?l5 ?c5 ?k5 ?a6 ?l6 ?c6 ?k6 ?a7 ?l7 ?c7 ?k7 ?a8 ?l8 ?c8 ?k8 ?a9 ?l9 ?c9 ?k9 ?a10 ?l10 ?c10 ?k10 ?a11 ?l11 ?c11 ?k11 ?a12 ?l12 ?c12 ?k12 ?a13 ?l13 ?c13 ?k13 ?a14 ?l14 ?c14 ?k14 ?a15 ?l15 ?c15 ?k15 ?a16 ?l16 ?c16 ?k16 ?a17 ?l17 ?c17 ?k17 ?a18 ?l18 ?c18 ?k18 ?a19 ?l19 ?c19 ?k19 ?a20 ?l20 ?c20 ?k20 ?a21 ?l21 ?c21 ?k21 ?a22 ?l22 ?c22 ?k22 ?a23 ?l23 ?c23 ?k23 ?a24 ?l24 ?c24 ?k24 ?a25 ?l25 ?c25 ?k25 ?a26 ?l26 ?c26 ?k26 ?a27 ?l27 ?c27 ?k27 ?a28 ?l28 ?c28 ?k28 ?a29 ?l29 ?c29 ?k29 ?a30 ?l30 ?c30 ?k30 ?a31 ?l31 ?c31 ?k31 ?a32 ?l32 ?c32 ?k32 ?a33 ?l33 ?c33 ?k33 ?a34 ?l34 ?c34 ?k34 ?a35 ?l35 ?c35 ?k35 ?a36 ?l36 ?c36 ?k36 ?a37 ?l37 ?c37 ?k37 ?a38 ?l38 ?c38 ?k38 ?a39 ?l39 ?c39 ?k39 ?a40 ?l40 ?c40 ?k40 ?a41 ?l41 ?c41 ?k41 ?a42 ?l42 ?c42 ?k42 ?a43 ?l43 ?c43 ?k43 ?a44 ?l44 ?c44 ?k44 ?a45 ?l45 ?c45 ?k45 ?a46 ?l46 ?c46 ?k46 ?a47 ?l47 ?c47 ?k47 ?m_gcd ?m_lcm ?q_MOST_NUMBER ?q_MOST_FACT ?q_MOST_BASE ?q_MOST_FACTS ?q_MOST_WALKED ?q_LONGEST_TAIL ?b_abs ?b_all ?b_bool ?b_divmod ?b_enumerate ?b_int ?b_isinstance ?b_len ?b_min ?b_range ?b_repr ?b_sorted ?b_str ?b_tuple ?g_NotOpen ?l_NotOpen ?t_NotOpen ?s_NotOpen ?ga_NotOpen ?gg_NotOpen ?b_NotOpen ?h_NotOpen ?ty_NotOpen ?kp_NotOpen ?n_NotOpen_given ?i_NotOpen ?ti_NotOpen ?li_NotOpen ?ci_NotOpen ?ki_NotOpen ?e_NotOpen_NotOpen)
    (case a0 => k_is)
    (case l0 => k_is)
    (case c0 => k_is)
    (case k0 => k_is)
    (case a1 => k_is)
    (case l1 => k_is)
    (case c1 => k_is)
    (case k1 => k_is)
    (case a2 => k_is)
    (case l2 => k_is)
    (case c2 => k_is)
    (case k2 => k_is)
    (case a3 => k_is)
    (case l3 => k_is)
    (case c3 => k_is)
    (case k3 => k_is)
    (case a4 => k_is)
    (case l4 => k_is)
    (case c4 => k_is)
    (case k4 => k_is)
    (case a5 => k_is)
    (case l5 => k_is)
    (case c5 => k_is)
    (case k5 => k_is)
    (case a6 => k_is)
    (case l6 => k_is)
    (case c6 => k_is)
    (case k6 => k_is)
    (case a7 => k_is)
    (case l7 => k_is)
    (case c7 => k_is)
    (case k7 => k_is)
    (case a8 => k_is)
    (case l8 => k_is)
    (case c8 => k_is)
    (case k8 => k_is)
    (case a9 => k_is)
    (case l9 => k_is)
    (case c9 => k_is)
    (case k9 => k_is)
    (case a10 => k_is)
    (case l10 => k_is)
    (case c10 => k_is)
    (case k10 => k_is)
    (case a11 => k_is)
    (case l11 => k_is)
    (case c11 => k_is)
    (case k11 => k_is)
    (case a12 => k_is)
    (case l12 => k_is)
    (case c12 => k_is)
    (case k12 => k_is)
    (case a13 => k_is)
    (case l13 => k_is)
    (case c13 => k_is)
    (case k13 => k_is)
    (case a14 => k_is)
    (case l14 => k_is)
    (case c14 => k_is)
    (case k14 => k_is)
    (case a15 => k_is)
    (case l15 => k_is)
    (case c15 => k_is)
    (case k15 => k_is)
    (case a16 => k_is)
    (case l16 => k_is)
    (case c16 => k_is)
    (case k16 => k_is)
    (case a17 => k_is)
    (case l17 => k_is)
    (case c17 => k_is)
    (case k17 => k_is)
    (case a18 => k_is)
    (case l18 => k_is)
    (case c18 => k_is)
    (case k18 => k_is)
    (case a19 => k_is)
    (case l19 => k_is)
    (case c19 => k_is)
    (case k19 => k_is)
    (case a20 => k_is)
    (case l20 => k_is)
    (case c20 => k_is)
    (case k20 => k_is)
    (case a21 => k_is)
    (case l21 => k_is)
    (case c21 => k_is)
    (case k21 => k_is)
    (case a22 => k_is)
    (case l22 => k_is)
    (case c22 => k_is)
    (case k22 => k_is)
    (case a23 => k_is)
    (case l23 => k_is)
    (case c23 => k_is)
    (case k23 => k_is)
    (case a24 => k_is)
    (case l24 => k_is)
    (case c24 => k_is)
    (case k24 => k_is)
    (case a25 => k_is)
    (case l25 => k_is)
    (case c25 => k_is)
    (case k25 => k_is)
    (case a26 => k_is)
    (case l26 => k_is)
    (case c26 => k_is)
    (case k26 => k_is)
    (case a27 => k_is)
    (case l27 => k_is)
    (case c27 => k_is)
    (case k27 => k_is)
    (case a28 => k_is)
    (case l28 => k_is)
    (case c28 => k_is)
    (case k28 => k_is)
    (case a29 => k_is)
    (case l29 => k_is)
    (case c29 => k_is)
    (case k29 => k_is)
    (case a30 => k_is)
    (case l30 => k_is)
    (case c30 => k_is)
    (case k30 => k_is)
    (case a31 => k_is)
    (case l31 => k_is)
    (case c31 => k_is)
    (case k31 => k_is)
    (case a32 => k_is)
    (case l32 => k_is)
    (case c32 => k_is)
    (case k32 => k_is)
    (case a33 => k_is)
    (case l33 => k_is)
    (case c33 => k_is)
    (case k33 => k_is)
    (case a34 => k_is)
    (case l34 => k_is)
    (case c34 => k_is)
    (case k34 => k_is)
    (case a35 => k_is)
    (case l35 => k_is)
    (case c35 => k_is)
    (case k35 => k_is)
    (case a36 => k_is)
    (case l36 => k_is)
    (case c36 => k_is)
    (case k36 => k_is)
    (case a37 => k_is)
    (case l37 => k_is)
    (case c37 => k_is)
    (case k37 => k_is)
    (case a38 => k_is)
    (case l38 => k_is)
    (case c38 => k_is)
    (case k38 => k_is)
    (case a39 => k_is)
    (case l39 => k_is)
    (case c39 => k_is)
    (case k39 => k_is)
    (case a40 => k_is)
    (case l40 => k_is)
    (case c40 => k_is)
    (case k40 => k_is)
    (case a41 => k_is)
    (case l41 => k_is)
    (case c41 => k_is)
    (case k41 => k_is)
    (case a42 => k_is)
    (case l42 => k_is)
    (case c42 => k_is)
    (case k42 => k_is)
    (case a43 => k_is)
    (case l43 => k_is)
    (case c43 => k_is)
    (case k43 => k_is)
    (case a44 => k_is)
    (case l44 => k_is)
    (case c44 => k_is)
    (case k44 => k_is)
    (case a45 => k_is)
    (case l45 => k_is)
    (case c45 => k_is)
    (case k45 => k_is)
    (case a46 => k_is)
    (case l46 => k_is)
    (case c46 => k_is)
    (case k46 => k_is)
    (case a47 => k_is)
    (case l47 => k_is)
    (case c47 => k_is)
    (case k47 => k_is)
    (case m_gcd => k_is)
    (case m_lcm => k_is)
    (case q_MOST_NUMBER => k_is)
    (case q_MOST_FACT => k_is)
    (case q_MOST_BASE => k_is)
    (case q_MOST_FACTS => k_is)
    (case q_MOST_WALKED => k_is)
    (case q_LONGEST_TAIL => k_is)
    (case b_abs => k_is)
    (case b_all => k_is)
    (case b_bool => k_is)
    (case b_divmod => k_is)
    (case b_enumerate => k_is)
    (case b_int => k_is)
    (case b_isinstance => k_is)
    (case b_len => k_is)
    (case b_min => k_is)
    (case b_range => k_is)
    (case b_repr => k_is)
    (case b_sorted => k_is)
    (case b_str => k_is)
    (case b_tuple => k_is)
    (case g_NotOpen => k_is)
    (case l_NotOpen => k_is)
    (case t_NotOpen => decide +kernel)
    (case s_NotOpen => k_is)
    (case ga_NotOpen => k_is)
    (case gg_NotOpen => k_is)
    (case b_NotOpen => k_is)
    (case h_NotOpen => k_is)
    (case ty_NotOpen => k_is)
    (case kp_NotOpen => k_is)
    (case n_NotOpen_given => k_is)
    (case i_NotOpen => k_is)
    (case ti_NotOpen => k_is)
    (case li_NotOpen => k_is)
    (case ci_NotOpen => k_is)
    (case ki_NotOpen => k_is)
    (case e_NotOpen_NotOpen => k_is)

