import PyProof.Rows.All
import Wide.All
import OpenK.AllK
import Wide.FinOn
import HandS.ForMost
import HandS.WideBits
import HandS.WideMore
import HandS.Gcd
import HandS.IsInst
import HandS.EndBits
import HandS.WordsExc
import HandS.Style
import PyProof.ReprRoads
import HandS.Zip
import HandS.Zip0
import PyProof.EnumMake
import PyProof.Draws
import PyProof.AutoIntOps
import HandS.Conv
import KE.GoesZip
import KE.GoesMore
import HandS.Rev
import HandS.TupAny
import HandS.DictComp
import HandS.WordsDict
import HandS.ExcInit
import HandS.ExcField
import HandS.TryMany
import KE.KExcInit
import KE.KIntText
import HandS.Lambda
import HandS.EndTab
import KE.KNest
import PyProof.AttrMiss
import HandS.SortRule
import HandS.SortInts
import PyProof.P3Eq
import HandS.Set
import HandS.SetFor
import HandS.Strs
import PySem.Challenge.RW_restworld_k08_whole_what_facts_tell
set_option Elab.async false
set_option linter.all false
set_option maxRecDepth 100000
set_option maxHeartbeats 2000000
set_option exponentiation.threshold 256
namespace Vf
open PySem PySem.Spec PyProof.Rows L2

/-! ## a def of the text, known by its name, with its promise; entered only where no repr is under way -/
structure Ok (P : Program) (w : World) (K : PySem.W.Frag) (mg : Str → Option Value) (base : Heap) (k : Nat) (x : Str) (st : Stmt) (ps : List Str) (sp : Sp) : Prop where
  mk ::
  ex : ∃ f fd, L2.Fun K x x st f fd ∧ mg x = some (.ref f) ∧
    (∀ (A : Around) (outer : List Env) (s : Shared) (H : Hp) (args : Args) (us : List Value) (vs : List V) (Q : VK) (E : XK),
      A.guards = some [] → Room k A → Env0 P w K mg base A outer s H → BindsTo s fd args (ps.zip us) → Vals vs us → sp vs H Q E →
        codeAny (model P w) A (.call (.ref f) args) (CR (CX P w) outer P w H s Q E) s)
  len : ∀ vs H Q E, sp vs H Q E → vs.length = ps.length

/-- where a def of the text stands -/
def At (K : PySem.W.Frag) (mg : Str → Option Value) (x : Str) (st : Stmt) : Prop :=
  ∃ f fd, L2.Fun K x x st f fd ∧ mg x = some (.ref f)

section
variable {P : Program} {w : World} {K : PySem.W.Frag} {mg : Str → Option Value} {base : Heap} {k j : Nat} {x : Str} {st : Stmt} {ps N : List Str} {sp sp' : Sp}
theorem Ok.mono (G : Ok P w K mg base j x st ps sp) (h : j ≤ k) : Ok P w K mg base k x st ps sp := by
  obtain ⟨⟨f, fd, F, g, r⟩, l⟩ := G
  exact ⟨⟨f, fd, F, g, fun A outer s H args us vs Q E hg hr => r A outer s H args us vs Q E hg (hr.mono h)⟩, l⟩
theorem Ok.imp (G : Ok P w K mg base k x st ps sp) (h : ∀ vs H Q E, sp' vs H Q E → sp vs H Q E) : Ok P w K mg base k x st ps sp' := by
  obtain ⟨⟨f, fd, F, g, r⟩, l⟩ := G
  exact ⟨⟨f, fd, F, g, fun A outer s H args us vs Q E hg hr he hb hv hs => r A outer s H args us vs Q E hg hr he hb hv (h _ _ _ _ hs)⟩, fun vs H Q E q => l vs H Q E (h _ _ _ _ q)⟩

/-- the rule for a def: the term of its body, then its reading -/
theorem At.ok (a : At K mg x st) (S : FnScope N ps (defScope st)) (len : ∀ vs H Q E, sp vs H Q E → vs.length = ps.length)
    (hbody : ∀ (f : Addr) (cdv : Value) (A : Around) (outer : List Env) (s : Shared) (H : Hp) (vs : List V) (Q : VK) (E : XK),
      (A.deeper (envOfC x (defScope st) s.heap.objs.size f cdv)).guards = some [] →
      Room k (A.deeper (envOfC x (defScope st) s.heap.objs.size f cdv)) → sp vs H Q E →
      ∃ t, PSs (cxOf (CX P w) P w K mg base N x (defScope st) f cdv A outer s H E) (defBody st) t ∧
        t { nx := fun _ H' => Q .non H', rt := Q } (L2.start N vs) H) : Ok P w K mg base (k + 1) x st ps sp := by
  obtain ⟨f, fd, F, g⟩ := a
  have F2 := F
  obtain ⟨⟨oc, od, kV, doc, pm, an, cdv, ct, osl, rfl, lk, hcd⟩, kp⟩ := F
  refine ⟨⟨f, _, F2, g, fun A outer s H args us vs Q E hg hr e0 hb r hsp => ?_⟩, len⟩
  have hl := len _ _ _ _ hsp
  have stay : ∀ b o, base.get? b = some o → s.heap.get? b = some o := fun b o e => (e0.bs b o e).1
  have KX : K.In s.heap := e0.mod.kin.keeps stay
  have lim : s.heap.NoLimit := e0.mod.nolimit.keeps stay
  refine codeAny_call_function hr.depth (KX _ _ lk) rfl S.co S.gen rfl
    (PySem.W.codeRec_of KX hcd) (hb _ _ _ _ ?_)
  refine wpAny_newFunctionEnv_cells S.kind (fun ⟨n, v⟩ hy => ?_) fun env he s1 x1 => ?_
  · rcases S.par n (List.of_mem_zip hy).1 with q | q
    · exact Or.inl q
    · exact Or.inr ⟨q, PySem.W.cellsFrom_some _ _ _ (Or.inl q)⟩
  subst he
  refine ⟨lim.keeps x1.toInCall.keep, codeAny_func ?_⟩
  obtain ⟨t, ht, hq⟩ := hbody f cdv A outer s H vs Q E hg (hr.deeper _) hsp
  have I := inv_start (CX := CX P w) (E := E) S hr.hd e0 hl r x1
  refine wpAny_mono (ht.run [] s1 _ H _ I hq) (fun fl s' hs => ?_) fun e s' hs => hs
  cases fl with
  | ret u =>
    obtain ⟨v, σ', H', J, rv, q⟩ := hs
    exact ⟨v, H', J.os, J.bare, J.base, J.hok, rv, q⟩
  | next =>
    obtain ⟨σ', H', J, q⟩ := hs
    exact ⟨V.non, H', J.os, J.bare, J.base, J.hok, rfl, q⟩
  | brk =>
    obtain ⟨_, _, _, z⟩ := hs
    exact (show False from z).elim
  | cont =>
    obtain ⟨_, _, _, z⟩ := hs
    exact (show False from z).elim
end

section
variable {X : Cx} {k : Nat} {ps ks : List Str} {sp : Sp} {E : XK} {x : Str} {st : Stmt} {p pos : Pos} {e : Expr} {es : List Expr} {kws : List Keyword} {t tk : TA}
/-- the callee runs -/
theorem run_g {pins : List (Addr × Obj)} {σ : L2.St} {H : Hp} {s : Shared} {Q : VK} {us : List Value} {vs : List V} {f : Addr} {fd : FuncData} {args : Args}
    (r : ∀ (A : Around) (outer : List Env) (s : Shared) (H : Hp) (args : Args) (us : List Value) (vs : List V) (Q : VK) (E : XK),
      A.guards = some [] → Room k A → Env0 X.prog X.w X.K X.mg X.base A outer s H → BindsTo s fd args (ps.zip us) → Vals vs us → sp vs H Q E →
        codeAny (model X.prog X.w) A (.call (.ref f) args) (CR (CX X.prog X.w) outer X.prog X.w H s Q E) s)
    (hg : X.A.guards = some []) (hr : Room k X.A) (hx : Passes (CX X.prog X.w) X E)
    (I : Inv X pins σ H s) (hb : BindsTo s fd args (ps.zip us)) (hv : Vals vs us) (h : sp vs H Q E) :
    codeAny (model X.prog X.w) X.A (.call (.ref f) args)
      (fun r s' => match r with | .ok (.ret u) => EP X pins σ Q u s' | .ok _ => False | .error e => X.xe e s') s := by
  refine codeAny_mono (r X.A X.stack s H args us vs Q E hg hr I.env0 hb hv h) fun r s' hq => ?_
  cases r with
  | error e => exact hx pins σ H s e s' I hq
  | ok fl =>
    cases fl with
    | ret u => exact I.after hq
    | next => exact hq
    | brk => exact hq
    | cont => exact hq

/-- f(e, ..), every parameter given by its place -/
theorem pe_g (G : Ok X.prog X.w X.K X.mg X.base k x st ps sp) (b : ∀ f fd, L2.Fun X.K x x st f fd → L2.Binds X.K fd ps [])
    (hg : X.A.guards = some []) (hr : Room k X.A) (hx : Passes (CX X.prog X.w) X E) (gl : Gl X x) (ha : PA X (e :: es) t)
    (hdb : (x == ("__debug__" : Str)) = false := by decide)
    (he : starEach (e :: es) X.env = (false, eval e X.env) :: starEach es X.env := by rfl)
    (hpl : (backTo pos (starEach es X.env)).any (·.1) = false := by rfl) :
    PE X (.Call (.Name x p) (e :: es) [] pos) (tCall sp [] E t) := by
  obtain ⟨⟨f, fd, F, hm, r⟩, l⟩ := G
  refine ⟨fun pins s σ H Q I h => ?_⟩
  refine wpAny_Call_Name_kw (ld_glob I gl hm ?_ hdb)
  refine PySem.W.callWith_K (h₀ := X.base) I.ok.mod.kin F.kp
    (thn (ha.run pos pins s σ H _ I h) fun us s1 ⟨vs, H1, I1, r1, q⟩ => ⟨I1.kIn, ?_⟩) he hpl
  have q1 : sp (vs ++ []) H1 Q E := q
  rw [List.append_nil] at q1
  have hl : us.length = ps.length := by rw [← r1.length]; exact l _ _ _ _ q1
  have bb := b f fd F s1 us I1.kIn (by rw [List.append_nil]; exact hl)
  rw [List.append_nil] at bb
  refine wpAny_call (codeAny_mono (run_g r hg hr hx I1 bb r1 q1) fun z s' hz => ?_)
  cases z with
  | error e => exact hz
  | ok fl => cases fl <;> exact hz
/-- f(.., k = v) -/
theorem pe_gk {gf : List Value → List Value → List Value} {gV : List V → List V → List V} (G : Ok X.prog X.w X.K X.mg X.base k x st ps sp)
    (b : ∀ f fd, L2.Fun X.K x x st f fd → KBinds X.K fd ps ks gf gV)
    (hg : X.A.guards = some []) (hr : Room k X.A) (hx : Passes (CX X.prog X.w) X E) (gl : Gl X x) (ha : PA X (e :: es) t) (hkw : PK X kws tk)
    (hall : (backToKw pos (keywordEach kws X.env)).all (·.1.isSome) = true := by rfl)
    (hks : (backToKw pos (keywordEach kws X.env)).filterMap (·.1) = ks := by rfl) (hdb : (x == ("__debug__" : Str)) = false := by decide)
    (he : starEach (e :: es) X.env = (false, eval e X.env) :: starEach es X.env := by rfl)
    (hpl : ((backTo pos (starEach (e :: es) X.env)).any (·.1) || (backToKw pos (keywordEach kws X.env)).any (·.1.isNone)) = false := by rfl) :
    PE X (.Call (.Name x p) (e :: es) kws pos) (tCallK sp gV E t tk) := by
  obtain ⟨⟨f, fd, F, hm, r⟩, l⟩ := G
  refine ⟨fun pins s σ H Q I h => ?_⟩
  refine wpAny_Call_Name_kw (ld_glob I gl hm ?_ hdb)
  refine PySem.W.callWith_KW (h₀ := X.base) I.ok.mod.kin F.kp hall
    (thn (ha.run pos pins s σ H _ I h) fun us s1 ⟨vs, H1, I1, r1, q⟩ => ?_) hpl he
  refine thn (hkw.run pos pins s1 σ H1 _ I1 q) fun ws s2 ⟨zs, H2, I2, rz, q2⟩ => ⟨I2.kIn, ?_⟩
  rw [hks]
  have B := b f fd F
  have r2 := B.rel r1 rz
  have hl : (gf us ws).length = ps.length := by rw [← r2.length]; exact l _ _ _ _ q2
  refine wpAny_call (codeAny_mono (run_g r hg hr hx I2 (B.to s2 us ws I2.kIn hl) r2 q2) fun z s' hz => ?_)
  cases z with
  | error e => exact hz
  | ok fl => cases fl <;> exact hz
/-- f(k = v, ..): keywords alone -/
theorem pe_gk0 {gf : List Value → List Value → List Value} {gV : List V → List V → List V} (G : Ok X.prog X.w X.K X.mg X.base k x st ps sp)
    (b : ∀ f fd, L2.Fun X.K x x st f fd → KBinds X.K fd ps ks gf gV)
    (hg : X.A.guards = some []) (hr : Room k X.A) (hx : Passes (CX X.prog X.w) X E) (gl : Gl X x) (hkw : PK X kws tk)
    (hall : (backToKw pos (keywordEach kws X.env)).all (·.1.isSome) = true := by rfl)
    (hks : (backToKw pos (keywordEach kws X.env)).filterMap (·.1) = ks := by rfl) (hdb : (x == ("__debug__" : Str)) = false := by decide)
    (hpl : ((backTo pos (starEach [] X.env)).any (·.1) || (backToKw pos (keywordEach kws X.env)).any (·.1.isNone)) = false := by rfl) :
    PE X (.Call (.Name x p) [] kws pos) (tCallK sp gV E tNil tk) := by
  obtain ⟨⟨f, fd, F, hm, r⟩, l⟩ := G
  refine ⟨fun pins s σ H Q I h => ?_⟩
  refine wpAny_Call_Name_kw (ld_glob I gl hm ?_ hdb)
  refine PySem.W.callWith_KW0 (h₀ := X.base) I.ok.mod.kin F.kp hall
    (thn (hkw.run pos pins s σ H _ I h) fun ws s2 ⟨zs, H2, I2, rz, q2⟩ => ⟨I2.kIn, ?_⟩) hpl
  rw [hks]
  have B := b f fd F
  have r2 := B.rel .nil rz
  have hl : (gf [] ws).length = ps.length := by rw [← r2.length]; exact l _ _ _ _ q2
  refine wpAny_call (codeAny_mono (run_g r hg hr hx I2 (B.to s2 [] ws I2.kIn hl) r2 q2) fun z s' hz => ?_)
  cases z with
  | error e => exact hz
  | ok fl => cases fl <;> exact hz
/-- f() -/
theorem pe_g0 (G : Ok X.prog X.w X.K X.mg X.base k x st ps sp) (b : ∀ f fd, L2.Fun X.K x x st f fd → L2.Binds X.K fd ps [])
    (hg : X.A.guards = some []) (hr : Room k X.A) (hx : Passes (CX X.prog X.w) X E) (gl : Gl X x)
    (hdb : (x == ("__debug__" : Str)) = false := by decide) : PE X (.Call (.Name x p) [] [] pos) (tCall sp [] E tNil) := by
  obtain ⟨⟨f, fd, F, hm, r⟩, l⟩ := G
  refine ⟨fun pins s σ H Q I h => ?_⟩
  refine wpAny_Call_Name_kw (ld_glob I gl hm ?_ hdb)
  have q1 : sp [] H Q E := h
  have bb := b f fd F s [] I.kIn (by rw [List.append_nil]; have := l _ _ _ _ q1; exact this)
  rw [List.append_nil] at bb
  refine PySem.W.callWith_K0 I.kIn F.kp (wpAny_call (codeAny_mono (run_g r hg hr hx I bb .nil q1) fun z s' hz => ?_))
  cases z with
  | error e => exact hz
  | ok fl => cases fl <;> exact hz
end
end Vf

namespace Vf
open PySem PySem.Spec PyProof.Rows L2
/-! ## more rules -/
theorem Dp.noDict {K : PySem.W.Frag} {H : Hp} : ∀ (d : PyData) (v : V), Dp K H v d → d.hasDict = false
  | .none, _, _ => rfl
  | .bool _, _, _ => rfl
  | .int _, _, _ => rfl
  | .str _, _, _ => rfl
  | .list ds, _, h => by
    cases h with
    | lst _ ha => exact DpAllN ds _ ha
  | .tuple ds, _, h => by
    cases h with
    | tup _ ha => exact DpAllN ds _ ha
  | .dict _, _, h => by cases h
where
  DpAllN {K : PySem.W.Frag} {H : Hp} : ∀ (ds : List PyData) (vs : List V), DpAll K H vs ds → PyData.hasDictAll ds = false
  | [], _, _ => rfl
  | d :: ds, _, h => by
    cases h with
    | cons h1 h2 =>
      have e1 := Dp.noDict d _ h1
      have e2 := DpAllN ds _ h2
      simp only [PyData.hasDictAll, e1, e2, Bool.or_self]
section
variable {X : Cx}
/-- repr of a list or a tuple of data -/
def rRepr (K : PySem.W.Frag) : List V → Hp → VK → Prop := fun xs H Q => ∃ (a : Addr) (d : PyData), xs = [.ref a] ∧ Dp K H (.ref a) d ∧ d.showable = true ∧
  d.depth ≤ 40 ∧ d.shown.length ≤ sizeLine ∧ Q (.str d.shown) H
theorem cr_repr (hg : X.A.guards = some []) (hu : X.A.units + 64 < cLine) : CallR X (.builtin "repr") (rRepr X.K) := by
  intro pins s σ H xs us Q I r h
  obtain ⟨a, d, rfl, hd, hs, hdp, hz, q⟩ := h
  have e := Vals.ref1 r
  subst e
  obtain ⟨as, rd⟩ := Dp.reads I d _ (.ref a) hd rfl
  refine repr_of_reads' rd hs (fun z => ?_) hg (by omega) (fun _ _ z => z) (fun h' u tk k => ⟨.str d.shown, H, I.kept k, ⟨_, rfl⟩, q⟩) hz
  rw [Dp.noDict d _ hd] at z
  cases z
/-- math.lcm of two ints -/
def rLcm : List V → Hp → VK → Prop := fun vs H Q => ∃ a b : Int, vs = [.int a, .int b] ∧ a.natAbs < 2 ^ 9000 ∧ b.natAbs < 2 ^ 9000 ∧ Q (.int ((Nat.lcm a.natAbs b.natAbs : Nat) : Int)) H
theorem log_lim {n k : Nat} (h : n < 2 ^ k) (hk : 0 < k) : n.log2 < k := PySem.Flt.log2_lt_of hk h
theorem cr_lcm : CallR X (.builtin "math.lcm") rLcm := by
  intro pins s σ H vs us Q I r h
  obtain ⟨a, b, rfl, ha, hb, q⟩ := h
  obtain ⟨t, u, rfl⟩ := Vals.int2 r
  have h1 : (max 1 a.natAbs).log2 < 9000 := log_lim (Nat.max_lt.mpr ⟨Nat.one_lt_two_pow (by decide), ha⟩) (by decide)
  have h2 : (max a.natAbs b.natAbs).log2 < 9000 := log_lim (Nat.max_lt.mpr ⟨ha, hb⟩) (by decide)
  have e1 : Nat.lcm 1 a.natAbs = a.natAbs := Nat.lcm_one_left _
  have hz : (((Nat.lcm 1 a.natAbs).lcm b.natAbs : Nat) : Int).natAbs.log2 < bitsLine := by
    rw [e1, Int.natAbs_natCast]
    have hl : Nat.lcm a.natAbs b.natAbs ≤ a.natAbs * b.natAbs := by
      rcases Nat.eq_zero_or_pos (a.natAbs * b.natAbs) with z | z
      · have : Nat.lcm a.natAbs b.natAbs = 0 := by unfold Nat.lcm; rw [z]; exact Nat.zero_div _
        omega
      · exact Nat.le_of_dvd z (Nat.lcm_dvd (Nat.dvd_mul_right _ _) (Nat.dvd_mul_left _ _))
    have hm : a.natAbs * b.natAbs < 2 ^ 18000 := by
      have := Nat.mul_lt_mul'' ha hb
      rw [← Nat.pow_add] at this
      exact this
    have : Nat.log2 (Nat.lcm a.natAbs b.natAbs) < 18000 := log_lim (Nat.lt_of_le_of_lt hl hm) (by decide)
    have e : bitsLine = 134217728 := by decide
    omega
  have g := PySem.W.mg_run_lcm a t b u (by omega) (by omega) hz
  rw [e1] at g
  exact call_function_meets PySem.W.MGF.kind_lcm PySem.W.MGF.plain_lcm PySem.W.MGF.entry_lcm (PySem.W.MGF.args_lcm _ _) g.meets ⟨.int _, H, I.tok _, ⟨_, rfl⟩, q⟩

/-- // by any divisor of fewer than 9000 bits -/
def CDivG (_ j : Int) : Prop := j ≠ 0 ∧ j.natAbs < 2 ^ 9000
theorem op_fdivG : OpR X (binaryOp .FloorDiv) (rI CDivG fun i j => .int (i.fdiv j)) :=
  opI fun i j _ _ _ _ _ hc q => floordiv_int hc.1 q (.inl (PyProof.noPylong_of_log2 (log_lim hc.2 (by decide))))
/-- == and != of two ints -/
theorem op_eqZ : OpR X (compareOp .Eq) (rI0 fun i j => .bl (decide (i = j))) := by
  intro pins s σ H x y u v Q I rx ry h
  obtain ⟨i, j, rfl, rfl, q⟩ := h
  refine op_eq pins s σ H _ _ u v Q I rx ry ⟨rfl, ?_⟩
  have e : decide (V.int i = V.int j) = decide (i = j) := by
    by_cases z : i = j
    · subst z; simp
    · simp [z]
  rw [e]
  exact q
theorem op_neZ : OpR X (compareOp .NotEq) (rI0 fun i j => .bl (!decide (i = j))) := by
  intro pins s σ H x y u v Q I rx ry h
  obtain ⟨i, j, rfl, rfl, q⟩ := h
  refine op_ne pins s σ H _ _ u v Q I rx ry ⟨rfl, ?_⟩
  have e : decide (V.int i = V.int j) = decide (i = j) := by
    by_cases z : i = j
    · subst z; simp
    · simp [z]
  rw [e]
  exact q
/-- == and != of two texts -/
theorem op_eqS : OpR X (compareOp .Eq) (fun x y H Q => ∃ i j, x = .str i ∧ y = .str j ∧ Q (.bl (decide (i = j))) H) := by
  intro pins s σ H x y u v Q I rx ry h
  obtain ⟨i, j, rfl, rfl, q⟩ := h
  refine op_eq pins s σ H _ _ u v Q I rx ry ⟨rfl, ?_⟩
  have e : decide (V.str i = V.str j) = decide (i = j) := by
    by_cases z : i = j
    · subst z; simp
    · simp [z]
  rw [e]
  exact q
theorem op_neS : OpR X (compareOp .NotEq) (fun x y H Q => ∃ i j, x = .str i ∧ y = .str j ∧ Q (.bl (!decide (i = j))) H) := by
  intro pins s σ H x y u v Q I rx ry h
  obtain ⟨i, j, rfl, rfl, q⟩ := h
  refine op_ne pins s σ H _ _ u v Q I rx ry ⟨rfl, ?_⟩
  have e : decide (V.str i = V.str j) = decide (i = j) := by
    by_cases z : i = j
    · subst z; simp
    · simp [z]
  rw [e]
  exact q
/-- a module's int -/
theorem pe_gi {x : Str} {i : Int} {pos : Pos} (hm : ∃ t, X.mg x = some (.int i t)) (hg : Gl X x) (hd : (x == ("__debug__" : Str)) = false := by decide) : PE X (.Name x pos) (tC (.int i)) := by
  obtain ⟨t, hm⟩ := hm
  exact pe_glob hg hm ⟨t, rfl⟩ hd
end
/-! ## the rules by the written part K alone, each with a name for its reading -/
def rLenQ (K : PySem.W.Frag) : List V → Hp → VK → Prop := fun xs H Q => ∃ p ys, xs = [.ref p] ∧ (SqL K H p ys ∨ SqT K H p ys) ∧ Q (.int ys.length) H
def rLenStr : List V → Hp → VK → Prop := fun xs H Q => ∃ z, xs = [.str z] ∧ z.length ≤ sizeLine ∧ Q (.int z.length) H
def rListQ (K : PySem.W.Frag) : List V → Hp → VK → Prop := fun xs H Q => ∃ p ys, xs = [.ref p] ∧ (SqL K H p ys ∨ SqT K H p ys) ∧ ∀ l, H l = none → Q (.ref l) (upd H l (.lst ys))
def rTupQ (K : PySem.W.Frag) : List V → Hp → VK → Prop := fun xs H Q => ∃ p ys, xs = [.ref p] ∧ ((SqL K H p ys ∧ ∀ l, H l = none → Q (.ref l) (upd H l (.tup ys))) ∨ (SqT K H p ys ∧ Q (.ref p) H))
def rAbs : List V → Hp → VK → Prop := fun xs H Q => ∃ i, xs = [.int i] ∧ Q (.int (if i < 0 then -i else i)) H
def rMax2 : List V → Hp → VK → Prop := fun xs H Q => ∃ i j, xs = [.int i, .int j] ∧ Q (.int (if j > i then j else i)) H
def rMin2 : List V → Hp → VK → Prop := fun xs H Q => ∃ i j, xs = [.int i, .int j] ∧ Q (.int (if j < i then j else i)) H
def rInt1 : List V → Hp → VK → Prop := fun xs H Q => (∃ i, xs = [.int i] ∧ Q (.int i) H) ∨ ∃ k, xs = [.bl k] ∧ Q (.int (if k then 1 else 0)) H
def rDivmod : List V → Hp → VK → Prop := fun xs H Q => ∃ i j, xs = [.int i, .int j] ∧ CDivP i j ∧ ∀ p, H p = none → Q (.ref p) (upd H p (.tup [.int (i / j), .int (i % j)]))
section
variable {X : Cx} {K : PySem.W.Frag}
theorem c_len (e : X.K = K) : CallR X (.builtin "len") (rLenQ K) := by subst e; exact call_len_seq
theorem c_lenS : CallR X (.builtin "len") rLenStr := call_len_str
theorem c_list (e : X.K = K) : CallR X (.type "list") (rListQ K) := by subst e; exact call_list_of
theorem c_tuple (e : X.K = K) : CallR X (.type "tuple") (rTupQ K) := by subst e; exact call_tuple_of
theorem c_abs : CallR X (.builtin "abs") rAbs := call_abs
theorem c_max2 (h : X.calm = true) : CallR X (.builtin "max") rMax2 := call_max2 h
theorem c_min2 (h : X.calm = true) : CallR X (.builtin "min") rMin2 := call_min2 h
theorem c_int : CallR X (.type "int") rInt1 := call_int1
theorem c_divmod : CallR X (.builtin "divmod") rDivmod := call_divmodW
theorem c_isi (e : X.K = K) : CallR X (.builtin "isinstance") (rIsi K) := by subst e; exact call_isi
theorem c_repr (e : X.K = K) (hg : X.A.guards = some []) (hu : X.A.units + 64 < cLine) : CallR X (.builtin "repr") (rRepr K) := by subst e; exact cr_repr hg hu
theorem c_all (e : X.K = K) (h : X.calm = true) : CallR X (.builtin "all") (rAll K) := by subst e; exact cr_all h
theorem c_any (e : X.K = K) (h : X.calm = true) : CallR X (.builtin "any") (rAny K) := by subst e; exact cr_any h
theorem c_sum (e : X.K = K) (h : X.calm = true) : CallR X (.builtin "sum") (rSum K) := by subst e; exact cr_sum h
theorem c_maxL (e : X.K = K) (h : X.calm = true) : CallR X (.builtin "max") (rMax K) := by subst e; exact cr_max h
theorem c_minL (e : X.K = K) (h : X.calm = true) : CallR X (.builtin "min") (rMin K) := by subst e; exact cr_min h
theorem x_list (e : X.K = K) : IxR X (rIxL K) := by subst e; exact ix_list
theorem x_tup (e : X.K = K) : IxR X (rIxT K) := by subst e; exact ix_tup
theorem o_eqD (e : X.K = K) (hu : X.A.units + 64 < cLine) : OpR X (compareOp .Eq) (rEqD K) := by subst e; exact op_eqD hu
theorem o_neD (e : X.K = K) (hu : X.A.units + 64 < cLine) : OpR X (compareOp .NotEq) (rNeD K) := by subst e; exact op_neD hu
theorem o_in (e : X.K = K) : OpR X (compareOp .In) (rIn K false) := by subst e; exact op_in_seq
theorem o_notIn (e : X.K = K) : OpR X (compareOp .NotIn) (rIn K true) := by subst e; exact op_notIn_seq
theorem o_catT (e : X.K = K) : OpR X (binaryOp .Add) (rCatT K) := by subst e; exact op_catT
theorem s_list (e : X.K = K) : SlR X (rSlL K) := by subst e; exact sl_list
theorem s_tup (e : X.K = K) : SlR X (rSlT K) := by subst e; exact sl_tup
theorem i_list {tg l : Expr} {tl : TE} (e : X.K = K) (hl : PE X l tl) : PI X tg l (iList K tl) := by subst e; exact pi_list hl
theorem i_tup' {tg l : Expr} {tl : TE} (e : X.K = K) (hl : PE X l tl) : PI X tg l (iTup K tl) := by subst e; exact pi_tup hl
theorem g_tup {es : List Expr} {k : Nat} {t : TGs} {n : Nat} {pos : Pos} (e : X.K = K) (hc : X.calm = true) (h : PGs X es t) (hn : (assignEach es X.env).length = n)
    (hst : (assignEach es X.env).findIdx? (·.1) = none) : PG X (.Tuple es k pos) (gTup K n t) := by
  subst e
  exact pg_tup hc h hn hst
end
end Vf

namespace Vf
open PySem PySem.Spec PyProof.Rows L2
/-! ## heaps -/
/-- all but what stands at k is as it was -/
def Kx (k : Addr) (H H' : Hp) : Prop := ∀ b o, b ≠ k → H b = some o → H' b = some o
theorem Kx.refl {k : Addr} (H : Hp) : Kx k H H := fun _ _ _ h => h
theorem Kx.trans {k : Addr} {H H1 H2 : Hp} (a : Kx k H H1) (b : Kx k H1 H2) : Kx k H H2 := fun c o n h => b c o n (a c o n h)
theorem Kx.same {k : Addr} {H H1 H2 : Hp} (a : Kx k H H1) (b : Same H1 H2) : Kx k H H2 := fun c o n h => b c o (a c o n h)
theorem Same.kx {k : Addr} {H H1 H2 : Hp} (a : Same H H1) (b : Kx k H1 H2) : Kx k H H2 := fun c o n h => b c o n (a c o h)
theorem Same.toKx {k : Addr} {H H1 : Hp} (a : Same H H1) : Kx k H H1 := fun c o _ h => a c o h
theorem Same.new {H : Hp} {p : Addr} {o : HO} (h : H p = none) : Same H (upd H p o) := fun a u e => by
  rw [upd_ne (ne_of_none e h)]
  exact e
theorem Kx.upd {H : Hp} {k : Addr} {o : HO} : Kx k H (upd H k o) := fun a u n e => by
  rw [upd_ne n]
  exact e
theorem at_new {H : Hp} {a p : Addr} {o u : HO} (h : H p = none) (e : H a = some u) : upd H p o a = some u := Same.new h a u e
theorem at_ne {H : Hp} {a p : Addr} {o u : HO} (h : a ≠ p) (e : H a = some u) : upd H p o a = some u := by rw [upd_ne h]; exact e
theorem at_same {H H' : Hp} {a : Addr} {u : HO} (h : Same H H') (e : H a = some u) : H' a = some u := h a u e
theorem at_kx {k : Addr} {H H' : Hp} {a : Addr} {u : HO} (h : Kx k H H') (n : a ≠ k) (e : H a = some u) : H' a = some u := h a u n e
theorem Kx.list {K : PySem.W.Frag} {k : Addr} {H H' : Hp} {a : Addr} {xs : List V} (e : Kx k H H') (n : a ≠ k) (h : SqL K H a xs) : SqL K H' a xs := by
  rcases h with (h | ⟨o, h⟩) | h
  · exact Or.inl (Or.inl (e _ _ n h))
  · exact Or.inl (Or.inr ⟨o, e _ _ n h⟩)
  · exact Or.inr h
theorem Kx.tup {K : PySem.W.Frag} {k : Addr} {H H' : Hp} {a : Addr} {xs : List V} (e : Kx k H H') (n : a ≠ k) (h : SqT K H a xs) : SqT K H' a xs := by
  rcases h with (h | ⟨o, h⟩) | h
  · exact Or.inl (Or.inl (e _ _ n h))
  · exact Or.inl (Or.inr ⟨o, e _ _ n h⟩)
  · exact Or.inr h
theorem Same.list {K : PySem.W.Frag} {H H' : Hp} {a : Addr} {xs : List V} (e : Same H H') (h : SqL K H a xs) : SqL K H' a xs := e.seq h
theorem Same.tup {K : PySem.W.Frag} {H H' : Hp} {a : Addr} {xs : List V} (e : Same H H') (h : SqT K H a xs) : SqT K H' a xs := by
  rcases h with (h | ⟨o, h⟩) | h
  · exact Or.inl (Or.inl (e _ _ h))
  · exact Or.inl (Or.inr ⟨o, e _ _ h⟩)
  · exact Or.inr h
theorem new_list {K : PySem.W.Frag} {H : Hp} {a p : Addr} {o : HO} {xs : List V} (h : H p = none) (e : SqL K H a xs) : SqL K (upd H p o) a xs := (Same.new h).seq e
theorem new_tup {K : PySem.W.Frag} {H : Hp} {a p : Addr} {o : HO} {xs : List V} (h : H p = none) (e : SqT K H a xs) : SqT K (upd H p o) a xs := Same.tup (Same.new h) e
theorem ne_list {K : PySem.W.Frag} {H : Hp} {a p : Addr} {o : HO} {xs : List V} (h : a ≠ p) (e : SqL K H a xs) : SqL K (upd H p o) a xs := Kx.list Kx.upd h e
theorem ne_tup {K : PySem.W.Frag} {H : Hp} {a p : Addr} {o : HO} {xs : List V} (h : a ≠ p) (e : SqT K H a xs) : SqT K (upd H p o) a xs := Kx.tup Kx.upd h e

theorem none_up {H : Hp} {p q : Addr} {o : HO} (h : upd H p o q = none) : H q = none := by
  by_cases e : q = p
  · subst e
    rw [upd_same] at h
    cases h
  · rw [upd_ne e] at h
    exact h
theorem none_same {H H' : Hp} {q : Addr} (e : Same H H') (h : H' q = none) : H q = none := e.free h
theorem none_kx {H H' : Hp} {k q : Addr} {o : HO} (e : Kx k H H') (hk : H' k = some o) (h : H' q = none) : H q = none := by
  cases z : H q with
  | none => rfl
  | some u =>
    have n : q ≠ k := fun c => by rw [c, hk] at h; cases h
    rw [e q u n z] at h
    cases h
/-- a new tuple, a new list, handed back -/
def NewT (xs : List V) (H : Hp) (Q : VK) : Prop := ∀ p H', Same H H' → H p = none → H' p = some (.tup xs) → Q (.ref p) H'
def NewL (xs : List V) (H : Hp) (Q : VK) : Prop := ∀ p H', Same H H' → H p = none → H' p = some (.lst xs) → Q (.ref p) H'
/-! ## readings, one step each -/
section
variable {K : PySem.W.Frag} {D : Ends} {σ : L2.St} {H : Hp} {Q : VK} {t u : TS} {te ta tb tc : TE} {tt tt2 : TT} {v x y : V} {i j : Nat} {g : TG} {gs : TGs} {tas : TA}
theorem r_seq (h : t { D with nx := u D } σ H) : tSeq t u D σ H := h
theorem r_asg (h : te σ H fun v H1 => g v σ H1 D.nx) : tAsg te g D σ H := h
theorem r_name {R : L2.St → Hp → Prop} (h : R (σ.set i (some v)) H) : gName i v σ H R := h
theorem r_gtup {R : L2.St → Hp → Prop} {a : Addr} {xs : List V} {n : Nat} (hs : SqT K H a xs) (hn : xs.length = n) (h : gs xs σ H R) : gTup K n gs (.ref a) σ H R := ⟨a, xs, rfl, hs, hn, h⟩
theorem r_gcons {R : L2.St → Hp → Prop} {r : List V} (h : g v σ H fun σ' H' => gs r σ' H' R) : gCons g gs (v :: r) σ H R := ⟨v, r, rfl, h⟩
theorem r_gnil {R : L2.St → Hp → Prop} (h : R σ H) : gNil [] σ H R := ⟨rfl, h⟩
theorem r_gsub {R : L2.St → Hp → Prop} {ts : TSet} (h : ta σ H fun o H1 => tb σ H1 fun i H2 => ts o i v H2 fun H3 => R σ H3) : gSub ta tb ts v σ H R := h
theorem r_setL {R : Hp → Prop} {p : Addr} {k : Int} {xs : List V} (hp : H p = some (.lst xs)) (hj : ixN xs.length k = some j) (h : R (upd H p (.lst (xs.set j v)))) : rSetL (.ref p) (.int k) v H R := ⟨p, xs, k, j, rfl, rfl, hp, hj, h⟩
theorem r_par (h : tas σ H fun vs H1 => ∃ v w, vs = [v, w] ∧ D.nx ((σ.set i (some v)).set j (some w)) H1) : tPar i j tas D σ H := h
theorem r_par3 {l : Nat} (h : tas σ H fun vs H1 => ∃ u v w, vs = [u, v, w] ∧ D.nx (((σ.set i (some u)).set j (some v)).set l (some w)) H1) : tPar3 i j l tas D σ H := h
theorem r_aug {ti : TIp} (e : σ[i]? = some (some x)) (h : te σ H fun y H1 => ti x y H1 fun z H2 => D.nx (σ.set i (some z)) H2) : tAug i te ti D σ H := ⟨x, e, h⟩
theorem r_ip {f : Int → Int → Int} {a b : Int} (h : Q (.int (f a b)) H) : ipI f (.int a) (.int b) H Q := ⟨a, b, rfl, rfl, h⟩
theorem r_drop (h : te σ H fun _ H1 => D.nx σ H1) : tDrop te D σ H := h
theorem r_ret (h : te σ H D.rt) : tRet te D σ H := h
theorem r_retN (h : D.rt .non H) : tRetN D σ H := h
theorem r_if (h : tt σ H fun b H1 => if b = true then t D σ H1 else u D σ H1) : tIfS tt t u D σ H := h
theorem r_next (h : D.nx σ H) : tNext D σ H := h
theorem r_break (h : D.bk σ H) : tBreak D σ H := h
theorem r_cont (h : D.ct σ H) : tCont D σ H := h
theorem r_var (e : σ[i]? = some (some v)) (h : Q v H) : tVar i σ H Q := ⟨v, e, h⟩
theorem r_yes {R : Bool → Hp → Prop} (h : R true H) : tYes σ H R := h
theorem r_c (h : Q v H) : tC v σ H Q := h
theorem r_op {r : R2} (h : ta σ H fun x H1 => tb σ H1 fun y H2 => r x y H2 Q) : tOp r ta tb σ H Q := h
theorem r_un {r : V → Hp → VK → Prop} (h : ta σ H fun x H1 => r x H1 Q) : tUn r ta σ H Q := h
theorem r_rI0 {f : Int → Int → V} {a b : Int} (h : Q (f a b) H) : rI0 f (.int a) (.int b) H Q := ⟨a, b, rfl, rfl, h⟩
theorem r_rU {f : Int → V} {a : Int} (h : Q (f a) H) : rU f (.int a) H Q := ⟨a, rfl, h⟩
theorem r_rI {C : Int → Int → Prop} {f : Int → Int → V} {a b : Int} (c : C a b) (h : Q (f a b) H) : rI C f (.int a) (.int b) H Q := ⟨a, b, rfl, rfl, c, h⟩
theorem r_test {R : Bool → Hp → Prop} (h : te σ H fun x H1 => ∃ k, x = .bl k ∧ R k H1) : tTest te σ H R := h
theorem r_B {R : Bool → Hp → Prop} (h : te σ H fun x H1 => ∃ k, x = .bl k ∧ R k H1) : tB te σ H R := h
theorem r_and {R : Bool → Hp → Prop} (h : tt σ H fun c H1 => if c = true then tt2 σ H1 R else R false H1) : tAnd tt tt2 σ H R := h
theorem r_or {R : Bool → Hp → Prop} (h : tt σ H fun c H1 => if c = true then R true H1 else tt2 σ H1 R) : tOr tt tt2 σ H R := h
theorem r_not {R : Bool → Hp → Prop} (h : tt σ H fun c H1 => R (!c) H1) : tNot tt σ H R := h
theorem r_andV (h : ta σ H fun x H1 => ∃ c, x = .bl c ∧ if c = true then tb σ H1 Q else Q (.bl false) H1) : tAndV ta tb σ H Q := h
theorem r_orV (h : ta σ H fun x H1 => ∃ c, x = .bl c ∧ if c = true then Q (.bl true) H1 else tb σ H1 Q) : tOrV ta tb σ H Q := h
theorem r_notV (h : ta σ H fun x H1 => ∃ c, x = .bl c ∧ Q (.bl (!c)) H1) : tNotV ta σ H Q := h
theorem r_ifE (h : tt σ H fun c H1 => if c = true then ta σ H1 Q else tb σ H1 Q) : tIf tt ta tb σ H Q := h
theorem r_chain {r r' : R2} (h : ta σ H fun x H1 => tb σ H1 fun y H2 => r x y H2 fun z H3 => ∃ k, z = .bl k ∧
  (if k = true then tc σ H3 fun w' H4 => r' y w' H4 Q else Q (.bl false) H3)) : tChain r r' ta tb tc σ H Q := h
theorem r_cons {R : List V → Hp → Prop} (h : ta σ H fun x H1 => tas σ H1 fun xs H2 => R (x :: xs) H2) : tCons ta tas σ H R := h
theorem r_nil {R : List V → Hp → Prop} (h : R [] H) : tNil σ H R := h
theorem r_tup (h : tas σ H fun xs H1 => xs.length ≤ sizeLine ∧ ∀ p, H1 p = none → Q (.ref p) (upd H1 p (.tup xs))) : tTup tas σ H Q := h
theorem r_lst (h : tas σ H fun xs H1 => xs.length ≤ sizeLine ∧ ∀ p, H1 p = none → Q (.ref p) (upd H1 p (.lst xs))) : tLst tas σ H Q := h
theorem r_call {sp : Sp} {E : XK} (h : tas σ H fun vs H1 => sp vs H1 Q E) : tCall sp [] E tas σ H Q := by
  have e : tCall sp [] E tas σ H Q = tas σ H fun vs H1 => sp vs H1 Q E := by
    unfold tCall
    simp only [List.append_nil]
  rw [e]
  exact h
theorem r_callK {sp : Sp} {gV : List V → List V → List V} {E : XK} {tk : TA} (h : tas σ H fun vs H1 => tk σ H1 fun zs H2 => sp (gV vs zs) H2 Q E) : tCallK sp gV E tas tk σ H Q := h
theorem r_cb {r : List V → Hp → VK → Prop} (h : tas σ H fun vs H1 => r vs H1 Q) : tCB r tas σ H Q := h
theorem r_ixL {a : Addr} {xs : List V} {k : Int} (h1 : SqL K H a xs) (h2 : atI xs k = some v) (h : Q v H) : rIxL K (.ref a) (.int k) H Q := ⟨a, xs, k, v, rfl, rfl, h1, h2, h⟩
theorem r_ixT {a : Addr} {xs : List V} {k : Int} (h1 : SqT K H a xs) (h2 : atI xs k = some v) (h : Q v H) : rIxT K (.ref a) (.int k) H Q := ⟨a, xs, k, v, rfl, rfl, h1, h2, h⟩
theorem r_lenL {a : Addr} {xs : List V} (hs : SqL K H a xs) (h : Q (.int xs.length) H) : rLenQ K [.ref a] H Q := ⟨a, xs, rfl, .inl hs, h⟩
theorem r_lenT {a : Addr} {xs : List V} (hs : SqT K H a xs) (h : Q (.int xs.length) H) : rLenQ K [.ref a] H Q := ⟨a, xs, rfl, .inr hs, h⟩
theorem r_tupL {a : Addr} {xs : List V} (hs : SqL K H a xs) (h : ∀ l, H l = none → Q (.ref l) (upd H l (.tup xs))) : rTupQ K [.ref a] H Q := ⟨a, xs, rfl, .inl ⟨hs, h⟩⟩
theorem r_tupT {a : Addr} {xs : List V} (hs : SqT K H a xs) (h : Q (.ref a) H) : rTupQ K [.ref a] H Q := ⟨a, xs, rfl, .inr ⟨hs, h⟩⟩
theorem r_listL {a : Addr} {xs : List V} (hs : SqL K H a xs) (h : ∀ l, H l = none → Q (.ref l) (upd H l (.lst xs))) : rListQ K [.ref a] H Q := ⟨a, xs, rfl, .inl hs, h⟩
theorem r_listT {a : Addr} {xs : List V} (hs : SqT K H a xs) (h : ∀ l, H l = none → Q (.ref l) (upd H l (.lst xs))) : rListQ K [.ref a] H Q := ⟨a, xs, rfl, .inr hs, h⟩
theorem r_abs {i : Int} (h : Q (.int (i.natAbs : Int)) H) : rAbs [.int i] H Q := by
  have e : (if i < 0 then -i else i) = (i.natAbs : Int) := by split <;> omega
  exact ⟨i, rfl, by rw [e]; exact h⟩
theorem r_max2 {i j : Int} (h : Q (.int (max i j)) H) : rMax2 [.int i, .int j] H Q := by
  have e : (if j > i then j else i) = max i j := by split <;> omega
  exact ⟨i, j, rfl, by rw [e]; exact h⟩
theorem r_min2 {i j : Int} (h : Q (.int (min i j)) H) : rMin2 [.int i, .int j] H Q := by
  have e : (if j < i then j else i) = min i j := by split <;> omega
  exact ⟨i, j, rfl, by rw [e]; exact h⟩
theorem r_int1 {i : Int} (h : Q (.int i) H) : rInt1 [.int i] H Q := .inl ⟨i, rfl, h⟩
theorem r_divmod {i j : Int} (c : CDivP i j) (h : ∀ p, H p = none → Q (.ref p) (upd H p (.tup [.int (i / j), .int (i % j)]))) : rDivmod [.int i, .int j] H Q := ⟨i, j, rfl, c, h⟩
theorem r_gcd {a b : Int} (h : Q (.int ((Nat.gcd a.natAbs b.natAbs : Nat) : Int)) H) : rGcd [.int a, .int b] H Q := ⟨a, b, rfl, h⟩
theorem r_lcm {a b : Int} (ha : a.natAbs < 2 ^ 9000) (hb : b.natAbs < 2 ^ 9000) (h : Q (.int ((Nat.lcm a.natAbs b.natAbs : Nat) : Int)) H) : rLcm [.int a, .int b] H Q := ⟨a, b, rfl, ha, hb, h⟩
theorem r_repr {a : Addr} {d : PyData} (hd : Dp K H (.ref a) d) (hs : d.showable = true) (hp : d.depth ≤ 40) (hz : d.shown.length ≤ sizeLine) (h : Q (.str d.shown) H) : rRepr K [.ref a] H Q := ⟨a, d, rfl, hd, hs, hp, hz, h⟩
theorem r_isi {x c : V} {t u : Value} {b : Bool} (h1 : ClsV c u) (h2 : TyX K H x t) (h3 : PySem.W.kitOne K t u = some b) (h : Q (.bl b) H) : rIsi K [x, c] H Q := ⟨x, c, t, u, b, rfl, h1, h2, h3, h⟩
theorem r_all {a : Addr} {bs : List Bool} (hs : SqL K H a (bs.map V.bl)) (h : Q (.bl (bs.all id)) H) : rAll K [.ref a] H Q := ⟨a, bs, rfl, hs, h⟩
theorem r_any {a : Addr} {bs : List Bool} (hs : SqL K H a (bs.map V.bl)) (h : Q (.bl (bs.any id)) H) : rAny K [.ref a] H Q := ⟨a, bs, rfl, hs, h⟩
theorem r_neD {x y : V} {d e : PyData} (h1 : Dp K H x d) (h2 : Dp K H y e) (h3 : SeqAt.shaped d = true) (h4 : SeqAt.shaped e = true) (h : Q (.bl (!PyData.eqv d e)) H) : rNeD K x y H Q := ⟨d, e, h1, h2, h3, h4, h⟩
theorem r_eqD {x y : V} {d e : PyData} (h1 : Dp K H x d) (h2 : Dp K H y e) (h3 : SeqAt.shaped d = true) (h4 : SeqAt.shaped e = true) (h : Q (.bl (PyData.eqv d e)) H) : rEqD K x y H Q := ⟨d, e, h1, h2, h3, h4, h⟩
end
/-- tests that are known, and both ways of one that is not -/
theorem ifd {p A B : Prop} {_i : Decidable p} (h1 : p → A) (h2 : ¬ p → B) : if decide p = true then A else B := by
  by_cases h : p
  · rw [if_pos (decide_eq_true h)]; exact h1 h
  · rw [if_neg (by rw [decide_eq_false h]; exact Bool.false_ne_true)]; exact h2 h
theorem ifnd {p A B : Prop} {_i : Decidable p} (h1 : ¬ p → A) (h2 : p → B) : if (!decide p) = true then A else B := by
  by_cases h : p
  · rw [if_neg (by rw [decide_eq_true h]; decide)]; exact h2 h
  · rw [if_pos (by rw [decide_eq_false h]; decide)]; exact h1 h
theorem ifb {b : Bool} {A B : Prop} (h1 : b = true → A) (h2 : b = false → B) : if b = true then A else B := by
  cases b with
  | true => rw [if_pos rfl]; exact h1 rfl
  | false => rw [if_neg Bool.false_ne_true]; exact h2 rfl
theorem ifT {b : Bool} {A B : Prop} (hb : b = true) (h : A) : if b = true then A else B := by rw [if_pos hb]; exact h
theorem ifF {b : Bool} {A B : Prop} (hb : b = false) (h : B) : if b = true then A else B := by rw [if_neg (by rw [hb]; exact Bool.false_ne_true)]; exact h
theorem ifTT {A B : Prop} (h : A) : if true = true then A else B := by rw [if_pos rfl]; exact h
theorem ifFF {A B : Prop} (h : B) : if false = true then A else B := by rw [if_neg Bool.false_ne_true]; exact h
theorem ifNT {A B : Prop} (h : B) : if (!true) = true then A else B := by rw [if_neg (by decide)]; exact h
theorem ifNF {A B : Prop} (h : A) : if (!false) = true then A else B := by rw [if_pos (by decide)]; exact h
theorem small {n : Nat} (h : n ≤ 100000) : n ≤ sizeLine := Nat.le_trans h (by decide)
/-! ## data -/
theorem DpAll.ints {K : PySem.W.Frag} {H : Hp} : ∀ ns : List Int, DpAll K H (ns.map V.int) (ns.map PyData.int)
  | [] => .nil
  | n :: ns => .cons (.int n) (DpAll.ints ns)

/-! ## isinstance, type by type -/
section
variable {K : PySem.W.Frag} {H : Hp} {Q : VK} {a : Addr} {xs : List V} {i : Int} {b : Bool}
theorem is_int_int (h : Q (.bl true) H) : rIsi K [(.int i), .ty "int"] H Q := r_isi (.ty "int") (.base (.int i)) (kit_ty (by decide +kernel)) h
theorem is_int_bool (h : Q (.bl false) H) : rIsi K [(.int i), .ty "bool"] H Q := r_isi (.ty "bool") (.base (.int i)) (kit_ty (by decide +kernel)) h
theorem is_int_tuple (h : Q (.bl false) H) : rIsi K [(.int i), .ty "tuple"] H Q := r_isi (.ty "tuple") (.base (.int i)) (kit_ty (by decide +kernel)) h
theorem is_int_list (h : Q (.bl false) H) : rIsi K [(.int i), .ty "list"] H Q := r_isi (.ty "list") (.base (.int i)) (kit_ty (by decide +kernel)) h
theorem is_int_str (h : Q (.bl false) H) : rIsi K [(.int i), .ty "str"] H Q := r_isi (.ty "str") (.base (.int i)) (kit_ty (by decide +kernel)) h
theorem is_bool_int (h : Q (.bl true) H) : rIsi K [(.bl b), .ty "int"] H Q := r_isi (.ty "int") (.base (.bl b)) (kit_ty (by decide +kernel)) h
theorem is_bool_bool (h : Q (.bl true) H) : rIsi K [(.bl b), .ty "bool"] H Q := r_isi (.ty "bool") (.base (.bl b)) (kit_ty (by decide +kernel)) h
theorem is_bool_tuple (h : Q (.bl false) H) : rIsi K [(.bl b), .ty "tuple"] H Q := r_isi (.ty "tuple") (.base (.bl b)) (kit_ty (by decide +kernel)) h
theorem is_bool_list (h : Q (.bl false) H) : rIsi K [(.bl b), .ty "list"] H Q := r_isi (.ty "list") (.base (.bl b)) (kit_ty (by decide +kernel)) h
theorem is_bool_str (h : Q (.bl false) H) : rIsi K [(.bl b), .ty "str"] H Q := r_isi (.ty "str") (.base (.bl b)) (kit_ty (by decide +kernel)) h
theorem is_NoneType_int (h : Q (.bl false) H) : rIsi K [.non, .ty "int"] H Q := r_isi (.ty "int") (.base .non) (kit_ty (by decide +kernel)) h
theorem is_NoneType_bool (h : Q (.bl false) H) : rIsi K [.non, .ty "bool"] H Q := r_isi (.ty "bool") (.base .non) (kit_ty (by decide +kernel)) h
theorem is_NoneType_tuple (h : Q (.bl false) H) : rIsi K [.non, .ty "tuple"] H Q := r_isi (.ty "tuple") (.base .non) (kit_ty (by decide +kernel)) h
theorem is_NoneType_list (h : Q (.bl false) H) : rIsi K [.non, .ty "list"] H Q := r_isi (.ty "list") (.base .non) (kit_ty (by decide +kernel)) h
theorem is_NoneType_str (h : Q (.bl false) H) : rIsi K [.non, .ty "str"] H Q := r_isi (.ty "str") (.base .non) (kit_ty (by decide +kernel)) h
theorem is_str_int {z : Str} (h : Q (.bl false) H) : rIsi K [(.str z), .ty "int"] H Q := r_isi (.ty "int") (.base (.str z)) (kit_ty (by decide +kernel)) h
theorem is_str_bool {z : Str} (h : Q (.bl false) H) : rIsi K [(.str z), .ty "bool"] H Q := r_isi (.ty "bool") (.base (.str z)) (kit_ty (by decide +kernel)) h
theorem is_str_tuple {z : Str} (h : Q (.bl false) H) : rIsi K [(.str z), .ty "tuple"] H Q := r_isi (.ty "tuple") (.base (.str z)) (kit_ty (by decide +kernel)) h
theorem is_str_list {z : Str} (h : Q (.bl false) H) : rIsi K [(.str z), .ty "list"] H Q := r_isi (.ty "list") (.base (.str z)) (kit_ty (by decide +kernel)) h
theorem is_str_str {z : Str} (h : Q (.bl true) H) : rIsi K [(.str z), .ty "str"] H Q := r_isi (.ty "str") (.base (.str z)) (kit_ty (by decide +kernel)) h
theorem is_tuple_int (e : H a = some (.tup xs)) (h : Q (.bl false) H) : rIsi K [(.ref a), .ty "int"] H Q := r_isi (.ty "int") (.base (.tup e)) (kit_ty (by decide +kernel)) h
theorem is_tuple_bool (e : H a = some (.tup xs)) (h : Q (.bl false) H) : rIsi K [(.ref a), .ty "bool"] H Q := r_isi (.ty "bool") (.base (.tup e)) (kit_ty (by decide +kernel)) h
theorem is_tuple_tuple (e : H a = some (.tup xs)) (h : Q (.bl true) H) : rIsi K [(.ref a), .ty "tuple"] H Q := r_isi (.ty "tuple") (.base (.tup e)) (kit_ty (by decide +kernel)) h
theorem is_tuple_list (e : H a = some (.tup xs)) (h : Q (.bl false) H) : rIsi K [(.ref a), .ty "list"] H Q := r_isi (.ty "list") (.base (.tup e)) (kit_ty (by decide +kernel)) h
theorem is_tuple_str (e : H a = some (.tup xs)) (h : Q (.bl false) H) : rIsi K [(.ref a), .ty "str"] H Q := r_isi (.ty "str") (.base (.tup e)) (kit_ty (by decide +kernel)) h
theorem is_list_int (e : H a = some (.lst xs)) (h : Q (.bl false) H) : rIsi K [(.ref a), .ty "int"] H Q := r_isi (.ty "int") (.base (.lst e)) (kit_ty (by decide +kernel)) h
theorem is_list_bool (e : H a = some (.lst xs)) (h : Q (.bl false) H) : rIsi K [(.ref a), .ty "bool"] H Q := r_isi (.ty "bool") (.base (.lst e)) (kit_ty (by decide +kernel)) h
theorem is_list_tuple (e : H a = some (.lst xs)) (h : Q (.bl false) H) : rIsi K [(.ref a), .ty "tuple"] H Q := r_isi (.ty "tuple") (.base (.lst e)) (kit_ty (by decide +kernel)) h
theorem is_list_list (e : H a = some (.lst xs)) (h : Q (.bl true) H) : rIsi K [(.ref a), .ty "list"] H Q := r_isi (.ty "list") (.base (.lst e)) (kit_ty (by decide +kernel)) h
theorem is_list_str (e : H a = some (.lst xs)) (h : Q (.bl false) H) : rIsi K [(.ref a), .ty "str"] H Q := r_isi (.ty "str") (.base (.lst e)) (kit_ty (by decide +kernel)) h
end

/-! ## two ways that meet -/
section
variable {D : Ends} {σ : L2.St} {H : Hp} {Q : VK} {tt : TT} {ta tb : TE} {t u : TS}
theorem j_e {te : TE} (Pv : V → Hp → Prop) (hF : ∀ Q' : VK, (∀ v H', Pv v H' → Q' v H') → te σ H Q') (hQ : ∀ v H', Pv v H' → Q v H') : te σ H Q := hF Q hQ
theorem j_if (Pv : V → Hp → Prop) (hF : ∀ Q' : VK, (∀ v H', Pv v H' → Q' v H') → tIf tt ta tb σ H Q') (hQ : ∀ v H', Pv v H' → Q v H') : tIf tt ta tb σ H Q := hF Q hQ
theorem j_s {ts : TS} (M : L2.St → Hp → Prop) (hF : ∀ nx' : L2.St → Hp → Prop, (∀ σ' H', M σ' H' → nx' σ' H') → ts { D with nx := nx' } σ H) (hQ : ∀ σ' H', M σ' H' → D.nx σ' H') : ts D σ H := hF D.nx hQ
end
/-! ## loops -/
section
variable {K : PySem.W.Frag} {D : Ends} {σ : L2.St} {H : Hp} {tt : TT} {tb : TS} {g : TG} {x : V}
abbrev Wp (W : Nat → L2.St → Hp → Prop) (m : Nat) (σ : L2.St) (H : Hp) : Prop := W m σ H
theorem r_while (W : Nat → L2.St → Hp → Prop) (m : Nat) (w0 : W m σ H)
    (hs : ∀ m σ H, W m σ H → tt σ H fun b H1 => if b = true then ∃ N : L2.St → Hp → Prop, (∀ σ' H', N σ' H' → ∃ m', m' < m ∧ Wp W m' σ' H') ∧ tb { D with nx := N, ct := N, bk := D.nx } σ H1 else D.nx σ H1) :
    tWhile tt tb D σ H := ⟨W, ⟨m, w0⟩, hs⟩
theorem r_wb {D : (L2.St → Hp → Prop) → Ends} {W : Nat → L2.St → Hp → Prop} {m : Nat} (h : tb (D fun σ' H' => ∃ m', m' < m ∧ Wp W m' σ' H') σ H) :
    ∃ N : L2.St → Hp → Prop, (∀ σ' H', N σ' H' → ∃ m', m' < m ∧ Wp W m' σ' H') ∧ tb (D N) σ H := ⟨_, fun _ _ h => h, h⟩
theorem tru_int {i : Int} {R : Bool → Prop} (h : R (i != 0)) : ∃ k, TruV K (.int i) H k ∧ R k := ⟨_, rfl, h⟩
theorem tru_list {a : Addr} {xs : List V} {R : Bool → Prop} (hs : SqL K H a xs) (h : R (!xs.isEmpty)) : ∃ k, TruV K (.ref a) H k ∧ R k := ⟨_, .inl ⟨xs, hs, rfl⟩, h⟩
theorem tru_tup {a : Addr} {xs : List V} {R : Bool → Prop} (hs : SqT K H a xs) (h : R (!xs.isEmpty)) : ∃ k, TruV K (.ref a) H k ∧ R k := ⟨_, .inr (.inl ⟨xs, hs, rfl⟩), h⟩
theorem r_for1 {ta : TA} (h : ta σ H fun vs H1 => ∃ j : Int, vs = [.int j] ∧ -(2 ^ 62) ≤ j ∧ j < 2 ^ 62 ∧ tFor (fun _ H2 R => R (Itr 0 j.toNat) H2) g tb D σ H1) : tFor (iRng1 ta) g tb D σ H := h
theorem r_for2 {ta : TA} (h : ta σ H fun vs H1 => ∃ i j : Int, vs = [.int i, .int j] ∧ (-(2 ^ 62) ≤ i ∧ i < 2 ^ 62 ∧ -(2 ^ 62) ≤ j ∧ j < 2 ^ 62) ∧ tFor (fun _ H2 R => R (Itr i (j - i).toNat) H2) g tb D σ H1) : tFor (iRng2 ta) g tb D σ H := h
theorem r_forR {lo : Int} {n : Nat} (Pv : Nat → L2.St → Hp → Prop) (h0 : Pv 0 σ H)
    (hs : ∀ i σ H, i < n → Pv i σ H → g (.int (lo + i)) σ H fun σ2 H2 => tb { D with nx := Pv (i + 1), ct := Pv (i + 1), bk := D.nx } σ2 H2) (hd : ∀ σ H, Pv n σ H → D.nx σ H) :
    tFor (fun _ H2 R => R (Itr lo n) H2) g tb D σ H := for_range Pv h0 hs hd
theorem r_forL {te : TE} (h : te σ H fun x H1 => ∃ a, x = .ref a ∧ (∃ xs, SqL K H1 a xs) ∧ tFor (fun _ H2 R => R (Itl K a) H2) g tb D σ H1) : tFor (iList K te) g tb D σ H := h
theorem r_forT {te : TE} (h : te σ H fun x H1 => ∃ a, x = .ref a ∧ (∃ xs, SqT K H1 a xs) ∧ tFor (fun _ H2 R => R (Itt K a) H2) g tb D σ H1) : tFor (iTup K te) g tb D σ H := h
theorem r_forLs {a : Addr} (xs : List V) (Pv : Nat → L2.St → Hp → Prop) (h0 : Pv 0 σ H) (hl : ∀ i σ H, i ≤ xs.length → Pv i σ H → SqL K H a xs)
    (hs : ∀ i x σ H, xs[i]? = some x → Pv i σ H → g x σ H fun σ2 H2 => tb { D with nx := Pv (i + 1), ct := Pv (i + 1), bk := D.nx } σ2 H2) (hd : ∀ σ H, Pv xs.length σ H → D.nx σ H) :
    tFor (fun _ H2 R => R (Itl K a) H2) g tb D σ H := for_list Pv h0 hl hs hd
theorem r_forTs {a : Addr} (xs : List V) (Pv : Nat → L2.St → Hp → Prop) (h0 : Pv 0 σ H) (hl : ∀ i σ H, i ≤ xs.length → Pv i σ H → SqT K H a xs)
    (hs : ∀ i x σ H, xs[i]? = some x → Pv i σ H → g x σ H fun σ2 H2 => tb { D with nx := Pv (i + 1), ct := Pv (i + 1), bk := D.nx } σ2 H2) (hd : ∀ σ H, Pv xs.length σ H → D.nx σ H) :
    tFor (fun _ H2 R => R (Itt K a) H2) g tb D σ H := for_tup Pv h0 hl hs hd
/-! comprehensions -/
variable {te : TE} {vs : List Nat} {Q : VK}
theorem r_lcR1 {ta : TA} (h : ta σ H fun ws H1 => ∃ j : Int, ws = [.int j] ∧ -(2 ^ 62) ≤ j ∧ j < 2 ^ 62 ∧ tLc (fun _ H2 R => R (Itr 0 j.toNat) H2) g tt te vs σ H1 Q) : tLc (iRng1 ta) g tt te vs σ H Q := h
theorem r_lcR2 {ta : TA} (h : ta σ H fun ws H1 => ∃ i j : Int, ws = [.int i, .int j] ∧ (-(2 ^ 62) ≤ i ∧ i < 2 ^ 62 ∧ -(2 ^ 62) ≤ j ∧ j < 2 ^ 62) ∧ tLc (fun _ H2 R => R (Itr i (j - i).toNat) H2) g tt te vs σ H1 Q) : tLc (iRng2 ta) g tt te vs σ H Q := h
theorem r_lcL {tl : TE} (h : tl σ H fun x H1 => ∃ a, x = .ref a ∧ (∃ xs, SqL K H1 a xs) ∧ tLc (fun _ H2 R => R (Itl K a) H2) g tt te vs σ H1 Q) : tLc (iList K tl) g tt te vs σ H Q := h
theorem r_lcT {tl : TE} (h : tl σ H fun x H1 => ∃ a, x = .ref a ∧ (∃ xs, SqT K H1 a xs) ∧ tLc (fun _ H2 R => R (Itt K a) H2) g tt te vs σ H1 Q) : tLc (iTup K tl) g tt te vs σ H Q := h
theorem r_lcR {lo : Int} {n : Nat} (Pv : Addr → Nat → Hp → Prop) (h0 : ∀ D, H D = none → Pv D 0 (upd H D (.lst [])))
    (hs : ∀ D i H', H D = none → i < n → Pv D i H' → g (.int (lo + i)) (wipe σ vs) H' fun σ2 H2 => wipe σ2 vs = wipe σ vs ∧ tt σ2 H2 fun b H3 =>
      if b = true then te σ2 H3 fun y H4 => ∃ acc, H4 D = some (.lst acc) ∧ acc.length < sizeLine ∧ Pv D (i + 1) (upd H4 D (.lst (acc ++ [y]))) else Pv D (i + 1) H3)
    (hd : ∀ D H', H D = none → Pv D n H' → Q (.ref D) H') : tLc (fun _ H2 R => R (Itr lo n) H2) g tt te vs σ H Q :=
  fun D hD => lc_range (Pv D) (h0 D hD) (fun i H' hi p => hs D i H' hD hi p) (fun H' p => hd D H' hD p)
theorem r_lcLs {a : Addr} (xs : List V) (Pv : Addr → Nat → Hp → Prop) (h0 : ∀ D, H D = none → Pv D 0 (upd H D (.lst []))) (hl : ∀ D i H', H D = none → i ≤ xs.length → Pv D i H' → SqL K H' a xs)
    (hs : ∀ D i x H', H D = none → xs[i]? = some x → Pv D i H' → g x (wipe σ vs) H' fun σ2 H2 => wipe σ2 vs = wipe σ vs ∧ tt σ2 H2 fun b H3 =>
      if b = true then te σ2 H3 fun y H4 => ∃ acc, H4 D = some (.lst acc) ∧ acc.length < sizeLine ∧ Pv D (i + 1) (upd H4 D (.lst (acc ++ [y]))) else Pv D (i + 1) H3)
    (hd : ∀ D H', H D = none → Pv D xs.length H' → Q (.ref D) H') : tLc (fun _ H2 R => R (Itl K a) H2) g tt te vs σ H Q :=
  fun D hD => lc_list (Pv D) (h0 D hD) (fun i H' hi p => hl D i H' hD hi p) (fun i x H' hx p => hs D i x H' hD hx p) (fun H' p => hd D H' hD p)
theorem r_lcTs {a : Addr} (xs : List V) (Pv : Addr → Nat → Hp → Prop) (h0 : ∀ D, H D = none → Pv D 0 (upd H D (.lst []))) (hl : ∀ D i H', H D = none → i ≤ xs.length → Pv D i H' → SqT K H' a xs)
    (hs : ∀ D i x H', H D = none → xs[i]? = some x → Pv D i H' → g x (wipe σ vs) H' fun σ2 H2 => wipe σ2 vs = wipe σ vs ∧ tt σ2 H2 fun b H3 =>
      if b = true then te σ2 H3 fun y H4 => ∃ acc, H4 D = some (.lst acc) ∧ acc.length < sizeLine ∧ Pv D (i + 1) (upd H4 D (.lst (acc ++ [y]))) else Pv D (i + 1) H3)
    (hd : ∀ D H', H D = none → Pv D xs.length H' → Q (.ref D) H') : tLc (fun _ H2 R => R (Itt K a) H2) g tt te vs σ H Q :=
  fun D hD => lc_tup (Pv D) (h0 D hD) (fun i H' hi p => hl D i H' hD hi p) (fun i x H' hx p => hs D i x H' hD hx p) (fun H' p => hd D H' hD p)
end
end Vf

namespace Vf
open PySem PySem.Spec PyProof.Rows L2
/-! ## the law's source of numbers -/
theorem bits_mono {x y : Int} (h : x.natAbs ≤ y.natAbs) : Builtin.Int.intBits x ≤ Builtin.Int.intBits y := by
  by_cases z : y = 0
  · subst z
    have : x = 0 := by omega
    subst this
    exact Nat.le_refl _
  · have e : Builtin.Int.intBits y = y.natAbs.log2 + 1 := by
      unfold Builtin.Int.intBits
      rw [if_neg (by simpa using z)]
    rw [e]
    exact PyProof.Rows.intBits_le (Nat.lt_of_le_of_lt h Nat.lt_log2_self)
structure KegOk (a b c : Int) (n : Nat) : Prop where
  a0 : 0 ≤ a
  ab : Builtin.Int.intBits a ≤ 1048600
  b0 : 0 ≤ b
  bM : b < 2147482801
  c0 : 0 ≤ c
  cn : c ≤ n
def Keg (n : Nat) (k : Addr) (H : Hp) : Prop := ∃ a b c : Int, H k = some (.lst [.int a, .int b, .int c]) ∧ KegOk a b c n
theorem Keg.mono {n m : Nat} {k : Addr} {H : Hp} (h : Keg n k H) (l : n ≤ m) : Keg m k H := by
  obtain ⟨a, b, c, e, o⟩ := h
  exact ⟨a, b, c, e, o.a0, o.ab, o.b0, o.bM, o.c0, by have := o.cn; omega⟩
theorem Keg.same {n : Nat} {k : Addr} {H H' : Hp} (h : Keg n k H) (s : Same H H') : Keg n k H' := by
  obtain ⟨a, b, c, e, o⟩ := h
  exact ⟨a, b, c, s _ _ e, o⟩
theorem Keg.new {n : Nat} {k p : Addr} {H : Hp} {o : HO} (h : Keg n k H) (hp : H p = none) : Keg n k (upd H p o) := h.same (Same.new hp)
theorem Keg.ne {n : Nat} {k p : Addr} {H : Hp} (h : Keg n k H) (hp : H p = none) : p ≠ k := by
  obtain ⟨a, b, c, e, o⟩ := h
  exact (ne_of_none e hp).symm
theorem Keg.none {n : Nat} {k q : Addr} {H H' : Hp} (h : Keg n k H') (e : Kx k H H') (hq : H' q = Option.none) : H q = Option.none := by
  obtain ⟨a, b, c, z, o⟩ := h
  exact none_kx e z hq
def sp_tap : Sp := fun vs H Q _ => ∃ (k : Addr) (u : Int) (n : Nat), vs = [.ref k, .int u] ∧ Keg n k H ∧ n ≤ 2 ^ 60 ∧ 0 < u ∧ u < 2 ^ 62 ∧
  ∀ f H', 0 ≤ f → f < u → Kx k H H' → Keg (n + 1) k H' → Q (.int f) H'
theorem i_tap {k : Addr} {u : Int} {H : Hp} {Q : VK} {E : XK} (n : Nat) (hk : Keg n k H) (hn : n ≤ 2 ^ 60) (h0 : 0 < u) (h1 : u < 2 ^ 62)
    (q : ∀ f H', 0 ≤ f → f < u → Kx k H H' → Keg (n + 1) k H' → Q (.int f) H') : sp_tap [.ref k, .int u] H Q E := ⟨k, u, n, rfl, hk, hn, h0, h1, q⟩
def sp_any (K : PySem.W.Frag) : Sp := fun vs H Q _ => ∃ (k t : Addr) (xs : List V) (n : Nat), vs = [.ref k, .ref t] ∧ Keg n k H ∧ n ≤ 2 ^ 60 ∧ t ≠ k ∧ SqL K H t xs ∧ 0 < xs.length ∧ xs.length ≤ 100000 ∧
  ∀ (i : Nat) (x : V) H', xs[i]? = some x → Kx k H H' → Keg (n + 1) k H' → Q x H'
theorem i_any {K : PySem.W.Frag} {k t : Addr} {H : Hp} {Q : VK} {E : XK} (n : Nat) (xs : List V) (hk : Keg n k H) (hn : n ≤ 2 ^ 60) (ht : t ≠ k) (hs : SqL K H t xs) (h0 : 0 < xs.length) (h1 : xs.length ≤ 100000)
    (q : ∀ (i : Nat) x H', xs[i]? = some x → Kx k H H' → Keg (n + 1) k H' → Q x H') : sp_any K [.ref k, .ref t] H Q E := ⟨k, t, xs, n, rfl, hk, hn, ht, hs, h0, h1, q⟩
/-- the script's ints are of at most 2 ^ 20 bits -/
def Script (ns : List Int) : Prop := ns.length ≤ 63 ∧ ∀ z ∈ ns, Builtin.Int.intBits z ≤ 1048576
def sp_keg (K : PySem.W.Frag) : Sp := fun vs H Q _ => ∃ (c : Addr) (ns : List Int) (j : Nat), vs = [.ref c, .int (j : Int)] ∧ SqL K H c (ns.map V.int) ∧ Script ns ∧ j ≤ 1000 ∧
  ∀ p H', Same H H' → H p = none → Keg 1 p H' → Q (.ref p) H'
theorem i_keg {K : PySem.W.Frag} {c : Addr} {H : Hp} {Q : VK} {E : XK} (ns : List Int) (j : Nat) (hs : SqL K H c (ns.map V.int)) (hn : Script ns) (hj : j ≤ 1000)
    (q : ∀ p H', Same H H' → H p = none → Keg 1 p H' → Q (.ref p) H') : sp_keg K [.ref c, .int (j : Int)] H Q E := ⟨c, ns, j, rfl, hs, hn, hj, q⟩
/-- a product of two ints of so many bits at most -/
theorem bit_mul {i j : Int} {a b : Nat} (ha : Builtin.Int.intBits i ≤ a) (hb : Builtin.Int.intBits j ≤ b) (h : a + b ≤ 134217728) : CMulX i j := by
  unfold CMulX
  omega
theorem bit_of {i : Int} {a : Nat} (h : i.natAbs < 2 ^ a) : Builtin.Int.intBits i ≤ a := PyProof.Rows.intBits_le h
theorem divp_of {i j : Int} (h : 0 < j) (hj : j < 2 ^ 62) : CDivP i j :=
  ⟨h, PyProof.noPylong_of_log2 (Nat.lt_of_lt_of_le (log_lim (k := 62) (by omega) (by decide)) (by decide))⟩
theorem divw_of {i j : Int} (h : 0 < j) (hj : j < 2 ^ 62) : CDivW i j := wide_div (b := 62) h (by omega) (by decide) (by decide)
end Vf

namespace Vf
open PySem PySem.Spec PyProof.Rows L2
/-! ## data: what repr of it is like, and == -/
mutual
/-- no text, no dict; each number of fewer than 1920 bits -/
def tame : PyData → Bool
  | .none | .bool _ => true
  | .int i => decide (i.natAbs.log2 < 1920)
  | .list xs | .tuple xs => tameAll xs
  | _ => false
def tameAll : List PyData → Bool
  | [] => true
  | x :: xs => tame x && tameAll xs
end
mutual
def room : PyData → Nat
  | .list xs | .tuple xs => 4 + roomAll xs
  | _ => 2000
def roomAll : List PyData → Nat
  | [] => 0
  | x :: xs => room x + 2 + roomAll xs
end
theorem from_le : ∀ (ts : List Str) (k : Nat) (acc : Str), (textFrom k acc ts).length ≤ acc.length + piled ts
  | [], _, _ => Nat.le_add_right _ _
  | t :: r, k, acc => by
    refine Nat.le_trans (from_le r (k + 1) _) ?_
    rw [strLen_append, strLen_append, piled_cons]
    have e : (Str.ofString (if k > 0 then ", " else "" : String)).length ≤ 2 := by
      split
      · decide +kernel
      · decide +kernel
    omega
theorem listText_le (ts : List Str) : (listText ts).length ≤ 4 + piled ts := by
  show (textFrom 0 "[" ts ++ "]").length ≤ _
  rw [strLen_append]
  have h := from_le ts 0 "["
  have e1 : ("[" : Str).length = 1 := by decide +kernel
  have e2 : ("]" : Str).length = 1 := by decide +kernel
  omega
theorem tupleText_le (ts : List Str) : (tupleText ts).length ≤ 4 + piled ts := by
  unfold tupleText
  rw [strLen_append, strLen_append]
  have e1 : ("(" : Str).length = 1 := by decide +kernel
  have e2 : (if (ts.length == 1) = true then ",)" else ")" : String) = ",)" ∨ (if (ts.length == 1) = true then ",)" else ")" : String) = ")" := by split <;> simp
  have e3 : (Str.ofString (if (ts.length == 1) = true then ",)" else ")" : String)).length ≤ 2 := by
    rcases e2 with e | e <;> rw [e] <;> decide +kernel
  have e4 : (Str.join ", " ts).length ≤ piled ts := by
    by_cases z : ts = []
    · subst z; decide +kernel
    · have := join_length_add ts z; omega
  show ("(" : Str).length + _ + (Str.ofString _).length ≤ _
  omega
mutual
theorem shown_le : ∀ d : PyData, tame d = true → d.showable = true ∧ d.hasDict = false ∧ (d.shown).length ≤ room d
  | .none, _ => ⟨rfl, rfl, by show ("None" : Str).length ≤ 2000; decide +kernel⟩
  | .bool b, _ => ⟨rfl, rfl, by cases b <;> decide +kernel⟩
  | .int i, h => by
    have h1 : i.natAbs.log2 < 1920 := of_decide_eq_true h
    refine ⟨by simpa [PyData.showable] using h1, rfl, ?_⟩
    have e := int_text_length_le (k := 1920) (by decide) h1
    show (Str.ofString (toString i)).length ≤ 2000
    rw [PySem.ofString_length]
    omega
  | .str _, h => by cases h
  | .dict _, h => by cases h
  | .list xs, h => by
    obtain ⟨a, b, c⟩ := shown_leAll xs h
    refine ⟨a, b, ?_⟩
    have := listText_le (PyData.shownAll xs)
    show (listText (PyData.shownAll xs)).length ≤ 4 + roomAll xs
    omega
  | .tuple xs, h => by
    obtain ⟨a, b, c⟩ := shown_leAll xs h
    refine ⟨a, b, ?_⟩
    have := tupleText_le (PyData.shownAll xs)
    show (tupleText (PyData.shownAll xs)).length ≤ 4 + roomAll xs
    omega
theorem shown_leAll : ∀ ds : List PyData, tameAll ds = true → PyData.showableAll ds = true ∧ PyData.hasDictAll ds = false ∧ piled (PyData.shownAll ds) ≤ roomAll ds
  | [], _ => ⟨rfl, rfl, Nat.le_refl _⟩
  | d :: ds, h => by
    have h2 : (tame d && tameAll ds) = true := h
    rw [Bool.and_eq_true] at h2
    obtain ⟨a, b, c⟩ := shown_le d h2.1
    obtain ⟨a2, b2, c2⟩ := shown_leAll ds h2.2
    refine ⟨by simp [PyData.showableAll, a, a2], by simp [PyData.hasDictAll, b, b2], ?_⟩
    show piled (d.shown :: PyData.shownAll ds) ≤ room d + 2 + roomAll ds
    rw [piled_cons]
    omega
end
theorem tameInts : ∀ ns : List Int, (∀ n ∈ ns, n.natAbs < 2 ^ 1900) → tameAll (ns.map PyData.int) = true
  | [], _ => rfl
  | n :: ns, h => by
    show (tame (.int n) && tameAll (ns.map PyData.int)) = true
    rw [tameInts ns fun m hm => h m (List.mem_cons_of_mem _ hm), Bool.and_true]
    refine decide_eq_true (log_lim (Nat.lt_of_lt_of_le (h n List.mem_cons_self) (Nat.pow_le_pow_right (by decide) (by decide))) (by decide))
theorem roomInts : ∀ ns : List Int, roomAll (ns.map PyData.int) = 2002 * ns.length
  | [] => rfl
  | n :: ns => by
    show 2000 + 2 + roomAll (ns.map PyData.int) = 2002 * (ns.length + 1)
    rw [roomInts ns]; omega
theorem depthInts : ∀ ns : List Int, PyData.depthAll (ns.map PyData.int) = 0
  | [] => rfl
  | n :: ns => by
    show max (PyData.depth (.int n)) (PyData.depthAll (ns.map PyData.int)) = 0
    rw [depthInts ns]; rfl
/-- what repr gives of a list of ints -/
def intsD (ns : List Int) : PyData := .list (ns.map PyData.int)
section
variable {K : PySem.W.Frag} {H : Hp} {Q : VK}
theorem r_reprD {a : Addr} (d : PyData) (hd : Dp K H (.ref a) d) (ht : tame d = true) (hp : d.depth ≤ 40) (hz : room d ≤ 100000) (h : Q (.str d.shown) H) : rRepr K [.ref a] H Q := by
  obtain ⟨h1, _, h2⟩ := shown_le d ht
  exact r_repr hd h1 hp (small (Nat.le_trans h2 hz)) h
theorem Dp.intsD {a : Addr} {ns : List Int} (h : SqL K H a (ns.map V.int)) : Dp K H (.ref a) (intsD ns) := .lst h (DpAll.ints ns)
theorem r_reprI {a : Addr} (ns : List Int) (hs : SqL K H a (ns.map V.int)) (hb : ∀ n ∈ ns, n.natAbs < 2 ^ 1900) (hl : ns.length ≤ 40) (h : Q (.str (intsD ns).shown) H) : rRepr K [.ref a] H Q := by
  refine r_reprD (intsD ns) (Dp.intsD hs) (tameInts ns hb) ?_ ?_ h
  · show PyData.depthAll (ns.map PyData.int) + 1 ≤ 40
    rw [depthInts]; decide
  · show 4 + roomAll (ns.map PyData.int) ≤ 100000
    rw [roomInts]; omega
/-- a list times a number -/
theorem r_rep {a : Addr} {xs : List V} {k : Int} (hl : H a = some (.lst xs)) (h0 : 0 ≤ k) (h1 : k ≤ 1000) (hx : xs.length ≤ 1000) (h : ∀ p, H p = none → Q (.ref p) (upd H p (.lst (List.replicate k.toNat xs).flatten))) : rRep (.ref a) (.int k) H Q := by
  refine ⟨a, k, xs, rfl, rfl, hl, by omega, by omega, ?_, h⟩
  have : xs.length * k.toNat ≤ 1000 * 1000 := Nat.mul_le_mul hx (by omega)
  exact Nat.le_trans this (by decide)
theorem eqvInts : ∀ ns ms : List Int, PyData.eqvAll (ns.map PyData.int) (ms.map PyData.int) = decide (ns = ms)
  | [], [] => rfl
  | [], _ :: _ => rfl
  | _ :: _, [] => rfl
  | n :: ns, m :: ms => by
    show (n == m && PyData.eqvAll (ns.map PyData.int) (ms.map PyData.int)) = _
    rw [eqvInts ns ms]
    by_cases e : n = m
    · subst e
      by_cases e2 : ns = ms
      · subst e2; simp
      · simp [e2]
    · simp [e]
theorem canInts : ∀ ns : List Int, PyData.canLayAll0 (ns.map PyData.int) = true
  | [] => rfl
  | n :: ns => by
    show (PyData.canLay0 (.int n) && PyData.canLayAll0 (ns.map PyData.int)) = true
    rw [canInts ns]; rfl
theorem shapedInts (ns : List Int) : SeqAt.shaped (intsD ns) = true := by
  unfold SeqAt.shaped
  rw [Bool.and_eq_true]
  refine ⟨canInts ns, decide_eq_true ?_⟩
  show PyData.depthAll (ns.map PyData.int) + 1 ≤ 64
  rw [depthInts]; decide
/-- two lists of ints compared -/
theorem r_neI {a b : Addr} (ns ms : List Int) (h1 : SqL K H a (ns.map V.int)) (h2 : SqL K H b (ms.map V.int)) (h : Q (.bl (!decide (ns = ms))) H) : rNeD K (.ref a) (.ref b) H Q := by
  refine r_neD (Dp.intsD h1) (Dp.intsD h2) (shapedInts ns) (shapedInts ms) ?_
  rw [show PyData.eqv (intsD ns) (intsD ms) = decide (ns = ms) from eqvInts ns ms]
  exact h
theorem r_eqI {a b : Addr} (ns ms : List Int) (h1 : SqL K H a (ns.map V.int)) (h2 : SqL K H b (ms.map V.int)) (h : Q (.bl (decide (ns = ms))) H) : rEqD K (.ref a) (.ref b) H Q := by
  refine r_eqD (Dp.intsD h1) (Dp.intsD h2) (shapedInts ns) (shapedInts ms) ?_
  rw [show PyData.eqv (intsD ns) (intsD ms) = decide (ns = ms) from eqvInts ns ms]
  exact h
end
end Vf

namespace Vf
open PySem PySem.Spec PyProof.Rows L2
/-! ## the law's own call, from the promise of its def -/
section
variable {P : Program} {w : World} {K : PySem.W.Frag} {mg mb : Str → Option Value} {k : Nat} {fa a : Addr} {st : Stmt} {x y : Str} {sp : Sp} {s₁ : Shared} {vs : List Value} {ns : List Int}
/-- what the whole call is to come to -/
abbrev Told (s₁ : Shared) (r : Result) (s' : Shared) : Prop :=
  r = .ok (.ret (.bool true)) ∧ OldK s₁.heap s'.heap ∧ s'.os = s₁.os ∧ AllBare s'.gens
theorem law_g (KX : K.In s₁.heap) (hns : s₁.heap.Ns mainGlobals mg) (hb : s₁.heap.Ns builtinsNs mb) (hbb : ∀ z : Str, z ≠ "__name__" → mb z = bootBuiltins z)
    (hlim : s₁.heap.NoLimit) (hg : s₁.gens = #[]) (ha : s₁.heap.get? a = some { cls := .type "list", data := .seq vs.toArray }) (hi : IntsAre vs ns) (hl : ns.length ≤ sizeLine)
    (hr : Room k callerA) (hfa : mg x = some (.ref fa)) (F : ∀ base : Heap, K.In base → base.Ns mainGlobals mg → Ok P w K mg base k x st [y] sp)
    (B : ∀ f fd, L2.Fun K x x st f fd → L2.Binds K fd [y] [])
    (hsp : ∀ H : Hp, L2.Only H → SqL K H a (ns.map V.int) → sp [.ref a] H (fun v _ => v = .bl true) fun _ _ _ => False) :
    codeAny (model P w) callerA (.call (.ref fa) ⟨[.ref a], []⟩) (Told s₁) s₁ := by
  have rv := vals_ints hi
  -- over a heap that tracks the script alone, or nothing
  have run : ∀ H : Hp, L2.Only H → SqL K H a (ns.map V.int) → HOk P w H s₁.heap → (∀ b o, H b = some o → b = a ∧ K.lookup a = none) →
      codeAny (model P w) callerA (.call (.ref fa) ⟨[.ref a], []⟩) (Told s₁) s₁ := by
    intro H hO hS hok only
    -- the base: all that H does not track
    have dictNone : ∀ {b : Addr} {o : Obj} {es : Array DictEntry} {ep : Nat}, s₁.heap.get? b = some o → o.data = .dict es ep → H b = none := by
      intro b o es ep e d
      rcases hz : H b with _ | u
      · rfl
      · obtain ⟨rfl, _⟩ := only b u hz
        rw [ha] at e
        injection e with e
        rw [← e] at d
        exact absurd d (by intro z; injection z)
    have space : ∀ {b : Addr} {m : Str → Option Value}, s₁.heap.Ns b m → (hidT s₁.heap H).Ns b m := by
      rintro b m ⟨o, es, ep, e, d, rest⟩
      exact ⟨o, es, ep, hidT_get e (dictNone e d), d, rest⟩
    have kin : K.In (hidT s₁.heap H) := by
      intro b o e
      refine hidT_get (KX b o e) ?_
      rcases hz : H b with _ | u
      · rfl
      · obtain ⟨rfl, n⟩ := only b u hz
        rw [n] at e
        cases e
    obtain ⟨mc, hc1, hc2⟩ := hlim
    have env : Env0 P w K mg (hidT s₁.heap H) callerA [] s₁ H :=
      { frames := rfl, mod := ⟨kin, space hns, ⟨mb, space hb, hbb⟩, ⟨mc, space hc1, hc2⟩⟩, bs := fun b o e => of_hidT e, bsz := Nat.le_of_eq (hidT_size _ _)
        funs := trivial, frf := fun b z => absurd (show b ∈ ([] : List Addr) from z) List.not_mem_nil, hok := hok, bare := .of_eq hg }
    obtain ⟨⟨f, fd, G, hm, go⟩, _⟩ := F _ kin (space hns)
    have ef : f = fa := by
      rw [hfa] at hm
      injection hm with hm
      injection hm with hm
      exact hm.symm
    subst ef
    have bind := B f fd G s₁ [.ref a] KX rfl
    rw [List.append_nil] at bind
    refine codeAny_mono (go callerA [] s₁ H ⟨[.ref a], []⟩ [.ref a] [.ref a] (fun v _ => v = .bl true) (fun _ _ _ => False) rfl hr env bind (.cons rfl .nil) (hsp H hO hS)) ?_
    intro r s' h
    rcases r with e | fl
    · obtain ⟨_, _, _, _, _, _, _, _, _, _, _, _, z⟩ := h
      exact z.elim
    · rcases fl with _ | _ | _ | u
      · exact False.elim h
      · exact False.elim h
      · exact False.elim h
      · obtain ⟨v, H', os, bare, un, hok', rr, q⟩ := h
        have q2 : v = .bl true := q
        subst q2
        have eu : u = Value.bool true := rr
        subst eu
        refine ⟨rfl, OldK.of_keep (fun b o e => ?_), os, bare⟩
        rcases hz : H b with _ | u
        · exact un.keep b o e hz (fun z => absurd (show b ∈ ([] : List Addr) from z) List.not_mem_nil) List.not_mem_nil
        · rcases hO b with z | ⟨ob, xs, z⟩
          · rw [hz] at z; cases z
          · have e1 := (hok b _ z).1
            have e2 := (hok' b _ (un.frzs b ob _ z)).1
            rw [e] at e1
            rw [e2, e1]
  rcases hk : K.lookup a with _ | o
  · -- the script is no object of the module: it is tracked, as a locked list
    let sc : Obj := { cls := .type "list", data := .seq vs.toArray }
    let H : Hp := fun b => if b = a then some (.frz sc (.lst (ns.map V.int))) else none
    have at_ : H a = some (.frz sc (.lst (ns.map V.int))) := if_pos rfl
    have off : ∀ b, b ≠ a → H b = none := fun b n => if_neg n
    have here : ∀ b o, H b = some o → b = a := fun b o e => by
      by_cases n : b = a
      · exact n
      · rw [off b n] at e; cases e
    refine run H (fun b => ?_) (Or.inl (Or.inr ⟨sc, at_⟩)) (fun b o e => ?_) (fun b o e => ⟨here b o e, hk⟩)
    · by_cases n : b = a
      · subst n; exact Or.inr ⟨_, _, at_⟩
      · exact Or.inl (off b n)
    · have n := here b o e
      subst n
      rw [at_] at e
      injection e with e
      subst e
      exact ⟨ha, by rw [List.length_map]; exact hl, vs, _, rv, ha⟩
  · -- it is one
    have e := KX a o hk
    rw [ha] at e
    injection e with e
    subst e
    refine run (fun _ => none) (fun _ => Or.inl rfl) (Or.inr ⟨_, vs.toArray, _, hk, rfl, rfl, rfl, ?_, ?_⟩) (fun b u z => ?_) (fun b u z => ?_)
    · rw [List.size_toArray, hi.length]; exact hl
    · simpa using rv
    · cases (show (none : Option HO) = some u from z)
    · cases (show (none : Option HO) = some u from z)
end
/-- the end of a law: the promise of its def, with the script's bits told -/
theorem walk_g {l : PySem.W.OpenLaw} {n k : Nat} {q : Program} {loose : List Str} {XP : (Str → Option Value) → Heap → Prop} {YP : World → Heap → Prop} {d : DefRec} {K : Params → PySem.W.Frag} {sp : PySem.W.Frag → Sp} {y : Str} {st : Stmt}
    (hn : l.most = some n) (hn2 : n ≤ sizeLine) (hdf : d.params.defaults = []) (hr : Room k callerA) (hY : ∀ (w : World) (h : Heap), YP w h → (K w.params).In h)
    (F : ∀ (w : World) (mg : Str → Option Value) (h : Heap), (K w.params).In h → h.Ns mainGlobals mg → ∀ base : Heap, (K w.params).In base → base.Ns mainGlobals mg → Ok l.prog w (K w.params) mg base k d.name st [y] (sp (K w.params)))
    (B : ∀ (w : World) f fd, L2.Fun (K w.params) d.name d.name st f fd → L2.Binds (K w.params) fd [y] [])
    (hsp : ∀ (w : World) (H : Hp) (a : Addr) (ns : List Int), ns.length ≤ n → (∀ z ∈ ns, Builtin.Int.intBits z ≤ 1048576) → SqL (K w.params) H a (ns.map V.int) → sp (K w.params) [.ref a] H (fun v _ => v = .bl true) fun _ _ _ => False) :
    PySem.W.WalkO q loose XP YP l.row.toRowW d [] (fun f vs => PySem.call f vs) := by
  refine Att.attach_callB hn hdf fun w s₀ s₁ mg mb fa o pm cd doc a vs ns G Y ho hd hcd hmg hobj hints hlen hbits hg => ?_
  have KX := hY w _ Y
  exact law_g KX G.T.g G.T.b G.T.builtins G.T.nolimit hg hobj hints (Nat.le_trans hlen hn2) hr hmg (F w mg _ KX G.T.g) (B w) fun H hO hS => hsp w H a ns hlen hbits hS
end Vf

namespace Vf
open PySem PySem.Spec PyProof.Rows L2
/-! ## enumerate(t), t a tuple -/
section
open AutoSeq1 (wpAny_loadPart')
/-- what enumerate makes of a tuple: its iterator, then the object that counts -/
def enT (h : Heap) (a : Addr) : Heap := h.push { cls := .type "tuple_iterator", data := .fields #[.ref a, .int 0 0] }
def enE (h : Heap) : Obj := { cls := .type "enumerate", data := .fields #[.none, .bool false, .ref h.objs.size, rawInt 0, .none, .none] }
theorem meets_enT (a : Addr) (items : Array Value) (n : Nat) (dct : Option Addr) (sl : Array (Option Value)) :
    Meets (Builtin.«enumerate.__new__» ⟨[.type "enumerate", .ref a], []⟩)
      (fun _ R s => s.heap.get? a = some { cls := .type "tuple", dict := dct, data := .seq items n, slots := sl } ∧
        R (.ok (.ret (.ref (enT s.heap a).objs.size))) { s with heap := (enT s.heap a).push (enE s.heap) }) :=
  .of_wp fun prog w A R s h => by
    obtain ⟨hp, g, d, tk, os⟩ := s
    obtain ⟨ho, h⟩ := h
    have sub := sub_enumerate
    have tup : Heap.IsTuple (Shared.heap ⟨hp, g, d, tk, os⟩) a items := ⟨_, ho, rfl, n, rfl⟩
    wp_walk using wpAny_loadPart' ho
    refine wpAny_stack_any fun st => wpAny_pure ?_
    split
    · rename_i c _ _ _ _ _
      rcases (c == Value.type "enumerate") with _ | _
      · wp_walk using wpAny_loadPart' ho, wpAny_pyIter_tuple tup
        exact ⟨_, rfl, h⟩
      · wp_walk using wpAny_loadPart' ho, wpAny_pyIter_tuple tup
        exact ⟨_, rfl, h⟩
    · wp_walk using wpAny_loadPart' ho, wpAny_pyIter_tuple tup
      exact ⟨_, rfl, h⟩
end
section
variable {prog : Program} {w : World} {A : Around} {E : Value → Shared → Prop} {s : Shared}
theorem call_enT {a : Addr} {items : Array Value} {Q : Value → Shared → Prop} (tup : s.heap.IsTuple a items)
    (h : ∀ h', IsEnum h' (s.heap.objs.size + 1) s.heap.objs.size 0 .none → h'.IsTupleIter s.heap.objs.size a 0 →
      (∀ b o, s.heap.get? b = some o → h'.get? b = some o) → Q (.ref (s.heap.objs.size + 1)) { s with heap := h' }) :
    wpAny (model prog w) A (call (.type "enumerate") [.ref a]) Q E s := by
  obtain ⟨⟨c, dct, dt, sl⟩, ho, hc, n, hd⟩ := tup
  cases (show c = .type "tuple" from hc)
  cases (show dt = .seq items n from hd)
  have sz : (enT s.heap a).objs.size = s.heap.objs.size + 1 := Heap.size_push ..
  have it0 : (enT s.heap a).get? s.heap.objs.size = some { cls := .type "tuple_iterator", data := .fields #[.ref a, .int 0 0] } := Heap.get?_push_size _ rfl
  have en0 : ((enT s.heap a).push (enE s.heap)).get? (s.heap.objs.size + 1) = some (enE s.heap) := by
    rw [← sz]
    exact Heap.get?_push_size _ rfl
  refine callType_new F.called_enumerate (by decide) (F.typeCall_enumerate_1 _) (F.newCall_enumerate_1 _)
    (fun obj => F.args_object_init_2 obj _) F.entry_enumerate_new (meets_enT a items n dct sl) ⟨ho, ?_⟩
  show _ ∧ _
  rw [sz]
  exact ⟨⟨_, en0, rfl⟩, h _ en0 ⟨_, Heap.get?_push_of_some _ it0, rfl, rfl⟩ fun b o e => Heap.get?_push_of_some _ (Heap.get?_push_of_some _ e)⟩
end
theorem drawsT {prog : Program} {w : World} {A : Around} (hh : A.handled = none) (it a : Addr) (ne : a ≠ it) (items : Array Value) :
    Draws prog w A it [it, a] items.size (fun i v => items[i]? = some v) (fun i h => h.IsTupleIter it a i ∧ h.IsTuple a items) where
  live := fun i h st => by
    obtain ⟨⟨o, ho, _⟩, _⟩ := st
    exact ⟨o, ho⟩
  frame := fun i h h' st k => by
    obtain ⟨⟨o, ho, r⟩, ⟨o2, ho2, r2⟩⟩ := st
    exact ⟨⟨o, k it (by simp) o ho, r⟩, ⟨o2, k a (by simp) o2 ho2, r2⟩⟩
  item := fun i s Q E hi st q => RZ.nextOf_tuple_item st.1 st.2 (x := items[i]) (by simp [hi]) fun h' hit sb =>
    q _ h' s.toks (by simp [hi]) ⟨hit, by
      obtain ⟨o2, ho2, r2⟩ := st.2
      exact ⟨o2, (sb.2 a ne).trans ho2, r2⟩⟩ sb
  done := fun s Q E st q => RZ.nextOf_tuple_end hh st.1 st.2 (by simp) q
/-- the tuple at a, each item in a new pair with its place -/
def ItE (K : PySem.W.Frag) (a : Addr) : It :=
  ⟨fun i H => ∃ (xs : List V) (x : V), SqT K H a xs ∧ xs[i]? = some x,
   fun i H v H' => ∃ T x, v = .ref T ∧ H T = none ∧ H' = upd H T (.tup [.int (i : Nat), x]) ∧ ∀ xs, SqT K H a xs → xs[i]? = some x,
   fun i H => ∃ xs : List V, SqT K H a xs ∧ xs.length ≤ i⟩
def EnAt (a e it : Addr) (i : Nat) (h : Heap) : Prop := (∃ old, IsEnum h e it ((i : Nat) : Int) old) ∧ h.IsTupleIter it a i ∧ e ≠ it ∧ e ≠ a ∧ it ≠ a
theorem turn_enT {P : Program} {w : World} {K : PySem.W.Frag} {elts : List Expr} {kk : Nat} {tpos : Pos} (a e it : Addr) :
    Turn P w K (.Tuple elts kk tpos) (ItE K a) [e, it] e (EnAt a e it) where
  mem := List.mem_cons_self
  obj := fun i h st b hb => by
    obtain ⟨⟨old, he⟩, ⟨o, ho, hc, hd⟩, _⟩ := st
    rcases List.mem_cons.mp hb with rfl | hb
    · exact ⟨_, he, fun v q => nomatch q⟩
    · rw [List.mem_singleton.mp hb]
      exact ⟨o, ho, fun v q => by rw [hd] at q; cases q⟩
  keep := fun i h h' st k => by
    obtain ⟨⟨old, he⟩, ⟨o, ho, r⟩, n⟩ := st
    exact ⟨⟨old, k e (by simp) _ he⟩, ⟨o, k it (by simp) _ ho, r⟩, n⟩
  item := by
    intro X hP hw hK hc i pins s σ H E I hf st hg
    subst hP hw hK
    obtain ⟨⟨old, he⟩, hit, n1, n2, n3⟩ := st
    obtain ⟨xs, x, hq, hx⟩ := hg
    obtain ⟨its, rv, p, hz⟩ := I.tuple hq
    obtain ⟨u, hu, ru⟩ := rv.get hx
    have tup : s.heap.IsTuple a its.toArray := p
    have hel := Heap.lt_size he
    have hil : it < s.heap.objs.size := by
      obtain ⟨_, q, _⟩ := hit
      exact Heap.lt_size q
    have hi : i < its.toArray.size := by
      rw [List.size_toArray]
      exact (List.getElem?_eq_some_iff.mp hu).1
    refine wpAny_pyNext_enum_itemD (drawsT (A := X.A.in1) (I.ok.hd hc) it a n3.symm its.toArray) he ⟨hit, tup⟩ hi n1 (by simp [n1, n2]) fun y h' tk hy ho st' hT hsz hk => ?_
    have eyu : y = u := by
      have h1 : its[i]? = some y := by simpa using hy
      rw [hu] at h1
      exact (Option.some.inj h1).symm
    subst eyu
    refine ⟨_, rfl, wpAny_letOwnedTupleGo_enum (s := { s with heap := h', toks := tk + 1 }) ho fun h'' he' sb => ?_⟩
    have hT2 : h''.get? s.heap.objs.size = some { cls := .type "tuple", data := .seq #[.int i tk, y] } := (sb.2 _ (Nat.ne_of_gt hel)).trans hT
    have new : ObjOk X.prog X.w (upd H s.heap.objs.size (.tup [.int (i : Nat), x])) h'' s.heap.objs.size (.tup [.int (i : Nat), x]) :=
      ⟨by show 2 ≤ sizeLine; decide, [.int i tk, y], .cons ⟨_, rfl⟩ (.cons ru .nil), ⟨_, hT2, rfl, _, rfl⟩⟩
    have stay : ∀ b ob, b ∉ [e, it] → s.heap.get? b = some ob → h''.get? b = some ob := fun b ob hb q =>
      (sb.2 b (fun z => hb (by simp [z]))).trans (hk b ob (fun z => hb (by simp [z])) (fun z => hb (by simp [z])) q)
    have I1 := I.turnedNew (t' := tk + 1) (ch := [e, it]) stay hf (Nat.le_refl _) new
    refine ⟨.ref s.heap.objs.size, _, I1, rfl, ⟨_, x, rfl, I.hok.fresh (Nat.le_refl _), rfl, fun ys hy2 => by rw [I.tuple_inj hy2 hq]; exact hx⟩, ⟨⟨y, ?_⟩, ?_, n1, n2, n3⟩, fun b hb => ?_⟩
    · rw [show ((i + 1 : Nat) : Int) = (i : Int) + 1 by omega]
      exact he'
    · obtain ⟨o, ho2, r⟩ := st'.1
      exact ⟨o, (sb.2 it n1.symm).trans ho2, r⟩
    · have lt : b < s.heap.objs.size := by
        rcases List.mem_cons.mp hb with rfl | hb
        · exact hel
        · rw [List.mem_singleton.mp hb]; exact hil
      rw [upd_ne (Nat.ne_of_lt lt)]
      exact (hf b hb).1
  done := by
    intro X hP hw hK hc i pins s σ H E I hf st hg
    subst hP hw hK
    obtain ⟨⟨old, he⟩, hit, n1, n2, n3⟩ := st
    obtain ⟨xs, hq, hx⟩ := hg
    obtain ⟨its, rv, p, hz⟩ := I.tuple hq
    obtain ⟨f0, f1, f2, f3, f4, f5⟩ := hf it (by simp)
    have tup : s.heap.IsTuple a its.toArray := p
    have hT : s.TypeIs (.ref e) "enumerate" := ⟨_, he, rfl⟩
    have hl := rv.length
    unfold pyNext
    refine wpAny_bind (wpAny_attempt (wpAny_callSpecial?_slot (name := Str.ofString "__next__") hT F.slot_enumerate_next
      (wpAny_call_entry F.slot_enumerate_next hT F.entry_enumerate_next ?_ (F.args_enumerate_next_1 _))))
    show wpAny _ _ (field (.ref e) 2 >>= _) _ _ _
    refine wpAny_bind (wpAny_field he rfl (x := .ref it) rfl ?_)
    refine wpAny_bind (RZ.nextOf_tuple_end (A := X.A.in1) (I.ok.hd hc) hit tup (by simp; omega) fun h' z hb hz2 => ?_)
    obtain ⟨o, ho, hcl⟩ := hz2
    refine wpAny_bind (wpAny_isInstance (T := "StopIteration") (b := true) ⟨o, ho, hcl⟩ isSubtype_stop ?_)
    exact wpAny_pure ⟨rfl, I.turned (t' := s.toks) (fun b o hb2 q => hb b o hb2 q) f0 f1 f3 f4 f5⟩
  self := fun A i s Q E st h => by
    obtain ⟨⟨_, he⟩, _⟩ := st
    exact wpAny_pyIter_enum he h
def iEn (K : PySem.W.Frag) (ta : TA) : TI := fun σ H R => ta σ H fun vs H1 => ∃ a xs, vs = [.ref a] ∧ SqT K H1 a xs ∧ R (ItE K a) H1
theorem i_enT {X : Cx} {K : PySem.W.Frag} {e : Expr} {ta : TA} {p pos tpos : Pos} {elts : List Expr} {kk : Nat} (ek : X.K = K) (hg : Gl X "enumerate") (hm : X.mg "enumerate" = none) (ha : PA X [e] ta)
    (hs : starEach [e] X.env = [(false, eval e X.env)] := by rfl) : PI X (.Tuple elts kk tpos) (.Call (.Name "enumerate" p) [e] [] pos) (iEn K ta) := by
  subst ek
  refine ⟨fun pins s σ H R I h => ?_⟩
  refine Call_ (ld_blt I hg hm boot_enumerate (PyProof.Rows.callWith_type1 (thn (ha.run pos pins s σ H _ I h) fun us s1 ⟨vs, H1, I1, r1, q1⟩ => ?_) hs rfl))
  obtain ⟨a, xs, rfl, hq, q⟩ := q1
  have eu := Vals.ref1 r1
  subst eu
  obtain ⟨its, rv, tup, hz⟩ := I1.tuple hq
  have hal : a < s1.heap.objs.size := tup.lt
  refine call_enT tup fun h' he hit hk => wpAny_pyIter_enum he ?_
  refine ⟨s1.heap.objs.size + 1, [s1.heap.objs.size + 1, s1.heap.objs.size], EnAt a (s1.heap.objs.size + 1) s1.heap.objs.size, _, H1, rfl, I1.kept (t' := s1.toks) hk, turn_enT a _ _,
    ⟨⟨.none, he⟩, hit, Nat.succ_ne_self _, Nat.ne_of_gt (Nat.lt_succ_of_lt hal), Nat.ne_of_gt hal⟩, fun b hb => ?_, q⟩
  have le : s1.heap.objs.size ≤ b := by
    rcases List.mem_cons.mp hb with rfl | hb
    · exact Nat.le_succ _
    · rw [List.mem_singleton.mp hb]; exact Nat.le_refl _
  exact I1.fpOk le (I1.hok.fresh le)
/-- slices -/
theorem r_slL {K : PySem.W.Frag} {H : Hp} {Q : VK} {a : Addr} {xs : List V} {lo hi : Option Int} (hs : SqL K H a xs) (h : ∀ p, H p = none → Q (.ref p) (upd H p (.lst (cutV xs lo hi)))) : rSlL K (.ref a) lo hi H Q := ⟨a, xs, rfl, hs, h⟩
theorem r_sl {r : V → Option Int → Option Int → Hp → VK → Prop} {te : TE} {tl th : TO} {σ : L2.St} {H : Hp} {Q : VK} (h : te σ H fun x H1 => tl σ H1 fun l H2 => th σ H2 fun u H3 => r x l u H3 Q) : tSl r te tl th σ H Q := h
theorem r_noPart {σ : L2.St} {H : Hp} {R : Option Int → Hp → Prop} (h : R none H) : tNoPart σ H R := h
theorem r_part {t : TE} {σ : L2.St} {H : Hp} {R : Option Int → Hp → Prop} (h : t σ H fun x H1 => ∃ i, x = .int i ∧ R (some i) H1) : tPart t σ H R := h
theorem cut_to (xs : List V) (n : Nat) : cutV xs none (some (n : Int)) = xs.take n := by
  unfold cutV
  rw [HT.sIx_none, HT.sIx_nat, List.drop_zero, Nat.sub_zero]
  rcases Nat.le_total n xs.length with h | h
  · rw [Nat.min_eq_left h]
  · rw [Nat.min_eq_right h, List.take_length, List.take_of_length_le h]
/-- a walk of a tuple with its places -/
theorem r_forEn {K : PySem.W.Frag} {g : TG} {tb : TS} {D : Ends} {σ : L2.St} {H : Hp} {a : Addr} (xs : List V) (Pv : Nat → L2.St → Hp → Prop) (h0 : Pv 0 σ H) (hl : ∀ i σ H, i ≤ xs.length → Pv i σ H → SqT K H a xs)
    (hs : ∀ i x σ H T, xs[i]? = some x → Pv i σ H → H T = none → g (.ref T) σ (upd H T (.tup [.int (i : Nat), x])) fun σ2 H2 => tb { D with nx := Pv (i + 1), ct := Pv (i + 1), bk := D.nx } σ2 H2)
    (hd : ∀ σ H, Pv xs.length σ H → D.nx σ H) : tFor (fun _ H2 R => R (ItE K a) H2) g tb D σ H := by
  refine ⟨fun i m σ H => m = xs.length - i ∧ i ≤ xs.length ∧ Pv i σ H, ⟨xs.length, by omega, Nat.zero_le _, h0⟩, ?_⟩
  rintro i m σ H ⟨rfl, hi, p⟩
  have q := hl i σ H hi p
  by_cases lt : i < xs.length
  · refine Or.inr ⟨⟨xs, xs[i], q, by simp [lt]⟩, Pv (i + 1), fun σ' H' p' => ⟨xs.length - (i + 1), by omega, rfl, lt, p'⟩, fun x H' y => ?_⟩
    obtain ⟨T, z, rfl, nT, rfl, fz⟩ := y
    exact hs i z σ H T (fz xs q) p nT
  · have e : i = xs.length := by omega
    subst e
    exact Or.inl ⟨⟨xs, q, Nat.le_refl _⟩, hd σ H p⟩
theorem r_forE {K : PySem.W.Frag} {g : TG} {tb : TS} {D : Ends} {σ : L2.St} {H : Hp} {ta : TA} (h : ta σ H fun vs H1 => ∃ a xs, vs = [.ref a] ∧ SqT K H1 a xs ∧ tFor (fun _ H2 R => R (ItE K a) H2) g tb D σ H1) : tFor (iEn K ta) g tb D σ H := h
end Vf

namespace Vf
/-! ## the greatest common divisor as a sum of both -/
/-- behind the first turn: both rests have one sign s, the factors of the first number go up and down by turns -/
def Bl (y u nu l r : Int) : Prop := ∃ (s e : Int) (p q a b : Nat), (s = 1 ∨ s = -1) ∧ (e = 1 ∨ e = -1) ∧ l = s * a ∧ r = s * b ∧ u = e * p ∧ nu = -(e * q) ∧ p * b + q * a = y.natAbs ∧ b < a ∧ p ≤ y.natAbs ∧ a ≤ y.natAbs
structure Bz (x y u v nu nv l r : Int) : Prop where
  e1 : u * x + v * y = l
  e2 : nu * x + nv * y = r
  g : Nat.gcd l.natAbs r.natAbs = Nat.gcd x.natAbs y.natAbs
  st : (u = 1 ∧ v = 0 ∧ nu = 0 ∧ nv = 1 ∧ l = x ∧ r = y) ∨ (y ≠ 0 ∧ Bl y u nu l r)
theorem Bz.first (x y : Int) : Bz x y 1 0 0 1 x y := ⟨by omega, by omega, rfl, .inl ⟨rfl, rfl, rfl, rfl, rfl, rfl⟩⟩
theorem nat_gcd_sub (l r t : Int) : Nat.gcd r.natAbs (l - t * r).natAbs = Nat.gcd l.natAbs r.natAbs := by
  have h : Int.gcd r (l - t * r) = Int.gcd r l := Int.gcd_sub_mul_right_right r l t
  rw [show Nat.gcd r.natAbs (l - t * r).natAbs = Int.gcd r (l - t * r) from rfl, h, Int.gcd_comm]
  rfl
theorem sgn_abs {s : Int} (h : s = 1 ∨ s = -1) (n : Nat) : (s * n).natAbs = n := by
  rcases h with h | h <;> subst h <;> omega
theorem fmod_neg (l r : Int) (h : r < 0) : l.fmod r ≤ 0 ∧ r < l.fmod r := by
  have e := Int.neg_fmod_neg (-l) (-r)
  rw [Int.neg_neg, Int.neg_neg] at e
  have h1 := Int.fmod_nonneg_of_pos (-l) (show 0 < -r by omega)
  have h2 := Int.fmod_lt_of_pos (-l) (show 0 < -r by omega)
  omega
theorem Bl.step {y u nu l r : Int} (h : Bl y u nu l r) (hr : r ≠ 0) : Bl y nu (u - l.fdiv r * nu) r (l - l.fdiv r * r) := by
  obtain ⟨s, e, p, q, a, b, hs, he, hl, hrr, hu, hnu, hy, hab, hp, ha⟩ := h
  have hb : 0 < b := by
    rcases Nat.eq_zero_or_pos b with z | z
    · subst z
      exact absurd (by rw [hrr]; simp) hr
    · exact z
  have ht : l.fdiv r = ((a / b : Nat) : Int) := by
    rw [hl, hrr]
    rcases hs with z | z <;> subst z
    · rw [Int.one_mul, Int.one_mul, Int.fdiv_eq_ediv_of_nonneg _ (by omega)]
      rfl
    · rw [Int.neg_mul, Int.neg_mul, Int.one_mul, Int.one_mul, Int.neg_fdiv_neg, Int.fdiv_eq_ediv_of_nonneg _ (by omega)]
      rfl
  have hd := Nat.div_add_mod a b
  have hm := Nat.mod_lt a hb
  rw [ht]
  generalize a / b = d at *
  generalize a % b = m at *
  have hd' : (b : Int) * d + m = a := by rw [← hd, Int.natCast_add, Int.natCast_mul]
  refine ⟨s, -e, q, p + d * q, b, m, hs, by omega, hrr, ?_, ?_, ?_, ?_, hm, ?_, by omega⟩
  · rw [hl, hrr, ← hd']
    grind
  · rw [hnu]; grind
  · rw [hu, hnu, Int.natCast_add, Int.natCast_mul]; grind
  · rw [← hy, ← hd]; grind
  · rw [← hy]
    have : q * 1 ≤ q * a := Nat.mul_le_mul_left q (by omega)
    omega
theorem Bz.step {x y u v nu nv l r : Int} (h : Bz x y u v nu nv l r) (hr : r ≠ 0) :
    Bz x y nu nv (u - l.fdiv r * nu) (v - l.fdiv r * nv) r (l - l.fdiv r * r) ∧ (l - l.fdiv r * r).natAbs < r.natAbs := by
  have key : l - l.fdiv r * r = l.fmod r := by rw [Int.fmod_def, Int.mul_comm]
  have lt : (l - l.fdiv r * r).natAbs < r.natAbs := by
    rw [key]
    rcases Int.lt_or_gt_of_ne hr with z | z
    · have h1 := fmod_neg l r z
      omega
    · have h1 := Int.fmod_nonneg_of_pos l z
      have h2 := Int.fmod_lt_of_pos l z
      omega
  refine ⟨⟨h.e2, ?_, ?_, .inr ?_⟩, lt⟩
  · have h1 := h.e1
    have h2 := h.e2
    grind
  · rw [nat_gcd_sub]; exact h.g
  · rcases h.st with ⟨e1, e2, e3, e4, e5, e6⟩ | ⟨hy, b⟩
    · subst e1 e2 e3 e4 e5 e6
      refine ⟨hr, ?_⟩
      rcases Int.lt_or_gt_of_ne hr with z | z
      · have h1 := (fmod_neg l r z).1
        refine ⟨-1, -1, 0, 1, r.natAbs, (l - l.fdiv r * r).natAbs, .inr rfl, .inr rfl, by omega, by omega, by omega, by omega, by omega, lt, by omega, by omega⟩
      · have h1 := Int.fmod_nonneg_of_pos l z
        refine ⟨1, -1, 0, 1, r.natAbs, (l - l.fdiv r * r).natAbs, .inl rfl, .inr rfl, by omega, by omega, by omega, by omega, by omega, lt, by omega, by omega⟩
    · exact ⟨hy, b.step hr⟩
theorem abs_of_mul {v y : Int} {B : Nat} (hy : y ≠ 0) (h : (v * y).natAbs ≤ B) : v.natAbs ≤ B := by
  rw [Int.natAbs_mul] at h
  exact Nat.le_trans (Nat.le_mul_of_pos_right _ (by omega)) h
theorem Bz.bounds {x y u v nu nv l r : Int} {B : Nat} (h : Bz x y u v nu nv l r) (hx : x.natAbs ≤ B) (hy : y.natAbs ≤ B) (hB : 1 ≤ B) :
    u.natAbs ≤ B ∧ nu.natAbs ≤ B ∧ l.natAbs ≤ B ∧ r.natAbs ≤ B ∧ v.natAbs ≤ B + B * B ∧ nv.natAbs ≤ B + B * B := by
  rcases h.st with ⟨e1, e2, e3, e4, e5, e6⟩ | ⟨h0, s, e, p, q, a, b, hs, he, hl, hrr, hu, hnu, hyy, hab, hp, ha⟩
  · subst e1 e2 e3 e4 e5 e6
    refine ⟨by omega, by omega, hx, hy, by omega, by omega⟩
  · have q1 : q ≤ y.natAbs := by
      rw [← hyy]
      have : q * 1 ≤ q * a := Nat.mul_le_mul_left q (by omega)
      omega
    have hub : u.natAbs ≤ B := by rw [hu, sgn_abs he]; omega
    have hnub : nu.natAbs ≤ B := by rw [hnu, Int.natAbs_neg, sgn_abs he]; omega
    have ra : r.natAbs = b := by rw [hrr, sgn_abs hs]
    have la : l.natAbs = a := by rw [hl, sgn_abs hs]
    have mb : ∀ (f : Int), f.natAbs ≤ B → (f * x).natAbs ≤ B * B := fun f hf => by
      rw [Int.natAbs_mul]; exact Nat.mul_le_mul hf hx
    have m1 := mb u hub
    have m2 := mb nu hnub
    have e1 := h.e1
    have e2 := h.e2
    refine ⟨hub, hnub, by omega, by omega, abs_of_mul h0 (by omega), abs_of_mul h0 (by omega)⟩
end Vf

namespace Vf
/-! ## two rests made one -/
theorem emod_unique {x r n q : Int} (h : x = r + n * q) (h0 : 0 ≤ r) (h1 : r < n) : x % n = r := by
  rw [h, Int.add_mul_emod_self_left]
  exact Int.emod_eq_of_lt h0 h1
/-- u is, by the step, what turns b / g back -/
theorem merge_math {x b c g bt ct u w : Int} (hb : 0 < b) (hc : 0 < c) (hg : 0 < g) (eb : b = g * bt) (ec : c = g * ct) (hu : u * bt = 1 + ct * w) :
    (x % c - x % b) % g = 0 ∧ x % b + b * (((x % c - x % b) / g * (u % ct)) % ct) = x % (b * ct) := by
  have hct : 0 < ct := by
    rcases Int.lt_trichotomy ct 0 with z | z | z
    · have := Int.mul_neg_of_pos_of_neg hg z; omega
    · subst z; omega
    · exact z
  have d1 := Int.emod_add_mul_ediv x b
  have d2 := Int.emod_add_mul_ediv x c
  generalize hr : x % b = r at *
  generalize hs : x % c = s at *
  generalize x / b = q at *
  generalize x / c = v at *
  have hr0 : 0 ≤ r := by rw [← hr]; exact Int.emod_nonneg _ (by omega)
  have hrb : r < b := by rw [← hr]; exact Int.emod_lt_of_pos _ hb
  -- the difference of the rests is g times d
  have hd : s - r = g * (bt * q - ct * v) := by
    subst eb ec
    have h1 : g * (bt * q - ct * v) = g * bt * q - g * ct * v := by grind
    rw [h1]
    omega
  have e0 : (s - r) % g = 0 := by rw [hd]; exact Int.mul_emod_right g _
  refine ⟨e0, ?_⟩
  have e1 : (s - r) / g = bt * q - ct * v := by rw [hd]; exact Int.mul_ediv_cancel_left _ (by omega)
  rw [e1]
  -- times is q, by the step
  have e2 : ((bt * q - ct * v) * (u % ct)) % ct = q % ct := by
    rw [Int.mul_emod, Int.emod_emod_of_dvd _ (Int.dvd_refl ct), ← Int.mul_emod]
    have : (bt * q - ct * v) * u = q + ct * (w * q - v * u) := by grind
    rw [this, Int.add_mul_emod_self_left]
  rw [e2]
  have dq := Int.emod_add_mul_ediv q ct
  have t0 := Int.emod_nonneg q (show ct ≠ 0 by omega)
  have t1 := Int.emod_lt_of_pos q hct
  generalize q % ct = t at *
  generalize q / ct = k at *
  refine (emod_unique (q := k) ?_ ?_ ?_).symm
  · rw [← d1, ← dq]; grind
  · have := Int.mul_nonneg (show 0 ≤ b by omega) t0
    omega
  · have h2 : b * (t + 1) ≤ b * ct := Int.mul_le_mul_of_nonneg_left (by omega) (by omega)
    rw [Int.mul_add, Int.mul_one] at h2
    omega
/-- least common multiples of some bases -/
def lcmAll (fs : List (Int × Int)) : Nat := fs.foldl (fun m p => Nat.lcm m p.2.natAbs) 1
theorem lcmAll_append (fs gs : List (Int × Int)) : lcmAll (fs ++ gs) = gs.foldl (fun m p => Nat.lcm m p.2.natAbs) (lcmAll fs) := by
  unfold lcmAll
  rw [List.foldl_append]
theorem lcmAll_snoc (fs : List (Int × Int)) (p : Int × Int) : lcmAll (fs ++ [p]) = Nat.lcm (lcmAll fs) p.2.natAbs := lcmAll_append fs [p]
/-- facts that are right: a base from 1 on, a rest by it -/
def Fact (p : Int × Int) : Prop := 1 ≤ p.2 ∧ p.2 ≤ 10 ^ 30 ∧ 0 ≤ p.1 ∧ p.1 < p.2
theorem lcmAll_pos : ∀ (fs : List (Int × Int)) (m : Nat), (∀ p ∈ fs, Fact p) → 0 < m → 0 < fs.foldl (fun m p => Nat.lcm m p.2.natAbs) m
  | [], _, _, h => h
  | p :: fs, m, hf, h => by
    have hp := hf p List.mem_cons_self
    exact lcmAll_pos fs _ (fun q hq => hf q (List.mem_cons_of_mem _ hq)) (Nat.lcm_pos h (by have := hp.1; omega))
theorem lcm_le_mul (a b : Nat) : Nat.lcm a b ≤ a * b := Nat.div_le_self _ _
theorem lcmAll_le : ∀ (fs : List (Int × Int)) (m e : Nat), (∀ p ∈ fs, Fact p) → m ≤ 2 ^ e → fs.foldl (fun m p => Nat.lcm m p.2.natAbs) m ≤ 2 ^ (e + 100 * fs.length)
  | [], _, _, _, h => h
  | p :: fs, m, e, hf, h => by
    have hp := hf p List.mem_cons_self
    have h2 : p.2.natAbs ≤ 2 ^ 100 := by
      obtain ⟨h1, h2, _⟩ := hp
      omega
    have h3 : Nat.lcm m p.2.natAbs ≤ 2 ^ (e + 100) := by
      rw [Nat.pow_add]
      exact Nat.le_trans (lcm_le_mul _ _) (Nat.mul_le_mul h h2)
    have := lcmAll_le fs _ (e + 100) (fun q hq => hf q (List.mem_cons_of_mem _ hq)) h3
    have e1 : e + 100 + 100 * fs.length = e + 100 * (p :: fs).length := by rw [List.length_cons]; omega
    rw [e1] at this
    exact this
theorem dvd_lcmAll : ∀ (fs : List (Int × Int)) (m : Nat), m ∣ fs.foldl (fun m p => Nat.lcm m p.2.natAbs) m ∧ ∀ p ∈ fs, p.2.natAbs ∣ fs.foldl (fun m p => Nat.lcm m p.2.natAbs) m
  | [], m => ⟨Nat.dvd_refl m, fun _ h => nomatch h⟩
  | p :: fs, m => by
    obtain ⟨h1, h2⟩ := dvd_lcmAll fs (Nat.lcm m p.2.natAbs)
    refine ⟨Nat.dvd_trans (Nat.dvd_lcm_left _ _) h1, fun q hq => ?_⟩
    rcases List.mem_cons.mp hq with rfl | hq
    · exact Nat.dvd_trans (Nat.dvd_lcm_right _ _) h1
    · exact h2 q hq
theorem lcmAll_dvd : ∀ (fs : List (Int × Int)) (m d : Nat), m ∣ d → (∀ p ∈ fs, p.2.natAbs ∣ d) → fs.foldl (fun m p => Nat.lcm m p.2.natAbs) m ∣ d
  | [], _, _, h, _ => h
  | p :: fs, m, d, h, hf => lcmAll_dvd fs _ d (Nat.lcm_dvd h (hf p List.mem_cons_self)) fun q hq => hf q (List.mem_cons_of_mem _ hq)
/-- a number fits some facts -/
def Fits (x : Int) (fs : List (Int × Int)) : Prop := ∀ p ∈ fs, x % p.2 = p.1
/-- whoever fits the facts that x fits leaves the rest of x by their multiple -/
theorem fits_iff {x y : Int} {fs : List (Int × Int)} (hf : ∀ p ∈ fs, Fact p) (hx : Fits x fs) : Fits y fs ↔ (lcmAll fs : Int) ∣ y - x := by
  constructor
  · intro hy
    have : lcmAll fs ∣ (y - x).natAbs := by
      refine lcmAll_dvd fs 1 _ (Nat.one_dvd _) fun p hp => ?_
      have h := Int.emod_emod_of_dvd (y - x) (Int.dvd_refl p.2)
      have e : y % p.2 = x % p.2 := by rw [hx p hp, hy p hp]
      have d : p.2 ∣ y - x := Int.dvd_of_emod_eq_zero (Int.emod_eq_emod_iff_emod_sub_eq_zero.mp e)
      exact Int.natAbs_dvd_natAbs.mpr d
    exact Int.dvd_natAbs.mp (Int.natCast_dvd_natCast.mpr this)
  · intro h p hp
    rw [← hx p hp]
    refine Int.emod_eq_emod_iff_emod_sub_eq_zero.mpr (Int.emod_eq_zero_of_dvd ?_)
    have d := (dvd_lcmAll fs 1).2 p hp
    have d2 : (p.2.natAbs : Int) ∣ (lcmAll fs : Int) := Int.natCast_dvd_natCast.mpr d
    have e : (p.2.natAbs : Int) = p.2 := by have := (hf p hp).1; omega
    rw [e] at d2
    exact Int.dvd_trans d2 h
end Vf

namespace Vf
open PySem PySem.Spec PyProof.Rows L2
/-! ## tuples stay, whatever a list does -/
theorem Kx.tupI {K : PySem.W.Frag} {k : Addr} {H H' : Hp} {l : List V} {a : Addr} {xs : List V} (e : Kx k H H') (hk : H k = some (.lst l)) (h : SqT K H a xs) : SqT K H' a xs := by
  rcases h with (h | ⟨o, h⟩) | h
  · exact Or.inl (Or.inl (e _ _ (ne_of h hk (by intro z; cases z)) h))
  · exact Or.inl (Or.inr ⟨o, e _ _ (ne_of h hk (by intro z; cases z)) h⟩)
  · exact Or.inr h
/-- what keeps all tuples -/
def Tt (H H' : Hp) : Prop := ∀ (K : PySem.W.Frag) a xs, SqT K H a xs → SqT K H' a xs
theorem Tt.refl (H : Hp) : Tt H H := fun _ _ _ h => h
theorem Tt.trans {H H1 H2 : Hp} (a : Tt H H1) (b : Tt H1 H2) : Tt H H2 := fun K x xs h => b K x xs (a K x xs h)
theorem Same.tt {H H' : Hp} (s : Same H H') : Tt H H' := fun _ _ _ h => Same.tup s h
theorem Kx.tt {k : Addr} {H H' : Hp} {l : List V} (e : Kx k H H') (hk : H k = some (.lst l)) : Tt H H' := fun _ _ _ h => e.tupI hk h
theorem new_tt {H : Hp} {p : Addr} {o : HO} (h : H p = none) : Tt H (upd H p o) := Same.tt (Same.new h)
theorem upd_tt {H : Hp} {k : Addr} {l : List V} {o : HO} (hk : H k = some (.lst l)) : Tt H (upd H k o) := Kx.tt Kx.upd hk
/-! ## pairs of ints, tuples of them -/
def PairAt (K : PySem.W.Frag) (H : Hp) (v : V) (p : Int × Int) : Prop := ∃ t, v = .ref t ∧ SqT K H t [.int p.1, .int p.2]
def PairsAt (K : PySem.W.Frag) (H : Hp) (vs : List V) (fs : List (Int × Int)) : Prop := Paired (PairAt K H) vs fs
def FactsAt (K : PySem.W.Frag) (H : Hp) (a : Addr) (fs : List (Int × Int)) : Prop := ∃ vs, SqT K H a vs ∧ PairsAt K H vs fs
theorem PairAt.tt {K : PySem.W.Frag} {H H' : Hp} {v : V} {p : Int × Int} (h : PairAt K H v p) (e : Tt H H') : PairAt K H' v p := by
  obtain ⟨t, rfl, s⟩ := h
  exact ⟨t, rfl, e K t _ s⟩
theorem PairsAt.tt {K : PySem.W.Frag} {H H' : Hp} (e : Tt H H') : ∀ {vs : List V} {fs : List (Int × Int)}, PairsAt K H vs fs → PairsAt K H' vs fs
  | _, _, .nil => .nil
  | _, _, .cons r t => .cons (r.tt e) (PairsAt.tt e t)
theorem FactsAt.tt {K : PySem.W.Frag} {H H' : Hp} {a : Addr} {fs : List (Int × Int)} (h : FactsAt K H a fs) (e : Tt H H') : FactsAt K H' a fs := by
  obtain ⟨vs, s, p⟩ := h
  exact ⟨vs, e K a _ s, PairsAt.tt e p⟩
theorem PairsAt.length {K : PySem.W.Frag} {H : Hp} {vs : List V} {fs : List (Int × Int)} (h : PairsAt K H vs fs) : vs.length = fs.length := Paired.length h
theorem PairsAt.get {K : PySem.W.Frag} {H : Hp} : ∀ {vs : List V} {fs : List (Int × Int)} {i : Nat} {x : V}, PairsAt K H vs fs → vs[i]? = some x → ∃ p, fs[i]? = some p ∧ PairAt K H x p
  | _, _, _, _, .nil, e => by simp at e
  | _, _, 0, x, .cons (b := q) r _, e => by
    simp at e
    subst e
    exact ⟨q, rfl, r⟩
  | _, _, i + 1, x, .cons _ t, e => by
    obtain ⟨p, h1, h2⟩ := PairsAt.get (i := i) (x := x) t (by simpa using e)
    exact ⟨p, by simpa using h1, h2⟩
theorem PairsAt.at {K : PySem.W.Frag} {H : Hp} {vs : List V} {fs : List (Int × Int)} {i : Nat} {p : Int × Int} (h : PairsAt K H vs fs) (e : fs[i]? = some p) : ∃ x, vs[i]? = some x ∧ PairAt K H x p := by
  have hl := h.length
  have hi : i < vs.length := by
    rw [hl]
    exact (List.getElem?_eq_some_iff.mp e).1
  obtain ⟨q, h1, h2⟩ := h.get (List.getElem?_eq_getElem hi)
  rw [e] at h1
  cases h1
  exact ⟨_, List.getElem?_eq_getElem hi, h2⟩
theorem PairsAt.append {K : PySem.W.Frag} {H : Hp} : ∀ {vs ws : List V} {fs gs : List (Int × Int)}, PairsAt K H vs fs → PairsAt K H ws gs → PairsAt K H (vs ++ ws) (fs ++ gs)
  | _, _, _, _, .nil, s => s
  | _, _, _, _, .cons r t, s => .cons r (PairsAt.append t s)
/-- facts that are right, at most forty -/
def Facts (fs : List (Int × Int)) : Prop := fs.length ≤ 40 ∧ ∀ p ∈ fs, Fact p
theorem Facts.at {fs : List (Int × Int)} (h : Facts fs) {i : Nat} {p : Int × Int} (e : fs[i]? = some p) : Fact p := h.2 p (List.mem_of_getElem? e)
theorem Facts.lcm_pos {fs : List (Int × Int)} (h : Facts fs) : 0 < lcmAll fs := lcmAll_pos fs 1 h.2 (by decide)
theorem Facts.lcm_bits {fs : List (Int × Int)} (h : Facts fs) : lcmAll fs ≤ 2 ^ (100 * fs.length) := by
  have := lcmAll_le fs 1 0 h.2 (Nat.le_refl 1)
  rwa [Nat.zero_add] at this
/-- a number of so many bits that all can be reckoned with it -/
def Bt (n : Nat) (i : Int) : Prop := Builtin.Int.intBits i ≤ n
theorem Bt.mul {a b : Nat} {i j : Int} (h1 : Bt a i) (h2 : Bt b j) (h : a + b ≤ 100000000) : CMulX i j := by
  unfold Bt at h1 h2
  unfold CMulX
  omega
theorem Bt.of {a : Nat} {i : Int} (h : i.natAbs < 2 ^ a) : Bt a i := bit_of h
theorem Bt.mono {a b : Nat} {i : Int} (h : Bt a i) (l : a ≤ b) : Bt b i := Nat.le_trans h l
theorem pow_lt_of_le {a b n : Nat} (h : n ≤ 2 ^ a) (l : a < b) : n < 2 ^ b := Nat.lt_of_le_of_lt h (Nat.pow_lt_pow_right (by decide) l)
theorem Bt.le {a : Nat} {i : Int} (h : i.natAbs ≤ 2 ^ a) : Bt (a + 1) i := Bt.of (pow_lt_of_le h (Nat.lt_succ_self a))
/-! ## the law's jug -/
def Jug (n : Nat) (k : Addr) (H : Hp) : Prop := ∃ a b c : Int, H k = some (.lst [.int b, .int a, .int c]) ∧ KegOk a b c n
theorem Jug.mono {n m : Nat} {k : Addr} {H : Hp} (h : Jug n k H) (l : n ≤ m) : Jug m k H := by
  obtain ⟨a, b, c, e, o⟩ := h
  exact ⟨a, b, c, e, o.a0, o.ab, o.b0, o.bM, o.c0, by have := o.cn; omega⟩
theorem Jug.same {n : Nat} {k : Addr} {H H' : Hp} (h : Jug n k H) (s : Same H H') : Jug n k H' := by
  obtain ⟨a, b, c, e, o⟩ := h
  exact ⟨a, b, c, s _ _ e, o⟩
theorem Jug.new {n : Nat} {k p : Addr} {H : Hp} {o : HO} (h : Jug n k H) (hp : H p = none) : Jug n k (upd H p o) := h.same (Same.new hp)
theorem Jug.ne {n : Nat} {k p : Addr} {H : Hp} (h : Jug n k H) (hp : H p = none) : p ≠ k := by
  obtain ⟨a, b, c, e, o⟩ := h
  exact (ne_of_none e hp).symm
theorem Jug.tt {n : Nat} {k : Addr} {H H' : Hp} (h : Jug n k H) (e : Kx k H H') : Tt H H' := by
  obtain ⟨a, b, c, z, o⟩ := h
  exact e.tt z
theorem Jug.kx {n m : Nat} {k j : Addr} {H H' : Hp} (h : Jug n k H) (e : Kx j H H') (ne : k ≠ j) : Jug n k H' := by
  obtain ⟨a, b, c, z, o⟩ := h
  exact ⟨a, b, c, e _ _ ne z, o⟩
def sp_pour : Sp := fun vs H Q _ => ∃ (k : Addr) (u : Int) (n : Nat), vs = [.ref k, .int u] ∧ Jug n k H ∧ n ≤ 2 ^ 60 ∧ 0 < u ∧ u < 2 ^ 62 ∧
  ∀ f H', 0 ≤ f → f < u → Kx k H H' → Jug (n + 1) k H' → Q (.int f) H'
theorem i_pour {k : Addr} {u : Int} {H : Hp} {Q : VK} {E : XK} (n : Nat) (hk : Jug n k H) (hn : n ≤ 2 ^ 60) (h0 : 0 < u) (h1 : u < 2 ^ 62)
    (q : ∀ f H', 0 ≤ f → f < u → Kx k H H' → Jug (n + 1) k H' → Q (.int f) H') : sp_pour [.ref k, .int u] H Q E := ⟨k, u, n, rfl, hk, hn, h0, h1, q⟩
def sp_one_of (K : PySem.W.Frag) : Sp := fun vs H Q _ => ∃ (k t : Addr) (xs : List V) (n : Nat), vs = [.ref k, .ref t] ∧ Jug n k H ∧ n ≤ 2 ^ 60 ∧ t ≠ k ∧ SqL K H t xs ∧ 0 < xs.length ∧ xs.length ≤ 100000 ∧
  ∀ (i : Nat) (x : V) H', xs[i]? = some x → Kx k H H' → Jug (n + 1) k H' → Q x H'
theorem i_one_of {K : PySem.W.Frag} {k t : Addr} {H : Hp} {Q : VK} {E : XK} (n : Nat) (xs : List V) (hk : Jug n k H) (hn : n ≤ 2 ^ 60) (ht : t ≠ k) (hs : SqL K H t xs) (h0 : 0 < xs.length) (h1 : xs.length ≤ 100000)
    (q : ∀ (i : Nat) x H', xs[i]? = some x → Kx k H H' → Jug (n + 1) k H' → Q x H') : sp_one_of K [.ref k, .ref t] H Q E := ⟨k, t, xs, n, rfl, hk, hn, ht, hs, h0, h1, q⟩
def sp_jug (K : PySem.W.Frag) : Sp := fun vs H Q _ => ∃ (c : Addr) (ns : List Int) (j : Nat), vs = [.ref c, .int (j : Int)] ∧ SqL K H c (ns.map V.int) ∧ Script ns ∧ j ≤ 1000 ∧
  ∀ p H', Same H H' → H p = none → Jug 1 p H' → Q (.ref p) H'
theorem i_jug {K : PySem.W.Frag} {c : Addr} {H : Hp} {Q : VK} {E : XK} (ns : List Int) (j : Nat) (hs : SqL K H c (ns.map V.int)) (hn : Script ns) (hj : j ≤ 1000)
    (q : ∀ p H', Same H H' → H p = none → Jug 1 p H' → Q (.ref p) H') : sp_jug K [.ref c, .int (j : Int)] H Q E := ⟨c, ns, j, rfl, hs, hn, hj, q⟩
def sp_great : Sp := fun vs H Q _ => ∃ (k : Addr) (u : Int) (n : Nat), vs = [.ref k, .int u] ∧ Jug n k H ∧ n ≤ 2 ^ 59 ∧ 0 < u ∧
  ∀ f H', 0 ≤ f → f < u → f < 10 ^ 37 → Kx k H H' → Jug (n + 10) k H' → Q (.int f) H'
theorem i_great {k : Addr} {u : Int} {H : Hp} {Q : VK} {E : XK} (n : Nat) (hk : Jug n k H) (hn : n ≤ 2 ^ 59) (h0 : 0 < u)
    (q : ∀ f H', 0 ≤ f → f < u → f < 10 ^ 37 → Kx k H H' → Jug (n + 10) k H' → Q (.int f) H') : sp_great [.ref k, .int u] H Q E := ⟨k, u, n, rfl, hk, hn, h0, q⟩
end Vf

namespace Vf
open PySem PySem.Spec PyProof.Rows L2
/-! ## two walks in one comprehension -/
/-- the inner walk: item by item, then Nx -/
def Inn (D : Addr) (J1 : It) (g1 : TG) (tt1 : TT) (te : TE) (vs1 : List Nat) (σ2 : L2.St) (H4 : Hp) (Nx : Hp → Prop) : Prop :=
  ∃ W1 : Nat → Nat → Hp → Prop, (∃ m, W1 0 m H4) ∧ ∀ j k H, W1 j k H →
      (J1.stop j H ∧ Nx H) ∨ (J1.go j H ∧ ∃ Nx1 : Hp → Prop, (∀ H', Nx1 H' → ∃ k', k' < k ∧ W1 (j + 1) k' H') ∧ ∀ x H', J1.yld j H x H' → g1 x (wipe σ2 vs1) H' fun σ3 H5 => wipe σ3 vs1 = wipe σ2 vs1 ∧ tt1 σ3 H5 fun b H6 =>
        if b = true then te σ3 H6 fun y H7 => ∃ acc, H7 D = some (.lst acc) ∧ acc.length < sizeLine ∧ Nx1 (upd H7 D (.lst (acc ++ [y]))) else Nx1 H6)
theorem inn_range {D : Addr} {g1 : TG} {tt1 : TT} {te : TE} {vs1 : List Nat} {σ2 : L2.St} {H4 : Hp} {Nx : Hp → Prop} {lo : Int} {n : Nat} (Pv : Nat → Hp → Prop) (h0 : Pv 0 H4)
    (hs : ∀ j H, j < n → Pv j H → g1 (.int (lo + j)) (wipe σ2 vs1) H fun σ3 H5 => wipe σ3 vs1 = wipe σ2 vs1 ∧ tt1 σ3 H5 fun b H6 =>
        if b = true then te σ3 H6 fun y H7 => ∃ acc, H7 D = some (.lst acc) ∧ acc.length < sizeLine ∧ Pv (j + 1) (upd H7 D (.lst (acc ++ [y]))) else Pv (j + 1) H6)
    (hd : ∀ H, Pv n H → Nx H) : Inn D (Itr lo n) g1 tt1 te vs1 σ2 H4 Nx := by
  refine ⟨fun i m H => m = n - i ∧ i ≤ n ∧ Pv i H, ⟨n, by omega, Nat.zero_le _, h0⟩, ?_⟩
  rintro i m H ⟨rfl, hi, p⟩
  by_cases lt : i < n
  · refine Or.inr ⟨lt, Pv (i + 1), fun H' p' => ⟨n - (i + 1), by omega, rfl, lt, p'⟩, fun x H' y => ?_⟩
    obtain ⟨e, y⟩ := y
    subst e y
    exact hs i _ lt p
  · have e : i = n := by omega
    subst e
    exact Or.inl ⟨Nat.le_refl _, hd H p⟩
section
variable {σ : L2.St} {H : Hp} {Q : VK} {g g1 : TG} {tt tt1 : TT} {te : TE} {vs vs1 : List Nat} {wi1 : TI}
theorem r_lc2R {lo : Int} {n : Nat} (Pv : Addr → Nat → Hp → Prop) (h0 : ∀ D, H D = none → Pv D 0 (upd H D (.lst [])))
    (hs : ∀ D i H', H D = none → i < n → Pv D i H' → g (.int (lo + i)) (wipe σ vs) H' fun σ2 H2 => wipe σ2 vs = wipe σ vs ∧ tt σ2 H2 fun b H3 =>
      if b = true then wi1 σ2 H3 fun J1 H4 => Inn D J1 g1 tt1 te vs1 σ2 H4 (Pv D (i + 1)) else Pv D (i + 1) H3)
    (hd : ∀ D H', H D = none → Pv D n H' → Q (.ref D) H') : tLc2 (fun _ H2 R => R (Itr lo n) H2) g tt wi1 g1 tt1 te vs vs1 σ H Q := by
  refine fun D hD => ⟨fun i m H => m = n - i ∧ i ≤ n ∧ Pv D i H, ⟨n, by omega, Nat.zero_le _, h0 D hD⟩, ?_⟩
  rintro i m H' ⟨rfl, hi, p⟩
  by_cases lt : i < n
  · refine Or.inr ⟨lt, Pv D (i + 1), fun H' p' => ⟨n - (i + 1), by omega, rfl, lt, p'⟩, fun x H' y => ?_⟩
    obtain ⟨e, y⟩ := y
    subst e y
    exact hs D i _ hD lt p
  · have e : i = n := by omega
    subst e
    exact Or.inl ⟨Nat.le_refl _, hd D H' hD p⟩
theorem r_lc2R1 {ta : TA} (h : ta σ H fun ws H1 => ∃ j : Int, ws = [.int j] ∧ -(2 ^ 62) ≤ j ∧ j < 2 ^ 62 ∧ tLc2 (fun _ H2 R => R (Itr 0 j.toNat) H2) g tt wi1 g1 tt1 te vs vs1 σ H1 Q) : tLc2 (iRng1 ta) g tt wi1 g1 tt1 te vs vs1 σ H Q := h
theorem r_w2 {ta : TA} {R : It → Hp → Prop} (h : ta σ H fun ws H1 => ∃ i j : Int, ws = [.int i, .int j] ∧ (-(2 ^ 62) ≤ i ∧ i < 2 ^ 62 ∧ -(2 ^ 62) ≤ j ∧ j < 2 ^ 62) ∧ R (Itr i (j - i).toNat) H1) : iRng2 ta σ H R := h
end
theorem is_T_T {K : PySem.W.Frag} {H : Hp} {Q : VK} {a : Addr} {xs : List V} (hs : SqT K H a xs) (h : Q (.bl true) H) : rIsi K [.ref a, .ty "tuple"] H Q := by
  have t : TyX K H (.ref a) (.type "tuple") := by
    rcases hs with (e | ⟨o, e⟩) | ⟨o, _, _, e, c, _⟩
    · exact .base (.tup e)
    · exact .fTuple e
    · exact .kTuple e c
  exact r_isi (.ty "tuple") t (kit_ty (by decide +kernel)) h
theorem r_bm {K : PySem.W.Frag} {T : String} {r : V → List V → Hp → VK → Prop} {to : TE} {t : TA} {σ : L2.St} {H : Hp} {Q : VK} (h : to σ H fun x H1 => tyV K T x H1 ∧ t σ H1 fun xs H2 => r x xs H2 Q) : tBM K T r to t σ H Q := h
theorem r_app {H : Hp} {Q : VK} {l : Addr} {xs : List V} {y : V} (e : H l = some (.lst xs)) (hz : xs.length ≤ 100000) (h : Q .non (upd H l (.lst (xs ++ [y])))) : rAppend (.ref l) [y] H Q :=
  ⟨l, xs, y, rfl, rfl, e, Nat.lt_of_le_of_lt hz (by decide), h⟩
/-! ## how great all that is reckoned can get -/
def Bq : Nat := 2 ^ 4001
theorem Bq_one : 1 ≤ Bq := by decide +kernel
theorem Bq_two : 2 * Bq < 2 ^ 4003 := by decide +kernel
theorem Bq_sq : Bq + Bq * Bq < 2 ^ 8010 := by decide +kernel
theorem Bq_lt : Bq < 2 ^ 4003 := by decide +kernel
theorem Bq_90 : Bq < 2 ^ 9000 := by decide +kernel
theorem Facts.lcm_Bq {fs : List (Int × Int)} (h : ∀ p ∈ fs, Fact p) (hl : fs.length ≤ 40) : lcmAll fs ≤ Bq := by
  refine Nat.le_trans (Facts.lcm_bits ⟨hl, h⟩) (Nat.pow_le_pow_right (by decide) ?_)
  omega
theorem Bq_div {i j : Int} (h0 : 0 < j) (h : j.natAbs ≤ Bq) : CDivW i j := wide_div (b := 4003) h0 (Nat.lt_of_le_of_lt h Bq_lt) (by decide) (by decide)
theorem Bq_bits {i : Int} (h : i.natAbs ≤ Bq) : Builtin.Int.intBits i ≤ 4003 := bit_of (Nat.lt_of_le_of_lt h Bq_lt)
theorem lcmAll_small : ∀ (fs : List (Int × Int)) (m e : Nat), (∀ p ∈ fs, p.2.natAbs ≤ 2 ^ 6) → m ≤ 2 ^ e → fs.foldl (fun m p => Nat.lcm m p.2.natAbs) m ≤ 2 ^ (e + 6 * fs.length)
  | [], _, _, _, h => h
  | p :: fs, m, e, hf, h => by
    have h3 : Nat.lcm m p.2.natAbs ≤ 2 ^ (e + 6) := by
      rw [Nat.pow_add]
      exact Nat.le_trans (lcm_le_mul _ _) (Nat.mul_le_mul h (hf p List.mem_cons_self))
    have := lcmAll_small fs _ (e + 6) (fun q hq => hf q (List.mem_cons_of_mem _ hq)) h3
    have e1 : e + 6 + 6 * fs.length = e + 6 * (p :: fs).length := by rw [List.length_cons]; omega
    rw [e1] at this
    exact this
/-- drawn facts: at most four, of small bases -/
def Drawn (fs : List (Int × Int)) : Prop := fs.length ≤ 4 ∧ ∀ p ∈ fs, 1 ≤ p.2 ∧ p.2 ≤ 36 ∧ 0 ≤ p.1 ∧ p.1 < p.2
theorem Drawn.facts {fs : List (Int × Int)} (h : Drawn fs) : Facts fs := by
  refine ⟨by have := h.1; omega, fun p hp => ?_⟩
  obtain ⟨h1, h2, h3, h4⟩ := h.2 p hp
  exact ⟨h1, by omega, h3, h4⟩
theorem Drawn.lcm {fs : List (Int × Int)} (h : Drawn fs) : lcmAll fs ≤ 2 ^ 24 := by
  have := lcmAll_small fs 1 0 (fun p hp => by have := h.2 p hp; omega) (Nat.le_refl 1)
  refine Nat.le_trans this (Nat.pow_le_pow_right (by decide) ?_)
  have := h.1
  omega
end Vf

namespace Vf
/-! ## numbers with a rest, counted and told -/
theorem div_step {L y : Int} (h : 0 < L) : y / L - (y - 1) / L = if y % L = 0 then 1 else 0 := by
  have d := Int.emod_add_mul_ediv y L
  have m0 := Int.emod_nonneg y (show L ≠ 0 by omega)
  have m1 := Int.emod_lt_of_pos y h
  split
  · rename_i z
    have : (y - 1) / L = y / L - 1 := by
      have e : y - 1 = (L - 1) + L * (y / L - 1) := by grind
      rw [e, Int.add_mul_ediv_left _ _ (by omega), Int.ediv_eq_zero_of_lt (by omega) (by omega)]
      omega
    omega
  · rename_i z
    have : (y - 1) / L = y / L := by
      have e : y - 1 = (y % L - 1) + L * (y / L) := by omega
      rw [e, Int.add_mul_ediv_left _ _ (by omega), Int.ediv_eq_zero_of_lt (by omega) (by omega)]
      omega
    omega
/-- the numbers from lo on, n of them, that leave the rest of r -/
def foundIn (L r lo : Int) : Nat → List Int
  | 0 => []
  | n + 1 => foundIn L r lo n ++ (if (lo + (n : Int) - r) % L = 0 then [lo + (n : Int)] else [])
theorem found_len {L r lo : Int} (h : 0 < L) : ∀ n : Nat, ((foundIn L r lo n).length : Int) = (lo + (n : Int) - 1 - r) / L - (lo - 1 - r) / L
  | 0 => by
    show ((0 : Nat) : Int) = _
    rw [show lo + ((0 : Nat) : Int) - 1 - r = lo - 1 - r by omega]
    omega
  | n + 1 => by
    have ih := found_len (r := r) (lo := lo) h n
    have st := div_step (y := lo + (n : Int) - r) h
    unfold foundIn
    rw [List.length_append]
    rw [show lo + ((n + 1 : Nat) : Int) - 1 - r = lo + (n : Int) - r by omega]
    rw [show lo + (n : Int) - 1 - r = lo + (n : Int) - r - 1 by omega] at ih
    split at st
    · rename_i z
      rw [if_pos z]
      simp only [List.length_cons, List.length_nil]
      omega
    · rename_i z
      rw [if_neg z]
      simp only [List.length_nil]
      omega
theorem found_le (L r lo : Int) : ∀ n : Nat, (foundIn L r lo n).length ≤ n
  | 0 => Nat.le_refl _
  | n + 1 => by
    have := found_le L r lo n
    unfold foundIn
    rw [List.length_append]
    split <;> simp <;> omega
/-- the k-th of them -/
def nthOf (L r lo : Int) (k : Int) : Int := lo + (r - lo) % L + k * L
theorem nth_at {L r lo : Int} (h : 0 < L) (n : Nat) (z : (lo + (n : Int) - r) % L = 0) : nthOf L r lo ((foundIn L r lo n).length : Int) = lo + (n : Int) := by
  rw [found_len h]
  unfold nthOf
  have st := div_step (y := lo + (n : Int) - r) h
  rw [if_pos z] at st
  have d := Int.emod_add_mul_ediv (lo + (n : Int) - r) L
  rw [z] at d
  have d2 := Int.emod_add_mul_ediv (r - lo) L
  have e2 : (lo - 1 - r) / L = -((r - lo) / L) - 1 := by
    have m0 := Int.emod_nonneg (r - lo) (show L ≠ 0 by omega)
    have m1 := Int.emod_lt_of_pos (r - lo) h
    have e : lo - 1 - r = (L - 1 - (r - lo) % L) + L * (-((r - lo) / L) - 1) := by grind
    rw [e, Int.add_mul_ediv_left _ _ (by omega), Int.ediv_eq_zero_of_lt (by omega) (by omega)]
    omega
  rw [show lo + (n : Int) - 1 - r = lo + (n : Int) - r - 1 by omega, show (lo + (n : Int) - r - 1) / L = (lo + (n : Int) - r) / L - 1 by omega, e2]
  generalize (lo + (n : Int) - r) / L = q at *
  generalize (r - lo) / L = v at *
  generalize (r - lo) % L = m at *
  grind
theorem found_nth {L r lo : Int} (h : 0 < L) : ∀ n : Nat, (List.range (foundIn L r lo n).length).map (fun k : Nat => nthOf L r lo (k : Int)) = foundIn L r lo n
  | 0 => rfl
  | n + 1 => by
    have ih := found_nth (r := r) (lo := lo) h n
    have e : foundIn L r lo (n + 1) = foundIn L r lo n ++ (if (lo + (n : Int) - r) % L = 0 then [lo + (n : Int)] else []) := rfl
    rw [e]
    by_cases z : (lo + (n : Int) - r) % L = 0
    · rw [if_pos z, List.length_append, List.length_singleton, List.range_succ, List.map_append, ih, List.map_singleton, nth_at h n z]
    · rw [if_neg z, List.append_nil, ih]
/-- the look at each fact is the look at the rest by all -/
theorem all_iff {x y : Int} {fs : List (Int × Int)} (hf : ∀ p ∈ fs, Fact p) (hx : Fits x fs) :
    (fs.all fun p => decide ((y - p.1) % p.2 = 0)) = decide ((y - x % (lcmAll fs : Int)) % (lcmAll fs : Int) = 0) := by
  have e1 : (fs.all fun p => decide ((y - p.1) % p.2 = 0)) = true ↔ Fits y fs := by
    rw [List.all_eq_true]
    constructor
    · intro h p hp
      have a := of_decide_eq_true (h p hp)
      have fp := hf p hp
      have := Int.emod_eq_emod_iff_emod_sub_eq_zero.mpr a
      rw [this]
      exact Int.emod_eq_of_lt fp.2.2.1 fp.2.2.2
    · intro h p hp
      have fp := hf p hp
      refine decide_eq_true (Int.emod_eq_emod_iff_emod_sub_eq_zero.mp ?_)
      rw [h p hp]
      exact (Int.emod_eq_of_lt fp.2.2.1 fp.2.2.2).symm
  rw [fits_iff hf hx] at e1
  have e2 : (y - x % (lcmAll fs : Int)) % (lcmAll fs : Int) = 0 ↔ (lcmAll fs : Int) ∣ y - x := by
    constructor
    · intro h
      have := Int.emod_eq_emod_iff_emod_sub_eq_zero.mpr h
      rw [Int.emod_emod_of_dvd x (Int.dvd_refl _)] at this
      exact Int.dvd_of_emod_eq_zero (Int.emod_eq_emod_iff_emod_sub_eq_zero.mp this)
    · intro h
      refine Int.emod_eq_emod_iff_emod_sub_eq_zero.mp ?_
      rw [Int.emod_emod_of_dvd x (Int.dvd_refl _)]
      exact Int.emod_eq_emod_iff_emod_sub_eq_zero.mpr (Int.emod_eq_zero_of_dvd h)
  rw [← e2] at e1
  by_cases h : (y - x % (lcmAll fs : Int)) % (lcmAll fs : Int) = 0
  · rw [decide_eq_true h]; exact e1.mpr h
  · rw [decide_eq_false h]
    cases b : (fs.all fun p => decide ((y - p.1) % p.2 = 0)) with
    | true => exact absurd (e1.mp b) h
    | false => rfl
end Vf

namespace Vf
theorem two_of {L A N : Int} (h : 0 < L) : (A + N) / L - A / L = N / L ∨ (A + N) / L - A / L = N / L + 1 := by
  have a0 := Int.emod_nonneg A (show L ≠ 0 by omega)
  have a1 := Int.emod_lt_of_pos A h
  have n0 := Int.emod_nonneg N (show L ≠ 0 by omega)
  have n1 := Int.emod_lt_of_pos N h
  have e : A + N = (A % L + N % L) + L * (A / L + N / L) := by
    have := Int.emod_add_mul_ediv A L
    have := Int.emod_add_mul_ediv N L
    grind
  have e2 : (A + N) / L = (A % L + N % L) / L + (A / L + N / L) := by
    rw [e, Int.add_mul_ediv_left _ _ (by omega)]
  have e3 : (A % L + N % L) / L = 0 ∨ (A % L + N % L) / L = 1 := by
    by_cases c : A % L + N % L < L
    · exact Or.inl (Int.ediv_eq_zero_of_lt (by omega) c)
    · refine Or.inr ?_
      rw [show A % L + N % L = (A % L + N % L - L) + L * 1 by omega, Int.add_mul_ediv_left _ _ (by omega), Int.ediv_eq_zero_of_lt (by omega) (by omega)]
      rfl
  omega
theorem count_L {L A : Int} (h : 0 < L) : (A + L) / L - A / L = 1 := by
  rw [show A + L = A + L * 1 by omega, Int.add_mul_ediv_left _ _ (by omega)]
  omega
theorem nth_q {L r lo k : Int} : nthOf L r lo k - r = L * (k - (r - lo) / L) := by
  unfold nthOf
  have d2 := Int.emod_add_mul_ediv (r - lo) L
  grind
theorem nth_fits {L r lo k : Int} : (nthOf L r lo k - r) % L = 0 := by
  rw [nth_q]
  exact Int.mul_emod_right _ _
theorem nth_count {L r lo k : Int} (h : 0 < L) : (nthOf L r lo k - 1 - r) / L - (lo - 1 - r) / L = k := by
  have q := nth_q (L := L) (r := r) (lo := lo) (k := k)
  have e1 : (nthOf L r lo k - 1 - r) / L = k - (r - lo) / L - 1 := by
    rw [show nthOf L r lo k - 1 - r = (L - 1) + L * (k - (r - lo) / L - 1) by rw [show nthOf L r lo k - 1 - r = nthOf L r lo k - r - 1 by omega, q]; grind]
    rw [Int.add_mul_ediv_left _ _ (by omega), Int.ediv_eq_zero_of_lt (by omega) (by omega)]
    omega
  have e2 : (lo - 1 - r) / L = -((r - lo) / L) - 1 := by
    have d2 := Int.emod_add_mul_ediv (r - lo) L
    have m0 := Int.emod_nonneg (r - lo) (show L ≠ 0 by omega)
    have m1 := Int.emod_lt_of_pos (r - lo) h
    have e : lo - 1 - r = (L - 1 - (r - lo) % L) + L * (-((r - lo) / L) - 1) := by grind
    rw [e, Int.add_mul_ediv_left _ _ (by omega), Int.ediv_eq_zero_of_lt (by omega) (by omega)]
    omega
  omega
theorem nth_lo {L r lo k : Int} (h : 0 < L) (hk : 0 ≤ k) : lo ≤ nthOf L r lo k := by
  unfold nthOf
  have m0 := Int.emod_nonneg (r - lo) (show L ≠ 0 by omega)
  have := Int.mul_nonneg hk (show 0 ≤ L by omega)
  omega
end Vf

namespace Vf
/-! ## two facts that may quarrel -/
/-- the place along the one fact at which the other one is met -/
theorem along_math {r s b c g bt ct u w : Int} (hg : 0 < g) (hct : 0 < ct) (eb : b = g * bt) (ec : c = g * ct) (hq : (s - r) % g = 0) (hu : u * bt = 1 + ct * w) :
    (r + b * ((s - r) / g * (u % ct) % ct) - s) % c = 0 := by
  have d : s - r = g * ((s - r) / g) := (Int.mul_ediv_cancel' (Int.dvd_of_emod_eq_zero hq)).symm
  generalize (s - r) / g = t at *
  have e1 := Int.emod_add_mul_ediv u ct
  have e2 := Int.emod_add_mul_ediv (t * (u % ct)) ct
  generalize u / ct = q at *
  generalize t * (u % ct) / ct = v at *
  generalize hm : t * (u % ct) % ct = m at *
  generalize u % ct = n at *
  have key : r + b * m - s = c * (t * w - bt * t * q - bt * v) := by
    have h1 : b * m = g * (bt * m) := by rw [eb, Int.mul_assoc]
    have h2 : bt * m = bt * (t * n) - bt * (ct * v) := by rw [← e2]; grind
    have h3 : u * bt = n * bt + ct * q * bt := by rw [← e1]; grind
    have h4 : n * bt = 1 + ct * w - ct * q * bt := by omega
    have h5 : bt * (t * n) = t * (n * bt) := by grind
    rw [h1, h2, h5, h4, ec]
    have : r - s = -(g * t) := by omega
    grind
  rw [key]
  exact Int.mul_emod_right _ _
theorem cong_lcm {b c : Nat} {x y : Int} (h1 : y % (b : Int) = x % (b : Int)) (h2 : y % (c : Int) = x % (c : Int)) : y % ((Nat.lcm b c : Nat) : Int) = x % ((Nat.lcm b c : Nat) : Int) := by
  have d1 : (b : Int) ∣ y - x := Int.dvd_of_emod_eq_zero (Int.emod_eq_emod_iff_emod_sub_eq_zero.mp h1)
  have d2 : (c : Int) ∣ y - x := Int.dvd_of_emod_eq_zero (Int.emod_eq_emod_iff_emod_sub_eq_zero.mp h2)
  have n1 : b ∣ (y - x).natAbs := Int.ofNat_dvd_left.mp d1
  have n2 : c ∣ (y - x).natAbs := Int.ofNat_dvd_left.mp d2
  exact Int.emod_eq_emod_iff_emod_sub_eq_zero.mpr (Int.emod_eq_zero_of_dvd (Int.ofNat_dvd_left.mpr (Nat.lcm_dvd n1 n2)))
/-- what both make: R is the one number of a round that fits both -/
theorem both_iff {b c : Nat} {r s R : Int} (b0 : 0 < b) (c0 : 0 < c) (h0 : 0 ≤ R) (h1 : R < (Nat.lcm b c : Nat)) (e1 : R % (b : Int) = r) (e2 : R % (c : Int) = s) (x : Int) :
    (x % (b : Int) = r ∧ x % (c : Int) = s) ↔ x % ((Nat.lcm b c : Nat) : Int) = R := by
  constructor
  · rintro ⟨h2, h3⟩
    rw [cong_lcm (x := R) (h2.trans e1.symm) (h3.trans e2.symm), Int.emod_eq_of_lt h0 h1]
  · intro h
    have d1 : (b : Int) ∣ ((Nat.lcm b c : Nat) : Int) := Int.natCast_dvd_natCast.mpr (Nat.dvd_lcm_left b c)
    have d2 : (c : Int) ∣ ((Nat.lcm b c : Nat) : Int) := Int.natCast_dvd_natCast.mpr (Nat.dvd_lcm_right b c)
    rw [← Int.emod_emod_of_dvd x d1, ← Int.emod_emod_of_dvd x d2, h]
    exact ⟨e1, e2⟩
theorem quarrel_none {b c : Nat} {r s : Int} (h : (s - r) % ((Nat.gcd b c : Nat) : Int) ≠ 0) (x : Int) : ¬ (x % (b : Int) = r ∧ x % (c : Int) = s) := by
  rintro ⟨rfl, rfl⟩
  apply h
  have d1 : ((Nat.gcd b c : Nat) : Int) ∣ (b : Int) := Int.natCast_dvd_natCast.mpr (Nat.gcd_dvd_left b c)
  have d2 : ((Nat.gcd b c : Nat) : Int) ∣ (c : Int) := Int.natCast_dvd_natCast.mpr (Nat.gcd_dvd_right b c)
  refine Int.emod_eq_emod_iff_emod_sub_eq_zero.mp ?_
  rw [Int.emod_emod_of_dvd x d1, Int.emod_emod_of_dvd x d2]
/-- R is what the facts make -/
def Jn (fs : List (Int × Int)) (R : Int) : Prop := 0 ≤ R ∧ R < (lcmAll fs : Int) ∧ ∀ x, Fits x fs ↔ x % (lcmAll fs : Int) = R
theorem Jn.nil : Jn [] 0 := ⟨by decide, by decide, fun x => ⟨fun _ => Int.emod_one x, fun _ p hp => absurd hp List.not_mem_nil⟩⟩
theorem fits_snoc {x : Int} {fs : List (Int × Int)} {p : Int × Int} : Fits x (fs ++ [p]) ↔ Fits x fs ∧ x % p.2 = p.1 := by
  constructor
  · intro h
    exact ⟨fun q hq => h q (List.mem_append_left _ hq), h p (List.mem_append_right _ List.mem_cons_self)⟩
  · rintro ⟨h1, h2⟩ q hq
    rcases List.mem_append.mp hq with hq | hq
    · exact h1 q hq
    · rw [List.mem_singleton.mp hq]
      exact h2
theorem Jn.snoc {fs : List (Int × Int)} {p : Int × Int} {R S : Int} (h : Jn fs R) (hp : Fact p) (l0 : 0 < lcmAll fs) (h0 : 0 ≤ S) (h1 : S < (Nat.lcm (lcmAll fs) p.2.natAbs : Nat)) (e1 : S % (lcmAll fs : Int) = R) (e2 : S % p.2 = p.1) : Jn (fs ++ [p]) S := by
  have ep : ((p.2.natAbs : Nat) : Int) = p.2 := by have := hp.1; omega
  refine ⟨h0, by rw [lcmAll_snoc]; exact h1, fun x => ?_⟩
  rw [fits_snoc, h.2.2 x, lcmAll_snoc, ← both_iff (r := R) (s := p.1) l0 (by have := hp.1; omega) h0 h1 e1 (by rw [ep]; exact e2) x, ep]
/-- facts that some number fits make its rest -/
theorem Jn.of_fits {fs : List (Int × Int)} {x R : Int} (hf : ∀ p ∈ fs, Fact p) (hx : Fits x fs) : Jn fs (x % (lcmAll fs : Int)) := by
  have l0 : (0 : Int) < lcmAll fs := by
    have := lcmAll_pos fs 1 hf (by decide)
    exact Int.natCast_pos.mpr this
  refine ⟨Int.emod_nonneg _ (by omega), Int.emod_lt_of_pos _ l0, fun y => ?_⟩
  rw [fits_iff hf hx]
  constructor
  · intro h
    exact Int.emod_eq_emod_iff_emod_sub_eq_zero.mpr (Int.emod_eq_zero_of_dvd h)
  · intro h
    exact Int.dvd_of_emod_eq_zero (Int.emod_eq_emod_iff_emod_sub_eq_zero.mp h)
theorem Jn.fits {fs : List (Int × Int)} {R : Int} (h : Jn fs R) : Fits R fs := (h.2.2 R).mpr (Int.emod_eq_of_lt h.1 h.2.1)
theorem Jn.one {fs : List (Int × Int)} {R S : Int} (h : Jn fs R) (h' : Jn fs S) : R = S := by
  have z := (h'.2.2 R).mp h.fits
  rw [Int.emod_eq_of_lt h.1 h.2.1] at z
  exact z
end Vf

namespace Vf
/-! ## facts of which no two quarrel fit together -/
def Quar (p o : Int × Int) : Prop := (p.1 - o.1) % ((Nat.gcd p.2.natAbs o.2.natAbs : Nat) : Int) ≠ 0
theorem snoc_ind {α : Type} {M : List α → Prop} (h0 : M []) (h1 : ∀ xs x, M xs → M (xs ++ [x])) (xs : List α) : M xs := by
  have h : ∀ ys : List α, M ys.reverse := by
    intro ys
    induction ys with
    | nil => exact h0
    | cons y ys ih =>
      rw [List.reverse_cons]
      exact h1 _ _ ih
  rw [← List.reverse_reverse xs]
  exact h _
theorem bez (a b : Nat) : ∃ u v : Int, u * a + v * b = ((Nat.gcd a b : Nat) : Int) := by
  induction a, b using Nat.gcd.induction with
  | H0 n => exact ⟨0, 1, by simp⟩
  | H1 m n hm ih =>
    obtain ⟨u, v, e⟩ := ih
    refine ⟨v - u * (n / m : Nat), u, ?_⟩
    rw [Nat.gcd_rec, ← e]
    have z : (n : Int) = (n % m : Nat) + m * (n / m : Nat) := by
      have := Nat.mod_add_div n m
      rw [← Int.natCast_mul, ← Int.natCast_add, this]
    rw [z]
    generalize ((n % m : Nat) : Int) = r
    generalize ((n / m : Nat) : Int) = q
    grind
/-- what two bases have in common with a third one, so has their least common multiple -/
theorem gcd_lcm_dvd {a b c : Nat} {t : Int} (ha : 0 < a) (h1 : ((Nat.gcd a c : Nat) : Int) ∣ t) (h2 : ((Nat.gcd b c : Nat) : Int) ∣ t) : ((Nat.gcd (Nat.lcm a b) c : Nat) : Int) ∣ t := by
  have g0 : 0 < Nat.gcd a b := Nat.gcd_pos_of_pos_left _ ha
  have ea : a = Nat.gcd a b * (a / Nat.gcd a b) := (Nat.mul_div_cancel' (Nat.gcd_dvd_left a b)).symm
  have eb : b = Nat.gcd a b * (b / Nat.gcd a b) := (Nat.mul_div_cancel' (Nat.gcd_dvd_right a b)).symm
  have cop : Nat.gcd (a / Nat.gcd a b) (b / Nat.gcd a b) = 1 := by rw [Nat.gcd_div (Nat.gcd_dvd_left a b) (Nat.gcd_dvd_right a b), Nat.div_self g0]
  have el : Nat.lcm a b = a * (b / Nat.gcd a b) := Nat.mul_div_assoc a (Nat.gcd_dvd_right a b)
  have el2 : Nat.lcm a b = b * (a / Nat.gcd a b) := by
    rw [Nat.lcm_comm, Nat.gcd_comm]
    exact Nat.mul_div_assoc b (Nat.gcd_dvd_right b a)
  have d1 : ((Nat.gcd (Nat.lcm a b) c : Nat) : Int) ∣ ((Nat.lcm a b : Nat) : Int) := Int.natCast_dvd_natCast.mpr (Nat.gcd_dvd_left _ _)
  have d2 : ((Nat.gcd (Nat.lcm a b) c : Nat) : Int) ∣ (c : Int) := Int.natCast_dvd_natCast.mpr (Nat.gcd_dvd_right _ _)
  generalize a / Nat.gcd a b = a' at *
  generalize b / Nat.gcd a b = b' at *
  have key : ∀ {p q : Nat}, ((Nat.gcd p c : Nat) : Int) ∣ t → Nat.lcm a b = p * q → ((Nat.gcd (Nat.lcm a b) c : Nat) : Int) ∣ q * t := by
    intro p q hp e
    have n1 : Nat.gcd (Nat.lcm a b) c ∣ q * Nat.gcd p c := by
      rw [← Nat.gcd_mul_left]
      refine Nat.dvd_gcd ?_ ?_
      · rw [Nat.mul_comm q p, ← e]
        exact Nat.gcd_dvd_left _ _
      · exact Nat.dvd_trans (Nat.gcd_dvd_right _ _) (Nat.dvd_mul_left _ _)
    refine Int.dvd_trans (Int.natCast_dvd_natCast.mpr n1) ?_
    rw [Int.natCast_mul]
    exact Int.mul_dvd_mul_left _ hp
  have k1 := key h1 el
  have k2 := key h2 el2
  obtain ⟨u, v, e⟩ : ∃ u v : Int, u * a' + v * b' = 1 := by
    obtain ⟨u, v, e⟩ := bez a' b'
    rw [cop] at e
    exact ⟨u, v, e⟩
  have et : t = u * (a' * t) + v * (b' * t) := by
    rw [← Int.mul_assoc, ← Int.mul_assoc, ← Int.add_mul, e, Int.one_mul]
  rw [et]
  exact Int.dvd_add (Int.dvd_trans k2 (Int.dvd_mul_left _ _)) (Int.dvd_trans k1 (Int.dvd_mul_left _ _))
/-- the base with what all bases have in common -/
theorem gcd_all_dvd {c : Nat} {t : Int} : ∀ (fs : List (Int × Int)), (∀ p ∈ fs, Fact p) → (∀ p ∈ fs, ((Nat.gcd p.2.natAbs c : Nat) : Int) ∣ t) → ((Nat.gcd (lcmAll fs) c : Nat) : Int) ∣ t := by
  refine fun fs => snoc_ind (M := fun fs => (∀ p ∈ fs, Fact p) → (∀ p ∈ fs, ((Nat.gcd p.2.natAbs c : Nat) : Int) ∣ t) → ((Nat.gcd (lcmAll fs) c : Nat) : Int) ∣ t) ?_ (fun fs p ih => ?_) fs
  · intro _ _
    show ((Nat.gcd 1 c : Nat) : Int) ∣ t
    rw [Nat.gcd_one_left]
    exact Int.one_dvd t
  · intro hf h
    rw [lcmAll_snoc]
    have hf' : ∀ q ∈ fs, Fact q := fun q hq => hf q (List.mem_append_left _ hq)
    exact gcd_lcm_dvd (lcmAll_pos fs 1 hf' (by decide)) (ih hf' fun q hq => h q (List.mem_append_left _ hq)) (h p (List.mem_append_right _ List.mem_cons_self))
/-- of two facts that do not quarrel some number fits both -/
theorem both_ex {b c : Nat} {r s : Int} (b0 : 0 < b) (c0 : 0 < c) (r0 : 0 ≤ r) (r1 : r < b) (s0 : 0 ≤ s) (s1 : s < c) (h : (s - r) % ((Nat.gcd b c : Nat) : Int) = 0) :
    ∃ x : Int, x % (b : Int) = r ∧ x % (c : Int) = s := by
  have g0 : 0 < Nat.gcd b c := Nat.gcd_pos_of_pos_left _ b0
  have e1 : b = Nat.gcd b c * (b / Nat.gcd b c) := (Nat.mul_div_cancel' (Nat.gcd_dvd_left b c)).symm
  have e2 : c = Nat.gcd b c * (c / Nat.gcd b c) := (Nat.mul_div_cancel' (Nat.gcd_dvd_right b c)).symm
  have cop : Nat.gcd (b / Nat.gcd b c) (c / Nat.gcd b c) = 1 := by rw [Nat.gcd_div (Nat.gcd_dvd_left b c) (Nat.gcd_dvd_right b c), Nat.div_self g0]
  generalize Nat.gcd b c = g at *
  generalize b / g = bt at *
  generalize c / g = ct at *
  have ct0 : 0 < ct := by
    rcases Nat.eq_zero_or_pos ct with z | z
    · rw [z] at e2; omega
    · exact z
  obtain ⟨u, v, e⟩ := bez bt ct
  rw [cop] at e
  have am := along_math (r := r) (s := s) (b := b) (c := c) (g := g) (bt := bt) (ct := ct) (u := u) (w := -v) (by omega) (by omega) (by rw [e1]; push_cast; rfl) (by rw [e2]; push_cast; rfl) h (by
    have e' : u * (bt : Int) + v * (ct : Int) = 1 := e
    have : (ct : Int) * -v = -(v * ct) := by grind
    omega)
  refine ⟨r + b * ((s - r) / g * (u % ct) % ct), ?_, ?_⟩
  · rw [Int.add_mul_emod_self_left, Int.emod_eq_of_lt r0 r1]
  · rw [Int.emod_eq_emod_iff_emod_sub_eq_zero.mpr am, Int.emod_eq_of_lt s0 s1]
/-- Sun Tzu, Gauss: facts of which no two quarrel make one fact -/
theorem sun_tzu : ∀ (fs : List (Int × Int)), (∀ p ∈ fs, Fact p) → (∀ p ∈ fs, ∀ o ∈ fs, (p.1 - o.1) % ((Nat.gcd p.2.natAbs o.2.natAbs : Nat) : Int) = 0) → ∃ x, Fits x fs := by
  refine fun fs => snoc_ind (M := fun fs => (∀ p ∈ fs, Fact p) → (∀ p ∈ fs, ∀ o ∈ fs, (p.1 - o.1) % ((Nat.gcd p.2.natAbs o.2.natAbs : Nat) : Int) = 0) → ∃ x, Fits x fs) ?_ (fun fs p ih => ?_) fs
  · exact fun _ _ => ⟨0, fun p hp => absurd hp List.not_mem_nil⟩
  · intro hf h
    have hf' : ∀ q ∈ fs, Fact q := fun q hq => hf q (List.mem_append_left _ hq)
    have hp : Fact p := hf p (List.mem_append_right _ List.mem_cons_self)
    obtain ⟨x, hx⟩ := ih hf' fun a ha b hb => h a (List.mem_append_left _ ha) b (List.mem_append_left _ hb)
    have l0 := lcmAll_pos fs 1 hf' (by decide)
    have ep : ((p.2.natAbs : Nat) : Int) = p.2 := by have := hp.1; omega
    have dv : ((Nat.gcd (lcmAll fs) p.2.natAbs : Nat) : Int) ∣ p.1 - x := by
      refine gcd_all_dvd fs hf' fun q hq => ?_
      have d1 : ((Nat.gcd q.2.natAbs p.2.natAbs : Nat) : Int) ∣ p.1 - q.1 := by
        have z := h p (List.mem_append_right _ List.mem_cons_self) q (List.mem_append_left _ hq)
        rw [Nat.gcd_comm] at z
        exact Int.dvd_of_emod_eq_zero z
      have fq := hf' q hq
      have d2 : ((Nat.gcd q.2.natAbs p.2.natAbs : Nat) : Int) ∣ q.1 - x := by
        have e : q.1 - x = -(q.2 * (x / q.2)) := by
          have := Int.emod_add_mul_ediv x q.2
          have z := hx q hq
          omega
        rw [e]
        refine Int.dvd_neg.mpr (Int.dvd_trans ?_ (Int.dvd_mul_right _ _))
        have : ((q.2.natAbs : Nat) : Int) = q.2 := by have := fq.1; omega
        rw [← this]
        exact Int.natCast_dvd_natCast.mpr (Nat.gcd_dvd_left _ _)
      have e : p.1 - x = (p.1 - q.1) + (q.1 - x) := by omega
      rw [e]
      exact Int.dvd_add d1 d2
    have lI : (0 : Int) < (lcmAll fs : Int) := Int.natCast_pos.mpr l0
    obtain ⟨y, h1, h2⟩ := both_ex (b := lcmAll fs) (c := p.2.natAbs) (r := x % (lcmAll fs : Int)) (s := p.1) l0 (by have := hp.1; omega) (Int.emod_nonneg _ (by omega)) (Int.emod_lt_of_pos _ lI) hp.2.2.1 (by rw [ep]; exact hp.2.2.2) (by
      refine Int.emod_eq_zero_of_dvd ?_
      have e : p.1 - x % (lcmAll fs : Int) = (p.1 - x) + (lcmAll fs : Int) * (x / (lcmAll fs : Int)) := by
        have := Int.emod_add_mul_ediv x (lcmAll fs : Int)
        omega
      rw [e]
      exact Int.dvd_add dv (Int.dvd_trans (Int.natCast_dvd_natCast.mpr (Nat.gcd_dvd_left _ _)) (Int.dvd_mul_right _ _)))
    refine ⟨y, fits_snoc.mpr ⟨(fits_iff hf' hx).mpr ?_, by rw [← ep]; exact h2⟩⟩
    exact Int.dvd_of_emod_eq_zero (Int.emod_eq_emod_iff_emod_sub_eq_zero.mp h1)
end Vf

namespace Vf
/-! ## rests by a base of all that fit, and how many fit -/
theorem asc_ext : ∀ {xs ys : List Int}, xs.Pairwise (· < ·) → ys.Pairwise (· < ·) → (∀ k, k ∈ xs ↔ k ∈ ys) → xs = ys
  | [], [], _, _, _ => rfl
  | [], y :: ys, _, _, h => absurd ((h y).mpr List.mem_cons_self) List.not_mem_nil
  | x :: xs, [], _, _, h => absurd ((h x).mp List.mem_cons_self) List.not_mem_nil
  | x :: xs, y :: ys, hx, hy, h => by
    obtain ⟨a1, a2⟩ := List.pairwise_cons.mp hx
    obtain ⟨b1, b2⟩ := List.pairwise_cons.mp hy
    have e : x = y := by
      rcases List.mem_cons.mp ((h x).mp List.mem_cons_self) with z | z
      · exact z
      · rcases List.mem_cons.mp ((h y).mpr List.mem_cons_self) with v | v
        · exact v.symm
        · have := a1 y v
          have := b1 x z
          omega
    subst e
    rw [asc_ext a2 b2 fun k => ⟨fun z => ?_, fun z => ?_⟩]
    · rcases List.mem_cons.mp ((h k).mp (List.mem_cons_of_mem _ z)) with v | v
      · have := a1 k z
        omega
      · exact v
    · rcases List.mem_cons.mp ((h k).mpr (List.mem_cons_of_mem _ z)) with v | v
      · have := b1 k z
        omega
      · exact v
theorem rest_iff {L b : Nat} {R : Int} (L0 : 0 < L) (b0 : 0 < b) (h0 : 0 ≤ R) (h1 : R < L) (r : Int) :
    (∃ x : Int, 0 ≤ x ∧ x < ((Nat.lcm L b : Nat) : Int) ∧ x % (L : Int) = R ∧ x % (b : Int) = r) ↔ 0 ≤ r ∧ r < b ∧ r % ((Nat.gcd L b : Nat) : Int) = R % ((Nat.gcd L b : Nat) : Int) := by
  have d1 : ((Nat.gcd L b : Nat) : Int) ∣ (L : Int) := Int.natCast_dvd_natCast.mpr (Nat.gcd_dvd_left L b)
  have d2 : ((Nat.gcd L b : Nat) : Int) ∣ (b : Int) := Int.natCast_dvd_natCast.mpr (Nat.gcd_dvd_right L b)
  constructor
  · rintro ⟨x, x0, x1, e1, e2⟩
    refine ⟨by rw [← e2]; exact Int.emod_nonneg _ (by omega), by rw [← e2]; exact Int.emod_lt_of_pos _ (by omega), ?_⟩
    rw [← e1, ← e2, Int.emod_emod_of_dvd x d1, Int.emod_emod_of_dvd x d2]
  · rintro ⟨r0, r1, e⟩
    obtain ⟨S, e1, e2⟩ := both_ex L0 b0 h0 h1 r0 r1 (Int.emod_eq_emod_iff_emod_sub_eq_zero.mp e)
    have m0 : 0 < Nat.lcm L b := Nat.lcm_pos L0 b0
    have c1 : (L : Int) ∣ ((Nat.lcm L b : Nat) : Int) := Int.natCast_dvd_natCast.mpr (Nat.dvd_lcm_left L b)
    have c2 : (b : Int) ∣ ((Nat.lcm L b : Nat) : Int) := Int.natCast_dvd_natCast.mpr (Nat.dvd_lcm_right L b)
    exact ⟨S % ((Nat.lcm L b : Nat) : Int), Int.emod_nonneg _ (by omega), Int.emod_lt_of_pos _ (by omega), by rw [Int.emod_emod_of_dvd S c1, e1], by rw [Int.emod_emod_of_dvd S c2, e2]⟩
/-- how many below m leave R by L -/
theorem fit_count {p : Nat → Bool} {L R : Nat} (hR : R < L) (h : ∀ i, p i = true ↔ i % L = R) : ∀ m, ((List.range m).filter p).length = (m + (L - 1 - R)) / L
  | 0 => by
    rw [Nat.zero_add, Nat.div_eq_of_lt (by omega)]
    rfl
  | m + 1 => by
    rw [List.range_succ, List.filter_append, List.length_append, fit_count hR h m, show m + 1 + (L - 1 - R) = (m + (L - 1 - R)) + 1 by omega, Nat.succ_div]
    congr 1
    by_cases c : p m = true
    · have e := (h m).mp c
      rw [if_pos]
      · simp [c]
      · have q := Nat.div_add_mod m L
        refine ⟨m / L + 1, ?_⟩
        rw [Nat.mul_add]
        generalize L * (m / L) = z at *
        omega
    · rw [if_neg]
      · simp [c]
      · rintro ⟨k, hk⟩
        refine c ((h m).mpr ?_)
        have k1 : 1 ≤ k := by
          rcases Nat.eq_zero_or_pos k with z | z
          · subst z
            omega
          · exact z
        obtain ⟨j, rfl⟩ : ∃ j, k = j + 1 := ⟨k - 1, by omega⟩
        rw [Nat.mul_add] at hk
        have e : m = R + L * j := by
          generalize L * j = z at *
          omega
        rw [e, Nat.add_mul_mod_self_left, Nat.mod_eq_of_lt hR]
theorem fit_count_mul {p : Nat → Bool} {L R t : Nat} (hR : R < L) (h : ∀ i, p i = true ↔ i % L = R) : ((List.range (L * t)).filter p).length = t := by
  rw [fit_count hR h, Nat.add_comm, Nat.add_mul_div_left _ _ (by omega), Nat.div_eq_of_lt (by omega), Nat.zero_add]
end Vf

namespace Vf
open PySem PySem.Spec PyProof.Rows L2
/-! ## zip(t, u) of two tuples, each pair under one name -/
/-- a zip in any state: what it gave out last, whether it knows that this lives -/
def Zst (h : Heap) (u TI TO : Addr) (f0 f1 : Value) : Prop := h.get? u = some ⟨.type "zip", none, .fields #[f0, f1, .bool false, .ref TI, .ref TO], #[]⟩
def Out (f0 : Value) : Prop := f0 = .none ∨ ∃ T : Nat, f0 = rawInt (T : Int)
def Flag (f1 : Value) : Prop := ∃ b, f1 = .bool b
section
variable {prog : Program} {w : World} {A : Around} {E : Value → Shared → Prop} {s : Shared}
theorem alive_any {a : Addr} {Q : Option Obj → Shared → Prop} (h : Q (s.heap.get? a) s) : wpAny (model prog w) A (loadIfAlive a) Q E s := fun _ _ _ => h
theorem z_free {u TI TO : Addr} {f0 f1 : Value} {Q : Bool → Shared → Prop} (o0 : Out f0) (o1 : Flag f1) (zz : Zst s.heap u TI TO f0 f1) (h1 : Q true s)
    (h2 : ∀ h' g1, Flag g1 → Zst h' u TI TO f0 g1 → Heap.SameBut u s.heap h' → Q false { s with heap := h' }) : wpAny (model prog w) A (Builtin.SmallTypes.ownedTupleIsFree (.ref u)) Q E s := by
  unfold Builtin.SmallTypes.ownedTupleIsFree
  refine wpAny_bind (wpAny_field (x := f0) zz rfl rfl ?_)
  rcases o0 with e | ⟨T, e⟩
  · subst e
    exact wpAny_pure h1
  · subst e
    show wpAny _ _ (loadIfAlive _ >>= _) _ _ _
    refine wpAny_bind (alive_any ?_)
    cases s.heap.get? (T : Int).toNat with
    | none => exact wpAny_pure h1
    | some o =>
      obtain ⟨b, e⟩ := o1
      subst e
      show wpAny _ _ (field (.ref u) 1 >>= _) _ _ _
      refine wpAny_bind (wpAny_field (x := .bool b) zz rfl rfl ?_)
      cases b with
      | true => exact wpAny_pure (h2 s.heap _ ⟨true, rfl⟩ zz (Heap.SameBut.refl _ _))
      | false =>
        exact wpAny_bind (wpAny_setField_rec zz (by simp) fun h' z' sb => wpAny_pure (h2 h' _ ⟨true, rfl⟩ z' sb))
/-- what a turn leaves -/
def ZNext (s : Shared) (u TI TO i1 i2 l1 l2 : Addr) (k1 k2 : Nat) (x y : Value) (h' : Heap) : Prop :=
  (∃ g0 g1, Out g0 ∧ Flag g1 ∧ Zst h' u TI TO g0 g1) ∧ (∃ a b, IsPair h' TO a b) ∧ h'.IsTupleIter i1 l1 (k1 + 1) ∧ h'.IsTupleIter i2 l2 (k2 + 1) ∧ IsPair h' s.heap.objs.size x y ∧ h'.objs.size = s.heap.objs.size + 1 ∧
    ∀ c o, c ≠ u → c ≠ TO → c ≠ i1 → c ≠ i2 → s.heap.get? c = some o → h'.get? c = some o
theorem zn_item {u TI TO i1 i2 l1 l2 : Addr} {f0 f1 : Value} {k1 k2 : Nat} {xs ys : Array Value} {x y a b : Value} {Q : Value → Shared → Prop} (D : ZipApart u TI TO i1 i2 l1 l2) (o0 : Out f0) (o1 : Flag f1)
    (zz : Zst s.heap u TI TO f0 f1) (ti : IsPair s.heap TI (.ref i1) (.ref i2)) (to : IsPair s.heap TO a b) (h1 : s.heap.IsTupleIter i1 l1 k1) (h2 : s.heap.IsTupleIter i2 l2 k2)
    (t1 : s.heap.IsTuple l1 xs) (t2 : s.heap.IsTuple l2 ys) (ex : xs[k1]? = some x) (ey : ys[k2]? = some y) (q : ∀ h', ZNext s u TI TO i1 i2 l1 l2 k1 k2 x y h' → Q (.ref s.heap.objs.size) { s with heap := h' }) :
    wpAny (model prog w) A (Builtin.«zip.__next__» ⟨[.ref u], []⟩) (fun r s' => ∃ v, r = .done (.ret v) ∧ Q v s') E s := by
  show wpAny _ _ (field (.ref u) 2 >>= _) _ _ _
  refine wpAny_bind (wpAny_field (x := .bool false) zz rfl rfl ?_)
  show wpAny _ _ (field (.ref u) 3 >>= _) _ _ _
  refine wpAny_bind (wpAny_field (x := .ref TI) zz rfl rfl ?_)
  refine wpAny_bind (wpAny_seqItems ti rfl ?_)
  show wpAny _ _ (Builtin.SmallTypes.ownedTupleIsFree (.ref u) >>= _) _ _ _
  refine wpAny_bind (z_free o0 o1 zz ?_ fun m1 g1 og zm sb1 => ?_)
  · simp only [if_true]
    refine wpAny_bind <| wpAny_rule ?_
    refine wpAny_bind (wpAny_field (x := .ref TO) zz rfl rfl ?_)
    refine wpAny_bind (wpAny_setField_rec zz (by simp) fun m1 zm sb1 => ?_)
    replace zm : Zst m1 u TI TO .ellipsis f1 := zm
    refine wpAny_bind ?_
    rw [List.zipIdx_cons, List.zipIdx_cons, List.zipIdx_nil]
    simp only [List.forIn_cons, List.forIn_nil]
    refine wpAny_bind <| wpAny_bind <| wpAny_onRaise ?_
    show wpAny _ _ (Builtin.SmallTypes.nextOf (Value.ref i1) >>= _) _ _ _
    refine wpAny_bind (RZ.nextOf_tuple_item (h1.extBut sb1.extBut D.i1z) (t1.extBut sb1.extBut D.l1z) ex fun m2 n1 sb2 => wpAny_pure ?_)
    have to2 : IsPair m2 TO a b := sb2.extBut _ _ D.TOi1 (sb1.extBut _ _ D.TOz to)
    refine wpAny_bind (wpAny_seqItems to2 rfl ?_)
    refine wpAny_bind (wpAny_updateSeq_pair to2 fun m3 to3 sb3 => ?_)
    replace to3 : IsPair m3 TO x b := to3
    refine wpAny_bind <| wpAny_letGo <| wpAny_pure ?_
    refine wpAny_bind <| wpAny_bind <| wpAny_onRaise ?_
    show wpAny _ _ (Builtin.SmallTypes.nextOf (Value.ref i2) >>= _) _ _ _
    have p2 : m3.IsTupleIter i2 l2 k2 := ((h2.extBut sb1.extBut D.i2z).extBut sb2.extBut D.i12.symm).extBut sb3.extBut D.TOi2.symm
    have q2 : m3.IsTuple l2 ys := ((t2.extBut sb1.extBut D.l2z).extBut sb2.extBut D.l2i1).extBut sb3.extBut D.l2TO
    refine wpAny_bind (RZ.nextOf_tuple_item p2 q2 ey fun m4 n2 sb4 => wpAny_pure ?_)
    have to4 : IsPair m4 TO x b := sb4.extBut _ _ D.TOi2 to3
    refine wpAny_bind (wpAny_seqItems to4 rfl ?_)
    refine wpAny_bind (wpAny_updateSeq_pair to4 fun m5 to5 sb5 => ?_)
    replace to5 : IsPair m5 TO x y := to5
    refine wpAny_bind <| wpAny_letGo <| wpAny_pure <| wpAny_pure ?_
    refine wpAny_bind (wpAny_seqItems to5 rfl ?_)
    refine wpAny_bind <| wpAny_newTuple ?_
    have sz : m5.objs.size = s.heap.objs.size := by rw [sb5.1, sb4.1, sb3.1, sb2.1, sb1.1]
    have z5 : Zst m5 u TI TO .ellipsis f1 := sb5.extBut _ _ D.TOz.symm (sb4.extBut _ _ D.i2z.symm (sb3.extBut _ _ D.TOz.symm (sb2.extBut _ _ D.i1z.symm zm)))
    have k5 : ∀ c o, c ≠ u → c ≠ TO → c ≠ i1 → c ≠ i2 → s.heap.get? c = some o → m5.get? c = some o := fun c o c1 c2 c3 c4 e => sb5.extBut _ _ c2 (sb4.extBut _ _ c4 (sb3.extBut _ _ c2 (sb2.extBut _ _ c3 (sb1.extBut _ _ c1 e))))
    have r1 : m5.IsTupleIter i1 l1 (k1 + 1) := ((n1.extBut sb3.extBut D.TOi1.symm).extBut sb4.extBut D.i12).extBut sb5.extBut D.TOi1.symm
    have r2 : m5.IsTupleIter i2 l2 (k2 + 1) := n2.extBut sb5.extBut D.TOi2.symm
    have ul : u < m5.objs.size := Heap.lt_size z5
    show wpAny _ _ (Builtin.SmallTypes.ownedTupleHandOut (.ref u) (.ref m5.objs.size) >>= _) _ _ _
    refine wpAny_bind ?_
    unfold Builtin.SmallTypes.ownedTupleHandOut
    have z6 : Zst (m5.push { cls := .type "tuple", data := .seq #[x, y] }) u TI TO .ellipsis f1 := Heap.get?_push_of_some _ z5
    refine wpAny_bind (wpAny_setField_rec z6 (by simp) fun m7 z7 sb7 => ?_)
    replace z7 : Zst m7 u TI TO (rawInt m5.objs.size) f1 := z7
    refine wpAny_setField_rec z7 (by simp) fun m8 z8 sb8 => ?_
    replace z8 : Zst m8 u TI TO (rawInt m5.objs.size) (.bool false) := z8
    have up : ∀ c o, c ≠ u → m5.get? c = some o → m8.get? c = some o := fun c o c1 e => sb8.extBut _ _ c1 (sb7.extBut _ _ c1 (Heap.get?_push_of_some _ e))
    have np : IsPair m8 m5.objs.size x y := sb8.extBut _ _ (Nat.ne_of_gt ul) (sb7.extBut _ _ (Nat.ne_of_gt ul) (Heap.get?_push_size _ rfl))
    have sz8 : m8.objs.size = m5.objs.size + 1 := by rw [sb8.1, sb7.1, Heap.size_push]
    refine wpAny_pure ⟨_, rfl, ?_⟩
    show Q (.ref m5.objs.size) _
    rw [sz] at z8 np sz8 ⊢
    exact q m8 ⟨⟨_, _, .inr ⟨_, rfl⟩, ⟨_, rfl⟩, z8⟩, ⟨x, y, up _ _ D.TOz to5⟩, r1.at fun o e => up _ o D.i1z e, r2.at fun o e => up _ o D.i2z e, np, sz8, fun c o c1 c2 c3 c4 e => up c o c1 (k5 c o c1 c2 c3 c4 e)⟩
  · simp only [Bool.false_eq_true, if_false]
    refine wpAny_bind ?_
    rw [← Array.forIn_toList]
    simp only [List.forIn_cons, List.forIn_nil]
    refine wpAny_bind <| wpAny_bind <| wpAny_holding ?_
    show wpAny _ _ (Builtin.SmallTypes.nextOf (Value.ref i1) >>= _) _ _ _
    refine wpAny_bind (RZ.nextOf_tuple_item (s := { s with heap := m1 }) (h1.extBut sb1.extBut D.i1z) (t1.extBut sb1.extBut D.l1z) ex fun m2 n1 sb2 => wpAny_pure ?_)
    refine wpAny_pure ?_
    refine wpAny_bind <| wpAny_bind <| wpAny_holding ?_
    show wpAny _ _ (Builtin.SmallTypes.nextOf (Value.ref i2) >>= _) _ _ _
    refine wpAny_bind (RZ.nextOf_tuple_item (s := { s with heap := m2 }) ((h2.extBut sb1.extBut D.i2z).extBut sb2.extBut D.i12.symm) ((t2.extBut sb1.extBut D.l2z).extBut sb2.extBut D.l2i1) ey fun m3 n2 sb3 => wpAny_pure ?_)
    refine wpAny_pure <| wpAny_pure ?_
    show wpAny _ _ (newTuple [x, y] >>= _) _ _ _
    refine wpAny_bind <| wpAny_newTuple ?_
    have sz : m3.objs.size = s.heap.objs.size := by rw [sb3.1, sb2.1, sb1.1]
    have z3 : Zst m3 u TI TO f0 g1 := sb3.extBut _ _ D.i2z.symm (sb2.extBut _ _ D.i1z.symm zm)
    have k3 : ∀ c o, c ≠ u → c ≠ i1 → c ≠ i2 → s.heap.get? c = some o → m3.get? c = some o := fun c o c1 c2 c3 e => sb3.extBut _ _ c3 (sb2.extBut _ _ c2 (sb1.extBut _ _ c1 e))
    have r1 : m3.IsTupleIter i1 l1 (k1 + 1) := n1.extBut sb3.extBut D.i12
    refine wpAny_pure ⟨_, rfl, ?_⟩
    show Q (.ref m3.objs.size) _
    have np : IsPair (m3.push { cls := .type "tuple", data := .seq #[x, y] }) m3.objs.size x y := Heap.get?_push_size _ rfl
    have sz4 : (m3.push { cls := .type "tuple", data := .seq #[x, y] }).objs.size = m3.objs.size + 1 := Heap.size_push ..
    rw [sz] at np sz4 ⊢
    exact q _ ⟨⟨_, _, o0, og, Heap.get?_push_of_some _ z3⟩, ⟨a, b, Heap.get?_push_of_some _ (k3 _ _ D.TOz D.TOi1 D.TOi2 to)⟩, r1.at fun o e => Heap.get?_push_of_some _ e, n2.at fun o e => Heap.get?_push_of_some _ e, np, sz4,
      fun c o c1 _ c3 c4 e => Heap.get?_push_of_some _ (k3 c o c1 c3 c4 e)⟩
/-- what the end leaves -/
def ZEnd (s : Shared) (u TO i1 i2 : Addr) (h' : Heap) : Prop := ∀ c o, c ≠ u → c ≠ TO → c ≠ i1 → c ≠ i2 → s.heap.get? c = some o → h'.get? c = some o
theorem zn_end {u TI TO i1 i2 l1 l2 : Addr} {f0 f1 : Value} {k1 k2 : Nat} {xs ys : Array Value} {a b : Value} {Q : Fin → Shared → Prop} (hh : A.handled = none) (D : ZipApart u TI TO i1 i2 l1 l2) (o0 : Out f0) (o1 : Flag f1)
    (zz : Zst s.heap u TI TO f0 f1) (ti : IsPair s.heap TI (.ref i1) (.ref i2)) (to : IsPair s.heap TO a b) (h1 : s.heap.IsTupleIter i1 l1 k1) (h2 : s.heap.IsTupleIter i2 l2 k2)
    (t1 : s.heap.IsTuple l1 xs) (t2 : s.heap.IsTuple l2 ys) (no : xs[k1]? = none ∨ ys[k2]? = none) (q : ∀ h' e, ZEnd s u TO i1 i2 h' → (∃ o, h'.get? e = some o ∧ o.cls = .type "StopIteration") → E (.ref e) { s with heap := h' }) :
    wpAny (model prog w) A (Builtin.«zip.__next__» ⟨[.ref u], []⟩) Q E s := by
  show wpAny _ _ (field (.ref u) 2 >>= _) _ _ _
  refine wpAny_bind (wpAny_field (x := .bool false) zz rfl rfl ?_)
  show wpAny _ _ (field (.ref u) 3 >>= _) _ _ _
  refine wpAny_bind (wpAny_field (x := .ref TI) zz rfl rfl ?_)
  refine wpAny_bind (wpAny_seqItems ti rfl ?_)
  show wpAny _ _ (Builtin.SmallTypes.ownedTupleIsFree (.ref u) >>= _) _ _ _
  refine wpAny_bind (z_free o0 o1 zz ?_ fun m1 g1 og zm sb1 => ?_)
  · simp only [if_true]
    refine wpAny_bind <| wpAny_rule ?_
    refine wpAny_bind (wpAny_field (x := .ref TO) zz rfl rfl ?_)
    refine wpAny_bind (wpAny_setField_rec zz (by simp) fun m1 zm sb1 => ?_)
    replace zm : Zst m1 u TI TO .ellipsis f1 := zm
    refine wpAny_bind ?_
    rw [List.zipIdx_cons, List.zipIdx_cons, List.zipIdx_nil]
    simp only [List.forIn_cons, List.forIn_nil]
    refine wpAny_bind <| wpAny_bind <| wpAny_onRaise ?_
    show wpAny _ _ (Builtin.SmallTypes.nextOf (Value.ref i1) >>= _) _ _ _
    cases ex : xs[k1]? with
    | none =>
      refine wpAny_bind (RZ.nextOf_tuple_end hh (h1.extBut sb1.extBut D.i1z) (t1.extBut sb1.extBut D.l1z) ex fun m2 e sb2 se => ?_)
      obtain ⟨oe, e1, e2⟩ := se
      have z2 : Zst m2 u TI TO .ellipsis f1 := sb2 _ _ D.i1z.symm zm
      have ne : e ≠ u := fun eq => by
        subst eq
        rw [show m2.get? e = _ from z2] at e1
        cases e1
        simp at e2
      exact wpAny_setField_rec z2 (by simp) fun m3 _ sb3 => q m3 e (fun c o c1 _ c3 _ eq => sb3.extBut _ _ c1 (sb2 _ _ c3 (sb1.extBut _ _ c1 eq))) ⟨oe, sb3.extBut _ _ ne e1, e2⟩
    | some x =>
      have ey : ys[k2]? = none := by
        rcases no with n | n
        · rw [ex] at n; cases n
        · exact n
      refine wpAny_bind (RZ.nextOf_tuple_item (h1.extBut sb1.extBut D.i1z) (t1.extBut sb1.extBut D.l1z) ex fun m2 n1 sb2 => wpAny_pure ?_)
      have to2 : IsPair m2 TO a b := sb2.extBut _ _ D.TOi1 (sb1.extBut _ _ D.TOz to)
      refine wpAny_bind (wpAny_seqItems to2 rfl ?_)
      refine wpAny_bind (wpAny_updateSeq_pair to2 fun m3 to3 sb3 => ?_)
      refine wpAny_bind <| wpAny_letGo <| wpAny_pure ?_
      refine wpAny_bind <| wpAny_bind <| wpAny_onRaise ?_
      show wpAny _ _ (Builtin.SmallTypes.nextOf (Value.ref i2) >>= _) _ _ _
      have p2 : m3.IsTupleIter i2 l2 k2 := ((h2.extBut sb1.extBut D.i2z).extBut sb2.extBut D.i12.symm).extBut sb3.extBut D.TOi2.symm
      have q2 : m3.IsTuple l2 ys := ((t2.extBut sb1.extBut D.l2z).extBut sb2.extBut D.l2i1).extBut sb3.extBut D.l2TO
      refine wpAny_bind (RZ.nextOf_tuple_end hh p2 q2 ey fun m4 e sb4 se => ?_)
      obtain ⟨oe, e1, e2⟩ := se
      have z4 : Zst m4 u TI TO .ellipsis f1 := sb4 _ _ D.i2z.symm (sb3.extBut _ _ D.TOz.symm (sb2.extBut _ _ D.i1z.symm zm))
      have ne : e ≠ u := fun eq => by
        subst eq
        rw [show m4.get? e = _ from z4] at e1
        cases e1
        simp at e2
      exact wpAny_setField_rec z4 (by simp) fun m5 _ sb5 => q m5 e (fun c o c1 c2 c3 c4 eq => sb5.extBut _ _ c1 (sb4 _ _ c4 (sb3.extBut _ _ c2 (sb2.extBut _ _ c3 (sb1.extBut _ _ c1 eq))))) ⟨oe, sb5.extBut _ _ ne e1, e2⟩
  · simp only [Bool.false_eq_true, if_false]
    refine wpAny_bind ?_
    rw [← Array.forIn_toList]
    simp only [List.forIn_cons, List.forIn_nil]
    refine wpAny_bind <| wpAny_bind <| wpAny_holding ?_
    show wpAny _ _ (Builtin.SmallTypes.nextOf (Value.ref i1) >>= _) _ _ _
    cases ex : xs[k1]? with
    | none =>
      exact wpAny_bind (RZ.nextOf_tuple_end (s := { s with heap := m1 }) hh (h1.extBut sb1.extBut D.i1z) (t1.extBut sb1.extBut D.l1z) ex fun m2 e sb2 se => q m2 e (fun c o c1 _ c3 _ eq => sb2 _ _ c3 (sb1.extBut _ _ c1 eq)) se)
    | some x =>
      have ey : ys[k2]? = none := by
        rcases no with n | n
        · rw [ex] at n; cases n
        · exact n
      refine wpAny_bind (RZ.nextOf_tuple_item (s := { s with heap := m1 }) (h1.extBut sb1.extBut D.i1z) (t1.extBut sb1.extBut D.l1z) ex fun m2 n1 sb2 => wpAny_pure ?_)
      refine wpAny_pure ?_
      refine wpAny_bind <| wpAny_bind <| wpAny_holding ?_
      show wpAny _ _ (Builtin.SmallTypes.nextOf (Value.ref i2) >>= _) _ _ _
      exact wpAny_bind (RZ.nextOf_tuple_end (s := { s with heap := m2 }) hh ((h2.extBut sb1.extBut D.i2z).extBut sb2.extBut D.i12.symm) ((t2.extBut sb1.extBut D.l2z).extBut sb2.extBut D.l2i1) ey
        fun m3 e sb3 se => q m3 e (fun c o c1 _ c3 c4 eq => sb3 _ _ c4 (sb2.extBut _ _ c3 (sb1.extBut _ _ c1 eq))) se)
theorem zp_item {u TI TO i1 i2 l1 l2 : Addr} {f0 f1 : Value} {k1 k2 : Nat} {xs ys : Array Value} {x y a b : Value} {Q : Option Value → Shared → Prop} (D : ZipApart u TI TO i1 i2 l1 l2) (o0 : Out f0) (o1 : Flag f1)
    (zz : Zst s.heap u TI TO f0 f1) (ti : IsPair s.heap TI (.ref i1) (.ref i2)) (to : IsPair s.heap TO a b) (h1 : s.heap.IsTupleIter i1 l1 k1) (h2 : s.heap.IsTupleIter i2 l2 k2)
    (t1 : s.heap.IsTuple l1 xs) (t2 : s.heap.IsTuple l2 ys) (ex : xs[k1]? = some x) (ey : ys[k2]? = some y) (q : ∀ h', ZNext s u TI TO i1 i2 l1 l2 k1 k2 x y h' → Q (some (.ref s.heap.objs.size)) { s with heap := h' }) :
    wpAny (model prog w) A (pyNext (.ref u)) Q E s := by
  have ty : s.TypeIs (.ref u) "zip" := ⟨_, zz, rfl⟩
  unfold pyNext
  refine wpAny_bind <| wpAny_attempt <| wpAny_callSpecial?_slot (name := Str.ofString "__next__") ty F.slot_zip_next ?_
  exact wpAny_call_entry F.slot_zip_next ty F.entry_zip_next (zn_item D o0 o1 zz ti to h1 h2 t1 t2 ex ey fun h' z => wpAny_pure (q h' z)) (F.args_zip_next_1 _)
theorem zp_end {u TI TO i1 i2 l1 l2 : Addr} {f0 f1 : Value} {k1 k2 : Nat} {xs ys : Array Value} {a b : Value} {Q : Option Value → Shared → Prop} (hh : A.handled = none) (D : ZipApart u TI TO i1 i2 l1 l2) (o0 : Out f0) (o1 : Flag f1)
    (zz : Zst s.heap u TI TO f0 f1) (ti : IsPair s.heap TI (.ref i1) (.ref i2)) (to : IsPair s.heap TO a b) (h1 : s.heap.IsTupleIter i1 l1 k1) (h2 : s.heap.IsTupleIter i2 l2 k2)
    (t1 : s.heap.IsTuple l1 xs) (t2 : s.heap.IsTuple l2 ys) (no : xs[k1]? = none ∨ ys[k2]? = none) (q : ∀ h', ZEnd s u TO i1 i2 h' → Q none { s with heap := h' }) :
    wpAny (model prog w) A (pyNext (.ref u)) Q E s := by
  have ty : s.TypeIs (.ref u) "zip" := ⟨_, zz, rfl⟩
  unfold pyNext
  refine wpAny_bind <| wpAny_attempt <| wpAny_callSpecial?_slot (name := Str.ofString "__next__") ty F.slot_zip_next ?_
  refine wpAny_call_entry F.slot_zip_next ty F.entry_zip_next (zn_end hh D o0 o1 zz ti to h1 h2 t1 t2 no fun h' e z se => ?_) (F.args_zip_next_1 _)
  obtain ⟨oe, e1, e2⟩ := se
  refine wpAny_bind (wpAny_isInstance (b := true) (T := "StopIteration") ⟨oe, e1, e2⟩ isSubtype_stop ?_)
  exact wpAny_pure (q _ z)
end
end Vf

namespace Vf
open PySem PySem.Spec PyProof.Rows L2
theorem z_iter {prog : Program} {w : World} {A : Around} {E : Value → Shared → Prop} {s : Shared} {u TI TO : Addr} {f0 f1 : Value} {Q : Value → Shared → Prop} (zz : Zst s.heap u TI TO f0 f1) (q : Q (.ref u) s) : wpAny (model prog w) A (pyIter (.ref u)) Q E s := by
  have ty : s.TypeIs (.ref u) "zip" := ⟨_, zz, rfl⟩
  refine wpAny_pyIter_slot ty F.slot_zip_iter (wpAny_call_entry F.slot_zip_iter ty F.entry_zip_iter ?_ (F.args_zip_iter_1 _))
  show wpAny _ _ (ret (Value.ref u)) _ _ s
  exact wpAny_pure ⟨_, rfl, "zip", _, ty, F.slot_zip_next.lookup, q⟩
def ZTn (u TI TO i1 i2 a b : Addr) (i : Nat) (h : Heap) : Prop :=
  (∃ f0 f1, Out f0 ∧ Flag f1 ∧ Zst h u TI TO f0 f1) ∧ IsPair h TI (.ref i1) (.ref i2) ∧ (∃ x y, IsPair h TO x y) ∧ h.IsTupleIter i1 a i ∧ h.IsTupleIter i2 b i
theorem turn_zipN {P : Program} {w : World} {K : PySem.W.Frag} {nm : Str} {npos : Pos} {a b u TI TO i1 i2 : Addr} (D : ZipApart u TI TO i1 i2 a b) :
    Turn P w K (.Name nm npos) (RZ.ItzT K a b) [u, TI, TO, i1, i2] u (ZTn u TI TO i1 i2 a b) where
  mem := List.mem_cons_self
  obj := fun i h st c hc => by
    obtain ⟨⟨f0, f1, _, _, zz⟩, ti, ⟨x, y, to⟩, ⟨o1, e1, _, d1⟩, ⟨o2, e2, _, d2⟩⟩ := st
    simp only [List.mem_cons, List.not_mem_nil, or_false] at hc
    rcases hc with e | e | e | e | e
    · subst e; exact ⟨_, zz, fun v q => nomatch q⟩
    · subst e; exact ⟨_, ti, fun v q => nomatch q⟩
    · subst e; exact ⟨_, to, fun v q => nomatch q⟩
    · subst e; exact ⟨o1, e1, fun v q => by rw [d1] at q; cases q⟩
    · subst e; exact ⟨o2, e2, fun v q => by rw [d2] at q; cases q⟩
  keep := fun i h h' st k => by
    obtain ⟨⟨f0, f1, p0, p1, zz⟩, ti, ⟨x, y, to⟩, h1, h2⟩ := st
    exact ⟨⟨f0, f1, p0, p1, k u (by simp) _ zz⟩, k TI (by simp) _ ti, ⟨x, y, k TO (by simp) _ to⟩, h1.at fun o q => k i1 (by simp) o q, h2.at fun o q => k i2 (by simp) o q⟩
  item := by
    intro X hP hw hK hc i pins s σ H E I hf st hg
    subst hP hw hK
    obtain ⟨⟨f0, f1, p0, p1, zz⟩, ti, ⟨x0, y0, to⟩, h1, h2⟩ := st
    obtain ⟨xs, ys, x, y, qx, qy, ex, ey⟩ := hg
    obtain ⟨its, rv, tp, _⟩ := I.tuple qx
    obtain ⟨its2, rv2, tp2, _⟩ := I.tuple qy
    obtain ⟨v1, g1, w1⟩ := rv.get ex
    obtain ⟨v2, g2, w2⟩ := rv2.get ey
    have b0 : u < s.heap.objs.size := Heap.lt_size zz
    have bI : TI < s.heap.objs.size := Heap.lt_size ti
    have bO : TO < s.heap.objs.size := Heap.lt_size to
    have b1 : i1 < s.heap.objs.size := by
      obtain ⟨_, q, _⟩ := h1
      exact Heap.lt_size q
    have b2 : i2 < s.heap.objs.size := by
      obtain ⟨_, q, _⟩ := h2
      exact Heap.lt_size q
    refine zp_item D p0 p1 zz ti to h1 h2 tp tp2 (x := v1) (y := v2) (by simpa using g1) (by simpa using g2) fun m zn => ?_
    obtain ⟨z', ⟨ta, tb, to'⟩, n1, n2, np, sz, kp⟩ := zn
    refine ⟨_, rfl, ?_⟩
    unfold letOwnedTupleGo
    refine wpAny_pure ?_
    have fresh : ObjOk X.prog X.w (upd H s.heap.objs.size (.tup [x, y])) m s.heap.objs.size (.tup [x, y]) :=
      ⟨by show 2 ≤ sizeLine; decide, [v1, v2], .cons w1 (.cons w2 .nil), ⟨_, np, rfl, _, rfl⟩⟩
    have stay : ∀ c o, c ∉ [u, TI, TO, i1, i2] → s.heap.get? c = some o → m.get? c = some o := fun c o hb q => kp c o (fun e => hb (by simp [e])) (fun e => hb (by simp [e])) (fun e => hb (by simp [e])) (fun e => hb (by simp [e])) q
    have I1 := I.turnedNew (t' := s.toks) (ch := [u, TI, TO, i1, i2]) stay hf (Nat.le_refl _) fresh
    refine ⟨.ref s.heap.objs.size, _, I1, rfl, ⟨_, x, y, rfl, I.hok.fresh (Nat.le_refl _), rfl, fun l hl => by rw [I.tuple_inj hl qx]; exact ex, fun l hl => by rw [I.tuple_inj hl qy]; exact ey⟩,
      ⟨z', kp _ _ D.TIz D.TITO D.TIi1 D.TIi2 ti, ⟨ta, tb, to'⟩, n1, n2⟩, fun c hcm => ?_⟩
    have lt : c < s.heap.objs.size := by
      have hcm2 := hcm
      simp only [List.mem_cons, List.not_mem_nil, or_false] at hcm2
      rcases hcm2 with e | e | e | e | e <;> (subst e; assumption)
    rw [upd_ne (Nat.ne_of_lt lt)]
    exact (hf c hcm).1
  done := by
    intro X hP hw hK hc i pins s σ H E I hf st hg
    subst hP hw hK
    obtain ⟨⟨f0, f1, p0, p1, zz⟩, ti, ⟨x0, y0, to⟩, h1, h2⟩ := st
    obtain ⟨xs, ys, qx, qy, en⟩ := hg
    obtain ⟨its, rv, tp, _⟩ := I.tuple qx
    obtain ⟨its2, rv2, tp2, _⟩ := I.tuple qy
    have l1 := rv.length
    have l2 := rv2.length
    have no : its.toArray[i]? = none ∨ its2.toArray[i]? = none := by
      rcases en with q | q
      · exact .inl (by simp; omega)
      · exact .inr (by simp; omega)
    refine zp_end (I.ok.hd hc) D p0 p1 zz ti to h1 h2 tp tp2 no fun m ze => ⟨rfl, ?_⟩
    exact I.turnedL (t' := s.toks) (ch := [u, TI, TO, i1, i2]) (fun c o hb q => ze c o (fun e => hb (by simp [e])) (fun e => hb (by simp [e])) (fun e => hb (by simp [e])) (fun e => hb (by simp [e])) q) hf
  self := fun A i s Q E st h => by
    obtain ⟨⟨f0, f1, _, _, zz⟩, _⟩ := st
    exact z_iter zz h
/-- zip(t, u) of tuples -/
def iZn (K : PySem.W.Frag) (ta : TA) : TI := fun σ H R => ta σ H fun vs H1 => ∃ a b xs ys, vs = [.ref a, .ref b] ∧ SqT K H1 a xs ∧ SqT K H1 b ys ∧ R (RZ.ItzT K a b) H1
theorem i_zipN {X : Cx} {K : PySem.W.Frag} {e e2 : Expr} {ta : TA} {p pos npos : Pos} {nm : Str} (ek : X.K = K) (hg : Gl X "zip") (hm : X.mg "zip" = none) (ha : PA X [e, e2] ta)
    (hs : starEach [e, e2] X.env = (false, eval e X.env) :: starEach [e2] X.env := by rfl) (hp : (backTo pos (starEach [e2] X.env)).any (·.1) = false := by rfl) :
    PI X (.Name nm npos) (.Call (.Name "zip" p) [e, e2] [] pos) (iZn K ta) := by
  subst ek
  refine ⟨fun pins s σ H R I h => ?_⟩
  refine Call_ (ld_blt I hg hm PyProof.Rows.boot_zip (PyProof.Rows.callWith_type1 (thn (ha.run pos pins s σ H _ I h) fun us s1 ⟨vs, H1, I1, r1, q1⟩ => ?_) hs hp))
  obtain ⟨a, b, xs, ys, rfl, qx, qy, q⟩ := q1
  obtain ⟨ua, ub, rfl, ra, rb⟩ : ∃ ua ub, us = [ua, ub] ∧ RelV (.ref a) ua ∧ RelV (.ref b) ub := by
    cases r1 with
    | cons r rr =>
      cases rr with
      | cons r' rr =>
        cases rr
        exact ⟨_, _, rfl, r, r'⟩
  cases ra
  cases rb
  obtain ⟨its, rv, tp, _⟩ := I1.tuple qx
  obtain ⟨its2, rv2, tp2, _⟩ := I1.tuple qy
  have la : a < s1.heap.objs.size := tp.lt
  have lb : b < s1.heap.objs.size := tp2.lt
  refine RZ.call_zipT tp tp2 fun m hz hTI hTO n1 n2 hsz hk => z_iter (f0 := .none) (f1 := .bool false) hz ?_
  refine ⟨s1.heap.objs.size + 4, [s1.heap.objs.size + 4, s1.heap.objs.size + 2, s1.heap.objs.size + 3, s1.heap.objs.size, s1.heap.objs.size + 1], _, _, H1, rfl, I1.kept (t' := s1.toks) hk,
    turn_zipN (PySem.W.ktu_apart s1.heap.objs.size a b la lb), ⟨⟨.none, .bool false, .inl rfl, ⟨false, rfl⟩, hz⟩, hTI, ⟨_, _, hTO⟩, n1, n2⟩, fun c hcm => ?_, q⟩
  have le : s1.heap.objs.size ≤ c := by
    simp only [List.mem_cons, List.not_mem_nil, or_false] at hcm
    rcases hcm with e | e | e | e | e <;> subst e
    · exact Nat.le_add_right _ _
    · exact Nat.le_add_right _ _
    · exact Nat.le_add_right _ _
    · exact Nat.le_refl _
    · exact Nat.le_add_right _ _
  exact I1.fpOk le (I1.hok.fresh le)
/-- a walk of two tuples, pair by pair -/
theorem r_forZ {K : PySem.W.Frag} {g : TG} {tb : TS} {D : Ends} {σ : L2.St} {H : Hp} {a b : Addr} (xs ys : List V) (n : Nat) (hx : xs.length = n) (hy : ys.length = n) (Pv : Nat → L2.St → Hp → Prop) (h0 : Pv 0 σ H)
    (hl : ∀ i σ H, i ≤ n → Pv i σ H → SqT K H a xs ∧ SqT K H b ys)
    (hs : ∀ i x y σ H T, xs[i]? = some x → ys[i]? = some y → Pv i σ H → H T = none → g (.ref T) σ (upd H T (.tup [x, y])) fun σ2 H2 => tb { D with nx := Pv (i + 1), ct := Pv (i + 1), bk := D.nx } σ2 H2)
    (hd : ∀ σ H, Pv n σ H → D.nx σ H) : tFor (fun _ H2 R => R (RZ.ItzT K a b) H2) g tb D σ H := by
  refine ⟨fun i m σ H => m = n - i ∧ i ≤ n ∧ Pv i σ H, ⟨n, by omega, Nat.zero_le _, h0⟩, ?_⟩
  rintro i m σ H ⟨rfl, hi, p⟩
  obtain ⟨qx, qy⟩ := hl i σ H hi p
  by_cases lt : i < n
  · have ix : i < xs.length := by omega
    have iy : i < ys.length := by omega
    refine Or.inr ⟨⟨xs, ys, xs[i], ys[i], qx, qy, by simp [ix], by simp [iy]⟩, Pv (i + 1), fun σ' H' p' => ⟨n - (i + 1), by omega, rfl, lt, p'⟩, fun v H' yy => ?_⟩
    obtain ⟨T, x, y, rfl, nT, rfl, f1, f2⟩ := yy
    exact hs i x y σ H T (f1 xs qx) (f2 ys qy) p nT
  · have e : i = n := by omega
    subst e
    exact Or.inl ⟨⟨xs, ys, qx, qy, .inl (by omega)⟩, hd σ H p⟩
theorem r_forZn {K : PySem.W.Frag} {g : TG} {tb : TS} {D : Ends} {σ : L2.St} {H : Hp} {ta : TA} (h : ta σ H fun vs H1 => ∃ a b xs ys, vs = [.ref a, .ref b] ∧ SqT K H1 a xs ∧ SqT K H1 b ys ∧ tFor (fun _ H2 R => R (RZ.ItzT K a b) H2) g tb D σ H1) :
    tFor (iZn K ta) g tb D σ H := h
end Vf

namespace Vf
open PySem PySem.Spec PyProof.Rows L2
/-! ## *= and //= of ints -/
def ipC (C : Int → Int → Prop) (f : Int → Int → Int) : TIp := fun x y H Q => ∃ i j, x = .int i ∧ y = .int j ∧ C i j ∧ Q (.int (f i j)) H
theorem r_ipC {C : Int → Int → Prop} {f : Int → Int → Int} {i j : Int} {H : Hp} {Q : VK} (c : C i j) (q : Q (.int (f i j)) H) : ipC C f (.int i) (.int j) H Q := ⟨i, j, rfl, rfl, c, q⟩
section
variable {X : Cx}
theorem ip_mulX : PIp X .Mult (ipC CMulX fun i j => i * j) := by
  intro pins s σ H x y v u Q I rx ry h
  obtain ⟨i, j, rfl, rfl, c, q⟩ := h
  obtain ⟨t1, rfl⟩ := rx
  obtain ⟨t2, rfl⟩ := ry
  exact PySem.AutoIntOps.imul_0 ⟨.int _, H, I.tok _, ⟨_, rfl⟩, q⟩ c.ok
theorem ip_fdivW : PIp X .FloorDiv (ipC CDivW fun i j => i / j) := by
  intro pins s σ H x y v u Q I rx ry h
  obtain ⟨i, j, rfl, rfl, c, q⟩ := h
  obtain ⟨t1, rfl⟩ := rx
  obtain ⟨t2, rfl⟩ := ry
  have j0 : (0 : Int) < j := c.1
  refine PySem.AutoIntOps.ifloordiv_1 (by simp; omega) (by rw [PyProof.noPylong_of_log2 c.2]; decide) ?_
  rw [Int.fdiv_eq_ediv_of_nonneg i (by omega)]
  exact ⟨.int _, H, I.tok _, ⟨_, rfl⟩, q⟩
end
/-! ## zip under two names -/
theorem r_forZa {K : PySem.W.Frag} {g : TG} {tb : TS} {D : Ends} {σ : L2.St} {H : Hp} {ta : TA} (h : ta σ H fun vs H1 => ∃ a b xs ys, vs = [.ref a, .ref b] ∧ ((SqL K H1 a xs ∧ SqL K H1 b ys ∧ tFor (fun _ H2 R => R (Itz K a b) H2) g tb D σ H1) ∨
    (SqT K H1 a xs ∧ SqT K H1 b ys ∧ tFor (fun _ H2 R => R (RZ.ItzT K a b) H2) g tb D σ H1))) : tFor (RZ.iZipA K ta) g tb D σ H := h
end Vf

namespace Vf
open PySem PySem.Spec PyProof.Rows L2
/-! ## tuples of ints, compared and shown -/
section
variable {K : PySem.W.Frag} {H : Hp} {Q : VK}
def tupD (ns : List Int) : PyData := .tuple (ns.map PyData.int)
theorem Dp.tupD {a : Addr} {ns : List Int} (h : SqT K H a (ns.map V.int)) : Dp K H (.ref a) (tupD ns) := .tup h (DpAll.ints ns)
theorem shapedTup (ns : List Int) : SeqAt.shaped (tupD ns) = true := by
  unfold SeqAt.shaped
  rw [Bool.and_eq_true]
  refine ⟨canInts ns, decide_eq_true ?_⟩
  show PyData.depthAll (ns.map PyData.int) + 1 ≤ 64
  rw [depthInts]; decide
theorem r_neT {a b : Addr} (ns ms : List Int) (h1 : SqT K H a (ns.map V.int)) (h2 : SqT K H b (ms.map V.int)) (h : Q (.bl (!decide (ns = ms))) H) : rNeD K (.ref a) (.ref b) H Q := by
  refine r_neD (Dp.tupD h1) (Dp.tupD h2) (shapedTup ns) (shapedTup ms) ?_
  rw [show PyData.eqv (tupD ns) (tupD ms) = decide (ns = ms) from eqvInts ns ms]
  exact h
def twoD (ns ms : List Int) : PyData := .list [tupD ns, tupD ms]
theorem r_reprTT {a t1 t2 : Addr} (ns ms : List Int) (hs : SqL K H a [.ref t1, .ref t2]) (h1 : SqT K H t1 (ns.map V.int)) (h2 : SqT K H t2 (ms.map V.int)) (b1 : ∀ n ∈ ns, n.natAbs < 2 ^ 1900) (b2 : ∀ n ∈ ms, n.natAbs < 2 ^ 1900)
    (l1 : ns.length ≤ 20) (l2 : ms.length ≤ 20) (h : Q (.str (twoD ns ms).shown) H) : rRepr K [.ref a] H Q := by
  refine r_reprD (twoD ns ms) (Dp.lst hs (.cons (Dp.tupD h1) (.cons (Dp.tupD h2) .nil))) ?_ ?_ ?_ h
  · show (tameAll (ns.map PyData.int) && (tameAll (ms.map PyData.int) && true)) = true
    rw [tameInts ns b1, tameInts ms b2]
    rfl
  · show max (PyData.depthAll (ns.map PyData.int) + 1) (max (PyData.depthAll (ms.map PyData.int) + 1) 0) + 1 ≤ 40
    rw [depthInts, depthInts]
    decide
  · show 4 + ((4 + roomAll (ns.map PyData.int)) + 2 + ((4 + roomAll (ms.map PyData.int)) + 2 + 0)) ≤ 100000
    rw [roomInts, roomInts]
    omega
end
end Vf

namespace Vf
open PySem PySem.Spec PyProof.Rows L2
/-! ## zip of three tuples -/
/-- the tuples at a, b, c, item by item in new triples -/
def ItT3 (K : PySem.W.Frag) (a b c : Addr) : It :=
  ⟨fun i H => ∃ (xs ys zs : List V), (SqT K H a xs ∧ SqT K H b ys ∧ SqT K H c zs) ∧ i < xs.length ∧ i < ys.length ∧ i < zs.length,
   fun i H v H' => ∃ T x y z, v = .ref T ∧ H T = none ∧ H' = upd H T (.tup [x, y, z]) ∧ (∀ xs, SqT K H a xs → xs[i]? = some x) ∧ (∀ ys, SqT K H b ys → ys[i]? = some y) ∧ ∀ zs, SqT K H c zs → zs[i]? = some z,
   fun i H => ∃ (xs ys zs : List V), (SqT K H a xs ∧ SqT K H b ys ∧ SqT K H c zs) ∧ (i ≤ xs.length ∧ i ≤ ys.length ∧ i ≤ zs.length) ∧ (i = xs.length ∨ i = ys.length ∨ i = zs.length)⟩
/-- the cells of it -/
structure Six (u TI TO i1 i2 i3 a b c : Addr) : Prop where
  ap : u ≠ TI ∧ u ≠ TO ∧ u ≠ i1 ∧ u ≠ i2 ∧ u ≠ i3 ∧ TI ≠ TO ∧ TI ≠ i1 ∧ TI ≠ i2 ∧ TI ≠ i3 ∧ TO ≠ i1 ∧ TO ≠ i2 ∧ TO ≠ i3 ∧ i1 ≠ i2 ∧ i1 ≠ i3 ∧ i2 ≠ i3
  a0 : a ≠ u ∧ a ≠ TI ∧ a ≠ TO ∧ a ≠ i1 ∧ a ≠ i2 ∧ a ≠ i3
  b0 : b ≠ u ∧ b ≠ TI ∧ b ≠ TO ∧ b ≠ i1 ∧ b ≠ i2 ∧ b ≠ i3
  c0 : c ≠ u ∧ c ≠ TI ∧ c ≠ TO ∧ c ≠ i1 ∧ c ≠ i2 ∧ c ≠ i3
theorem Six.sep {u TI TO i1 i2 i3 a b c : Addr} (S : Six u TI TO i1 i2 i3 a b c) : ZipSep3 u TI TO i1 i2 i3 [i1, a] [i2, b] [i3, c] := by
  obtain ⟨⟨s1, s2, s3, s4, s5, s6, s7, s8, s9, s10, s11, s12, s13, s14, s15⟩, ⟨a1, a2, a3, a4, a5, a6⟩, ⟨b1, b2, b3, b4, b5, b6⟩, ⟨c1, c2, c3, c4, c5, c6⟩⟩ := S
  constructor <;> simp [*, Ne.symm s1, Ne.symm s2, Ne.symm s3, Ne.symm s6, Ne.symm a1, Ne.symm a3, Ne.symm a4, Ne.symm a5, Ne.symm a6, Ne.symm b1, Ne.symm b3, Ne.symm b4, Ne.symm b5, Ne.symm b6, Ne.symm c1, Ne.symm c3, Ne.symm c4, Ne.symm c5, Ne.symm c6, Ne.symm s13, Ne.symm s14, Ne.symm s15]
def Z3At (u TI TO i1 i2 i3 a b c : Addr) (i : Nat) (h : Heap) : Prop :=
  IsZip h u TI TO .none ∧ IsTupOf3 h TI (.ref i1) (.ref i2) (.ref i3) ∧ (∃ x y z, IsTupOf3 h TO x y z) ∧ h.IsTupleIter i1 a i ∧ h.IsTupleIter i2 b i ∧ h.IsTupleIter i3 c i
theorem turn_zip3 {P : Program} {w : World} {K : PySem.W.Frag} {elts : List Expr} {kk : Nat} {tpos : Pos} {u TI TO i1 i2 i3 a b c : Addr} (S : Six u TI TO i1 i2 i3 a b c) :
    Turn P w K (.Tuple elts kk tpos) (ItT3 K a b c) [u, TI, TO, i1, i2, i3] u (Z3At u TI TO i1 i2 i3 a b c) where
  mem := List.mem_cons_self
  obj := fun i h st d hd => by
    obtain ⟨zz, ti, ⟨x, y, z, to⟩, ⟨o1, e1, _, d1⟩, ⟨o2, e2, _, d2⟩, ⟨o3, e3, _, d3⟩⟩ := st
    simp only [List.mem_cons, List.not_mem_nil, or_false] at hd
    rcases hd with e | e | e | e | e | e
    · subst e; exact ⟨_, zz, fun v q => nomatch q⟩
    · subst e; exact ⟨_, ti, fun v q => nomatch q⟩
    · subst e; exact ⟨_, to, fun v q => nomatch q⟩
    · subst e; exact ⟨o1, e1, fun v q => by rw [d1] at q; cases q⟩
    · subst e; exact ⟨o2, e2, fun v q => by rw [d2] at q; cases q⟩
    · subst e; exact ⟨o3, e3, fun v q => by rw [d3] at q; cases q⟩
  keep := fun i h h' st k => by
    obtain ⟨zz, ti, ⟨x, y, z, to⟩, h1, h2, h3⟩ := st
    exact ⟨k u (by simp) _ zz, k TI (by simp) _ ti, ⟨x, y, z, k TO (by simp) _ to⟩, h1.at fun o q => k i1 (by simp) o q, h2.at fun o q => k i2 (by simp) o q, h3.at fun o q => k i3 (by simp) o q⟩
  item := by
    intro X hP hw hK hc i pins s σ H E I hf st hg
    subst hP hw hK
    obtain ⟨zz, ti, ⟨x0, y0, z0, to⟩, h1, h2, h3⟩ := st
    obtain ⟨xs, ys, zs, ⟨qx, qy, qz⟩, lx, ly, lz⟩ := hg
    obtain ⟨v1, r1, t1, _⟩ := I.tuple qx
    obtain ⟨v2, r2, t2, _⟩ := I.tuple qy
    obtain ⟨v3, r3, t3, _⟩ := I.tuple qz
    obtain ⟨y1, g1, w1⟩ := r1.get (List.getElem?_eq_getElem lx)
    obtain ⟨y2, g2, w2⟩ := r2.get (List.getElem?_eq_getElem ly)
    obtain ⟨y3, g3, w3⟩ := r3.get (List.getElem?_eq_getElem lz)
    have n1 := r1.length
    have n2 := r2.length
    have n3 := r3.length
    have hd := I.ok.hd hc
    have b0 : u < s.heap.objs.size := Heap.lt_size zz
    have bI : TI < s.heap.objs.size := Heap.lt_size ti
    have bO : TO < s.heap.objs.size := Heap.lt_size to
    have b1 : i1 < s.heap.objs.size := by
      obtain ⟨_, q, _⟩ := h1
      exact Heap.lt_size q
    have b2 : i2 < s.heap.objs.size := by
      obtain ⟨_, q, _⟩ := h2
      exact Heap.lt_size q
    have b3 : i3 < s.heap.objs.size := by
      obtain ⟨_, q, _⟩ := h3
      exact Heap.lt_size q
    refine wpAny_pyNext_zipD3_item S.sep (drawsT (A := X.A.in1) hd i1 a S.a0.2.2.2.1 v1.toArray) (drawsT (A := X.A.in1) hd i2 b S.b0.2.2.2.2.1 v2.toArray) (drawsT (A := X.A.in1) hd i3 c S.c0.2.2.2.2.2 v3.toArray)
      zz ti to ⟨h1, t1⟩ ⟨h2, t2⟩ ⟨h3, t3⟩ (by simp; omega) (by simp; omega) (by simp; omega) fun x1 x2 x3 m tk p1 p2 p3 zz' to' st1 st2 st3 np sz kp => ?_
    obtain rfl : y1 = x1 := by
      have : v1[i]? = some x1 := by simpa using p1
      rw [g1] at this
      exact Option.some.inj this
    obtain rfl : y2 = x2 := by
      have : v2[i]? = some x2 := by simpa using p2
      rw [g2] at this
      exact Option.some.inj this
    obtain rfl : y3 = x3 := by
      have : v3[i]? = some x3 := by simpa using p3
      rw [g3] at this
      exact Option.some.inj this
    refine ⟨_, rfl, wpAny_letOwnedTupleGo_zip (s := { s with heap := m, toks := tk }) zz' fun m2 zz2 sb => ?_⟩
    have np2 : IsTupOf3 m2 s.heap.objs.size y1 y2 y3 := (sb.2 _ (Nat.ne_of_gt b0)).trans np
    have fresh : ObjOk X.prog X.w (upd H s.heap.objs.size (.tup [xs[i], ys[i], zs[i]])) m2 s.heap.objs.size (.tup [xs[i], ys[i], zs[i]]) :=
      ⟨by show 3 ≤ sizeLine; decide, [y1, y2, y3], .cons w1 (.cons w2 (.cons w3 .nil)), ⟨_, np2, rfl, _, rfl⟩⟩
    have stay : ∀ d o, d ∉ [u, TI, TO, i1, i2, i3] → s.heap.get? d = some o → m2.get? d = some o := fun d o hb q =>
      (sb.2 d (fun e => hb (by simp [e]))).trans (kp d o (fun e => hb (by simp [e])) (fun e => hb (by simp [e])) (fun e => hb (by simp [e])) (fun e => hb (by simp [e])) (fun e => hb (by simp [e])) q)
    have I1 := I.turnedNew (t' := tk) (ch := [u, TI, TO, i1, i2, i3]) stay hf (Nat.le_refl _) fresh
    obtain ⟨⟨s1, s2, s3, s4, s5, s6, s7, s8, s9, s10, s11, s12, s13, s14, s15⟩, _, _, _⟩ := S
    refine ⟨.ref s.heap.objs.size, _, I1, rfl, ⟨_, xs[i], ys[i], zs[i], rfl, I.hok.fresh (Nat.le_refl _), rfl, fun l hl => by rw [I.tuple_inj hl qx]; exact List.getElem?_eq_getElem lx, fun l hl => by rw [I.tuple_inj hl qy]; exact List.getElem?_eq_getElem ly,
      fun l hl => by rw [I.tuple_inj hl qz]; exact List.getElem?_eq_getElem lz⟩, ⟨zz2, (sb.2 _ (Ne.symm s1)).trans (kp _ _ (Ne.symm s1) s6 s7 s8 s9 ti), ⟨_, _, _, (sb.2 _ (Ne.symm s2)).trans to'⟩, st1.1.at fun o q => (sb.2 _ (Ne.symm s3)).trans q, st2.1.at fun o q => (sb.2 _ (Ne.symm s4)).trans q,
      st3.1.at fun o q => (sb.2 _ (Ne.symm s5)).trans q⟩, fun d hdm => ?_⟩
    have lt : d < s.heap.objs.size := by
      have h2 := hdm
      simp only [List.mem_cons, List.not_mem_nil, or_false] at h2
      rcases h2 with e | e | e | e | e | e <;> (subst e; assumption)
    rw [upd_ne (Nat.ne_of_lt lt)]
    exact (hf d hdm).1
  done := by
    intro X hP hw hK hc i pins s σ H E I hf st hg
    subst hP hw hK
    obtain ⟨zz, ti, ⟨x0, y0, z0, to⟩, h1, h2, h3⟩ := st
    obtain ⟨xs, ys, zs, ⟨qx, qy, qz⟩, ⟨lx, ly, lz⟩, en⟩ := hg
    obtain ⟨v1, r1, t1, _⟩ := I.tuple qx
    obtain ⟨v2, r2, t2, _⟩ := I.tuple qy
    obtain ⟨v3, r3, t3, _⟩ := I.tuple qz
    have n1 := r1.length
    have n2 := r2.length
    have n3 := r3.length
    have hd := I.ok.hd hc
    refine wpAny_pyNext_zipD3_end S.sep (drawsT (A := X.A.in1) hd i1 a S.a0.2.2.2.1 v1.toArray) (drawsT (A := X.A.in1) hd i2 b S.b0.2.2.2.2.1 v2.toArray) (drawsT (A := X.A.in1) hd i3 c S.c0.2.2.2.2.2 v3.toArray)
      zz ti to ⟨h1, t1⟩ ⟨h2, t2⟩ ⟨h3, t3⟩ (by simp; omega) (by simp; omega) (by simp; omega) (by simp; omega) fun m tk kp => ⟨rfl, ?_⟩
    exact I.turnedL (t' := tk) (ch := [u, TI, TO, i1, i2, i3]) (fun d o hb q => kp d o (fun e => hb (by simp [e])) (fun e => hb (by simp [e])) (fun e => hb (by simp [e])) (fun e => hb (by simp [e])) (fun e => hb (by simp [e])) q) hf
  self := fun A i s Q E st h => wpAny_pyIter_zip st.1 h
end Vf

namespace Vf
open PySem PySem.Spec PyProof.Rows L2
/-! ## zip of three tuples: the rule, and a comprehension over it -/
def iZ3 (K : PySem.W.Frag) (ta : TA) : TI := fun σ H R => ta σ H fun vs H1 => ∃ a b c xs ys zs, vs = [.ref a, .ref b, .ref c] ∧ (SqT K H1 a xs ∧ SqT K H1 b ys ∧ SqT K H1 c zs) ∧ R (ItT3 K a b c) H1
theorem six_new (n a b c : Nat) (ha : a < n) (hb : b < n) (hc : c < n) : Six (n + 5) (n + 3) (n + 4) n (n + 1) (n + 2) a b c := by
  refine ⟨⟨?_, ?_, ?_, ?_, ?_, ?_, ?_, ?_, ?_, ?_, ?_, ?_, ?_, ?_, ?_⟩, ⟨?_, ?_, ?_, ?_, ?_, ?_⟩, ⟨?_, ?_, ?_, ?_, ?_, ?_⟩, ⟨?_, ?_, ?_, ?_, ?_, ?_⟩⟩ <;> (show _ ≠ _; intro e; have e2 : (_ : Nat) = _ := e; omega)
theorem i_zip3 {X : Cx} {K : PySem.W.Frag} {e1 e2 e3 : Expr} {ta : TA} {p pos tpos : Pos} {elts : List Expr} {kk : Nat} (ek : X.K = K) (hg : Gl X "zip") (hm : X.mg "zip" = none) (ha : PA X [e1, e2, e3] ta)
    (hs : starEach [e1, e2, e3] X.env = (false, eval e1 X.env) :: starEach [e2, e3] X.env := by rfl) (hp : (backTo pos (starEach [e2, e3] X.env)).any (·.1) = false := by rfl) :
    PI X (.Tuple elts kk tpos) (.Call (.Name "zip" p) [e1, e2, e3] [] pos) (iZ3 K ta) := by
  subst ek
  refine ⟨fun pins s σ H R I h => ?_⟩
  refine Call_ (ld_blt I hg hm PyProof.Rows.boot_zip (PyProof.Rows.callWith_type1 (thn (ha.run pos pins s σ H _ I h) fun us s1 ⟨vs, H1, I1, r1, q1⟩ => ?_) hs hp))
  obtain ⟨a, b, c, xs, ys, zs, rfl, ⟨qx, qy, qz⟩, q⟩ := q1
  obtain ⟨ua, ub, uc, rfl, ra, rb, rc⟩ : ∃ ua ub uc, us = [ua, ub, uc] ∧ RelV (.ref a) ua ∧ RelV (.ref b) ub ∧ RelV (.ref c) uc := by
    cases r1 with
    | cons r rr =>
      cases rr with
      | cons r' rr =>
        cases rr with
        | cons r'' rr =>
          cases rr
          exact ⟨_, _, _, rfl, r, r', r''⟩
  cases ra
  cases rb
  cases rc
  obtain ⟨v1, _, t1, _⟩ := I1.tuple qx
  obtain ⟨v2, _, t2, _⟩ := I1.tuple qy
  obtain ⟨v3, _, t3, _⟩ := I1.tuple qz
  have la : a < s1.heap.objs.size := t1.lt
  have lb : b < s1.heap.objs.size := t2.lt
  have lc : c < s1.heap.objs.size := t3.lt
  refine zip_begins3 (begins_tuple a v1.toArray) (begins_tuple b v2.toArray) (begins_tuple c v3.toArray) t1 t2 t3 fun m hz hTI hTO g1 g2 g3 hsz hk => wpAny_pyIter_zip hz ?_
  refine ⟨s1.heap.objs.size + 5, [s1.heap.objs.size + 5, s1.heap.objs.size + 3, s1.heap.objs.size + 4, s1.heap.objs.size, s1.heap.objs.size + 1, s1.heap.objs.size + 2], _, _, H1, rfl, I1.kept (t' := s1.toks) hk,
    turn_zip3 (six_new s1.heap.objs.size a b c la lb lc), ⟨hz, hTI, ⟨_, _, _, hTO⟩, ⟨_, g1, rfl, rfl⟩, ⟨_, g2, rfl, rfl⟩, ⟨_, g3, rfl, rfl⟩⟩, fun d hd => ?_, q⟩
  have le : s1.heap.objs.size ≤ d := by
    simp only [List.mem_cons, List.not_mem_nil, or_false] at hd
    rcases hd with e | e | e | e | e | e <;> subst e
    · exact Nat.le_add_right _ _
    · exact Nat.le_add_right _ _
    · exact Nat.le_add_right _ _
    · exact Nat.le_refl _
    · exact Nat.le_add_right _ _
    · exact Nat.le_add_right _ _
  exact I1.fpOk le (I1.hok.fresh le)
section
variable {K : PySem.W.Frag} {σ : L2.St} {H : Hp} {Q : VK} {g : TG} {tt : TT} {te : TE} {vs : List Nat}
theorem r_lcZ3i {ta : TA} (h : ta σ H fun ws H1 => ∃ a b c xs ys zs, ws = [.ref a, .ref b, .ref c] ∧ (SqT K H1 a xs ∧ SqT K H1 b ys ∧ SqT K H1 c zs) ∧ tLc (fun _ H2 R => R (ItT3 K a b c) H2) g tt te vs σ H1 Q) : tLc (iZ3 K ta) g tt te vs σ H Q := h
theorem r_lcZ3 {a b c : Addr} (xs ys zs : List V) (n : Nat) (nx : xs.length = n) (ny : ys.length = n) (nz : zs.length = n) (Pv : Addr → Nat → Hp → Prop) (h0 : ∀ D, H D = none → Pv D 0 (upd H D (.lst [])))
    (hl : ∀ D i H', H D = none → i ≤ n → Pv D i H' → SqT K H' a xs ∧ SqT K H' b ys ∧ SqT K H' c zs)
    (hs : ∀ D i x y z H' T, H D = none → xs[i]? = some x → ys[i]? = some y → zs[i]? = some z → Pv D i H' → H' T = none → g (.ref T) (wipe σ vs) (upd H' T (.tup [x, y, z])) fun σ2 H2 => wipe σ2 vs = wipe σ vs ∧ tt σ2 H2 fun b H3 =>
      if b = true then te σ2 H3 fun y H4 => ∃ acc, H4 D = some (.lst acc) ∧ acc.length < sizeLine ∧ Pv D (i + 1) (upd H4 D (.lst (acc ++ [y]))) else Pv D (i + 1) H3)
    (hd : ∀ D H', H D = none → Pv D n H' → Q (.ref D) H') : tLc (fun _ H2 R => R (ItT3 K a b c) H2) g tt te vs σ H Q := by
  refine fun D hD => ⟨fun i m H => m = n - i ∧ i ≤ n ∧ Pv D i H, ⟨n, by omega, Nat.zero_le _, h0 D hD⟩, ?_⟩
  rintro i m H' ⟨rfl, hi, p⟩
  obtain ⟨qx, qy, qz⟩ := hl D i H' hD hi p
  by_cases lt : i < n
  · refine Or.inr ⟨⟨xs, ys, zs, ⟨qx, qy, qz⟩, by omega, by omega, by omega⟩, Pv D (i + 1), fun H' p' => ⟨n - (i + 1), by omega, rfl, lt, p'⟩, fun v H'' yy => ?_⟩
    obtain ⟨T, x, y, z, rfl, nT, rfl, f1, f2, f3⟩ := yy
    exact hs D i x y z H' T hD (f1 xs qx) (f2 ys qy) (f3 zs qz) p nT
  · have e : i = n := by omega
    subst e
    exact Or.inl ⟨⟨xs, ys, zs, ⟨qx, qy, qz⟩, ⟨by omega, by omega, by omega⟩, .inl (by omega)⟩, hd D H' hD p⟩
end
end Vf

namespace Vf
open PySem PySem.Spec PyProof.Rows L2
/-! ## defs as values: named in a list, called by a name of the caller's -/
/-- a def at an address, with its promise -/
def OkL (P : Program) (w : World) (K : PySem.W.Frag) (mg : Str → Option Value) (base : Heap) (k : Nat) (f : Addr) (sp : Sp) : Prop :=
  ∃ (x : Str) (st : Stmt) (ps : List Str) (fd : FuncData), L2.Fun K x x st f fd ∧ L2.Binds K fd ps [] ∧
    (∀ (A : Around) (outer : List Env) (s : Shared) (H : Hp) (args : Args) (us : List Value) (vs : List V) (Q : VK) (E : XK),
      A.guards = some [] → Room k A → Env0 P w K mg base A outer s H → BindsTo s fd args (ps.zip us) → Vals vs us → sp vs H Q E →
        codeAny (model P w) A (.call (.ref f) args) (CR (CX P w) outer P w H s Q E) s) ∧
    ∀ vs H Q E, sp vs H Q E → vs.length = ps.length
section
variable {P : Program} {w : World} {K : PySem.W.Frag} {mg : Str → Option Value} {base : Heap} {k j : Nat} {x : Str} {st : Stmt} {ps : List Str} {sp : Sp}
theorem Ok.val (G : Ok P w K mg base k x st ps sp) (b : ∀ f fd, L2.Fun K x x st f fd → L2.Binds K fd ps []) : ∃ f, mg x = some (.ref f) ∧ OkL P w K mg base k f sp := by
  obtain ⟨⟨f, fd, F, hm, r⟩, l⟩ := G
  exact ⟨f, hm, x, st, ps, fd, F, b f fd F, r, l⟩
end
section
variable {X : Cx} {k i : Nat} {E : XK} {x : Str} {p pos : Pos} {e : Expr} {es : List Expr} {t : TA}
/-- the slot holds one of some defs -/
def tCallH (i : Nat) (S : Addr → Sp → Prop) (E : XK) (t : TA) : TE := fun σ H Q => ∃ f sp, σ[i]? = some (some (.ref f)) ∧ S f sp ∧ t σ H fun vs H1 => sp vs H1 Q E
theorem pe_gl {S : Addr → Sp → Prop} (A : ∀ f sp, S f sp → OkL X.prog X.w X.K X.mg X.base k f sp) (hg : X.A.guards = some []) (hr : Room k X.A) (hx : Passes (CX X.prog X.w) X E)
    (hN : X.N[i]? = some x) (hv : Vis X.env.scope x) (ha : PA X (e :: es) t)
    (hdb : (x == ("__debug__" : Str)) = false := by decide) (hcd : (x == ("__classdict__" : Str)) = false := by decide)
    (he : starEach (e :: es) X.env = (false, eval e X.env) :: starEach es X.env := by rfl)
    (hpl : (backTo pos (starEach es X.env)).any (·.1) = false := by rfl) :
    PE X (.Call (.Name x p) (e :: es) [] pos) (tCallH i S E t) := by
  refine ⟨fun pins s σ H Q I h => ?_⟩
  obtain ⟨f, sp, hs, hS, ht⟩ := h
  obtain ⟨_, _, ps, fd, F, hb, r, l⟩ := A f sp hS
  refine wpAny_Call_Name_kw (thn ((pe_var (pos := p) hN hv hdb hcd).run pins s σ H (fun v H1 => v = .ref f ∧ H1 = H) I ⟨.ref f, hs, rfl, rfl⟩) fun u s1 ⟨v, H1, I1, r1, q1⟩ => ?_)
  obtain ⟨rfl, rfl⟩ := q1
  cases r1
  refine PySem.W.callWith_K (h₀ := X.base) I.ok.mod.kin F.kp
    (thn (ha.run pos pins s1 σ _ _ I1 ht) fun us s2 ⟨vs, H2, I2, r2, q⟩ => ⟨I2.kIn, ?_⟩) he hpl
  have hl : us.length = ps.length := by rw [← r2.length]; exact l _ _ _ _ q
  have bb := hb s2 us I2.kIn (by rw [List.append_nil]; exact hl)
  rw [List.append_nil] at bb
  refine wpAny_call (codeAny_mono (run_g r hg hr hx I2 bb r2 q) fun z s' hz => ?_)
  cases z with
  | error e => exact hz
  | ok fl => cases fl <;> exact hz
/-- the name of a def, as a value -/
theorem pe_gd {f : Addr} {pos : Pos} (gl : Gl X x) (hm : X.mg x = some (.ref f)) (hd : (x == ("__debug__" : Str)) = false := by decide) : PE X (.Name x pos) (tC (.ref f)) :=
  pe_glob gl hm rfl hd
end
theorem r_callH {i : Nat} {S : Addr → Sp → Prop} {E : XK} {t : TA} {σ : L2.St} {H : Hp} {Q : VK} (f : Addr) (sp : Sp) (h1 : σ[i]? = some (some (.ref f))) (h2 : S f sp) (h : t σ H fun vs H1 => sp vs H1 Q E) : tCallH i S E t σ H Q := ⟨f, sp, h1, h2, h⟩
end Vf

namespace Vf
open PySem PySem.Spec PyProof.Rows L2
/-! ## lists of rows -/
section
variable {K : PySem.W.Frag} {H H' : Hp} {Q : VK}
/-- a list of refs to tuples of ints -/
def RowsAt (K : PySem.W.Frag) (H : Hp) (vs : List V) (nss : List (List Int)) : Prop := Paired (fun v ns => ∃ p, v = V.ref p ∧ SqT K H p (ns.map V.int)) vs nss
theorem RowsAt.mono {vs : List V} {nss : List (List Int)} (h : RowsAt K H vs nss) (s : ∀ p xs, SqT K H p xs → SqT K H' p xs) : RowsAt K H' vs nss := by
  induction h with
  | nil => exact .nil
  | cons h1 h2 ih =>
    obtain ⟨p, e, t⟩ := h1
    exact .cons ⟨p, e, s p _ t⟩ ih
theorem RowsAt.same {vs : List V} {nss : List (List Int)} (h : RowsAt K H vs nss) (s : Same H H') : RowsAt K H' vs nss := h.mono fun _ _ t => Same.tup s t
theorem RowsAt.snoc {vs : List V} {nss : List (List Int)} {p : Addr} {ns : List Int} (h : RowsAt K H vs nss) (t : SqT K H p (ns.map V.int)) : RowsAt K H (vs ++ [.ref p]) (nss ++ [ns]) := by
  induction h with
  | nil => exact .cons ⟨p, rfl, t⟩ .nil
  | cons h1 h2 ih => exact .cons h1 ih
theorem RowsAt.len {vs : List V} {nss : List (List Int)} (h : RowsAt K H vs nss) : vs.length = nss.length := Paired.length h
theorem RowsAt.dp {vs : List V} {nss : List (List Int)} (h : RowsAt K H vs nss) : DpAll K H vs (nss.map tupD) := by
  induction h with
  | nil => exact .nil
  | cons h1 h2 ih =>
    obtain ⟨p, e, t⟩ := h1
    rw [e]
    exact .cons (Dp.tupD t) ih
def linesD (nss : List (List Int)) : PyData := .list (nss.map tupD)
theorem tameLines : ∀ nss : List (List Int), (∀ ns ∈ nss, ∀ n ∈ ns, n.natAbs < 2 ^ 1900) → tameAll (nss.map tupD) = true
  | [], _ => rfl
  | ns :: nss, h => by
    show (tameAll (ns.map PyData.int) && tameAll (nss.map tupD)) = true
    rw [tameInts ns (h ns List.mem_cons_self), tameLines nss (fun m hm => h m (List.mem_cons_of_mem _ hm))]
    rfl
theorem roomLines : ∀ nss : List (List Int), (∀ ns ∈ nss, ns.length ≤ 12) → roomAll (nss.map tupD) ≤ 24030 * nss.length
  | [], _ => Nat.le_refl _
  | ns :: nss, h => by
    have h1 := h ns List.mem_cons_self
    have h2 := roomLines nss (fun m hm => h m (List.mem_cons_of_mem _ hm))
    show (4 + roomAll (ns.map PyData.int)) + 2 + roomAll (nss.map tupD) ≤ 24030 * (nss.length + 1)
    rw [roomInts]
    omega
theorem depthLines : ∀ nss : List (List Int), PyData.depthAll (nss.map tupD) ≤ 1
  | [] => Nat.zero_le _
  | ns :: nss => by
    have h2 := depthLines nss
    show max (PyData.depthAll (ns.map PyData.int) + 1) (PyData.depthAll (nss.map tupD)) ≤ 1
    rw [depthInts]
    omega
theorem r_reprTs {a : Addr} {vs : List V} (nss : List (List Int)) (hs : SqL K H a vs) (R : RowsAt K H vs nss) (b : ∀ ns ∈ nss, ∀ n ∈ ns, n.natAbs < 2 ^ 1900) (l1 : nss.length ≤ 4) (l2 : ∀ ns ∈ nss, ns.length ≤ 12)
    (h : Q (.str (linesD nss).shown) H) : rRepr K [.ref a] H Q := by
  refine r_reprD (linesD nss) (Dp.lst hs R.dp) ?_ ?_ ?_ h
  · exact tameLines nss b
  · have := depthLines nss
    show PyData.depthAll (nss.map tupD) + 1 ≤ 40
    omega
  · have := roomLines nss l2
    show 4 + roomAll (nss.map tupD) ≤ 100000
    omega
end
end Vf

namespace Vf
/-! ## sums of powers: lists of ints, lowest first -/
def pval : List Int → Int → Int
  | [], _ => 0
  | c :: t, x => c + x * pval t x
def l1 : List Int → Nat
  | [] => 0
  | c :: t => c.natAbs + l1 t
theorem pval_append : ∀ (p q : List Int) (x : Int), pval (p ++ q) x = pval p x + x ^ p.length * pval q x
  | [], q, x => by simp [pval]
  | c :: p, q, x => by
    have h := pval_append p q x
    simp only [List.cons_append, pval, List.length_cons, h, Int.pow_succ]
    grind
theorem l1_append : ∀ (p q : List Int), l1 (p ++ q) = l1 p + l1 q
  | [], q => by simp [l1]
  | c :: p, q => by
    have h := l1_append p q
    simp only [List.cons_append, l1, h]
    omega
theorem pval_zeros : ∀ (n : Nat) (x : Int), pval (List.replicate n 0) x = 0
  | 0, _ => rfl
  | n + 1, x => by
    rw [List.replicate_succ, pval, pval_zeros n x]
    simp
theorem l1_zeros : ∀ (n : Nat), l1 (List.replicate n 0) = 0
  | 0 => rfl
  | n + 1 => by
    rw [List.replicate_succ, l1, l1_zeros n]
    rfl
theorem pval_set : ∀ {p : List Int} {i : Nat} {c v x : Int}, p[i]? = some c → pval (p.set i (c + v)) x = pval p x + v * x ^ i
  | [], i, c, v, x, h => by simp at h
  | a :: p, 0, c, v, x, h => by
    have e : a = c := by simpa using h
    subst e
    simp only [List.set_cons_zero, pval, Int.pow_zero]
    grind
  | a :: p, i + 1, c, v, x, h => by
    have h2 : p[i]? = some c := by simpa using h
    have ih := pval_set (v := v) (x := x) h2
    simp only [List.set_cons_succ, pval, ih, Int.pow_succ]
    grind
theorem l1_set : ∀ {p : List Int} {i : Nat} {c v : Int}, p[i]? = some c → l1 (p.set i (c + v)) ≤ l1 p + v.natAbs
  | [], i, c, v, h => by simp at h
  | a :: p, 0, c, v, h => by
    have e : a = c := by simpa using h
    subst e
    simp only [List.set_cons_zero, l1]
    omega
  | a :: p, i + 1, c, v, h => by
    have h2 : p[i]? = some c := by simpa using h
    have ih := l1_set (v := v) h2
    simp only [List.set_cons_succ, l1]
    omega
theorem take_nx {α : Type} {p : List α} {i : Nat} {c : α} (h : p[i]? = some c) : p.take (i + 1) = p.take i ++ [c] := by
  rw [List.take_add_one, h]
  rfl
theorem len_tk {p : List Int} {i : Nat} {c : Int} (h : p[i]? = some c) : (p.take i).length = i := by
  have := (List.getElem?_eq_some_iff.mp h).1
  rw [List.length_take]
  omega
theorem pval_take {p : List Int} {i : Nat} {c x : Int} (h : p[i]? = some c) : pval (p.take (i + 1)) x = pval (p.take i) x + c * x ^ i := by
  rw [take_nx h, pval_append, len_tk h]
  simp only [pval]
  grind
theorem l1_take {p : List Int} {i : Nat} {c : Int} (h : p[i]? = some c) : l1 (p.take (i + 1)) = l1 (p.take i) + c.natAbs := by
  rw [take_nx h, l1_append]
  simp only [l1]
  omega
theorem l1_take_le : ∀ (p : List Int) (i : Nat), l1 (p.take i) ≤ l1 p
  | [], i => by simp [l1]
  | a :: p, 0 => by simp [l1]
  | a :: p, i + 1 => by
    have := l1_take_le p i
    simp only [List.take_succ_cons, l1]
    omega
theorem drop_at {α : Type} {p : List α} {i : Nat} {c : α} (h : p[i]? = some c) : p.drop i = c :: p.drop (i + 1) := by
  have hl := (List.getElem?_eq_some_iff.mp h)
  obtain ⟨h1, h2⟩ := hl
  rw [List.drop_eq_getElem_cons h1, h2]
theorem pval_drop {p : List Int} {i : Nat} {c x : Int} (h : p[i]? = some c) : pval (p.drop i) x = c + x * pval (p.drop (i + 1)) x := by
  rw [drop_at h]
  rfl
theorem l1_drop {p : List Int} {i : Nat} {c : Int} (h : p[i]? = some c) : l1 (p.drop i) = c.natAbs + l1 (p.drop (i + 1)) := by
  rw [drop_at h]
  rfl
theorem l1_drop_le : ∀ (p : List Int) (i : Nat), l1 (p.drop i) ≤ l1 p
  | [], i => by simp [l1]
  | a :: p, 0 => Nat.le_refl _
  | a :: p, i + 1 => by
    have := l1_drop_le p i
    simp only [List.drop_succ_cons, l1]
    omega
theorem l1_mem : ∀ {p : List Int} {c : Int}, c ∈ p → c.natAbs ≤ l1 p
  | a :: p, c, h => by
    simp only [l1]
    rcases List.mem_cons.mp h with e | e
    · subst e; omega
    · have := l1_mem e; omega
theorem pval_le : ∀ (p : List Int) (x : Int) (X : Nat), 1 ≤ X → x.natAbs ≤ X → (pval p x).natAbs ≤ l1 p * X ^ p.length
  | [], x, X, _, _ => by simp [pval, l1]
  | c :: p, x, X, h1, hx => by
    have ih := pval_le p x X h1 hx
    simp only [pval, l1, List.length_cons]
    have e1 : (c + x * pval p x).natAbs ≤ c.natAbs + x.natAbs * (pval p x).natAbs := by
      have := Int.natAbs_add_le c (x * pval p x)
      rw [Int.natAbs_mul] at this
      exact this
    have e2 : x.natAbs * (pval p x).natAbs ≤ X * (l1 p * X ^ p.length) := Nat.mul_le_mul hx ih
    have e3 : X * (l1 p * X ^ p.length) = l1 p * X ^ (p.length + 1) := by rw [Nat.pow_succ]; grind
    have e4 : c.natAbs ≤ c.natAbs * X ^ (p.length + 1) := Nat.le_mul_of_pos_right _ (Nat.pow_pos h1)
    rw [Nat.add_mul]
    omega
/-- no number but 0 is divided by all -/
theorem no_div {d : Int} (h : ∀ x : Int, x ≠ 0 → x ∣ d) : d = 0 := by
  rcases Int.lt_trichotomy d 0 with c | c | c
  · have h1 := h (d - 1) (by omega)
    have := Int.le_of_dvd (show 0 < -d by omega) (Int.dvd_neg.mpr ((Int.neg_dvd).mpr h1))
    omega
  · exact c
  · have := Int.le_of_dvd c (h (d + 1) (by omega))
    omega
theorem pval_none : ∀ {p : List Int}, (∀ x : Int, x ≠ 0 → pval p x = 0) → ∀ c ∈ p, c = 0
  | [], _, _, h => by simp at h
  | a :: p, h, c, hc => by
    have ha : a = 0 := no_div fun x hx => by
      have := h x hx
      rw [pval] at this
      exact ⟨-pval p x, by grind⟩
    subst ha
    rcases List.mem_cons.mp hc with e | e
    · exact e
    · refine pval_none (p := p) (fun x hx => ?_) c e
      have := h x hx
      rw [pval, Int.zero_add] at this
      rcases Int.mul_eq_zero.mp this with z | z
      · exact absurd z hx
      · exact z
def psub : List Int → List Int → List Int
  | [], q => q.map fun c => -c
  | p, [] => p
  | a :: p, b :: q => (a - b) :: psub p q
theorem pval_neg : ∀ (q : List Int) (x : Int), pval (q.map fun c => -c) x = -pval q x
  | [], _ => rfl
  | c :: q, x => by
    simp only [List.map_cons, pval, pval_neg q x]
    grind
theorem pval_sub : ∀ (p q : List Int) (x : Int), pval (psub p q) x = pval p x - pval q x
  | [], q, x => by
    have e : psub [] q = q.map fun c => -c := by cases q <;> rfl
    rw [e, pval_neg]
    simp [pval]
  | a :: p, [], x => by simp [psub, pval]
  | a :: p, b :: q, x => by
    simp only [psub, pval, pval_sub p q x]
    grind
theorem psub_all : ∀ (p q : List Int), (∀ c ∈ psub p q, c = 0) → ∀ i, p.getD i 0 = q.getD i 0
  | [], q, h, i => by
    have e : psub [] q = q.map fun c => -c := by cases q <;> rfl
    rw [e] at h
    rw [List.getD_eq_getElem?_getD, List.getD_eq_getElem?_getD]
    cases hq : q[i]? with
    | none => rfl
    | some c =>
      have := h (-c) (List.mem_map.mpr ⟨c, List.mem_of_getElem? hq, rfl⟩)
      have : c = 0 := by omega
      subst this
      rfl
  | a :: p, [], h, i => by
    have h : ∀ c ∈ a :: p, c = 0 := h
    rw [List.getD_eq_getElem?_getD, List.getD_eq_getElem?_getD]
    cases hq : (a :: p)[i]? with
    | none => rfl
    | some c =>
      have := h c (List.mem_of_getElem? hq)
      subst this
      rfl
  | a :: p, b :: q, h, i => by
    have h0 : a - b = 0 := h (a - b) List.mem_cons_self
    have h1 := psub_all p q (fun c hc => h c (List.mem_cons_of_mem _ hc))
    cases i with
    | zero =>
      show a = b
      omega
    | succ i => exact h1 i
/-- without needless 0s at its end -/
def Canon (p : List Int) : Prop := p ≠ [] ∧ (p.length = 1 ∨ p.getD (p.length - 1) 0 ≠ 0)
theorem Canon.len {p : List Int} (h : Canon p) : 1 ≤ p.length := by
  cases p with
  | nil => exact absurd rfl h.1
  | cons a p => simp
theorem getD_out {p : List Int} {i : Nat} (h : p.length ≤ i) : p.getD i 0 = 0 := by
  rw [List.getD_eq_getElem?_getD, List.getElem?_eq_none h]
  rfl
theorem Canon.eq {p q : List Int} (hp : Canon p) (hq : Canon q) (h : ∀ x, pval p x = pval q x) : p = q := by
  have e := psub_all p q (pval_none fun x _ => by rw [pval_sub, h x]; omega)
  have lp := hp.len
  have lq := hq.len
  have el : p.length = q.length := by
    rcases Nat.lt_trichotomy p.length q.length with c | c | c
    · rcases hq.2 with z | z
      · omega
      · exact absurd ((e (q.length - 1)).symm.trans (getD_out (by omega))) z
    · exact c
    · rcases hp.2 with z | z
      · omega
      · exact absurd ((e (p.length - 1)).trans (getD_out (by omega))) z
  refine List.ext_getElem el fun i h1 h2 => ?_
  have := e i
  rw [List.getD_eq_getElem?_getD, List.getD_eq_getElem?_getD, List.getElem?_eq_getElem h1, List.getElem?_eq_getElem h2] at this
  exact this
theorem Canon.one (c : Int) : Canon [c] := ⟨by simp, .inl rfl⟩
theorem Canon.zero {p : List Int} (hp : Canon p) (h : ∀ x, pval p x = 0) : p = [0] := hp.eq (Canon.one 0) fun x => by rw [h x]; simp [pval]
/-- a sum, as a function, with bounds of its size and its degree -/
structure IsP (p : List Int) (f : Int → Int) (B d : Nat) : Prop where
  cn : Canon p
  v : ∀ x, pval p x = f x
  b : l1 p ≤ B
  l : p.length ≤ d + 1
theorem IsP.mono {p : List Int} {f : Int → Int} {B B' d d' : Nat} (h : IsP p f B d) (hb : B ≤ B') (hd : d ≤ d') : IsP p f B' d' := ⟨h.cn, h.v, Nat.le_trans h.b hb, by have := h.l; omega⟩
theorem IsP.eq {p q : List Int} {f g : Int → Int} {B B' d d' : Nat} (h : IsP p f B d) (h' : IsP q g B' d') (e : ∀ x, f x = g x) : p = q := h.cn.eq h'.cn fun x => by rw [h.v, h'.v, e]
theorem IsP.as {p : List Int} {f g : Int → Int} {B d : Nat} (h : IsP p f B d) (e : ∀ x, f x = g x) : IsP p g B d := ⟨h.cn, fun x => by rw [h.v, e], h.b, h.l⟩
/-- how a sum leans -/
def Dv (f g : Int → Int) : Prop := ∀ x h : Int, ∃ k : Int, f (x + h) = f x + h * g x + h * h * k
theorem Dv.uniq {f g g' : Int → Int} (a : Dv f g) (b : Dv f g') (x : Int) : g x = g' x := by
  have : g x - g' x = 0 := no_div fun h hh => by
    obtain ⟨k, e⟩ := a x h
    obtain ⟨k', e'⟩ := b x h
    refine ⟨k' - k, ?_⟩
    have : h * (g x - g' x - h * (k' - k)) = 0 := by grind
    rcases Int.mul_eq_zero.mp this with z | z
    · exact absurd z hh
    · omega
  omega
theorem Dv.add {f g f' g' : Int → Int} (a : Dv f f') (b : Dv g g') : Dv (fun x => f x + g x) (fun x => f' x + g' x) := fun x h => by
  obtain ⟨k, e⟩ := a x h
  obtain ⟨k', e'⟩ := b x h
  exact ⟨k + k', by simp only [e, e']; grind⟩
theorem Dv.mul {f g f' g' : Int → Int} (a : Dv f f') (b : Dv g g') : Dv (fun x => f x * g x) (fun x => f' x * g x + f x * g' x) := fun x h => by
  obtain ⟨k, e⟩ := a x h
  obtain ⟨k', e'⟩ := b x h
  exact ⟨f' x * g' x + f x * k' + k * g x + h * (f' x * k' + k * g' x) + h * h * k * k', by simp only [e, e']; grind⟩
theorem Dv.comp {f g f' g' : Int → Int} (a : Dv f f') (b : Dv g g') : Dv (fun x => f (g x)) (fun x => f' (g x) * g' x) := fun x h => by
  obtain ⟨k', e'⟩ := b x h
  obtain ⟨k, e⟩ := a (g x) (h * g' x + h * h * k')
  refine ⟨k' * f' (g x) + (g' x + h * k') * (g' x + h * k') * k, ?_⟩
  show f (g (x + h)) = _
  rw [e', show g x + h * g' x + h * h * k' = g x + (h * g' x + h * h * k') by omega, e]
  grind
theorem Dv.const (c : Int) : Dv (fun _ => c) (fun _ => 0) := fun x h => ⟨0, by grind⟩
theorem Dv.pow : ∀ (c : Int) (n : Nat), Dv (fun x => c * x ^ (n + 1)) (fun x => ((n + 1 : Nat) : Int) * c * x ^ n)
  | c, 0 => fun x h => ⟨0, by grind⟩
  | c, n + 1 => fun x h => by
    obtain ⟨k, e⟩ := Dv.pow c n x h
    have e : c * (x + h) ^ (n + 1) = c * x ^ (n + 1) + h * (((n + 1 : Nat) : Int) * c * x ^ n) + h * h * k := e
    refine ⟨((n + 1 : Nat) : Int) * c * x ^ n + (x + h) * k, ?_⟩
    show c * (x + h) ^ (n + 1 + 1) = c * x ^ (n + 1 + 1) + h * (((n + 1 + 1 : Nat) : Int) * c * x ^ (n + 1)) + h * h * (((n + 1 : Nat) : Int) * c * x ^ n + (x + h) * k)
    rw [Int.pow_succ (x + h), ← Int.mul_assoc, e, Int.pow_succ x (n + 1)]
    have e2 : x ^ (n + 1) = x ^ n * x := Int.pow_succ ..
    rw [e2]
    have e3 : ((n + 1 + 1 : Nat) : Int) = ((n + 1 : Nat) : Int) + 1 := rfl
    rw [e3]
    grind
theorem Dv.as {f f' g g' : Int → Int} (a : Dv f g) (e : ∀ x, f x = f' x) (e' : ∀ x, g x = g' x) : Dv f' g' := fun x h => by
  obtain ⟨k, z⟩ := a x h
  exact ⟨k, by rw [← e, ← e, ← e', z]⟩
/-- the slope's coefficients -/
def psl (p : List Int) (n : Nat) : List Int := (List.range n).map fun i : Nat => ((i + 1 : Nat) : Int) * p.getD (i + 1) 0
theorem psl_len (p : List Int) (n : Nat) : (psl p n).length = n := by simp [psl]
theorem psl_succ (p : List Int) (n : Nat) : psl p (n + 1) = psl p n ++ [((n + 1 : Nat) : Int) * p.getD (n + 1) 0] := by
  unfold psl
  rw [List.range_succ, List.map_append]
  rfl
theorem psl_dv (p : List Int) : ∀ n, n + 1 ≤ p.length → Dv (pval (p.take (n + 1))) (pval (psl p n))
  | 0, h => by
    obtain ⟨c, hc⟩ : ∃ c, p[0]? = some c := ⟨_, List.getElem?_eq_getElem (by omega)⟩
    refine (Dv.const c).as (fun x => ?_) (fun x => rfl)
    rw [take_nx hc]
    simp [pval]
  | n + 1, h => by
    obtain ⟨c, hc⟩ : ∃ c, p[n + 1]? = some c := ⟨_, List.getElem?_eq_getElem (by omega)⟩
    have ih := psl_dv p n (by omega)
    refine (ih.add (Dv.pow c n)).as (fun x => (pval_take hc).symm) (fun x => ?_)
    rw [psl_succ, pval_append, psl_len, List.getD_eq_getElem?_getD, hc]
    simp only [pval, Option.getD_some]
    grind
theorem psl_l1 (p : List Int) : ∀ n, n + 1 ≤ p.length → l1 (psl p n) ≤ n * l1 (p.take (n + 1))
  | 0, h => by simp [psl, l1]
  | n + 1, h => by
    obtain ⟨c, hc⟩ : ∃ c, p[n + 1]? = some c := ⟨_, List.getElem?_eq_getElem (by omega)⟩
    have ih := psl_l1 p n (by omega)
    rw [psl_succ, l1_append, l1_take hc, List.getD_eq_getElem?_getD, hc]
    simp only [l1, Option.getD_some]
    rw [Int.natAbs_mul, Int.natAbs_natCast, Nat.mul_add]
    have : n * l1 (p.take (n + 1)) ≤ (n + 1) * l1 (p.take (n + 1)) := Nat.mul_le_mul_right _ (by omega)
    omega
theorem IsP.slope {p : List Int} {f : Int → Int} {B d : Nat} (h : IsP p f B d) (hl : 2 ≤ p.length) : ∃ f', Dv f f' ∧ IsP (psl p (p.length - 1)) f' (d * B) (d - 1) := by
  have hd := h.l
  have hv := psl_dv p (p.length - 1) (by omega)
  have hb := psl_l1 p (p.length - 1) (by omega)
  rw [show p.length - 1 + 1 = p.length by omega, List.take_length] at hv hb
  refine ⟨_, hv.as h.v (fun _ => rfl), ⟨⟨fun e => ?_, .inr ?_⟩, fun _ => rfl, ?_, ?_⟩⟩
  · have := psl_len p (p.length - 1)
    rw [e] at this
    simp at this
    omega
  · rw [psl_len]
    have e : p.length - 1 = (p.length - 1 - 1) + 1 := by omega
    rw [List.getD_eq_getElem?_getD]
    unfold psl
    rw [List.getElem?_map, List.getElem?_range (by omega)]
    show ((p.length - 1 - 1 + 1 : Nat) : Int) * p.getD (p.length - 1 - 1 + 1) 0 ≠ 0
    rw [← e]
    rcases h.cn.2 with z | z
    · omega
    · exact Int.mul_ne_zero (by omega) z
  · refine Nat.le_trans hb (Nat.mul_le_mul (by omega) h.b)
  · rw [psl_len]; omega
end Vf

namespace Vf
open PySem PySem.Spec PyProof.Rows L2
/-! ## t[::-1], t a tuple -/
section
variable {prog : Program} {w : World} {A : Around} {E : Value → Shared → Prop} {s : Shared}
theorem adj_rev (n : Nat) : Builtin.Slice.sliceAdjust none none (-1) (n : Int) = ((n : Int) - 1, -1) := rfl
theorem plc_rev (n : Nat) : Builtin.Slice.slicePlaces ((n : Int) - 1) (-1) (-1) = n := by
  show (if (-1 : Int) > 0 then _ else (if (n : Int) - 1 > -1 then ((n : Int) - 1 - (-1) - 1) / (-(-1)) + 1 else 0)).toNat = n
  rw [if_neg (by decide)]
  split
  · rw [show (-(-1) : Int) = 1 from rfl, Int.ediv_one]
    omega
  · show (0 : Int).toNat = n
    have : n = 0 := by omega
    rw [this]
    rfl
theorem fm_some {α β : Type} {f : α → Option β} {g : α → β} : ∀ (l : List α), (∀ a ∈ l, f a = some (g a)) → l.filterMap f = l.map g
  | [], _ => rfl
  | a :: l, h => by
    rw [List.filterMap_cons, h a List.mem_cons_self, List.map_cons, fm_some l fun b hb => h b (List.mem_cons_of_mem _ hb)]
theorem pick_rev (xs : List Value) : ((List.range xs.length).filterMap fun m : Nat => xs.toArray[(((xs.length : Nat) : Int) - 1 + (m : Int) * -1).toNat]?) = xs.reverse := by
  have e1 : ∀ m ∈ List.range xs.length, xs.toArray[(((xs.length : Nat) : Int) - 1 + (m : Int) * -1).toNat]? = some (xs.reverse.getD m .none) := fun m hm => by
    have lt := List.mem_range.mp hm
    rw [show (((xs.length : Nat) : Int) - 1 + (m : Int) * -1).toNat = xs.length - 1 - m by omega, List.getElem?_toArray, List.getD_eq_getElem?_getD, List.getElem?_reverse lt, List.getElem?_eq_getElem (by omega)]
    rfl
  have e2 : ((List.range xs.length).filterMap fun m : Nat => xs.toArray[(((xs.length : Nat) : Int) - 1 + (m : Int) * -1).toNat]?) = (List.range xs.length).map fun m => xs.reverse.getD m .none := by
    exact fm_some _ e1
  rw [e2]
  refine List.ext_getElem (by simp) fun i h1 h2 => ?_
  rw [List.getElem_map, List.getElem_range, List.getD_eq_getElem?_getD, List.getElem?_eq_getElem h2]
  rfl
theorem applied_rev {sl : Addr} {t : Tok} {n : Nat} {Q : Int × Int × Nat → Shared → Prop} (hs : s.heap.IsSliceOf sl .none .none (.int (-1) t))
    (h : Q ((n : Int) - 1, -1, n) s) : wpAny (model prog w) A (Builtin.Slice.sliceApplied (.ref sl) (pure (n : Int))) Q E s := by
  obtain ⟨o, ho, hc, hd⟩ := id hs
  unfold Builtin.Slice.sliceApplied Builtin.Slice.sliceFields
  refine wpAny_bind (wpAny_bind (wpAny_field ho hd (x := .none) rfl
    (wpAny_bind (wpAny_field ho hd (x := .none) rfl (wpAny_bind (wpAny_field ho hd (x := .int (-1) t) rfl (wpAny_pure ?_)))))))
  refine wpAny_bind (slicePart_int ?_)
  show wpAny _ _ (if ((-1 : Int) == 0) = true then _ else _) _ _ s
  rw [if_neg (by decide)]
  refine wpAny_bind (slicePart_none (wpAny_bind (slicePart_none (wpAny_bind (wpAny_pure ?_)))))
  show wpAny _ _ (match Builtin.Slice.sliceAdjust none none (-1) (n : Int) with | (lo, hi) => pure (lo, (-1 : Int), Builtin.Slice.slicePlaces lo hi (-1))) _ _ s
  rw [adj_rev]
  show wpAny _ _ (pure ((n : Int) - 1, (-1 : Int), Builtin.Slice.slicePlaces ((n : Int) - 1) (-1) (-1))) _ _ s
  rw [plc_rev]
  exact wpAny_pure h
theorem item_rev {t sl : Addr} {its : List Value} {tk : Tok} {Q : Value → Shared → Prop} (ht : IsTup s.heap t its.toArray) (hs : s.heap.IsSliceOf sl .none .none (.int (-1) tk))
    (h : Q (.ref s.heap.objs.size) { s with heap := s.heap.push { cls := .type "tuple", data := .seq its.reverse.toArray } })
    (hz : its.length ≤ sizeLine) : wpAny (model prog w) A (getItem (.ref t) (.ref sl)) Q E s := by
  have ok : sizeOk (.seq its.reverse.toArray) := by
    show its.reverse.toArray.size ≤ sizeLine
    rw [List.size_toArray, List.length_reverse]
    exact hz
  obtain ⟨os, hos, hcs, hds⟩ := id hs
  have ty : s.TypeIs (.ref sl) "slice" := ⟨os, hos, hcs⟩
  unfold getItem
  try with_reducible refine wpAny_holding ?_
  first | refine wpAny_bind (wpAny_pure ?_) | skip
  refine wpAny_bind (wpAny_sequenceKey ht.typeIs (by decide) ?_)
  refine wpAny_bind (wpAny_callSpecial?_slot (name := Str.ofString "__getitem__") ht.typeIs
    PyProof.Rows.slot_tuple_getitem (wpAny_call_entry PyProof.Rows.slot_tuple_getitem
      ht.typeIs entry_tuple_getitem ?_ (args_tuple_getitem _ _)))
  show wpAny _ _ (Builtin.Tuple.tupleItemsOf (.ref t) >>= _) _ _ s
  refine wpAny_bind (tupleItemsOf_ ht ?_)
  refine wpAny_bind (wpAny_typeOf ty ?_)
  rw [if_pos (by decide)]
  rw [List.size_toArray]
  refine wpAny_bind (applied_rev hs ?_)
  have no : ¬ (((((its.length : Nat) : Int) - 1 == 0) && ((-1 : Int) == 1) && (its.length == its.length)) = true) := by
    rw [Bool.and_eq_true, Bool.and_eq_true]
    exact fun q => absurd q.1.2 (by decide)
  show wpAny _ _ (if ((((its.length : Nat) : Int) - 1 == 0) && ((-1 : Int) == 1) && (its.length == its.length)) = true then _ else _) _ _ s
  rw [if_neg no, pick_rev]
  first
    | exact wpAny_bind (m := Builtin.Tuple.tupleExact _) (wpAny_newObj_type (wpAny_pure ⟨_, rfl, wpAny_pure h⟩) ok)
    | exact wpAny_bind (m := Builtin.Tuple.tupleExact _) (wpAny_newObj_type (wpAny_bind (wpAny_pure (wpAny_pure ⟨_, rfl, wpAny_pure h⟩))) ok)
    | exact wpAny_bind (wpAny_bind (m := Builtin.Tuple.tupleExact _) (wpAny_newObj_type (wpAny_pure (wpAny_pure ⟨_, rfl, wpAny_pure h⟩)) ok))
    | exact wpAny_bind (wpAny_bind (m := Builtin.Tuple.tupleExact _) (wpAny_newObj_type (wpAny_pure ⟨_, rfl, wpAny_pure h⟩) ok))
end
def tRevT (K : PySem.W.Frag) (te : TE) : TE := fun σ H Q => te σ H fun x H1 => ∃ a xs, x = .ref a ∧ SqT K H1 a xs ∧ ∀ p, H1 p = none → Q (.ref p) (upd H1 p (.tup xs.reverse))
theorem pe_revT {X : Cx} {K : PySem.W.Frag} {e : Expr} {te : TE} {k : Nat} {p1 p2 p3 pos : Pos} (ek : X.K = K) (he : PE X e te) :
    PE X (.Subscript e (.Slice none none (some (.UnaryOp .USub (.Constant (.int 1) k p1) p2)) p3) pos) (tRevT K te) := by
  subst ek
  refine ⟨fun pins s σ H Q I h => ?_⟩
  refine Subscript_ (thn (he.run pins s σ H _ I h) fun v s1 ⟨x, H1, I1, r1, q1⟩ => ?_)
  obtain ⟨a, xs, rfl, hx, q⟩ := q1
  cases r1
  have st : PO X (some (.UnaryOp .USub (.Constant (.int 1) k p1) p2))
      (tPart (tUn (rU fun i => .int (-i)) (tC (.int 1)))) := po_some (pe_un un_neg pe_int)
  refine wpAny_Slice (thn (po_none.run pins s1 σ H1
    (fun o H2 => o = none ∧ H2 = H1) I1 ⟨rfl, rfl⟩) fun vl s2 ⟨l, H2, I2, pl, el, e2⟩ => ?_)
  subst el e2
  refine thn (po_none.run pins s2 σ H2
    (fun o H3 => o = none ∧ H3 = H2) I2 ⟨rfl, rfl⟩) fun vu s3 ⟨u, H3, I3, pu, eu, e3⟩ => ?_
  subst eu e3
  refine thn (st.run pins s3 σ H3
    (fun o H4 => o = some (-1) ∧ H4 = H3) I3 ⟨1, rfl, -1, rfl, rfl, rfl⟩) fun vs s4 ⟨o, H4, I4, ps, eo, e4⟩ => ?_
  subst eo e4
  cases pl
  cases pu
  cases ps with
  | int _ tk =>
  have I5 : Inv X pins σ H4 { s4 with heap := s4.heap.push { cls := .type "slice", data := .fields #[.none, .none, .int (-1) tk] } } :=
    I4.kept (t' := s4.toks) fun b ob q => Heap.get?_push_of_some _ q
  obtain ⟨its, r, ht, hz⟩ := I5.tuple hx
  have hl := r.length
  show wpAny (model X.prog X.w) X.A (subscriptTail e _ (.ref a) (.ref s4.heap.objs.size)) (EP X pins σ Q) X.xe _
  refine tail_any (ops := [.ref a, .ref s4.heap.objs.size]) ht.typeIs PyProof.Rows.slot_tuple_getitem.lookup ?_ (by with_unfolding_all rfl)
  refine item_rev ht (Heap.IsSliceOf.new _ _ _ _) ?_ (by rw [← hl]; exact hz)
  refine ⟨.ref _, _, I5.laid (t' := s4.toks) (o := .tup xs.reverse)
    (fun b ob q => Heap.get?_push_of_some _ q) (Nat.le_refl _) ?_, rfl, q _ (I5.hok.fresh (Nat.le_refl _))⟩
  exact ⟨by rw [List.length_reverse]; exact hz, its.reverse, r.reverse, IsTup.new _ _⟩
theorem r_revT {K : PySem.W.Frag} {te : TE} {σ : L2.St} {H : Hp} {Q : VK} (h : te σ H fun x H1 => ∃ a xs, x = .ref a ∧ SqT K H1 a xs ∧ ∀ p, H1 p = none → Q (.ref p) (upd H1 p (.tup xs.reverse))) : tRevT K te σ H Q := h
/-! ## reversed(t) -/
theorem i_rev {X : Cx} {K : PySem.W.Frag} {tg e : Expr} {te : TE} {p pos : Pos} (ek : X.K = K) (hg : Gl X "reversed") (hm : X.mg "reversed" = none) (he : PE X e te)
    (hs : starEach [e] X.env = (false, eval e X.env) :: starEach [] X.env := by rfl) : PI X tg (.Call (.Name "reversed" p) [e] [] pos) (RT.iRevA K te) := by
  subst ek
  exact RT.pi_revA hg hm he hs
theorem r_forRv {K : PySem.W.Frag} {g : TG} {tb : TS} {D : Ends} {σ : L2.St} {H : Hp} {te : TE} (h : te σ H fun v H1 => ∃ (a : Addr) (xs : List V), v = .ref a ∧ SqT K H1 a xs ∧ tFor (fun _ H2 R => R (RT.ItvT K a xs.length) H2) g tb D σ H1)
    (mono : ∀ (R R' : VK), (∀ v H1, R v H1 → R' v H1) → te σ H R → te σ H R') : tFor (RT.iRevA K te) g tb D σ H :=
  mono _ _ (fun v H1 ⟨a, xs, e, sv, r⟩ => ⟨a, xs, e, .inr ⟨sv, r⟩⟩) h
theorem mono_var {i : Nat} {σ : L2.St} {H : Hp} (R R' : VK) (h : ∀ v H1, R v H1 → R' v H1) (q : tVar i σ H R) : tVar i σ H R' := by
  obtain ⟨v, e, r⟩ := q
  exact ⟨v, e, h _ _ r⟩
theorem r_forRvV {K : PySem.W.Frag} {g : TG} {tb : TS} {D : Ends} {σ : L2.St} {H : Hp} {i : Nat} {a : Addr} (xs : List V) (e : σ[i]? = some (some (.ref a))) (sv : SqT K H a xs) (Pv : Nat → L2.St → Hp → Prop) (h0 : Pv 0 σ H)
    (hl : ∀ i σ H, Pv i σ H → SqT K H a xs)
    (hs : ∀ (i : Nat) (x : V) (σ : L2.St) (H : Hp), i < xs.length → xs[xs.length - 1 - i]? = some x → Pv i σ H → g x σ H fun σ2 H2 => tb { D with nx := Pv (i + 1), ct := Pv (i + 1), bk := D.nx } σ2 H2)
    (hd : ∀ σ H, Pv xs.length σ H → D.nx σ H) : tFor (RT.iRevA K (tVar i)) g tb D σ H :=
  r_forRv ⟨.ref a, e, a, xs, rfl, sv, RT.for_ItvT Pv h0 hl hs hd⟩ mono_var
/-! ## xs[i] += e -/
def rGetL (K : PySem.W.Frag) : V → V → Hp → VK → Prop := fun o i H Q => ∃ (p : Addr) (xs : List V) (k : Nat) (z : V), o = .ref p ∧ i = .int (k : Int) ∧ SqL K H p xs ∧ xs[k]? = some z ∧ Q z H
theorem get_list {X : Cx} {K : PySem.W.Frag} (ek : X.K = K) : PGet X (rGetL K) := by
  subst ek
  intro pins s σ H o i ov iv Q I ro ri h
  obtain ⟨p, xs, k, z, rfl, rfl, hq, he, q⟩ := h
  cases ro
  obtain ⟨t, rfl⟩ := ri
  obtain ⟨its, r, pl, hz⟩ := I.list hq
  obtain ⟨w, ew, rw'⟩ := r.get he
  have hn := line63
  have hk := (List.getElem?_eq_some_iff.mp he).1
  have hl := r.length
  refine PySem.wpAny_getItem_list pl.isList (by omega) (by omega) ?_ ⟨z, H, I, rw', q⟩
  rw [Int.toNat_natCast]
  simpa using ew
theorem r_getL {K : PySem.W.Frag} {H : Hp} {Q : VK} {p : Addr} {k : Nat} {z : V} (xs : List V) (h1 : SqL K H p xs) (h2 : xs[k]? = some z) (h : Q z H) : rGetL K (.ref p) (.int (k : Int)) H Q := ⟨p, xs, k, z, rfl, rfl, h1, h2, h⟩
theorem r_augS {to ti te : TE} {tget : V → V → Hp → VK → Prop} {tip : TIp} {tset : TSet} {D : Ends} {σ : L2.St} {H : Hp}
    (h : to σ H fun o H1 => ti σ H1 fun i H2 => tget o i H2 fun x H3 => te σ H3 fun y H4 => tip x y H4 fun z H5 => tset o i z H5 fun H6 => D.nx σ H6) : tAugS to ti te tget tip tset D σ H := h
/-! ## xs.pop() -/
theorem r_popL {H : Hp} {Q : VK} {l : Addr} (xs : List V) (y : V) (h1 : H l = some (.lst (xs ++ [y]))) (h : Q y (upd H l (.lst xs))) : rPop (.ref l) [] H Q :=
  ⟨l, _, y, rfl, rfl, h1, by simp, by rw [List.dropLast_concat]; exact h⟩
end Vf

namespace Vf
open PySem PySem.Spec PyProof.Rows L2
/-! ## the law's cask -/
def Cask (n : Nat) (k : Addr) (H : Hp) : Prop := ∃ a b c : Int, H k = some (.lst [.int b, .int c, .int a]) ∧ KegOk a b c (17 + 11 * n)
theorem Cask.mono {n m : Nat} {k : Addr} {H : Hp} (h : Cask n k H) (l : n ≤ m) : Cask m k H := by
  obtain ⟨a, b, c, e, o⟩ := h
  exact ⟨a, b, c, e, o.a0, o.ab, o.b0, o.bM, o.c0, by have := o.cn; omega⟩
theorem Cask.same {n : Nat} {k : Addr} {H H' : Hp} (h : Cask n k H) (s : Same H H') : Cask n k H' := by
  obtain ⟨a, b, c, e, o⟩ := h
  exact ⟨a, b, c, s _ _ e, o⟩
theorem Cask.new {n : Nat} {k p : Addr} {H : Hp} {o : HO} (h : Cask n k H) (hp : H p = none) : Cask n k (upd H p o) := h.same (Same.new hp)
theorem Cask.ne {n : Nat} {k p : Addr} {H : Hp} (h : Cask n k H) (hp : H p = none) : p ≠ k := by
  obtain ⟨a, b, c, e, o⟩ := h
  exact (ne_of_none e hp).symm
theorem Cask.tt {n : Nat} {k : Addr} {H H' : Hp} (h : Cask n k H) (e : Kx k H H') : Tt H H' := by
  obtain ⟨a, b, c, z, o⟩ := h
  exact e.tt z
theorem Cask.kx {n m : Nat} {k j : Addr} {H H' : Hp} (h : Cask n k H) (e : Kx j H H') (ne : k ≠ j) : Cask n k H' := by
  obtain ⟨a, b, c, z, o⟩ := h
  exact ⟨a, b, c, e _ _ ne z, o⟩
def sp_ctap : Sp := fun vs H Q _ => ∃ (k : Addr) (u : Int) (n : Nat), vs = [.ref k, .int u] ∧ Cask n k H ∧ n ≤ 2 ^ 60 ∧ 0 < u ∧ u < 2 ^ 62 ∧
  ∀ f H', 0 ≤ f → f < u → Kx k H H' → Cask (n + 1) k H' → Q (.int f) H'
theorem i_ctap {k : Addr} {u : Int} {H : Hp} {Q : VK} {E : XK} (n : Nat) (hk : Cask n k H) (hn : n ≤ 2 ^ 60) (h0 : 0 < u) (h1 : u < 2 ^ 62)
    (q : ∀ f H', 0 ≤ f → f < u → Kx k H H' → Cask (n + 1) k H' → Q (.int f) H') : sp_ctap [.ref k, .int u] H Q E := ⟨k, u, n, rfl, hk, hn, h0, h1, q⟩
def sp_cof (K : PySem.W.Frag) : Sp := fun vs H Q _ => ∃ (k t : Addr) (xs : List V) (n : Nat), vs = [.ref k, .ref t] ∧ Cask n k H ∧ n ≤ 2 ^ 60 ∧ t ≠ k ∧ SqL K H t xs ∧ 0 < xs.length ∧ xs.length ≤ 100000 ∧
  ∀ (i : Nat) (x : V) H', xs[i]? = some x → Kx k H H' → Cask (n + 1) k H' → Q x H'
theorem i_cof {K : PySem.W.Frag} {k t : Addr} {H : Hp} {Q : VK} {E : XK} (n : Nat) (xs : List V) (hk : Cask n k H) (hn : n ≤ 2 ^ 60) (ht : t ≠ k) (hs : SqL K H t xs) (h0 : 0 < xs.length) (h1 : xs.length ≤ 100000)
    (q : ∀ (i : Nat) x H', xs[i]? = some x → Kx k H H' → Cask (n + 1) k H' → Q x H') : sp_cof K [.ref k, .ref t] H Q E := ⟨k, t, xs, n, rfl, hk, hn, ht, hs, h0, h1, q⟩
def sp_cask (K : PySem.W.Frag) : Sp := fun vs H Q _ => ∃ (c : Addr) (ns : List Int) (j : Nat), vs = [.ref c, .int (j : Int)] ∧ SqL K H c (ns.map V.int) ∧ Script ns ∧ j ≤ 1000 ∧
  ∀ p H', Same H H' → H p = none → Cask 0 p H' → Q (.ref p) H'
theorem i_cask {K : PySem.W.Frag} {c : Addr} {H : Hp} {Q : VK} {E : XK} (ns : List Int) (j : Nat) (hs : SqL K H c (ns.map V.int)) (hn : Script ns) (hj : j ≤ 1000)
    (q : ∀ p H', Same H H' → H p = none → Cask 0 p H' → Q (.ref p) H') : sp_cask K [.ref c, .int (j : Int)] H Q E := ⟨c, ns, j, rfl, hs, hn, hj, q⟩
theorem Cask.none {n : Nat} {k q : Addr} {H H' : Hp} (h : Cask n k H') (e : Kx k H H') (hq : H' q = Option.none) : H q = Option.none := by
  obtain ⟨a, b, c, z, o⟩ := h
  exact none_kx e z hq
theorem r_bm0 {K : PySem.W.Frag} {T : String} {r : V → List V → Hp → VK → Prop} {to : TE} {σ : L2.St} {H : Hp} {Q : VK} (h : to σ H fun x H1 => tyV K T x H1 ∧ r x [] H1 Q) : tBM0 K T r to σ H Q := h
end Vf

namespace Vf
/-! ## sums by their steps -/
def nval : List Int → Int → Int → Int
  | [], _, _ => 0
  | s :: t, j, x => s + (x - j) * nval t (j + 1) x
def lb : List Int → Nat → Nat
  | [], _ => 0
  | s :: t, j => s.natAbs + (1 + j) * lb t (j + 1)
theorem lb_le (S : Nat) : ∀ (s : List Int) (j : Nat), (∀ c ∈ s, c.natAbs ≤ S) → j + s.length ≤ 19 → lb s j ≤ S * 20 ^ s.length
  | [], _, _, _ => Nat.zero_le _
  | c :: t, j, h, hl => by
    rw [List.length_cons] at hl
    have h1 := h c List.mem_cons_self
    have h2 := lb_le S t (j + 1) (fun d hd => h d (List.mem_cons_of_mem _ hd)) (by omega)
    have h3 : (1 + j) * lb t (j + 1) ≤ 19 * (S * 20 ^ t.length) := Nat.mul_le_mul (by omega) h2
    have h4 : S ≤ S * 20 ^ t.length := Nat.le_mul_of_pos_right _ (Nat.pow_pos (by decide))
    rw [lb, List.length_cons, Nat.pow_succ, ← Nat.mul_assoc]
    omega
theorem nval_zeros (n : Nat) : ∀ (s : List Int) (j x : Int), nval (s ++ List.replicate n 0) j x = nval s j x
  | [], j, x => by
    rw [List.nil_append]
    induction n generalizing j with
    | zero => rfl
    | succ n ih =>
      show 0 + (x - j) * nval (List.replicate n 0) (j + 1) x = 0
      rw [ih]
      simp [nval]
  | c :: s, j, x => by
    rw [List.cons_append, nval, nval, nval_zeros n s (j + 1) x]
theorem far_div {d : Int} (N : Int) (h : ∀ y : Int, N < y → 0 < y → y ∣ d) : d = 0 := by
  have h1 := h (max N 0 + d.natAbs + 1) (by omega) (by omega)
  rcases Int.lt_trichotomy d 0 with c | c | c
  · have := Int.le_of_dvd (show 0 < -d by omega) (Int.dvd_neg.mpr h1)
    omega
  · exact c
  · have := Int.le_of_dvd c h1
    omega
theorem nval_none : ∀ {s : List Int} {j : Int} (N : Int), (∀ x : Int, N < x → nval s j x = 0) → ∀ c ∈ s, c = 0
  | [], _, _, _, _, h => by simp at h
  | a :: s, j, N, h, c, hc => by
    have ha : a = 0 := far_div (N - j) fun y h1 h2 => by
      have := h (y + j) (by omega)
      rw [nval, show y + j - j = y by omega] at this
      exact ⟨-nval s (j + 1) (y + j), by rw [Int.mul_neg]; omega⟩
    subst ha
    rcases List.mem_cons.mp hc with e | e
    · exact e
    · refine nval_none (s := s) (j := j + 1) (max N j) (fun x hx => ?_) c e
      have := h x (by omega)
      rw [nval, Int.zero_add] at this
      rcases Int.mul_eq_zero.mp this with z | z
      · omega
      · exact z
def nsub : List Int → List Int → List Int
  | a :: p, b :: q => (a - b) :: nsub p q
  | _, _ => []
theorem nval_sub : ∀ (p q : List Int) (j x : Int), p.length = q.length → nval (nsub p q) j x = nval p j x - nval q j x
  | [], [], j, x, _ => by simp [nsub, nval]
  | [], b :: q, j, x, h => by simp at h
  | a :: p, [], j, x, h => by simp at h
  | a :: p, b :: q, j, x, h => by
    have h1 := nval_sub p q (j + 1) x (by simpa using h)
    simp only [nsub, nval, h1]
    grind
theorem nsub_all : ∀ (p q : List Int), p.length = q.length → (∀ c ∈ nsub p q, c = 0) → p = q
  | [], [], _, _ => rfl
  | [], b :: q, h, _ => by simp at h
  | a :: p, [], h, _ => by simp at h
  | a :: p, b :: q, h, hz => by
    have h1 := nsub_all p q (by simpa using h) (fun c hc => hz c (List.mem_cons_of_mem _ hc))
    have h2 := hz (a - b) List.mem_cons_self
    rw [h1, show a = b by omega]
theorem nval_inj {p q : List Int} (hl : p.length = q.length) (h : ∀ x, nval p 0 x = nval q 0 x) : p = q :=
  nsub_all p q hl (nval_none (j := 0) 0 fun x _ => by rw [nval_sub p q 0 x hl, h x]; omega)
/-- the first r of a list as steps, the rest as coefficients -/
def mval : Nat → List Int → Int → Int → Int
  | 0, l, _, x => pval l x
  | _ + 1, [], _, _ => 0
  | r + 1, s :: t, j, x => s + (x - j) * mval r t (j + 1) x
theorem mval_all : ∀ (r : Nat) (l : List Int) (j x : Int), l.length ≤ r → mval r l j x = nval l j x
  | 0, l, j, x, h => by
    have : l = [] := List.eq_nil_of_length_eq_zero (by omega)
    subst this
    rfl
  | r + 1, [], j, x, h => rfl
  | r + 1, s :: t, j, x, h => by
    rw [mval, nval, mval_all r t (j + 1) x (by simpa using h)]
/-- one stage: the rest divided by x less the next number -/
theorem mval_stage : ∀ (r : Nat) (l l' : List Int) (j : Int) (x : Int), l'.length = l.length → r < l.length → l'.take r = l.take r →
    pval (l.drop r) x = l'.getD r 0 + (x - (j + r)) * pval (l'.drop (r + 1)) x → mval r l j x = mval (r + 1) l' j x
  | 0, l, l', j, x, hl, hr, ht, h => by
    match l', hl, h with
    | [], hl, _ => simp at hl; omega
    | s :: t, _, h =>
      rw [mval, mval, mval]
      rw [List.drop_zero] at h
      rw [h]
      simp
  | r + 1, l, l', j, x, hl, hr, ht, h => by
    match l, l', hl, hr, ht, h with
    | [], _, _, hr, _, _ => simp at hr
    | a :: l, [], hl, _, _, _ => simp at hl
    | a :: l, b :: l', hl, hr, ht, h =>
      rw [List.take_succ_cons, List.take_succ_cons] at ht
      obtain ⟨e1, e2⟩ := List.cons.inj ht
      have ih := mval_stage r l l' (j + 1) x (by simpa using hl) (by simpa using hr) e2 (by
        have h2 : pval (l.drop r) x = l'.getD r 0 + (x - (j + ((r + 1 : Nat) : Int))) * pval (l'.drop (r + 1)) x := h
        rw [show (j + 1 + (r : Int)) = j + ((r + 1 : Nat) : Int) by omega]
        exact h2)
      rw [mval, ih, ← e1]
      rfl
theorem mval_one (l : List Int) (x : Int) (h : l ≠ []) : mval 1 l 0 x = pval l x := by
  match l, h with
  | s :: t, _ => rw [mval, mval, pval, Int.sub_zero]
/-- how great steps of seven coefficients can be -/
def row : Nat → List Nat
  | 0 => [1, 1, 1, 1, 1, 1, 1]
  | 1 => [1, 6, 5, 4, 3, 2, 1]
  | 2 => [1, 6, 57, 26, 11, 4, 1]
  | 3 => [1, 6, 57, 122, 32, 7, 1]
  | 4 => [1, 6, 57, 122, 76, 11, 1]
  | 5 => [1, 6, 57, 122, 76, 16, 1]
  | _ => [1, 6, 57, 122, 76, 16, 1]
theorem row_ok : ∀ n < 6, ∀ i < 7, (row (n + 1)).getD i 0 = if i < n + 1 then (row n).getD i 0 else (row n).getD i 0 + (n + 1) * (row (n + 1)).getD (i + 1) 0 := by decide
theorem row_top : ∀ n < 7, ∀ i < 7, (row n).getD i 0 ≤ 122 := by decide
theorem row_up : ∀ n < 6, ∀ i < 7, (row n).getD i 0 ≤ (row (n + 1)).getD i 0 := by decide
end Vf

namespace Vf
open PySem PySem.Spec PyProof.Rows L2
/-! ## ranges downwards -/
section
variable {K : PySem.W.Frag} {g : TG} {tb : TS} {D : Ends} {σ : L2.St} {H : Hp}
theorem r_for3 {ta : TA} (h : ta σ H fun vs H1 => ∃ (i j c : Int) (n : Nat), vs = [.int i, .int j, .int c] ∧ RgC i j c n ∧ tFor (fun _ H2 R => R (Itc i c n) H2) g tb D σ H1) : tFor (iRng3 ta) g tb D σ H := h
theorem r_forC {lo c : Int} {n : Nat} (Pv : Nat → L2.St → Hp → Prop) (h0 : Pv 0 σ H)
    (hs : ∀ i σ H, i < n → Pv i σ H → g (.int (lo + (i : Nat) * c)) σ H fun σ2 H2 => tb { D with nx := Pv (i + 1), ct := Pv (i + 1), bk := D.nx } σ2 H2)
    (hd : ∀ σ H, Pv n σ H → D.nx σ H) : tFor (fun _ H2 R => R (Itc lo c n) H2) g tb D σ H := for_rangeC Pv h0 hs hd
end
end Vf

namespace Vf
open PySem PySem.Spec PyProof.Rows L2
/-! ## zip of a tuple and a list -/
def ItTL (K : PySem.W.Frag) (a b : Addr) : It :=
  ⟨fun i H => ∃ (xs ys : List V), (SqT K H a xs ∧ SqL K H b ys) ∧ i < xs.length ∧ i < ys.length,
   fun i H v H' => ∃ T x y, v = .ref T ∧ H T = none ∧ H' = upd H T (.tup [x, y]) ∧ (∀ xs, SqT K H a xs → xs[i]? = some x) ∧ ∀ ys, SqL K H b ys → ys[i]? = some y,
   fun i H => ∃ (xs ys : List V), (SqT K H a xs ∧ SqL K H b ys) ∧ (i ≤ xs.length ∧ i ≤ ys.length) ∧ (i = xs.length ∨ i = ys.length)⟩
structure Five (u TI TO i1 i2 a b : Addr) : Prop where
  ap : u ≠ TI ∧ u ≠ TO ∧ u ≠ i1 ∧ u ≠ i2 ∧ TI ≠ TO ∧ TI ≠ i1 ∧ TI ≠ i2 ∧ TO ≠ i1 ∧ TO ≠ i2 ∧ i1 ≠ i2
  a0 : a ≠ u ∧ a ≠ TI ∧ a ≠ TO ∧ a ≠ i1 ∧ a ≠ i2
  b0 : b ≠ u ∧ b ≠ TI ∧ b ≠ TO ∧ b ≠ i1 ∧ b ≠ i2
theorem Five.sep {u TI TO i1 i2 a b : Addr} (S : Five u TI TO i1 i2 a b) : ZipSep2 u TI TO i1 i2 [i1, a] [i2, b] := by
  obtain ⟨⟨s1, s2, s3, s4, s5, s6, s7, s8, s9, s10⟩, ⟨a1, a2, a3, a4, a5⟩, ⟨b1, b2, b3, b4, b5⟩⟩ := S
  constructor <;> simp [*, Ne.symm s1, Ne.symm s2, Ne.symm s3, Ne.symm s4, Ne.symm s5, Ne.symm s8, Ne.symm s9, Ne.symm s10, Ne.symm a1, Ne.symm a3, Ne.symm a4, Ne.symm a5, Ne.symm b1, Ne.symm b3, Ne.symm b4, Ne.symm b5]
def ZTL (u TI TO i1 i2 a b : Addr) (i : Nat) (h : Heap) : Prop :=
  IsZip h u TI TO .none ∧ IsTupOf2 h TI (.ref i1) (.ref i2) ∧ (∃ x y, IsTupOf2 h TO x y) ∧ h.IsTupleIter i1 a i ∧ h.IsListIter i2 b i
theorem turn_zipTL {P : Program} {w : World} {K : PySem.W.Frag} {elts : List Expr} {kk : Nat} {tpos : Pos} {u TI TO i1 i2 a b : Addr} (S : Five u TI TO i1 i2 a b) :
    Turn P w K (.Tuple elts kk tpos) (ItTL K a b) [u, TI, TO, i1, i2] u (ZTL u TI TO i1 i2 a b) where
  mem := List.mem_cons_self
  obj := fun i h st d hd => by
    obtain ⟨zz, ti, ⟨x, y, to⟩, ⟨o1, e1, _, d1⟩, ⟨o2, e2, _, d2⟩⟩ := st
    simp only [List.mem_cons, List.not_mem_nil, or_false] at hd
    rcases hd with e | e | e | e | e
    · subst e; exact ⟨_, zz, fun v q => nomatch q⟩
    · subst e; exact ⟨_, ti, fun v q => nomatch q⟩
    · subst e; exact ⟨_, to, fun v q => nomatch q⟩
    · subst e; exact ⟨o1, e1, fun v q => by rw [d1] at q; cases q⟩
    · subst e; exact ⟨o2, e2, fun v q => by rw [d2] at q; cases q⟩
  keep := fun i h h' st k => by
    obtain ⟨zz, ti, ⟨x, y, to⟩, h1, h2⟩ := st
    exact ⟨k u (by simp) _ zz, k TI (by simp) _ ti, ⟨x, y, k TO (by simp) _ to⟩, h1.at fun o q => k i1 (by simp) o q, h2.at fun o q => k i2 (by simp) o q⟩
  item := by
    intro X hP hw hK hc i pins s σ H E I hf st hg
    subst hP hw hK
    obtain ⟨zz, ti, ⟨x0, y0, to⟩, h1, h2⟩ := st
    obtain ⟨xs, ys, ⟨qx, qy⟩, lx, ly⟩ := hg
    obtain ⟨v1, r1, t1, _⟩ := I.tuple qx
    obtain ⟨v2, r2, t2, _⟩ := I.list qy
    obtain ⟨y1, g1, w1⟩ := r1.get (List.getElem?_eq_getElem lx)
    obtain ⟨y2, g2, w2⟩ := r2.get (List.getElem?_eq_getElem ly)
    have n1 := r1.length
    have n2 := r2.length
    have hd := I.ok.hd hc
    have b0 : u < s.heap.objs.size := Heap.lt_size zz
    have bI : TI < s.heap.objs.size := Heap.lt_size ti
    have bO : TO < s.heap.objs.size := Heap.lt_size to
    have b1 : i1 < s.heap.objs.size := by
      obtain ⟨_, q, _⟩ := h1
      exact Heap.lt_size q
    have b2 : i2 < s.heap.objs.size := by
      obtain ⟨_, q, _⟩ := h2
      exact Heap.lt_size q
    refine wpAny_pyNext_zipD2_item S.sep (drawsT (A := X.A.in1) hd i1 a S.a0.2.2.2.1 v1.toArray) (Draws.list (A := X.A.in1) hd i2 b S.b0.2.2.2.2 v2.toArray)
      zz ti to ⟨h1, t1⟩ ⟨h2, t2.isList⟩ (by simp; omega) (by simp; omega) fun x1 x2 m tk p1 p2 zz' to' st1 st2 np sz kp => ?_
    obtain rfl : y1 = x1 := by
      have : v1[i]? = some x1 := by simpa using p1
      rw [g1] at this
      exact Option.some.inj this
    obtain rfl : y2 = x2 := by
      have : v2[i]? = some x2 := by simpa using p2
      rw [g2] at this
      exact Option.some.inj this
    refine ⟨_, rfl, wpAny_letOwnedTupleGo_zip (s := { s with heap := m, toks := tk }) zz' fun m2 zz2 sb => ?_⟩
    have np2 : IsTupOf2 m2 s.heap.objs.size y1 y2 := (sb.2 _ (Nat.ne_of_gt b0)).trans np
    have fresh : ObjOk X.prog X.w (upd H s.heap.objs.size (.tup [xs[i], ys[i]])) m2 s.heap.objs.size (.tup [xs[i], ys[i]]) :=
      ⟨by show 2 ≤ sizeLine; decide, [y1, y2], .cons w1 (.cons w2 .nil), ⟨_, np2, rfl, _, rfl⟩⟩
    have stay : ∀ d o, d ∉ [u, TI, TO, i1, i2] → s.heap.get? d = some o → m2.get? d = some o := fun d o hb q =>
      (sb.2 d (fun e => hb (by simp [e]))).trans (kp d o (fun e => hb (by simp [e])) (fun e => hb (by simp [e])) (fun e => hb (by simp [e])) (fun e => hb (by simp [e])) q)
    have I1 := I.turnedNew (t' := tk) (ch := [u, TI, TO, i1, i2]) stay hf (Nat.le_refl _) fresh
    obtain ⟨⟨s1, s2, s3, s4, s5, s6, s7, s8, s9, s10⟩, _, _⟩ := S
    refine ⟨.ref s.heap.objs.size, _, I1, rfl, ⟨_, xs[i], ys[i], rfl, I.hok.fresh (Nat.le_refl _), rfl, fun l hl => by rw [I.tuple_inj hl qx]; exact List.getElem?_eq_getElem lx, fun l hl => by rw [I.list_inj hl qy]; exact List.getElem?_eq_getElem ly⟩,
      ⟨zz2, (sb.2 _ (Ne.symm s1)).trans (kp _ _ (Ne.symm s1) s5 s6 s7 ti), ⟨_, _, (sb.2 _ (Ne.symm s2)).trans to'⟩, st1.1.at fun o q => (sb.2 _ (Ne.symm s3)).trans q, st2.1.at fun o q => (sb.2 _ (Ne.symm s4)).trans q⟩, fun d hdm => ?_⟩
    have lt : d < s.heap.objs.size := by
      have h2 := hdm
      simp only [List.mem_cons, List.not_mem_nil, or_false] at h2
      rcases h2 with e | e | e | e | e <;> (subst e; assumption)
    rw [upd_ne (Nat.ne_of_lt lt)]
    exact (hf d hdm).1
  done := by
    intro X hP hw hK hc i pins s σ H E I hf st hg
    subst hP hw hK
    obtain ⟨zz, ti, ⟨x0, y0, to⟩, h1, h2⟩ := st
    obtain ⟨xs, ys, ⟨qx, qy⟩, ⟨lx, ly⟩, en⟩ := hg
    obtain ⟨v1, r1, t1, _⟩ := I.tuple qx
    obtain ⟨v2, r2, t2, _⟩ := I.list qy
    have n1 := r1.length
    have n2 := r2.length
    have hd := I.ok.hd hc
    refine wpAny_pyNext_zipD2_end S.sep (drawsT (A := X.A.in1) hd i1 a S.a0.2.2.2.1 v1.toArray) (Draws.list (A := X.A.in1) hd i2 b S.b0.2.2.2.2 v2.toArray)
      zz ti to ⟨h1, t1⟩ ⟨h2, t2.isList⟩ (by simp; omega) (by simp; omega) (by simp; omega) fun m tk kp => ⟨rfl, ?_⟩
    exact I.turnedL (t' := tk) (ch := [u, TI, TO, i1, i2]) (fun d o hb q => kp d o (fun e => hb (by simp [e])) (fun e => hb (by simp [e])) (fun e => hb (by simp [e])) (fun e => hb (by simp [e])) q) hf
  self := fun A i s Q E st h => wpAny_pyIter_zip st.1 h
def iZTL (K : PySem.W.Frag) (ta : TA) : TI := fun σ H R => ta σ H fun vs H1 => ∃ a b xs ys, vs = [.ref a, .ref b] ∧ (SqT K H1 a xs ∧ SqL K H1 b ys) ∧ R (ItTL K a b) H1
theorem five_new (n a b : Nat) (ha : a < n) (hb : b < n) : Five (n + 4) (n + 2) (n + 3) n (n + 1) a b := by
  refine ⟨⟨?_, ?_, ?_, ?_, ?_, ?_, ?_, ?_, ?_, ?_⟩, ⟨?_, ?_, ?_, ?_, ?_⟩, ⟨?_, ?_, ?_, ?_, ?_⟩⟩ <;> (show _ ≠ _; intro e; have e2 : (_ : Nat) = _ := e; omega)
theorem i_zipTL {X : Cx} {K : PySem.W.Frag} {e1 e2 : Expr} {ta : TA} {p pos tpos : Pos} {elts : List Expr} {kk : Nat} (ek : X.K = K) (hg : Gl X "zip") (hm : X.mg "zip" = none) (ha : PA X [e1, e2] ta)
    (hs : starEach [e1, e2] X.env = (false, eval e1 X.env) :: starEach [e2] X.env := by rfl) (hp : (backTo pos (starEach [e2] X.env)).any (·.1) = false := by rfl) :
    PI X (.Tuple elts kk tpos) (.Call (.Name "zip" p) [e1, e2] [] pos) (iZTL K ta) := by
  subst ek
  refine ⟨fun pins s σ H R I h => ?_⟩
  refine Call_ (ld_blt I hg hm PyProof.Rows.boot_zip (PyProof.Rows.callWith_type1 (thn (ha.run pos pins s σ H _ I h) fun us s1 ⟨vs, H1, I1, r1, q1⟩ => ?_) hs hp))
  obtain ⟨a, b, xs, ys, rfl, ⟨qx, qy⟩, q⟩ := q1
  obtain ⟨ua, ub, rfl, ra, rb⟩ : ∃ ua ub, us = [ua, ub] ∧ RelV (.ref a) ua ∧ RelV (.ref b) ub := by
    cases r1 with
    | cons r rr =>
      cases rr with
      | cons r' rr =>
        cases rr
        exact ⟨_, _, rfl, r, r'⟩
  cases ra
  cases rb
  obtain ⟨v1, _, t1, _⟩ := I1.tuple qx
  obtain ⟨v2, _, t2, _⟩ := I1.list qy
  have la : a < s1.heap.objs.size := t1.lt
  have lb : b < s1.heap.objs.size := by
    obtain ⟨o, ho, _⟩ := t2.isList
    exact Heap.lt_size ho
  refine zip_begins2 (begins_tuple a v1.toArray) (begins_list b v2.toArray) t1 t2.isList fun m hz hTI hTO g1 g2 hsz hk => wpAny_pyIter_zip hz ?_
  refine ⟨s1.heap.objs.size + 4, [s1.heap.objs.size + 4, s1.heap.objs.size + 2, s1.heap.objs.size + 3, s1.heap.objs.size, s1.heap.objs.size + 1], _, _, H1, rfl, I1.kept (t' := s1.toks) hk,
    turn_zipTL (five_new s1.heap.objs.size a b la lb), ⟨hz, hTI, ⟨_, _, hTO⟩, ⟨_, g1, rfl, rfl⟩, ⟨_, g2, rfl, rfl⟩⟩, fun d hd => ?_, q⟩
  have le : s1.heap.objs.size ≤ d := by
    simp only [List.mem_cons, List.not_mem_nil, or_false] at hd
    rcases hd with e | e | e | e | e <;> subst e
    · exact Nat.le_add_right _ _
    · exact Nat.le_add_right _ _
    · exact Nat.le_add_right _ _
    · exact Nat.le_refl _
    · exact Nat.le_add_right _ _
  exact I1.fpOk le (I1.hok.fresh le)
section
variable {K : PySem.W.Frag} {σ : L2.St} {H : Hp} {Q : VK} {g : TG} {tt : TT} {te : TE} {vs : List Nat}
theorem r_lcTLi {ta : TA} (h : ta σ H fun ws H1 => ∃ a b xs ys, ws = [.ref a, .ref b] ∧ (SqT K H1 a xs ∧ SqL K H1 b ys) ∧ tLc (fun _ H2 R => R (ItTL K a b) H2) g tt te vs σ H1 Q) : tLc (iZTL K ta) g tt te vs σ H Q := h
theorem r_lcTL {a b : Addr} (xs ys : List V) (n : Nat) (nx : xs.length = n) (ny : ys.length = n) (Pv : Addr → Nat → Hp → Prop) (h0 : ∀ D, H D = none → Pv D 0 (upd H D (.lst [])))
    (hl : ∀ D i H', H D = none → i ≤ n → Pv D i H' → SqT K H' a xs ∧ SqL K H' b ys)
    (hs : ∀ D i x y H' T, H D = none → xs[i]? = some x → ys[i]? = some y → Pv D i H' → H' T = none → g (.ref T) (wipe σ vs) (upd H' T (.tup [x, y])) fun σ2 H2 => wipe σ2 vs = wipe σ vs ∧ tt σ2 H2 fun b H3 =>
      if b = true then te σ2 H3 fun y H4 => ∃ acc, H4 D = some (.lst acc) ∧ acc.length < sizeLine ∧ Pv D (i + 1) (upd H4 D (.lst (acc ++ [y]))) else Pv D (i + 1) H3)
    (hd : ∀ D H', H D = none → Pv D n H' → Q (.ref D) H') : tLc (fun _ H2 R => R (ItTL K a b) H2) g tt te vs σ H Q := by
  refine fun D hD => ⟨fun i m H => m = n - i ∧ i ≤ n ∧ Pv D i H, ⟨n, by omega, Nat.zero_le _, h0 D hD⟩, ?_⟩
  rintro i m H' ⟨rfl, hi, p⟩
  obtain ⟨qx, qy⟩ := hl D i H' hD hi p
  by_cases lt : i < n
  · refine Or.inr ⟨⟨xs, ys, ⟨qx, qy⟩, by omega, by omega⟩, Pv D (i + 1), fun H' p' => ⟨n - (i + 1), by omega, rfl, lt, p'⟩, fun v H'' yy => ?_⟩
    obtain ⟨T, x, y, rfl, nT, rfl, f1, f2⟩ := yy
    exact hs D i x y H' T hD (f1 xs qx) (f2 ys qy) p nT
  · have e : i = n := by omega
    subst e
    exact Or.inl ⟨⟨xs, ys, ⟨qx, qy⟩, ⟨by omega, by omega⟩, .inl (by omega)⟩, hd D H' hD p⟩
end
/-- an item of a list or a tuple -/
theorem x_seq {X : Cx} {K : PySem.W.Frag} (e : X.K = K) : IxR X (rIx K) := by subst e; exact ix_seq
/-- a walk of a list with its places -/
theorem r_forEnL {K : PySem.W.Frag} {g : TG} {tb : TS} {D : Ends} {σ : L2.St} {H : Hp} {a : Addr} (xs : List V) (Pv : Nat → L2.St → Hp → Prop) (h0 : Pv 0 σ H) (hl : ∀ i σ H, i ≤ xs.length → Pv i σ H → SqL K H a xs)
    (hs : ∀ i x σ H T, xs[i]? = some x → Pv i σ H → H T = none → g (.ref T) σ (upd H T (.tup [.int (i : Nat), x])) fun σ2 H2 => tb { D with nx := Pv (i + 1), ct := Pv (i + 1), bk := D.nx } σ2 H2)
    (hd : ∀ σ H, Pv xs.length σ H → D.nx σ H) : tFor (fun _ H2 R => R (Ite K a) H2) g tb D σ H := by
  refine ⟨fun i m σ H => m = xs.length - i ∧ i ≤ xs.length ∧ Pv i σ H, ⟨xs.length, by omega, Nat.zero_le _, h0⟩, ?_⟩
  rintro i m σ H ⟨rfl, hi, p⟩
  have q := hl i σ H hi p
  by_cases lt : i < xs.length
  · refine Or.inr ⟨⟨xs, xs[i], q, by simp [lt]⟩, Pv (i + 1), fun σ' H' p' => ⟨xs.length - (i + 1), by omega, rfl, lt, p'⟩, fun x H' y => ?_⟩
    obtain ⟨T, z, rfl, nT, rfl, fz⟩ := y
    exact hs i z σ H T (fz xs q) p nT
  · have e : i = xs.length := by omega
    subst e
    exact Or.inl ⟨⟨xs, q, Nat.le_refl _⟩, hd σ H p⟩
theorem r_forEi {K : PySem.W.Frag} {g : TG} {tb : TS} {D : Ends} {σ : L2.St} {H : Hp} {ta : TA} (h : ta σ H fun vs H1 => ∃ a xs, vs = [.ref a] ∧ SqL K H1 a xs ∧ tFor (fun _ H2 R => R (Ite K a) H2) g tb D σ H1) : tFor (iEnum K ta) g tb D σ H := h
/-- a list or a tuple -/
def SqS (K : PySem.W.Frag) (H : Hp) (a : Addr) (xs : List V) : Prop := SqT K H a xs ∨ SqL K H a xs
theorem r_ixS {K : PySem.W.Frag} {H : Hp} {Q : VK} {a : Addr} {xs : List V} {k : Int} {v : V} (h1 : SqS K H a xs) (h2 : atI xs k = some v) (h : Q v H) : rIx K (.ref a) (.int k) H Q := by
  rcases h1 with h1 | h1
  · exact .inr (.inl (r_ixT h1 h2 h))
  · exact .inl (r_ixL h1 h2 h)
theorem tru_seq {K : PySem.W.Frag} {H : Hp} {a : Addr} {xs : List V} {R : Bool → Prop} (hs : SqS K H a xs) (h : R (!xs.isEmpty)) : ∃ k, TruV K (.ref a) H k ∧ R k := by
  rcases hs with h1 | h1
  · exact tru_tup h1 h
  · exact tru_list h1 h
theorem r_lenS {K : PySem.W.Frag} {H : Hp} {Q : VK} {a : Addr} {xs : List V} (hs : SqS K H a xs) (h : Q (.int xs.length) H) : rLenQ K [.ref a] H Q := by
  rcases hs with h1 | h1
  · exact r_lenT h1 h
  · exact r_lenL h1 h
end Vf

namespace Vf
/-! ## tables of rests, by their differences -/
/-- how many ways to choose k of x -/
def bin : Nat → Nat → Nat
  | _, 0 => 1
  | 0, _ + 1 => 0
  | x + 1, k + 1 => bin x k + bin x (k + 1)
def fac : Nat → Nat
  | 0 => 1
  | n + 1 => (n + 1) * fac n
theorem fac_pos : ∀ n, 0 < fac n
  | 0 => Nat.one_pos
  | n + 1 => Nat.mul_pos (Nat.succ_pos n) (fac_pos n)
theorem bin_zero (x : Nat) : bin x 0 = 1 := by cases x <;> rfl
theorem bin_step (x k : Nat) : bin (x + 1) (k + 1) = bin x k + bin x (k + 1) := rfl
theorem bin_next : ∀ (x k : Nat), ((k : Int) + 1) * (bin x (k + 1) : Int) = ((x : Int) - k) * (bin x k : Int)
  | 0, 0 => by simp [bin]
  | 0, k + 1 => by simp [bin]
  | x + 1, 0 => by
    have h := bin_next x 0
    rw [bin_zero] at h
    rw [bin_step, bin_zero, bin_zero]
    push_cast at *
    grind
  | x + 1, k + 1 => by
    have h1 := bin_next x k
    have h2 := bin_next x (k + 1)
    rw [bin_step, bin_step]
    push_cast at *
    grind
/-- x * (x - 1) * .., k of them, from x - j on -/
def ffj : Int → Nat → Int → Int
  | _, 0, _ => 1
  | j, k + 1, x => (x - j) * ffj (j + 1) k x
theorem ffj_last : ∀ (j : Int) (k : Nat) (x : Int), ffj j (k + 1) x = ffj j k x * (x - j - k)
  | j, 0, x => by simp [ffj]
  | j, k + 1, x => by
    rw [ffj, ffj_last (j + 1) k x, ffj]
    have : ((k + 1 : Nat) : Int) = (k : Int) + 1 := rfl
    rw [this]
    grind
theorem ff_bin (x : Nat) : ∀ k : Nat, ffj 0 k (x : Int) = (fac k : Int) * (bin x k : Int)
  | 0 => by rw [bin_zero]; rfl
  | k + 1 => by
    rw [ffj_last, ff_bin x k, Int.sub_zero]
    have h := bin_next x k
    have e : ((fac (k + 1) : Nat) : Int) = ((k : Int) + 1) * (fac k : Int) := by
      show (((k + 1) * fac k : Nat) : Int) = _
      push_cast
      rfl
    rw [e]
    grind
theorem nval_snoc : ∀ (p : List Int) (c j x : Int), nval (p ++ [c]) j x = nval p j x + c * ffj j p.length x
  | [], c, j, x => by simp [nval, ffj]
  | a :: p, c, j, x => by
    rw [List.cons_append, nval, nval_snoc p c (j + 1) x, nval, List.length_cons, ffj]
    grind
/-- a sum over the ways to choose -/
def nw (G : Nat → Int) : Nat → Nat → Int
  | 0, _ => 0
  | m + 1, x => nw G m x + G m * (bin x m : Int)
theorem nw_zero (G : Nat → Int) : ∀ m, 0 < m → nw G m 0 = G 0
  | 1, _ => by simp [nw, bin]
  | m + 2, _ => by
    rw [nw, nw_zero G (m + 1) (by omega)]
    simp [bin]
theorem nw_step (G : Nat → Int) (x : Nat) : ∀ m, nw G (m + 1) (x + 1) = nw G (m + 1) x + nw (fun k => G (k + 1)) m x
  | 0 => by simp [nw, bin_zero]
  | m + 1 => by
    rw [nw, nw_step G x m, nw.eq_def G (m + 1 + 1) x]
    simp only [nw]
    rw [bin_step]
    push_cast
    grind
theorem nw_sub (F G : Nat → Int) (x : Nat) : ∀ m, nw (fun k => F k - G k) m x = nw F m x - nw G m x
  | 0 => rfl
  | m + 1 => by
    simp only [nw, nw_sub F G x m]
    grind
theorem nw_dvd {n : Int} {G : Nat → Int} {x : Nat} : ∀ {m : Nat}, (∀ k < m, n ∣ G k) → n ∣ nw G m x
  | 0, _ => Int.dvd_zero n
  | m + 1, h => by
    rw [nw]
    exact Int.dvd_add (nw_dvd fun k hk => h k (by omega)) (Int.dvd_trans (h m (by omega)) (Int.dvd_mul_right ..))
/-- nothing but multiples of n -/
theorem nw_none {n : Int} : ∀ (m : Nat) (G : Nat → Int), (∀ x < m, n ∣ nw G m x) → ∀ k < m, n ∣ G k
  | 0, _, _, k, hk => absurd hk (by omega)
  | m + 1, G, h, k, hk => by
    cases k with
    | zero =>
      have := h 0 (by omega)
      rwa [nw_zero G (m + 1) (by omega)] at this
    | succ k =>
      refine nw_none m (fun k => G (k + 1)) (fun x hx => ?_) k (by omega)
      have h1 := h x (by omega)
      have h2 := h (x + 1) (by omega)
      rw [nw_step] at h2
      have := Int.dvd_sub h2 h1
      rwa [show nw G (m + 1) x + nw (fun k => G (k + 1)) m x - nw G (m + 1) x = nw (fun k => G (k + 1)) m x by omega] at this
theorem getD_at {s : List Int} {i : Nat} {c : Int} (h : s[i]? = some c) : s.getD i 0 = c := by
  rw [List.getD_eq_getElem?_getD, h]
  rfl
/-- a sum by its steps, at a number from 0 on -/
theorem nval_nw (s : List Int) (x : Nat) : ∀ m, nval (s.take m) 0 (x : Int) = nw (fun k => s.getD k 0 * (fac k : Int)) m x
  | 0 => rfl
  | m + 1 => by
    rw [nw, ← nval_nw s x m]
    by_cases h : m < s.length
    · have e := List.getElem?_eq_getElem h
      have el : (s.take m).length = m := by rw [List.length_take]; omega
      rw [take_nx e, nval_snoc, el, ff_bin, getD_at e, Int.mul_assoc]
    · rw [List.take_of_length_le (by omega), List.take_of_length_le (by omega), getD_out (by omega)]
      simp
theorem nval_nwl (s : List Int) (x m : Nat) (h : s.length ≤ m) : nval s 0 (x : Int) = nw (fun k => s.getD k 0 * (fac k : Int)) m x := by
  rw [← nval_nw, List.take_of_length_le h]
/-- the next row of differences, by n -/
def drow (n : Int) (r : List Int) : List Int := (List.range (r.length - 1)).map fun i => (r.getD (i + 1) 0 - r.getD i 0) % n
theorem drow_len (n : Int) (r : List Int) : (drow n r).length = r.length - 1 := by simp [drow]
theorem drow_at (n : Int) (r : List Int) {i : Nat} (h : i < r.length - 1) : (drow n r).getD i 0 = (r.getD (i + 1) 0 - r.getD i 0) % n := by
  rw [List.getD_eq_getElem?_getD]
  unfold drow
  rw [List.getElem?_map, List.getElem?_range h]
  rfl
/-- the firsts of a row, of its differences, and so on -/
def firsts (n : Int) : Nat → List Int → List Int
  | 0, _ => []
  | m + 1, r => r.getD 0 0 :: firsts n m (drow n r)
theorem firsts_len (n : Int) : ∀ (m : Nat) (r : List Int), (firsts n m r).length = m
  | 0, _ => rfl
  | m + 1, r => by rw [firsts, List.length_cons, firsts_len n m]
theorem sub_mod (n a : Int) : n ∣ a % n - a := ⟨-(a / n), by
  have := Int.mul_ediv_add_emod a n
  grind⟩
theorem firsts_nw (n : Int) : ∀ (m : Nat) (r : List Int), r.length = m → ∀ x < m, n ∣ nw (fun k => (firsts n m r).getD k 0) m x - r.getD x 0
  | 0, _, _, x, hx => absurd hx (by omega)
  | m + 1, r, hl, 0, hx => by
    rw [nw_zero _ (m + 1) (by omega)]
    show n ∣ r.getD 0 0 - r.getD 0 0
    rw [Int.sub_self]
    exact Int.dvd_zero n
  | m + 1, r, hl, x + 1, hx => by
    have h1 := firsts_nw n (m + 1) r hl x (by omega)
    have h2 := firsts_nw n m (drow n r) (by rw [drow_len]; omega) x (by omega)
    rw [drow_at n r (by omega)] at h2
    have h3 := sub_mod n (r.getD (x + 1) 0 - r.getD x 0)
    rw [nw_step]
    have h4 := Int.dvd_add (Int.dvd_add h1 h2) h3
    have e : nw (fun k => (firsts n (m + 1) r).getD (k + 1) 0) m x = nw (fun k => (firsts n m (drow n r)).getD k 0) m x := rfl
    rw [e]
    have e2 : nw (fun k => (firsts n (m + 1) r).getD k 0) (m + 1) x - r.getD x 0 + (nw (fun k => (firsts n m (drow n r)).getD k 0) m x - (r.getD (x + 1) 0 - r.getD x 0) % n) + ((r.getD (x + 1) 0 - r.getD x 0) % n - (r.getD (x + 1) 0 - r.getD x 0)) = nw (fun k => (firsts n (m + 1) r).getD k 0) (m + 1) x + nw (fun k => (firsts n m (drow n r)).getD k 0) m x - r.getD (x + 1) 0 := by omega
    rw [e2] at h4
    exact h4
def gk (n k : Nat) : Nat := Nat.gcd n (fac k)
def sz (n k : Nat) : Nat := n / gk n k
theorem gk_pos {n : Nat} (k : Nat) (hn : 0 < n) : 0 < gk n k := Nat.gcd_pos_of_pos_left _ hn
theorem sz_mul (n k : Nat) : sz n k * gk n k = n := Nat.div_mul_cancel (Nat.gcd_dvd_left _ _)
theorem sz_pos {n : Nat} (k : Nat) (hn : 0 < n) : 0 < sz n k := by
  have h := sz_mul n k
  rcases Nat.eq_zero_or_pos (sz n k) with z | z
  · rw [z, Nat.zero_mul] at h; omega
  · exact z
/-- the multiples: a step times its size is nothing by n -/
theorem sz_fac (n k : Nat) : (n : Int) ∣ (sz n k : Int) * (fac k : Int) := by
  obtain ⟨c, hc⟩ := Nat.gcd_dvd_right n (fac k)
  refine ⟨(c : Int), ?_⟩
  have h := sz_mul n k
  have e : fac k = gk n k * c := hc
  rw [e, ← Int.natCast_mul, ← Int.natCast_mul, ← Nat.mul_assoc, h]
theorem uniq_step {n k : Nat} (hn : 0 < n) {a b : Int} (ha : 0 ≤ a ∧ a < sz n k) (hb : 0 ≤ b ∧ b < sz n k) (h : (n : Int) ∣ (a - b) * (fac k : Int)) : a = b := by
  have hg := gk_pos k hn
  have h1 : n ∣ (a - b).natAbs * fac k := by
    have := Int.natAbs_dvd_natAbs.mpr h
    rwa [Int.natAbs_mul, Int.natAbs_natCast, Int.natAbs_natCast] at this
  obtain ⟨c, hc⟩ := Nat.gcd_dvd_right n (fac k)
  have e : fac k = gk n k * c := hc
  have h2 : sz n k ∣ (a - b).natAbs * c := by
    obtain ⟨d, hd⟩ := h1
    refine ⟨d, Nat.eq_of_mul_eq_mul_left hg ?_⟩
    have h3 := sz_mul n k
    calc gk n k * ((a - b).natAbs * c) = (a - b).natAbs * (gk n k * c) := by grind
      _ = (a - b).natAbs * fac k := by rw [e]
      _ = n * d := hd
      _ = gk n k * (sz n k * d) := by rw [← Nat.mul_assoc, Nat.mul_comm (gk n k), h3]
  have hco : Nat.Coprime (sz n k) c := by
    have := Nat.coprime_div_gcd_div_gcd (m := n) (n := fac k) hg
    have e2 : fac k / Nat.gcd n (fac k) = c := Nat.div_eq_of_eq_mul_right hg e
    rw [e2] at this
    exact this
  have h4 : sz n k ∣ (a - b).natAbs := hco.dvd_of_dvd_mul_right h2
  have h5 : (a - b).natAbs < sz n k := by omega
  have := Nat.eq_zero_of_dvd_of_lt h4 h5
  omega
/-- the steps of a table, within their sizes -/
structure Good (n : Nat) (v f : List Int) : Prop where
  len : f.length = n
  b : ∀ k < n, 0 ≤ f.getD k 0 ∧ f.getD k 0 < sz n k
  v : ∀ x < n, (n : Int) ∣ nval f 0 (x : Int) - v.getD x 0
theorem steps_firsts {n : Nat} {v s : List Int} (hv : v.length = n) (hs : ∀ x < n, (n : Int) ∣ nval s 0 (x : Int) - v.getD x 0) : ∀ k < n, (n : Int) ∣ s.getD k 0 * (fac k : Int) - (firsts n n v).getD k 0 := by
  refine nw_none (n := (n : Int)) n (fun k => s.getD k 0 * (fac k : Int) - (firsts n n v).getD k 0) fun x hx => ?_
  have h1 := hs x hx
  have h2 := firsts_nw n n v hv x hx
  have h3 : nval s 0 (x : Int) = nw (fun k => s.getD k 0 * (fac k : Int)) n x := by
    rcases Nat.le_total s.length n with c | c
    · exact nval_nwl s x n c
    · rw [nval_nwl s x s.length (Nat.le_refl _)]
      -- beyond x nothing is chosen
      have z : ∀ (G : Nat → Int) (m : Nat), x < m → ∀ d, nw G (m + d) x = nw G m x := by
        intro G m hm d
        induction d with
        | zero => rfl
        | succ d ih =>
          rw [← Nat.add_assoc, nw, ih]
          have : bin x (m + d) = 0 := by
            have zz : ∀ (y k : Nat), y < k → bin y k = 0 := by
              intro y
              induction y with
              | zero => intro k hk; cases k with
                | zero => omega
                | succ k => rfl
              | succ y ih => intro k hk; cases k with
                | zero => omega
                | succ k => rw [bin_step, ih k (by omega), ih (k + 1) (by omega)]
            exact zz x (m + d) (by omega)
          rw [this]
          simp
      have := z (fun k => s.getD k 0 * (fac k : Int)) n hx (s.length - n)
      rw [show n + (s.length - n) = s.length by omega] at this
      exact this
  rw [h3] at h1
  rw [nw_sub]
  have := Int.dvd_sub h1 h2
  rwa [show nw (fun k => s.getD k 0 * (fac k : Int)) n x - v.getD x 0 - (nw (fun k => (firsts n n v).getD k 0) n x - v.getD x 0) = nw (fun k => s.getD k 0 * (fac k : Int)) n x - nw (fun k => (firsts n n v).getD k 0) n x by omega] at this
theorem firsts_steps {n : Nat} {v f : List Int} (hv : v.length = n) (hl : f.length = n) (h : ∀ k < n, (n : Int) ∣ f.getD k 0 * (fac k : Int) - (firsts n n v).getD k 0) : ∀ x < n, (n : Int) ∣ nval f 0 (x : Int) - v.getD x 0 := by
  intro x hx
  have h2 := firsts_nw n n v hv x hx
  rw [nval_nwl f x n (by omega)]
  have h3 := nw_dvd (x := x) h
  rw [nw_sub] at h3
  have := Int.dvd_add h3 h2
  rwa [show nw (fun k => f.getD k 0 * (fac k : Int)) n x - nw (fun k => (firsts n n v).getD k 0) n x + (nw (fun k => (firsts n n v).getD k 0) n x - v.getD x 0) = nw (fun k => f.getD k 0 * (fac k : Int)) n x - v.getD x 0 by omega] at this
/-- a step is the one that the table's steps ask for -/
theorem Good.step {n : Nat} {v f : List Int} (g : Good n v f) (hv : v.length = n) {s : List Int} (hs : ∀ x < n, (n : Int) ∣ nval s 0 (x : Int) - v.getD x 0) {k : Nat} (hk : k < n) (hb : 0 ≤ s.getD k 0 ∧ s.getD k 0 < sz n k) : s.getD k 0 = f.getD k 0 := by
  have h1 := steps_firsts hv hs k hk
  have h2 := steps_firsts hv g.v k hk
  refine uniq_step (by omega) hb (g.b k hk) ?_
  have := Int.dvd_sub h1 h2
  rwa [show s.getD k 0 * (fac k : Int) - (firsts n n v).getD k 0 - (f.getD k 0 * (fac k : Int) - (firsts n n v).getD k 0) = (s.getD k 0 - f.getD k 0) * (fac k : Int) by grind] at this
/-- the product of 1, 2, .. by n, as the program takes it on -/
def pf (n : Nat) : Nat → Int
  | 0 => 1
  | i + 1 => (fac i : Int) % (n : Int)
theorem pf_next (n i : Nat) : pf n i * max (i : Int) 1 % (n : Int) = pf n (i + 1) := by
  cases i with
  | zero => rfl
  | succ i =>
    show (fac i : Int) % (n : Int) * max ((i + 1 : Nat) : Int) 1 % (n : Int) = ((fac (i + 1) : Nat) : Int) % (n : Int)
    have e : ((fac (i + 1) : Nat) : Int) = ((i + 1 : Nat) : Int) * (fac i : Int) := by
      show (((i + 1) * fac i : Nat) : Int) = _
      push_cast
      rfl
    rw [e, show max ((i + 1 : Nat) : Int) 1 = ((i + 1 : Nat) : Int) by omega, Int.mul_comm ((i + 1 : Nat) : Int), Int.mul_emod, Int.emod_emod, ← Int.mul_emod]
theorem gcd_pf (n i : Nat) : Nat.gcd (n : Int).natAbs (pf n (i + 1)).natAbs = gk n i := by
  show Nat.gcd n ((fac i : Int) % (n : Int)).natAbs = Nat.gcd n (fac i)
  rw [← Int.natCast_emod, Int.natAbs_natCast, Nat.gcd_comm, ← Nat.gcd_rec]
theorem pf_nat (n i : Nat) : pf n (i + 1) = ((fac i % n : Nat) : Int) := by
  show (fac i : Int) % (n : Int) = _
  rw [Int.natCast_emod]
theorem pf_small {n i : Nat} (hn : 0 < n) : 0 ≤ pf n (i + 1) ∧ pf n (i + 1) < n := by
  rw [pf_nat]
  have := Nat.mod_lt (fac i) hn
  omega
/-- the step that the program reckons -/
theorem step_ok {n i : Nat} (hn : 0 < n) {F u w : Int} (hF : F % (gk n i : Int) = 0) (hu : u * (pf n (i + 1) / (gk n i : Int)) = 1 + (sz n i : Int) * w) :
    (n : Int) ∣ (F / (gk n i : Int) * (u % (sz n i : Int)) % (sz n i : Int)) * (fac i : Int) - F := by
  have hg : (0 : Int) < (gk n i : Int) := by have := gk_pos i hn; omega
  obtain ⟨F', rfl⟩ := Int.dvd_of_emod_eq_zero hF
  rw [Int.mul_ediv_cancel_left _ (by omega)]
  have hpd : (gk n i : Int) ∣ pf n (i + 1) := by
    rw [← gcd_pf n i]
    have := Int.natCast_dvd_natCast.mpr (Nat.gcd_dvd_right (n : Int).natAbs (pf n (i + 1)).natAbs)
    exact Int.dvd_natAbs.mp this
  obtain ⟨p', hp⟩ := hpd
  rw [hp, Int.mul_ediv_cancel_left _ (by omega)] at hu
  have h1 : (n : Int) ∣ pf n (i + 1) - (fac i : Int) := sub_mod _ _
  have h2 : (sz n i : Int) * (gk n i : Int) = (n : Int) := by
    rw [← Int.natCast_mul, sz_mul]
  obtain ⟨z1, hz1⟩ : ∃ z, u % (sz n i : Int) = u + (sz n i : Int) * z := ⟨-(u / (sz n i : Int)), by have := Int.mul_ediv_add_emod u (sz n i : Int); grind⟩
  obtain ⟨z2, hz2⟩ : ∃ z, F' * (u % (sz n i : Int)) % (sz n i : Int) = F' * (u % (sz n i : Int)) + (sz n i : Int) * z := ⟨-(F' * (u % (sz n i : Int)) / (sz n i : Int)), by have := Int.mul_ediv_add_emod (F' * (u % (sz n i : Int))) (sz n i : Int); grind⟩
  obtain ⟨z3, hz3⟩ := h1
  rw [hz2, hz1]
  -- all by the product
  have hf : (fac i : Int) = (gk n i : Int) * p' - (n : Int) * z3 := by omega
  refine ⟨F' * w + (F' * z1 + z2) * p' - (F' * (u + (sz n i : Int) * z1) + (sz n i : Int) * z2) * z3, ?_⟩
  rw [hf, ← h2]
  have e1 : u * p' = 1 + (sz n i : Int) * w := hu
  have e2 : F' * u * (gk n i : Int) * p' = F' * (gk n i : Int) * (1 + (sz n i : Int) * w) := by rw [← e1]; grind
  grind
theorem cop_pf {n i : Nat} (hn : 0 < n) : Nat.gcd (pf n (i + 1) / (gk n i : Int)).natAbs (sz n i) = 1 := by
  rw [pf_nat, ← Int.natCast_ediv, Int.natAbs_natCast]
  have e : gk n i = Nat.gcd n (fac i % n) := by
    show Nat.gcd n (fac i) = _
    rw [Nat.gcd_comm n (fac i % n), ← Nat.gcd_rec]
  unfold sz
  rw [e, Nat.gcd_comm]
  exact Nat.coprime_div_gcd_div_gcd (Nat.gcd_pos_of_pos_left _ hn)
theorem fac_primes : ∀ n ∈ [2, 3, 5, 7, 11], ∀ k < n, gk n k = 1 := by decide
theorem bin_more : ∀ (y k : Nat), y < k → bin y k = 0
  | 0, 0, h => by omega
  | 0, _ + 1, _ => rfl
  | _ + 1, 0, h => by omega
  | y + 1, k + 1, h => by rw [bin_step, bin_more y k (by omega), bin_more y (k + 1) (by omega)]
theorem bin_self : ∀ k : Nat, bin k k = 1
  | 0 => rfl
  | k + 1 => by rw [bin_step, bin_self k, bin_more k (k + 1) (by omega)]
theorem nw_low (G : Nat → Int) {x m : Nat} (hm : x < m) : ∀ d, nw G (m + d) x = nw G m x
  | 0 => rfl
  | d + 1 => by
    rw [← Nat.add_assoc, nw, nw_low G hm d, bin_more x (m + d) (by omega)]
    simp
theorem nval_low (s : List Int) {x m : Nat} (h : x < m) : nval s 0 (x : Int) = nw (fun k => s.getD k 0 * (fac k : Int)) m x := by
  rcases Nat.le_total s.length m with c | c
  · exact nval_nwl s x m c
  · rw [nval_nwl s x s.length (Nat.le_refl _)]
    have := nw_low (fun k => s.getD k 0 * (fac k : Int)) h (s.length - m)
    rwa [show m + (s.length - m) = s.length by omega] at this
/-- at a number, steps beyond it tell nothing -/
theorem nval_upto (s : List Int) {x m : Nat} (h : x < m) : nval (s.take m) 0 (x : Int) = nval s 0 (x : Int) := by
  rw [nval_nw, nval_low s h]
theorem steps_same {n : Int} {i : Nat} {s t : List Int} (h : ∀ x < i, n ∣ nval s 0 ((x : Nat) : Int) - nval t 0 (x : Int)) : ∀ k < i, n ∣ (s.getD k 0 - t.getD k 0) * (fac k : Int) := by
  intro k hk
  have := nw_none i (fun k => s.getD k 0 * (fac k : Int) - t.getD k 0 * (fac k : Int)) (fun x hx => by
    rw [nw_sub, ← nval_low s hx, ← nval_low t hx]
    exact h x hx) k hk
  rwa [← Int.sub_mul] at this
theorem dvd_fac : ∀ {n : Nat}, 0 < n → n ∣ fac n
  | n + 1, _ => ⟨fac n, rfl⟩
theorem fac_dvd : ∀ {k m : Nat}, k ≤ m → fac k ∣ fac m
  | k, 0, h => by
    have : k = 0 := by omega
    subst this
    exact Nat.dvd_refl _
  | k, m + 1, h => by
    by_cases c : k = m + 1
    · subst c; exact Nat.dvd_refl _
    · exact Nat.dvd_trans (fac_dvd (show k ≤ m by omega)) (Nat.dvd_mul_left _ _)
theorem sz_one {n k : Nat} (hn : 0 < n) : sz n k = 1 ↔ n ∣ fac k := by
  constructor
  · intro h
    have := sz_mul n k
    rw [h, Nat.one_mul] at this
    rw [← this]
    exact Nat.gcd_dvd_right _ _
  · intro h
    unfold sz gk
    rw [Nat.gcd_eq_left h]
    exact Nat.div_self hn
theorem sz_self {n : Nat} (hn : 0 < n) : sz n n = 1 := (sz_one hn).mpr (dvd_fac hn)
theorem sz_up {n k m : Nat} (hn : 0 < n) (h : sz n k = 1) (hk : k ≤ m) : sz n m = 1 := (sz_one hn).mpr (Nat.dvd_trans ((sz_one hn).mp h) (fac_dvd hk))
theorem fac_le : ∀ i < 13, fac i ≤ 479001600 := by decide
theorem ff_self (i : Nat) : ffj 0 i (i : Int) = (fac i : Int) := by
  rw [ff_bin, bin_self]
  simp
theorem ff_more {x i : Nat} (h : x < i) : ffj 0 i (x : Int) = 0 := by
  rw [ff_bin, bin_more x i h]
  simp
/-- the table of a sum -/
def tabOf (p : List Int) (n : Nat) : List Int := (List.range n).map fun x : Nat => pval p (x : Int) % (n : Int)
theorem tabOf_len (p : List Int) (n : Nat) : (tabOf p n).length = n := by simp [tabOf]
theorem tabOf_at (p : List Int) {n x : Nat} (h : x < n) : (tabOf p n).getD x 0 = pval p (x : Int) % (n : Int) := by
  rw [List.getD_eq_getElem?_getD]
  unfold tabOf
  rw [List.getElem?_map, List.getElem?_range h]
  rfl
theorem tabOf_snoc (p : List Int) (n i : Nat) : (List.range (i + 1)).map (fun x => pval p ((x : Nat) : Int) % (n : Int)) = (List.range i).map (fun x => pval p ((x : Nat) : Int) % (n : Int)) ++ [pval p (i : Int) % (n : Int)] := by
  rw [List.range_succ, List.map_append]
  rfl
/-- the least form of a sum tells its table's steps -/
theorem form_good {n : Nat} (hn : 0 < n) {p t h f : List Int} (g : Good n (tabOf p n) f) (ht : ∀ x : Int, nval t 0 x = pval p x) (lt : h.length = t.length) (hh : ∀ k < t.length, h.getD k 0 = t.getD k 0 % (sz n k : Int)) : ∀ k, h.getD k 0 = f.getD k 0 := by
  have hs : ∀ x < n, (n : Int) ∣ nval h 0 (x : Int) - (tabOf p n).getD x 0 := by
    intro x hx
    rw [tabOf_at p hx, ← ht, nval_nwl h x t.length (by omega), nval_nwl t x t.length (Nat.le_refl _)]
    have h1 : (n : Int) ∣ nw (fun k => h.getD k 0 * (fac k : Int) - t.getD k 0 * (fac k : Int)) t.length x := nw_dvd fun k hk => by
      rw [hh k hk, ← Int.sub_mul]
      obtain ⟨z, hz⟩ := sub_mod (sz n k : Int) (t.getD k 0)
      rw [hz, Int.mul_assoc, Int.mul_left_comm]
      exact Int.dvd_mul_of_dvd_right (sz_fac n k)
    rw [nw_sub] at h1
    have h2 := sub_mod (n : Int) (nw (fun k => t.getD k 0 * (fac k : Int)) t.length x)
    have := Int.dvd_sub h1 h2
    rwa [show nw (fun k => h.getD k 0 * (fac k : Int)) t.length x - nw (fun k => t.getD k 0 * (fac k : Int)) t.length x - (nw (fun k => t.getD k 0 * (fac k : Int)) t.length x % (n : Int) - nw (fun k => t.getD k 0 * (fac k : Int)) t.length x) = nw (fun k => h.getD k 0 * (fac k : Int)) t.length x - nw (fun k => t.getD k 0 * (fac k : Int)) t.length x % (n : Int) by omega] at this
  have hb : ∀ k, 0 ≤ h.getD k 0 ∧ h.getD k 0 < sz n k := by
    intro k
    have zp := sz_pos k hn
    by_cases c : k < t.length
    · rw [hh k c]
      exact ⟨Int.emod_nonneg _ (by omega), Int.emod_lt_of_pos _ (by omega)⟩
    · rw [getD_out (by omega)]
      omega
  intro k
  by_cases c : k < n
  · exact g.step (tabOf_len p n) hs c (hb k)
  · have h1 := hb k
    rw [sz_up hn (sz_self hn) (by omega)] at h1
    rw [getD_out (p := f) (by rw [g.len]; omega)]
    omega
/-- equal but for 0s at the end -/
theorem pval_same : ∀ (a b : List Int), (∀ k, a.getD k 0 = b.getD k 0) → ∀ x, pval a x = pval b x
  | [], [], _, _ => rfl
  | [], b :: q, h, x => by
    have h0 : b = 0 := (h 0).symm
    have e : pval [] x = pval q x := pval_same [] q (fun k => h (k + 1)) x
    show 0 = b + x * pval q x
    rw [h0, ← e]
    simp [pval]
  | a :: p, [], h, x => by
    have h0 : a = 0 := h 0
    have e : pval p x = pval [] x := pval_same p [] (fun k => h (k + 1)) x
    show a + x * pval p x = 0
    rw [h0, e]
    simp [pval]
  | a :: p, b :: q, h, x => by
    have h0 : a = b := h 0
    rw [h0, pval, pval, pval_same p q (fun k => h (k + 1)) x]
theorem getD_take {s : List Int} {k i : Nat} (h : k < i) : (s.take i).getD k 0 = s.getD k 0 := by
  rw [List.getD_eq_getElem?_getD, List.getElem?_take_of_lt h, ← List.getD_eq_getElem?_getD]
end Vf

namespace Vf
open PySem PySem.Spec PyProof.Rows L2
/-! ## t + u and slices of tuples, of any length -/
section
variable {X : Cx} {K : PySem.W.Frag}
theorem o_catA (e : X.K = K) : OpR X (binaryOp .Add) (rCatA K) := by subst e; exact op_catA
theorem s_tupA (e : X.K = K) : SlR X (rSlA K) := by subst e; exact sl_tupA
end
section
variable {K : PySem.W.Frag} {H : Hp} {Q : VK}
theorem r_catA {a b : Addr} {xs ys : List V} (h1 : SqT K H a xs) (h2 : SqT K H b ys) (hl : xs.length + ys.length ≤ 1000) (h : ∀ p H', Same H H' → SqT K H' p (xs ++ ys) → Q (.ref p) H') : rCatA K (.ref a) (.ref b) H Q := by
  refine ⟨a, b, xs, ys, rfl, rfl, h1, h2, small (Nat.le_trans hl (by decide)), fun e => ?_, fun _ e => ?_, fun _ _ p hp => ?_⟩
  · subst e
    exact h b H (Same.refl _) h2
  · subst e
    exact h a H (Same.refl _) (by rw [List.append_nil]; exact h1)
  · exact h p _ (Same.new hp) (SqT.of upd_same)
theorem r_slA {a : Addr} {xs : List V} {lo hi : Option Int} (h1 : SqT K H a xs) (h : ∀ p H', Same H H' → SqT K H' p (cutV xs lo hi) → Q (.ref p) H') : rSlA K (.ref a) lo hi H Q := by
  refine ⟨a, xs, rfl, h1, fun e => ?_, fun _ p hp => ?_⟩
  · have : cutV xs lo hi = xs := by
      unfold cutV
      rw [e.1, e.2, Nat.sub_zero, List.drop_zero, List.take_length]
    exact h a H (Same.refl _) (by rw [this]; exact h1)
  · exact h p _ (Same.new hp) (SqT.of upd_same)
theorem r_eqT {a b : Addr} (ns ms : List Int) (h1 : SqT K H a (ns.map V.int)) (h2 : SqT K H b (ms.map V.int)) (h : Q (.bl (decide (ns = ms))) H) : rEqD K (.ref a) (.ref b) H Q := by
  refine r_eqD (Dp.tupD h1) (Dp.tupD h2) (shapedTup ns) (shapedTup ms) ?_
  rw [show PyData.eqv (tupD ns) (tupD ms) = decide (ns = ms) from eqvInts ns ms]
  exact h
end
end Vf

namespace Vf
open PySem PySem.Spec PyProof.Rows L2
/-! ## how many unlike integers a list holds: by a set, by a dict's keys -/
theorem met_len (f : Nat → Int) : ∀ i, (firstMet f i).length ≤ i ∧ ((firstMet f i).length = i ↔ ∀ a < i, ∀ b < i, f a = f b → a = b)
  | 0 => ⟨Nat.le_refl _, ⟨fun _ a ha => absurd ha (by omega), fun _ => rfl⟩⟩
  | i + 1 => by
    obtain ⟨h1, h2⟩ := met_len f i
    rw [firstMet_succ, step_length]
    have hm : (firstMet f i).any (· == f i) = true ↔ ∃ a < i, f a = f i := by
      rw [firstMet_any]
      simp
    by_cases c : (firstMet f i).any (· == f i) = true
    · rw [if_pos c]
      refine ⟨by omega, fun e => absurd e (by omega), fun e => ?_⟩
      obtain ⟨a, ha, ea⟩ := hm.mp c
      have := e a (by omega) i (by omega) ea
      omega
    · rw [if_neg c]
      refine ⟨by omega, fun e a ha b hb eab => ?_, fun e => ?_⟩
      · have e1 := h2.mp (by omega)
        by_cases ca : a = i
        · by_cases cb : b = i
          · omega
          · rw [ca] at eab
            exact absurd (hm.mpr ⟨b, by omega, eab.symm⟩) c
        · by_cases cb : b = i
          · rw [cb] at eab
            exact absurd (hm.mpr ⟨a, by omega, eab⟩) c
          · exact e1 a (by omega) b (by omega) eab
      · have := h2.mpr fun a ha b hb => e a (by omega) b (by omega)
        omega
def rSetLi (K : PySem.W.Frag) : List V → Hp → VK → Prop := fun xs H Q => ∃ (l : Addr) (ns : List Int), xs = [.ref l] ∧ SqL K H l (ns.map V.int) ∧ ns.length ≤ 4000 ∧
  ∀ p S c, H p = none → c ≤ ns.length → (c = ns.length ↔ ∀ a < ns.length, ∀ b < ns.length, ns.getD a 0 = ns.getD b 0 → a = b) → Q (.ref p) (upd H p (.set S c))
def rLenSe : List V → Hp → VK → Prop := fun xs H Q => ∃ (a : Addr) (S : Int → Bool) (c : Nat), xs = [.ref a] ∧ H a = some (.set S c) ∧ c ≤ 5000 ∧ Q (.int (c : Int)) H
def rLenDk : List V → Hp → VK → Prop := fun xs H Q => ∃ a kvs, xs = [V.ref a] ∧ H a = some (.dK kvs) ∧ Q (.int kvs.length) H
section
variable {X : Cx} {K : PySem.W.Frag}
theorem cr_setLi (hc : X.calm = true) : CallR X (.type "set") (rSetLi X.K) := by
  intro pins s σ H xs us Q I r h
  obtain ⟨l, ns, rfl, hs, hl, q⟩ := h
  obtain ⟨u, rfl, ru⟩ := vals1 r
  cases ru
  obtain ⟨its, rv, pl, hz⟩ := I.list hs
  have hlen : its.toArray.size = ns.length := by rw [List.size_toArray, ← rv.length, List.length_map]
  refine call_set_list (I.ok.hd hc) pl.isList (ns := ns) (by simpa using RZ.intsAre_vals rv) (by rw [hlen]; unfold scanBound; omega) fun h' tk hS hk => ?_
  obtain ⟨m1, m2⟩ := met_len (fun i => ns.getD i 0) its.toArray.size
  refine ⟨.ref s.heap.objs.size, _, I.laid (t' := tk) (o := .set _ _) (fun b u e => hk b u (Heap.lt_size e) e) (Nat.le_refl _) hS, rfl, q _ _ _ (I.hok.fresh (Nat.le_refl _)) (by rw [← hlen]; exact m1) ?_⟩
  rw [← hlen]
  exact m2
theorem cr_lenSe : CallR X (.builtin "len") rLenSe := by
  intro pins s σ H xs us Q I r h
  obtain ⟨a, S, c, rfl, ha, hc, q⟩ := h
  obtain ⟨u, rfl, ru⟩ := vals1 r
  cases ru
  obtain ⟨o, es, ep, t, ho, hex, hd, _, _, _, hf, hn⟩ := I.hok a _ ha
  exact call_len_set ho hex hd hf (by rw [hn]; omega) ⟨.int c, H, I.tok _, ⟨_, by rw [hn]⟩, q⟩
theorem cr_lenDk : CallR X (.builtin "len") rLenDk := call_lenD
theorem c_setLi (e : X.K = K) (hc : X.calm = true) : CallR X (.type "set") (rSetLi K) := by subst e; exact cr_setLi hc
end
section
variable {K : PySem.W.Frag} {H : Hp} {Q : VK}
theorem r_setLi {l : Addr} (ns : List Int) (h1 : SqL K H l (ns.map V.int)) (h2 : ns.length ≤ 4000) (h : ∀ p S c, H p = none → c ≤ ns.length → (c = ns.length ↔ ∀ a < ns.length, ∀ b < ns.length, ns.getD a 0 = ns.getD b 0 → a = b) → Q (.ref p) (upd H p (.set S c))) : rSetLi K [.ref l] H Q := ⟨l, ns, rfl, h1, h2, h⟩
theorem r_lenSe {a : Addr} {S : Int → Bool} {c : Nat} (h : H a = some (.set S c)) (hc : c ≤ 5000) (q : Q (.int (c : Int)) H) : rLenSe [.ref a] H Q := ⟨a, S, c, rfl, h, hc, q⟩
theorem r_lenDk {a : Addr} {kvs : List (Key × V)} (h : H a = some (.dK kvs)) (q : Q (.int kvs.length) H) : rLenDk [.ref a] H Q := ⟨a, kvs, rfl, h, q⟩
end
/-! ## x = {k: v for ..} -/
section
variable {X : Cx}
theorem sw_dict {kx vx : Expr} {gs : List Comprehension} {scope : Scope} {pos py : Pos} {y : Str} {l : Nat} {env : Env} (h1 : env.scope.kind = .function) (h2 : env.scope.names.lookup y = some .local) (h3 : (py.line == pos.line) = true)
    (h4 : (scope.names.any fun (n, k) => n == y && (k == .local || k == .cell)) = false) : swapsWith (.DictComp kx vx gs scope pos) (some (.Name y py)) l env = pure true := by
  have a : env.kindOf y = some .local := h2
  have b : env.blockKind = .function := by
    unfold Env.blockKind
    rw [h1]
    rfl
  unfold swapsWith
  simp only [a, b, h4, Expr.pos, h3]
  rfl
theorem ps_setDc {i : Nat} {y : Str} {py : Pos} {kx vx tg iter : Expr} {ifs : List Expr} {scope : Scope} {own : List (Str × Nat)} {pos spos : Pos} {wi : TI} {g : TG} {tt : TT} {tk tv : TE} (calm : X.calm = true) (nd : X.N.Nodup) (at_i : X.N[i]? = some y) (loc : X.env.scope.names.lookup y = some .local)
    (sw : swapsWith (.DictComp kx vx [⟨tg, iter, ifs, 0⟩] scope pos) (some (.Name y py)) spos.line X.env = pure true) (it : PI X tg iter wi) (blk : BlkOk X.N X.env.scope scope own)
    (pg : ∀ (s : Shared) (H : Hp) (C : Addr) (cl : List (Str × Addr)) (fp : List Addr), PG (X.blk s H scope (compEnvC scope cl C X.env) fp) tg g) (pt : ∀ (s : Shared) (H : Hp) (C : Addr) (cl : List (Str × Addr)) (fp : List Addr), PTs (X.blk s H scope (compEnvC scope cl C X.env) fp) ifs tt)
    (pk : ∀ (s : Shared) (H : Hp) (C : Addr) (cl : List (Str × Addr)) (fp : List Addr), PE (X.blk s H scope (compEnvC scope cl C X.env) fp) kx tk) (pv' : ∀ (s : Shared) (H : Hp) (C : Addr) (cl : List (Str × Addr)) (fp : List Addr), PE (X.blk s H scope (compEnvC scope cl C X.env) fp) vx tv)
    (fold : ∀ x, foldedSetIterable iter X.env x = pure x := by intro _; rfl) :
    PS X (.Assign [.Name y py] (.DictComp kx vx [⟨tg, iter, ifs, 0⟩] scope pos) spos) (tAsg (tDc wi g tt tk tv (own.map (·.2))) (gName i)) := by
  refine ⟨fun pins s σ H D I h => ?_⟩
  rw [exec_Assign_Name_used _ _ _ _ sw]
  refine wpAny_bind (wpAny_standAt (wpAny_bind ?_))
  show wpAny _ X.A (do let _ ← comprehension (.DictComp kx vx [⟨tg, iter, ifs, 0⟩] scope pos) scope X.env (firstIterPos [⟨tg, iter, ifs, 0⟩] pos) newDict false (eval iter X.env) (some (assign (.Name y py) X.env))) _ _ s
  have dc := dc_core (pos := pos) (Qf := fun _ s' => SP X pins D .next s') (Q := fun x H1 => gName i x σ H1 D.nx) (use := some (assign (.Name y py) X.env)) (pos' := firstIterPos [⟨tg, iter, ifs, 0⟩] pos) calm nd I it blk pg pt pk pv' fold h
  refine wpAny_bind (thn (dc fun L C s' m H' J q hn fp => ?_) fun _ s' hq => wpAny_pure (wpAny_pure hq))
  show wpAny _ _ (assign (.Name y py) X.env (.ref L)) _ _ _
  refine wpAny_assign_Name (store_ok2 (v := V.ref L) J nd at_i (.inl loc) rfl (fun s2 J2 hst => ?_) (.inr loc))
  obtain ⟨a, sb, ha⟩ := hst
  obtain ⟨g0, g1, g2, g3, g4, g5⟩ := fp
  have ne : C ≠ a := ha.elim (fun z => z ▸ g1) (fun z e => g4 y a z e.symm)
  exact ⟨m, hn.sameBut sb ne, fun h3 sb3 => ⟨_, H', J2.turned (t' := s2.toks) (fun b o hb e => (sb3.2 b hb).trans e) g0 g1 g3 g4 g5, q⟩⟩
end
end Vf

namespace Vf
open PySem PySem.Spec PyProof.Rows L2
/-! ## an own exception class over any built-in one, its fields stored by its __init__ -/
structure EC (K : PySem.W.Frag) (C : Addr) (tail : List Value) (nid : String) : Prop where
  cl : ∃ nm q N bs bm sn sub ab col dd k0 k1 k2 k3 k5,
    K.lookup C = some (excClassObj nm q C N bs bm true sn sub ab col dd k0 k1 k2 k3 k5 nid) ∧ PySem.W.excTail tail bm = true
  st : PySem.W.findIn K (.ref C) "__setattr__" = some (some (.builtin "object.__setattr__"))
  xf : XfC K C
  tt : PySem.W.typeIn K (.ref C) = some (.type "type")
  kk : PySem.W.keepIn K (.ref C) = true
theorem EC.over {K : PySem.W.Frag} {C : Addr} {tail : List Value} {nid : String} (T : EC K C tail nid) : PySem.W.excOver K C tail = true := by
  obtain ⟨nm, q, N, bs, bm, sn, sub, ab, col, dd, k0, k1, k2, k3, k5, hC, hb⟩ := T.cl
  unfold PySem.W.excOver PySem.W.clsIn
  rw [hC]
  show ((C == C) && PySem.W.excTail tail bm) = true
  rw [hb, beq_self_eq_true, Bool.and_self]
theorem taker_none {K : PySem.W.Frag} {C : Addr} {f : Str} (h : PySem.W.findIn K (.ref C) f = some none) : PySem.W.takerIn K C f = some none := by
  unfold PySem.W.takerIn
  rw [h] <;> rfl
/-- what of the built-in base the stores want -/
abbrev SFa (B : String) (tail : List Value) := StoreFacts B tail "object.__setattr__" "object"
section
variable {X : Cx} {pins : List (Addr × Obj)} {σ : L2.St} {H : Hp} {s : Shared} {a C dx : Addr} {f : Str} {y : V} {u : Value} {fs : List (Str × V)}
variable {Q : Unit → Shared → Prop} {E : Value → Shared → Prop} {A : Around} {B nid iid : String} {tail : List Value}
/-- self.f = y on an exception without a dict -/
theorem est_new (T : EC X.K C tail nid) (SF : SFa B tail) (I : Inv X pins σ H s) (e : H a = some (exo a C none)) (hno : PySem.W.findIn X.K (.ref C) f = some none) (ry : RelV y u)
    (h : ∀ dx s', H dx = none → dx ≠ a → Inv X pins σ (upd (upd H dx (exd dx [(f, y)])) a (exo a C (some dx))) s' → Q () s') :
    wpAny (model X.prog X.w) A (setAttr (.ref a) f u) Q E s := by
  obtain ⟨t1, ho⟩ := exo_at I.hok e
  obtain ⟨hp, g, d, t, os⟩ := s
  have hx : hp.get? a = some (PySem.W.excObj C t1 none .none) := ho
  refine PySem.W.set_plain (od := none) I.kIn ⟨hx, rfl, rfl, trivial⟩ T.st ?_
  refine PySem.W.osa_openX (od := none) (r := none) SF I.kIn ⟨hx, rfl, rfl, trivial⟩ T.over (taker_none hno) fun b => ?_
  obtain ⟨cd, hc, hd'⟩ := PySem.W.any_some T.xf.hdC
  have ltA : a < hp.objs.size := Heap.lt_size hx
  refine wpAny_bind (wpAny_pure (wpAny_bind (PySem.W.instanceDict_exc hx (PySem.W.looks_clsIn I.kIn hc) hd' ?_)))
  show wpAny _ _ (Builtin.ObjectAttr.storeInDict hp.objs.size (.str f _) f u) _ _ _
  have nax : a ≠ hp.objs.size := Nat.ne_of_lt ltA
  have xN : ((hp.push (PySem.W.dictOf [] 0)).update a fun o => { o with dict := some hp.objs.size }).get? a = some (PySem.W.excObj C t1 (some hp.objs.size) .none) :=
    Heap.get?_update_self _ (Heap.get?_push_of_some _ hx) rfl
  refine PySem.HandSPX.store_in_new ⟨PySem.W.dictOf [] 0, #[], _, (Heap.get?_update_ne _ _ _ _ nax.symm).trans (Heap.get?_push_at rfl rfl), rfl, fun e he => absurd he (by simp), fun _ => rfl⟩ fun h' tk' hn sb => ?_
  have k : ∀ b o, b ≠ a → hp.get? b = some o → h'.get? b = some o := fun b o hb ob =>
    (sb.2 b (Nat.ne_of_lt (Heap.lt_size ob))).trans ((Heap.get?_update_ne _ _ _ _ hb).trans (Heap.get?_push_of_some _ ob))
  have xE : h'.get? a = some (PySem.W.excObj C t1 (some hp.objs.size) .none) := (sb.2 a nax).trans xN
  have hnd : H hp.objs.size = none := I.hok.fresh (Nat.le_refl _)
  have nD : ∀ {b : Addr} {o : Obj}, hp.get? b = some o → b ≠ hp.objs.size := fun {b o} q => Nat.ne_of_lt (Heap.lt_size q)
  have nA : ∀ {b : Addr}, H b = none → b ≠ a := fun {b} n z => by
    rw [z, e] at n
    cases n
  have oT : ∀ {b : Addr} {o : HO}, H b = some o → exo a C none ≠ o → upd (upd H hp.objs.size (exd hp.objs.size [(f, y)])) a (exo a C (some hp.objs.size)) b = some o := fun {b o} q ne => by
    rw [upd_ne (L2.at_ne e q ne), upd_ne (ne_of_none q hnd)]
    exact q
  have U : Un X.fs [] H (upd (upd H hp.objs.size (exd hp.objs.size [(f, y)])) a (exo a C (some hp.objs.size))) hp h' := by
    refine ⟨fun b o q n _ _ => k b o (nA n) q, fun b o q n _ _ => ⟨o.slots, k b o (nA n) q⟩, fun b o q n _ => ?_, fun b o q _ => ?_, fun b xs q => oT q exo_tup, fun b o v q => oT q exo_frz, fun b ps q => ⟨#[], ?_⟩⟩
    · rw [upd_ne (nA n), upd_ne (nD q)]
      exact n
    · by_cases hb : b = a
      · rw [hb]
        exact ⟨_, xE⟩
      · exact ⟨o, k b o hb q⟩
    · rw [oT q exo_tbl, Array.append_empty]
  refine h hp.objs.size _ hnd nax.symm (I.un (t' := tk') U fun b o q => ?_)
  by_cases hb : b = a
  · rw [hb, upd_same] at q
    cases q
    rw [hb]
    exact exo_ok xE
  · rw [upd_ne hb] at q
    by_cases hd : b = hp.objs.size
    · rw [hd, upd_same] at q
      cases q
      rw [hd]
      exact exd_ok hn (relO_put (fs := []) ry fun g => True.intro)
    · rw [upd_ne hd] at q
      refine (I.hok b o q).stay (fun c v hc z => k c v ?_ z) (fun c hc => oT hc exo_own) fun c xs hc => oT hc exo_tup
      rcases hc with hc | hc
      · rw [hc]
        exact hb
      · exact L2.at_ne e hc exo_own
/-- a further one -/
theorem est_old (T : EC X.K C tail nid) (SF : SFa B tail) (I : Inv X pins σ H s) (e : H a = some (exo a C (some dx))) (ed : H dx = some (exd dx fs)) (hl : fs.length ≤ 900)
    (hno : PySem.W.findIn X.K (.ref C) f = some none) (ry : RelV y u) (h : ∀ s', Inv X pins σ (upd H dx (exd dx ((f, y) :: fs))) s' → Q () s') :
    wpAny (model X.prog X.w) A (setAttr (.ref a) f u) Q E s := by
  obtain ⟨t1, ho⟩ := exo_at I.hok e
  obtain ⟨mA, hns, rel⟩ := exd_at I.hok ed
  have hw := within_of rel
  obtain ⟨hp, g, d, t, os⟩ := s
  obtain ⟨oD, _, _, hoD, _, _⟩ := hns.count hw
  have hx : hp.get? a = some (PySem.W.excObj C t1 (some dx) .none) := ho
  refine PySem.W.set_plain (od := some oD) I.kIn ⟨hx, rfl, rfl, hoD⟩ T.st ?_
  refine PySem.W.osa_openX (od := some oD) (r := none) SF I.kIn ⟨hx, rfl, rfl, hoD⟩ T.over (taker_none hno) fun b => ?_
  obtain ⟨cd, hc, hd'⟩ := PySem.W.any_some T.xf.hdC
  refine wpAny_bind (wpAny_pure (wpAny_bind (wpAny_bind (wpAny_loadPart hx (wpAny_bind ((PySem.W.looks_clsIn I.kIn hc).at ?_))))))
  rw [hd']
  refine wpAny_pure (a := some dx) ?_
  refine PySem.OEX.store_in_old hns hw (by rw [List.length_map]; omega) fun h' tk' hn sb => ?_
  have there : ∃ o, h'.get? dx = some o := by
    obtain ⟨o, _, _, e', _⟩ := hn
    exact ⟨o, e'⟩
  exact h _ (I.write (t' := tk') (x := dx) (e := dx) (o := exd dx ((f, y) :: fs)) (by rw [ed]; exact True.intro) (.inl rfl) (fun b o hb ob => (sb.2 b hb).trans ob) there (exd_ok hn (relO_put ry rel)))
end
/-- what the making of an exception at C asks of its arguments -/
def MkB (C : Addr) (sp : Sp) (vs : List V) (H1 : Hp) (Q : XK) : Prop := vs.length ≤ 1000 ∧ ∀ a, H1 a = none → sp (.ref a :: vs) (upd H1 a (exo a C none))
  (fun v H2 => v = .non ∧ ∃ (d : Addr) (fs : List (Str × V)), H2 a = some (exo a C (some d)) ∧ H2 d = some (exd d fs) ∧ H1 d = none ∧ Q (.ref C) (some d) (upd (del H2 a) d (.xd fs)))
  (fun _ _ _ => False)
/-- self.f = e, in the __init__ of the class at C -/
def tEst (C : Addr) (f : Str) (to te : TE) : TS := fun D σ H => te σ H fun y H1 => to σ H1 fun x H2 => ∃ a : Addr, x = .ref a ∧
  ((H2 a = some (exo a C none) ∧ ∀ dx, H2 dx = none → dx ≠ a → D.nx σ (upd (upd H2 dx (exd dx [(f, y)])) a (exo a C (some dx)))) ∨
    ∃ (dx : Addr) (fs : List (Str × V)), H2 a = some (exo a C (some dx)) ∧ H2 dx = some (exd dx fs) ∧ fs.length ≤ 900 ∧ D.nx σ (upd H2 dx (exd dx ((f, y) :: fs))))
section
variable {X : Cx} {o e : Expr} {es : List Expr} {to te : TE} {ta : TA} {f : Str} {p p' p1 p2 pos : Pos} {C : Addr} {B nid iid : String} {tail : List Value}
theorem ps_est (T : EC X.K C tail nid) (SF : SFa B tail) (hno : PySem.W.findIn X.K (.ref C) f = some none) (ho : PE X o to) (he : PE X e te)
    (hs : swapsWith e (some (.Attribute o f p')) pos.line X.env = pure false := by rfl) : PS X (.Assign [.Attribute o f p'] e pos) (tEst C f to te) := by
  refine ⟨fun pins s σ H D I h => ?_⟩
  refine plainObj_wpAny_Assign_Attribute (thn (he.run pins s σ H _ I h) fun v s1 ⟨y, H1, I1, r1, q1⟩ => ?_) hs
  refine thn (ho.run pins s1 σ H1 _ I1 q1) fun u s2 ⟨x, H2, I2, r2, a, ex, q⟩ => ?_
  subst ex
  obtain rfl : u = Value.ref a := r2
  rcases q with ⟨ea, q⟩ | ⟨dx, fs, ea, ed, hl, q⟩
  · exact est_new T SF I2 ea hno r1 fun dx s' n ne J => ⟨σ, _, J, q dx n ne⟩
  · exact est_old T SF I2 ea ed hl hno r1 fun s' J => ⟨σ, _, J, q⟩
/-- C(e, ..): an exception is made, its __init__ being known -/
theorem pmk_ec {CX : CXT} {x : Str} {fI : Addr} {k : Nat} {fd : FuncData} {ps : List Str} {sp : Sp} (T : EC X.K C tail nid) (EB : ExcBaseFacts B nid iid tail)
    (iC : PySem.W.findIn X.K (.ref C) "__init__" = some (some (.ref fI))) (tI : PySem.W.typeIn X.K (.ref fI) = some (.type "function"))
    (F1 : FnOk X.prog X.w X.K X.mg X.base CX k fI fd ps sp) (hr : Room (k + 1) X.A) (hb : Binds X.K fd ps []) (hx : Passes CX X (fun _ _ _ => False)) (hg : Gl X x) (hm : X.mg x = some (.ref C)) (ha : PA X (e :: es) ta)
    (hdb : (x == ("__debug__" : Str)) = false := by decide) (he : starEach (e :: es) X.env = (false, eval e X.env) :: starEach es X.env := by rfl)
    (hpl : (backTo pos (starEach es X.env)).any (·.1) = false := by rfl) {R : List V → Hp → XK → Prop} (hR : ∀ vs H1 Q, R vs H1 Q → MkB C sp vs H1 Q) :
    PMk X (.Call (.Name x p) (e :: es) [] pos) (fun σ H Q => ta σ H fun vs H1 => R vs H1 Q) := by
  intro pins s σ H Q I h
  obtain ⟨nm, q, N, bs, bm, sn, sub, ab, col, dd, k0, k1, k2, k3, k5, hC, hbm⟩ := T.cl
  refine wpAny_Call_Name_kw (ld_glob I hg hm ?_ hdb)
  refine PySem.W.callWith_K (h₀ := X.base) I.ok.mod.kin T.kk (thn (ha.run pos pins s σ H _ I h) fun us s1 ⟨vs, H1, I1, r1, qR⟩ => ⟨I1.kIn, ?_⟩) he hpl
  obtain ⟨hz, q1⟩ := hR _ _ _ qR
  show wpAny _ _ (call (.ref C) us) _ _ _
  obtain ⟨hp, g, dr, tk, os⟩ := s1
  have hsz : hp.objs.size ≤ hp.objs.size + 1 := Nat.le_succ _
  have hq := q1 _ (I1.hok.fresh hsz)
  have up : ∀ b o, hp.get? b = some o → ((hp.push (PySem.W.kdv_tup us)).push (PySem.HandSPX.excO C hp.objs.size)).get? b = some o :=
    fun b o e => Heap.get?_push_of_some _ (Heap.get?_push_of_some _ e)
  have hget : ((hp.push (PySem.W.kdv_tup us)).push (PySem.HandSPX.excO C hp.objs.size)).get? (hp.objs.size + 1) = some (PySem.HandSPX.excO C hp.objs.size) := by heap_get
  have I2 := I1.laid (t' := tk) (a := hp.objs.size + 1) (o := exo (hp.objs.size + 1) C none) (h' := (hp.push (PySem.W.kdv_tup us)).push (PySem.HandSPX.excO C hp.objs.size)) up hsz (exo_ok hget)
  have r2 : Vals (V.ref (hp.objs.size + 1) :: vs) (Value.ref (hp.objs.size + 1) :: us) := .cons rfl r1
  have hl : (Value.ref (hp.objs.size + 1) :: us).length = ps.length := r2.length.symm.trans (F1.len _ _ _ _ hq)
  have hb' := hb _ (Value.ref (hp.objs.size + 1) :: us) I2.kIn (by rw [List.append_nil]; exact hl)
  rw [List.append_nil] at hb'
  have hus : us.length ≤ sizeLine := by
    rw [← Paired.length r1, sizeLine_eq]
    omega
  refine wpAny_call (PySem.HandSPX.call_own EB (fun Y => PySem.W.excTail_contains Y bm hbm) (I1.kIn _ _ hC) (PySem.W.looks_findIn I1.kIn iC) (fun self => PySem.W.bind_fn I1.kIn self tI) hus ?_)
  refine codeAny_mono (F1.run _ X.stack _ _ _ _ _ _ (fun _ _ _ => False) (hr.make C us []) (I2.env0.make C us []) hb' r2 hq) fun r s' z => ?_
  cases r with
  | error er => exact hx pins σ _ _ er s' I2 z
  | ok fl =>
    cases fl with
    | next => exact False.elim z
    | brk => exact False.elim z
    | cont => exact False.elim z
    | ret u =>
      obtain ⟨v, H2, os2, bare2, un2, hok2, rv, ev, d, fs, ea, ed, hd1, q2⟩ := z
      subst ev
      obtain ⟨h2, g2, d2, t2, os'⟩ := s'
      exact ⟨rv, mk_end (raises_own T.xf.exC T.tt) I1 hsz up un2 hok2 os2 bare2 ea ed hd1 q2⟩
end
/-- where the class stands that the module calls so -/
def cA (mg : Str → Option Value) (x : Str) : Addr := match mg x with
  | some (.ref a) => a
  | _ => 0
theorem cA_eq {mg : Str → Option Value} {x : Str} {a : Addr} (h : mg x = some (.ref a)) : cA mg x = a := by
  unfold cA
  rw [h]
/-! ## __init__ with one field, with two -/
def spI1 (C : Addr) (f : Str) : Sp := fun vs H Q _ => ∃ (a : Addr) (v : V), vs = [.ref a, v] ∧ H a = some (exo a C none) ∧
  ∀ dx, H dx = none → dx ≠ a → Q .non (upd (upd H dx (exd dx [(f, v)])) a (exo a C (some dx)))
def spI2 (C : Addr) (f g : Str) : Sp := fun vs H Q _ => ∃ (a : Addr) (v w : V), vs = [.ref a, v, w] ∧ H a = some (exo a C none) ∧
  ∀ dx, H dx = none → dx ≠ a → Q .non (upd (upd (upd H dx (exd dx [(f, v)])) a (exo a C (some dx))) dx (exd dx [(g, w), (f, v)]))
/-- C(e) of one field; C(e, e') of two: the exception's dict stands at a new place -/
def tMk1 (C : Addr) (f : Str) (ta : TA) : L2.St → Hp → XK → Prop := fun σ H Q => ta σ H fun vs H1 => ∃ v, vs = [v] ∧ ∀ d, H1 d = none → Q (.ref C) (some d) (upd H1 d (.xd [(f, v)]))
def tMk2 (C : Addr) (f g : Str) (ta : TA) : L2.St → Hp → XK → Prop := fun σ H Q => ta σ H fun vs H1 => ∃ v w, vs = [v, w] ∧ ∀ d, H1 d = none → Q (.ref C) (some d) (upd H1 d (.xd [(g, w), (f, v)]))
theorem mk1_of {C : Addr} {f : Str} (vs : List V) (H1 : Hp) (Q : XK) : (∃ v, vs = [v] ∧ ∀ d, H1 d = none → Q (.ref C) (some d) (upd H1 d (.xd [(f, v)]))) → MkB C (spI1 C f) vs H1 Q := by
  rintro ⟨v, rfl, q⟩
  refine ⟨Nat.le_of_ble_eq_true rfl, fun a ha => ⟨a, v, rfl, upd_same, fun dx hd ne => ⟨rfl, dx, [(f, v)], upd_same, ?_, ?_, ?_⟩⟩⟩
  · rw [upd_ne ne, upd_same]
  · rw [upd_ne ne] at hd
    exact hd
  · have z := q dx (by rw [upd_ne ne] at hd; exact hd)
    have e : upd (del (upd (upd (upd H1 a (exo a C none)) dx (exd dx [(f, v)])) a (exo a C (some dx))) a) dx (.xd [(f, v)]) = upd H1 dx (.xd [(f, v)]) := by
      funext b
      by_cases h1 : b = dx
      · rw [h1, upd_same, upd_same]
      · rw [upd_ne h1, upd_ne h1]
        by_cases h2 : b = a
        · rw [h2, del_same, ha]
        · rw [del_ne h2, upd_ne h2, upd_ne h1, upd_ne h2]
    rw [e]
    exact z
theorem mk2_of {C : Addr} {f g : Str} (vs : List V) (H1 : Hp) (Q : XK) : (∃ v w, vs = [v, w] ∧ ∀ d, H1 d = none → Q (.ref C) (some d) (upd H1 d (.xd [(g, w), (f, v)]))) → MkB C (spI2 C f g) vs H1 Q := by
  rintro ⟨v, w, rfl, q⟩
  refine ⟨Nat.le_of_ble_eq_true rfl, fun a ha => ⟨a, v, w, rfl, upd_same, fun dx hd ne => ⟨rfl, dx, [(g, w), (f, v)], ?_, upd_same, ?_, ?_⟩⟩⟩
  · rw [upd_ne ne.symm, upd_same]
  · rw [upd_ne ne] at hd
    exact hd
  · have z := q dx (by rw [upd_ne ne] at hd; exact hd)
    have e : upd (del (upd (upd (upd (upd H1 a (exo a C none)) dx (exd dx [(f, v)])) a (exo a C (some dx))) dx (exd dx [(g, w), (f, v)])) a) dx (.xd [(g, w), (f, v)]) = upd H1 dx (.xd [(g, w), (f, v)]) := by
      funext b
      by_cases h1 : b = dx
      · rw [h1, upd_same, upd_same]
      · rw [upd_ne h1, upd_ne h1]
        by_cases h2 : b = a
        · rw [h2, del_same, ha]
        · rw [del_ne h2, upd_ne h1, upd_ne h2, upd_ne h1, upd_ne h2]
    rw [e]
    exact z
/-! ## calls of defs that may raise, by the caller's slots -/
def tCallW (sp : Sp) (W : WX) (t : TA) : TE := fun σ H Q => t σ H fun vs H1 => sp vs H1 Q fun cls d H' => W cls d σ H'
def tCallKW (sp : Sp) (gV : List V → List V → List V) (W : WX) (t tk : TA) : TE := fun σ H Q => t σ H fun vs H1 => tk σ H1 fun zs H2 => sp (gV vs zs) H2 Q fun cls d H' => W cls d σ H'
section
variable {X : Cx} {k : Nat} {ps ks : List Str} {sp : Sp} {W : WX} {x : Str} {st : Stmt} {p pos : Pos} {e : Expr} {es : List Expr} {kws : List Keyword} {t tq : TA}
theorem run_gS {pins : List (Addr × Obj)} {σ : L2.St} {H : Hp} {s : Shared} {Q : VK} {us : List Value} {vs : List V} {f : Addr} {fd : FuncData} {args : Args}
    (r : ∀ (A : Around) (outer : List Env) (s : Shared) (H : Hp) (args : Args) (us : List Value) (vs : List V) (Q : VK) (E : XK),
      A.guards = some [] → Room k A → Env0 X.prog X.w X.K X.mg X.base A outer s H → BindsTo s fd args (ps.zip us) → Vals vs us → sp vs H Q E →
        codeAny (model X.prog X.w) A (.call (.ref f) args) (CR (CX X.prog X.w) outer X.prog X.w H s Q E) s)
    (hg : X.A.guards = some []) (hr : Room k X.A) (tk : Takes X W) (I : Inv X pins σ H s) (hb : BindsTo s fd args (ps.zip us)) (hv : Vals vs us)
    (h : sp vs H Q fun cls d H' => W cls d σ H') :
    codeAny (model X.prog X.w) X.A (.call (.ref f) args)
      (fun r s' => match r with | .error e => X.xe e s' | .ok (.ret u) => EP X pins σ Q u s' | .ok _ => False) s := by
  refine codeAny_mono (r X.A X.stack s H args us vs Q _ hg hr I.env0 hb hv h) fun r s' hq => ?_
  cases r with
  | error e => exact tk _ _ (XE.of_call I (fun _ _ _ z => z) hq)
  | ok fl =>
    cases fl with
    | ret u => exact I.after hq
    | next => exact hq
    | brk => exact hq
    | cont => exact hq
theorem pe_gS (G : Ok X.prog X.w X.K X.mg X.base k x st ps sp) (b : ∀ f fd, L2.Fun X.K x x st f fd → L2.Binds X.K fd ps [])
    (hg : X.A.guards = some []) (hr : Room k X.A) (tk : Takes X W) (gl : Gl X x) (ha : PA X (e :: es) t)
    (hdb : (x == ("__debug__" : Str)) = false := by decide)
    (he : starEach (e :: es) X.env = (false, eval e X.env) :: starEach es X.env := by rfl)
    (hpl : (backTo pos (starEach es X.env)).any (·.1) = false := by rfl) :
    PE X (.Call (.Name x p) (e :: es) [] pos) (tCallW sp W t) := by
  obtain ⟨⟨f, fd, F, hm, r⟩, l⟩ := G
  refine ⟨fun pins s σ H Q I h => wpAny_Call_Name_kw (ld_glob I gl hm ?_ hdb)⟩
  refine PySem.W.callWith_K (h₀ := X.base) I.ok.mod.kin F.kp (thn (ha.run pos pins s σ H _ I h) fun us s1 ⟨vs, H1, I1, r1, q1⟩ => ⟨I1.kIn, ?_⟩) he hpl
  have hl : us.length = ps.length := r1.length.symm.trans (l _ _ _ _ q1)
  have bb := b f fd F s1 us I1.kIn (by rw [List.append_nil]; exact hl)
  rw [List.append_nil] at bb
  refine wpAny_call (codeAny_mono (run_gS r hg hr tk I1 bb r1 q1) fun z s' hz => ?_)
  rcases z with e | fl
  · exact hz
  · cases fl <;> exact hz
theorem pe_gkS0 {gf : List Value → List Value → List Value} {gV : List V → List V → List V} (G : Ok X.prog X.w X.K X.mg X.base k x st ps sp)
    (b : ∀ f fd, L2.Fun X.K x x st f fd → KBinds X.K fd ps ks gf gV)
    (hg : X.A.guards = some []) (hr : Room k X.A) (tk : Takes X W) (gl : Gl X x) (hkw : PK X kws tq)
    (hall : (backToKw pos (keywordEach kws X.env)).all (·.1.isSome) = true := by rfl)
    (hks : (backToKw pos (keywordEach kws X.env)).filterMap (·.1) = ks := by rfl) (hdb : (x == ("__debug__" : Str)) = false := by decide)
    (hpl : ((backTo pos (starEach [] X.env)).any (·.1) || (backToKw pos (keywordEach kws X.env)).any (·.1.isNone)) = false := by rfl) :
    PE X (.Call (.Name x p) [] kws pos) (tCallKW sp gV W tNil tq) := by
  obtain ⟨⟨f, fd, F, hm, r⟩, l⟩ := G
  refine ⟨fun pins s σ H Q I h => wpAny_Call_Name_kw (ld_glob I gl hm ?_ hdb)⟩
  refine PySem.W.callWith_KW0 (h₀ := X.base) I.ok.mod.kin F.kp hall (thn (hkw.run pos pins s σ H _ I h) fun ws s2 ⟨zs, H2, I2, rz, q2⟩ => ⟨I2.kIn, ?_⟩) hpl
  rw [hks]
  have B := b f fd F
  have r2 := B.rel .nil rz
  refine wpAny_call (codeAny_mono (run_gS r hg hr tk I2 (B.to s2 [] ws I2.kIn (r2.length.symm.trans (l _ _ _ _ q2))) r2 q2) fun z s' hz => ?_)
  rcases z with e | fl
  · exact hz
  · cases fl <;> exact hz
theorem pe_gkS {gf : List Value → List Value → List Value} {gV : List V → List V → List V} (G : Ok X.prog X.w X.K X.mg X.base k x st ps sp)
    (b : ∀ f fd, L2.Fun X.K x x st f fd → KBinds X.K fd ps ks gf gV)
    (hg : X.A.guards = some []) (hr : Room k X.A) (tk : Takes X W) (gl : Gl X x) (ha : PA X (e :: es) t) (hkw : PK X kws tq)
    (hall : (backToKw pos (keywordEach kws X.env)).all (·.1.isSome) = true := by rfl)
    (hks : (backToKw pos (keywordEach kws X.env)).filterMap (·.1) = ks := by rfl) (hdb : (x == ("__debug__" : Str)) = false := by decide)
    (he : starEach (e :: es) X.env = (false, eval e X.env) :: starEach es X.env := by rfl)
    (hpl : ((backTo pos (starEach (e :: es) X.env)).any (·.1) || (backToKw pos (keywordEach kws X.env)).any (·.1.isNone)) = false := by rfl) :
    PE X (.Call (.Name x p) (e :: es) kws pos) (tCallKW sp gV W t tq) := by
  obtain ⟨⟨f, fd, F, hm, r⟩, l⟩ := G
  refine ⟨fun pins s σ H Q I h => wpAny_Call_Name_kw (ld_glob I gl hm ?_ hdb)⟩
  refine PySem.W.callWith_KW (h₀ := X.base) I.ok.mod.kin F.kp hall (thn (ha.run pos pins s σ H _ I h) fun us s1 ⟨vs, H1, I1, r1, q⟩ => ?_) hpl he
  refine thn (hkw.run pos pins s1 σ H1 _ I1 q) fun ws s2 ⟨zs, H2, I2, rz, q2⟩ => ⟨I2.kIn, ?_⟩
  rw [hks]
  have B := b f fd F
  have r2 := B.rel r1 rz
  refine wpAny_call (codeAny_mono (run_gS r hg hr tk I2 (B.to s2 us ws I2.kIn (r2.length.symm.trans (l _ _ _ _ q2))) r2 q2) fun z s' hz => ?_)
  rcases z with e | fl
  · exact hz
  · cases fl <;> exact hz
end
section
variable {sp : Sp} {W : WX} {t tq : TA} {gV : List V → List V → List V} {σ : L2.St} {H : Hp} {Q : VK} {a C : Addr} {cls : Value} {d : Option Addr} {f : Str} {te : TE}
theorem r_callW (h : t σ H fun vs H1 => sp vs H1 Q fun cls d H' => W cls d σ H') : tCallW sp W t σ H Q := h
theorem r_callKW (h : t σ H fun vs H1 => tq σ H1 fun zs H2 => sp (gV vs zs) H2 Q fun cls d H' => W cls d σ H') : tCallKW sp gV W t tq σ H Q := h
theorem r_xf (h : te σ H fun x H1 => x = .ref a ∧ cls = .ref C ∧ ∃ (dd : Addr) (fs : List (Str × V)) (v : V), d = some dd ∧ H1 dd = some (.xd fs) ∧ fs.lookup f = some v ∧ Q v H1) :
    tXf a cls d C f te σ H Q := h
/-- the clause 'except x as n' takes it; it goes by -/
theorem w_as {K : PySem.W.Frag} {c : Value} {i : Nat} {ts : Addr → Value → Option Addr → TS} {Wout : WX} {D : Ends} (h1 : PySem.W.exmOne K cls c = some true)
    (h : ∀ a, H a = none → ts a cls d { nx := fun σ' H' => D.nx (σ'.set i none) H', rt := D.rt, bk := fun σ' H' => D.bk (σ'.set i none) H', ct := fun σ' H' => D.ct (σ'.set i none) H' } (σ.set i (some (.ref a))) H) :
    wAs K c i ts Wout D cls d σ H := ⟨true, h1, fun _ a ha => h a ha, fun z => Bool.noConfusion z⟩
theorem w_by {K : PySem.W.Frag} {c : Value} {i : Nat} {ts : Addr → Value → Option Addr → TS} {Wout : WX} {D : Ends} (h1 : PySem.W.exmOne K cls c = some false) (h : Wout cls d σ H) :
    wAs K c i ts Wout D cls d σ H := ⟨false, h1, fun z => Bool.noConfusion z, fun _ => h⟩
end
/-- whether an except clause takes an exception of an own class -/
theorem exm_cls {K : PySem.W.Frag} {C D : Addr} {b : Bool} (h1 : PySem.W.subIn K (.ref D) (.type "BaseException") = some true) (h2 : PySem.W.hasDictIn K D = true)
    (h3 : PySem.W.typeIn K (.ref D) = some (.type "type")) (h4 : PySem.W.subIn K (.ref C) (.ref D) = some b) : PySem.W.exmOne K (.ref C) (.ref D) = some b := by
  obtain ⟨cd, hc, _⟩ := PySem.W.any_some h2
  unfold PySem.W.exmOne
  rw [if_pos (by rw [h1]; decide)]
  unfold PySem.W.kitCls
  dsimp only
  rw [if_pos (by rw [h3, hc] <;> rfl)]
  exact h4
/-! ## is None, is not None -/
theorem r_isn_ref {p : Addr} {R : Bool → Prop} (h : R false) : V.non = V.non ∧ ∃ k, V.bl (decide (V.ref p = V.non)) = V.bl k ∧ R k := ⟨rfl, _, rfl, by rw [show decide (V.ref p = V.non) = false by simp]; exact h⟩
theorem r_nn_ref {p : Addr} {R : Bool → Prop} (h : R true) : V.non = V.non ∧ ∃ k, V.bl (!decide (V.ref p = V.non)) = V.bl k ∧ R k := ⟨rfl, _, rfl, by rw [show (!decide (V.ref p = V.non)) = true by simp]; exact h⟩
theorem r_isn_int {i : Int} {R : Bool → Prop} (h : R false) : V.non = V.non ∧ ∃ k, V.bl (decide (V.int i = V.non)) = V.bl k ∧ R k := ⟨rfl, _, rfl, by rw [show decide (V.int i = V.non) = false by simp]; exact h⟩
theorem r_nn_int {i : Int} {R : Bool → Prop} (h : R true) : V.non = V.non ∧ ∃ k, V.bl (!decide (V.int i = V.non)) = V.bl k ∧ R k := ⟨rfl, _, rfl, by rw [show (!decide (V.int i = V.non)) = true by simp]; exact h⟩
theorem r_isn_non {R : Bool → Prop} (h : R true) : V.non = V.non ∧ ∃ k, V.bl (decide (V.non = V.non)) = V.bl k ∧ R k := ⟨rfl, _, rfl, by rw [show decide (V.non = V.non) = true by simp]; exact h⟩
theorem r_nn_non {R : Bool → Prop} (h : R false) : V.non = V.non ∧ ∃ k, V.bl (!decide (V.non = V.non)) = V.bl k ∧ R k := ⟨rfl, _, rfl, by rw [show (!decide (V.non = V.non)) = false by simp]; exact h⟩
/-! ## lists put together -/
theorem r_cat {l b : Addr} {xs zs : List V} {H : Hp} {Q : VK} (h1 : H l = some (.lst xs)) (h2 : H b = some (.lst zs)) (hz : xs.length + zs.length ≤ 100000) (h : ∀ p, H p = none → Q (.ref p) (upd H p (.lst (xs ++ zs)))) :
    rCat (.ref l) (.ref b) H Q := ⟨l, b, xs, zs, rfl, rfl, h1, h2, small hz, h⟩
/-! ## >>= 1, signs of a text -/
def ipH : TIp := fun x y H Q => ∃ i : Int, x = .int i ∧ y = .int 1 ∧ Q (.int (i / 2)) H
theorem ip_half {X : Cx} : PIp X .RShift ipH := fun pins s σ H x y v u Q I rx ry h => iop_halfI pins s σ H x y v u Q I rx ry h
theorem r_half {i : Int} {H : Hp} {Q : VK} (h : Q (.int (i / 2)) H) : ipH (.int i) (.int 1) H Q := ⟨i, rfl, rfl, h⟩
def rOdd : V → V → Hp → VK → Prop := fun x y H Q => ∃ n : Nat, x = .int (n : Int) ∧ y = .int 1 ∧ Q (.int ((n % 2 : Nat) : Int)) H
theorem r_odd {n : Nat} {H : Hp} {Q : VK} (h : Q (.int ((n % 2 : Nat) : Int)) H) : ∃ m : Nat, (V.int (n : Int)) = .int (m : Int) ∧ V.int 1 = .int 1 ∧ Q (.int ((m % 2 : Nat) : Int)) H := ⟨n, rfl, rfl, h⟩
theorem r_forStr {g : TG} {tb : TS} {D : Ends} {σ : L2.St} {H : Hp} {te : TE} (h : te σ H fun v H1 => ∃ x, v = .str x ∧ tFor (fun _ H2 R => R (Its x) H2) g tb D σ H1) : tFor (iStr te) g tb D σ H := h
theorem r_forSs {x : Str} {g : TG} {tb : TS} {D : Ends} {σ : L2.St} {H : Hp} (Pv : Nat → L2.St → Hp → Prop) (h0 : Pv 0 σ H)
    (hs : ∀ i c σ H, x.cps[i]? = some c → Pv i σ H → g (.str ⟨#[c]⟩) σ H fun σ2 H2 => tb { D with nx := Pv (i + 1), ct := Pv (i + 1), bk := D.nx } σ2 H2) (hd : ∀ σ H, Pv x.cps.size σ H → D.nx σ H) :
    tFor (fun _ H2 R => R (Its x) H2) g tb D σ H := by
  refine ⟨fun i l σ H => i + l = x.cps.size ∧ Pv i σ H, ⟨x.cps.size, Nat.zero_add _, h0⟩, ?_⟩
  rintro i l σ H ⟨e, p⟩
  by_cases c : i < x.cps.size
  · refine .inr ⟨c, Pv (i + 1), fun σ' H' p' => ⟨l - 1, by omega, by omega, p'⟩, ?_⟩
    rintro y H' ⟨eH, c0, hc, ey⟩
    subst eH
    subst ey
    exact hs i c0 σ _ hc p
  · have z : i = x.cps.size := by omega
    subst z
    exact .inl ⟨Nat.le_refl _, hd σ H p⟩
end Vf

namespace Vf
open PySem PySem.Spec PyProof.Rows L2
/-! ## the decimal signs of a number, read one by one -/
def sgn (k : Nat) : Str := PySem.Str.ofString (toString ((k : Nat) : Int))
/-- what the first signs tell -/
def dv (k i : Nat) : Nat := NumText.digitsVal ((sgn k).cps.toList.take i)
theorem sgn_list (k : Nat) : (sgn k).cps.toList = (Nat.toDigits 10 k).map Char.toNat := PySem.W.KIN.signs_num k
theorem dv_zero (k : Nat) : dv k 0 = 0 := rfl
theorem dv_all (k : Nat) : dv k (sgn k).cps.size = k := by
  unfold dv
  rw [List.take_of_length_le (by rw [Array.length_toList]; exact Nat.le_refl _), sgn_list]
  exact PySem.W.KIN.val_back k
theorem sgn_digit {k i c : Nat} (h : (sgn k).cps[i]? = some c) : 48 ≤ c ∧ c ≤ 57 := by
  have m : c ∈ (sgn k).cps.toList := Array.mem_toList_iff.mpr (Array.mem_of_getElem? h)
  rw [sgn_list] at m
  obtain ⟨ch, hch, e⟩ := List.mem_map.mp m
  have r := PyProof.Rows.digit_range (Nat.isDigit_of_mem_toDigits (by decide) (by decide) hch)
  rw [← e]
  exact r
theorem dv_next {k i c : Nat} (h : (sgn k).cps[i]? = some c) : dv k (i + 1) = dv k i * 10 + (c - 48) := by
  have h' : (sgn k).cps.toList[i]? = some c := by rw [Array.getElem?_toList]; exact h
  unfold dv
  rw [List.take_add_one, h']
  exact PySem.NumText.digitsVal_snoc _ _
theorem one_sign {c : Nat} (h1 : 48 ≤ c) (h2 : c ≤ 57) : PySem.intText? (⟨#[c]⟩ : Str) = some (((c - 48 : Nat) : Nat) : Int) := by
  have e := PySem.intText_digits (x := (⟨#[c]⟩ : Str)) (fun d hd => by
    have : d = c := by simpa using hd
    subst this
    exact ⟨h1, h2⟩) (by simp) (show 1 ≤ 4300 by decide)
  rw [e]
  congr 2
  show 0 * 10 + (c - 48) = c - 48
  omega
theorem r_intS {c : Nat} {H : Hp} {Q : VK} (h1 : 48 ≤ c) (h2 : c ≤ 57) (h : Q (.int ((c - 48 : Nat) : Int)) H) :
    ∃ a n, [V.str ⟨#[c]⟩] = [V.str a] ∧ PySem.intText? a = some n ∧ a.length ≤ 640 ∧ Q (.int n) H := ⟨_, _, rfl, one_sign h1 h2, (by decide : 1 ≤ 640), h⟩
theorem r_strI {k : Nat} {H : Hp} {Q : VK} (hk : k.log2 < 1920) (h : Q (.str (sgn k)) H) : ∃ i : Int, [V.int (k : Int)] = [V.int i] ∧ i.natAbs.log2 < 1920 ∧ Q (.str (toString i)) H := ⟨_, rfl, hk, h⟩
end Vf

namespace Vf
open PySem PySem.Spec PyProof.Rows L2 LamX
/-! ## a lambda without parameters handed to a def of the text, where repr may be used -/
section
variable {X : Cx} {pins : List (Addr × Obj)} {σ : L2.St} {H : Hp} {s s1 : Shared}
/-- the context of the def at g, entered from X at s -/
abbrev gcx (X : Cx) (Ng : List Str) (x : Str) (st : Stmt) (g : Addr) (cdg : Value) (s : Shared) (H : Hp) (E : XK) : Cx :=
  cxOf (CX X.prog X.w) X.prog X.w X.K X.mg X.base Ng x (defScope st) g cdg X.A X.stack s H E
/-- x(), in the def that got the lambda -/
theorem pe_actG {Eg : XK} {Ng : List Str} {x : Str} {st : Stmt} {g f c' : Addr} {cdg pm ctv : Value} {params : Arguments} {body : Expr} {scope : Scope} {k i : Nat} {a : Str} {pn : List (Addr × Obj)} {xe : Value → Shared → Prop} {W : WX} {tb : XK → TE} {p1 p2 : Pos}
    (I : Inv X pins σ H s) (L : LamS X.env.scope scope) (hf : s.heap.get? f = some (PySem.W.kla_obj "<lambda>" (X.env.qual ++ "<lambda>") params body scope (cloFrom X.env.cells scope.names []) pm c' ctv)) (hfn : H f = none) (hfr : f ∉ frs X.stack)
    (hbind : bindArgs (PySem.W.kla_fn "<lambda>" (X.env.qual ++ "<lambda>") params body scope (cloFrom X.env.cells scope.names []) pm (.ref c') ctv) ⟨[], []⟩ = pure [])
    (tk : Takes ((gcx X Ng x st g cdg s H Eg).tr pn xe) W) (hgA : X.A.guards = some []) (hr : Room (k + 1) (X.A.deeper (envOfC x (defScope st) s.heap.objs.size g cdg)))
    (hbody : ∀ (A : Around) (outer : List Env) (s : Shared) (H : Hp) (E : XK), (A.deeper (lamEnv X scope s.heap.objs.size f c')).guards = some [] → Room k (A.deeper (lamEnv X scope s.heap.objs.size f c')) → PE (lamCx X A outer s H E scope f c') body (tb E))
    (hN : Ng[i]? = some a) (hv : Vis (defScope st) a) (hd : (a == ("__debug__" : Str)) = false := by decide) (hcd : (a == ("__classdict__" : Str)) = false := by decide) :
    PE ((gcx X Ng x st g cdg s H Eg).tr pn xe) (.Call (.Name a p1) [] [] p2) (fun σZ HZ Q => σZ[i]? = some (some (.ref f)) ∧ HZ c' = some (CodeO c' (X.env.qual ++ "<lambda>")) ∧ tb (fun cls d H' => W cls d σZ H') σ HZ Q) := by
  refine ⟨fun pinsZ sZ σZ HZ Q IZ h => ?_⟩
  obtain ⟨hs, hc, ht⟩ := h
  have named := (pe_var (X := (gcx X Ng x st g cdg s H Eg).tr pn xe) (pos := p1) (i := i) hN hv hd hcd).run pinsZ sZ σZ HZ (fun v H1 => v = .ref f ∧ H1 = HZ) IZ ⟨.ref f, hs, rfl, rfl⟩
  refine wpAny_Call_Name_kw (thn named fun u s1 ⟨v, H1, I1, r1, ev, eH⟩ => ?_)
  subst ev
  subst eH
  obtain rfl : u = Value.ref f := r1
  have of1 := I1.base.keep f _ hf hfn hfr (fun z => nomatch (show f ∈ ([] : List Addr) from z))
  refine PySem.W.callWith_F0 ⟨_, _, _, _, of1⟩ ?_
  have un : Un (frs X.stack) [] H H1 s.heap s1.heap := I1.base
  obtain ⟨⟨oc, vs, t, hoc, hdc, hvc⟩, _, _⟩ := I1.hok c' _ hc
  have rc : codeAny (model X.prog X.w) (X.A.deeper (envOfC x (defScope st) s.heap.objs.size g cdg)) (.call (.ref f) ⟨[], []⟩)
      (CR (CX X.prog X.w) (envOfC x (defScope st) s.heap.objs.size g cdg :: X.stack) X.prog X.w H1 s1 Q fun cls d H' => W cls d σZ H') s1 := by
    refine PySem.W.kla_callFunE hr.depth of1 rfl L.co L.gen rfl ⟨c', oc, vs, t, rfl, hoc, hdc, hvc⟩ ?_
    rw [hbind]
    refine wpAny_pure (wpAny_newFunctionEnv (fun y hy => (L.own y hy).2) (fun y hy => absurd hy (by simp)) (fun h₁ hns hsb => ⟨I1.nolimit.fresh _ hsb, ?_⟩) L.kind)
    show codeAny _ _ (.expr body (lamEnv X scope s1.heap.objs.size f c')) _ _
    have kp : ∀ b o, s1.heap.get? b = some o → h₁.get? b = some o := fun b o e => hsb.extBut b o (Nat.ne_of_lt (Heap.lt_size e)) (Heap.get?_push_of_some _ e)
    have J := lam_start2 (E := fun cls d H' => W cls d σZ H') (f := f) (c' := c') (tk := s1.toks + ([] : List (Str × Value)).length) I L I1.env0 hr.hd un hns kp
    refine PySem.W.kla_codeExpr (wpAny_mono ((hbody (X.A.deeper (envOfC x (defScope st) s.heap.objs.size g cdg)) _ s1 H1 _ hgA (hr.deeper _)).run [] _ _ H1 Q J ht) (fun v s' hq => ?_) fun e s' hq => hq)
    obtain ⟨w', H', J', rv, q⟩ := hq
    exact ⟨w', H', J'.os, J'.bare, J'.base, J'.hok, rv, q⟩
  refine wpAny_call (codeAny_mono rc fun r s' hq => ?_)
  rcases r with e | fl
  · exact tk _ _ (XE.of_call I1 (fun _ _ _ z => z) hq)
  · rcases fl with _ | _ | _ | u
    · exact False.elim hq
    · exact False.elim hq
    · exact False.elim hq
    · exact I1.after hq
end
/-- the def x that calls what it got (by the name a): TT is what it makes of the lambda's reading -/
def Gives (X : Cx) (k : Nat) (Ng : List Str) (x : Str) (st : Stmt) (a : Str) (q : Str) (TT : (XK → Hp → VK → Prop) → Hp → VK → Prop) : Prop :=
  ∀ (g : Addr) (cdg : Value) (f c' : Addr) (s : Shared) (H : Hp) (Q : VK) (tl : XK → Hp → VK → Prop), (X.A.deeper (envOfC x (defScope st) s.heap.objs.size g cdg)).guards = some [] → Room (k + 1) (X.A.deeper (envOfC x (defScope st) s.heap.objs.size g cdg)) →
    (∀ (W : WX) (pn : List (Addr × Obj)) (xe : Value → Shared → Prop) (p1 p2 : Pos), Takes ((gcx X Ng x st g cdg s H E0).tr pn xe) W →
      PE ((gcx X Ng x st g cdg s H E0).tr pn xe) (.Call (.Name a p1) [] [] p2) (fun σZ HZ Q => σZ[0]? = some (some (.ref f)) ∧ HZ c' = some (CodeO c' q) ∧ tl (fun cls d H' => W cls d σZ H') HZ Q)) →
    H c' = some (CodeO c' q) → TT tl H Q → ∃ t, PSs (gcx X Ng x st g cdg s H E0) (defBody st) t ∧ t { nx := fun _ H' => Q .non H', rt := Q } (L2.start Ng [.ref f]) H
section
variable {X : Cx}
/-- x(lambda: body) -/
theorem pe_lamG {T : List (Addr × Str)} {TT : (XK → Hp → VK → Prop) → Hp → VK → Prop} {x a : Str} {st : Stmt} {c P : Addr} {k : Nat} {Ng : List Str} {params : Arguments} {body : Expr} {scope : Scope} {t : XK → TE} {p lpos pos : Pos}
    (hA : At X.K X.mg x st) (hb : ∀ f fd, L2.Fun X.K x x st f fd → L2.Binds X.K fd [a] []) (Sg : FnScope Ng [a] (defScope st)) (hNg : Ng[0]? = some a) (hva : Vis (defScope st) a)
    (hgA : X.A.guards = some []) (hr : Room (k + 2) X.A) (hg : Gl X x) (hG : Gives X k Ng x st a (X.env.qual ++ "<lambda>") TT)
    (TB : TabB X.base X.mg c P) (hcode : X.env.code = .ref c) (hmT : (P, X.env.qual ++ "<lambda>") ∈ T) (hu : ∀ p ∈ T, p.1 = P → p.2 = X.env.qual ++ "<lambda>") (L : LamS X.env.scope scope) (hdef : defaultsOf params X.env = ([], []))
    (hbind : ∀ (q : Str) (cl : List (Str × Addr)) (pm cv ctv : Value), bindArgs (PySem.W.kla_fn "<lambda>" q params body scope cl pm cv ctv) ⟨[], []⟩ = pure [])
    (hbody : ∀ (A : Around) (outer : List Env) (s : Shared) (H : Hp) (E : XK) (f c' : Addr), (A.deeper (lamEnv X scope s.heap.objs.size f c')).guards = some [] → Room k (A.deeper (lamEnv X scope s.heap.objs.size f c')) → PE (lamCx X A outer s H E scope f c') body (t E))
    (hdb : (x == ("__debug__" : Str)) = false := by decide) (hd : (a == ("__debug__" : Str)) = false := by decide) (hcd : (a == ("__classdict__" : Str)) = false := by decide) :
    PE X (.Call (.Name x p) [.Lambda params body scope lpos] [] pos) (tLam T TT t) := by
  obtain ⟨g, fd, F, hm⟩ := hA
  refine ⟨fun pins s σ H Q I ⟨hT, h⟩ => ?_⟩
  refine wpAny_Call_Name_kw (ld_glob I hg hm ?_ hdb)
  refine PySem.W.callWith_K (h₀ := X.base) I.ok.mod.kin F.kp ?_ (by rfl) (by rfl)
  show wpAny _ _ (spliced ((false, eval (.Lambda params body scope lpos) X.env) :: backTo pos (starEach [] X.env))) _ _ s
  refine Calls.spliced_cons (lam_make2 I TB hcode hmT hu hT hdef (L.has I.ok) fun f c' pm' ctv H1 s' I1 eN T1 hf hfn hfr hco => ?_)
  refine Calls.spliced_nil ⟨I1.kIn, ?_⟩
  have bd := hb g fd F s' [.ref f] I1.kIn rfl
  obtain ⟨oc, od, kV, doc, pm, an, cdv, ct, osl, efd, lk, hcg⟩ := F.ex
  subst efd
  have rc : codeAny (model X.prog X.w) X.A (.call (.ref g) ⟨[.ref f], []⟩) (CR (CX X.prog X.w) X.stack X.prog X.w H1 s' Q E0) s' := by
    refine run_ofS (N := Ng) (ps := [a]) (us := [.ref f]) (vs := [.ref f]) (k := k + 1) lk hcg Sg hr I1.env0 bd (.cons rfl .nil) rfl fun hr' => ?_
    exact hG g cdv f c' s' H1 Q (fun E H' Q' => t E σ H' Q') hgA hr' (fun W pn xe p1 p2 tk => pe_actG (i := 0) I1 L hf hfn hfr (hbind _ _ _ _ _) tk hgA hr' (fun A outer s H E hga hr2 => hbody A outer s H E f c' hga hr2) hNg hva hd hcd) hco (h H1 eN T1)
  refine wpAny_call (codeAny_mono rc fun r s2 hq => ?_)
  rcases r with e | fl
  · obtain ⟨_, _, _, _, _, _, _, _, _, _, _, _, z⟩ := hq
    exact z.elim
  · rcases fl with _ | _ | _ | u
    · exact False.elim hq
    · exact False.elim hq
    · exact False.elim hq
    · exact I1.after hq
end
/-- a def whose code object is known -/
def AtC (K : PySem.W.Frag) (mg : Str → Option Value) (x : Str) (st : Stmt) (c : Addr) : Prop :=
  ∃ (f : Addr) (oc : Value) (od : Option Addr) (kV doc pm : Value) (an : Option Addr) (ct : Value) (osl : Array (Option Value)),
    K.lookup f = some ⟨oc, od, .func (PySem.W.fnOf x x (defArgs st) (defBody st) (defScope st) .none kV doc pm an (.ref c) ct), osl⟩ ∧ PySem.W.codeIn K (.ref c) x = true ∧ PySem.W.keepIn K (.ref f) = true ∧ mg x = some (.ref f)
/-- where the code object and its table stand -/
def tabP (K : PySem.W.Frag) (x : Str) : Addr × Addr := (PySem.W.tabIn K x).getD (0, 0)
theorem tabP_eq {K : PySem.W.Frag} {x : Str} {p : Addr × Addr} (h : PySem.W.tabIn K x = some p) : tabP K x = p := by
  unfold tabP
  rw [h]
  rfl
section
variable {P : Program} {w : World} {K : PySem.W.Frag} {mg : Str → Option Value} {base : Heap} {k : Nat} {x : Str} {st : Stmt} {ps N : List Str} {sp : Sp} {c : Addr}
theorem AtC.ok (a : AtC K mg x st c) (S : FnScope N ps (defScope st)) (len : ∀ vs H Q E, sp vs H Q E → vs.length = ps.length)
    (hbody : ∀ (f : Addr) (A : Around) (outer : List Env) (s : Shared) (H : Hp) (vs : List V) (Q : VK) (E : XK),
      (A.deeper (envOfC x (defScope st) s.heap.objs.size f (.ref c))).guards = some [] → Room k (A.deeper (envOfC x (defScope st) s.heap.objs.size f (.ref c))) → sp vs H Q E →
      ∃ t, PSs (cxOf (CX P w) P w K mg base N x (defScope st) f (.ref c) A outer s H E) (defBody st) t ∧ t { nx := fun _ H' => Q .non H', rt := Q } (L2.start N vs) H) : Ok P w K mg base (k + 1) x st ps sp := by
  obtain ⟨f, oc, od, kV, doc, pm, an, ct, osl, lk, hcd, kp, hm⟩ := a
  refine ⟨⟨f, _, fun_mk lk hcd kp, hm, fun A outer s H args us vs Q E hg hr e0 hb r hsp => ?_⟩, len⟩
  exact run_ofS lk hcd S hr e0 hb r (len _ _ _ _ hsp) fun hr' => hbody f A outer s H vs Q E hg hr' hsp
end
end Vf
namespace Vf
open PySem PySem.Spec PyProof.Rows L2 LamX
/-! ## the law's own call where its defs make lambdas: cs are their code objects with the tables -/
section
variable {P : Program} {w : World} {K : PySem.W.Frag} {mg mb : Str → Option Value} {k : Nat} {fa a : Addr} {st : Stmt} {x y : Str} {sp : Sp} {s₁ : Shared} {vs : List Value} {ns : List Int} {cs : List (Addr × Addr)}
structure TabIn (cs : List (Addr × Addr)) (K : PySem.W.Frag) (mg : Str → Option Value) (h : Heap) : Prop where
  tab : ∀ p ∈ cs, h.get? p.2 = some { cls := .none, data := .fields #[] }
  non : ∀ p ∈ cs, K.lookup p.2 = none
  code : ∀ p ∈ cs, PySem.W.CodeHd h p.1 p.2
  bm : ∃ (bm : Addr) (ob : Obj), mg "__builtins__" = some (.ref bm) ∧ bm ≠ builtinsNs ∧ h.get? bm = some ob ∧ ob.cls = .type "module" ∧ ob.dict = some builtinsNs ∧ ob.data = .plain
theorem TabIn.at {h : Heap} (C : TabIn cs K mg h) {b : Addr} (hb : b ∈ cs.map (·.2)) : h.get? b = some { cls := .none, data := .fields #[] } := by
  obtain ⟨p, hp, rfl⟩ := List.mem_map.mp hb
  exact C.tab p hp
/-- what a heap that hides the tables and the script keeps of the tables -/
theorem TabIn.base {h : Heap} {H : Hp} (C : TabIn cs K mg h) (hns : h.Ns mainGlobals mg) (off : ∀ {b : Addr} {o : Obj}, h.get? b = some o → (∀ us n, o.data ≠ .seq us n) → o.data ≠ .fields #[] → H b = none) :
    ∀ p ∈ cs, TabB (hidT h H) mg p.1 p.2 := fun p hp => by
  have hT := C.tab p hp
  obtain ⟨oG, es, ep, eG, dG, rG⟩ := hns
  have nG : mainGlobals ≠ p.2 := fun z => by
    rw [z, hT] at eG
    cases eG
    cases dG
  refine ⟨?_, ?_, nG⟩
  · obtain ⟨o, us, file, tf, flags, tg, inF, text, tt, e1, r1, r2, r3, rest⟩ := C.code p hp
    refine ⟨o, us, file, tf, flags, tg, inF, text, tt, hidT_get e1 (off e1 (fun vs n z => ?_) fun z => ?_), r1, r2, r3, rest⟩
    · rw [r2] at z; cases z
    · rw [r2] at z; cases z; simp at r3
  · obtain ⟨bm, ob, b1, b2, b3, b4, b5, b6⟩ := C.bm
    have n1 : bm ≠ mainGlobals := fun z => by
      rw [z, eG] at b3
      cases b3
      rw [dG] at b6
      cases b6
    have n2 : bm ≠ p.2 := fun z => by
      rw [z, hT] at b3
      cases b3
      cases b6
    refine ⟨bm, ob, b1, b2, n1, n2, hidT_get b3 (off b3 (fun vs n z => ?_) fun z => ?_), b4, b5, b6⟩
    · rw [b6] at z; cases z
    · rw [b6] at z; cases z
theorem law_gT (KX : K.In s₁.heap) (hns : s₁.heap.Ns mainGlobals mg) (hb : s₁.heap.Ns builtinsNs mb) (hbb : ∀ z : Str, z ≠ "__name__" → mb z = bootBuiltins z)
    (hlim : s₁.heap.NoLimit) (hg : s₁.gens = #[]) (C : TabIn cs K mg s₁.heap) (ha : s₁.heap.get? a = some { cls := .type "list", data := .seq vs.toArray }) (hi : IntsAre vs ns) (hl : ns.length ≤ sizeLine)
    (hr : Room k callerA) (hfa : mg x = some (.ref fa)) (F : ∀ base : Heap, K.In base → base.Ns mainGlobals mg → (∀ p ∈ cs, TabB base mg p.1 p.2) → Ok P w K mg base k x st [y] sp)
    (B : ∀ f fd, L2.Fun K x x st f fd → L2.Binds K fd [y] [])
    (hsp : ∀ H : Hp, (∀ p ∈ cs, H p.2 = some (.tbl #[])) → SqL K H a (ns.map V.int) → sp [.ref a] H (fun v _ => v = .bl true) fun _ _ _ => False) :
    codeAny (model P w) callerA (.call (.ref fa) ⟨[.ref a], []⟩) (Told s₁) s₁ := by
  have rv := vals_ints hi
  have aT : a ∉ cs.map (·.2) := fun z => by
    have q := C.at z
    rw [ha] at q
    cases q
  -- over a heap that tracks the tables, and the script perhaps
  have run : ∀ H : Hp, (∀ p ∈ cs, H p.2 = some (.tbl #[])) → (∀ b, b ∉ cs.map (·.2) → b ≠ a → H b = none) → (H a = none ∨ (K.lookup a = none ∧ ∃ o xs, H a = some (.frz o (.lst xs)))) → SqL K H a (ns.map V.int) → HOk P w H s₁.heap →
      codeAny (model P w) callerA (.call (.ref fa) ⟨[.ref a], []⟩) (Told s₁) s₁ := by
    intro H hT hO hA hS hok
    have off : ∀ {b : Addr} {o : Obj}, s₁.heap.get? b = some o → (∀ us n, o.data ≠ .seq us n) → o.data ≠ .fields #[] → H b = none := by
      intro b o e h1 h2
      refine hO b (fun z => ?_) fun z => ?_
      · rw [C.at z] at e
        cases e
        exact h2 rfl
      · rw [z, ha] at e
        cases e
        exact h1 _ _ rfl
    have space : ∀ {b : Addr} {m : Str → Option Value}, s₁.heap.Ns b m → (hidT s₁.heap H).Ns b m := by
      rintro b m ⟨o, es, ep, e, d, rest⟩
      refine ⟨o, es, ep, hidT_get e (off e (fun us n z => ?_) fun z => ?_), d, rest⟩
      · rw [d] at z; cases z
      · rw [d] at z; cases z
    have kin : K.In (hidT s₁.heap H) := by
      intro b o e
      refine hidT_get (KX b o e) ?_
      by_cases z : b ∈ cs.map (·.2)
      · obtain ⟨p, hp, rfl⟩ := List.mem_map.mp z
        rw [C.non p hp] at e
        cases e
      · by_cases z2 : b = a
        · rcases hA with n | ⟨n, _⟩
          · rw [z2]; exact n
          · rw [z2, n] at e
            cases e
        · exact hO b z z2
    obtain ⟨mc, hc1, hc2⟩ := hlim
    have env : Env0 P w K mg (hidT s₁.heap H) callerA [] s₁ H :=
      { frames := rfl, mod := ⟨kin, space hns, ⟨mb, space hb, hbb⟩, ⟨mc, space hc1, hc2⟩⟩, bs := fun b o e => of_hidT e, bsz := Nat.le_of_eq (hidT_size _ _)
        funs := trivial, frf := fun b z => absurd (show b ∈ ([] : List Addr) from z) List.not_mem_nil, hok := hok, bare := .of_eq hg }
    obtain ⟨⟨f, fd, G, hm, go⟩, _⟩ := F _ kin (space hns) (C.base hns off)
    have ef : f = fa := by
      rw [hfa] at hm
      injection hm with hm
      injection hm with hm
      exact hm.symm
    subst ef
    have bind := B f fd G s₁ [.ref a] KX rfl
    rw [List.append_nil] at bind
    refine codeAny_mono (go callerA [] s₁ H ⟨[.ref a], []⟩ [.ref a] [.ref a] (fun v _ => v = .bl true) (fun _ _ _ => False) rfl hr env bind (.cons rfl .nil) (hsp H hT hS)) ?_
    intro r s' h
    rcases r with e | fl
    · obtain ⟨_, _, _, _, _, _, _, _, _, _, _, _, z⟩ := h
      exact z.elim
    · rcases fl with _ | _ | _ | u
      · exact False.elim h
      · exact False.elim h
      · exact False.elim h
      · obtain ⟨v, H', os, bare, un, hok', rr, q⟩ := h
        have q2 : v = .bl true := q
        subst q2
        have eu : u = Value.bool true := rr
        subst eu
        have same_ : ∀ b o, b ∉ cs.map (·.2) → s₁.heap.get? b = some o → s'.heap.get? b = some o := by
          intro b o nb e
          rcases hz : H b with _ | u
          · exact un.keep b o e hz (fun z => absurd (show b ∈ ([] : List Addr) from z) List.not_mem_nil) List.not_mem_nil
          · by_cases z : b = a
            · subst z
              rcases hA with n | ⟨_, ob, xs, n⟩
              · rw [hz] at n; cases n
              · have e1 := (hok b _ n).1
                have e2 := (hok' b _ (un.frzs b ob _ n)).1
                rw [e] at e1
                rw [e2, e1]
            · rw [hO b nb z] at hz
              cases hz
        have grown : ∀ b, b ∈ cs.map (·.2) → ∃ more : Array Value, s'.heap.get? b = some { cls := .none, data := .fields more } := by
          intro b hb
          obtain ⟨p, hp, rfl⟩ := List.mem_map.mp hb
          obtain ⟨more, z⟩ := un.tbls p.2 #[] (hT p hp)
          exact ⟨_, hok' p.2 _ z⟩
        refine ⟨rfl, ⟨fun b o e => ?_, fun b o e => ?_⟩, os, bare⟩
        · by_cases hb : b ∈ cs.map (·.2)
          · obtain ⟨more, hm⟩ := grown b hb
            rw [C.at hb] at e
            cases e
            obtain ⟨p, hp, rfl⟩ := List.mem_map.mp hb
            exact .inr (.inl ⟨((C.code p hp).tab (C.tab p hp)).isCodeTable, rfl, #[], more, rfl, by rw [Array.empty_append]; exact hm⟩)
          · exact .inl (same_ b o hb e)
        · by_cases hb : b ∈ cs.map (·.2)
          · obtain ⟨more, hm⟩ := grown b hb
            exact ⟨_, hm⟩
          · exact ⟨o, same_ b o hb e⟩
  let H0 : Hp := fun b => if b ∈ cs.map (·.2) then some (.tbl #[]) else none
  have at0 : ∀ b, b ∈ cs.map (·.2) → H0 b = some (.tbl #[]) := fun b h => if_pos h
  have no0 : ∀ b, b ∉ cs.map (·.2) → H0 b = none := fun b h => if_neg h
  have mem : ∀ p ∈ cs, p.2 ∈ cs.map (·.2) := fun p hp => List.mem_map.mpr ⟨p, hp, rfl⟩
  rcases hk : K.lookup a with _ | o
  · -- the script is tracked, locked
    let sc : Obj := { cls := .type "list", data := .seq vs.toArray }
    have atA : upd H0 a (.frz sc (.lst (ns.map V.int))) a = some (.frz sc (.lst (ns.map V.int))) := upd_same
    refine run (upd H0 a (.frz sc (.lst (ns.map V.int)))) (fun p hp => ?_) (fun b h1 h2 => by rw [upd_ne h2]; exact no0 b h1) (.inr ⟨hk, _, _, atA⟩) (Or.inl (Or.inr ⟨sc, atA⟩)) (fun b o e => ?_)
    · rw [upd_ne (fun z => aT (by rw [← z]; exact mem p hp))]
      exact at0 _ (mem p hp)
    · by_cases n : b = a
      · subst n
        rw [atA] at e
        injection e with e
        subst e
        exact ⟨ha, by rw [List.length_map]; exact hl, vs, _, rv, ha⟩
      · rw [upd_ne n] at e
        by_cases z : b ∈ cs.map (·.2)
        · rw [at0 b z] at e
          injection e with e
          subst e
          exact C.at z
        · rw [no0 b z] at e
          cases e
  · -- it is an object of the module
    have e := KX a o hk
    rw [ha] at e
    injection e with e
    subst e
    refine run H0 (fun p hp => at0 _ (mem p hp)) (fun b h1 _ => no0 b h1) (.inl (no0 a aT)) (Or.inr ⟨_, vs.toArray, _, hk, rfl, rfl, rfl, ?_, ?_⟩) (fun b u z => ?_)
    · rw [List.size_toArray, hi.length]; exact hl
    · simpa using rv
    · by_cases h : b ∈ cs.map (·.2)
      · rw [at0 b h] at z
        injection z with z
        subst z
        exact C.at h
      · rw [no0 b h] at z
        cases z
end
/-- the end of such a law: for each def that makes lambdas its code object and its table, read off the written part -/
theorem walk_gT {l : PySem.W.OpenLaw} {n k : Nat} {q : Program} {loose : List Str} {XP : (Str → Option Value) → Heap → Prop} {YP : World → Heap → Prop} {d : DefRec} {K : Params → PySem.W.Frag} {sp : PySem.W.Frag → List (Addr × Addr) → Sp} {y : Str} {st : Stmt}
    (cs : List (Str × DefRec × Addr × Addr))
    (hn : l.most = some n) (hn2 : n ≤ sizeLine) (hdf : d.params.defaults = []) (hr : Room k callerA) (hY : ∀ (w : World) (h : Heap), YP w h → (K w.params).In h)
    (hrec : ∀ c ∈ cs, (recsOf q).find? (fun e => e.name == c.1) = some c.2.1) (htab : ∀ w : World, ∀ c ∈ cs, PySem.W.tabIn (K w.params) c.1 = some c.2.2) (hnon : ∀ w : World, ∀ c ∈ cs, (K w.params).lookup c.2.2.2 = none)
    (F : ∀ (w : World) (mg : Str → Option Value) (h : Heap), (K w.params).In h → h.Ns mainGlobals mg → ∀ base : Heap, (K w.params).In base → base.Ns mainGlobals mg → (∀ c ∈ cs, TabB base mg c.2.2.1 c.2.2.2) →
      Ok l.prog w (K w.params) mg base k d.name st [y] (sp (K w.params) (cs.map (·.2.2))))
    (B : ∀ (w : World) f fd, L2.Fun (K w.params) d.name d.name st f fd → L2.Binds (K w.params) fd [y] [])
    (hsp : ∀ (w : World) (H : Hp) (a : Addr) (ns : List Int), ns.length ≤ n → (∀ z ∈ ns, Builtin.Int.intBits z ≤ 1048576) → (∀ c ∈ cs, H c.2.2.2 = some (.tbl #[])) → SqL (K w.params) H a (ns.map V.int) →
      sp (K w.params) (cs.map (·.2.2)) [.ref a] H (fun v _ => v = .bl true) fun _ _ _ => False) :
    PySem.W.WalkO q loose XP YP l.row.toRowW d [] (fun f vs => PySem.call f vs) := by
  refine Att.attach_callB hn hdf fun w s₀ s₁ mg mb fa o pm cd doc a vs ns G Y ho hd hcd hmg hobj hints hlen hbits hg => ?_
  have KX := hY w _ Y
  have C : TabIn (cs.map (·.2.2)) (K w.params) mg s₁.heap := by
    refine ⟨fun p hp => ?_, fun p hp => ?_, fun p hp => ?_, G.T.bmain⟩
    · obtain ⟨c, hc, rfl⟩ := List.mem_map.mp hp
      exact (PySem.W.tab_of G.T KX (hrec c hc) (htab w c hc)).2
    · obtain ⟨c, hc, rfl⟩ := List.mem_map.mp hp
      exact hnon w c hc
    · obtain ⟨c, hc, rfl⟩ := List.mem_map.mp hp
      exact (PySem.W.tab_of G.T KX (hrec c hc) (htab w c hc)).1
  refine law_gT KX G.T.g G.T.b G.T.builtins G.T.nolimit hg C hobj hints (Nat.le_trans hlen hn2) hr hmg (fun base kb gb tb => F w mg _ KX G.T.g base kb gb fun c hc => tb _ (List.mem_map.mpr ⟨c, hc, rfl⟩)) (B w) fun H hH hS => ?_
  exact hsp w H a ns hlen hbits (fun c hc => hH _ (List.mem_map.mpr ⟨c, hc, rfl⟩)) hS
end Vf
namespace Vf
open PySem PySem.Spec PyProof.Rows L2 LamX
theorem tabIn_of {K : PySem.W.Frag} {x qn : Str} {f c P : Addr} {oc oc2 dV kV doc pm ct : Value} {od od2 an : Option Addr} {sl sl2 : Array (Option Value)} {vs : Array Value} {ar : Arguments} {bd : List Stmt} {sc : Scope}
    (a : PySem.W.nsIn K mainGlobals x = some (some (.ref f))) (l : K.lookup f = some ⟨oc, od, .func (PySem.W.fnOf x qn ar bd sc dV kV doc pm an (.ref c) ct), sl⟩)
    (y : K.lookup c = some ⟨oc2, od2, .fields vs, sl2⟩) (z : (vs[11]? : Option Value) = some (.ref P)) : PySem.W.tabIn K x = some (c, P) := by
  unfold PySem.W.tabIn
  rw [a]
  dsimp only
  rw [l]
  dsimp only [PySem.W.fnOf]
  rw [y]
  dsimp only
  rw [z]
/-! ## a list or a tuple walked -/
def iSeq (K : PySem.W.Frag) (te : TE) : TI := fun σ H R => te σ H fun x H1 => ∃ a, x = .ref a ∧ (((∃ xs, SqL K H1 a xs) ∧ R (Itl K a) H1) ∨ ((∃ xs, SqT K H1 a xs) ∧ R (Itt K a) H1))
section
variable {X : Cx} {K : PySem.W.Frag} {tg l : Expr} {tl : TE}
theorem pi_seq (hl : PE X l tl) : PI X tg l (iSeq X.K tl) := by
  refine ⟨fun pins s σ H R I h => thn (hl.run pins s σ H _ I h) fun v s1 ⟨x, H1, I1, r1, a, e, q⟩ => ?_⟩
  subst e
  cases r1
  have fp : ∀ b ∈ [s1.heap.objs.size], FpOk X pins H1 b := fun b hb => by
    rw [List.mem_singleton.mp hb]
    exact I1.fpOk (Nat.le_refl _) (I1.hok.fresh (Nat.le_refl _))
  rcases q with ⟨⟨xs, hq⟩, q⟩ | ⟨⟨xs, hq⟩, q⟩
  · obtain ⟨its, rv, pl, _⟩ := I1.list hq
    exact wpAny_pyIter_list pl.isList ⟨_, [s1.heap.objs.size], _, _, H1, rfl, I1.kept (t' := s1.toks) fun b o e => Heap.get?_push_of_some _ e, turn_list a _, ⟨_, Heap.get?_push_size _ rfl, rfl, rfl⟩, fp, q⟩
  · obtain ⟨its, rv, pt, _⟩ := I1.tuple hq
    exact wpAny_pyIter_tuple (show s1.heap.IsTuple a its.toArray from pt) ⟨_, [s1.heap.objs.size], _, _, H1, rfl, I1.kept (t' := s1.toks) fun b o e => Heap.get?_push_of_some _ e, turn_tuple a _, ⟨_, Heap.get?_push_size _ rfl, rfl, rfl⟩, fp, q⟩
theorem i_seq (e : X.K = K) (hl : PE X l tl) : PI X tg l (iSeq K tl) := by subst e; exact pi_seq hl
end
section
variable {K : PySem.W.Frag} {σ : L2.St} {H : Hp} {D : Ends} {g : TG} {tb : TS} {te tl : TE} {tt : TT} {vs : List Nat} {Q : VK}
theorem r_forQ (h : tl σ H fun x H1 => ∃ a, x = .ref a ∧ (((∃ xs, SqL K H1 a xs) ∧ tFor (fun _ H2 R => R (Itl K a) H2) g tb D σ H1) ∨ ((∃ xs, SqT K H1 a xs) ∧ tFor (fun _ H2 R => R (Itt K a) H2) g tb D σ H1))) : tFor (iSeq K tl) g tb D σ H := h
theorem r_lcQ (h : tl σ H fun x H1 => ∃ a, x = .ref a ∧ (((∃ xs, SqL K H1 a xs) ∧ tLc (fun _ H2 R => R (Itl K a) H2) g tt te vs σ H1 Q) ∨ ((∃ xs, SqT K H1 a xs) ∧ tLc (fun _ H2 R => R (Itt K a) H2) g tt te vs σ H1 Q))) : tLc (iSeq K tl) g tt te vs σ H Q := h
end
/-- a list or a tuple stands at a -/
def Sq (K : PySem.W.Frag) (H : Hp) (a : Addr) (xs : List V) : Prop := SqL K H a xs ∨ SqT K H a xs
theorem Sq.same {K : PySem.W.Frag} {H H' : Hp} {a : Addr} {xs : List V} (h : Sq K H a xs) (s : Same H H') : Sq K H' a xs := by
  rcases h with h | h
  · exact .inl (Same.list s h)
  · exact .inr (Same.tup s h)
section
variable {K : PySem.W.Frag} {σ : L2.St} {H : Hp} {D : Ends} {g : TG} {tb : TS} {te tl : TE} {tt : TT} {vs : List Nat} {Q : VK} {a : Addr}
theorem r_forQs (xs : List V) (hq : Sq K H a xs) (Pv : Nat → L2.St → Hp → Prop) (h0 : Pv 0 σ H) (hl : ∀ i σ H', i ≤ xs.length → Pv i σ H' → Same H H')
    (hs : ∀ i x σ H', xs[i]? = some x → Pv i σ H' → g x σ H' fun σ2 H2 => tb { D with nx := Pv (i + 1), ct := Pv (i + 1), bk := D.nx } σ2 H2) (hd : ∀ σ H', Pv xs.length σ H' → D.nx σ H') :
    ((∃ xs, SqL K H a xs) ∧ tFor (fun _ H2 R => R (Itl K a) H2) g tb D σ H) ∨ ((∃ xs, SqT K H a xs) ∧ tFor (fun _ H2 R => R (Itt K a) H2) g tb D σ H) := by
  rcases hq with hq | hq
  · exact .inl ⟨⟨_, hq⟩, r_forLs xs Pv h0 (fun i σ H' hi p => Same.list (hl i σ H' hi p) hq) hs hd⟩
  · exact .inr ⟨⟨_, hq⟩, r_forTs xs Pv h0 (fun i σ H' hi p => Same.tup (hl i σ H' hi p) hq) hs hd⟩
theorem r_lcQs (xs : List V) (hq : Sq K H a xs) (Pv : Addr → Nat → Hp → Prop) (h0 : ∀ D, H D = none → Pv D 0 (upd H D (.lst []))) (hl : ∀ D i H', H D = none → i ≤ xs.length → Pv D i H' → Same H H')
    (hs : ∀ D i x H', H D = none → xs[i]? = some x → Pv D i H' → g x (wipe σ vs) H' fun σ2 H2 => wipe σ2 vs = wipe σ vs ∧ tt σ2 H2 fun b H3 =>
      if b = true then te σ2 H3 fun y H4 => ∃ acc, H4 D = some (.lst acc) ∧ acc.length < sizeLine ∧ Pv D (i + 1) (upd H4 D (.lst (acc ++ [y]))) else Pv D (i + 1) H3)
    (hd : ∀ D H', H D = none → Pv D xs.length H' → Q (.ref D) H') :
    ((∃ xs, SqL K H a xs) ∧ tLc (fun _ H2 R => R (Itl K a) H2) g tt te vs σ H Q) ∨ ((∃ xs, SqT K H a xs) ∧ tLc (fun _ H2 R => R (Itt K a) H2) g tt te vs σ H Q) := by
  rcases hq with hq | hq
  · exact .inl ⟨⟨_, hq⟩, r_lcLs xs Pv h0 (fun D i H' hD hi p => Same.list (hl D i H' hD hi p) hq) hs hd⟩
  · exact .inr ⟨⟨_, hq⟩, r_lcTs xs Pv h0 (fun D i H' hD hi p => Same.tup (hl D i H' hD hi p) hq) hs hd⟩
end
/-- where the lambdas of a def bear their name -/
def lamQ (x : Str) : Str := x ++ ".<locals>." ++ "<lambda>"
end Vf

namespace Vf
open PySem PySem.Spec PyProof.Rows L2 LamX
/-- the end of a law in which one def, x, makes lambdas -/
theorem walk_gT1 {l : PySem.W.OpenLaw} {n k : Nat} {q : Program} {loose : List Str} {XP : (Str → Option Value) → Heap → Prop} {YP : World → Heap → Prop} {d : DefRec} {K : Params → PySem.W.Frag} {sp : PySem.W.Frag → List (Addr × Addr) → Sp} {y : Str} {st : Stmt}
    {x : Str} {c P : Addr}
    (hn : l.most = some n) (hn2 : n ≤ sizeLine) (hdf : d.params.defaults = []) (hr : Room k callerA) (hY : ∀ (w : World) (h : Heap), YP w h → (K w.params).In h)
    (hrec : ((recsOf q).find? (fun e => e.name == x)).isSome = true) (htab : ∀ w : World, PySem.W.tabIn (K w.params) x = some (c, P)) (hnon : ∀ w : World, (K w.params).lookup P = none)
    (F : ∀ (w : World) (mg : Str → Option Value) (h : Heap), (K w.params).In h → h.Ns mainGlobals mg → ∀ base : Heap, (K w.params).In base → base.Ns mainGlobals mg → TabB base mg (tabP (K w.params) x).1 (tabP (K w.params) x).2 →
      Ok l.prog w (K w.params) mg base k d.name st [y] (sp (K w.params) [tabP (K w.params) x]))
    (B : ∀ (w : World) f fd, L2.Fun (K w.params) d.name d.name st f fd → L2.Binds (K w.params) fd [y] [])
    (hsp : ∀ (w : World) (H : Hp) (a : Addr) (ns : List Int), ns.length ≤ n → (∀ z ∈ ns, Builtin.Int.intBits z ≤ 1048576) → H (tabP (K w.params) x).2 = some (.tbl #[]) → SqL (K w.params) H a (ns.map V.int) →
      sp (K w.params) [tabP (K w.params) x] [.ref a] H (fun v _ => v = .bl true) fun _ _ _ => False) :
    PySem.W.WalkO q loose XP YP l.row.toRowW d [] (fun f vs => PySem.call f vs) := by
  obtain ⟨r, hr2⟩ := Option.isSome_iff_exists.mp hrec
  refine walk_gT (sp := sp) [(x, r, c, P)] hn hn2 hdf hr hY (fun z hz => ?_) (fun w z hz => ?_) (fun w z hz => ?_) (fun w mg h KX G base kb gb tb => ?_) B (fun w H a ns h1 h2 h3 h4 => ?_)
  · rw [List.mem_singleton.mp hz]; exact hr2
  · rw [List.mem_singleton.mp hz]; exact htab w
  · rw [List.mem_singleton.mp hz]; exact hnon w
  · have e := tabP_eq (htab w)
    have z := F w mg h KX G base kb gb (by rw [e]; exact tb _ (List.mem_singleton.mpr rfl))
    rw [e] at z
    exact z
  · have e := tabP_eq (htab w)
    have z := hsp w H a ns h1 h2 (by rw [e]; exact h3 _ (List.mem_singleton.mpr rfl)) h4
    rw [e] at z
    exact z
end Vf

namespace Vf
open PySem PySem.Spec PyProof.Rows L2
/-! ## list(zip(t, u)) of two tuples -/
theorem zip_len0 : typeLookup (.type "zip") "__len__" = pure none := am_miss_of_fast (by decide +kernel)
theorem zip_hint0 : typeLookup (.type "zip") "__length_hint__" = pure none := am_miss_of_fast (by decide +kernel)
/-- the pairs laid so far, all above S -/
structure PrsL (S : Nat) (xs ys : List Value) (h : Heap) (ad : List Nat) : Prop where
  inc : ad.Pairwise (· < ·)
  big : ∀ p : Nat, p ∈ ad → S < p
  prs : ∀ (j : Nat) (p : Nat), ad[j]? = some p → ∃ x y, xs[j]? = some x ∧ ys[j]? = some y ∧ IsPair h p x y
theorem PrsL.lt {S : Nat} {xs ys : List Value} {h : Heap} {ad : List Nat} (g : PrsL S xs ys h ad) {p : Nat} (hp : p ∈ ad) : p < h.objs.size := by
  obtain ⟨j, hj⟩ := List.mem_iff_getElem?.mp hp
  obtain ⟨x, y, _, _, e⟩ := g.prs j p hj
  exact Heap.lt_size e
theorem PrsL.stay {S : Nat} {xs ys : List Value} {h h' : Heap} {ad : List Nat} (g : PrsL S xs ys h ad) (k : ∀ (c : Nat) o, S < c → h.get? c = some o → h'.get? c = some o) : PrsL S xs ys h' ad :=
  ⟨g.inc, g.big, fun j p hj => by
    obtain ⟨x, y, e1, e2, e3⟩ := g.prs j p hj
    exact ⟨x, y, e1, e2, k _ _ (g.big p (List.mem_of_getElem? hj)) e3⟩⟩
theorem PrsL.snoc {S : Nat} {xs ys : List Value} {h : Heap} {ad : List Nat} {x y : Value} {q : Nat} (g : PrsL S xs ys h ad) (ex : xs[ad.length]? = some x) (ey : ys[ad.length]? = some y) (e : IsPair h q x y) (l1 : S < q) (l2 : ∀ p : Nat, p ∈ ad → p < q) : PrsL S xs ys h (ad ++ [q]) := by
  refine ⟨List.pairwise_append.mpr ⟨g.inc, List.pairwise_singleton _ _, fun a ha b hb => ?_⟩, fun p hp => ?_, fun j p hj => ?_⟩
  · rw [List.mem_singleton.mp hb]
    exact l2 a ha
  · rcases List.mem_append.mp hp with hp | hp
    · exact g.big p hp
    · rw [List.mem_singleton.mp hp]
      exact l1
  · by_cases c : j < ad.length
    · rw [List.getElem?_append_left c] at hj
      exact g.prs j p hj
    · by_cases c2 : j = ad.length
      · subst c2
        have z : q = p := by simpa using hj
        subst z
        exact ⟨x, y, ex, ey, e⟩
      · have z : (ad ++ [q])[j]? = none := List.getElem?_eq_none (by rw [List.length_append, List.length_singleton]; omega)
        rw [z] at hj
        cases hj
abbrev lsO (acc : Array Value) (c : Nat) : Obj := { cls := .type "list", dict := none, data := .seq acc c, slots := #[] }
section
variable {prog : Program} {w : World} {A : Around} {s : Shared} {R : Result → Shared → Prop} {u TI TO i1 i2 a b S : Nat} {xs ys : List Value}
theorem ZTn.stay {i : Nat} {h h' : Heap} (st : ZTn u TI TO i1 i2 a b i h) (k : ∀ (c : Nat) o, (c = u ∨ c = TI ∨ c = TO ∨ c = i1 ∨ c = i2) → h.get? c = some o → h'.get? c = some o) : ZTn u TI TO i1 i2 a b i h' := by
  obtain ⟨⟨f0, f1, p0, p1, zz⟩, ti, ⟨x, y, to⟩, h1, h2⟩ := st
  exact ⟨⟨f0, f1, p0, p1, k u _ (by simp) zz⟩, k TI _ (by simp) ti, ⟨x, y, k TO _ (by simp) to⟩, h1.at fun o q => k i1 o (by simp) q, h2.at fun o q => k i2 o (by simp) q⟩
theorem zl_loop (hh : A.handled = none) (D : ZipApart u TI TO i1 i2 a b) (lu : u < S) (lI : TI < S) (lO : TO < S) (l1 : i1 < S) (l2 : i2 < S) (la : a < S) (lb : b < S) (res : Value) {h₁ : Heap} {n : Nat} (en : n = min xs.length ys.length) (hn : n ≤ sizeLine)
    (hR : ∀ h' tk acc c ad, (∀ (d : Nat) o, d < S → d ≠ u → d ≠ TO → d ≠ i1 → d ≠ i2 → h₁.get? d = some o → h'.get? d = some o) → h'.get? S = some (lsO acc c) → ad.length = n → PrsL S xs ys h' ad → acc.toList = ad.map Value.ref → R (.ok (.ret res)) { s with heap := h', toks := tk }) :
    ∀ (k i : Nat) (h : Heap) (tk c : Nat) (acc : Array Value) (ad : List Nat), n - i = k → i ≤ n → ZTn u TI TO i1 i2 a b i h → h.IsTuple a xs.toArray → h.IsTuple b ys.toArray → (∀ (d : Nat) o, d < S → d ≠ u → d ≠ TO → d ≠ i1 → d ≠ i2 → h₁.get? d = some o → h.get? d = some o) →
      h.get? S = some (lsO acc c) → acc.toList = ad.map Value.ref → ad.length = i → PrsL S xs ys h ad → codeAny (model prog w) A (.builtin "list.extend.loop" ⟨[.ref S, .ref u, res], []⟩) R { s with heap := h, toks := tk } := by
  have hne : ∀ d : Nat, S ≤ d → d ≠ u ∧ d ≠ TO ∧ d ≠ i1 ∧ d ≠ i2 := fun d h => ⟨Nat.ne_of_gt (Nat.lt_of_lt_of_le lu h), Nat.ne_of_gt (Nat.lt_of_lt_of_le lO h), Nat.ne_of_gt (Nat.lt_of_lt_of_le l1 h), Nat.ne_of_gt (Nat.lt_of_lt_of_le l2 h)⟩
  have aS := hne S (Nat.le_refl _)
  intro k
  induction k with
  | zero =>
    intro i h tk c acc ad hk hi st ta tb kp hS ha hl G
    have hin : i = n := by omega
    obtain ⟨⟨f0, f1, p0, p1, zz⟩, ti, ⟨x0, y0, to⟩, t1, t2⟩ := st
    have no : xs.toArray[i]? = none ∨ ys.toArray[i]? = none := by
      by_cases c : xs.length ≤ ys.length
      · exact .inl (by simp; omega)
      · exact .inr (by simp; omega)
    refine codeAny_builtin PySem.F.entry_extend_loop ?_
    rw [Around.under_plainId PySem.F.plain_extend_loop _]
    show wpAny _ _ (pyNext (.ref u) >>= _) _ _ _
    refine wpAny_bind (zp_end (s := { s with heap := h, toks := tk }) (A := A.in1) hh D p0 p1 zz ti to t1 t2 ta tb no fun h' ze => wpAny_pure ?_)
    exact hR h' tk acc c ad (fun d o c0 c1 c2 c3 c4 e => ze d o c1 c2 c3 c4 (kp d o c0 c1 c2 c3 c4 e)) (ze S _ aS.1 aS.2.1 aS.2.2.1 aS.2.2.2 hS) (by omega) (G.stay fun d o ld e => let z := hne d (Nat.le_of_lt ld); ze d o z.1 z.2.1 z.2.2.1 z.2.2.2 e) ha
  | succ k ih =>
    intro i h tk c acc ad hk hi st ta tb kp hS ha hl G
    obtain ⟨⟨f0, f1, p0, p1, zz⟩, ti, ⟨x0, y0, to⟩, t1, t2⟩ := st
    have ix : i < xs.length := by omega
    have iy : i < ys.length := by omega
    have sz : acc.size = i := by rw [← Array.length_toList, ha, List.length_map, hl]
    refine codeAny_builtin PySem.F.entry_extend_loop ?_
    rw [Around.under_plainId PySem.F.plain_extend_loop _]
    show wpAny _ _ (pyNext (.ref u) >>= _) _ _ _
    refine wpAny_bind (zp_item (s := { s with heap := h, toks := tk }) (x := xs[i]) (y := ys[i]) D p0 p1 zz ti to t1 t2 ta tb (by simp [ix]) (by simp [iy]) fun h' zn => ?_)
    obtain ⟨z', ⟨tx, ty, to'⟩, n1, n2, np, sz', kp'⟩ := zn
    dsimp only at np sz' kp' ⊢
    have lS : S < h.objs.size := Heap.lt_size hS
    have hS' := kp' S _ aS.1 aS.2.1 aS.2.2.1 aS.2.2.2 hS
    have up : ∀ (d : Nat) o, d ≠ S → h'.get? d = some o → (h'.update S (Obj.mapSeq (·.push (Value.ref h.objs.size)))).get? d = some o := fun d o ne e => (Heap.get?_update_other _ _ (Ne.symm ne)).trans e
    show wpAny _ _ (updateSeq S (·.push (Value.ref h.objs.size)) >>= _) _ _ _
    refine wpAny_bind (wpAny_updateSeq hS' rfl (wpAny_pure ⟨plainId_quiet PySem.F.plain_extend_loop _, ?_⟩) (by rw [sz]; omega) (by show (acc.push (Value.ref h.objs.size)).size ≤ sizeLine + 1; rw [Array.size_push, sz]; omega))
    refine ih (i + 1) _ tk _ (acc.push (Value.ref h.objs.size)) (ad ++ [h.objs.size]) (by omega) (by omega) ?_ ?_ ?_ (fun d o c0 c1 c2 c3 c4 e => up d o (Nat.ne_of_lt c0) (kp' d o c1 c2 c3 c4 (kp d o c0 c1 c2 c3 c4 e))) (Heap.get?_update_self _ hS' rfl) (by rw [Array.toList_push, ha, List.map_append]; rfl) (by rw [List.length_append, hl]; rfl) ?_
    · exact ZTn.stay ⟨z', kp' TI _ D.TIz D.TITO D.TIi1 D.TIi2 ti, ⟨tx, ty, to'⟩, n1, n2⟩ fun d o c e => up d o (by rcases c with c | c | c | c | c <;> (subst c; exact Nat.ne_of_lt (by assumption))) e
    · exact (ta.at fun o e => up a o (Nat.ne_of_lt la) (kp' a o D.l1z D.l1TO D.l1i1 D.l1i2 e))
    · exact (tb.at fun o e => up b o (Nat.ne_of_lt lb) (kp' b o D.l2z D.l2TO D.l2i1 D.l2i2 e))
    · exact ((G.stay fun d o ld e => let z := hne d (Nat.le_of_lt ld); kp' d o z.1 z.2.1 z.2.2.1 z.2.2.2 e).stay fun d o ld e => up d o (Nat.ne_of_gt ld) e).snoc (by rw [hl]; simp [ix]) (by rw [hl]; simp [iy]) (up _ _ (Nat.ne_of_gt lS) np) lS fun p hp => G.lt hp
theorem zl_call {E : Value → Shared → Prop} {Q : Value → Shared → Prop} (hh : A.handled = none) (D : ZipApart u TI TO i1 i2 a b) {i : Nat} (e0 : i = 0) (st : ZTn u TI TO i1 i2 a b i s.heap) (ta : s.heap.IsTuple a xs.toArray) (tb : s.heap.IsTuple b ys.toArray) (hn : min xs.length ys.length ≤ sizeLine)
    (hQ : ∀ h' tk acc c ad, (∀ (d : Nat) o, d ≠ u → d ≠ TO → d ≠ i1 → d ≠ i2 → s.heap.get? d = some o → h'.get? d = some o) → h'.get? s.heap.objs.size = some (lsO acc c) → ad.length = min xs.length ys.length → PrsL s.heap.objs.size xs ys h' ad → acc.toList = ad.map Value.ref → Q (.ref s.heap.objs.size) { s with heap := h', toks := tk }) :
    wpAny (model prog w) A (call (.type "list") [.ref u]) Q E s := by
  subst e0
  obtain ⟨⟨f0, f1, p0, p1, zz⟩, ti, ⟨x0, y0, to⟩, t1, t2⟩ := id st
  generalize eS : s.heap.objs.size = S at *
  have lu : u < S := eS ▸ Heap.lt_size zz
  have lI : TI < S := eS ▸ Heap.lt_size ti
  have lO : TO < S := eS ▸ Heap.lt_size to
  have k1 : i1 < S := by
    obtain ⟨_, q, _⟩ := t1
    exact eS ▸ Heap.lt_size q
  have k2 : i2 < S := by
    obtain ⟨_, q, _⟩ := t2
    exact eS ▸ Heap.lt_size q
  have la : a < S := by
    obtain ⟨_, q, _⟩ := ta
    exact eS ▸ Heap.lt_size q
  have lb : b < S := by
    obtain ⟨_, q, _⟩ := tb
    exact eS ▸ Heap.lt_size q
  refine callType_codes (Q₁ := fun obj s1 => obj = .ref S ∧ s1 = { s with heap := s.heap.push (lsO #[] 0) }) PySem.F.called_list (PySem.F.typeCall_list_1 _) PySem.F.entry_list_init (by rw [← eS]; exact code_list_new _ ⟨rfl, rfl⟩) fun obj s1 g1 => ?_
  obtain ⟨rfl, rfl⟩ := g1
  have hS : (s.heap.push (lsO #[] 0)).get? S = some (lsO #[] 0) := eS ▸ Heap.get?_push_size _ rfl
  refine ⟨⟨_, hS, rfl⟩, PySem.F.args_list_init_2 _ _, ?_⟩
  show wpAny _ _ (do let old ← Builtin.List.listItems (.ref S); Builtin.List.listUpdate (.ref S) (fun _ => #[]); letGo old.toList.reverse; Builtin.List.listExtendWith (.ref S) (.ref u) .none) _ _ _
  refine wpAny_bind ?_
  unfold Builtin.List.listItems
  refine wpAny_bind (wpAny_seqItems hS rfl (wpAny_pure ?_))
  show wpAny _ _ (updateSeq S (fun _ => #[]) >>= fun _ => letGo (#[] : Array Value).toList.reverse >>= fun _ => Builtin.List.listExtendWith (.ref S) (.ref u) .none) _ _ _
  refine wpAny_bind (wpAny_updateSeq hS rfl ?_)
  have hS2 := Heap.get?_update_self (Obj.mapSeq (fun _ => (#[] : Array Value))) hS rfl
  refine wpAny_bind (wpAny_letGo ?_)
  unfold Builtin.List.listExtendWith
  have up : ∀ (h : Heap) (f : Obj → Obj), (∀ (d : Nat) o, s.heap.get? d = some o → h.get? d = some o) → ∀ (d : Nat) o, s.heap.get? d = some o → (h.update S f).get? d = some o := fun h f q d o e =>
    (Heap.get?_update_other _ _ (Ne.symm (Nat.ne_of_lt (eS ▸ Heap.lt_size e)))).trans (q d o e)
  have g1 : ∀ (d : Nat) o, s.heap.get? d = some o → (s.heap.push (lsO #[] 0)).get? d = some o := fun d o e => Heap.get?_push_of_some _ e
  have g2 := up _ (Obj.mapSeq (fun _ => (#[] : Array Value))) g1
  have ty : ∀ {s' : Shared}, (∀ (d : Nat) o, s.heap.get? d = some o → s'.heap.get? d = some o) → s'.TypeIs (.ref u) "zip" := fun q => ⟨_, q _ _ zz, rfl⟩
  refine wpAny_bind (wpAny_typeOf (ty g2) ?_)
  have n1 : Builtin.List.listSameRef (.ref S) (.ref u) = false := by simp only [Builtin.List.listSameRef]; exact beq_false_of_ne (Nat.ne_of_gt lu)
  have n2 : (Value.type "zip" == Value.type "list") = false := by decide
  have n3 : (Value.type "zip" == Value.type "tuple") = false := by decide
  simp only [n1, n2, n3, Bool.or_false, Bool.false_eq_true, if_false]
  refine wpAny_bind (z_iter (f0 := f0) (f1 := f1) (TI := TI) (TO := TO) (g2 _ _ zz) ?_)
  refine wpAny_bind (wpAny_holding ?_)
  unfold Builtin.List.listLengthHint
  refine wpAny_bind (wpAny_specialOf (ty g2) zip_len0 ?_)
  show wpAny _ _ (specialOf (Value.ref u) (Str.ofString "__length_hint__") >>= _) _ _ _
  refine wpAny_bind (wpAny_specialOf (ty g2) zip_hint0 ?_)
  refine wpAny_pure ?_
  show wpAny _ _ (rule "list.extend.makes-room" >>= fun _ => Builtin.List.listTouch (.ref S) >>= fun _ => again (.builtin "list.extend.loop" ⟨[.ref S, .ref u, .none], []⟩)) _ _ _
  refine wpAny_bind (wpAny_rule ?_)
  refine wpAny_bind ?_
  show wpAny _ _ (updateSeq S (·.push .none) >>= fun _ => updateSeq S (·.pop)) _ _ _
  refine wpAny_bind (wpAny_updateSeq hS2 rfl ?_)
  have hS3 := Heap.get?_update_self (Obj.mapSeq (·.push Value.none)) hS2 rfl
  refine wpAny_updateSeq (hz := by seq_fits) hS3 rfl ?_
  have hS4 := Heap.get?_update_self (Obj.mapSeq (·.pop)) hS3 rfl
  have g4 := up _ (Obj.mapSeq (·.pop)) (up _ (Obj.mapSeq (·.push Value.none)) g2)
  refine wpAny_pure ⟨plainId_quiet PySem.F.plain_extend_loop _, ?_⟩
  refine zl_loop (s := s) (h₁ := s.heap) (A := A.in1) hh D lu lI lO k1 k2 la lb .none rfl hn (fun h' tk acc c ad kp e1 e2 e3 e4 => ⟨rfl, hQ h' tk acc c ad (fun d o c1 c2 c3 c4 e => kp d o (eS ▸ Heap.lt_size e) c1 c2 c3 c4 e) e1 e2 e3 e4⟩)
    _ 0 _ _ _ #[] [] rfl (Nat.zero_le _) (ZTn.stay st fun d o _ e => g4 d o e) (ta.at fun o e => g4 a o e) (tb.at fun o e => g4 b o e) (fun d o _ _ _ _ _ e => g4 d o e) hS4 rfl rfl ⟨List.Pairwise.nil, (fun _ z => nomatch z), (fun j p z => by simp at z)⟩
end
section
variable {X : Cx} {pins : List (Addr × Obj)} {σ : L2.St} {H H' : Hp} {s : Shared} {h' : Heap}
/-- several new objects are laid at once -/
theorem laidN {t' : Nat} (I : Inv X pins σ H s) (k : ∀ b o, s.heap.get? b = some o → h'.get? b = some o) (old : ∀ b, b < s.heap.objs.size → H' b = H b)
    (new : ∀ b u, s.heap.objs.size ≤ b → H' b = some u → ObjOk X.prog X.w H' h' b u) : Inv X pins σ H' { s with heap := h', toks := t' } := by
  have same : ∀ b u, H b = some u → H' b = some u := fun b u e => (old b (I.hok.lt e)).trans e
  refine I.step (g' := s.gens) (d' := s.drawn) (ch := []) (fun b hb => nomatch hb) (fun b o _ _ _ e _ => k b o e) (fun b o _ _ _ e _ => ⟨o.slots, k b o e⟩)
    (fun b o _ e n => (old b (Heap.lt_size e)).trans n) (fun b o _ e => ⟨o, k b o e⟩) (fun b _ e => same b _ e) (fun b _ _ e => same b _ e) (fun b ps e => ⟨#[], by rw [same b _ e]; simp⟩) (fun m hm => ?_) (fun b u e => ?_) I.bare
  · obtain ⟨o, es, ep, ho, r⟩ := hm
    exact ⟨o, es, ep, k _ o ho, r⟩
  · by_cases c : b < s.heap.objs.size
    · rw [old b c] at e
      exact (I.hok b u e).stay (fun d v _ q => k d v q) (fun d q => same d _ q) fun d _ q => same d _ q
    · exact new b u (Nat.le_of_not_lt c) e
end
end Vf
namespace Vf
open PySem PySem.Spec PyProof.Rows L2
/-- what lies at the pairs' places -/
def tblP (ad : List Nat) (xs ys : List V) (q : Nat) : Option HO := ((ad.zip (xs.zip ys)).find? fun e => e.1 == q).map fun e => HO.tup [e.2.1, e.2.2]
theorem tblP_some {ad : List Nat} {xs ys : List V} {q : Nat} {o : HO} (h : tblP ad xs ys q = some o) : ∃ (j : Nat) (x y : V), ad[j]? = some q ∧ xs[j]? = some x ∧ ys[j]? = some y ∧ o = .tup [x, y] := by
  unfold tblP at h
  obtain ⟨e, he, rfl⟩ := Option.map_eq_some_iff.mp h
  have h1 := List.find?_some he
  have h2 := List.mem_of_find?_eq_some he
  obtain ⟨j, hj⟩ := List.mem_iff_getElem?.mp h2
  obtain ⟨p, x, y⟩ := e
  obtain ⟨e1, e2⟩ := List.getElem?_zip_eq_some.mp hj
  obtain ⟨e3, e4⟩ := List.getElem?_zip_eq_some.mp e2
  have z : p = q := by simpa using h1
  subst z
  exact ⟨j, x, y, e1, e3, e4, rfl⟩
theorem tblP_at {ad : List Nat} {xs ys : List V} (inc : ad.Pairwise (· < ·)) {j : Nat} {p : Nat} {x y : V} (e1 : ad[j]? = some p) (e2 : xs[j]? = some x) (e3 : ys[j]? = some y) : tblP ad xs ys p = some (.tup [x, y]) := by
  cases h : tblP ad xs ys p with
  | none =>
    exfalso
    unfold tblP at h
    have h1 := Option.map_eq_none_iff.mp h
    have h2 := List.find?_eq_none.mp h1 (p, x, y) (List.mem_of_getElem? (i := j) (List.getElem?_zip_eq_some.mpr ⟨e1, List.getElem?_zip_eq_some.mpr ⟨e2, e3⟩⟩))
    simp at h2
  | some o =>
    obtain ⟨i, x', y', a1, a2, a3, rfl⟩ := tblP_some h
    have ij : i = j := by
      rw [List.pairwise_iff_getElem] at inc
      obtain ⟨li, gi⟩ := List.getElem?_eq_some_iff.mp a1
      obtain ⟨lj, gj⟩ := List.getElem?_eq_some_iff.mp e1
      rcases Nat.lt_trichotomy i j with c | c | c
      · have := inc i j li lj c
        rw [gi, gj] at this
        exact absurd this (Nat.lt_irrefl _)
      · exact c
      · have := inc j i lj li c
        rw [gi, gj] at this
        exact absurd this (Nat.lt_irrefl _)
    subst ij
    rw [a2] at e2
    rw [a3] at e3
    cases e2
    cases e3
    rfl
def lzH (H : Hp) (sz l : Nat) (ad : List Nat) (xs ys : List V) : Hp := fun q => if q < sz then H q else if q = l then some (.lst (ad.map V.ref)) else tblP ad xs ys q
/-- list(zip(t, u)) -/
def tListZip (K : PySem.W.Frag) (ta : TA) : TE := fun σ H Q => ta σ H fun vs H1 => ∃ a b xs ys, vs = [.ref a, .ref b] ∧ SqT K H1 a xs ∧ SqT K H1 b ys ∧
  ∀ (l : Nat) (ad : List Nat) H2, Same H1 H2 → H1 l = none → H2 l = some (.lst (ad.map V.ref)) → ad.length = min xs.length ys.length → (∀ (j : Nat) (p : Nat) (x y : V), ad[j]? = some p → xs[j]? = some x → ys[j]? = some y → H1 p = none ∧ H2 p = some (.tup [x, y])) → Q (.ref l) H2
theorem Vals_refs : ∀ ad : List Nat, Vals (ad.map V.ref) (ad.map Value.ref)
  | [] => .nil
  | a :: ad => .cons rfl (Vals_refs ad)
theorem pe_listZip {X : Cx} {K : PySem.W.Frag} {e e2 : Expr} {ta : TA} {p p2 pos2 pos : Pos} (ek : X.K = K) (hc : X.calm = true) (hg : Gl X "zip") (hm : X.mg "zip" = none) (hg2 : Gl X "list") (hm2 : X.mg "list" = none) (ha : PA X [e, e2] ta)
    (hs : starEach [e, e2] X.env = (false, eval e X.env) :: starEach [e2] X.env := by rfl) (hp : (backTo pos2 (starEach [e2] X.env)).any (·.1) = false := by rfl)
    (na : starEach [.Call (.Name "zip" p2) [e, e2] [] pos2] X.env = (false, eval (.Call (.Name "zip" p2) [e, e2] [] pos2) X.env) :: starEach [] X.env := by rfl) :
    PE X (.Call (.Name "list" p) [.Call (.Name "zip" p2) [e, e2] [] pos2] [] pos) (tListZip K ta) := by
  subst ek
  refine ⟨fun pins s σ H Q I h => ?_⟩
  refine Call_ (ld_blt I hg2 hm2 PyProof.Rows.boot_list ?_)
  refine PyProof.Rows.callWith_type1 (PyProof.Rows.args_cons ?_ na) na rfl
  refine Call_ (ld_blt I hg hm PyProof.Rows.boot_zip (PyProof.Rows.callWith_type1 (thn (ha.run pos2 pins s σ H _ I h) fun us s1 ⟨vs, H1, I1, r1, q1⟩ => ?_) hs hp))
  obtain ⟨a, b, xs, ys, rfl, qx, qy, q⟩ := q1
  obtain ⟨ua, ub, rfl, ra, rb⟩ : ∃ ua ub, us = [ua, ub] ∧ RelV (.ref a) ua ∧ RelV (.ref b) ub := by
    cases r1 with
    | cons r rr =>
      cases rr with
      | cons r' rr =>
        cases rr
        exact ⟨_, _, rfl, r, r'⟩
  cases ra
  cases rb
  obtain ⟨its, rv, tp, hz1⟩ := I1.tuple qx
  obtain ⟨its2, rv2, tp2, hz2⟩ := I1.tuple qy
  have hB : ∀ B d : Nat, d < B → d ≠ B + 4 ∧ d ≠ B + 3 ∧ d ≠ B ∧ d ≠ B + 1 := fun B d h => by omega
  have le1 := rv.length
  have le2 := rv2.length
  have la : a < s1.heap.objs.size := tp.lt
  have lb : b < s1.heap.objs.size := tp2.lt
  refine RZ.call_zipT tp tp2 fun m hz hTI hTO n1 n2 hsz hk => ?_
  refine PyProof.Rows.args_nil ?_
  have D := PySem.W.ktu_apart s1.heap.objs.size a b la lb
  have st : ZTn (s1.heap.objs.size + 4) (s1.heap.objs.size + 2) (s1.heap.objs.size + 3) s1.heap.objs.size (s1.heap.objs.size + 1) a b 0 m := ⟨⟨.none, .bool false, .inl rfl, ⟨false, rfl⟩, hz⟩, hTI, ⟨_, _, hTO⟩, n1, n2⟩
  refine zl_call (s := { s1 with heap := m }) (xs := its) (ys := its2) (I1.ok.hd hc) D rfl st (let ⟨o, z, r⟩ := tp; ⟨o, hk _ _ z, r⟩) (let ⟨o, z, r⟩ := tp2; ⟨o, hk _ _ z, r⟩) (Nat.le_trans (Nat.min_le_left _ _) (le1 ▸ hz1)) fun h' tk acc c ad kp hl el G ea => ?_
  dsimp only at kp hl G ⊢
  rw [← le1, ← le2] at el
  have sS : m.objs.size = s1.heap.objs.size + 5 := hsz
  have G2 := G.prs
  have big := G.big
  have ltS : ∀ {p : Nat}, p ∈ ad → s1.heap.objs.size ≤ p ∧ m.objs.size ≠ p := fun hp => by
    have := big _ hp
    exact ⟨by omega, by omega⟩
  have I2 : Inv X pins σ (lzH H1 s1.heap.objs.size m.objs.size ad xs ys) { s1 with heap := h', toks := tk } := by
    refine laidN I1 (fun d o w => let z := hB _ d (Heap.lt_size w); kp d o z.1 z.2.1 z.2.2.1 z.2.2.2 (hk d o w)) (fun d hd => if_pos hd) fun d o hd ho => ?_
    unfold lzH at ho
    rw [if_neg (Nat.not_lt.mpr hd)] at ho
    by_cases c2 : d = m.objs.size
    · subst c2
      rw [if_pos rfl] at ho
      cases ho
      have hlen : acc.size = ad.length := by rw [← Array.length_toList, ea, List.length_map]
      refine ⟨?_, ad.map Value.ref, c, Vals_refs ad, ?_⟩
      · rw [List.length_map, el]
        omega
      · rw [← ea]
        exact hl
    · rw [if_neg c2] at ho
      obtain ⟨j, x, y, e1, e3, e4, rfl⟩ := tblP_some ho
      obtain ⟨x', y', f1, f2, f3⟩ := G2 j d e1
      obtain ⟨v1, g1, w1⟩ := rv.get e3
      obtain ⟨v2, g2, w2⟩ := rv2.get e4
      rw [f1] at g1
      rw [f2] at g2
      cases g1
      cases g2
      exact ⟨by show 2 ≤ sizeLine; decide, [x', y'], .cons w1 (.cons w2 .nil), ⟨_, f3, rfl, _, rfl⟩⟩
  have fr : ∀ {d : Nat}, s1.heap.objs.size ≤ d → H1 d = none := fun hd => I1.hok.fresh hd
  refine ⟨.ref m.objs.size, _, I2, rfl, q m.objs.size ad _ (fun d o w => ?_) (fr (sS ▸ Nat.le_add_right _ _)) ?_ el fun j p x y e1 e3 e4 => ?_⟩
  · unfold lzH
    rw [if_pos (I1.hok.lt w)]
    exact w
  · unfold lzH
    rw [if_neg (Nat.not_lt.mpr (sS ▸ Nat.le_add_right _ _)), if_pos rfl]
  · have hp := ltS (List.mem_of_getElem? e1)
    refine ⟨fr hp.1, ?_⟩
    unfold lzH
    rw [if_neg (Nat.not_lt.mpr hp.1), if_neg (fun z => hp.2 z.symm)]
    exact tblP_at G.inc e1 e3 e4
theorem r_listZip {K : PySem.W.Frag} {ta : TA} {σ : L2.St} {H : Hp} {Q : VK} (h : ta σ H fun vs H1 => ∃ a b xs ys, vs = [.ref a, .ref b] ∧ SqT K H1 a xs ∧ SqT K H1 b ys ∧
  ∀ (l : Nat) (ad : List Nat) H2, Same H1 H2 → H1 l = none → H2 l = some (.lst (ad.map V.ref)) → ad.length = min xs.length ys.length → (∀ (j : Nat) (p : Nat) (x y : V), ad[j]? = some p → xs[j]? = some x → ys[j]? = some y → H1 p = none ∧ H2 p = some (.tup [x, y])) → Q (.ref l) H2) : tListZip K ta σ H Q := h
theorem paired_of {α β : Type} {F : α → β → Prop} : ∀ {xs : List α} {ys : List β}, xs.length = ys.length → (∀ (j : Nat) (x : α) (y : β), xs[j]? = some x → ys[j]? = some y → F x y) → Paired F xs ys
  | [], [], _, _ => .nil
  | [], _ :: _, h, _ => by simp at h
  | _ :: _, [], h, _ => by simp at h
  | x :: xs, y :: ys, h, f => .cons (f 0 x y rfl rfl) (paired_of (by simpa using h) fun j a b e1 e2 => f (j + 1) a b (by simpa using e1) (by simpa using e2))
end Vf

namespace Vf
open PySem PySem.Spec PyProof.Rows L2
/-! ## sorted; the same data twice -/
section
variable {X : Cx} {K : PySem.W.Frag}
theorem c_sortedPO (e : X.K = K) : CallR X (.builtin "sorted") (rSortedPO K) := by subst e; exact cr_sortedPO
theorem c_sortedI (e : X.K = K) : CallR X (.builtin "sorted") (rSortedI K) := by subst e; exact cr_sortedI
end
section
variable {K : PySem.W.Frag} {H H' : Hp} {Q : VK}
/-- pairs of ints that lie in the heap itself -/
def PrsH (H : Hp) (vs : List V) (ps : List (Int × Int)) : Prop := Paired (fun v p => ∃ t, v = V.ref t ∧ H t = some (.tup [.int p.1, .int p.2])) vs ps
theorem PrsH.at_ {vs : List V} {ps : List (Int × Int)} (h : PrsH H vs ps) : PairsAt K H vs ps := by
  induction h with
  | nil => exact .nil
  | cons h1 h2 ih =>
    obtain ⟨t, e, z⟩ := h1
    exact .cons ⟨t, e, SqT.of z⟩ ih
theorem PrsH.mono {vs : List V} {ps : List (Int × Int)} (h : PrsH H vs ps) (k : ∀ t xs, H t = some (.tup xs) → H' t = some (.tup xs)) : PrsH H' vs ps := by
  induction h with
  | nil => exact .nil
  | cons h1 h2 ih =>
    obtain ⟨t, e, z⟩ := h1
    exact .cons ⟨t, e, k _ _ z⟩ ih
theorem PrsH.snoc {vs : List V} {ps : List (Int × Int)} {t : Addr} {p : Int × Int} (h : PrsH H vs ps) (e : H t = some (.tup [.int p.1, .int p.2])) : PrsH H (vs ++ [.ref t]) (ps ++ [p]) := by
  induction h with
  | nil => exact .cons ⟨t, rfl, e⟩ .nil
  | cons h1 h2 ih => exact .cons h1 ih
theorem PrsH.len {vs : List V} {ps : List (Int × Int)} (h : PrsH H vs ps) : vs.length = ps.length := Paired.length h
theorem paired_get {α β : Type} {F : α → β → Prop} : ∀ {xs : List α} {ys : List β} {j : Nat} {x : α}, Paired F xs ys → xs[j]? = some x → ∃ y, ys[j]? = some y ∧ F x y
  | _, _, 0, _, .cons h _, e => ⟨_, rfl, by cases e; exact h⟩
  | _, _, j + 1, _, .cons _ t, e => paired_get (j := j) t e
  | _, _, _, _, .nil, e => by simp at e
/-- what pair stands at a value -/
def kyP (H : Hp) : V → Int × Int
  | .ref t => match H t with
    | some (.tup [.int i, .int j]) => (i, j)
    | _ => (0, 0)
  | _ => (0, 0)
theorem kyP_of {t : Addr} {i j : Int} (h : H t = some (.tup [.int i, .int j])) : kyP H (.ref t) = (i, j) := by
  simp only [kyP, h]
theorem PrsH.srtd {vs : List V} {ps : List (Int × Int)} (h : PrsH H vs ps) (asc : ps.Pairwise fun p q => SrtO.lexB q p = false) : SrtO.Srtd (ltP (kyP H)) vs := by
  induction h with
  | nil => exact .nil
  | @cons v p vs ps h1 h2 ih =>
    obtain ⟨a1, a2⟩ := List.pairwise_cons.mp asc
    refine List.pairwise_cons.mpr ⟨fun u hu => ?_, ih a2⟩
    obtain ⟨t, rfl, e⟩ := h1
    have key : ∀ {vs : List V} {ps : List (Int × Int)}, PrsH H vs ps → u ∈ vs → ∃ q, q ∈ ps ∧ kyP H u = q := by
      intro vs ps hp
      induction hp with
      | nil => exact fun z => nomatch z
      | cons g1 g2 ih2 =>
        intro z
        rcases List.mem_cons.mp z with z | z
        · obtain ⟨t', rfl, e'⟩ := g1
          subst z
          exact ⟨_, List.mem_cons_self, kyP_of e'⟩
        · obtain ⟨q, hq, r⟩ := ih2 z
          exact ⟨q, List.mem_cons_of_mem _ hq, r⟩
    obtain ⟨q, hq, r⟩ := key h2 hu
    show SrtO.lexB (kyP H u) (kyP H (.ref t)) = false
    rw [r, kyP_of e]
    exact a1 q hq
/-- sorted of pairs that ascend already -/
theorem r_sortedP {a : Addr} {vs : List V} {ps : List (Int × Int)} (h1 : SqL K H a vs) (h2 : PrsH H vs ps) (asc : ps.Pairwise fun p q => SrtO.lexB q p = false) (h : ∀ p, H p = none → Q (.ref p) (upd H p (.lst vs))) : rSortedPO K [.ref a] H Q := by
  refine ⟨a, vs, kyP H, rfl, h1, fun x hx => ?_, fun ys p g1 g2 hp => ?_⟩
  · obtain ⟨j, hj⟩ := List.mem_iff_getElem?.mp hx
    obtain ⟨q, _, t, rfl, e⟩ := paired_get h2 hj
    rw [kyP_of e]
    exact ⟨t, rfl, e⟩
  · rw [SrtO.stb_uniq (ltP_swo _) g1 (h2.srtd asc) g2]
    exact h p hp
theorem shaped_of {d : PyData} (h1 : d.canLay0 = true) (h2 : d.depth ≤ 64) : SeqAt.shaped d = true := by
  unfold SeqAt.shaped
  rw [Bool.and_eq_true]
  exact ⟨h1, decide_eq_true h2⟩
theorem r_eqSame {x y : V} (d : PyData) (h1 : Dp K H x d) (h2 : Dp K H y d) (h3 : d.canLay0 = true) (h4 : d.depth ≤ 64) (h : Q (.bl true) H) : rEqD K x y H Q := by
  refine r_eqD h1 h2 (shaped_of h3 h4) (shaped_of h3 h4) ?_
  rw [SeqAt.eqv_refl d h3]
  exact h
theorem r_neSame {x y : V} (d : PyData) (h1 : Dp K H x d) (h2 : Dp K H y d) (h3 : d.canLay0 = true) (h4 : d.depth ≤ 64) (h : Q (.bl false) H) : rNeD K x y H Q := by
  refine r_neD h1 h2 (shaped_of h3 h4) (shaped_of h3 h4) ?_
  rw [SeqAt.eqv_refl d h3]
  exact h
end
end Vf

namespace Vf
open PySem PySem.Spec PyProof.Rows L2
/-! ## sorted(set(xs)) of a list of ints -/
abbrev nSt (w : World) : Obj := { cls := .type "set", dict := none, data := .set #[] 0 (.fresh 0 0 (!w.params.followText "set-order")) }
section
variable {P : Program} {w : World} {A : Around} {E : Value → Shared → Prop} {s : Shared}
theorem set_of_list {l : Addr} {xs : Array Value} (ns : List Int) {Q : Value → Shared → Prop} (hh : A.handled = none) (hl : s.heap.IsList l xs) (hx : IntsAre xs.toList ns) (hb : ns.length + 1 < scanBound)
    (q : ∀ (h' : Heap) (tk c : Nat), SetR w h' s.heap.objs.size (fun j => decide (j ∈ ns)) c → c ≤ ns.length → (∀ b o, s.heap.get? b = some o → h'.get? b = some o) → Q (.ref s.heap.objs.size) { s with heap := h', toks := tk }) :
    wpAny (model P w) A (call (.type "set") [.ref l]) Q E s := by
  have sz : xs.size = ns.length := by
    have z := IntsAre.length hx
    rwa [Array.length_toList] at z
  obtain ⟨cc, tl, z1⟩ := F.called_set.mro
  have z2 := F.called_set.made
  have z3 := F.called_set.sub
  have z4 := F.called_set.notType
  have z5 := F.called_set.canCreate
  have z6 := F.typeCall_set_1 (.ref l)
  refine wpAny_call <| codeAny_of_tree ?_
  show wpAny _ _ (callAny (.type "set") _) _ _ _
  refine wpAny_pure ⟨Code.quiet_builtin _ (by decide +kernel), codeAny_builtin F.entry_type_call ?_⟩
  rw [Around.under_plain (weight_type_call_type "set" [.ref l] []) rfl]
  repeat any_goals first | assumption | wp_step
  refine codeAny_mono (code_set_led1 (.ref l) (E := E) (Q₁ := fun obj s1 => obj = .ref s.heap.objs.size ∧ s1 = { s with heap := s.heap.push (nSt w) }) ⟨rfl, rfl⟩) fun r s1 g => ?_
  cases r with
  | error e => exact g
  | ok fl =>
    cases fl with
    | ret obj =>
      obtain ⟨rfl, rfl⟩ := g
      have e0 : (s.heap.push (nSt w)).get? s.heap.objs.size = some (nSt w) := Heap.get?_push_size _ rfl
      have ty : Shared.TypeIs { s with heap := s.heap.push (nSt w) } (.ref s.heap.objs.size) "set" := ⟨_, e0, rfl⟩
      have z7 := F.called_set.init.lookup
      have z8 := F.called_set.init.bind (.ref s.heap.objs.size)
      repeat any_goals first | assumption | wp_step
      refine codeAny_mono (codeAny_call_builtin (R := wants (fun r s2 => r = .none ∧ ∃ h' tk c, s2 = { s with heap := h', toks := tk } ∧ SetR w h' s.heap.objs.size (fun j => decide (j ∈ ns)) c ∧ c ≤ ns.length ∧ (∀ b o, s.heap.get? b = some o → h'.get? b = some o)) E) F.called_set.init.plain F.entry_set_init (check_set_init_1 ty ?_)) fun r2 s2 g2 => ?_
      · obtain ⟨⟨oc, od, odt, osl⟩, o1, o2, n, o3⟩ := hl
        simp only at o2 o3
        subst o2; subst o3
        have o4 : (s.heap.push (nSt w)).get? l = some { cls := .type "list", dict := od, data := .seq xs n, slots := osl } := Heap.get?_push_of_some _ o1
        have y1 := F.sub_list_set
        have y2 := F.sub_list_frozenset
        have y3 : (Value.type "list" == Value.type "dict") = false := by decide
        have li : (s.heap.push (nSt w)).IsList l xs := ⟨_, o4, rfl, n, rfl⟩
        unfold Builtin.«set.__init__» noKeywords Builtin.Frozenset.updateFrom
        generalize hI : pyIter = PI
        wp_walk
        subst hI
        refine wpAny_pyIter_list li <| wpAny_bind <| wpAny_runValue ?_
        have lS : l < s.heap.objs.size := Heap.lt_size o1
        have h3 : A.in1.in1.in1.handled = none := by simp [hh]
        have neI : l ≠ (s.heap.push (nSt w)).objs.size := by rw [Heap.size_push]; exact Nat.ne_of_lt (Nat.lt_succ_of_lt lS)
        have nin : s.heap.objs.size ∉ [(s.heap.push (nSt w)).objs.size, l] := by
          rw [Heap.size_push]; simp only [List.mem_cons, List.mem_singleton, List.not_mem_nil, or_false, not_or]; exact ⟨Nat.ne_of_lt (Nat.lt_succ_self _), Nat.ne_of_gt lS⟩
        have vl : ∀ (i : Nat) (v : Value), xs[i]? = some v → ∃ k t, ns[i]? = some k ∧ v = .int k t := fun i v hv => by
          have hi : i < ns.length := by rw [← sz]; exact (Array.getElem?_eq_some_iff.mp hv).1
          obtain ⟨t, e⟩ := IntsAre.int_at hx i v (by rw [Array.getElem?_toList]; exact hv)
          refine ⟨ns[i], t, List.getElem?_eq_getElem hi, ?_⟩
          rw [e, List.getD_eq_getElem?_getD, List.getElem?_eq_getElem hi] <;> rfl
        refine set_update_ints ((Walks.list h3 _ l neI xs).toS) s.heap.objs.size nin ns sz hb vl (xs.size - 0) 0 _ (by omega) (Nat.zero_le _) ⟨⟨_, Heap.get?_push_size _ rfl, rfl, rfl⟩, (li.push _)⟩ ⟨0, Nat.le_refl 0, setR_new_at (Heap.get?_push_of_some _ e0)⟩ fun s' c' hm hc' hS' => ?_
        obtain ⟨h', g3, d', tk', os'⟩ := s'
        have eg : g3 = s.gens := hm.gens
        have ed : d' = s.drawn := hm.drawn
        have eo : os' = s.os := hm.os
        subst eg; subst ed; subst eo
        show wpAny _ _ _ _ _ _
        refine wpAny_pure ?_
        show wpAny _ _ (ret Value.none) _ _ _
        rw [sz] at hc'
        refine wpAny_pure ⟨rfl, h', tk', c', rfl, hS', hc', fun b o e => hm.heap b o ?_ (Heap.get?_push_of_some _ (Heap.get?_push_of_some _ e))⟩
        have b0 : b < s.heap.objs.size := Heap.lt_size e
        simp only [List.mem_cons, List.mem_singleton, List.not_mem_nil, or_false, not_or]
        refine ⟨Nat.ne_of_lt b0, ?_⟩
        rw [Heap.size_push]; exact Nat.ne_of_lt (Nat.lt_succ_of_lt b0)
      · cases r2 with
        | error e => exact g2
        | ok fl2 =>
          cases fl2 with
          | ret r =>
            obtain ⟨rfl, h', tk, c', rfl, hS', hc', hk'⟩ := g2
            repeat any_goals first | assumption | wp_step
            exact q _ _ _ hS' hc' hk'
          | _ => exact g2.elim
    | _ => exact g.elim
end
section
variable {X : Cx} {K : PySem.W.Frag} {w : World}
/-- set(xs) of a list of ints, kept with what is in it -/
def rSetLo (K : PySem.W.Frag) (w : World) : List V → Hp → VK → Prop := fun xs H Q => ∃ (l : Addr) (ns : List Int), xs = [.ref l] ∧ SqL K H l (ns.map V.int) ∧ ns.length ≤ 4000 ∧
  ∀ p c, H p = none → c ≤ ns.length → Q (.ref p) (upd H p (SetO w p (fun j => decide (j ∈ ns)) c))
theorem cr_setLo (hc : X.calm = true) : CallR X (.type "set") (rSetLo X.K X.w) := by
  intro pins s σ H xs us Q I r h
  obtain ⟨l, ns, rfl, hs, hl, q⟩ := h
  obtain ⟨u, rfl, ru⟩ := vals1 r
  cases ru
  obtain ⟨its, rv, pl, hz⟩ := I.list hs
  refine set_of_list ns (I.ok.hd hc) pl.isList (by simpa using RZ.intsAre_vals rv) (by unfold scanBound; omega) fun h' tk c hS hc2 hk => ?_
  exact ⟨.ref s.heap.objs.size, _, I.laid (t' := tk) hk (Nat.le_refl _) (setO_new hS), rfl, q _ _ (I.hok.fresh (Nat.le_refl _)) hc2⟩
theorem c_setLo (e : X.K = K) (e2 : X.w = w) (hc : X.calm = true) : CallR X (.type "set") (rSetLo K w) := by subst e; subst e2; exact cr_setLo hc
theorem c_sortedSet (e2 : X.w = w) (hc : X.calm = true) : CallR X (.builtin "sorted") (rSortedSet w) := by subst e2; exact cr_sortedSet hc
end
section
variable {K : PySem.W.Frag} {H : Hp} {Q : VK} {w : World}
theorem r_setLo {l : Addr} (ns : List Int) (h1 : SqL K H l (ns.map V.int)) (h2 : ns.length ≤ 4000) (h : ∀ p c, H p = none → c ≤ ns.length → Q (.ref p) (upd H p (SetO w p (fun j => decide (j ∈ ns)) c))) : rSetLo K w [.ref l] H Q := ⟨l, ns, rfl, h1, h2, h⟩
theorem r_sortedSet {a : Addr} {S : Int → Bool} {n : Nat} (ha : H a = some (SetO w a S n)) (hn : n < 64) (h : ∀ (ns : List Int) (p : Addr), ns.Pairwise (· < ·) → (∀ k : Int, k ∈ ns ↔ S k = true) → ns.length = n → H p = none → Q (.ref p) (upd H p (.lst (ns.map V.int)))) : rSortedSet w [.ref a] H Q := ⟨a, S, n, rfl, ha, hn, h⟩
end
end Vf

namespace K08
open PySem PySem.Spec PyProof.Rows L2 Vf
/-! ### the text -/
def topS (i : Nat) : Stmt := PySem.Challenge.pw_restworld_k08_whole_what_facts_tell.main.body.getD i (.Pass ⟨0, 0, 0, 0⟩)
abbrev s_is_integer : Stmt := topS 12
theorem sc_is_integer : FnScope ["given"] ["given"] (defScope s_is_integer) := ⟨rfl, rfl, rfl, by decide +kernel, rfl, by decide +kernel, by decide +kernel⟩
theorem bd_is_integer {K : PySem.W.Frag} {f : Addr} {fd : FuncData} (F : L2.Fun K "is_integer" "is_integer" s_is_integer f fd) : L2.Binds K fd ["given"] [] := F.binds (ps := ["given"]) fun _ _ _ _ _ _ us hl => match us, hl with | [_], _ => rfl
abbrev s_is_within : Stmt := topS 13
theorem sc_is_within : FnScope ["given", "least", "most"] ["given", "least", "most"] (defScope s_is_within) := ⟨rfl, rfl, rfl, by decide +kernel, rfl, by decide +kernel, by decide +kernel⟩
theorem bd_is_within {K : PySem.W.Frag} {f : Addr} {fd : FuncData} (F : L2.Fun K "is_within" "is_within" s_is_within f fd) : L2.Binds K fd ["given", "least", "most"] [] := F.binds (ps := ["given", "least", "most"]) fun _ _ _ _ _ _ us hl => match us, hl with | [_, _, _], _ => rfl
abbrev s_check_within : Stmt := topS 14
theorem sc_check_within : FnScope ["given", "least", "most"] ["given", "least", "most"] (defScope s_check_within) := ⟨rfl, rfl, rfl, by decide +kernel, rfl, by decide +kernel, by decide +kernel⟩
theorem bd_check_within {K : PySem.W.Frag} {f : Addr} {fd : FuncData} (F : L2.Fun K "check_within" "check_within" s_check_within f fd) : L2.Binds K fd ["given", "least", "most"] [] := F.binds (ps := ["given", "least", "most"]) fun _ _ _ _ _ _ us hl => match us, hl with | [_, _, _], _ => rfl
abbrev s_check_base : Stmt := topS 15
theorem sc_check_base : FnScope ["given"] ["given"] (defScope s_check_base) := ⟨rfl, rfl, rfl, by decide +kernel, rfl, by decide +kernel, by decide +kernel⟩
theorem bd_check_base {K : PySem.W.Frag} {f : Addr} {fd : FuncData} (F : L2.Fun K "check_base" "check_base" s_check_base f fd) : L2.Binds K fd ["given"] [] := F.binds (ps := ["given"]) fun _ _ _ _ _ _ us hl => match us, hl with | [_], _ => rfl
abbrev s_is_fact : Stmt := topS 16
theorem sc_is_fact : FnScope ["given", "rest", "base"] ["given"] (defScope s_is_fact) := ⟨rfl, rfl, rfl, by decide +kernel, rfl, by decide +kernel, by decide +kernel⟩
theorem bd_is_fact {K : PySem.W.Frag} {f : Addr} {fd : FuncData} (F : L2.Fun K "is_fact" "is_fact" s_is_fact f fd) : L2.Binds K fd ["given"] [] := F.binds (ps := ["given"]) fun _ _ _ _ _ _ us hl => match us, hl with | [_], _ => rfl
abbrev s_check_fact : Stmt := topS 17
theorem sc_check_fact : FnScope ["given"] ["given"] (defScope s_check_fact) := ⟨rfl, rfl, rfl, by decide +kernel, rfl, by decide +kernel, by decide +kernel⟩
theorem bd_check_fact {K : PySem.W.Frag} {f : Addr} {fd : FuncData} (F : L2.Fun K "check_fact" "check_fact" s_check_fact f fd) : L2.Binds K fd ["given"] [] := F.binds (ps := ["given"]) fun _ _ _ _ _ _ us hl => match us, hl with | [_], _ => rfl
abbrev s_check_facts : Stmt := topS 18
theorem sc_check_facts : FnScope ["facts"] ["facts"] (defScope s_check_facts) := ⟨rfl, rfl, rfl, by decide +kernel, rfl, by decide +kernel, by decide +kernel⟩
theorem bd_check_facts {K : PySem.W.Frag} {f : Addr} {fd : FuncData} (F : L2.Fun K "check_facts" "check_facts" s_check_facts f fd) : L2.Binds K fd ["facts"] [] := F.binds (ps := ["facts"]) fun _ _ _ _ _ _ us hl => match us, hl with | [_], _ => rfl
abbrev s__check_each_fact : Stmt := topS 19
theorem sc__check_each_fact : FnScope ["facts", "most", "index"] ["facts", "most"] (defScope s__check_each_fact) := ⟨rfl, rfl, rfl, by decide +kernel, rfl, by decide +kernel, by decide +kernel⟩
theorem bd__check_each_fact {K : PySem.W.Frag} {f : Addr} {fd : FuncData} (F : L2.Fun K "_check_each_fact" "_check_each_fact" s__check_each_fact f fd) : L2.Binds K fd ["facts", "most"] [] := F.binds (ps := ["facts", "most"]) fun _ _ _ _ _ _ us hl => match us, hl with | [_, _], _ => rfl
abbrev s__first_wrong_fact : Stmt := topS 20
theorem sc__first_wrong_fact : FnScope ["facts", "most", "index", "fact"] ["facts", "most"] (defScope s__first_wrong_fact) := ⟨rfl, rfl, rfl, by decide +kernel, rfl, by decide +kernel, by decide +kernel⟩
theorem bd__first_wrong_fact {K : PySem.W.Frag} {f : Addr} {fd : FuncData} (F : L2.Fun K "_first_wrong_fact" "_first_wrong_fact" s__first_wrong_fact f fd) : L2.Binds K fd ["facts", "most"] [] := F.binds (ps := ["facts", "most"]) fun _ _ _ _ _ _ us hl => match us, hl with | [_, _], _ => rfl
abbrev s_bezout : Stmt := topS 22
theorem sc_bezout : FnScope ["one", "other", "u", "v", "next_u", "next_v", "left", "right", "times"] ["one", "other"] (defScope s_bezout) := ⟨rfl, rfl, rfl, by decide +kernel, rfl, by decide +kernel, by decide +kernel⟩
theorem bd_bezout {K : PySem.W.Frag} {f : Addr} {fd : FuncData} (F : L2.Fun K "bezout" "bezout" s_bezout f fd) : L2.Binds K fd ["one", "other"] [] := F.binds (ps := ["one", "other"]) fun _ _ _ _ _ _ us hl => match us, hl with | [_, _], _ => rfl
abbrev s_inverse : Stmt := topS 23
theorem sc_inverse : FnScope ["number", "base", "u", "_"] ["number", "base"] (defScope s_inverse) := ⟨rfl, rfl, rfl, by decide +kernel, rfl, by decide +kernel, by decide +kernel⟩
theorem bd_inverse {K : PySem.W.Frag} {f : Addr} {fd : FuncData} (F : L2.Fun K "inverse" "inverse" s_inverse f fd) : L2.Binds K fd ["number", "base"] [] := F.binds (ps := ["number", "base"]) fun _ _ _ _ _ _ us hl => match us, hl with | [_, _], _ => rfl
abbrev s_is_fitting : Stmt := topS 25
theorem sc_is_fitting : FnScope ["number", "fact", "rest", "base"] ["number", "fact"] (defScope s_is_fitting) := ⟨rfl, rfl, rfl, by decide +kernel, rfl, by decide +kernel, by decide +kernel⟩
theorem bd_is_fitting {K : PySem.W.Frag} {f : Addr} {fd : FuncData} (F : L2.Fun K "is_fitting" "is_fitting" s_is_fitting f fd) : L2.Binds K fd ["number", "fact"] [] := F.binds (ps := ["number", "fact"]) fun _ _ _ _ _ _ us hl => match us, hl with | [_, _], _ => rfl
abbrev s_are_quarrelling : Stmt := topS 26
theorem sc_are_quarrelling : FnScope ["one", "other"] ["one", "other"] (defScope s_are_quarrelling) := ⟨rfl, rfl, rfl, by decide +kernel, rfl, by decide +kernel, by decide +kernel⟩
theorem bd_are_quarrelling {K : PySem.W.Frag} {f : Addr} {fd : FuncData} (F : L2.Fun K "are_quarrelling" "are_quarrelling" s_are_quarrelling f fd) : L2.Binds K fd ["one", "other"] [] := F.binds (ps := ["one", "other"]) fun _ _ _ _ _ _ us hl => match us, hl with | [_, _], _ => rfl
abbrev s_along : Stmt := topS 27
theorem sc_along : FnScope ["fact", "other", "rest", "base", "shared", "between", "step"] ["fact", "other"] (defScope s_along) := ⟨rfl, rfl, rfl, by decide +kernel, rfl, by decide +kernel, by decide +kernel⟩
theorem bd_along {K : PySem.W.Frag} {f : Addr} {fd : FuncData} (F : L2.Fun K "along" "along" s_along f fd) : L2.Binds K fd ["fact", "other"] [] := F.binds (ps := ["fact", "other"]) fun _ _ _ _ _ _ us hl => match us, hl with | [_, _], _ => rfl
abbrev s_merged : Stmt := topS 28
theorem sc_merged : FnScope ["one", "other", "places", "place", "step"] ["one", "other"] (defScope s_merged) := ⟨rfl, rfl, rfl, by decide +kernel, rfl, by decide +kernel, by decide +kernel⟩
theorem bd_merged {K : PySem.W.Frag} {f : Addr} {fd : FuncData} (F : L2.Fun K "merged" "merged" s_merged f fd) : L2.Binds K fd ["one", "other"] [] := F.binds (ps := ["one", "other"]) fun _ _ _ _ _ _ us hl => match us, hl with | [_, _], _ => rfl
abbrev s_all_merged : Stmt := topS 29
theorem sc_all_merged : FnScope ["facts", "made", "fact"] ["facts"] (defScope s_all_merged) := ⟨rfl, rfl, rfl, by decide +kernel, rfl, by decide +kernel, by decide +kernel⟩
theorem bd_all_merged {K : PySem.W.Frag} {f : Addr} {fd : FuncData} (F : L2.Fun K "all_merged" "all_merged" s_all_merged f fd) : L2.Binds K fd ["facts"] [] := F.binds (ps := ["facts"]) fun _ _ _ _ _ _ us hl => match us, hl with | [_], _ => rfl
abbrev s_is_told : Stmt := topS 30
theorem sc_is_told : FnScope ["fact", "known"] ["fact", "known"] (defScope s_is_told) := ⟨rfl, rfl, rfl, by decide +kernel, rfl, by decide +kernel, by decide +kernel⟩
theorem bd_is_told {K : PySem.W.Frag} {f : Addr} {fd : FuncData} (F : L2.Fun K "is_told" "is_told" s_is_told f fd) : L2.Binds K fd ["fact", "known"] [] := F.binds (ps := ["fact", "known"]) fun _ _ _ _ _ _ us hl => match us, hl with | [_, _], _ => rfl
abbrev s_common_base : Stmt := topS 31
theorem sc_common_base : FnScope ["facts", "common", "_", "base"] ["facts"] (defScope s_common_base) := ⟨rfl, rfl, rfl, by decide +kernel, rfl, by decide +kernel, by decide +kernel⟩
theorem bd_common_base {K : PySem.W.Frag} {f : Addr} {fd : FuncData} (F : L2.Fun K "common_base" "common_base" s_common_base f fd) : L2.Binds K fd ["facts"] [] := F.binds (ps := ["facts"]) fun _ _ _ _ _ _ us hl => match us, hl with | [_], _ => rfl
abbrev s_left_by : Stmt := topS 32
theorem sc_left_by : FnScope ["fact", "base", "shared"] ["fact", "base"] (defScope s_left_by) := ⟨rfl, rfl, rfl, by decide +kernel, rfl, by decide +kernel, by decide +kernel⟩
theorem bd_left_by {K : PySem.W.Frag} {f : Addr} {fd : FuncData} (F : L2.Fun K "left_by" "left_by" s_left_by f fd) : L2.Binds K fd ["fact", "base"] [] := F.binds (ps := ["fact", "base"]) fun _ _ _ _ _ _ us hl => match us, hl with | [_, _], _ => rfl
abbrev s_quarrelling_pairs : Stmt := topS 34
theorem sc_quarrelling_pairs : FnScope ["facts", "many", "i", "j"] ["facts"] (defScope s_quarrelling_pairs) := ⟨rfl, rfl, rfl, by decide +kernel, rfl, by decide +kernel, by decide +kernel⟩
theorem bd_quarrelling_pairs {K : PySem.W.Frag} {f : Addr} {fd : FuncData} (F : L2.Fun K "quarrelling_pairs" "quarrelling_pairs" s_quarrelling_pairs f fd) : L2.Binds K fd ["facts"] [] := F.binds (ps := ["facts"]) fun _ _ _ _ _ _ us hl => match us, hl with | [_], _ => rfl
abbrev s_joined : Stmt := topS 36
theorem sc_joined : FnScope ["facts"] ["facts"] (defScope s_joined) := ⟨rfl, rfl, rfl, by decide +kernel, rfl, by decide +kernel, by decide +kernel⟩
theorem bd_joined {K : PySem.W.Frag} {f : Addr} {fd : FuncData} (F : L2.Fun K "joined" "joined" s_joined f fd) : L2.Binds K fd ["facts"] [] := F.binds (ps := ["facts"]) fun _ _ _ _ _ _ us hl => match us, hl with | [_], _ => rfl
abbrev s_rest_by : Stmt := topS 37
theorem sc_rest_by : FnScope ["facts", "base"] ["facts", "base"] (defScope s_rest_by) := ⟨rfl, rfl, rfl, by decide +kernel, rfl, by decide +kernel, by decide +kernel⟩
theorem bd_rest_by {K : PySem.W.Frag} {f : Addr} {fd : FuncData} (F : L2.Fun K "rest_by" "rest_by" s_rest_by f fd) : L2.Binds K fd ["facts", "base"] [] := F.binds (ps := ["facts", "base"]) fun _ _ _ _ _ _ us hl => match us, hl with | [_, _], _ => rfl
abbrev s_tells : Stmt := topS 38
theorem sc_tells : FnScope ["facts", "fact"] ["facts", "fact"] (defScope s_tells) := ⟨rfl, rfl, rfl, by decide +kernel, rfl, by decide +kernel, by decide +kernel⟩
theorem bd_tells {K : PySem.W.Frag} {f : Addr} {fd : FuncData} (F : L2.Fun K "tells" "tells" s_tells f fd) : L2.Binds K fd ["facts", "fact"] [] := F.binds (ps := ["facts", "fact"]) fun _ _ _ _ _ _ us hl => match us, hl with | [_, _], _ => rfl
abbrev s_needless : Stmt := topS 39
theorem sc_needless : FnScope ["facts", "index"] ["facts"] (defScope s_needless) := ⟨rfl, rfl, rfl, by decide +kernel, rfl, by decide +kernel, by decide +kernel⟩
theorem bd_needless {K : PySem.W.Frag} {f : Addr} {fd : FuncData} (F : L2.Fun K "needless" "needless" s_needless f fd) : L2.Binds K fd ["facts"] [] := F.binds (ps := ["facts"]) fun _ _ _ _ _ _ us hl => match us, hl with | [_], _ => rfl
abbrev s__check_no_quarrel : Stmt := topS 40
theorem sc__check_no_quarrel : FnScope ["facts", "i", "j"] ["facts"] (defScope s__check_no_quarrel) := ⟨rfl, rfl, rfl, by decide +kernel, rfl, by decide +kernel, by decide +kernel⟩
theorem bd__check_no_quarrel {K : PySem.W.Frag} {f : Addr} {fd : FuncData} (F : L2.Fun K "_check_no_quarrel" "_check_no_quarrel" s__check_no_quarrel f fd) : L2.Binds K fd ["facts"] [] := F.binds (ps := ["facts"]) fun _ _ _ _ _ _ us hl => match us, hl with | [_], _ => rfl
abbrev s__made_by : Stmt := topS 41
theorem sc__made_by : FnScope ["facts"] ["facts"] (defScope s__made_by) := ⟨rfl, rfl, rfl, by decide +kernel, rfl, by decide +kernel, by decide +kernel⟩
theorem bd__made_by {K : PySem.W.Frag} {f : Addr} {fd : FuncData} (F : L2.Fun K "_made_by" "_made_by" s__made_by f fd) : L2.Binds K fd ["facts"] [] := F.binds (ps := ["facts"]) fun _ _ _ _ _ _ us hl => match us, hl with | [_], _ => rfl
abbrev s__is_needless : Stmt := topS 42
theorem sc__is_needless : FnScope ["facts", "index", "others"] ["facts", "index"] (defScope s__is_needless) := ⟨rfl, rfl, rfl, by decide +kernel, rfl, by decide +kernel, by decide +kernel⟩
theorem bd__is_needless {K : PySem.W.Frag} {f : Addr} {fd : FuncData} (F : L2.Fun K "_is_needless" "_is_needless" s__is_needless f fd) : L2.Binds K fd ["facts", "index"] [] := F.binds (ps := ["facts", "index"]) fun _ _ _ _ _ _ us hl => match us, hl with | [_, _], _ => rfl
abbrev s__law_jug : Stmt := topS 44
theorem sc__law_jug : FnScope ["_law_script", "_law_turn", "_law_own", "_law_held", "_law_each"] ["_law_script", "_law_turn"] (defScope s__law_jug) := ⟨rfl, rfl, rfl, by decide +kernel, rfl, by decide +kernel, by decide +kernel⟩
theorem bd__law_jug {K : PySem.W.Frag} {f : Addr} {fd : FuncData} (F : L2.Fun K "_law_jug" "_law_jug" s__law_jug f fd) : L2.Binds K fd ["_law_script", "_law_turn"] [] := F.binds (ps := ["_law_script", "_law_turn"]) fun _ _ _ _ _ _ us hl => match us, hl with | [_, _], _ => rfl
abbrev s__law_pour : Stmt := topS 45
theorem sc__law_pour : FnScope ["_law_jug_here", "_law_most", "_law_figure", "_law_held"] ["_law_jug_here", "_law_most"] (defScope s__law_pour) := ⟨rfl, rfl, rfl, by decide +kernel, rfl, by decide +kernel, by decide +kernel⟩
theorem bd__law_pour {K : PySem.W.Frag} {f : Addr} {fd : FuncData} (F : L2.Fun K "_law_pour" "_law_pour" s__law_pour f fd) : L2.Binds K fd ["_law_jug_here", "_law_most"] [] := F.binds (ps := ["_law_jug_here", "_law_most"]) fun _ _ _ _ _ _ us hl => match us, hl with | [_, _], _ => rfl
abbrev s__law_one_of : Stmt := topS 46
theorem sc__law_one_of : FnScope ["_law_jug_here", "_law_menu"] ["_law_jug_here", "_law_menu"] (defScope s__law_one_of) := ⟨rfl, rfl, rfl, by decide +kernel, rfl, by decide +kernel, by decide +kernel⟩
theorem bd__law_one_of {K : PySem.W.Frag} {f : Addr} {fd : FuncData} (F : L2.Fun K "_law_one_of" "_law_one_of" s__law_one_of f fd) : L2.Binds K fd ["_law_jug_here", "_law_menu"] [] := F.binds (ps := ["_law_jug_here", "_law_menu"]) fun _ _ _ _ _ _ us hl => match us, hl with | [_, _], _ => rfl
abbrev s__law_pairs : Stmt := topS 47
theorem sc__law_pairs : FnScope ["_law_jug_here", "_law_most", "_law_found", "_law_turn", "_law_by"] ["_law_jug_here", "_law_most"] (defScope s__law_pairs) := ⟨rfl, rfl, rfl, by decide +kernel, rfl, by decide +kernel, by decide +kernel⟩
theorem bd__law_pairs {K : PySem.W.Frag} {f : Addr} {fd : FuncData} (F : L2.Fun K "_law_pairs" "_law_pairs" s__law_pairs f fd) : L2.Binds K fd ["_law_jug_here", "_law_most"] [] := F.binds (ps := ["_law_jug_here", "_law_most"]) fun _ _ _ _ _ _ us hl => match us, hl with | [_, _], _ => rfl
abbrev s__law_pairs_of : Stmt := topS 48
theorem sc__law_pairs_of : FnScope ["_law_jug_here", "_law_x", "_law_most", "_law_pair"] ["_law_jug_here", "_law_x", "_law_most"] (defScope s__law_pairs_of) := ⟨rfl, rfl, rfl, by decide +kernel, rfl, by decide +kernel, by decide +kernel⟩
theorem bd__law_pairs_of {K : PySem.W.Frag} {f : Addr} {fd : FuncData} (F : L2.Fun K "_law_pairs_of" "_law_pairs_of" s__law_pairs_of f fd) : L2.Binds K fd ["_law_jug_here", "_law_x", "_law_most"] [] := F.binds (ps := ["_law_jug_here", "_law_x", "_law_most"]) fun _ _ _ _ _ _ us hl => match us, hl with | [_, _, _], _ => rfl
abbrev s__law_shared : Stmt := topS 49
theorem sc__law_shared : FnScope ["_law_a", "_law_b"] ["_law_a", "_law_b"] (defScope s__law_shared) := ⟨rfl, rfl, rfl, by decide +kernel, rfl, by decide +kernel, by decide +kernel⟩
theorem bd__law_shared {K : PySem.W.Frag} {f : Addr} {fd : FuncData} (F : L2.Fun K "_law_shared" "_law_shared" s__law_shared f fd) : L2.Binds K fd ["_law_a", "_law_b"] [] := F.binds (ps := ["_law_a", "_law_b"]) fun _ _ _ _ _ _ us hl => match us, hl with | [_, _], _ => rfl
abbrev s__law_round : Stmt := topS 50
theorem sc__law_round : FnScope ["_law_some", "_law_found", "_law_pair"] ["_law_some"] (defScope s__law_round) := ⟨rfl, rfl, rfl, by decide +kernel, rfl, by decide +kernel, by decide +kernel⟩
theorem bd__law_round {K : PySem.W.Frag} {f : Addr} {fd : FuncData} (F : L2.Fun K "_law_round" "_law_round" s__law_round f fd) : L2.Binds K fd ["_law_some"] [] := F.binds (ps := ["_law_some"]) fun _ _ _ _ _ _ us hl => match us, hl with | [_], _ => rfl
abbrev s__law_fit : Stmt := topS 51
theorem sc__law_fit : FnScope ["_law_some", "_law_x", "_law_pair"] ["_law_some", "_law_x"] (defScope s__law_fit) := ⟨rfl, rfl, rfl, by decide +kernel, rfl, by decide +kernel, by decide +kernel⟩
theorem bd__law_fit {K : PySem.W.Frag} {f : Addr} {fd : FuncData} (F : L2.Fun K "_law_fit" "_law_fit" s__law_fit f fd) : L2.Binds K fd ["_law_some", "_law_x"] [] := F.binds (ps := ["_law_some", "_law_x"]) fun _ _ _ _ _ _ us hl => match us, hl with | [_, _], _ => rfl
abbrev s__law_fitting : Stmt := topS 52
theorem sc__law_fitting : FnScope ["_law_some", "_law_x"] ["_law_some"] (defScope s__law_fitting) := ⟨rfl, rfl, rfl, by decide +kernel, rfl, by decide +kernel, by decide +kernel⟩
theorem bd__law_fitting {K : PySem.W.Frag} {f : Addr} {fd : FuncData} (F : L2.Fun K "_law_fitting" "_law_fitting" s__law_fitting f fd) : L2.Binds K fd ["_law_some"] [] := F.binds (ps := ["_law_some"]) fun _ _ _ _ _ _ us hl => match us, hl with | [_], _ => rfl
abbrev s__law_rests : Stmt := topS 53
theorem sc__law_rests : FnScope ["_law_some", "_law_by", "_law_x"] ["_law_some", "_law_by"] (defScope s__law_rests) := ⟨rfl, rfl, rfl, by decide +kernel, rfl, by decide +kernel, by decide +kernel⟩
theorem bd__law_rests {K : PySem.W.Frag} {f : Addr} {fd : FuncData} (F : L2.Fun K "_law_rests" "_law_rests" s__law_rests f fd) : L2.Binds K fd ["_law_some", "_law_by"] [] := F.binds (ps := ["_law_some", "_law_by"]) fun _ _ _ _ _ _ us hl => match us, hl with | [_, _], _ => rfl
abbrev s__law_rest_right : Stmt := topS 54
theorem sc__law_rest_right : FnScope ["_law_some", "_law_by", "_law_told", "_law_due", "_law_r"] ["_law_some", "_law_by"] (defScope s__law_rest_right) := ⟨rfl, rfl, rfl, by decide +kernel, rfl, by decide +kernel, by decide +kernel⟩
theorem bd__law_rest_right {K : PySem.W.Frag} {f : Addr} {fd : FuncData} (F : L2.Fun K "_law_rest_right" "_law_rest_right" s__law_rest_right f fd) : L2.Binds K fd ["_law_some", "_law_by"] [] := F.binds (ps := ["_law_some", "_law_by"]) fun _ _ _ _ _ _ us hl => match us, hl with | [_, _], _ => rfl
abbrev s__law_fact_right : Stmt := topS 55
theorem sc__law_fact_right : FnScope ["_law_some", "_law_pair", "_law_due", "_law_r"] ["_law_some", "_law_pair"] (defScope s__law_fact_right) := ⟨rfl, rfl, rfl, by decide +kernel, rfl, by decide +kernel, by decide +kernel⟩
theorem bd__law_fact_right {K : PySem.W.Frag} {f : Addr} {fd : FuncData} (F : L2.Fun K "_law_fact_right" "_law_fact_right" s__law_fact_right f fd) : L2.Binds K fd ["_law_some", "_law_pair"] [] := F.binds (ps := ["_law_some", "_law_pair"]) fun _ _ _ _ _ _ us hl => match us, hl with | [_, _], _ => rfl
abbrev s__law_needless_right : Stmt := topS 56
theorem sc__law_needless_right : FnScope ["_law_some", "_law_fitting_here", "_law_due", "_law_k", "_law_less", "_law_x"] ["_law_some"] (defScope s__law_needless_right) := ⟨rfl, rfl, rfl, by decide +kernel, rfl, by decide +kernel, by decide +kernel⟩
theorem bd__law_needless_right {K : PySem.W.Frag} {f : Addr} {fd : FuncData} (F : L2.Fun K "_law_needless_right" "_law_needless_right" s__law_needless_right f fd) : L2.Binds K fd ["_law_some"] [] := F.binds (ps := ["_law_some"]) fun _ _ _ _ _ _ us hl => match us, hl with | [_], _ => rfl
abbrev s__law_right : Stmt := topS 57
theorem sc__law_right : FnScope ["_law_jug_here", "_law_x", "_law_some", "_law_by", "_law_wide", "_law_turn", "_law_r"] ["_law_jug_here"] (defScope s__law_right) := ⟨rfl, rfl, rfl, by decide +kernel, rfl, by decide +kernel, by decide +kernel⟩
theorem bd__law_right {K : PySem.W.Frag} {f : Addr} {fd : FuncData} (F : L2.Fun K "_law_right" "_law_right" s__law_right f fd) : L2.Binds K fd ["_law_jug_here"] [] := F.binds (ps := ["_law_jug_here"]) fun _ _ _ _ _ _ us hl => match us, hl with | [_], _ => rfl
abbrev s_law : Stmt := topS 58
theorem sc_law : FnScope ["_law_script", "_law_turn"] ["_law_script"] (defScope s_law) := ⟨rfl, rfl, rfl, by decide +kernel, rfl, by decide +kernel, by decide +kernel⟩
theorem bd_law {K : PySem.W.Frag} {f : Addr} {fd : FuncData} (F : L2.Fun K "law" "law" s_law f fd) : L2.Binds K fd ["_law_script"] [] := F.binds (ps := ["_law_script"]) fun _ _ _ _ _ _ us hl => match us, hl with | [_], _ => rfl
def g_kb_rest_by_0 {α : Type} (us ws : List α) : List α := match us, ws with | [], [w0, w1] => [w1, w0] | _, _ => []
theorem kb_rest_by_0 {K : PySem.W.Frag} {f : Addr} {fd : FuncData} (F : L2.Fun K "rest_by" "rest_by" s_rest_by f fd) : KBinds K fd ["facts", "base"] [("base" : Str), ("facts" : Str)] g_kb_rest_by_0 g_kb_rest_by_0 := by
  obtain ⟨⟨oc, od, kV, doc, pm, an, cdv, ct, osl, rfl, lk, hcd⟩, _⟩ := F
  refine ⟨fun s us ws _ hl => ?_, fun {vs us zs ws} hv hz => ?_⟩
  · match us, ws, hl with
    | [], [w0, w1], _ => exact .of_eq rfl
  ·
    cases hv with
    | nil =>
      cases hz with
      | nil => exact Paired.nil
      | cons q0 t_q0 =>
        cases t_q0 with
        | nil => exact Paired.nil
        | cons q1 t_q1 =>
          cases t_q1 with
          | nil =>
            exact (.cons q1 (.cons q0 .nil))
          | cons _ _ => exact Paired.nil
    | cons _ _ => exact Paired.nil

def g_kb_tells_1 {α : Type} (us ws : List α) : List α := match us, ws with | [], [w0, w1] => [w1, w0] | _, _ => []
theorem kb_tells_1 {K : PySem.W.Frag} {f : Addr} {fd : FuncData} (F : L2.Fun K "tells" "tells" s_tells f fd) : KBinds K fd ["facts", "fact"] [("fact" : Str), ("facts" : Str)] g_kb_tells_1 g_kb_tells_1 := by
  obtain ⟨⟨oc, od, kV, doc, pm, an, cdv, ct, osl, rfl, lk, hcd⟩, _⟩ := F
  refine ⟨fun s us ws _ hl => ?_, fun {vs us zs ws} hv hz => ?_⟩
  · match us, ws, hl with
    | [], [w0, w1], _ => exact .of_eq rfl
  ·
    cases hv with
    | nil =>
      cases hz with
      | nil => exact Paired.nil
      | cons q0 t_q0 =>
        cases t_q0 with
        | nil => exact Paired.nil
        | cons q1 t_q1 =>
          cases t_q1 with
          | nil =>
            exact (.cons q1 (.cons q0 .nil))
          | cons _ _ => exact Paired.nil
    | cons _ _ => exact Paired.nil

def g_kb_needless_2 {α : Type} (us ws : List α) : List α := match us, ws with | [], [w0] => [w0] | _, _ => []
theorem kb_needless_2 {K : PySem.W.Frag} {f : Addr} {fd : FuncData} (F : L2.Fun K "needless" "needless" s_needless f fd) : KBinds K fd ["facts"] [("facts" : Str)] g_kb_needless_2 g_kb_needless_2 := by
  obtain ⟨⟨oc, od, kV, doc, pm, an, cdv, ct, osl, rfl, lk, hcd⟩, _⟩ := F
  refine ⟨fun s us ws _ hl => ?_, fun {vs us zs ws} hv hz => ?_⟩
  · match us, ws, hl with
    | [], [w0], _ => exact .of_eq rfl
  ·
    cases hv with
    | nil =>
      cases hz with
      | nil => exact Paired.nil
      | cons q0 t_q0 =>
        cases t_q0 with
        | nil =>
          exact (.cons q0 .nil)
        | cons _ _ => exact Paired.nil
    | cons _ _ => exact Paired.nil

def clsS (s : Stmt) (j : Nat) : Stmt := match s with
  | .ClassDef _ _ _ b .. => b.getD j (.Pass ⟨0, 0, 0, 0⟩)
  | _ => .Pass ⟨0, 0, 0, 0⟩
abbrev si_Quarrel : Stmt := clsS (topS 7) 0
theorem sci_Quarrel : FnScope ["self", "first", "second"] ["self", "first", "second"] (defScope si_Quarrel) := ⟨rfl, rfl, rfl, by decide +kernel, rfl, by decide +kernel, by decide +kernel⟩
theorem bdi_Quarrel {K : PySem.W.Frag} {f : Addr} {fd : FuncData} (F : L2.Fun K "__init__" "Quarrel.__init__" si_Quarrel f fd) : L2.Binds K fd ["self", "first", "second"] [] := F.binds (ps := ["self", "first", "second"]) fun _ _ _ _ _ _ us hl => match us, hl with | [_, _, _], _ => rfl
/-! ### the top -/
structure Top (K : PySem.W.Frag) (mg : Str → Option Value) : Prop where
  g_Quarrel : mg "Quarrel" = some (.ref (cA mg "Quarrel"))
  ec_Quarrel : EC K (cA mg "Quarrel") [.type "ArithmeticError", .type "Exception", .type "BaseException", .type "object"] "ArithmeticError.__new__"
  n_Quarrel_first : PySem.W.findIn K (.ref (cA mg "Quarrel")) "first" = some none
  n_Quarrel_second : PySem.W.findIn K (.ref (cA mg "Quarrel")) "second" = some none
  fi_Quarrel : ∃ fI fd, PySem.W.findIn K (.ref (cA mg "Quarrel")) "__init__" = some (some (.ref fI)) ∧ PySem.W.typeIn K (.ref fI) = some (.type "function") ∧ L2.Fun K "__init__" "Quarrel.__init__" si_Quarrel fI fd
  e_Quarrel_Quarrel : PySem.W.exmOne K (.ref (cA mg "Quarrel")) (.ref (cA mg "Quarrel")) = some true
  d_is_integer : At K mg "is_integer" s_is_integer
  d_is_within : At K mg "is_within" s_is_within
  d_check_within : At K mg "check_within" s_check_within
  d_check_base : At K mg "check_base" s_check_base
  d_is_fact : At K mg "is_fact" s_is_fact
  d_check_fact : At K mg "check_fact" s_check_fact
  d_check_facts : At K mg "check_facts" s_check_facts
  d__check_each_fact : At K mg "_check_each_fact" s__check_each_fact
  d__first_wrong_fact : At K mg "_first_wrong_fact" s__first_wrong_fact
  d_bezout : At K mg "bezout" s_bezout
  d_inverse : At K mg "inverse" s_inverse
  d_is_fitting : At K mg "is_fitting" s_is_fitting
  d_are_quarrelling : At K mg "are_quarrelling" s_are_quarrelling
  d_along : At K mg "along" s_along
  d_merged : At K mg "merged" s_merged
  d_all_merged : At K mg "all_merged" s_all_merged
  d_is_told : At K mg "is_told" s_is_told
  d_common_base : At K mg "common_base" s_common_base
  d_left_by : At K mg "left_by" s_left_by
  d_quarrelling_pairs : At K mg "quarrelling_pairs" s_quarrelling_pairs
  d_joined : At K mg "joined" s_joined
  d_rest_by : At K mg "rest_by" s_rest_by
  d_tells : At K mg "tells" s_tells
  d_needless : At K mg "needless" s_needless
  d__check_no_quarrel : At K mg "_check_no_quarrel" s__check_no_quarrel
  d__made_by : At K mg "_made_by" s__made_by
  d__is_needless : At K mg "_is_needless" s__is_needless
  d__law_jug : At K mg "_law_jug" s__law_jug
  d__law_pour : At K mg "_law_pour" s__law_pour
  d__law_one_of : At K mg "_law_one_of" s__law_one_of
  d__law_pairs : At K mg "_law_pairs" s__law_pairs
  d__law_pairs_of : At K mg "_law_pairs_of" s__law_pairs_of
  d__law_shared : At K mg "_law_shared" s__law_shared
  d__law_round : At K mg "_law_round" s__law_round
  d__law_fit : At K mg "_law_fit" s__law_fit
  d__law_fitting : At K mg "_law_fitting" s__law_fitting
  d__law_rests : At K mg "_law_rests" s__law_rests
  d__law_rest_right : At K mg "_law_rest_right" s__law_rest_right
  d__law_fact_right : At K mg "_law_fact_right" s__law_fact_right
  d__law_needless_right : At K mg "_law_needless_right" s__law_needless_right
  d__law_right : At K mg "_law_right" s__law_right
  d_law : At K mg "law" s_law
  m_gcd : mg "gcd" = some (.builtin "math.gcd")
  m_lcm : mg "lcm" = some (.builtin "math.lcm")
  c_MOST_FACT : ∃ t, mg "MOST_FACT" = some (.int (1000000000000000000000000000000) t)
  c_MOST_BASE : ∃ t, mg "MOST_BASE" = some (.int (1000000000000) t)
  c_MOST_FACTS : ∃ t, mg "MOST_FACTS" = some (.int (40) t)
  b_abs : mg "abs" = none
  b_all : mg "all" = none
  b_bool : mg "bool" = none
  b_divmod : mg "divmod" = none
  b_enumerate : mg "enumerate" = none
  b_int : mg "int" = none
  b_isinstance : mg "isinstance" = none
  b_len : mg "len" = none
  b_max : mg "max" = none
  b_min : mg "min" = none
  b_range : mg "range" = none
  b_repr : mg "repr" = none
  b_set : mg "set" = none
  b_sorted : mg "sorted" = none
  b_tuple : mg "tuple" = none
/-! ### the exceptions -/
theorem ini_Quarrel {P : Program} {w : World} {K : PySem.W.Frag} {mg : Str → Option Value} {base : Heap} {fI : Addr} {fd : FuncData} (T : Top K mg) (F : L2.Fun K "__init__" "Quarrel.__init__" si_Quarrel fI fd) : FnOk P w K mg base (L2.CX P w) 1 fI fd ["self", "first", "second"] (spI2 (cA mg "Quarrel") "first" "second") := by
  refine F.okX sci_Quarrel (fun vs H Q E h => ?_) (fun cdv A outer s H vs Q E hr h => ?_)
  · obtain ⟨a, v0, v1, rfl, _⟩ := h
    rfl
  · obtain ⟨a, v0, v1, rfl, ha, q⟩ := h
    refine ⟨_, (pss_cons (ps_est T.ec_Quarrel PySem.F.store_ArithmeticError T.n_Quarrel_first (pv 0) (pv 1)) (pss_one (ps_est T.ec_Quarrel PySem.F.store_ArithmeticError T.n_Quarrel_second (pv 0) (pv 2)))), v0, rfl, .ref a, rfl, a, rfl, .inl ⟨ha, fun dx hd ne => ?_⟩⟩
    exact ⟨v1, rfl, .ref a, rfl, a, rfl, .inr ⟨dx, _, upd_same, by rw [upd_ne ne, upd_same], Nat.le_of_ble_eq_true rfl, q dx hd ne⟩⟩
theorem mk_Quarrel {X : Cx} {ta : TA} {p pos : Pos} {e : Expr} {es : List Expr} (T : Top X.K X.mg) (hr : Room 2 X.A) (ha : PA X (e :: es) ta) (hg : Gl X "Quarrel")
    (he : starEach (e :: es) X.env = (false, eval e X.env) :: starEach es X.env := by rfl) (hpl : (backTo pos (starEach es X.env)).any (·.1) = false := by rfl) :
    PMk X (.Call (.Name "Quarrel" p) (e :: es) [] pos) (fun σ H Q => ta σ H fun vs H1 => ∃ v0 v1, vs = [v0, v1] ∧ ∀ d, H1 d = none → Q (.ref (cA X.mg "Quarrel")) (some d) (upd H1 d (.xd [("second", v1), ("first", v0)]))) := by
  obtain ⟨fI, fd, iC, tI, F⟩ := T.fi_Quarrel
  exact pmk_ec T.ec_Quarrel PySem.F.excBase_ArithmeticError iC tI (ini_Quarrel T F) hr (bdi_Quarrel F) passL hg T.g_Quarrel ha (by decide) he hpl mk2_of
/-! ### the end -/
theorem top_mk {K : PySem.W.Frag} {h : Heap} {mg : Str → Option Value} (X : K.In h) (G : h.Ns mainGlobals mg)
    {f0 : Addr} {od0 an0 : Option Addr} {sl0 : Array (Option Value)} {oc0 kV0 dc0 pm0 cd0 ct0 : Value}
    {f1 : Addr} {od1 an1 : Option Addr} {sl1 : Array (Option Value)} {oc1 kV1 dc1 pm1 cd1 ct1 : Value}
    {f2 : Addr} {od2 an2 : Option Addr} {sl2 : Array (Option Value)} {oc2 kV2 dc2 pm2 cd2 ct2 : Value}
    {f3 : Addr} {od3 an3 : Option Addr} {sl3 : Array (Option Value)} {oc3 kV3 dc3 pm3 cd3 ct3 : Value}
    {f4 : Addr} {od4 an4 : Option Addr} {sl4 : Array (Option Value)} {oc4 kV4 dc4 pm4 cd4 ct4 : Value}
    {f5 : Addr} {od5 an5 : Option Addr} {sl5 : Array (Option Value)} {oc5 kV5 dc5 pm5 cd5 ct5 : Value}
    {f6 : Addr} {od6 an6 : Option Addr} {sl6 : Array (Option Value)} {oc6 kV6 dc6 pm6 cd6 ct6 : Value}
    {f7 : Addr} {od7 an7 : Option Addr} {sl7 : Array (Option Value)} {oc7 kV7 dc7 pm7 cd7 ct7 : Value}
    {f8 : Addr} {od8 an8 : Option Addr} {sl8 : Array (Option Value)} {oc8 kV8 dc8 pm8 cd8 ct8 : Value}
    {f9 : Addr} {od9 an9 : Option Addr} {sl9 : Array (Option Value)} {oc9 kV9 dc9 pm9 cd9 ct9 : Value}
    {f10 : Addr} {od10 an10 : Option Addr} {sl10 : Array (Option Value)} {oc10 kV10 dc10 pm10 cd10 ct10 : Value}
    {f11 : Addr} {od11 an11 : Option Addr} {sl11 : Array (Option Value)} {oc11 kV11 dc11 pm11 cd11 ct11 : Value}
    {f12 : Addr} {od12 an12 : Option Addr} {sl12 : Array (Option Value)} {oc12 kV12 dc12 pm12 cd12 ct12 : Value}
    {f13 : Addr} {od13 an13 : Option Addr} {sl13 : Array (Option Value)} {oc13 kV13 dc13 pm13 cd13 ct13 : Value}
    {f14 : Addr} {od14 an14 : Option Addr} {sl14 : Array (Option Value)} {oc14 kV14 dc14 pm14 cd14 ct14 : Value}
    {f15 : Addr} {od15 an15 : Option Addr} {sl15 : Array (Option Value)} {oc15 kV15 dc15 pm15 cd15 ct15 : Value}
    {f16 : Addr} {od16 an16 : Option Addr} {sl16 : Array (Option Value)} {oc16 kV16 dc16 pm16 cd16 ct16 : Value}
    {f17 : Addr} {od17 an17 : Option Addr} {sl17 : Array (Option Value)} {oc17 kV17 dc17 pm17 cd17 ct17 : Value}
    {f18 : Addr} {od18 an18 : Option Addr} {sl18 : Array (Option Value)} {oc18 kV18 dc18 pm18 cd18 ct18 : Value}
    {f19 : Addr} {od19 an19 : Option Addr} {sl19 : Array (Option Value)} {oc19 kV19 dc19 pm19 cd19 ct19 : Value}
    {f20 : Addr} {od20 an20 : Option Addr} {sl20 : Array (Option Value)} {oc20 kV20 dc20 pm20 cd20 ct20 : Value}
    {f21 : Addr} {od21 an21 : Option Addr} {sl21 : Array (Option Value)} {oc21 kV21 dc21 pm21 cd21 ct21 : Value}
    {f22 : Addr} {od22 an22 : Option Addr} {sl22 : Array (Option Value)} {oc22 kV22 dc22 pm22 cd22 ct22 : Value}
    {f23 : Addr} {od23 an23 : Option Addr} {sl23 : Array (Option Value)} {oc23 kV23 dc23 pm23 cd23 ct23 : Value}
    {f24 : Addr} {od24 an24 : Option Addr} {sl24 : Array (Option Value)} {oc24 kV24 dc24 pm24 cd24 ct24 : Value}
    {f25 : Addr} {od25 an25 : Option Addr} {sl25 : Array (Option Value)} {oc25 kV25 dc25 pm25 cd25 ct25 : Value}
    {f26 : Addr} {od26 an26 : Option Addr} {sl26 : Array (Option Value)} {oc26 kV26 dc26 pm26 cd26 ct26 : Value}
    {f27 : Addr} {od27 an27 : Option Addr} {sl27 : Array (Option Value)} {oc27 kV27 dc27 pm27 cd27 ct27 : Value}
    {f28 : Addr} {od28 an28 : Option Addr} {sl28 : Array (Option Value)} {oc28 kV28 dc28 pm28 cd28 ct28 : Value}
    {f29 : Addr} {od29 an29 : Option Addr} {sl29 : Array (Option Value)} {oc29 kV29 dc29 pm29 cd29 ct29 : Value}
    {f30 : Addr} {od30 an30 : Option Addr} {sl30 : Array (Option Value)} {oc30 kV30 dc30 pm30 cd30 ct30 : Value}
    {f31 : Addr} {od31 an31 : Option Addr} {sl31 : Array (Option Value)} {oc31 kV31 dc31 pm31 cd31 ct31 : Value}
    {f32 : Addr} {od32 an32 : Option Addr} {sl32 : Array (Option Value)} {oc32 kV32 dc32 pm32 cd32 ct32 : Value}
    {f33 : Addr} {od33 an33 : Option Addr} {sl33 : Array (Option Value)} {oc33 kV33 dc33 pm33 cd33 ct33 : Value}
    {f34 : Addr} {od34 an34 : Option Addr} {sl34 : Array (Option Value)} {oc34 kV34 dc34 pm34 cd34 ct34 : Value}
    {f35 : Addr} {od35 an35 : Option Addr} {sl35 : Array (Option Value)} {oc35 kV35 dc35 pm35 cd35 ct35 : Value}
    {f36 : Addr} {od36 an36 : Option Addr} {sl36 : Array (Option Value)} {oc36 kV36 dc36 pm36 cd36 ct36 : Value}
    {f37 : Addr} {od37 an37 : Option Addr} {sl37 : Array (Option Value)} {oc37 kV37 dc37 pm37 cd37 ct37 : Value}
    {f38 : Addr} {od38 an38 : Option Addr} {sl38 : Array (Option Value)} {oc38 kV38 dc38 pm38 cd38 ct38 : Value}
    {f39 : Addr} {od39 an39 : Option Addr} {sl39 : Array (Option Value)} {oc39 kV39 dc39 pm39 cd39 ct39 : Value}
    {f40 : Addr} {od40 an40 : Option Addr} {sl40 : Array (Option Value)} {oc40 kV40 dc40 pm40 cd40 ct40 : Value}
    {f41 : Addr} {od41 an41 : Option Addr} {sl41 : Array (Option Value)} {oc41 kV41 dc41 pm41 cd41 ct41 : Value}
    {t_MOST_FACT : Tok}
    {t_MOST_BASE : Tok}
    {t_MOST_FACTS : Tok}
    {x_Quarrel : Addr}
    {nm_Quarrel qn_Quarrel : Str} {N_Quarrel : Addr} {bs_Quarrel bm_Quarrel sub_Quarrel : List Value} {sn_Quarrel : List Str} {ab_Quarrel : Bool} {col_Quarrel : Option Bool} {dd_Quarrel : Option Addr} {k0_Quarrel k1_Quarrel k2_Quarrel k3_Quarrel k5_Quarrel : Option Value}
    {fI_Quarrel : Addr} {odI_Quarrel anI_Quarrel : Option Addr} {slI_Quarrel : Array (Option Value)} {ocI_Quarrel kVI_Quarrel dcI_Quarrel pmI_Quarrel cdI_Quarrel ctI_Quarrel : Value}
    (a0 : PySem.W.nsIn K mainGlobals "is_integer" = some (some (.ref f0))) (l0 : K.lookup f0 = some ⟨oc0, od0, .func (PySem.W.fnOf "is_integer" "is_integer" (defArgs s_is_integer) (defBody s_is_integer) (defScope s_is_integer) .none kV0 dc0 pm0 an0 cd0 ct0), sl0⟩) (c0 : PySem.W.codeIn K cd0 "is_integer" = true) (k0 : PySem.W.keepIn K (.ref f0) = true)
    (a1 : PySem.W.nsIn K mainGlobals "is_within" = some (some (.ref f1))) (l1 : K.lookup f1 = some ⟨oc1, od1, .func (PySem.W.fnOf "is_within" "is_within" (defArgs s_is_within) (defBody s_is_within) (defScope s_is_within) .none kV1 dc1 pm1 an1 cd1 ct1), sl1⟩) (c1 : PySem.W.codeIn K cd1 "is_within" = true) (k1 : PySem.W.keepIn K (.ref f1) = true)
    (a2 : PySem.W.nsIn K mainGlobals "check_within" = some (some (.ref f2))) (l2 : K.lookup f2 = some ⟨oc2, od2, .func (PySem.W.fnOf "check_within" "check_within" (defArgs s_check_within) (defBody s_check_within) (defScope s_check_within) .none kV2 dc2 pm2 an2 cd2 ct2), sl2⟩) (c2 : PySem.W.codeIn K cd2 "check_within" = true) (k2 : PySem.W.keepIn K (.ref f2) = true)
    (a3 : PySem.W.nsIn K mainGlobals "check_base" = some (some (.ref f3))) (l3 : K.lookup f3 = some ⟨oc3, od3, .func (PySem.W.fnOf "check_base" "check_base" (defArgs s_check_base) (defBody s_check_base) (defScope s_check_base) .none kV3 dc3 pm3 an3 cd3 ct3), sl3⟩) (c3 : PySem.W.codeIn K cd3 "check_base" = true) (k3 : PySem.W.keepIn K (.ref f3) = true)
    (a4 : PySem.W.nsIn K mainGlobals "is_fact" = some (some (.ref f4))) (l4 : K.lookup f4 = some ⟨oc4, od4, .func (PySem.W.fnOf "is_fact" "is_fact" (defArgs s_is_fact) (defBody s_is_fact) (defScope s_is_fact) .none kV4 dc4 pm4 an4 cd4 ct4), sl4⟩) (c4 : PySem.W.codeIn K cd4 "is_fact" = true) (k4 : PySem.W.keepIn K (.ref f4) = true)
    (a5 : PySem.W.nsIn K mainGlobals "check_fact" = some (some (.ref f5))) (l5 : K.lookup f5 = some ⟨oc5, od5, .func (PySem.W.fnOf "check_fact" "check_fact" (defArgs s_check_fact) (defBody s_check_fact) (defScope s_check_fact) .none kV5 dc5 pm5 an5 cd5 ct5), sl5⟩) (c5 : PySem.W.codeIn K cd5 "check_fact" = true) (k5 : PySem.W.keepIn K (.ref f5) = true)
    (a6 : PySem.W.nsIn K mainGlobals "check_facts" = some (some (.ref f6))) (l6 : K.lookup f6 = some ⟨oc6, od6, .func (PySem.W.fnOf "check_facts" "check_facts" (defArgs s_check_facts) (defBody s_check_facts) (defScope s_check_facts) .none kV6 dc6 pm6 an6 cd6 ct6), sl6⟩) (c6 : PySem.W.codeIn K cd6 "check_facts" = true) (k6 : PySem.W.keepIn K (.ref f6) = true)
    (a7 : PySem.W.nsIn K mainGlobals "_check_each_fact" = some (some (.ref f7))) (l7 : K.lookup f7 = some ⟨oc7, od7, .func (PySem.W.fnOf "_check_each_fact" "_check_each_fact" (defArgs s__check_each_fact) (defBody s__check_each_fact) (defScope s__check_each_fact) .none kV7 dc7 pm7 an7 cd7 ct7), sl7⟩) (c7 : PySem.W.codeIn K cd7 "_check_each_fact" = true) (k7 : PySem.W.keepIn K (.ref f7) = true)
    (a8 : PySem.W.nsIn K mainGlobals "_first_wrong_fact" = some (some (.ref f8))) (l8 : K.lookup f8 = some ⟨oc8, od8, .func (PySem.W.fnOf "_first_wrong_fact" "_first_wrong_fact" (defArgs s__first_wrong_fact) (defBody s__first_wrong_fact) (defScope s__first_wrong_fact) .none kV8 dc8 pm8 an8 cd8 ct8), sl8⟩) (c8 : PySem.W.codeIn K cd8 "_first_wrong_fact" = true) (k8 : PySem.W.keepIn K (.ref f8) = true)
    (a9 : PySem.W.nsIn K mainGlobals "bezout" = some (some (.ref f9))) (l9 : K.lookup f9 = some ⟨oc9, od9, .func (PySem.W.fnOf "bezout" "bezout" (defArgs s_bezout) (defBody s_bezout) (defScope s_bezout) .none kV9 dc9 pm9 an9 cd9 ct9), sl9⟩) (c9 : PySem.W.codeIn K cd9 "bezout" = true) (k9 : PySem.W.keepIn K (.ref f9) = true)
    (a10 : PySem.W.nsIn K mainGlobals "inverse" = some (some (.ref f10))) (l10 : K.lookup f10 = some ⟨oc10, od10, .func (PySem.W.fnOf "inverse" "inverse" (defArgs s_inverse) (defBody s_inverse) (defScope s_inverse) .none kV10 dc10 pm10 an10 cd10 ct10), sl10⟩) (c10 : PySem.W.codeIn K cd10 "inverse" = true) (k10 : PySem.W.keepIn K (.ref f10) = true)
    (a11 : PySem.W.nsIn K mainGlobals "is_fitting" = some (some (.ref f11))) (l11 : K.lookup f11 = some ⟨oc11, od11, .func (PySem.W.fnOf "is_fitting" "is_fitting" (defArgs s_is_fitting) (defBody s_is_fitting) (defScope s_is_fitting) .none kV11 dc11 pm11 an11 cd11 ct11), sl11⟩) (c11 : PySem.W.codeIn K cd11 "is_fitting" = true) (k11 : PySem.W.keepIn K (.ref f11) = true)
    (a12 : PySem.W.nsIn K mainGlobals "are_quarrelling" = some (some (.ref f12))) (l12 : K.lookup f12 = some ⟨oc12, od12, .func (PySem.W.fnOf "are_quarrelling" "are_quarrelling" (defArgs s_are_quarrelling) (defBody s_are_quarrelling) (defScope s_are_quarrelling) .none kV12 dc12 pm12 an12 cd12 ct12), sl12⟩) (c12 : PySem.W.codeIn K cd12 "are_quarrelling" = true) (k12 : PySem.W.keepIn K (.ref f12) = true)
    (a13 : PySem.W.nsIn K mainGlobals "along" = some (some (.ref f13))) (l13 : K.lookup f13 = some ⟨oc13, od13, .func (PySem.W.fnOf "along" "along" (defArgs s_along) (defBody s_along) (defScope s_along) .none kV13 dc13 pm13 an13 cd13 ct13), sl13⟩) (c13 : PySem.W.codeIn K cd13 "along" = true) (k13 : PySem.W.keepIn K (.ref f13) = true)
    (a14 : PySem.W.nsIn K mainGlobals "merged" = some (some (.ref f14))) (l14 : K.lookup f14 = some ⟨oc14, od14, .func (PySem.W.fnOf "merged" "merged" (defArgs s_merged) (defBody s_merged) (defScope s_merged) .none kV14 dc14 pm14 an14 cd14 ct14), sl14⟩) (c14 : PySem.W.codeIn K cd14 "merged" = true) (k14 : PySem.W.keepIn K (.ref f14) = true)
    (a15 : PySem.W.nsIn K mainGlobals "all_merged" = some (some (.ref f15))) (l15 : K.lookup f15 = some ⟨oc15, od15, .func (PySem.W.fnOf "all_merged" "all_merged" (defArgs s_all_merged) (defBody s_all_merged) (defScope s_all_merged) .none kV15 dc15 pm15 an15 cd15 ct15), sl15⟩) (c15 : PySem.W.codeIn K cd15 "all_merged" = true) (k15 : PySem.W.keepIn K (.ref f15) = true)
    (a16 : PySem.W.nsIn K mainGlobals "is_told" = some (some (.ref f16))) (l16 : K.lookup f16 = some ⟨oc16, od16, .func (PySem.W.fnOf "is_told" "is_told" (defArgs s_is_told) (defBody s_is_told) (defScope s_is_told) .none kV16 dc16 pm16 an16 cd16 ct16), sl16⟩) (c16 : PySem.W.codeIn K cd16 "is_told" = true) (k16 : PySem.W.keepIn K (.ref f16) = true)
    (a17 : PySem.W.nsIn K mainGlobals "common_base" = some (some (.ref f17))) (l17 : K.lookup f17 = some ⟨oc17, od17, .func (PySem.W.fnOf "common_base" "common_base" (defArgs s_common_base) (defBody s_common_base) (defScope s_common_base) .none kV17 dc17 pm17 an17 cd17 ct17), sl17⟩) (c17 : PySem.W.codeIn K cd17 "common_base" = true) (k17 : PySem.W.keepIn K (.ref f17) = true)
    (a18 : PySem.W.nsIn K mainGlobals "left_by" = some (some (.ref f18))) (l18 : K.lookup f18 = some ⟨oc18, od18, .func (PySem.W.fnOf "left_by" "left_by" (defArgs s_left_by) (defBody s_left_by) (defScope s_left_by) .none kV18 dc18 pm18 an18 cd18 ct18), sl18⟩) (c18 : PySem.W.codeIn K cd18 "left_by" = true) (k18 : PySem.W.keepIn K (.ref f18) = true)
    (a19 : PySem.W.nsIn K mainGlobals "quarrelling_pairs" = some (some (.ref f19))) (l19 : K.lookup f19 = some ⟨oc19, od19, .func (PySem.W.fnOf "quarrelling_pairs" "quarrelling_pairs" (defArgs s_quarrelling_pairs) (defBody s_quarrelling_pairs) (defScope s_quarrelling_pairs) .none kV19 dc19 pm19 an19 cd19 ct19), sl19⟩) (c19 : PySem.W.codeIn K cd19 "quarrelling_pairs" = true) (k19 : PySem.W.keepIn K (.ref f19) = true)
    (a20 : PySem.W.nsIn K mainGlobals "joined" = some (some (.ref f20))) (l20 : K.lookup f20 = some ⟨oc20, od20, .func (PySem.W.fnOf "joined" "joined" (defArgs s_joined) (defBody s_joined) (defScope s_joined) .none kV20 dc20 pm20 an20 cd20 ct20), sl20⟩) (c20 : PySem.W.codeIn K cd20 "joined" = true) (k20 : PySem.W.keepIn K (.ref f20) = true)
    (a21 : PySem.W.nsIn K mainGlobals "rest_by" = some (some (.ref f21))) (l21 : K.lookup f21 = some ⟨oc21, od21, .func (PySem.W.fnOf "rest_by" "rest_by" (defArgs s_rest_by) (defBody s_rest_by) (defScope s_rest_by) .none kV21 dc21 pm21 an21 cd21 ct21), sl21⟩) (c21 : PySem.W.codeIn K cd21 "rest_by" = true) (k21 : PySem.W.keepIn K (.ref f21) = true)
    (a22 : PySem.W.nsIn K mainGlobals "tells" = some (some (.ref f22))) (l22 : K.lookup f22 = some ⟨oc22, od22, .func (PySem.W.fnOf "tells" "tells" (defArgs s_tells) (defBody s_tells) (defScope s_tells) .none kV22 dc22 pm22 an22 cd22 ct22), sl22⟩) (c22 : PySem.W.codeIn K cd22 "tells" = true) (k22 : PySem.W.keepIn K (.ref f22) = true)
    (a23 : PySem.W.nsIn K mainGlobals "needless" = some (some (.ref f23))) (l23 : K.lookup f23 = some ⟨oc23, od23, .func (PySem.W.fnOf "needless" "needless" (defArgs s_needless) (defBody s_needless) (defScope s_needless) .none kV23 dc23 pm23 an23 cd23 ct23), sl23⟩) (c23 : PySem.W.codeIn K cd23 "needless" = true) (k23 : PySem.W.keepIn K (.ref f23) = true)
    (a24 : PySem.W.nsIn K mainGlobals "_check_no_quarrel" = some (some (.ref f24))) (l24 : K.lookup f24 = some ⟨oc24, od24, .func (PySem.W.fnOf "_check_no_quarrel" "_check_no_quarrel" (defArgs s__check_no_quarrel) (defBody s__check_no_quarrel) (defScope s__check_no_quarrel) .none kV24 dc24 pm24 an24 cd24 ct24), sl24⟩) (c24 : PySem.W.codeIn K cd24 "_check_no_quarrel" = true) (k24 : PySem.W.keepIn K (.ref f24) = true)
    (a25 : PySem.W.nsIn K mainGlobals "_made_by" = some (some (.ref f25))) (l25 : K.lookup f25 = some ⟨oc25, od25, .func (PySem.W.fnOf "_made_by" "_made_by" (defArgs s__made_by) (defBody s__made_by) (defScope s__made_by) .none kV25 dc25 pm25 an25 cd25 ct25), sl25⟩) (c25 : PySem.W.codeIn K cd25 "_made_by" = true) (k25 : PySem.W.keepIn K (.ref f25) = true)
    (a26 : PySem.W.nsIn K mainGlobals "_is_needless" = some (some (.ref f26))) (l26 : K.lookup f26 = some ⟨oc26, od26, .func (PySem.W.fnOf "_is_needless" "_is_needless" (defArgs s__is_needless) (defBody s__is_needless) (defScope s__is_needless) .none kV26 dc26 pm26 an26 cd26 ct26), sl26⟩) (c26 : PySem.W.codeIn K cd26 "_is_needless" = true) (k26 : PySem.W.keepIn K (.ref f26) = true)
    (a27 : PySem.W.nsIn K mainGlobals "_law_jug" = some (some (.ref f27))) (l27 : K.lookup f27 = some ⟨oc27, od27, .func (PySem.W.fnOf "_law_jug" "_law_jug" (defArgs s__law_jug) (defBody s__law_jug) (defScope s__law_jug) .none kV27 dc27 pm27 an27 cd27 ct27), sl27⟩) (c27 : PySem.W.codeIn K cd27 "_law_jug" = true) (k27 : PySem.W.keepIn K (.ref f27) = true)
    (a28 : PySem.W.nsIn K mainGlobals "_law_pour" = some (some (.ref f28))) (l28 : K.lookup f28 = some ⟨oc28, od28, .func (PySem.W.fnOf "_law_pour" "_law_pour" (defArgs s__law_pour) (defBody s__law_pour) (defScope s__law_pour) .none kV28 dc28 pm28 an28 cd28 ct28), sl28⟩) (c28 : PySem.W.codeIn K cd28 "_law_pour" = true) (k28 : PySem.W.keepIn K (.ref f28) = true)
    (a29 : PySem.W.nsIn K mainGlobals "_law_one_of" = some (some (.ref f29))) (l29 : K.lookup f29 = some ⟨oc29, od29, .func (PySem.W.fnOf "_law_one_of" "_law_one_of" (defArgs s__law_one_of) (defBody s__law_one_of) (defScope s__law_one_of) .none kV29 dc29 pm29 an29 cd29 ct29), sl29⟩) (c29 : PySem.W.codeIn K cd29 "_law_one_of" = true) (k29 : PySem.W.keepIn K (.ref f29) = true)
    (a30 : PySem.W.nsIn K mainGlobals "_law_pairs" = some (some (.ref f30))) (l30 : K.lookup f30 = some ⟨oc30, od30, .func (PySem.W.fnOf "_law_pairs" "_law_pairs" (defArgs s__law_pairs) (defBody s__law_pairs) (defScope s__law_pairs) .none kV30 dc30 pm30 an30 cd30 ct30), sl30⟩) (c30 : PySem.W.codeIn K cd30 "_law_pairs" = true) (k30 : PySem.W.keepIn K (.ref f30) = true)
    (a31 : PySem.W.nsIn K mainGlobals "_law_pairs_of" = some (some (.ref f31))) (l31 : K.lookup f31 = some ⟨oc31, od31, .func (PySem.W.fnOf "_law_pairs_of" "_law_pairs_of" (defArgs s__law_pairs_of) (defBody s__law_pairs_of) (defScope s__law_pairs_of) .none kV31 dc31 pm31 an31 cd31 ct31), sl31⟩) (c31 : PySem.W.codeIn K cd31 "_law_pairs_of" = true) (k31 : PySem.W.keepIn K (.ref f31) = true)
    (a32 : PySem.W.nsIn K mainGlobals "_law_shared" = some (some (.ref f32))) (l32 : K.lookup f32 = some ⟨oc32, od32, .func (PySem.W.fnOf "_law_shared" "_law_shared" (defArgs s__law_shared) (defBody s__law_shared) (defScope s__law_shared) .none kV32 dc32 pm32 an32 cd32 ct32), sl32⟩) (c32 : PySem.W.codeIn K cd32 "_law_shared" = true) (k32 : PySem.W.keepIn K (.ref f32) = true)
    (a33 : PySem.W.nsIn K mainGlobals "_law_round" = some (some (.ref f33))) (l33 : K.lookup f33 = some ⟨oc33, od33, .func (PySem.W.fnOf "_law_round" "_law_round" (defArgs s__law_round) (defBody s__law_round) (defScope s__law_round) .none kV33 dc33 pm33 an33 cd33 ct33), sl33⟩) (c33 : PySem.W.codeIn K cd33 "_law_round" = true) (k33 : PySem.W.keepIn K (.ref f33) = true)
    (a34 : PySem.W.nsIn K mainGlobals "_law_fit" = some (some (.ref f34))) (l34 : K.lookup f34 = some ⟨oc34, od34, .func (PySem.W.fnOf "_law_fit" "_law_fit" (defArgs s__law_fit) (defBody s__law_fit) (defScope s__law_fit) .none kV34 dc34 pm34 an34 cd34 ct34), sl34⟩) (c34 : PySem.W.codeIn K cd34 "_law_fit" = true) (k34 : PySem.W.keepIn K (.ref f34) = true)
    (a35 : PySem.W.nsIn K mainGlobals "_law_fitting" = some (some (.ref f35))) (l35 : K.lookup f35 = some ⟨oc35, od35, .func (PySem.W.fnOf "_law_fitting" "_law_fitting" (defArgs s__law_fitting) (defBody s__law_fitting) (defScope s__law_fitting) .none kV35 dc35 pm35 an35 cd35 ct35), sl35⟩) (c35 : PySem.W.codeIn K cd35 "_law_fitting" = true) (k35 : PySem.W.keepIn K (.ref f35) = true)
    (a36 : PySem.W.nsIn K mainGlobals "_law_rests" = some (some (.ref f36))) (l36 : K.lookup f36 = some ⟨oc36, od36, .func (PySem.W.fnOf "_law_rests" "_law_rests" (defArgs s__law_rests) (defBody s__law_rests) (defScope s__law_rests) .none kV36 dc36 pm36 an36 cd36 ct36), sl36⟩) (c36 : PySem.W.codeIn K cd36 "_law_rests" = true) (k36 : PySem.W.keepIn K (.ref f36) = true)
    (a37 : PySem.W.nsIn K mainGlobals "_law_rest_right" = some (some (.ref f37))) (l37 : K.lookup f37 = some ⟨oc37, od37, .func (PySem.W.fnOf "_law_rest_right" "_law_rest_right" (defArgs s__law_rest_right) (defBody s__law_rest_right) (defScope s__law_rest_right) .none kV37 dc37 pm37 an37 cd37 ct37), sl37⟩) (c37 : PySem.W.codeIn K cd37 "_law_rest_right" = true) (k37 : PySem.W.keepIn K (.ref f37) = true)
    (a38 : PySem.W.nsIn K mainGlobals "_law_fact_right" = some (some (.ref f38))) (l38 : K.lookup f38 = some ⟨oc38, od38, .func (PySem.W.fnOf "_law_fact_right" "_law_fact_right" (defArgs s__law_fact_right) (defBody s__law_fact_right) (defScope s__law_fact_right) .none kV38 dc38 pm38 an38 cd38 ct38), sl38⟩) (c38 : PySem.W.codeIn K cd38 "_law_fact_right" = true) (k38 : PySem.W.keepIn K (.ref f38) = true)
    (a39 : PySem.W.nsIn K mainGlobals "_law_needless_right" = some (some (.ref f39))) (l39 : K.lookup f39 = some ⟨oc39, od39, .func (PySem.W.fnOf "_law_needless_right" "_law_needless_right" (defArgs s__law_needless_right) (defBody s__law_needless_right) (defScope s__law_needless_right) .none kV39 dc39 pm39 an39 cd39 ct39), sl39⟩) (c39 : PySem.W.codeIn K cd39 "_law_needless_right" = true) (k39 : PySem.W.keepIn K (.ref f39) = true)
    (a40 : PySem.W.nsIn K mainGlobals "_law_right" = some (some (.ref f40))) (l40 : K.lookup f40 = some ⟨oc40, od40, .func (PySem.W.fnOf "_law_right" "_law_right" (defArgs s__law_right) (defBody s__law_right) (defScope s__law_right) .none kV40 dc40 pm40 an40 cd40 ct40), sl40⟩) (c40 : PySem.W.codeIn K cd40 "_law_right" = true) (k40 : PySem.W.keepIn K (.ref f40) = true)
    (a41 : PySem.W.nsIn K mainGlobals "law" = some (some (.ref f41))) (l41 : K.lookup f41 = some ⟨oc41, od41, .func (PySem.W.fnOf "law" "law" (defArgs s_law) (defBody s_law) (defScope s_law) .none kV41 dc41 pm41 an41 cd41 ct41), sl41⟩) (c41 : PySem.W.codeIn K cd41 "law" = true) (k41 : PySem.W.keepIn K (.ref f41) = true)
    (m_gcd : PySem.W.nsIn K mainGlobals "gcd" = some (some (.builtin "math.gcd")))
    (m_lcm : PySem.W.nsIn K mainGlobals "lcm" = some (some (.builtin "math.lcm")))
    (q_MOST_FACT : PySem.W.nsIn K mainGlobals "MOST_FACT" = some (some (.int (1000000000000000000000000000000) t_MOST_FACT)))
    (q_MOST_BASE : PySem.W.nsIn K mainGlobals "MOST_BASE" = some (some (.int (1000000000000) t_MOST_BASE)))
    (q_MOST_FACTS : PySem.W.nsIn K mainGlobals "MOST_FACTS" = some (some (.int (40) t_MOST_FACTS)))
    (b_abs : PySem.W.nsIn K mainGlobals "abs" = some none)
    (b_all : PySem.W.nsIn K mainGlobals "all" = some none)
    (b_bool : PySem.W.nsIn K mainGlobals "bool" = some none)
    (b_divmod : PySem.W.nsIn K mainGlobals "divmod" = some none)
    (b_enumerate : PySem.W.nsIn K mainGlobals "enumerate" = some none)
    (b_int : PySem.W.nsIn K mainGlobals "int" = some none)
    (b_isinstance : PySem.W.nsIn K mainGlobals "isinstance" = some none)
    (b_len : PySem.W.nsIn K mainGlobals "len" = some none)
    (b_max : PySem.W.nsIn K mainGlobals "max" = some none)
    (b_min : PySem.W.nsIn K mainGlobals "min" = some none)
    (b_range : PySem.W.nsIn K mainGlobals "range" = some none)
    (b_repr : PySem.W.nsIn K mainGlobals "repr" = some none)
    (b_set : PySem.W.nsIn K mainGlobals "set" = some none)
    (b_sorted : PySem.W.nsIn K mainGlobals "sorted" = some none)
    (b_tuple : PySem.W.nsIn K mainGlobals "tuple" = some none)
    (g_Quarrel : PySem.W.nsIn K mainGlobals "Quarrel" = some (some (.ref x_Quarrel)))
    (l_Quarrel : K.lookup x_Quarrel = some (excClassObj nm_Quarrel qn_Quarrel x_Quarrel N_Quarrel bs_Quarrel bm_Quarrel true sn_Quarrel sub_Quarrel ab_Quarrel col_Quarrel dd_Quarrel k0_Quarrel k1_Quarrel k2_Quarrel k3_Quarrel k5_Quarrel "ArithmeticError.__new__"))
    (t_Quarrel : PySem.W.excTail [.type "ArithmeticError", .type "Exception", .type "BaseException", .type "object"] bm_Quarrel = true)
    (s_Quarrel : PySem.W.findIn K (.ref x_Quarrel) "__setattr__" = some (some (.builtin "object.__setattr__")))
    (ga_Quarrel : PySem.W.findIn K (.ref x_Quarrel) "__getattribute__" = some (some (.builtin "BaseException.__getattribute__")))
    (gg_Quarrel : PySem.W.findIn K (.ref x_Quarrel) "__getattr__" = some none)
    (b_Quarrel : PySem.W.subIn K (.ref x_Quarrel) (.type "BaseException") = some true)
    (h_Quarrel : PySem.W.hasDictIn K x_Quarrel = true)
    (ty_Quarrel : PySem.W.typeIn K (.ref x_Quarrel) = some (.type "type"))
    (kp_Quarrel : PySem.W.keepIn K (.ref x_Quarrel) = true)
    (n_Quarrel_first : PySem.W.findIn K (.ref x_Quarrel) "first" = some none)
    (n_Quarrel_second : PySem.W.findIn K (.ref x_Quarrel) "second" = some none)
    (i_Quarrel : PySem.W.findIn K (.ref x_Quarrel) "__init__" = some (some (.ref fI_Quarrel)))
    (ti_Quarrel : PySem.W.typeIn K (.ref fI_Quarrel) = some (.type "function"))
    (li_Quarrel : K.lookup fI_Quarrel = some ⟨ocI_Quarrel, odI_Quarrel, .func (PySem.W.fnOf "__init__" "Quarrel.__init__" (defArgs si_Quarrel) (defBody si_Quarrel) (defScope si_Quarrel) .none kVI_Quarrel dcI_Quarrel pmI_Quarrel anI_Quarrel cdI_Quarrel ctI_Quarrel), slI_Quarrel⟩)
    (ci_Quarrel : PySem.W.codeIn K cdI_Quarrel "Quarrel.__init__" = true)
    (ki_Quarrel : PySem.W.keepIn K (.ref fI_Quarrel) = true)
    (e_Quarrel_Quarrel : PySem.W.subIn K (.ref x_Quarrel) (.ref x_Quarrel) = some true) : Top K mg where
  g_Quarrel := by rw [cA_eq (PySem.W.mg_of X G g_Quarrel)]; exact PySem.W.mg_of X G g_Quarrel
  ec_Quarrel := by rw [cA_eq (PySem.W.mg_of X G g_Quarrel)]; exact ⟨⟨_, _, _, _, _, _, _, _, _, _, _, _, _, _, _, l_Quarrel, t_Quarrel⟩, s_Quarrel, ⟨ga_Quarrel, gg_Quarrel, b_Quarrel, h_Quarrel⟩, ty_Quarrel, kp_Quarrel⟩
  n_Quarrel_first := by rw [cA_eq (PySem.W.mg_of X G g_Quarrel)]; exact n_Quarrel_first
  n_Quarrel_second := by rw [cA_eq (PySem.W.mg_of X G g_Quarrel)]; exact n_Quarrel_second
  fi_Quarrel := by rw [cA_eq (PySem.W.mg_of X G g_Quarrel)]; exact ⟨_, _, i_Quarrel, ti_Quarrel, fun_mk (st := si_Quarrel) li_Quarrel ci_Quarrel ki_Quarrel⟩
  e_Quarrel_Quarrel := by rw [cA_eq (PySem.W.mg_of X G g_Quarrel)]; exact exm_cls b_Quarrel h_Quarrel ty_Quarrel e_Quarrel_Quarrel
  d_is_integer := ⟨_, _, fun_mk (st := s_is_integer) l0 c0 k0, PySem.W.mg_of X G a0⟩
  d_is_within := ⟨_, _, fun_mk (st := s_is_within) l1 c1 k1, PySem.W.mg_of X G a1⟩
  d_check_within := ⟨_, _, fun_mk (st := s_check_within) l2 c2 k2, PySem.W.mg_of X G a2⟩
  d_check_base := ⟨_, _, fun_mk (st := s_check_base) l3 c3 k3, PySem.W.mg_of X G a3⟩
  d_is_fact := ⟨_, _, fun_mk (st := s_is_fact) l4 c4 k4, PySem.W.mg_of X G a4⟩
  d_check_fact := ⟨_, _, fun_mk (st := s_check_fact) l5 c5 k5, PySem.W.mg_of X G a5⟩
  d_check_facts := ⟨_, _, fun_mk (st := s_check_facts) l6 c6 k6, PySem.W.mg_of X G a6⟩
  d__check_each_fact := ⟨_, _, fun_mk (st := s__check_each_fact) l7 c7 k7, PySem.W.mg_of X G a7⟩
  d__first_wrong_fact := ⟨_, _, fun_mk (st := s__first_wrong_fact) l8 c8 k8, PySem.W.mg_of X G a8⟩
  d_bezout := ⟨_, _, fun_mk (st := s_bezout) l9 c9 k9, PySem.W.mg_of X G a9⟩
  d_inverse := ⟨_, _, fun_mk (st := s_inverse) l10 c10 k10, PySem.W.mg_of X G a10⟩
  d_is_fitting := ⟨_, _, fun_mk (st := s_is_fitting) l11 c11 k11, PySem.W.mg_of X G a11⟩
  d_are_quarrelling := ⟨_, _, fun_mk (st := s_are_quarrelling) l12 c12 k12, PySem.W.mg_of X G a12⟩
  d_along := ⟨_, _, fun_mk (st := s_along) l13 c13 k13, PySem.W.mg_of X G a13⟩
  d_merged := ⟨_, _, fun_mk (st := s_merged) l14 c14 k14, PySem.W.mg_of X G a14⟩
  d_all_merged := ⟨_, _, fun_mk (st := s_all_merged) l15 c15 k15, PySem.W.mg_of X G a15⟩
  d_is_told := ⟨_, _, fun_mk (st := s_is_told) l16 c16 k16, PySem.W.mg_of X G a16⟩
  d_common_base := ⟨_, _, fun_mk (st := s_common_base) l17 c17 k17, PySem.W.mg_of X G a17⟩
  d_left_by := ⟨_, _, fun_mk (st := s_left_by) l18 c18 k18, PySem.W.mg_of X G a18⟩
  d_quarrelling_pairs := ⟨_, _, fun_mk (st := s_quarrelling_pairs) l19 c19 k19, PySem.W.mg_of X G a19⟩
  d_joined := ⟨_, _, fun_mk (st := s_joined) l20 c20 k20, PySem.W.mg_of X G a20⟩
  d_rest_by := ⟨_, _, fun_mk (st := s_rest_by) l21 c21 k21, PySem.W.mg_of X G a21⟩
  d_tells := ⟨_, _, fun_mk (st := s_tells) l22 c22 k22, PySem.W.mg_of X G a22⟩
  d_needless := ⟨_, _, fun_mk (st := s_needless) l23 c23 k23, PySem.W.mg_of X G a23⟩
  d__check_no_quarrel := ⟨_, _, fun_mk (st := s__check_no_quarrel) l24 c24 k24, PySem.W.mg_of X G a24⟩
  d__made_by := ⟨_, _, fun_mk (st := s__made_by) l25 c25 k25, PySem.W.mg_of X G a25⟩
  d__is_needless := ⟨_, _, fun_mk (st := s__is_needless) l26 c26 k26, PySem.W.mg_of X G a26⟩
  d__law_jug := ⟨_, _, fun_mk (st := s__law_jug) l27 c27 k27, PySem.W.mg_of X G a27⟩
  d__law_pour := ⟨_, _, fun_mk (st := s__law_pour) l28 c28 k28, PySem.W.mg_of X G a28⟩
  d__law_one_of := ⟨_, _, fun_mk (st := s__law_one_of) l29 c29 k29, PySem.W.mg_of X G a29⟩
  d__law_pairs := ⟨_, _, fun_mk (st := s__law_pairs) l30 c30 k30, PySem.W.mg_of X G a30⟩
  d__law_pairs_of := ⟨_, _, fun_mk (st := s__law_pairs_of) l31 c31 k31, PySem.W.mg_of X G a31⟩
  d__law_shared := ⟨_, _, fun_mk (st := s__law_shared) l32 c32 k32, PySem.W.mg_of X G a32⟩
  d__law_round := ⟨_, _, fun_mk (st := s__law_round) l33 c33 k33, PySem.W.mg_of X G a33⟩
  d__law_fit := ⟨_, _, fun_mk (st := s__law_fit) l34 c34 k34, PySem.W.mg_of X G a34⟩
  d__law_fitting := ⟨_, _, fun_mk (st := s__law_fitting) l35 c35 k35, PySem.W.mg_of X G a35⟩
  d__law_rests := ⟨_, _, fun_mk (st := s__law_rests) l36 c36 k36, PySem.W.mg_of X G a36⟩
  d__law_rest_right := ⟨_, _, fun_mk (st := s__law_rest_right) l37 c37 k37, PySem.W.mg_of X G a37⟩
  d__law_fact_right := ⟨_, _, fun_mk (st := s__law_fact_right) l38 c38 k38, PySem.W.mg_of X G a38⟩
  d__law_needless_right := ⟨_, _, fun_mk (st := s__law_needless_right) l39 c39 k39, PySem.W.mg_of X G a39⟩
  d__law_right := ⟨_, _, fun_mk (st := s__law_right) l40 c40 k40, PySem.W.mg_of X G a40⟩
  d_law := ⟨_, _, fun_mk (st := s_law) l41 c41 k41, PySem.W.mg_of X G a41⟩
  m_gcd := PySem.W.mg_of X G m_gcd
  m_lcm := PySem.W.mg_of X G m_lcm
  c_MOST_FACT := ⟨_, PySem.W.mg_of X G q_MOST_FACT⟩
  c_MOST_BASE := ⟨_, PySem.W.mg_of X G q_MOST_BASE⟩
  c_MOST_FACTS := ⟨_, PySem.W.mg_of X G q_MOST_FACTS⟩
  b_abs := PySem.W.mg_none_of X G b_abs
  b_all := PySem.W.mg_none_of X G b_all
  b_bool := PySem.W.mg_none_of X G b_bool
  b_divmod := PySem.W.mg_none_of X G b_divmod
  b_enumerate := PySem.W.mg_none_of X G b_enumerate
  b_int := PySem.W.mg_none_of X G b_int
  b_isinstance := PySem.W.mg_none_of X G b_isinstance
  b_len := PySem.W.mg_none_of X G b_len
  b_max := PySem.W.mg_none_of X G b_max
  b_min := PySem.W.mg_none_of X G b_min
  b_range := PySem.W.mg_none_of X G b_range
  b_repr := PySem.W.mg_none_of X G b_repr
  b_set := PySem.W.mg_none_of X G b_set
  b_sorted := PySem.W.mg_none_of X G b_sorted
  b_tuple := PySem.W.mg_none_of X G b_tuple
local macro_rules | `(tactic| walk_at "vat") => `(tactic| first
  | assumption
  | exact upd_same
  | (refine at_new (by assumption) ?_; walk_at "vat")
  | (refine at_same (by assumption) ?_; walk_at "vat")
  | (refine at_ne (by first | assumption | exact Ne.symm (by assumption)) ?_; walk_at "vat")
  | (refine at_kx (by assumption) (by first | assumption | exact Ne.symm (by assumption)) ?_; walk_at "vat"))
local macro_rules | `(tactic| walk_at "vsq") => `(tactic| first
  | assumption
  | (exact SqL.of (by walk_at "vat"))
  | (exact SqT.of (by walk_at "vat"))
  | (refine new_list (by assumption) ?_; walk_at "vsq")
  | (refine new_tup (by assumption) ?_; walk_at "vsq")
  | (refine Same.list (by assumption) ?_; walk_at "vsq")
  | (refine Same.tup (by assumption) ?_; walk_at "vsq")
  | (refine ne_list (by first | assumption | exact Ne.symm (by assumption)) ?_; walk_at "vsq")
  | (refine ne_tup (by first | assumption | exact Ne.symm (by assumption)) ?_; walk_at "vsq")
  | (refine Kx.list (by assumption) (by first | assumption | exact Ne.symm (by assumption)) ?_; walk_at "vsq")
  | (refine Kx.tup (by assumption) (by first | assumption | exact Ne.symm (by assumption)) ?_; walk_at "vsq"))
local macro_rules | `(tactic| walk_at "vsame") => `(tactic| first
  | exact Same.refl _
  | assumption
  | (refine Same.trans ?_ (Same.new (by assumption)); walk_at "vsame")
  | (refine Same.trans ?_ (by assumption); walk_at "vsame"))
local macro_rules | `(tactic| walk_at "vnone") => `(tactic| first
  | assumption
  | (refine none_up (by assumption))
  | (refine none_same (by assumption) ?_; walk_at "vnone"))
local macro_rules | `(tactic| walk_at "s") => `(tactic| first
  | (with_reducible refine r_seq ?_)
  | (with_reducible refine r_asg ?_)
  | (with_reducible refine r_name ?_)
  | ((with_reducible refine r_var (v := ?kv) ?k1 ?_); (case k1 => exact rfl))
  | (with_reducible refine r_c ?_)
  | (with_reducible refine r_yes ?_)
  | (with_reducible refine r_op ?_)
  | (with_reducible refine r_un ?_)
  | (with_reducible refine r_rI0 ?_)
  | (with_reducible refine r_rU ?_)
  | (with_reducible refine r_test ?_)
  | (with_reducible refine r_B ?_)
  | (with_reducible refine r_ret ?_)
  | (with_reducible refine r_drop ?_)
  | (with_reducible refine r_cons ?_)
  | (with_reducible refine r_nil ?_)
  | (with_reducible refine r_call ?_)
  | (with_reducible refine r_callK ?_)
  | (with_reducible refine r_callW ?_)
  | (with_reducible refine r_callKW ?_)
  | (with_reducible refine r_xf ?_)
  | (with_reducible refine r_forQ ?_)
  | (with_reducible refine r_lcQ ?_)
  | (with_reducible refine r_isn_ref ?_)
  | (with_reducible refine r_isn_int ?_)
  | (with_reducible refine r_isn_non ?_)
  | (with_reducible refine r_nn_ref ?_)
  | (with_reducible refine r_nn_int ?_)
  | (with_reducible refine r_nn_non ?_)
  | (with_reducible refine r_cb ?_)
  | (with_reducible refine r_tup ?_)
  | (with_reducible refine r_lst ?_)
  | (with_reducible refine r_and ?_)
  | (with_reducible refine r_or ?_)
  | (with_reducible refine r_not ?_)
  | (with_reducible refine r_andV ?_)
  | (with_reducible refine r_orV ?_)
  | (with_reducible refine r_notV ?_)
  | (with_reducible refine r_chain ?_)
  | (with_reducible refine r_gcd ?_)
  | (with_reducible refine r_abs ?_)
  | (with_reducible refine r_max2 ?_)
  | (with_reducible refine r_min2 ?_)
  | (with_reducible refine r_int1 ?_)
  | ((with_reducible refine r_lenL (xs := ?kx) ?k1 ?_); (case k1 => walk_at "vsq"))
  | ((with_reducible refine r_lenT (xs := ?kx) ?k1 ?_); (case k1 => walk_at "vsq"))
  | (with_reducible refine is_int_int ?_)
  | (with_reducible refine is_int_bool ?_)
  | (with_reducible refine is_int_tuple ?_)
  | (with_reducible refine is_int_list ?_)
  | (with_reducible refine is_int_str ?_)
  | (with_reducible refine is_bool_int ?_)
  | (with_reducible refine is_bool_bool ?_)
  | (with_reducible refine is_bool_tuple ?_)
  | (with_reducible refine is_bool_list ?_)
  | (with_reducible refine is_bool_str ?_)
  | (with_reducible refine is_NoneType_int ?_)
  | (with_reducible refine is_NoneType_bool ?_)
  | (with_reducible refine is_NoneType_tuple ?_)
  | (with_reducible refine is_NoneType_list ?_)
  | (with_reducible refine is_NoneType_str ?_)
  | (with_reducible refine is_str_int ?_)
  | (with_reducible refine is_str_bool ?_)
  | (with_reducible refine is_str_tuple ?_)
  | (with_reducible refine is_str_list ?_)
  | (with_reducible refine is_str_str ?_)
  | ((with_reducible refine is_tuple_int (xs := ?kx) ?k1 ?_); (case k1 => walk_at "vat"))
  | ((with_reducible refine is_tuple_bool (xs := ?kx) ?k1 ?_); (case k1 => walk_at "vat"))
  | ((with_reducible refine is_tuple_tuple (xs := ?kx) ?k1 ?_); (case k1 => walk_at "vat"))
  | ((with_reducible refine is_tuple_list (xs := ?kx) ?k1 ?_); (case k1 => walk_at "vat"))
  | ((with_reducible refine is_tuple_str (xs := ?kx) ?k1 ?_); (case k1 => walk_at "vat"))
  | ((with_reducible refine is_list_int (xs := ?kx) ?k1 ?_); (case k1 => walk_at "vat"))
  | ((with_reducible refine is_list_bool (xs := ?kx) ?k1 ?_); (case k1 => walk_at "vat"))
  | ((with_reducible refine is_list_tuple (xs := ?kx) ?k1 ?_); (case k1 => walk_at "vat"))
  | ((with_reducible refine is_list_list (xs := ?kx) ?k1 ?_); (case k1 => walk_at "vat"))
  | ((with_reducible refine is_list_str (xs := ?kx) ?k1 ?_); (case k1 => walk_at "vat"))
  | (with_reducible refine r_par ?_)
  | (with_reducible refine r_par3 ?_)
  | ((with_reducible refine r_aug (x := ?kv) ?k1 ?_); (case k1 => exact rfl))
  | (with_reducible refine r_ip ?_)
  | (with_reducible refine r_gsub ?_)
  | ((with_reducible refine r_gtup (xs := ?kx) ?k1 ?k2 ?_); (case k1 => walk_at "vsq"); (case k2 => exact rfl))
  | (with_reducible refine r_gcons ?_)
  | (with_reducible refine And.intro (small (Nat.le_of_ble_eq_true rfl)) (fun _ _ => ?_))
  | (with_reducible refine r_gnil ?_)
  | (with_reducible refine And.intro (Exists.intro _ (by walk_at "vsq")) ?_)
  | (with_reducible refine r_wb ?_)
  | (with_reducible refine r_for1 ?_)
  | (with_reducible refine r_for2 ?_)
  | (with_reducible refine r_forL ?_)
  | (with_reducible refine r_forT ?_)
  | (with_reducible refine r_lcR1 ?_)
  | (with_reducible refine r_lcR2 ?_)
  | (with_reducible refine r_lcL ?_)
  | (with_reducible refine r_lcT ?_)
  | (with_reducible refine r_lcZ3i ?_)
  | (with_reducible refine r_sl ?_)
  | (with_reducible refine r_noPart ?_)
  | (with_reducible refine r_part ?_)
  | (with_reducible refine r_forE ?_)
  | (with_reducible refine r_forZn ?_)
  | (with_reducible refine r_forZa ?_)
  | (with_reducible refine tru_int ?_)
  | (with_reducible refine r_bm ?_)
  | (with_reducible refine r_lc2R1 ?_)
  | (with_reducible refine r_next ?_)
  | (with_reducible refine r_break ?_)
  | (with_reducible refine r_cont ?_)
  | (with_reducible refine r_retN ?_)
  | (with_reducible refine Exists.intro _ (And.intro rfl ?_))
  | (with_reducible refine Exists.intro _ (Exists.intro _ (And.intro rfl ?_)))
  | (with_reducible refine Exists.intro _ (Exists.intro _ (And.intro rfl (And.intro rfl ?_))))
  | (with_reducible refine Exists.intro _ (Exists.intro _ (Exists.intro _ (And.intro rfl ?_))))
  | (with_reducible refine ifTT ?_)
  | (with_reducible refine ifFF ?_)
  | (with_reducible refine ifNT ?_)
  | (with_reducible refine ifNF ?_)
  | dsimp only)
local macro_rules | `(tactic| walk_at "go") => `(tactic| repeat walk_at "s")
local macro_rules | `(tactic| walk_at "gi") => `(tactic| repeat first | walk_at "s" | (with_reducible refine r_if ?_) | (with_reducible refine r_ifE ?_))
local macro_rules | `(tactic| walk_at "sti") => `(tactic| ((try dsimp only [cxOf]); walk_at "gi"))
local macro_rules | `(tactic| walk_at "st") => `(tactic| ((try dsimp only [cxOf]); walk_at "go"))
section
variable {P : Program} {w : World} {K : PySem.W.Frag} {mg : Str → Option Value} {base : Heap}
/-! ### the checks, of ints that are right -/
def sp_is_integer : Sp := fun vs H Q _ => ∃ i : Int, vs = [.int i] ∧ Q (.bl true) H
theorem ok_is_integer (T : Top K mg) : Ok P w K mg base 1 "is_integer" s_is_integer ["given"] sp_is_integer := by
  refine T.d_is_integer.ok sc_is_integer (fun vs H Q E h => ?_) (fun f cdv A outer s H vs Q E hg hr h => ?_)
  · obtain ⟨i, rfl, _⟩ := h
    rfl
  · obtain ⟨i, rfl, q⟩ := h
    refine ⟨_, (pss_one (ps_ret (pe_and (pe_callB (id := "isinstance") (c_isi rfl) (by rfl) T.b_isinstance (by decide +kernel) (pa_cons (pv 0) (pa_cons (pe_bltn (v := .ty "int") (by rfl) T.b_int (by decide +kernel) rfl) pa_nil))) (pe_one (pe_not (pe_callB (id := "isinstance") (c_isi rfl) (by rfl) T.b_isinstance (by decide +kernel) (pa_cons (pv 0) (pa_cons (pe_bltn (v := .ty "bool") (by rfl) T.b_bool (by decide +kernel) rfl) pa_nil)))))))), ?_⟩
    walk_at "sti"
    exact q
def sp_is_within : Sp := fun vs H Q _ => ∃ i a b : Int, vs = [.int i, .int a, .int b] ∧ Q (.bl (decide (a ≤ i ∧ i ≤ b))) H
theorem ok_is_within (T : Top K mg) : Ok P w K mg base 2 "is_within" s_is_within ["given", "least", "most"] sp_is_within := by
  have G_is_integer := ok_is_integer (P := P) (w := w) (base := base) T
  refine T.d_is_within.ok sc_is_within (fun vs H Q E h => ?_) (fun f cdv A outer s H vs Q E hg hr h => ?_)
  · obtain ⟨i, a, b, rfl, _⟩ := h
    rfl
  · obtain ⟨i, a, b, rfl, q⟩ := h
    refine ⟨_, (pss_one (ps_ret (pe_and (pe_g G_is_integer (fun _ _ F => bd_is_integer F) hg (hr.mono (by decide)) passL (by rfl) (pa_cons (pv 0) pa_nil)) (pe_one (pe_chain op_le op_le (pv 1) (pv 0) (pv 2)))))), ?_⟩
    walk_at "sti"
    refine ⟨i, rfl, ?_⟩
    walk_at "gi"
    refine ifd (fun c => ?_) (fun c => ?_)
    · walk_at "gi"
      rw [show decide (i ≤ b) = decide (a ≤ i ∧ i ≤ b) by simp [c]]
      exact q
    · rw [show decide (a ≤ i ∧ i ≤ b) = false by simp [c]] at q
      exact q
def sp_check_within : Sp := fun vs H Q _ => ∃ i a b : Int, vs = [.int i, .int a, .int b] ∧ a ≤ i ∧ i ≤ b ∧ Q .non H
theorem ok_check_within (T : Top K mg) : Ok P w K mg base 3 "check_within" s_check_within ["given", "least", "most"] sp_check_within := by
  have G_is_within := ok_is_within (P := P) (w := w) (base := base) T
  refine T.d_check_within.ok sc_check_within (fun vs H Q E h => ?_) (fun f cdv A outer s H vs Q E hg hr h => ?_)
  · obtain ⟨i, a, b, rfl, _⟩ := h
    rfl
  · obtain ⟨i, a, b, rfl, h1, h2, q⟩ := h
    refine ⟨_, (pss_one (ps_if (pt_not (pt_val (pe_g G_is_within (fun _ _ F => bd_is_within F) hg (hr.mono (by decide)) passL (by rfl) (pa_cons (pv 0) (pa_cons (pv 1) (pa_cons (pv 2) pa_nil)))))) (pss_one ps_never) pss_nil)), ?_⟩
    walk_at "sti"
    refine ⟨i, a, b, rfl, ?_⟩
    rw [decide_eq_true (show a ≤ i ∧ i ≤ b from ⟨h1, h2⟩)]
    walk_at "gi"
    exact q
def Nr (i : Int) : Prop := -(10 ^ 40) ≤ i ∧ i ≤ 10 ^ 40
def sp_is_fact (K : PySem.W.Frag) : Sp := fun vs H Q _ => ∃ (v : V) (p : Int × Int), vs = [v] ∧ PairAt K H v p ∧ Fact p ∧ Q (.bl true) H
theorem ok_is_fact (T : Top K mg) : Ok P w K mg base 3 "is_fact" s_is_fact ["given"] (sp_is_fact K) := by
  have G_is_within := ok_is_within (P := P) (w := w) (base := base) T
  refine T.d_is_fact.ok sc_is_fact (fun vs H Q E h => ?_) (fun f cdv A outer s H vs Q E hg hr h => ?_)
  · obtain ⟨v, p, rfl, _⟩ := h
    rfl
  · obtain ⟨v, p, rfl, ⟨t, rfl, st⟩, ⟨f1, f2, f3, f4⟩, q⟩ := h
    refine ⟨_, (pss_cons (ps_if (PW.pt (pw_or (pt_not (pt_val (pe_callB (id := "isinstance") (c_isi rfl) (by rfl) T.b_isinstance (by decide +kernel) (pa_cons (pv 0) (pa_cons (pe_bltn (v := .ty "tuple") (by rfl) T.b_tuple (by decide +kernel) rfl) pa_nil))))) (pw_or1 (pt_cmpR op_neZ (pe_callB (id := "len") (c_len rfl) (by rfl) T.b_len (by decide +kernel) (pa_cons (pv 0) pa_nil)) pe_int (nomark _))))) (pss_one ps_never) pss_nil)
    (pss_cons (ps_asg (pv 0) (g_tup rfl rfl (pgs_cons (pg_name (i := 1) sc_is_fact.nd rfl (.inl rfl)) (pgs_cons (pg_name (i := 2) sc_is_fact.nd rfl (.inl rfl)) pgs_nil)) rfl rfl))
    (pss_one (ps_ret (pe_and (pe_g G_is_within (fun _ _ F => bd_is_within F) hg (hr.mono (by decide)) passL (by rfl) (pa_cons (pv 2) (pa_cons pe_int (pa_cons (pe_gi T.c_MOST_FACT (by rfl)) pa_nil)))) (pe_one (pe_g G_is_within (fun _ _ F => bd_is_within F) hg (hr.mono (by decide)) passL (by rfl) (pa_cons (pv 1) (pa_cons pe_int (pa_cons (pe_op op_sub (pv 2) pe_int) pa_nil)))))))))), ?_⟩
    walk_at "sti"
    refine is_T_T st ?_
    walk_at "gi"
    refine ifnd (fun c => absurd rfl c) (fun _ => ?_)
    walk_at "gi"
    refine ⟨p.2, 1, _, rfl, ?_⟩
    rw [decide_eq_true (show 1 ≤ p.2 ∧ p.2 ≤ 1000000000000000000000000000000 from ⟨f1, by omega⟩)]
    walk_at "gi"
    refine ⟨p.1, 0, _, rfl, ?_⟩
    rw [decide_eq_true (show 0 ≤ p.1 ∧ p.1 ≤ p.2 - 1 from ⟨f3, by omega⟩)]
    exact q
def sp_first_wrong (K : PySem.W.Frag) : Sp := fun vs H Q _ => ∃ (a : Addr) (fs : List (Int × Int)) (m : Nat), vs = [.ref a, .int (m : Int)] ∧ FactsAt K H a fs ∧ fs.length ≤ m ∧ (∀ p ∈ fs, Fact p) ∧ ∀ H', Same H H' → Q .non H'
theorem ok__first_wrong_fact (T : Top K mg) : Ok P w K mg base 4 "_first_wrong_fact" s__first_wrong_fact ["facts", "most"] (sp_first_wrong K) := by
  have G_is_fact := ok_is_fact (P := P) (w := w) (base := base) T
  refine T.d__first_wrong_fact.ok sc__first_wrong_fact (fun vs H Q E h => ?_) (fun f cdv A outer s H vs Q E hg hr h => ?_)
  · obtain ⟨a, fs, m, rfl, _⟩ := h
    rfl
  · obtain ⟨a, fs, m, rfl, ⟨vs, sv, pvs⟩, hl, hf, q⟩ := h
    have ev := pvs.length
    refine ⟨_, (pss_cons (ps_for (passes_of rfl) rfl (i_enT rfl (by rfl) T.b_enumerate (pa_cons (pv 0) pa_nil)) (g_tup rfl rfl (pgs_cons (pg_name (i := 2) sc__first_wrong_fact.nd rfl (.inl rfl)) (pgs_cons (pg_name (i := 3) sc__first_wrong_fact.nd rfl (.inl rfl)) pgs_nil)) rfl rfl) (pss_one (ps_if (PW.pt (pw_or (pt_cmpR op_ge (pv 2) (pv 1) (nomark _)) (pw_or1 (pt_not (pt_val (pe_g G_is_fact (fun _ _ F => bd_is_fact F) hg (hr.mono (by decide)) passL (by rfl) (pa_cons (pv 3) pa_nil))))))) (pss_one (ps_ret (pv 2))) pss_nil)))
    (pss_one (ps_ret pe_non))), ?_⟩
    walk_at "sti"
    refine ⟨a, vs, rfl, sv, ?_⟩
    refine r_forEn vs (fun i σ H' => ∃ x2 x3, σ = [some (.ref a), some (.int (m : Int)), x2, x3] ∧ Same H H') ⟨_, _, rfl, Same.refl _⟩ (fun i σ H' hi hP => ?_) (fun i x σ H' T' hi hP hT => ?_) (fun σ H' hP => ?_)
    · obtain ⟨x2, x3, rfl, s1⟩ := hP
      exact Same.tup s1 sv
    · obtain ⟨x2, x3, rfl, s1⟩ := hP
      obtain ⟨p, hp, px⟩ := pvs.get hi
      have il : i < vs.length := (List.getElem?_eq_some_iff.mp hi).1
      have s2 : Same H (upd H' T' (.tup [.int (i : Nat), x])) := s1.trans (Same.new hT)
      refine r_gtup (SqT.of upd_same) rfl ?_
      walk_at "gi"
      refine ifd (fun c => ?_) (fun c => ?_)
      · omega
      · walk_at "gi"
        refine ⟨x, p, rfl, px.tt (Same.tt s2), hf p (List.mem_of_getElem? hp), ?_⟩
        walk_at "gi"
        exact s2
    · obtain ⟨x2, x3, rfl, s1⟩ := hP
      walk_at "gi"
      exact q _ s1
def sp_check_each (K : PySem.W.Frag) : Sp := fun vs H Q _ => ∃ (a : Addr) (fs : List (Int × Int)) (m : Nat), vs = [.ref a, .int (m : Int)] ∧ FactsAt K H a fs ∧ fs.length ≤ m ∧ (∀ p ∈ fs, Fact p) ∧ ∀ H', Same H H' → Q .non H'
theorem ok__check_each_fact (T : Top K mg) : Ok P w K mg base 5 "_check_each_fact" s__check_each_fact ["facts", "most"] (sp_check_each K) := by
  have G__first_wrong_fact := ok__first_wrong_fact (P := P) (w := w) (base := base) T
  refine T.d__check_each_fact.ok sc__check_each_fact (fun vs H Q E h => ?_) (fun f cdv A outer s H vs Q E hg hr h => ?_)
  · obtain ⟨a, fs, m, rfl, _⟩ := h
    rfl
  · obtain ⟨a, fs, m, rfl, hfa, hl, hf, q⟩ := h
    obtain ⟨vs, sv, pvs⟩ := id hfa
    refine ⟨_, (pss_cons (ps_if (pt_not (pt_val (pe_callB (id := "isinstance") (c_isi rfl) (by rfl) T.b_isinstance (by decide +kernel) (pa_cons (pv 0) (pa_cons (pe_bltn (v := .ty "tuple") (by rfl) T.b_tuple (by decide +kernel) rfl) pa_nil))))) (pss_one ps_never) pss_nil)
    (pss_cons (ps_set (i := 2) sc__check_each_fact.nd rfl (.inl rfl) (pe_g G__first_wrong_fact (fun _ _ F => bd__first_wrong_fact F) hg (hr.mono (by decide)) passL (by rfl) (pa_cons (pv 0) (pa_cons (pv 1) pa_nil))))
    (pss_one (ps_if (pt_cmpR op_notN (pv 2) pe_non (nomark _)) (pss_one ps_never) pss_nil)))), ?_⟩
    walk_at "sti"
    refine is_T_T sv ?_
    walk_at "gi"
    refine ⟨a, fs, m, rfl, hfa, hl, hf, fun H' s1 => ?_⟩
    walk_at "gi"
    exact q _ s1
def sp_check_facts (K : PySem.W.Frag) : Sp := fun vs H Q _ => ∃ (a : Addr) (fs : List (Int × Int)), vs = [.ref a] ∧ FactsAt K H a fs ∧ Facts fs ∧ ∀ H', Same H H' → Q .non H'
theorem ok_check_facts (T : Top K mg) : Ok P w K mg base 6 "check_facts" s_check_facts ["facts"] (sp_check_facts K) := by
  have G__check_each_fact := ok__check_each_fact (P := P) (w := w) (base := base) T
  refine T.d_check_facts.ok sc_check_facts (fun vs H Q E h => ?_) (fun f cdv A outer s H vs Q E hg hr h => ?_)
  · obtain ⟨a, fs, rfl, _⟩ := h
    rfl
  · obtain ⟨a, fs, rfl, h1, h2, q⟩ := h
    refine ⟨_, (pss_one (ps_expr (pe_g G__check_each_fact (fun _ _ F => bd__check_each_fact F) hg (hr.mono (by decide)) passL (by rfl) (pa_cons (pv 0) (pa_cons (pe_gi T.c_MOST_FACTS (by rfl)) pa_nil))))), ?_⟩
    walk_at "sti"
    exact ⟨a, fs, 40, rfl, h1, h2.1, h2.2, q⟩
/-! ### bezout, inverse -/
def sp_bezout : Sp := fun vs H Q _ => ∃ a b : Int, vs = [.int a, .int b] ∧ a.natAbs ≤ Bq ∧ b.natAbs ≤ Bq ∧
  ∀ u v : Int, u * a + v * b = (Nat.gcd a.natAbs b.natAbs : Nat) → u.natAbs ≤ Bq → NewT [.int u, .int v] H Q
theorem ok_bezout (T : Top K mg) : Ok P w K mg base 1 "bezout" s_bezout ["one", "other"] sp_bezout := by
  refine T.d_bezout.ok sc_bezout (fun vs H Q E h => ?_) (fun f cdv A outer s H vs Q E hg hr h => ?_)
  · obtain ⟨a, b, rfl, _⟩ := h
    rfl
  · obtain ⟨x, y, rfl, hx, hy, q⟩ := h
    refine ⟨_, (pss_cons (ps_asg (pe_tup (pa_cons pe_int (pa_cons pe_int (pa_cons pe_int (pa_cons pe_int pa_nil))))) (g_tup rfl rfl (pgs_cons (pg_name (i := 2) sc_bezout.nd rfl (.inl rfl)) (pgs_cons (pg_name (i := 3) sc_bezout.nd rfl (.inl rfl)) (pgs_cons (pg_name (i := 4) sc_bezout.nd rfl (.inl rfl)) (pgs_cons (pg_name (i := 5) sc_bezout.nd rfl (.inl rfl)) pgs_nil)))) rfl rfl))
    (pss_cons (ps_par (i := 6) (j := 7) (by rfl) sc_bezout.nd rfl rfl (by decide) rfl rfl (pa_cons (pv 0) (pa_cons (pv 1) pa_nil)) (by rfl))
    (pss_cons (ps_while (passes_of rfl) (pt_truth (pv 7) (by intro _; rfl)) (pss_cons (ps_set (i := 8) sc_bezout.nd rfl (.inl rfl) (pe_op op_fdivG (pv 6) (pv 7)))
    (pss_cons (ps_par (i := 6) (j := 7) (by rfl) sc_bezout.nd rfl rfl (by decide) rfl rfl (pa_cons (pv 7) (pa_cons (pe_op op_sub (pv 6) (pe_op op_mulX (pv 8) (pv 7))) pa_nil)) (by rfl))
    (pss_cons (ps_par (i := 2) (j := 4) (by rfl) sc_bezout.nd rfl rfl (by decide) rfl rfl (pa_cons (pv 4) (pa_cons (pe_op op_sub (pv 2) (pe_op op_mulX (pv 8) (pv 4))) pa_nil)) (by rfl))
    (pss_one (ps_par (i := 3) (j := 5) (by rfl) sc_bezout.nd rfl rfl (by decide) rfl rfl (pa_cons (pv 5) (pa_cons (pe_op op_sub (pv 3) (pe_op op_mulX (pv 8) (pv 5))) pa_nil)) (by rfl)))))))
    (pss_cons (ps_if (pt_cmpR op_lt (pv 6) pe_int (nomark _)) (pss_one (ps_ret (pe_tup (pa_cons (pe_un un_neg (pv 2)) (pa_cons (pe_un un_neg (pv 3)) pa_nil))))) pss_nil)
    (pss_one (ps_ret (pe_tup (pa_cons (pv 2) (pa_cons (pv 3) pa_nil))))))))), ?_⟩
    walk_at "sti"
    refine r_while (fun m σ H' => ∃ u v nu nv l r tm, σ = [some (.int x), some (.int y), some (.int u), some (.int v), some (.int nu), some (.int nv), some (.int l), some (.int r), tm] ∧
      Bz x y u v nu nv l r ∧ m = r.natAbs ∧ Same H H') y.natAbs ⟨1, 0, 0, 1, x, y, none, rfl, Bz.first x y, rfl, by walk_at "vsame"⟩ fun m σ H1 hW => ?_
    obtain ⟨u, v, nu, nv, l, r, tm, rfl, B, rfl, s1⟩ := hW
    have bd := B.bounds (B := Bq) hx hy Bq_one
    obtain ⟨b1, b2, b3, b4, b5, b6⟩ := bd
    walk_at "gi"
    refine ifb (fun c => ?_) (fun c => ?_)
    · have hr0 : r ≠ 0 := by simpa using c
      have st := B.step hr0
      have bt : Builtin.Int.intBits (l.fdiv r) ≤ 4003 := by
        refine bit_of (Nat.lt_of_le_of_lt (m := 2 * Bq) (abs_of_mul hr0 ?_) Bq_two)
        have := st.2
        omega
      walk_at "gi"
      refine r_rI ⟨hr0, Nat.lt_of_le_of_lt b4 Bq_90⟩ ?_
      walk_at "gi"
      refine r_rI (bit_mul bt (Bq_bits b4) (by decide)) ?_
      walk_at "gi"
      refine r_rI (bit_mul bt (Bq_bits b2) (by decide)) ?_
      walk_at "gi"
      refine r_rI (bit_mul bt (bit_of (Nat.lt_of_le_of_lt b6 Bq_sq)) (by decide)) ?_
      walk_at "gi"
      exact ⟨_, st.2, _, _, _, _, _, _, _, rfl, st.1, rfl, s1⟩
    · have hr0 : r = 0 := by simpa using c
      have g := B.g
      have e1 := B.e1
      rw [hr0] at g
      have g2 : l.natAbs = Nat.gcd x.natAbs y.natAbs := by rw [← g]; simp
      walk_at "gi"
      refine ifd (fun c => ?_) (fun c => ?_)
      · walk_at "gi"
        refine q (-u) (-v) ?_ (by omega) _ _ (by walk_at "vsame") (by walk_at "vnone") upd_same
        rw [← g2]
        have : -u * x + -v * y = -(u * x + v * y) := by grind
        omega
      · walk_at "gi"
        refine q u v ?_ (by omega) _ _ (by walk_at "vsame") (by walk_at "vnone") upd_same
        omega
theorem gcd_rest (n : Int) (b : Nat) : Nat.gcd (n % (b : Int)).natAbs ((b : Nat) : Int).natAbs = Nat.gcd n.natAbs b := by
  have h := Int.gcd_add_mul_right_right (b : Int) (n % (b : Int)) (n / (b : Int))
  rw [Int.mul_comm, Int.emod_add_mul_ediv, Int.gcd_eq_natAbs_gcd_natAbs, Int.gcd_eq_natAbs_gcd_natAbs, Int.natAbs_natCast] at h
  rw [Int.natAbs_natCast, Nat.gcd_comm, ← h, Nat.gcd_comm]
def sp_inverse : Sp := fun vs H Q _ => ∃ (n : Int) (b : Nat), vs = [.int n, .int (b : Int)] ∧ 0 < b ∧ b ≤ Bq ∧
  ∀ (u w : Int) H', u * n = (Nat.gcd n.natAbs b : Nat) + b * w → Same H H' → Q (.int (u % b)) H'
theorem ok_inverse (T : Top K mg) : Ok P w K mg base 2 "inverse" s_inverse ["number", "base"] sp_inverse := by
  have G_bezout := ok_bezout (P := P) (w := w) (base := base) T
  refine T.d_inverse.ok sc_inverse (fun vs H Q E h => ?_) (fun f cdv A outer s H vs Q E hg hr h => ?_)
  · obtain ⟨a, b, rfl, _⟩ := h
    rfl
  · obtain ⟨n, b, rfl, b0, hb, q⟩ := h
    have m0 := Int.emod_nonneg n (show (b : Int) ≠ 0 by omega)
    have m1 := Int.emod_lt_of_pos n (show (0 : Int) < b by omega)
    refine ⟨_, (pss_cons (ps_asg (pe_g G_bezout (fun _ _ F => bd_bezout F) hg (hr.mono (by decide)) passL (by rfl) (pa_cons (pe_op op_mod (pv 0) (pv 1)) (pa_cons (pv 1) pa_nil))) (g_tup rfl rfl (pgs_cons (pg_name (i := 2) sc_inverse.nd rfl (.inl rfl)) (pgs_cons (pg_name (i := 3) sc_inverse.nd rfl (.inl rfl)) pgs_nil)) rfl rfl))
    (pss_one (ps_ret (pe_op op_mod (pv 2) (pv 1))))), ?_⟩
    walk_at "sti"
    refine r_rI (by omega) ?_
    walk_at "gi"
    refine ⟨_, _, rfl, by omega, by omega, fun u v e ub p H' sH pn pa => ?_⟩
    walk_at "gi"
    refine r_rI (by omega) ?_
    refine q u (u * (n / b) - v) _ ?_ sH
    rw [gcd_rest] at e
    have d := Int.emod_add_mul_ediv n b
    generalize n % (b : Int) = m at *
    generalize n / (b : Int) = z at *
    rw [← e]
    have : u * n = u * m + b * (u * z) := by rw [← d]; grind
    rw [this]
    grind
end
section
variable {P : Program} {w : World} {K : PySem.W.Frag} {mg : Str → Option Value} {base : Heap}
/-! ### facts put together, whether they quarrel or not -/
def sp_along (K : PySem.W.Frag) : Sp := fun vs H Q _ => ∃ (a d : Addr) (r s : Int) (b c : Nat), vs = [.ref a, .ref d] ∧ SqT K H a [.int r, .int (b : Int)] ∧ SqT K H d [.int s, .int (c : Int)] ∧
  0 < b ∧ 0 < c ∧ b ≤ Bq ∧ c ≤ Bq ∧ 0 ≤ r ∧ r < b ∧ 0 ≤ s ∧ s < c ∧ ((s - r) % ((Nat.gcd b c : Nat) : Int) ≠ 0 → Q .non H) ∧
  ((s - r) % ((Nat.gcd b c : Nat) : Int) = 0 → ∀ pl : Int, 0 ≤ pl → pl < (c / Nat.gcd b c : Nat) → (r + b * pl - s) % (c : Int) = 0 → NewT [.int pl, .int ((c / Nat.gcd b c : Nat) : Int)] H Q)
theorem ok_along (T : Top K mg) : Ok P w K mg base 3 "along" s_along ["fact", "other"] (sp_along K) := by
  have G_inverse := ok_inverse (P := P) (w := w) (base := base) T
  refine T.d_along.ok sc_along (fun vs H Q E h => ?_) (fun f cdv A outer s H vs Q E hg hr h => ?_)
  · obtain ⟨a, d, r, s, b, c, rfl, _⟩ := h
    rfl
  · obtain ⟨a, d, r, s, b, c, rfl, sa, sd, b0, c0, bB, cB, r0, r1, s0, s1, q1, q2⟩ := h
    have bq := Bq_one
    have g0 : 0 < Nat.gcd b c := Nat.gcd_pos_of_pos_left _ b0
    have gl : Nat.gcd b c ≤ b := Nat.gcd_le_left _ b0
    have cop : Nat.gcd (b / Nat.gcd b c) (c / Nat.gcd b c) = 1 := by rw [Nat.gcd_div (Nat.gcd_dvd_left b c) (Nat.gcd_dvd_right b c), Nat.div_self g0]
    have e1 : b = Nat.gcd b c * (b / Nat.gcd b c) := (Nat.mul_div_cancel' (Nat.gcd_dvd_left b c)).symm
    have e2 : c = Nat.gcd b c * (c / Nat.gcd b c) := (Nat.mul_div_cancel' (Nat.gcd_dvd_right b c)).symm
    have lb : b / Nat.gcd b c ≤ b := Nat.div_le_self _ _
    have lc : c / Nat.gcd b c ≤ c := Nat.div_le_self _ _
    have cb : ((c : Nat) : Int) / ((Nat.gcd b c : Nat) : Int) = ((c / Nat.gcd b c : Nat) : Int) := (Int.natCast_ediv c _).symm
    have bb : ((b : Nat) : Int) / ((Nat.gcd b c : Nat) : Int) = ((b / Nat.gcd b c : Nat) : Int) := (Int.natCast_ediv b _).symm
    refine ⟨_, (pss_cons (ps_asg (pv 0) (g_tup rfl rfl (pgs_cons (pg_name (i := 2) sc_along.nd rfl (.inl rfl)) (pgs_cons (pg_name (i := 3) sc_along.nd rfl (.inl rfl)) pgs_nil)) rfl rfl))
    (pss_cons (ps_set (i := 4) sc_along.nd rfl (.inl rfl) (pe_callBfun (id := "math.gcd") cr_gcd (by rfl) T.m_gcd (pa_cons (pv 3) (pa_cons (pe_ix (x_tup rfl) (pv 1) pe_int (fun _ _ => rfl)) pa_nil))))
    (pss_cons (ps_set (i := 5) sc_along.nd rfl (.inl rfl) (pe_op op_sub (pe_ix (x_tup rfl) (pv 1) pe_int (fun _ _ => rfl)) (pv 2)))
    (pss_cons (ps_if (pt_truth (pe_op op_mod (pv 5) (pv 4)) (by intro _; rfl)) (pss_one (ps_ret pe_non)) pss_nil)
    (pss_cons (ps_set (i := 6) sc_along.nd rfl (.inl rfl) (pe_op op_fdivW (pe_ix (x_tup rfl) (pv 1) pe_int (fun _ _ => rfl)) (pv 4)))
    (pss_one (ps_ret (pe_tup (pa_cons (pe_op op_mod (pe_op op_mulX (pe_op op_fdivW (pv 5) (pv 4)) (pe_g G_inverse (fun _ _ F => bd_inverse F) hg (hr.mono (by decide)) passL (by rfl) (pa_cons (pe_op op_fdivW (pv 3) (pv 4)) (pa_cons (pv 6) pa_nil)))) (pv 6)) (pa_cons (pv 6) pa_nil)))))))))), ?_⟩
    walk_at "sti"
    refine r_ixT sd (atI_nat (j := 1) rfl) ?_
    walk_at "gi"
    rw [Int.natAbs_natCast, Int.natAbs_natCast]
    generalize Nat.gcd b c = g at *
    generalize b / g = bt at *
    generalize c / g = ct at *
    have ct0 : 0 < ct := by
      rcases Nat.eq_zero_or_pos ct with z | z
      · rw [z] at e2; omega
      · exact z
    have gI : (0 : Int) < g := by omega
    refine r_ixT sd (atI_nat (j := 0) rfl) ?_
    walk_at "gi"
    refine r_rI gI ?_
    walk_at "gi"
    refine ifb (fun cc => ?_) (fun cc => ?_)
    · walk_at "gi"
      exact q1 (by simpa using cc)
    have nq : (s - r) % (g : Int) = 0 := by simpa using cc
    walk_at "gi"
    refine r_ixT sd (atI_nat (j := 1) rfl) ?_
    walk_at "gi"
    refine r_rI (Bq_div gI (by omega)) ?_
    rw [cb]
    walk_at "gi"
    have dv : (s - r) / g * g = s - r := Int.ediv_mul_cancel (Int.dvd_of_emod_eq_zero nq)
    have db : ((s - r) / g).natAbs ≤ Bq := abs_of_mul (y := (g : Int)) (by omega) (by rw [dv]; omega)
    refine r_rI (Bq_div gI (by omega)) ?_
    walk_at "gi"
    refine r_rI (Bq_div gI (by omega)) ?_
    rw [bb]
    walk_at "gi"
    refine ⟨_, ct, rfl, ct0, by omega, fun u wz H' eu sH => ?_⟩
    rw [Int.natAbs_natCast, cop] at eu
    have u0 := Int.emod_nonneg u (show (ct : Int) ≠ 0 by omega)
    have u1 := Int.emod_lt_of_pos u (show (0 : Int) < ct by omega)
    have am := Vf.along_math (r := r) (s := s) (b := b) (c := c) (g := g) (bt := bt) (ct := ct) (u := u) (w := wz) gI (by omega) (by rw [e1]; push_cast; rfl) (by rw [e2]; push_cast; rfl) nq (by rw [eu]; rfl)
    walk_at "gi"
    refine r_rI (bit_mul (Bq_bits db) (Bq_bits (by omega)) (by decide)) ?_
    walk_at "gi"
    refine r_rI (by omega) ?_
    walk_at "gi"
    have t0 := Int.emod_nonneg ((s - r) / g * (u % ct)) (show (ct : Int) ≠ 0 by omega)
    have t1 := Int.emod_lt_of_pos ((s - r) / g * (u % ct)) (show (0 : Int) < ct by omega)
    generalize ((s - r) / g * (u % ct)) % ct = tm at *
    exact q2 nq tm t0 t1 am _ _ (by walk_at "vsame") (none_same sH (by assumption)) upd_same
def sp_merged (K : PySem.W.Frag) : Sp := fun vs H Q _ => ∃ (a d : Addr) (r s : Int) (b c : Nat), vs = [.ref a, .ref d] ∧ SqT K H a [.int r, .int (b : Int)] ∧ SqT K H d [.int s, .int (c : Int)] ∧
  0 < b ∧ 0 < c ∧ b ≤ Bq ∧ c ≤ Bq ∧ 0 ≤ r ∧ r < b ∧ 0 ≤ s ∧ s < c ∧ ((s - r) % ((Nat.gcd b c : Nat) : Int) ≠ 0 → Q .non H) ∧
  ((s - r) % ((Nat.gcd b c : Nat) : Int) = 0 → ∀ R : Int, 0 ≤ R → R < (Nat.lcm b c : Nat) → R % (b : Int) = r → R % (c : Int) = s → NewT [.int R, .int ((Nat.lcm b c : Nat) : Int)] H Q)
theorem ok_merged (T : Top K mg) : Ok P w K mg base 4 "merged" s_merged ["one", "other"] (sp_merged K) := by
  have G_along := ok_along (P := P) (w := w) (base := base) T
  refine T.d_merged.ok sc_merged (fun vs H Q E h => ?_) (fun f cdv A outer s H vs Q E hg hr h => ?_)
  · obtain ⟨a, d, r, s, b, c, rfl, _⟩ := h
    rfl
  · obtain ⟨a, d, r, s, b, c, rfl, sa, sd, b0, c0, bB, cB, r0, r1, s0, s1, q1, q2⟩ := h
    refine ⟨_, (pss_cons (ps_set (i := 2) sc_merged.nd rfl (.inl rfl) (pe_g G_along (fun _ _ F => bd_along F) hg (hr.mono (by decide)) passL (by rfl) (pa_cons (pv 0) (pa_cons (pv 1) pa_nil))))
    (pss_cons (ps_if (pt_cmpR op_isN (pv 2) pe_non (nomark _)) (pss_one (ps_ret pe_non)) pss_nil)
    (pss_cons (ps_asg (pv 2) (g_tup rfl rfl (pgs_cons (pg_name (i := 3) sc_merged.nd rfl (.inl rfl)) (pgs_cons (pg_name (i := 4) sc_merged.nd rfl (.inl rfl)) pgs_nil)) rfl rfl))
    (pss_one (ps_ret (pe_tup (pa_cons (pe_op op_add (pe_ix (x_tup rfl) (pv 0) pe_int (fun _ _ => rfl)) (pe_op op_mulX (pe_ix (x_tup rfl) (pv 0) pe_int (fun _ _ => rfl)) (pv 3))) (pa_cons (pe_op op_mulX (pe_ix (x_tup rfl) (pv 0) pe_int (fun _ _ => rfl)) (pv 4)) pa_nil)))))))), ?_⟩
    walk_at "sti"
    refine ⟨a, d, r, s, b, c, rfl, sa, sd, b0, c0, bB, cB, r0, r1, s0, s1, fun z => ?_, fun nq pl p0 p1 am p H1 s1' np hp => ?_⟩
    · walk_at "gi"
      exact q1 z
    · walk_at "gi"
      have el : Nat.lcm b c = b * (c / Nat.gcd b c) := Nat.mul_div_assoc b (Nat.gcd_dvd_right b c)
      have lc : c / Nat.gcd b c ≤ c := Nat.div_le_self _ _
      rw [el] at q2
      generalize c / Nat.gcd b c = ct at *
      refine r_ixT (Same.tup s1' sa) (atI_nat (j := 0) rfl) ?_
      walk_at "gi"
      refine r_ixT (Same.tup s1' sa) (atI_nat (j := 1) rfl) ?_
      walk_at "gi"
      refine r_rI (bit_mul (Bq_bits (by omega)) (Bq_bits (by omega)) (by decide)) ?_
      walk_at "gi"
      refine r_ixT (Same.tup s1' sa) (atI_nat (j := 1) rfl) ?_
      walk_at "gi"
      refine r_rI (bit_mul (Bq_bits (by omega)) (Bq_bits (by omega)) (by decide)) ?_
      walk_at "gi"
      have up : (b : Int) * pl + b ≤ b * ct := by
        have z : (b : Int) * (pl + 1) ≤ b * ct := Int.mul_le_mul_of_nonneg_left (by omega) (by omega)
        rw [Int.mul_add, Int.mul_one] at z
        exact z
      have lo : 0 ≤ (b : Int) * pl := Int.mul_nonneg (by omega) p0
      refine q2 nq (r + b * pl) (by omega) (by rw [Int.natCast_mul]; omega) ?_ ?_ _ _ (by walk_at "vsame") (none_same s1' (by assumption)) (by rw [Int.natCast_mul]; exact upd_same)
      · rw [Int.add_mul_emod_self_left, Int.emod_eq_of_lt r0 r1]
      · rw [Int.emod_eq_emod_iff_emod_sub_eq_zero.mpr am, Int.emod_eq_of_lt s0 s1]
def sp_all_merged (K : PySem.W.Frag) : Sp := fun vs H Q _ => ∃ (a : Addr) (fs : List (Int × Int)), vs = [.ref a] ∧ FactsAt K H a fs ∧ Facts fs ∧
  ((∀ x, ¬ Fits x fs) → ∀ H', Same H H' → Q .non H') ∧ (∀ R, Vf.Jn fs R → NewT [.int R, .int (lcmAll fs : Int)] H Q)
theorem ok_all_merged (T : Top K mg) : Ok P w K mg base 5 "all_merged" s_all_merged ["facts"] (sp_all_merged K) := by
  have G_merged := ok_merged (P := P) (w := w) (base := base) T
  refine T.d_all_merged.ok sc_all_merged (fun vs H Q E h => ?_) (fun f cdv A outer s H vs Q E hg hr h => ?_)
  · obtain ⟨a, fs, rfl, _⟩ := h
    rfl
  · obtain ⟨a, fs, rfl, hfa, hf, q1, q2⟩ := h
    refine ⟨_, (pss_cons (ps_set (i := 1) sc_all_merged.nd rfl (.inl rfl) (pe_tup (pa_cons pe_int (pa_cons pe_int pa_nil))))
    (pss_cons (ps_for (passes_of rfl) rfl (i_tup' rfl (pv 0)) (pg_name (i := 2) sc_all_merged.nd rfl (.inl rfl)) (pss_one (ps_if (pt_cmpR op_notN (pv 1) pe_non (nomark _)) (pss_one (ps_set (i := 1) sc_all_merged.nd rfl (.inl rfl) (pe_g G_merged (fun _ _ F => bd_merged F) hg (hr.mono (by decide)) passL (by rfl) (pa_cons (pv 1) (pa_cons (pv 2) pa_nil))))) pss_nil)))
    (pss_one (ps_ret (pv 1))))), ?_⟩
    walk_at "sti"
    rename_i p0 n0
    obtain ⟨vs, sv, pvs⟩ := hfa
    have ev := pvs.length
    refine ⟨⟨vs, new_tup n0 sv⟩, ?_⟩
    refine r_forTs vs (fun i σ H' => ∃ m x2, σ = [some (.ref a), some m, x2] ∧ Same H H' ∧ ((m = .non ∧ ∀ x, ¬ Fits x (fs.take i)) ∨ ∃ (t : Addr) (R : Int), m = .ref t ∧ H t = none ∧ H' t = some (.tup [.int R, .int (lcmAll (fs.take i) : Int)]) ∧ Vf.Jn (fs.take i) R))
      ⟨.ref p0, _, rfl, Same.new n0, .inr ⟨p0, 0, rfl, n0, upd_same, Vf.Jn.nil⟩⟩ (fun i σ H' hi hP => ?_) (fun i v σ H' hi hP => ?_) (fun σ H' hP => ?_)
    · obtain ⟨m, x2, rfl, s2, _⟩ := hP
      exact Same.tup s2 sv
    · obtain ⟨m, x2, rfl, s2, hm⟩ := hP
      obtain ⟨o, ho, t, rfl, st⟩ := pvs.get hi
      have fo := hf.at ho
      have ii : i < fs.length := (List.getElem?_eq_some_iff.mp ho).1
      have tk : fs.take (i + 1) = fs.take i ++ [o] := by rw [List.take_add_one, ho]; rfl
      rcases hm with ⟨rfl, nf⟩ | ⟨m, R, rfl, nm, sm, jn⟩
      · walk_at "gi"
        refine ⟨s2, .inl ⟨rfl, fun x hx => nf x ?_⟩⟩
        rw [tk] at hx
        exact (Vf.fits_snoc.mp hx).1
      · have mo : ∀ p ∈ fs.take i, Fact p := fun p hp => hf.2 p (List.mem_of_mem_take hp)
        have lm : 0 < lcmAll (fs.take i) := lcmAll_pos (fs.take i) 1 mo (by decide)
        have lq := Facts.lcm_Bq mo (by rw [List.length_take]; have := hf.1; omega)
        have oq : o.2.natAbs ≤ Bq := by
          refine Nat.le_trans (?_ : o.2.natAbs ≤ 2 ^ 100) (Nat.pow_le_pow_right (by decide) (by decide))
          obtain ⟨h1, h2, _⟩ := fo
          omega
        have eo : ((o.2.natAbs : Nat) : Int) = o.2 := by have := fo.1; omega
        walk_at "gi"
        refine ⟨m, t, R, o.1, lcmAll (fs.take i), o.2.natAbs, rfl, SqT.of sm, by rw [eo]; exact Same.tup s2 st, lm, by have := fo.1; omega, lq, oq, jn.1, jn.2.1, fo.2.2.1, by have := fo.2.2.2; omega, fun z => ?_, fun nq S S0 S1 h1 h2 p2 H2 s3 n3 e3 => ?_⟩
        · walk_at "gi"
          refine ⟨s2, .inl ⟨rfl, fun x hx => ?_⟩⟩
          rw [tk] at hx
          obtain ⟨y1, y2⟩ := Vf.fits_snoc.mp hx
          exact Vf.quarrel_none z x ⟨(jn.2.2 x).mp y1, by rw [eo]; exact y2⟩
        · walk_at "gi"
          refine ⟨s2.trans s3, .inr ⟨p2, S, rfl, none_same s2 n3, ?_, ?_⟩⟩
          · rw [tk, lcmAll_snoc]
            exact e3
          · rw [tk]
            exact jn.snoc fo lm S0 S1 h1 (by rw [← eo]; exact h2)
    · obtain ⟨m, x2, rfl, s2, hm⟩ := hP
      rw [List.take_of_length_le (by omega)] at hm
      rcases hm with ⟨rfl, nf⟩ | ⟨m, R, rfl, nm, sm, jn⟩
      · walk_at "go"
        exact q1 nf _ s2
      · walk_at "go"
        exact q2 R jn _ _ s2 nm sm
end
section
variable {P : Program} {w : World} {K : PySem.W.Frag} {mg : Str → Option Value} {base : Heap}
/-! ### single facts -/
def sp_is_fitting (K : PySem.W.Frag) : Sp := fun vs H Q _ => ∃ (x : Int) (v : V) (p : Int × Int), vs = [.int x, v] ∧ PairAt K H v p ∧ 0 < p.2 ∧ Q (.bl (decide ((x - p.1) % p.2 = 0))) H
theorem ok_is_fitting (T : Top K mg) : Ok P w K mg base 1 "is_fitting" s_is_fitting ["number", "fact"] (sp_is_fitting K) := by
  refine T.d_is_fitting.ok sc_is_fitting (fun vs H Q E h => ?_) (fun f cdv A outer s H vs Q E hg hr h => ?_)
  · obtain ⟨x, v, p, rfl, _⟩ := h
    rfl
  · obtain ⟨x, v, p, rfl, ⟨t, rfl, st⟩, h0, q⟩ := h
    refine ⟨_, (pss_cons (ps_asg (pv 1) (g_tup rfl rfl (pgs_cons (pg_name (i := 2) sc_is_fitting.nd rfl (.inl rfl)) (pgs_cons (pg_name (i := 3) sc_is_fitting.nd rfl (.inl rfl)) pgs_nil)) rfl rfl))
    (pss_one (ps_ret (pe_cmpR op_eqZ (pe_op op_mod (pe_op op_sub (pv 0) (pv 2)) (pv 3)) pe_int (nomark _))))), ?_⟩
    walk_at "sti"
    refine r_rI h0 ?_
    walk_at "gi"
    exact q
def sp_quar (K : PySem.W.Frag) : Sp := fun vs H Q _ => ∃ (v z : V) (p o : Int × Int), vs = [v, z] ∧ PairAt K H v p ∧ PairAt K H z o ∧ 0 < p.2 ∧
  Q (.bl (!decide ((p.1 - o.1) % ((Nat.gcd p.2.natAbs o.2.natAbs : Nat) : Int) = 0))) H
theorem ok_are_quarrelling (T : Top K mg) : Ok P w K mg base 1 "are_quarrelling" s_are_quarrelling ["one", "other"] (sp_quar K) := by
  refine T.d_are_quarrelling.ok sc_are_quarrelling (fun vs H Q E h => ?_) (fun f cdv A outer s H vs Q E hg hr h => ?_)
  · obtain ⟨v, z, p, o, rfl, _⟩ := h
    rfl
  · obtain ⟨v, z, p, o, rfl, ⟨t, rfl, st⟩, ⟨t2, rfl, st2⟩, h0, q⟩ := h
    refine ⟨_, (pss_one (ps_ret (pe_cmpR op_neZ (pe_op op_mod (pe_op op_sub (pe_ix (x_tup rfl) (pv 0) pe_int (fun _ _ => rfl)) (pe_ix (x_tup rfl) (pv 1) pe_int (fun _ _ => rfl))) (pe_callBfun (id := "math.gcd") cr_gcd (by rfl) T.m_gcd (pa_cons (pe_ix (x_tup rfl) (pv 0) pe_int (fun _ _ => rfl)) (pa_cons (pe_ix (x_tup rfl) (pv 1) pe_int (fun _ _ => rfl)) pa_nil)))) pe_int (nomark _)))), ?_⟩
    walk_at "sti"
    refine r_ixT st (atI_nat (j := 0) rfl) ?_
    walk_at "gi"
    refine r_ixT st2 (atI_nat (j := 0) rfl) ?_
    walk_at "gi"
    refine r_ixT st (atI_nat (j := 1) rfl) ?_
    walk_at "gi"
    refine r_ixT st2 (atI_nat (j := 1) rfl) ?_
    walk_at "gi"
    have hg : 0 < Nat.gcd p.2.natAbs o.2.natAbs := Nat.gcd_pos_of_pos_left _ (by omega)
    refine r_rI (by omega) ?_
    walk_at "gi"
    exact q
theorem no_quarrel (x : Int) (b c : Nat) : (x % b - x % c) % ((Nat.gcd b c : Nat) : Int) = 0 := by
  refine Int.emod_eq_emod_iff_emod_sub_eq_zero.mp ?_
  rw [Int.emod_emod_of_dvd x (Int.natCast_dvd_natCast.mpr (Nat.gcd_dvd_left b c)), Int.emod_emod_of_dvd x (Int.natCast_dvd_natCast.mpr (Nat.gcd_dvd_right b c))]
end
section
variable {P : Program} {w : World} {K : PySem.W.Frag} {mg : Str → Option Value} {base : Heap}
/-! ### the pairs that quarrel -/
def quarB (p o : Int × Int) : Bool := !decide ((p.1 - o.1) % ((Nat.gcd p.2.natAbs o.2.natAbs : Nat) : Int) = 0)
def qrow (fs : List (Int × Int)) (i m : Nat) : List (Int × Int) := ((List.range m).filter fun j => quarB (fs.getD i (0, 1)) (fs.getD (i + 1 + j) (0, 1))).map fun j => ((i : Int), ((i + 1 + j : Nat) : Int))
def qall (fs : List (Int × Int)) (i : Nat) : List (Int × Int) := (List.range i).flatMap fun k => qrow fs k (fs.length - (k + 1))
theorem qrow_succ (fs : List (Int × Int)) (i m : Nat) : qrow fs i (m + 1) = qrow fs i m ++ (if quarB (fs.getD i (0, 1)) (fs.getD (i + 1 + m) (0, 1)) = true then [((i : Int), ((i + 1 + m : Nat) : Int))] else []) := by
  unfold qrow
  rw [List.range_succ, List.filter_append, List.map_append, List.filter_cons, List.filter_nil]
  by_cases h : quarB (fs.getD i (0, 1)) (fs.getD (i + 1 + m) (0, 1)) = true
  · rw [if_pos h, if_pos h]; rfl
  · rw [if_neg h, if_neg h]; rfl
theorem qall_succ (fs : List (Int × Int)) (i : Nat) : qall fs (i + 1) = qall fs i ++ qrow fs i (fs.length - (i + 1)) := by
  unfold qall
  rw [List.range_succ, List.flatMap_append, List.flatMap_cons, List.flatMap_nil, List.append_nil]
theorem qrow_len (fs : List (Int × Int)) (i m : Nat) : (qrow fs i m).length ≤ m := by
  unfold qrow
  rw [List.length_map]
  refine Nat.le_trans (List.length_filter_le _ _) ?_
  rw [List.length_range]
  exact Nat.le_refl _
theorem qall_len (fs : List (Int × Int)) : ∀ i, (qall fs i).length ≤ i * fs.length
  | 0 => Nat.zero_le _
  | i + 1 => by
    rw [qall_succ, List.length_append, Nat.succ_mul]
    have := qall_len fs i
    have := qrow_len fs i (fs.length - (i + 1))
    omega
def sp_qp (K : PySem.W.Frag) : Sp := fun vs H Q _ => ∃ (a : Addr) (fs : List (Int × Int)), vs = [.ref a] ∧ FactsAt K H a fs ∧ Facts fs ∧
  ∀ p ws H', Same H H' → H p = none → H' p = some (.lst ws) → PairsAt K H' ws (qall fs fs.length) → Q (.ref p) H'
theorem ok_quarrelling_pairs (T : Top K mg) : Ok P w K mg base 2 "quarrelling_pairs" s_quarrelling_pairs ["facts"] (sp_qp K) := by
  have G_are_quarrelling := ok_are_quarrelling (P := P) (w := w) (base := base) T
  refine T.d_quarrelling_pairs.ok sc_quarrelling_pairs (fun vs H Q E h => ?_) (fun f cdv A outer s H vs Q E hg hr h => ?_)
  · obtain ⟨a, fs, rfl, _⟩ := h
    rfl
  · obtain ⟨a, fs, rfl, ⟨vs, sv, pvs⟩, hf, q⟩ := h
    have ev := pvs.length
    have hl := hf.1
    refine ⟨_, (pss_cons (ps_set (i := 1) sc_quarrelling_pairs.nd rfl (.inr rfl) (pe_callB (id := "len") (c_len rfl) (by rfl) T.b_len (by decide +kernel) (pa_cons (pv 0) pa_nil)))
    (pss_one (ps_ret (pe_lc2 (own := [("i", 2), ("j", 3)]) (by rfl) sc_quarrelling_pairs.nd (pi_range1 (by rfl) T.b_range (pa_cons (pv 1) pa_nil)) (blkOk_by (own := [("i", 2), ("j", 3)]) (N := ["facts", "many", "i", "j"]) (sc := defScope s_quarrelling_pairs) (by decide +kernel)) (vs1 := [3]) (by decide) (fun _ _ _ _ _ => (pg_name (i := 2) sc_quarrelling_pairs.nd rfl (Or.inl rfl))) (fun _ _ _ _ _ => pts_nil) (fun _ _ _ _ _ => (pi_range2 (by rfl) T.b_range (pa_cons (pe_op op_add (pv 2) pe_int) (pa_cons (pv 1) pa_nil)))) (fun _ _ _ _ _ => (pg_name (i := 3) sc_quarrelling_pairs.nd rfl (Or.inl rfl))) (fun _ _ _ _ _ => (pts_one (pt_val (pe_g G_are_quarrelling (fun _ _ F => bd_are_quarrelling F) hg (hr.mono (by decide)) passL (by rfl) (pa_cons (pe_ix (x_tup rfl) (pv 0) (pv 2) (fun _ _ => rfl)) (pa_cons (pe_ix (x_tup rfl) (pv 0) (pv 3) (fun _ _ => rfl)) pa_nil)))))) (fun _ _ _ _ _ => (pe_tup (pa_cons (pv 2) (pa_cons (pv 3) pa_nil)))))))), ?_⟩
    walk_at "sti"
    refine ⟨by omega, by omega, ?_⟩
    refine r_lc2R (fun D i H' => Same H H' ∧ ∃ ws, H' D = some (.lst ws) ∧ PairsAt K H' ws (qall fs i)) (fun D hD => ⟨Same.new hD, [], upd_same, .nil⟩) (fun D i H' hD hi hP => ?_) (fun D H' hD hP => ?_)
    · obtain ⟨s1, ws, d1, p1⟩ := hP
      walk_at "go"
      refine ⟨rfl, ?_⟩
      walk_at "go"
      refine r_w2 ?_
      walk_at "go"
      refine ⟨by omega, ?_⟩
      have en : ((vs.length : Int) - (0 + (i : Int) + 1)).toNat = fs.length - (i + 1) := by omega
      rw [en]
      refine inn_range (fun j H' => Same H H' ∧ ∃ ws, H' D = some (.lst ws) ∧ PairsAt K H' ws (qall fs i ++ qrow fs i j)) ⟨s1, ws, d1, by rw [show qrow fs i 0 = [] from rfl, List.append_nil]; exact p1⟩ (fun j H' hj hP => ?_) (fun H' hP => ?_)
      · obtain ⟨s2, ws, d2, p2⟩ := hP
        walk_at "go"
        refine ⟨rfl, ?_⟩
        have i1 : i < vs.length := by omega
        have i2 : i + 1 + j < vs.length := by omega
        obtain ⟨p, hp, pp⟩ := pvs.get (List.getElem?_eq_getElem i1)
        obtain ⟨o, ho, oo⟩ := pvs.get (List.getElem?_eq_getElem i2)
        have sv2 := Same.tup s2 sv
        walk_at "go"
        refine r_ixT sv2 (show atI vs (0 + (i : Int)) = _ by rw [Int.zero_add]; exact atI_nat (List.getElem?_eq_getElem i1)) ?_
        walk_at "go"
        refine r_ixT sv2 (show atI vs (0 + (i : Int) + 1 + (j : Int)) = _ by rw [show 0 + (i : Int) + 1 + (j : Int) = ((i + 1 + j : Nat) : Int) by omega]; exact atI_nat (List.getElem?_eq_getElem i2)) ?_
        walk_at "go"
        have f1 := hf.at hp
        refine ⟨_, _, p, o, rfl, pp.tt (Same.tt s2), oo.tt (Same.tt s2), by have := f1.1; omega, ?_⟩
        have e1 : fs.getD i (0, 1) = p := by rw [List.getD_eq_getElem?_getD, hp]; rfl
        have e2 : fs.getD (i + 1 + j) (0, 1) = o := by rw [List.getD_eq_getElem?_getD, ho]; rfl
        rw [qrow_succ, e1, e2, ← List.append_assoc]
        have lw := p2.length
        have l1 := qall_len fs i
        have l2 := qrow_len fs i j
        have l3 : i * fs.length ≤ 40 * 40 := Nat.mul_le_mul (by omega) hl
        rw [List.length_append] at lw
        walk_at "go"
        refine ifnd (fun c => ?_) (fun c => ?_)
        · rw [if_pos (show quarB p o = true by unfold quarB; rw [decide_eq_false c]; rfl)]
          walk_at "go"
          rename_i t ht
          refine ⟨ws, at_new ht d2, Nat.lt_of_le_of_lt (show ws.length ≤ 2000 by omega) (by decide), fun b u e => ?_, ws ++ [.ref t], upd_same, ?_⟩
          · rw [upd_ne (ne_of_none e hD)]
            exact Same.new ht _ _ (s2 _ _ e)
          · rw [show 0 + (i : Int) = (i : Int) by omega, show (i : Int) + 1 + (j : Int) = ((i + 1 + j : Nat) : Int) by omega] at *
            exact PairsAt.tt (upd_tt (at_new ht d2)) (PairsAt.append (p2.tt (new_tt ht)) (.cons ⟨t, rfl, SqT.of upd_same⟩ .nil))
        · rw [if_neg (show ¬ quarB p o = true by unfold quarB; rw [decide_eq_true c]; decide), List.append_nil]
          exact ⟨s2, ws, d2, p2⟩
      · rw [qall_succ]
        exact hP
    · obtain ⟨s1, ws, d1, p1⟩ := hP
      rw [ev] at p1
      walk_at "go"
      exact q _ _ _ s1 hD d1 p1
def Clash (H : Hp) (C : Addr) (i j : Int) (E : XK) : Prop := ∀ H' d, Same H H' → H' d = some (.xd [("second", .int j), ("first", .int i)]) → E (.ref C) (some d) H'
def sp_cnq (K : PySem.W.Frag) (C : Addr) : Sp := fun vs H Q E => ∃ (a : Addr) (fs : List (Int × Int)), vs = [.ref a] ∧ FactsAt K H a fs ∧ Facts fs ∧ (qall fs fs.length = [] → ∀ H', Same H H' → Q .non H') ∧
  ∀ i j l, qall fs fs.length = (i, j) :: l → Clash H C i j E
theorem ok__check_no_quarrel (T : Top K mg) : Ok P w K mg base 3 "_check_no_quarrel" s__check_no_quarrel ["facts"] (sp_cnq K (cA mg "Quarrel")) := by
  have G_quarrelling_pairs := ok_quarrelling_pairs (P := P) (w := w) (base := base) T
  refine T.d__check_no_quarrel.ok sc__check_no_quarrel (fun vs H Q E h => ?_) (fun f cdv A outer s H vs Q E hg hr h => ?_)
  · obtain ⟨a, fs, rfl, _⟩ := h
    rfl
  · obtain ⟨a, fs, rfl, hfa, hf, q1, q2⟩ := h
    refine ⟨_, (pss_one (ps_for (passes_of rfl) rfl (i_list rfl (pe_g G_quarrelling_pairs (fun _ _ F => bd_quarrelling_pairs F) hg (hr.mono (by decide)) passL (by rfl) (pa_cons (pv 0) pa_nil))) (g_tup rfl rfl (pgs_cons (pg_name (i := 1) sc__check_no_quarrel.nd rfl (.inl rfl)) (pgs_cons (pg_name (i := 2) sc__check_no_quarrel.nd rfl (.inl rfl)) pgs_nil)) rfl rfl) (pss_one (ps_raise rfl (takes_of rfl rfl rfl rfl) (mk_Quarrel T (hr.mono (by decide)) (pa_cons (pv 1) (pa_cons (pv 2) pa_nil)) (by rfl)))))), ?_⟩
    walk_at "sti"
    refine ⟨a, fs, rfl, hfa, hf, fun p ws H' s1 np e pw => ?_⟩
    walk_at "gi"
    refine r_forLs ws (fun i σ H2 => H2 = H' ∧ (∃ x1 x2, σ = [some (.ref a), x1, x2]) ∧ (i = 0 ∨ ws.length < i)) ⟨rfl, ⟨_, _, rfl⟩, .inl rfl⟩ (fun i σ H2 hi hP => ?_) (fun i x σ H2 hi hP => ?_) (fun σ H2 hP => ?_)
    · obtain ⟨rfl, _⟩ := hP
      exact SqL.of e
    · obtain ⟨rfl, ⟨x1, x2, rfl⟩, rfl | z⟩ := hP
      · obtain ⟨o, ho, t, rfl, st⟩ := pw.get hi
        obtain ⟨l, hl⟩ : ∃ l, qall fs fs.length = o :: l := by
          cases h : qall fs fs.length with
          | nil => rw [h] at ho; cases ho
          | cons a l => rw [h] at ho; cases ho; exact ⟨l, rfl⟩
        refine r_gtup st rfl ?_
        walk_at "gi"
        exact fun d hd => q2 _ _ l hl _ d (s1.trans (Same.new hd)) upd_same
      · have := (List.getElem?_eq_some_iff.mp hi).1
        omega
    · obtain ⟨rfl, ⟨x1, x2, rfl⟩, hz⟩ := hP
      have lw := pw.length
      have e0 : qall fs fs.length = [] := by
        rcases hz with z | z
        · exact List.length_eq_zero_iff.mp (by omega)
        · omega
      walk_at "gi"
      exact q1 e0 _ s1
end
section
variable {P : Program} {w : World} {K : PySem.W.Frag} {mg : Str → Option Value} {base : Heap}
theorem e60 : (2 : Nat) ^ 60 = 1152921504606846976 := by decide
theorem e59 : (2 : Nat) ^ 59 = 576460752303423488 := by decide
theorem e50 : (2 : Nat) ^ 50 = 1125899906842624 := by decide
theorem e62 : (2 : Int) ^ 62 = 4611686018427387904 := by decide
theorem ok__law_pour (T : Top K mg) : Ok P w K mg base 1 "_law_pour" s__law_pour ["_law_jug_here", "_law_most"] sp_pour := by
  refine T.d__law_pour.ok sc__law_pour (fun vs H Q E h => ?_) (fun f cdv A outer s H vs Q E hg hr h => ?_)
  · obtain ⟨k, u, n, rfl, _⟩ := h
    rfl
  · obtain ⟨k, u, n, rfl, ⟨a, b, c, hk, o⟩, hn, h0, h1, q⟩ := h
    obtain ⟨oa, oab, ob, obM, oc, ocn⟩ := o
    have E60 := e60
    refine ⟨_, (pss_cons (ps_asg (pe_op op_add (pe_ix (x_list rfl) (pv 0) pe_int (fun _ _ => rfl)) pe_int) (pg_sub (pv 0) pe_int set_list))
    (pss_cons (ps_if (pt_cmpR op_gt (pe_ix (x_list rfl) (pv 0) pe_int (fun _ _ => rfl)) pe_int (nomark _)) (pss_cons (ps_asg (pe_callB (id := "divmod") c_divmod (by rfl) T.b_divmod (by decide +kernel) (pa_cons (pe_ix (x_list rfl) (pv 0) pe_int (fun _ _ => rfl)) (pa_cons (pv 1) pa_nil))) (g_tup rfl rfl (pgs_cons (pg_sub (pv 0) pe_int set_list) (pgs_cons (pg_name (i := 2) sc__law_pour.nd rfl (.inl rfl)) pgs_nil)) rfl rfl))
    (pss_one (ps_ret (pv 2)))) pss_nil)
    (pss_cons (ps_set (i := 3) sc__law_pour.nd rfl (.inl rfl) (pe_callTy (T := "int") c_int (by rfl) T.b_int (by decide +kernel) (pa_cons (pe_ix (x_list rfl) (pv 0) pe_int (fun _ _ => rfl)) pa_nil)))
    (pss_cons (ps_asg (pe_op op_mod (pe_callTy (T := "int") c_int (by rfl) T.b_int (by decide +kernel) (pa_cons (pe_op op_add (pe_op op_add (pe_op op_mulX (pv 3) (pe_op op_add (pe_op op_mod (pe_callTy (T := "int") c_int (by rfl) T.b_int (by decide +kernel) (pa_cons (pv 3) pa_nil)) pe_int) pe_int)) (pe_op op_mulX pe_int (pe_ix (x_list rfl) (pv 0) pe_int (fun _ _ => rfl)))) pe_int) pa_nil)) pe_int) (pg_sub (pv 0) pe_int set_list))
    (pss_one (ps_ret (pe_op op_mod (pe_callTy (T := "int") c_int (by rfl) T.b_int (by decide +kernel) (pa_cons (pe_op op_fdivW (pe_ix (x_list rfl) (pv 0) pe_int (fun _ _ => rfl)) pe_int) pa_nil)) (pv 1)))))))), ?_⟩
    walk_at "st"
    refine r_ixL (SqL.of hk) (atI_nat (j := 2) rfl) ?_
    walk_at "go"
    refine r_setL (j := 2) hk rfl ?_
    walk_at "gi"
    have hk1 : upd H k (.lst ([V.int b, V.int a, V.int c].set 2 (V.int (c + 1)))) k = some (.lst [.int b, .int a, .int (c + 1)]) := upd_same
    have x1 : Kx k H (upd H k (.lst ([V.int b, V.int a, V.int c].set 2 (V.int (c + 1))))) := Kx.upd
    generalize upd H k (.lst ([V.int b, V.int a, V.int c].set 2 (V.int (c + 1)))) = H1 at *
    have L : SqL K H1 k [.int b, .int a, .int (c + 1)] := SqL.of hk1
    refine r_ixL L (atI_nat (j := 1) rfl) ?_
    walk_at "gi"
    refine ifd (fun ca => ?_) (fun ca => ?_)
    · walk_at "gi"
      refine r_ixL L (atI_nat (j := 1) rfl) ?_
      walk_at "gi"
      refine r_divmod (divp_of h0 h1) fun p hp => ?_
      walk_at "gi"
      refine r_setL (j := 1) (at_new hp hk1) rfl ?_
      walk_at "gi"
      refine q _ _ (Int.emod_nonneg _ (by omega)) (Int.emod_lt_of_pos _ h0) (x1.trans (Kx.trans (Same.toKx (Same.new hp)) Kx.upd)) ⟨a / u, b, c + 1, upd_same, ⟨Int.ediv_nonneg oa (by omega), ?_, ob, obM, by omega, by omega⟩⟩
      refine Nat.le_trans (bits_mono ?_) oab
      have := Int.ediv_le_self u oa
      have := Int.ediv_nonneg oa (show 0 ≤ u by omega)
      omega
    · walk_at "go"
      refine r_ixL L (atI_nat (j := 0) rfl) ?_
      walk_at "go"
      refine r_rI (by decide) ?_
      walk_at "go"
      have m1 := Int.emod_nonneg b (show (7001 : Int) ≠ 0 by decide)
      have m2 := Int.emod_lt_of_pos b (show (0 : Int) < 7001 by decide)
      refine r_rI (bit_mul (a := 40) (b := 40) (bit_of (by omega)) (bit_of (by omega)) (by decide)) ?_
      walk_at "go"
      refine r_ixL L (atI_nat (j := 2) rfl) ?_
      walk_at "go"
      refine r_rI (bit_mul (a := 64) (b := 64) (bit_of (by decide)) (bit_of (by omega)) (by decide)) ?_
      walk_at "go"
      refine r_rI (by decide) ?_
      walk_at "go"
      generalize hz : (b * (b % 7001 + 40009) + 523 * (c + 1) + 13) % 2147480743 = z
      have z1 : 0 ≤ z := by rw [← hz]; exact Int.emod_nonneg _ (by decide)
      have z2 : z < 2147480743 := by rw [← hz]; exact Int.emod_lt_of_pos _ (by decide)
      refine r_setL (j := 0) hk1 rfl ?_
      walk_at "go"
      refine r_ixL (SqL.of upd_same) (atI_nat (j := 0) rfl) ?_
      walk_at "go"
      refine r_rI (divw_of (by decide) (by decide)) ?_
      walk_at "go"
      refine r_rI h0 ?_
      refine q _ _ (Int.emod_nonneg _ (by omega)) (Int.emod_lt_of_pos _ h0) (x1.trans Kx.upd) ⟨a, z, c + 1, upd_same, ⟨oa, oab, z1, by omega, by omega, by omega⟩⟩
theorem ok__law_one_of (T : Top K mg) : Ok P w K mg base 2 "_law_one_of" s__law_one_of ["_law_jug_here", "_law_menu"] (sp_one_of K) := by
  have G__law_pour := ok__law_pour (P := P) (w := w) (base := base) T
  refine T.d__law_one_of.ok sc__law_one_of (fun vs H Q E h => ?_) (fun f cdv A outer s H vs Q E hg hr h => ?_)
  · obtain ⟨k, t, xs, n, rfl, _⟩ := h
    rfl
  · obtain ⟨k, t, xs, n, rfl, hk, hn, ht, hs, h0, h1, q⟩ := h
    refine ⟨_, (pss_one (ps_ret (pe_ix (x_list rfl) (pv 1) (pe_g G__law_pour (fun _ _ F => bd__law_pour F) hg (hr.mono (by decide)) passL (by rfl) (pa_cons (pv 0) (pa_cons (pe_callB (id := "len") (c_len rfl) (by rfl) T.b_len (by decide +kernel) (pa_cons (pv 1) pa_nil)) pa_nil))) (fun _ _ => rfl)))), ?_⟩
    walk_at "st"
    refine i_pour n hk hn (by omega) (by omega) fun f H' f0 f1 kx hk' => ?_
    obtain ⟨j, rfl⟩ := Int.eq_ofNat_of_zero_le f0
    have hj : j < xs.length := by omega
    exact r_ixL (kx.list ht hs) (atI_nat (List.getElem?_eq_getElem hj)) (q j _ _ (List.getElem?_eq_getElem hj) kx hk')
theorem ok__law_jug (T : Top K mg) : Ok P w K mg base 1 "_law_jug" s__law_jug ["_law_script", "_law_turn"] (sp_jug K) := by
  refine T.d__law_jug.ok sc__law_jug (fun vs H Q E h => ?_) (fun f cdv A outer s H vs Q E hg hr h => ?_)
  · obtain ⟨c, ns, j, rfl, _⟩ := h
    rfl
  · obtain ⟨c, ns, j, rfl, hs, ⟨hl, hb⟩, hj, q⟩ := h
    have cell : ∀ i : Nat, i < ns.length → ∃ z, (ns.map V.int)[i]? = some (V.int z) ∧ Builtin.Int.intBits z ≤ 1048576 := fun i hi =>
      ⟨ns[i], by rw [List.getElem?_map, List.getElem?_eq_getElem hi]; rfl, hb _ (List.getElem_mem hi)⟩
    refine ⟨_, (pss_cons (ps_set (i := 2) sc__law_jug.nd rfl (.inl rfl) (pe_ifExp (pt_cmpR op_lt (pv 1) (pe_callB (id := "len") (c_len rfl) (by rfl) T.b_len (by decide +kernel) (pa_cons (pv 0) pa_nil)) (nomark _)) (pe_callTy (T := "int") c_int (by rfl) T.b_int (by decide +kernel) (pa_cons (pe_ix (x_list rfl) (pv 0) (pv 1) (fun _ _ => rfl)) pa_nil)) (pe_op op_add (pe_op op_mulX pe_int (pv 1)) pe_int)))
    (pss_cons (ps_set (i := 3) sc__law_jug.nd rfl (.inl rfl) (pe_op op_add pe_int (pe_op op_mulX pe_int (pv 1))))
    (pss_cons (ps_for (passes_of rfl) rfl (i_list rfl (pe_slice (s_list rfl) (pv 0) po_none (po_some pe_int))) (pg_name (i := 4) sc__law_jug.nd rfl (.inl rfl)) (pss_one (ps_set (i := 3) sc__law_jug.nd rfl (.inl rfl) (pe_op op_mod (pe_callTy (T := "int") c_int (by rfl) T.b_int (by decide +kernel) (pa_cons (pe_op op_add (pe_op op_add (pe_op op_mulX (pv 3) pe_int) (pe_callTy (T := "int") c_int (by rfl) T.b_int (by decide +kernel) (pa_cons (pv 4) pa_nil))) pe_int) pa_nil)) pe_int))))
    (pss_one (ps_ret (pe_lst (pa_cons (pe_op op_mod (pe_callTy (T := "int") c_int (by rfl) T.b_int (by decide +kernel) (pa_cons (pe_op op_add (pv 3) (pe_op op_mulX (pv 2) pe_int)) pa_nil)) pe_int) (pa_cons (pe_ifExp (PW.pt (pw_or (pt_cmpR op_lt (pv 2) pe_int (nomark _)) (pw_or1 (pt_cmpR op_ge (pv 2) (pe_op op_pow pe_int pe_int) (nomark _))))) (pe_callB (id := "abs") c_abs (by rfl) T.b_abs (by decide +kernel) (pa_cons (pv 2) pa_nil)) pe_int) (pa_cons pe_int pa_nil))))))))), ?_⟩
    walk_at "st"
    refine j_if (fun v H' => H' = H ∧ ∃ own : Int, v = .int own ∧ Builtin.Int.intBits own ≤ 1048576) (fun Q' q' => ?_) (fun v H' hv => ?_)
    · walk_at "gi"
      refine ifd (fun cc => ?_) (fun cc => ?_)
      · walk_at "gi"
        have hj2 : j < ns.length := by
          rw [List.length_map] at cc
          omega
        obtain ⟨z, e, hz⟩ := cell j hj2
        refine r_ixL hs (atI_nat e) ?_
        walk_at "gi"
        exact q' _ _ ⟨rfl, z, rfl, hz⟩
      · walk_at "gi"
        refine r_rI (bit_mul (a := 64) (b := 64) (bit_of (by decide)) (bit_of (by omega)) (by decide)) ?_
        walk_at "gi"
        exact q' _ _ ⟨rfl, _, rfl, Nat.le_trans (bit_of (a := 64) (by omega)) (by decide)⟩
    obtain ⟨rfl, own, rfl, ho⟩ := hv
    walk_at "go"
    refine r_rI (bit_mul (a := 64) (b := 64) (bit_of (by decide)) (bit_of (by omega)) (by decide)) ?_
    walk_at "go"
    -- script[:6]
    refine r_slL hs fun p hp => ?_
    walk_at "go"
    have cut : cutV (ns.map V.int) none (some 6) = (ns.take 6).map V.int := by
      exact (cut_to (ns.map V.int) 6).trans (List.map_take ..).symm
    rw [cut]
    have hcut : ∀ z ∈ ns.take 6, Builtin.Int.intBits z ≤ 1048576 := fun z hz => hb z (List.mem_of_mem_take hz)
    generalize ns.take 6 = ms at *
    refine r_forLs (ms.map V.int) (fun i σ H1 => H1 = upd H' p (.lst (ms.map V.int)) ∧ ∃ (bl : Int) (x4 : Option V), σ = [some (.ref c), some (.int (j : Int)), some (.int own), some (.int bl), x4] ∧ 0 ≤ bl ∧ bl < 2 ^ 40)
      ⟨rfl, 70001 + 6007 * (j : Int), none, rfl, by omega, by omega⟩ (fun i σ H1 _ hP => ?_) (fun i x σ H1 hi hP => ?_) (fun σ H1 hP => ?_)
    · obtain ⟨rfl, _⟩ := hP
      exact SqL.of upd_same
    · obtain ⟨rfl, bl, x4, rfl, b0, b1⟩ := hP
      have hx : ∃ z, x = V.int z ∧ Builtin.Int.intBits z ≤ 1048576 := by
        rw [List.getElem?_map] at hi
        cases e : ms[i]? with
        | none => rw [e] at hi; cases hi
        | some z =>
          rw [e] at hi
          exact ⟨z, (Option.some.inj hi).symm, hcut z (List.mem_of_getElem? e)⟩
      obtain ⟨z, rfl, hz⟩ := hx
      walk_at "go"
      refine r_rI (bit_mul (a := 64) (b := 64) (bit_of (by omega)) (bit_of (by decide)) (by decide)) ?_
      walk_at "go"
      refine r_rI (by decide) ?_
      walk_at "go"
      exact ⟨rfl, _, _, rfl, Int.emod_nonneg _ (by decide), Int.lt_trans (Int.emod_lt_of_pos _ (by decide)) (by decide)⟩
    obtain ⟨rfl, bl, x4, rfl, b0, b1⟩ := hP
    walk_at "go"
    refine r_rI (bit_mul (b := 64) ho (bit_of (by decide)) (by decide)) ?_
    walk_at "go"
    refine r_rI (by decide) ?_
    walk_at "go"
    refine j_if (fun v H1 => H1 = upd H' p (.lst (ms.map V.int)) ∧ ∃ a : Int, v = .int a ∧ 0 ≤ a ∧ Builtin.Int.intBits a ≤ 1048600) (fun Q' q' => ?_) (fun v H1 hv => ?_)
    · walk_at "gi"
      refine ifd (fun cc => ?_) (fun cc => ?_)
      · walk_at "gi"
        refine q' _ _ ⟨rfl, _, rfl, by omega, Nat.le_trans (bits_mono ?_) (Nat.le_trans ho (by decide))⟩
        omega
      · walk_at "gi"
        refine r_rI ⟨by decide, by decide, by decide⟩ ?_
        walk_at "gi"
        refine ifd (fun c2 => ?_) (fun c2 => ?_)
        · walk_at "gi"
          refine q' _ _ ⟨rfl, _, rfl, by omega, Nat.le_trans (bits_mono ?_) (Nat.le_trans ho (by decide))⟩
          omega
        · walk_at "gi"
          exact q' _ _ ⟨rfl, 0, rfl, by decide, by decide⟩
    obtain ⟨rfl, a, rfl, a0, ab⟩ := hv
    walk_at "go"
    exact q _ _ (by walk_at "vsame") (none_up (by assumption)) ⟨a, _, 0, upd_same, ⟨a0, ab, Int.emod_nonneg _ (by decide), Int.lt_trans (Int.emod_lt_of_pos _ (by decide)) (by decide), by decide, by decide⟩⟩
end
section
variable {P : Program} {w : World} {K : PySem.W.Frag} {mg : Str → Option Value} {base : Heap}
/-- what facts make, or the first two that quarrel -/
def sp_joined (K : PySem.W.Frag) (C : Addr) : Sp := fun vs H Q E => ∃ (a : Addr) (fs : List (Int × Int)), vs = [.ref a] ∧ FactsAt K H a fs ∧ Facts fs ∧
  (qall fs fs.length = [] → ∃ R, Vf.Jn fs R ∧ NewT [.int R, .int (lcmAll fs : Int)] H Q) ∧ ∀ i j l, qall fs fs.length = (i, j) :: l → Clash H C i j E
theorem ok__made_by (T : Top K mg) : Ok P w K mg base 6 "_made_by" s__made_by ["facts"] (sp_joined K (cA mg "Quarrel")) := by
  have G__check_no_quarrel := ok__check_no_quarrel (P := P) (w := w) (base := base) T
  have G_all_merged := ok_all_merged (P := P) (w := w) (base := base) T
  refine T.d__made_by.ok sc__made_by (fun vs H Q E h => ?_) (fun f cdv A outer s H vs Q E hg hr h => ?_)
  · obtain ⟨a, fs, rfl, _⟩ := h
    rfl
  · obtain ⟨a, fs, rfl, hfa, hf, q1, q2⟩ := h
    refine ⟨_, (pss_cons (ps_expr (pe_gS G__check_no_quarrel (fun _ _ F => bd__check_no_quarrel F) hg (hr.mono (by decide)) (takes_of rfl rfl rfl rfl) (by rfl) (pa_cons (pv 0) pa_nil)))
    (pss_one (ps_ret (pe_g G_all_merged (fun _ _ F => bd_all_merged F) hg (hr.mono (by decide)) passL (by rfl) (pa_cons (pv 0) pa_nil))))), ?_⟩
    walk_at "sti"
    refine ⟨a, fs, rfl, hfa, hf, fun e H1 s1 => ?_, q2⟩
    obtain ⟨R, jn, q⟩ := q1 e
    walk_at "gi"
    refine ⟨a, fs, rfl, hfa.tt (Same.tt s1), hf, fun z => absurd jn.fits (z R), fun S js p H2 s2 np hp => ?_⟩
    rw [Vf.Jn.one js jn] at hp
    exact q _ _ (s1.trans s2) (none_same s1 np) hp
theorem ok_joined (T : Top K mg) : Ok P w K mg base 7 "joined" s_joined ["facts"] (sp_joined K (cA mg "Quarrel")) := by
  have G_check_facts := ok_check_facts (P := P) (w := w) (base := base) T
  have G__made_by := ok__made_by (P := P) (w := w) (base := base) T
  refine T.d_joined.ok sc_joined (fun vs H Q E h => ?_) (fun f cdv A outer s H vs Q E hg hr h => ?_)
  · obtain ⟨a, fs, rfl, _⟩ := h
    rfl
  · obtain ⟨a, fs, rfl, hfa, hf, q1, q2⟩ := h
    refine ⟨_, (pss_cons (ps_expr (pe_g G_check_facts (fun _ _ F => bd_check_facts F) hg (hr.mono (by decide)) passL (by rfl) (pa_cons (pv 0) pa_nil)))
    (pss_one (ps_ret (pe_gS G__made_by (fun _ _ F => bd__made_by F) hg (hr.mono (by decide)) (takes_of rfl rfl rfl rfl) (by rfl) (pa_cons (pv 0) pa_nil))))), ?_⟩
    walk_at "sti"
    refine ⟨a, fs, rfl, hfa, hf, fun H1 s1 => ?_⟩
    walk_at "gi"
    refine ⟨a, fs, rfl, hfa.tt (Same.tt s1), hf, fun e => ?_, fun i j l e H2 d s2 hd => q2 i j l e H2 d (s1.trans s2) hd⟩
    obtain ⟨R, jn, q⟩ := q1 e
    exact ⟨R, jn, fun p H2 s2 n2 e2 => q p H2 (s1.trans s2) (none_same s1 n2) e2⟩
end
section
variable {P : Program} {w : World} {K : PySem.W.Frag} {mg : Str → Option Value} {base : Heap}
/-! ### drawn facts of a list or a tuple -/
def FactsS (K : PySem.W.Frag) (H : Hp) (a : Addr) (fs : List (Int × Int)) : Prop := ∃ vs, Sq K H a vs ∧ PairsAt K H vs fs
theorem FactsAt.seq {H : Hp} {a : Addr} {fs : List (Int × Int)} (h : FactsAt K H a fs) : FactsS K H a fs := by
  obtain ⟨vs, s, p⟩ := h
  exact ⟨vs, .inr s, p⟩
theorem FactsS.same {H H' : Hp} {a : Addr} {fs : List (Int × Int)} (h : FactsS K H a fs) (s : Same H H') : FactsS K H' a fs := by
  obtain ⟨vs, q, p⟩ := h
  exact ⟨vs, q.same s, p.tt (Same.tt s)⟩
def Dr (fs : List (Int × Int)) : Prop := fs.length ≤ 5 ∧ ∀ p ∈ fs, 1 ≤ p.2 ∧ p.2 ≤ 15 ∧ 0 ≤ p.1 ∧ p.1 < p.2
theorem Dr.facts {fs : List (Int × Int)} (h : Dr fs) : Facts fs := ⟨by have := h.1; omega, fun p hp => by
  obtain ⟨h1, h2, h3, h4⟩ := h.2 p hp
  exact ⟨h1, by omega, h3, h4⟩⟩
theorem lcm_le15 : ∀ (fs : List (Int × Int)), (∀ p ∈ fs, 1 ≤ p.2 ∧ p.2 ≤ 15 ∧ 0 ≤ p.1 ∧ p.1 < p.2) → lcmAll fs ≤ 15 ^ fs.length := by
  refine fun fs => Vf.snoc_ind (M := fun fs => (∀ p ∈ fs, 1 ≤ p.2 ∧ p.2 ≤ 15 ∧ 0 ≤ p.1 ∧ p.1 < p.2) → lcmAll fs ≤ 15 ^ fs.length) (fun _ => Nat.le_refl _) (fun fs p ih h => ?_) fs
  rw [lcmAll_snoc, List.length_append, List.length_singleton, Nat.pow_succ]
  have h1 := ih fun q hq => h q (List.mem_append_left _ hq)
  have h2 := h p (List.mem_append_right _ List.mem_cons_self)
  refine Nat.le_trans (Nat.le_of_dvd ?_ (Nat.lcm_dvd (Nat.dvd_mul_right _ _) (Nat.dvd_mul_left _ _))) (Nat.mul_le_mul h1 (show p.2.natAbs ≤ 15 by omega))
  exact Nat.mul_pos (lcmAll_pos fs 1 (fun q hq => by
    obtain ⟨h1, h2, h3, h4⟩ := h q (List.mem_append_left _ hq)
    exact ⟨h1, by omega, h3, h4⟩) (by decide)) (by omega)
theorem Dr.lcm {fs : List (Int × Int)} (h : Dr fs) : lcmAll fs ≤ 759375 :=
  Nat.le_trans (lcm_le15 fs h.2) (Nat.le_trans (Nat.pow_le_pow_right (by decide) h.1) (by decide))
theorem Dr.take {fs : List (Int × Int)} (h : Dr fs) (i : Nat) : Dr (fs.take i) := ⟨Nat.le_trans (List.length_take_le' ..) h.1, fun p hp => h.2 p (List.mem_of_mem_take hp)⟩
theorem Dr.pos {fs : List (Int × Int)} (h : Dr fs) : 0 < lcmAll fs := lcmAll_pos fs 1 h.facts.2 (by decide)
/-! ### the law's own looks -/
def sp_shared : Sp := fun vs H Q _ => ∃ a b : Int, vs = [.int a, .int b] ∧ Q (.int ((Nat.gcd a.natAbs b.natAbs : Nat) : Int)) H
theorem ok__law_shared (T : Top K mg) : Ok P w K mg base 1 "_law_shared" s__law_shared ["_law_a", "_law_b"] sp_shared := by
  refine T.d__law_shared.ok sc__law_shared (fun vs H Q E h => ?_) (fun f cdv A outer s H vs Q E hg hr h => ?_)
  · obtain ⟨a, b, rfl, _⟩ := h
    rfl
  · obtain ⟨a, b, rfl, q⟩ := h
    refine ⟨_, (pss_cons (ps_par (i := 0) (j := 1) (by rfl) sc__law_shared.nd rfl rfl (by decide) rfl rfl (pa_cons (pe_callB (id := "abs") c_abs (by rfl) T.b_abs (by decide +kernel) (pa_cons (pv 0) pa_nil)) (pa_cons (pe_callB (id := "abs") c_abs (by rfl) T.b_abs (by decide +kernel) (pa_cons (pv 1) pa_nil)) pa_nil)) (by rfl))
    (pss_cons (ps_while (passes_of rfl) (pt_cmpR op_gt (pv 1) pe_int (nomark _)) (pss_one (ps_par (i := 0) (j := 1) (by rfl) sc__law_shared.nd rfl rfl (by decide) rfl rfl (pa_cons (pv 1) (pa_cons (pe_op op_mod (pe_callTy (T := "int") c_int (by rfl) T.b_int (by decide +kernel) (pa_cons (pv 0) pa_nil)) (pv 1)) pa_nil)) (by rfl))))
    (pss_one (ps_ret (pv 0))))), ?_⟩
    walk_at "st"
    refine r_while (fun m σ H' => H' = H ∧ ∃ x : Nat, σ = [some (.int (x : Int)), some (.int (m : Int))] ∧ Nat.gcd x m = Nat.gcd a.natAbs b.natAbs) b.natAbs ?_ (fun m σ H' hW => ?_)
    · exact ⟨rfl, a.natAbs, rfl, rfl⟩
    · obtain ⟨rfl, x, rfl, e⟩ := hW
      walk_at "go"
      refine ifd (fun c => ?_) (fun c => ?_)
      · walk_at "gi"
        refine r_rI c ?_
        walk_at "gi"
        refine ⟨x % m, Nat.mod_lt _ (by omega), rfl, m, rfl, ?_⟩
        rw [Nat.gcd_comm, ← Nat.gcd_rec, Nat.gcd_comm]
        exact e
      · walk_at "gi"
        have m0 : m = 0 := by omega
        subst m0
        rw [Nat.gcd_zero_right] at e
        rw [e]
        exact q
theorem lcm_step {m b : Nat} (hm : 0 < m) : ((m : Nat) : Int) / ((Nat.gcd m b : Nat) : Int) * (b : Int) = ((Nat.lcm m b : Nat) : Int) := by
  rw [← Int.natCast_ediv, ← Int.natCast_mul, Nat.lcm_comm]
  congr 1
  show m / Nat.gcd m b * b = b * m / Nat.gcd b m
  rw [Nat.gcd_comm m b, Nat.mul_comm, ← Nat.mul_div_assoc b (Nat.gcd_dvd_right b m)]
def sp_round (K : PySem.W.Frag) : Sp := fun vs H Q _ => ∃ (a : Addr) (fs : List (Int × Int)), vs = [.ref a] ∧ FactsS K H a fs ∧ Facts fs ∧ Q (.int (lcmAll fs : Int)) H
theorem round_step {m : Nat} {o : Int} (m0 : 0 < m) (mB : m ≤ Bq) (o0 : 0 < o) (oB : o ≤ 10 ^ 30) : 0 < ((Nat.gcd m o.natAbs : Nat) : Int) ∧ ((m : Nat) : Int) / ((Nat.gcd m o.natAbs : Nat) : Int) * o = ((Nat.lcm m o.natAbs : Nat) : Int) ∧
    (((m : Nat) : Int) / ((Nat.gcd m o.natAbs : Nat) : Int)).natAbs ≤ Bq ∧ o.natAbs ≤ Bq := by
  have g0 : 0 < Nat.gcd m o.natAbs := Nat.gcd_pos_of_pos_left _ m0
  have z := lcm_step (m := m) (b := o.natAbs) m0
  rw [show ((o.natAbs : Nat) : Int) = o by omega] at z
  refine ⟨by omega, z, ?_, ?_⟩
  · rw [← Int.natCast_ediv, Int.natAbs_natCast]
    exact Nat.le_trans (Nat.div_le_self _ _) mB
  · refine Nat.le_trans (?_ : o.natAbs ≤ 2 ^ 100) (Nat.pow_le_pow_right (by decide) (by decide))
    omega
theorem ok__law_round (T : Top K mg) : Ok P w K mg base 2 "_law_round" s__law_round ["_law_some"] (sp_round K) := by
  have G__law_shared := ok__law_shared (P := P) (w := w) (base := base) T
  refine T.d__law_round.ok sc__law_round (fun vs H Q E h => ?_) (fun f cdv A outer s H vs Q E hg hr h => ?_)
  · obtain ⟨a, fs, rfl, _⟩ := h
    rfl
  · obtain ⟨a, fs, rfl, ⟨vs, sv, pvs⟩, hF, q⟩ := h
    have ev := pvs.length
    refine ⟨_, (pss_cons (ps_set (i := 1) sc__law_round.nd rfl (.inl rfl) pe_int)
    (pss_cons (ps_for (passes_of rfl) rfl (i_seq rfl (pv 0)) (pg_name (i := 2) sc__law_round.nd rfl (.inl rfl)) (pss_one (ps_set (i := 1) sc__law_round.nd rfl (.inl rfl) (pe_op op_mulX (pe_op op_fdivW (pv 1) (pe_g G__law_shared (fun _ _ F => bd__law_shared F) hg (hr.mono (by decide)) passL (by rfl) (pa_cons (pv 1) (pa_cons (pe_ix (x_tup rfl) (pv 2) pe_int (fun _ _ => rfl)) pa_nil)))) (pe_ix (x_tup rfl) (pv 2) pe_int (fun _ _ => rfl))))))
    (pss_one (ps_ret (pv 1))))), ?_⟩
    walk_at "st"
    refine r_forQs vs sv (fun i σ H' => H' = H ∧ ∃ x2, σ = [some (.ref a), some (.int (lcmAll (fs.take i) : Int)), x2]) ⟨rfl, _, rfl⟩ (fun i σ H' hi hP => ?_) (fun i v σ H' hi hP => ?_) (fun σ H' hP => ?_)
    · obtain ⟨rfl, _⟩ := hP
      exact Same.refl _
    · obtain ⟨rfl, x2, rfl⟩ := hP
      obtain ⟨o, ho, t, rfl, st⟩ := pvs.get hi
      obtain ⟨o1, o2, o3, o4⟩ := hF.2 o (List.mem_of_getElem? ho)
      have mo : ∀ p ∈ fs.take i, Fact p := fun p hp => hF.2 p (List.mem_of_mem_take hp)
      have l0 : 0 < lcmAll (fs.take i) := lcmAll_pos (fs.take i) 1 mo (by decide)
      have l1 : lcmAll (fs.take i) ≤ Bq := Facts.lcm_Bq mo (by rw [List.length_take]; have := hF.1; omega)
      have tk : fs.take (i + 1) = fs.take i ++ [o] := by rw [List.take_add_one, ho]; rfl
      obtain ⟨g0, g1, g2, g3⟩ := round_step l0 l1 (show 0 < o.2 by omega) o2
      walk_at "go"
      refine r_ixT st (atI_nat (j := 1) rfl) ?_
      walk_at "go"
      refine ⟨_, _, rfl, ?_⟩
      rw [Int.natAbs_natCast]
      walk_at "go"
      refine r_rI (Bq_div g0 (Nat.le_trans (Nat.gcd_le_left _ l0) l1)) ?_
      walk_at "go"
      refine r_ixT st (atI_nat (j := 1) rfl) ?_
      walk_at "go"
      refine r_rI (bit_mul (Bq_bits g2) (Bq_bits g3) (by decide)) ?_
      walk_at "go"
      refine ⟨rfl, some (.ref t), ?_⟩
      rw [tk, lcmAll_snoc, g1]
      rfl
    · obtain ⟨rfl, x2, rfl⟩ := hP
      rw [List.take_of_length_le (by omega)]
      walk_at "go"
      exact q
end
section
variable {P : Program} {w : World} {K : PySem.W.Frag} {mg : Str → Option Value} {base : Heap}
/-! ### the law's own look at each fact -/
def pairD (p : Int × Int) : PyData := .tuple [.int p.1, .int p.2]
theorem canPairs : ∀ gs : List (Int × Int), PyData.canLayAll0 (gs.map pairD) = true
  | [] => rfl
  | g :: gs => by
    show (PyData.canLay0 (pairD g) && PyData.canLayAll0 (gs.map pairD)) = true
    rw [canPairs gs]; rfl
theorem depthPairs : ∀ gs : List (Int × Int), PyData.depthAll (gs.map pairD) ≤ 1
  | [] => by decide
  | g :: gs => by
    show max (PyData.depth (pairD g)) (PyData.depthAll (gs.map pairD)) ≤ 1
    have := depthPairs gs
    have e : PyData.depth (pairD g) = 1 := rfl
    omega
theorem dpPairs {H : Hp} : ∀ {vs : List V} {gs : List (Int × Int)}, PairsAt K H vs gs → DpAll K H vs (gs.map pairD)
  | _, _, .nil => .nil
  | _, _, .cons (b := q) r t => by
    obtain ⟨u, e, st⟩ := r
    subst e
    exact .cons (.tup st (.cons (.int _) (.cons (.int _) .nil))) (dpPairs t)
/-- a list of pairs, compared with the empty one -/
theorem r_eqP {H : Hp} {Q : VK} {a b : Addr} {vs : List V} (gs : List (Int × Int)) (h1 : SqL K H a vs) (hp : PairsAt K H vs gs) (h2 : SqL K H b []) (h : Q (.bl gs.isEmpty) H) : rEqD K (.ref a) (.ref b) H Q := by
  refine r_eqD (Dp.lst h1 (dpPairs hp)) (Dp.lst h2 .nil) ?_ ?_ ?_
  · unfold SeqAt.shaped
    rw [Bool.and_eq_true]
    refine ⟨canPairs gs, decide_eq_true ?_⟩
    show PyData.depthAll (gs.map pairD) + 1 ≤ 64
    have := depthPairs gs
    omega
  · rfl
  · rw [show PyData.eqv (.list (gs.map pairD)) (.list []) = gs.isEmpty by cases gs <;> rfl]
    exact h
def misses (x : Int) (fs : List (Int × Int)) : List (Int × Int) := fs.filter fun p => !decide ((x - p.1) % p.2 = 0)
theorem misses_all (x : Int) : ∀ fs, (misses x fs).isEmpty = fs.all fun p => decide ((x - p.1) % p.2 = 0)
  | [] => rfl
  | p :: fs => by
    have := misses_all x fs
    unfold misses at *
    rw [List.filter_cons, List.all_cons, ← this]
    by_cases h : (x - p.1) % p.2 = 0
    · simp [h]
    · simp [h]
def sp_fit (K : PySem.W.Frag) : Sp := fun vs H Q _ => ∃ (a : Addr) (fs : List (Int × Int)) (x : Int), vs = [.ref a, .int x] ∧ FactsS K H a fs ∧ Dr fs ∧
  ∀ H', Same H H' → Q (.bl (fs.all fun p => decide ((x - p.1) % p.2 = 0))) H'
theorem ok__law_fit (T : Top K mg) : Ok P w K mg base 1 "_law_fit" s__law_fit ["_law_some", "_law_x"] (sp_fit K) := by
  refine T.d__law_fit.ok sc__law_fit (fun vs H Q E h => ?_) (fun f cdv A outer s H vs Q E hg hr h => ?_)
  · obtain ⟨a, fs, x, rfl, _⟩ := h
    rfl
  · obtain ⟨a, fs, x, rfl, ⟨vs, sv, pvs⟩, dr, q⟩ := h
    have ev := pvs.length
    have hl := dr.1
    refine ⟨_, (pss_one (ps_ret (pe_cmpR (o_eqD rfl hr.units) (pe_lc (own := [("_law_pair", 2)]) (by rfl) sc__law_fit.nd (i_seq rfl (pv 0)) (blkOk_by (own := [("_law_pair", 2)]) (N := ["_law_some", "_law_x", "_law_pair"]) (sc := defScope s__law_fit) (by decide +kernel)) (fun _ _ _ _ _ => (pg_name (i := 2) sc__law_fit.nd rfl (Or.inl rfl))) (fun _ _ _ _ _ => (pts_one (pt_cmpR op_neZ (pe_op op_mod (pe_callTy (T := "int") c_int (by rfl) T.b_int (by decide +kernel) (pa_cons (pe_op op_sub (pv 1) (pe_ix (x_tup rfl) (pv 2) pe_int (fun _ _ => rfl))) pa_nil)) (pe_ix (x_tup rfl) (pv 2) pe_int (fun _ _ => rfl))) pe_int (nomark _)))) (fun _ _ _ _ _ => (pv 2))) (pe_lst pa_nil) (nomark _)))), ?_⟩
    walk_at "st"
    refine r_lcQs vs sv (fun D i H' => Same H H' ∧ ∃ ws, H' D = some (.lst ws) ∧ PairsAt K H' ws (misses x (fs.take i))) (fun D hD => ⟨Same.new hD, [], upd_same, .nil⟩) (fun D i H' hD hi hP => ?_) (fun D i v H' hD hi hP => ?_) (fun D H' hD hP => ?_)
    · exact hP.1
    · obtain ⟨s2, ws, d2, pw⟩ := hP
      obtain ⟨p, hp, t, rfl, st⟩ := pvs.get hi
      have st2 := Same.tup s2 st
      have fp := dr.2 p (List.mem_of_getElem? hp)
      have ii : i < fs.length := (List.getElem?_eq_some_iff.mp hp).1
      have lw := pw.length
      have lw2 : (misses x (fs.take i)).length ≤ i := by
        refine Nat.le_trans (List.length_filter_le _ _) ?_
        rw [List.length_take]; omega
      have tk : misses x (fs.take (i + 1)) = misses x (fs.take i) ++ (if (!decide ((x - p.1) % p.2 = 0)) = true then [p] else []) := by
        rw [List.take_add_one, hp]
        unfold misses
        rw [List.filter_append, Option.toList_some, List.filter_cons, List.filter_nil]
      walk_at "go"
      refine ⟨rfl, ?_⟩
      walk_at "go"
      refine r_ixT st2 (atI_nat (j := 0) rfl) ?_
      walk_at "go"
      refine r_ixT st2 (atI_nat (j := 1) rfl) ?_
      walk_at "go"
      refine r_rI (by omega) ?_
      walk_at "go"
      rw [tk]
      refine ifnd (fun c => ?_) (fun c => ?_)
      · rw [if_pos (by rw [decide_eq_false c]; rfl)]
        walk_at "go"
        refine ⟨ws, d2, Nat.lt_of_le_of_lt (show ws.length ≤ 5 by omega) (by decide), fun b o e => ?_, ws ++ [.ref t], upd_same, ?_⟩
        · rw [upd_ne (ne_of_none e hD)]
          exact s2 _ _ e
        · exact PairsAt.tt (upd_tt d2) (PairsAt.append pw (.cons ⟨t, rfl, st2⟩ .nil))
      · rw [if_neg (by rw [decide_eq_true c]; decide), List.append_nil]
        exact ⟨s2, ws, d2, pw⟩
    · obtain ⟨s2, ws, d2, pw⟩ := hP
      rw [List.take_of_length_le (by omega)] at pw
      walk_at "go"
      rename_i T1 hT1
      refine r_eqP (misses x fs) (SqL.of (at_new hT1 d2)) (pw.tt (new_tt hT1)) (SqL.of upd_same) ?_
      rw [misses_all]
      exact q _ (s2.trans (Same.new hT1))

/-! ### the numbers of a round that fit -/
def fitN (fs : List (Int × Int)) (m : Nat) : List Int := ((List.range m).filter fun i : Nat => fs.all fun p => decide (((i : Int) - p.1) % p.2 = 0)).map fun i : Nat => (i : Int)
theorem fitN_succ (fs : List (Int × Int)) (m : Nat) : fitN fs (m + 1) = fitN fs m ++ (if (fs.all fun p => decide (((m : Int) - p.1) % p.2 = 0)) = true then [(m : Int)] else []) := by
  unfold fitN
  rw [List.range_succ, List.filter_append, List.map_append, List.filter_cons, List.filter_nil]
  congr 1
  cases (fs.all fun p => decide (((m : Int) - p.1) % p.2 = 0)) <;> rfl
theorem fitN_len (fs : List (Int × Int)) (m : Nat) : (fitN fs m).length ≤ m := by
  unfold fitN
  rw [List.length_map]
  exact Nat.le_trans (List.length_filter_le _ _) (by rw [List.length_range]; exact Nat.le_refl m)
theorem all_fits {x : Int} : ∀ {fs : List (Int × Int)}, (∀ p ∈ fs, Fact p) → ((fs.all fun p => decide ((x - p.1) % p.2 = 0)) = true ↔ Fits x fs) := by
  intro fs hf
  rw [List.all_eq_true]
  refine ⟨fun h p hp => ?_, fun h p hp => ?_⟩
  · have z := of_decide_eq_true (h p hp)
    obtain ⟨h1, h2, h3, h4⟩ := hf p hp
    have e := Int.emod_emod_of_dvd x (Int.dvd_refl p.2)
    have y := Int.emod_eq_emod_iff_emod_sub_eq_zero.mpr z
    rw [y, Int.emod_eq_of_lt h3 h4]
  · have z := h p hp
    refine decide_eq_true (Int.emod_eq_emod_iff_emod_sub_eq_zero.mp ?_)
    rw [← z, Int.emod_emod_of_dvd x (Int.dvd_refl p.2)]
theorem fitN_none {fs : List (Int × Int)} (hf : ∀ p ∈ fs, Fact p) (h : ∀ x, ¬ Fits x fs) : ∀ m, fitN fs m = []
  | 0 => rfl
  | m + 1 => by
    rw [fitN_succ, fitN_none hf h m, if_neg (fun c => h _ ((all_fits hf).mp c))]
    rfl
theorem fitN_upto {fs : List (Int × Int)} {R : Int} (hf : ∀ p ∈ fs, Fact p) (h : Jn fs R) : ∀ m : Nat, m ≤ lcmAll fs → fitN fs m = if R < (m : Int) then [R] else []
  | 0, _ => by
    have := h.1
    rw [if_neg (by omega)]
    rfl
  | m + 1, hm => by
    rw [fitN_succ, fitN_upto hf h m (by omega)]
    have e : (m : Int) % (lcmAll fs : Int) = m := Int.emod_eq_of_lt (by omega) (by omega)
    by_cases c : (m : Int) = R
    · rw [if_neg (by omega), if_pos ((all_fits hf).mpr ((h.2.2 _).mpr (e.trans c))), if_pos (by omega), c]
      rfl
    · rw [if_neg (fun z => c (e.symm.trans ((h.2.2 _).mp ((all_fits hf).mp z)))), List.append_nil]
      by_cases d : R < (m : Int)
      · rw [if_pos d, if_pos (by omega)]
      · rw [if_neg d, if_neg (by omega)]
theorem fitN_one {fs : List (Int × Int)} {R : Int} (hf : ∀ p ∈ fs, Fact p) (h : Jn fs R) : fitN fs (lcmAll fs) = [R] := by
  rw [fitN_upto hf h _ (Nat.le_refl _), if_pos h.2.1]
def sp_fitting (K : PySem.W.Frag) : Sp := fun vs H Q _ => ∃ (a : Addr) (fs : List (Int × Int)), vs = [.ref a] ∧ FactsS K H a fs ∧ Dr fs ∧
  ∀ p H', Same H H' → H p = none → H' p = some (.lst ((fitN fs (lcmAll fs)).map V.int)) → Q (.ref p) H'
theorem ok__law_fitting (T : Top K mg) : Ok P w K mg base 3 "_law_fitting" s__law_fitting ["_law_some"] (sp_fitting K) := by
  have G__law_round := ok__law_round (P := P) (w := w) (base := base) T
  have G__law_fit := ok__law_fit (P := P) (w := w) (base := base) T
  refine T.d__law_fitting.ok sc__law_fitting (fun vs H Q E h => ?_) (fun f cdv A outer s H vs Q E hg hr h => ?_)
  · obtain ⟨a, fs, rfl, _⟩ := h
    rfl
  · obtain ⟨a, fs, rfl, fa, dr, q⟩ := h
    have l1 := dr.lcm
    have SL : 800000 < sizeLine := by decide
    refine ⟨_, (pss_one (ps_ret (pe_lc (own := [("_law_x", 1)]) (by rfl) sc__law_fitting.nd (pi_range1 (by rfl) T.b_range (pa_cons (pe_g G__law_round (fun _ _ F => bd__law_round F) hg (hr.mono (by decide)) passL (by rfl) (pa_cons (pv 0) pa_nil)) pa_nil)) (blkOk_by (own := [("_law_x", 1)]) (N := ["_law_some", "_law_x"]) (sc := defScope s__law_fitting) (by decide +kernel)) (fun _ _ _ _ _ => (pg_name (i := 1) sc__law_fitting.nd rfl (Or.inl rfl))) (fun _ _ _ _ _ => (pts_one (pt_val (pe_g G__law_fit (fun _ _ F => bd__law_fit F) hg (hr.mono (by decide)) passL (by rfl) (pa_cons (pv 0) (pa_cons (pv 1) pa_nil)))))) (fun _ _ _ _ _ => (pv 1))))), ?_⟩
    walk_at "st"
    refine ⟨a, fs, rfl, fa, dr.facts, ?_⟩
    walk_at "go"
    refine ⟨by omega, by omega, ?_⟩
    rw [Int.toNat_natCast]
    refine r_lcR (fun D i H' => Same H H' ∧ H' D = some (.lst ((fitN fs i).map V.int))) (fun D hD => ⟨Same.new hD, upd_same⟩) (fun D i H' hD hi hP => ?_) (fun D H' hD hP => ?_)
    · obtain ⟨s3, d3⟩ := hP
      have li := fitN_len fs i
      walk_at "go"
      refine ⟨rfl, ?_⟩
      walk_at "go"
      rw [Int.zero_add] at *
      refine ⟨a, fs, _, rfl, fa.same s3, dr, fun H3 s4 => ?_⟩
      walk_at "go"
      have ef := fitN_succ fs i
      cases hb : (fs.all fun p => decide (((i : Int) - p.1) % p.2 = 0)) with
      | true =>
        rw [if_pos hb] at ef
        walk_at "go"
        refine ⟨_, s4 _ _ d3, by rw [List.length_map]; omega, fun b o e => ?_, ?_⟩
        · rw [upd_ne (ne_of_none e hD)]
          exact s4 _ _ (s3 _ _ e)
        · rw [ef, List.map_append]
          exact upd_same
      | false =>
        rw [if_neg (by rw [hb]; decide), List.append_nil] at ef
        refine ⟨s3.trans s4, ?_⟩
        rw [ef]
        exact s4 _ _ d3
    · obtain ⟨s3, d3⟩ := hP
      exact q _ _ s3 hD d3
end
section
variable {P : Program} {w : World} {K : PySem.W.Frag} {mg : Str → Option Value} {base : Heap}
theorem quarB_symm (p o : Int × Int) : quarB p o = quarB o p := by
  unfold quarB
  rw [Nat.gcd_comm]
  congr 1
  rw [decide_eq_decide]
  constructor
  · intro h
    have z := Int.dvd_neg.mpr (Int.dvd_of_emod_eq_zero h)
    rw [Int.neg_sub] at z
    exact Int.emod_eq_zero_of_dvd z
  · intro h
    have z := Int.dvd_neg.mpr (Int.dvd_of_emod_eq_zero h)
    rw [Int.neg_sub] at z
    exact Int.emod_eq_zero_of_dvd z
theorem quarB_fits {x : Int} {fs : List (Int × Int)} (hf : ∀ p ∈ fs, Fact p) (hx : Fits x fs) {p o : Int × Int} (hp : p ∈ fs) (ho : o ∈ fs) : quarB p o = false := by
  have z := no_quarrel x p.2.natAbs o.2.natAbs
  have ep : ((p.2.natAbs : Nat) : Int) = p.2 := by have := (hf p hp).1; omega
  have eo : ((o.2.natAbs : Nat) : Int) = o.2 := by have := (hf o ho).1; omega
  rw [ep, eo, hx p hp, hx o ho] at z
  unfold quarB
  rw [decide_eq_true z]
  rfl
theorem qall_of_fits {x : Int} {fs : List (Int × Int)} (hf : ∀ p ∈ fs, Fact p) (hx : Fits x fs) : qall fs fs.length = [] := by
  unfold qall
  rw [List.flatMap_eq_nil_iff]
  intro k hk
  have hk := List.mem_range.mp hk
  unfold qrow
  rw [List.map_eq_nil_iff, List.filter_eq_nil_iff]
  intro j hj
  have hj := List.mem_range.mp hj
  have e1 : fs.getD k (0, 1) = fs[k] := by rw [List.getD_eq_getElem?_getD, List.getElem?_eq_getElem hk]; rfl
  have e2 : fs.getD (k + 1 + j) (0, 1) = fs[k + 1 + j]'(by omega) := by rw [List.getD_eq_getElem?_getD, List.getElem?_eq_getElem (by omega)]; rfl
  rw [e1, e2, quarB_fits hf hx (List.getElem_mem _) (List.getElem_mem _)]
  decide
theorem pairs_take {H : Hp} : ∀ {vs : List V} {fs : List (Int × Int)} (n : Nat), PairsAt K H vs fs → PairsAt K H (vs.take n) (fs.take n)
  | _, _, 0, _ => .nil
  | _, _, _ + 1, .nil => .nil
  | _, _, n + 1, .cons r t => .cons r (pairs_take n t)
theorem pairs_drop {H : Hp} : ∀ {vs : List V} {fs : List (Int × Int)} (n : Nat), PairsAt K H vs fs → PairsAt K H (vs.drop n) (fs.drop n)
  | _, _, 0, h => h
  | _, _, _ + 1, .nil => .nil
  | _, _, n + 1, .cons _ t => pairs_drop n t
theorem cut_from {xs : List V} {i : Nat} (h : i ≤ xs.length) : cutV xs (some (i : Int)) none = xs.drop i := by
  unfold cutV
  rw [HT.sIx_none, HT.sIx_nat, show min i xs.length = i by omega]
  exact List.take_of_length_le (by rw [List.length_drop]; omega)
theorem cut_til {xs : List V} (i : Nat) : cutV xs none (some (i : Int)) = xs.take i := cut_to xs i
theorem joined_ok {H : Hp} {Q : VK} {E : XK} {a : Addr} {fs : List (Int × Int)} {R : Int} {L : Nat} (hfa : FactsAt K H a fs) (hF : Facts fs) (jn : Vf.Jn fs R) (e : lcmAll fs = L)
    (h : ∀ t H', Same H H' → H t = none → H' t = some (.tup [.int R, .int (L : Int)]) → Q (.ref t) H') : sp_joined K (cA mg "Quarrel") [.ref a] H Q E := by
  have q0 := qall_of_fits hF.2 jn.fits
  refine ⟨a, fs, rfl, hfa, hF, fun _ => ⟨R, jn, fun t H1 s1 n1 e1 => ?_⟩, fun i j l z => by rw [q0] at z; cases z⟩
  rw [e] at e1
  exact h t H1 s1 n1 e1
end
section
variable {P : Program} {w : World} {K : PySem.W.Frag} {mg : Str → Option Value} {base : Heap}
/-! ### what is told by facts -/
def sp_check_base : Sp := fun vs H Q _ => ∃ i : Int, vs = [.int i] ∧ 1 ≤ i ∧ i ≤ 10 ^ 12 ∧ Q .non H
theorem ok_check_base (T : Top K mg) : Ok P w K mg base 4 "check_base" s_check_base ["given"] sp_check_base := by
  have G_check_within := ok_check_within (P := P) (w := w) (base := base) T
  refine T.d_check_base.ok sc_check_base (fun vs H Q E h => ?_) (fun f cdv A outer s H vs Q E hg hr h => ?_)
  · obtain ⟨i, rfl, _⟩ := h
    rfl
  · obtain ⟨i, rfl, h1, h2, q⟩ := h
    refine ⟨_, (pss_one (ps_expr (pe_g G_check_within (fun _ _ F => bd_check_within F) hg (hr.mono (by decide)) passL (by rfl) (pa_cons (pv 0) (pa_cons pe_int (pa_cons (pe_gi T.c_MOST_BASE (by rfl)) pa_nil)))))), ?_⟩
    walk_at "sti"
    exact ⟨i, _, _, rfl, h1, h2, q⟩
def sp_check_fact (K : PySem.W.Frag) : Sp := fun vs H Q _ => ∃ (v : V) (p : Int × Int), vs = [v] ∧ PairAt K H v p ∧ Fact p ∧ Q .non H
theorem ok_check_fact (T : Top K mg) : Ok P w K mg base 4 "check_fact" s_check_fact ["given"] (sp_check_fact K) := by
  have G_is_fact := ok_is_fact (P := P) (w := w) (base := base) T
  refine T.d_check_fact.ok sc_check_fact (fun vs H Q E h => ?_) (fun f cdv A outer s H vs Q E hg hr h => ?_)
  · obtain ⟨v, p, rfl, _⟩ := h
    rfl
  · obtain ⟨v, p, rfl, h1, h2, q⟩ := h
    refine ⟨_, (pss_one (ps_if (pt_not (pt_val (pe_g G_is_fact (fun _ _ F => bd_is_fact F) hg (hr.mono (by decide)) passL (by rfl) (pa_cons (pv 0) pa_nil)))) (pss_one ps_never) pss_nil)), ?_⟩
    walk_at "sti"
    refine ⟨v, p, rfl, h1, h2, ?_⟩
    walk_at "gi"
    exact q
def sp_is_told (K : PySem.W.Frag) : Sp := fun vs H Q _ => ∃ (v z : V) (p o : Int × Int), vs = [v, z] ∧ PairAt K H v p ∧ PairAt K H z o ∧ 0 < p.2 ∧ Q (.bl (decide (o.2 % p.2 = 0) && decide ((o.1 - p.1) % p.2 = 0))) H
theorem ok_is_told (T : Top K mg) : Ok P w K mg base 2 "is_told" s_is_told ["fact", "known"] (sp_is_told K) := by
  have G_is_fitting := ok_is_fitting (P := P) (w := w) (base := base) T
  refine T.d_is_told.ok sc_is_told (fun vs H Q E h => ?_) (fun f cdv A outer s H vs Q E hg hr h => ?_)
  · obtain ⟨v, z, p, o, rfl, _⟩ := h
    rfl
  · obtain ⟨v, z, p, o, rfl, ⟨t, rfl, st⟩, ⟨t2, rfl, st2⟩, h0, q⟩ := h
    refine ⟨_, (pss_one (ps_ret (pe_and (pe_cmpR op_eqZ (pe_op op_mod (pe_ix (x_tup rfl) (pv 1) pe_int (fun _ _ => rfl)) (pe_ix (x_tup rfl) (pv 0) pe_int (fun _ _ => rfl))) pe_int (nomark _)) (pe_one (pe_g G_is_fitting (fun _ _ F => bd_is_fitting F) hg (hr.mono (by decide)) passL (by rfl) (pa_cons (pe_ix (x_tup rfl) (pv 1) pe_int (fun _ _ => rfl)) (pa_cons (pv 0) pa_nil))))))), ?_⟩
    walk_at "sti"
    refine r_ixT st2 (atI_nat (j := 1) rfl) ?_
    walk_at "gi"
    refine r_ixT st (atI_nat (j := 1) rfl) ?_
    walk_at "gi"
    refine r_rI h0 ?_
    walk_at "gi"
    by_cases c : o.2 % p.2 = 0
    · rw [if_pos (decide_eq_true c)]
      rw [decide_eq_true c, Bool.true_and] at q
      walk_at "gi"
      refine r_ixT st2 (atI_nat (j := 0) rfl) ?_
      walk_at "gi"
      exact ⟨o.1, .ref t, p, rfl, ⟨t, rfl, st⟩, h0, q⟩
    · rw [if_neg (by simpa using c)]
      rw [decide_eq_false c, Bool.false_and] at q
      exact q
def sp_left_by (K : PySem.W.Frag) : Sp := fun vs H Q _ => ∃ (v : V) (o : Int × Int) (b : Int), vs = [v, .int b] ∧ PairAt K H v o ∧ 0 < o.2 ∧
  NewT [.int (o.1 % ((Nat.gcd o.2.natAbs b.natAbs : Nat) : Int)), .int ((Nat.gcd o.2.natAbs b.natAbs : Nat) : Int)] H Q
theorem ok_left_by (T : Top K mg) : Ok P w K mg base 1 "left_by" s_left_by ["fact", "base"] (sp_left_by K) := by
  refine T.d_left_by.ok sc_left_by (fun vs H Q E h => ?_) (fun f cdv A outer s H vs Q E hg hr h => ?_)
  · obtain ⟨v, o, b, rfl, _⟩ := h
    rfl
  · obtain ⟨v, o, b, rfl, ⟨t, rfl, st⟩, h0, q⟩ := h
    refine ⟨_, (pss_cons (ps_set (i := 2) sc_left_by.nd rfl (.inl rfl) (pe_callBfun (id := "math.gcd") cr_gcd (by rfl) T.m_gcd (pa_cons (pe_ix (x_tup rfl) (pv 0) pe_int (fun _ _ => rfl)) (pa_cons (pv 1) pa_nil))))
    (pss_one (ps_ret (pe_tup (pa_cons (pe_op op_mod (pe_ix (x_tup rfl) (pv 0) pe_int (fun _ _ => rfl)) (pv 2)) (pa_cons (pv 2) pa_nil)))))), ?_⟩
    walk_at "sti"
    refine r_ixT st (atI_nat (j := 1) rfl) ?_
    walk_at "gi"
    refine r_ixT st (atI_nat (j := 0) rfl) ?_
    walk_at "gi"
    have hg : 0 < Nat.gcd o.2.natAbs b.natAbs := Nat.gcd_pos_of_pos_left _ (by omega)
    refine r_rI (by omega) ?_
    walk_at "gi"
    exact q _ _ (Same.new (by assumption)) (by assumption) upd_same
def sp_rest_by (K : PySem.W.Frag) : Sp := fun vs H Q _ => ∃ (a : Addr) (fs : List (Int × Int)) (R b : Int), vs = [.ref a, .int b] ∧ FactsAt K H a fs ∧ Facts fs ∧ Vf.Jn fs R ∧ 1 ≤ b ∧ b ≤ 10 ^ 12 ∧
  NewT [.int (R % ((Nat.gcd (lcmAll fs) b.natAbs : Nat) : Int)), .int ((Nat.gcd (lcmAll fs) b.natAbs : Nat) : Int)] H Q
theorem ok_rest_by (T : Top K mg) : Ok P w K mg base 7 "rest_by" s_rest_by ["facts", "base"] (sp_rest_by K) := by
  have G_check_facts := ok_check_facts (P := P) (w := w) (base := base) T
  have G_check_base := ok_check_base (P := P) (w := w) (base := base) T
  have G_left_by := ok_left_by (P := P) (w := w) (base := base) T
  have G__made_by := ok__made_by (P := P) (w := w) (base := base) T
  refine T.d_rest_by.ok sc_rest_by (fun vs H Q E h => ?_) (fun f cdv A outer s H vs Q E hg hr h => ?_)
  · obtain ⟨a, fs, R, b, rfl, _⟩ := h
    rfl
  · obtain ⟨a, fs, R, b, rfl, hfa, hF, jn, b0, b1, q⟩ := h
    refine ⟨_, (pss_cons (ps_expr (pe_g G_check_facts (fun _ _ F => bd_check_facts F) hg (hr.mono (by decide)) passL (by rfl) (pa_cons (pv 0) pa_nil)))
    (pss_cons (ps_expr (pe_g G_check_base (fun _ _ F => bd_check_base F) hg (hr.mono (by decide)) passL (by rfl) (pa_cons (pv 1) pa_nil)))
    (pss_one (ps_ret (pe_g G_left_by (fun _ _ F => bd_left_by F) hg (hr.mono (by decide)) passL (by rfl) (pa_cons (pe_gS G__made_by (fun _ _ F => bd__made_by F) hg (hr.mono (by decide)) (takes_of rfl rfl rfl rfl) (by rfl) (pa_cons (pv 0) pa_nil)) (pa_cons (pv 1) pa_nil))))))), ?_⟩
    walk_at "sti"
    refine ⟨a, fs, rfl, hfa, hF, fun H1 s1 => ?_⟩
    walk_at "gi"
    refine ⟨b, rfl, b0, b1, ?_⟩
    walk_at "gi"
    refine joined_ok (hfa.tt (Same.tt s1)) hF jn rfl fun t H2 s2 n2 e2 => ?_
    walk_at "gi"
    refine ⟨.ref t, (R, (lcmAll fs : Int)), b, rfl, ⟨t, rfl, SqT.of e2⟩, ?_, fun p H3 s3 n3 e3 => ?_⟩
    · have := hF.lcm_pos
      show (0 : Int) < (lcmAll fs : Int)
      omega
    · rw [show ((R, (lcmAll fs : Int)) : Int × Int).2.natAbs = lcmAll fs from rfl] at e3
      exact q _ _ ((s1.trans s2).trans s3) (none_same (s1.trans s2) n3) e3
def sp_tells (K : PySem.W.Frag) : Sp := fun vs H Q _ => ∃ (a : Addr) (fs : List (Int × Int)) (R : Int) (v : V) (p : Int × Int), vs = [.ref a, v] ∧ FactsAt K H a fs ∧ Facts fs ∧ Vf.Jn fs R ∧ PairAt K H v p ∧ Fact p ∧
  ∀ H', Same H H' → Q (.bl (decide ((lcmAll fs : Int) % p.2 = 0) && decide ((R - p.1) % p.2 = 0))) H'
theorem ok_tells (T : Top K mg) : Ok P w K mg base 7 "tells" s_tells ["facts", "fact"] (sp_tells K) := by
  have G_check_facts := ok_check_facts (P := P) (w := w) (base := base) T
  have G_check_fact := ok_check_fact (P := P) (w := w) (base := base) T
  have G_is_told := ok_is_told (P := P) (w := w) (base := base) T
  have G__made_by := ok__made_by (P := P) (w := w) (base := base) T
  refine T.d_tells.ok sc_tells (fun vs H Q E h => ?_) (fun f cdv A outer s H vs Q E hg hr h => ?_)
  · obtain ⟨a, fs, R, v, p, rfl, _⟩ := h
    rfl
  · obtain ⟨a, fs, R, v, p, rfl, hfa, hF, jn, hp, fp, q⟩ := h
    refine ⟨_, (pss_cons (ps_expr (pe_g G_check_facts (fun _ _ F => bd_check_facts F) hg (hr.mono (by decide)) passL (by rfl) (pa_cons (pv 0) pa_nil)))
    (pss_cons (ps_expr (pe_g G_check_fact (fun _ _ F => bd_check_fact F) hg (hr.mono (by decide)) passL (by rfl) (pa_cons (pv 1) pa_nil)))
    (pss_one (ps_ret (pe_g G_is_told (fun _ _ F => bd_is_told F) hg (hr.mono (by decide)) passL (by rfl) (pa_cons (pv 1) (pa_cons (pe_gS G__made_by (fun _ _ F => bd__made_by F) hg (hr.mono (by decide)) (takes_of rfl rfl rfl rfl) (by rfl) (pa_cons (pv 0) pa_nil)) pa_nil))))))), ?_⟩
    walk_at "sti"
    refine ⟨a, fs, rfl, hfa, hF, fun H1 s1 => ?_⟩
    walk_at "gi"
    refine ⟨v, p, rfl, hp.tt (Same.tt s1), fp, ?_⟩
    walk_at "gi"
    refine joined_ok (hfa.tt (Same.tt s1)) hF jn rfl fun t H2 s2 n2 e2 => ?_
    walk_at "gi"
    refine ⟨v, .ref t, p, (R, (lcmAll fs : Int)), rfl, (hp.tt (Same.tt s1)).tt (Same.tt s2), ⟨t, rfl, SqT.of e2⟩, by have := fp.1; omega, ?_⟩
    exact q _ (s1.trans s2)
end
section
variable {P : Program} {w : World} {K : PySem.W.Frag} {mg : Str → Option Value} {base : Heap}
/-! ### facts that the others tell -/
def sp_common_base (K : PySem.W.Frag) : Sp := fun vs H Q _ => ∃ (a : Addr) (fs : List (Int × Int)), vs = [.ref a] ∧ FactsAt K H a fs ∧ Facts fs ∧ Q (.int (lcmAll fs : Int)) H
theorem Bq_9000 : Bq < 2 ^ 9000 := Nat.pow_lt_pow_right (by decide) (by decide)
theorem ok_common_base (T : Top K mg) : Ok P w K mg base 1 "common_base" s_common_base ["facts"] (sp_common_base K) := by
  refine T.d_common_base.ok sc_common_base (fun vs H Q E h => ?_) (fun f cdv A outer s H vs Q E hg hr h => ?_)
  · obtain ⟨a, fs, rfl, _⟩ := h
    rfl
  · obtain ⟨a, fs, rfl, ⟨vs, sv, pvs⟩, hF, q⟩ := h
    have ev := pvs.length
    refine ⟨_, (pss_cons (ps_set (i := 1) sc_common_base.nd rfl (.inl rfl) pe_int)
    (pss_cons (ps_for (passes_of rfl) rfl (i_tup' rfl (pv 0)) (g_tup rfl rfl (pgs_cons (pg_name (i := 2) sc_common_base.nd rfl (.inl rfl)) (pgs_cons (pg_name (i := 3) sc_common_base.nd rfl (.inl rfl)) pgs_nil)) rfl rfl) (pss_one (ps_set (i := 1) sc_common_base.nd rfl (.inl rfl) (pe_callBfun (id := "math.lcm") cr_lcm (by rfl) T.m_lcm (pa_cons (pv 1) (pa_cons (pv 3) pa_nil))))))
    (pss_one (ps_ret (pv 1))))), ?_⟩
    walk_at "sti"
    refine r_forTs vs (fun i σ H' => H' = H ∧ ∃ x2 x3, σ = [some (.ref a), some (.int (lcmAll (fs.take i) : Int)), x2, x3]) ⟨rfl, _, _, rfl⟩ (fun i σ H' hi hP => ?_) (fun i v σ H' hi hP => ?_) (fun σ H' hP => ?_)
    · obtain ⟨rfl, _⟩ := hP
      exact sv
    · obtain ⟨rfl, x2, x3, rfl⟩ := hP
      obtain ⟨o, ho, t, rfl, st⟩ := pvs.get hi
      obtain ⟨o1, o2, o3, o4⟩ := hF.2 o (List.mem_of_getElem? ho)
      have mo : ∀ p ∈ fs.take i, Fact p := fun p hp => hF.2 p (List.mem_of_mem_take hp)
      have l1 : lcmAll (fs.take i) ≤ Bq := Facts.lcm_Bq mo (by rw [List.length_take]; have := hF.1; omega)
      have tk : fs.take (i + 1) = fs.take i ++ [o] := by rw [List.take_add_one, ho]; rfl
      have oB : o.2.natAbs ≤ Bq := by
        refine Nat.le_trans (?_ : o.2.natAbs ≤ 2 ^ 100) (Nat.pow_le_pow_right (by decide) (by decide))
        omega
      refine r_gtup st rfl ?_
      walk_at "gi"
      refine r_lcm (by rw [Int.natAbs_natCast]; exact Nat.lt_of_le_of_lt l1 Bq_9000) (Nat.lt_of_le_of_lt oB Bq_9000) ?_
      rw [Int.natAbs_natCast]
      walk_at "gi"
      refine ⟨rfl, some (.int o.1), some (.int o.2), ?_⟩
      rw [tk, lcmAll_snoc]
      rfl
    · obtain ⟨rfl, x2, x3, rfl⟩ := hP
      rw [List.take_of_length_le (by omega)]
      walk_at "gi"
      exact q
theorem pairs_at {H : Hp} : ∀ {vs : List V} {fs : List (Int × Int)} {i : Nat} {o : Int × Int}, PairsAt K H vs fs → fs[i]? = some o → ∃ v, vs[i]? = some v ∧ PairAt K H v o
  | _, _, 0, _, .cons h _, e => ⟨_, rfl, by cases e; exact h⟩
  | _, _, i + 1, _, .cons _ t, e => pairs_at (i := i) t e
  | _, _, _, _, .nil, e => by simp at e
def sp_is_needless (K : PySem.W.Frag) : Sp := fun vs H Q _ => ∃ (a : Addr) (fs : List (Int × Int)) (i : Nat) (o : Int × Int), vs = [.ref a, .int (i : Int)] ∧ FactsAt K H a fs ∧ Facts fs ∧ fs[i]? = some o ∧
  ∀ H', Same H H' → Q (.bl (decide ((lcmAll (fs.take i ++ fs.drop (i + 1)) : Int) % o.2 = 0))) H'
theorem facts_less {fs : List (Int × Int)} (h : Facts fs) (i : Nat) : Facts (fs.take i ++ fs.drop (i + 1)) := by
  refine ⟨?_, fun p hp => ?_⟩
  · rw [List.length_append, List.length_take, List.length_drop]
    have := h.1
    omega
  · rcases List.mem_append.mp hp with z | z
    · exact h.2 p (List.mem_of_mem_take z)
    · exact h.2 p (List.mem_of_mem_drop z)
theorem ok__is_needless (T : Top K mg) : Ok P w K mg base 2 "_is_needless" s__is_needless ["facts", "index"] (sp_is_needless K) := by
  have G_common_base := ok_common_base (P := P) (w := w) (base := base) T
  refine T.d__is_needless.ok sc__is_needless (fun vs H Q E h => ?_) (fun f cdv A outer s H vs Q E hg hr h => ?_)
  · obtain ⟨a, fs, i, o, rfl, _⟩ := h
    rfl
  · obtain ⟨a, fs, i, o, rfl, ⟨vs, sv, pvs⟩, hF, ho, q⟩ := h
    have ev := pvs.length
    have il : i < fs.length := (List.getElem?_eq_some_iff.mp ho).1
    have f40 := hF.1
    obtain ⟨o1, o2, o3, o4⟩ := hF.2 o (List.mem_of_getElem? ho)
    refine ⟨_, (pss_cons (ps_set (i := 2) sc__is_needless.nd rfl (.inl rfl) (pe_op (o_catA rfl) (pe_slice (s_tupA rfl) (pv 0) po_none (po_some (pv 1))) (pe_slice (s_tupA rfl) (pv 0) (po_some (pe_op op_add (pv 1) pe_int)) po_none)))
    (pss_one (ps_ret (pe_cmpR op_eqZ (pe_op op_mod (pe_g G_common_base (fun _ _ F => bd_common_base F) hg (hr.mono (by decide)) passL (by rfl) (pa_cons (pv 2) pa_nil)) (pe_ix (x_tup rfl) (pe_ix (x_tup rfl) (pv 0) (pv 1) (fun _ _ => rfl)) pe_int (fun _ _ => rfl))) pe_int (nomark _))))), ?_⟩
    walk_at "sti"
    refine r_slA sv fun c1 H1 s1 e1 => ?_
    rw [cut_til] at e1
    walk_at "gi"
    rw [show ((i : Int) + 1) = ((i + 1 : Nat) : Int) from rfl]
    refine r_slA (Same.tup s1 sv) fun c2 H2 s2 e2 => ?_
    rw [cut_from (by omega)] at e2
    walk_at "gi"
    refine r_catA (Same.tup s2 e1) e2 (by rw [List.length_take, List.length_drop]; omega) fun c3 H3 s3 e3 => ?_
    have s13 := s1.trans (s2.trans s3)
    walk_at "gi"
    refine ⟨c3, _, rfl, ⟨_, e3, PairsAt.append (pairs_take i (pvs.tt (Same.tt s13))) (pairs_drop (i + 1) (pvs.tt (Same.tt s13)))⟩, facts_less hF i, ?_⟩
    walk_at "gi"
    obtain ⟨v, hv, t, rfl, st⟩ := pairs_at pvs ho
    refine r_ixT (Same.tup s13 sv) (atI_nat hv) ?_
    walk_at "gi"
    refine r_ixT (Same.tup s13 st) (atI_nat (j := 1) rfl) ?_
    walk_at "gi"
    refine r_rI (by omega) ?_
    walk_at "gi"
    exact q _ s13
def ndB (fs : List (Int × Int)) (i : Nat) : Bool := decide ((lcmAll (fs.take i ++ fs.drop (i + 1)) : Int) % (fs.getD i (0, 1)).2 = 0)
def ndN (fs : List (Int × Int)) (m : Nat) : List Int := ((List.range m).filter (ndB fs)).map fun i : Nat => (i : Int)
theorem ndN_succ (fs : List (Int × Int)) (m : Nat) : ndN fs (m + 1) = ndN fs m ++ (if ndB fs m = true then [(m : Int)] else []) := by
  unfold ndN
  rw [List.range_succ, List.filter_append, List.map_append, List.filter_cons, List.filter_nil]
  cases ndB fs m <;> rfl
theorem ndN_len (fs : List (Int × Int)) (m : Nat) : (ndN fs m).length ≤ m := by
  unfold ndN
  rw [List.length_map]
  exact Nat.le_trans (List.length_filter_le _ _) (by rw [List.length_range]; exact Nat.le_refl m)
def sp_needless (K : PySem.W.Frag) : Sp := fun vs H Q _ => ∃ (a : Addr) (fs : List (Int × Int)), vs = [.ref a] ∧ FactsAt K H a fs ∧ Facts fs ∧ qall fs fs.length = [] ∧ NewT ((ndN fs fs.length).map V.int) H Q
theorem ok_needless (T : Top K mg) : Ok P w K mg base 7 "needless" s_needless ["facts"] (sp_needless K) := by
  have G_check_facts := ok_check_facts (P := P) (w := w) (base := base) T
  have G__check_no_quarrel := ok__check_no_quarrel (P := P) (w := w) (base := base) T
  have G__is_needless := ok__is_needless (P := P) (w := w) (base := base) T
  refine T.d_needless.ok sc_needless (fun vs H Q E h => ?_) (fun f cdv A outer s H vs Q E hg hr h => ?_)
  · obtain ⟨a, fs, rfl, _⟩ := h
    rfl
  · obtain ⟨a, fs, rfl, hfa, hF, q0, q⟩ := h
    have f40 := hF.1
    refine ⟨_, (pss_cons (ps_expr (pe_g G_check_facts (fun _ _ F => bd_check_facts F) hg (hr.mono (by decide)) passL (by rfl) (pa_cons (pv 0) pa_nil)))
    (pss_cons (ps_expr (pe_gS G__check_no_quarrel (fun _ _ F => bd__check_no_quarrel F) hg (hr.mono (by decide)) (takes_of rfl rfl rfl rfl) (by rfl) (pa_cons (pv 0) pa_nil)))
    (pss_one (ps_ret (pe_callTy (T := "tuple") (c_tuple rfl) (by rfl) T.b_tuple (by decide +kernel) (pa_cons (pe_lc (own := [("index", 1)]) (by rfl) sc_needless.nd (pi_range1 (by rfl) T.b_range (pa_cons (pe_callB (id := "len") (c_len rfl) (by rfl) T.b_len (by decide +kernel) (pa_cons (pv 0) pa_nil)) pa_nil)) (blkOk_by (own := [("index", 1)]) (N := ["facts", "index"]) (sc := defScope s_needless) (by decide +kernel)) (fun _ _ _ _ _ => (pg_name (i := 1) sc_needless.nd rfl (Or.inl rfl))) (fun _ _ _ _ _ => (pts_one (pt_val (pe_g G__is_needless (fun _ _ F => bd__is_needless F) hg (hr.mono (by decide)) passL (by rfl) (pa_cons (pv 0) (pa_cons (pv 1) pa_nil)))))) (fun _ _ _ _ _ => (pv 1))) pa_nil)))))), ?_⟩
    walk_at "sti"
    refine ⟨a, fs, rfl, hfa, hF, fun H1 s1 => ?_⟩
    have hfa1 := hfa.tt (Same.tt s1)
    walk_at "gi"
    refine ⟨a, fs, rfl, hfa1, hF, fun _ H2 s2 => ?_, fun i j l z => by rw [q0] at z; cases z⟩
    have hfa2 := hfa1.tt (Same.tt s2)
    obtain ⟨vs, sv, pvs⟩ := id hfa2
    have ev := pvs.length
    walk_at "gi"
    refine ⟨by omega, by omega, ?_⟩
    rw [Int.toNat_natCast, ev]
    refine r_lcR (fun D i H' => Same H2 H' ∧ H' D = some (.lst ((ndN fs i).map V.int))) (fun D hD => ⟨Same.new hD, upd_same⟩) (fun D i H' hD hi hP => ?_) (fun D H' hD hP => ?_)
    · obtain ⟨s3, d3⟩ := hP
      have li := ndN_len fs i
      have ho : fs[i]? = some fs[i] := List.getElem?_eq_getElem hi
      have eg : fs.getD i (0, 1) = fs[i] := by rw [List.getD_eq_getElem?_getD, ho]; rfl
      walk_at "go"
      refine ⟨rfl, ?_⟩
      walk_at "go"
      rw [Int.zero_add] at *
      refine ⟨a, fs, i, fs[i], rfl, hfa2.tt (Same.tt s3), hF, ho, fun H3 s4 => ?_⟩
      walk_at "go"
      have ef := ndN_succ fs i
      unfold ndB at ef
      rw [eg] at ef
      cases hb : decide ((lcmAll (fs.take i ++ fs.drop (i + 1)) : Int) % fs[i].2 = 0) with
      | true =>
        rw [if_pos hb] at ef
        walk_at "go"
        refine ⟨_, s4 _ _ d3, Nat.lt_of_le_of_lt (show _ ≤ 40 by rw [List.length_map]; omega) (by decide), fun b o e => ?_, ?_⟩
        · rw [upd_ne (ne_of_none e hD)]
          exact s4 _ _ (s3 _ _ e)
        · rw [ef, List.map_append]
          exact upd_same
      | false =>
        rw [if_neg (by rw [hb]; decide), List.append_nil] at ef
        refine ⟨s3.trans s4, ?_⟩
        rw [ef]
        exact s4 _ _ d3
    · obtain ⟨s3, d3⟩ := hP
      walk_at "go"
      refine r_tupL (SqL.of d3) fun p hp => ?_
      have sA := s1.trans (s2.trans s3)
      exact q p _ (sA.trans (Same.new hp)) (none_same sA hp) upd_same
end
section
variable {P : Program} {w : World} {K : PySem.W.Frag} {mg : Str → Option Value} {base : Heap}
theorem e58 : (2 : Nat) ^ 58 = 288230376151711744 := by decide
/-! ### drawn facts -/
def sp_pairs (K : PySem.W.Frag) : Sp := fun vs H Q _ => ∃ (k : Addr) (u n : Nat), vs = [.ref k, .int (u : Int)] ∧ Jug n k H ∧ n ≤ 2 ^ 58 ∧ u ≤ 5 ∧
  ∀ p fs H', Kx k H H' → H p = none → Dr fs → fs.length ≤ u → FactsAt K H' p fs → Jug (n + 20) k H' → Q (.ref p) H'
theorem ok__law_pairs (T : Top K mg) : Ok P w K mg base 3 "_law_pairs" s__law_pairs ["_law_jug_here", "_law_most"] (sp_pairs K) := by
  have G__law_pour := ok__law_pour (P := P) (w := w) (base := base) T
  have G__law_one_of := ok__law_one_of (P := P) (w := w) (base := base) T
  refine T.d__law_pairs.ok sc__law_pairs (fun vs H Q E h => ?_) (fun f cdv A outer s H vs Q E hg hr h => ?_)
  · obtain ⟨k, u, n, rfl, _⟩ := h
    rfl
  · obtain ⟨k, u, n, rfl, hk, hn, hu, q⟩ := h
    have E58 := e58
    have E60 := e60
    have E62 := e62
    refine ⟨_, (pss_cons (ps_set (i := 2) sc__law_pairs.nd rfl (.inl rfl) (pe_lst pa_nil))
    (pss_cons (ps_for (passes_of rfl) rfl (pi_range1 (by rfl) T.b_range (pa_cons (pe_g G__law_pour (fun _ _ F => bd__law_pour F) hg (hr.mono (by decide)) passL (by rfl) (pa_cons (pv 0) (pa_cons (pe_op op_add (pv 1) pe_int) pa_nil))) pa_nil)) (pg_name (i := 3) sc__law_pairs.nd rfl (.inl rfl)) (pss_cons (ps_set (i := 4) sc__law_pairs.nd rfl (.inl rfl) (pe_g G__law_one_of (fun _ _ F => bd__law_one_of F) hg (hr.mono (by decide)) passL (by rfl) (pa_cons (pv 0) (pa_cons (pe_lst (pa_cons pe_int (pa_cons pe_int (pa_cons pe_int (pa_cons pe_int (pa_cons pe_int (pa_cons pe_int (pa_cons pe_int (pa_cons pe_int (pa_cons pe_int (pa_cons pe_int (pa_cons pe_int (pa_cons pe_int (pa_cons pe_int (pa_cons pe_int pa_nil))))))))))))))) pa_nil))))
    (pss_one (ps_expr (pe_bm PySem.F.plainAttrs_list PySem.F.slot_list_append PySem.F.type_list_append mt_append (pv 2) (pa_cons (pe_tup (pa_cons (pe_g G__law_pour (fun _ _ F => bd__law_pour F) hg (hr.mono (by decide)) passL (by rfl) (pa_cons (pv 0) (pa_cons (pv 4) pa_nil))) (pa_cons (pv 4) pa_nil))) pa_nil))))))
    (pss_one (ps_ret (pe_callTy (T := "tuple") (c_tuple rfl) (by rfl) T.b_tuple (by decide +kernel) (pa_cons (pv 2) pa_nil)))))), ?_⟩
    walk_at "st"
    rename_i F hF
    have nF := hk.ne hF
    refine i_pour n (hk.new hF) (by omega) (by omega) (by omega) fun m H1 m0 m1 x1 k1 => ?_
    walk_at "go"
    refine ⟨by omega, by omega, ?_⟩
    have x0 : Kx k H H1 := Same.kx (Same.new hF) x1
    have f1 : H1 F = some (.lst []) := x1 _ _ nF upd_same
    refine r_forR (fun i σ H' => ∃ vs fs x3 x4, σ = [some (.ref k), some (.int (u : Int)), some (.ref F), x3, x4] ∧ Kx k H H' ∧ Jug (n + 1 + 2 * i) k H' ∧ H' F = some (.lst vs) ∧ PairsAt K H' vs fs ∧ fs.length = i ∧ ∀ p ∈ fs, 1 ≤ p.2 ∧ p.2 ≤ 15 ∧ 0 ≤ p.1 ∧ p.1 < p.2)
      ⟨[], [], _, _, rfl, x0, k1, f1, .nil, rfl, fun _ h => nomatch h⟩ (fun i σ H' hi hP => ?_) (fun σ H' hP => ?_)
    · obtain ⟨vs, fs, x3, x4, rfl, x5, k5, f5, p5, l5, b5⟩ := hP
      have i4 : i < 5 := by omega
      have v5 := p5.length
      walk_at "go"
      rename_i t ht
      refine i_one_of (n + 1 + 2 * i) (([1, 2, 2, 3, 3, 4, 4, 5, 6, 8, 9, 10, 12, 15] : List Int).map V.int) (k5.new ht) (by omega) (k5.ne ht) (SqL.of upd_same) (by decide) (by decide) fun j x H2 hj x6 k6 => ?_
      rw [List.getElem?_map, Option.map_eq_some_iff] at hj
      obtain ⟨b, hb, rfl⟩ := hj
      obtain ⟨b1, b2⟩ := (by decide : ∀ z ∈ ([1, 2, 2, 3, 3, 4, 4, 5, 6, 8, 9, 10, 12, 15] : List Int), 1 ≤ z ∧ z ≤ 15) b (List.mem_of_getElem? hb)
      have f6 : H2 F = some (.lst vs) := x6 _ _ nF (at_new ht f5)
      have p6 : PairsAt K H2 vs fs := (p5.tt (new_tt ht)).tt ((k5.new ht).tt x6)
      walk_at "go"
      refine ⟨.inl ⟨rfl, _, SqL.of f6⟩, ?_⟩
      walk_at "go"
      refine i_pour (n + 1 + 2 * i + 1) k6 (by omega) (by omega) (by omega) fun r H3 r0 r1 x7 k7 => ?_
      have f7 : H3 F = some (.lst vs) := x7 _ _ nF f6
      have p7 : PairsAt K H3 vs fs := p6.tt (k6.tt x7)
      walk_at "go"
      rename_i tp htp
      refine r_app (at_new htp f7) (by omega) ?_
      walk_at "go"
      refine ⟨_, fs ++ [(r, b)], _, _, rfl, ?_, ?_, upd_same, ?_, by rw [List.length_append]; simp [l5], ?_⟩
      · have y1 : Kx k H H3 := ((x5.same (Same.new ht)).trans x6).trans x7
        intro c o nc e
        have e3 := y1 _ _ nc e
        rw [upd_ne (ne_of_none e hF), upd_ne (ne_of_none e3 htp)]
        exact e3
      · obtain ⟨z1, z2, z3, z4, z5⟩ := k7.new (o := .tup [.int r, .int b]) htp
        exact ⟨z1, z2, z3, by rw [upd_ne (Ne.symm nF)]; exact z4, z5⟩
      · refine PairsAt.tt (upd_tt (at_new htp f7)) (PairsAt.append (p7.tt (new_tt htp)) (.cons ⟨tp, rfl, SqT.of upd_same⟩ .nil))
      · intro p hp
        rcases List.mem_append.mp hp with h | h
        · exact b5 p h
        · have e : p = (r, b) := by simpa using h
          rw [e]
          exact ⟨b1, by omega, r0, r1⟩
    · obtain ⟨vs, fs, x3, x4, rfl, x5, k5, f5, p5, l5, b5⟩ := hP
      walk_at "go"
      refine r_tupL (SqL.of f5) fun p hp => ?_
      have hpn : H p = none := by
        obtain ⟨z1, z2, z3, z4, z5⟩ := k5
        exact none_kx x5 z4 hp
      exact q p fs _ (x5.same (Same.new hp)) hpn ⟨by omega, b5⟩ (by omega) ⟨vs, SqT.of upd_same, p5.tt (new_tt hp)⟩ ((k5.new hp).mono (by omega))
def sp_pairs_of (K : PySem.W.Frag) : Sp := fun vs H Q _ => ∃ (k : Addr) (x : Int) (u n : Nat), vs = [.ref k, .int x, .int (u : Int)] ∧ Jug n k H ∧ n ≤ 2 ^ 58 ∧ u ≤ 5 ∧
  ∀ p fs H', Kx k H H' → H p = none → Dr fs → Fits x fs → fs.length ≤ u → FactsAt K H' p fs → Jug (n + 20) k H' → Q (.ref p) H'
theorem ok__law_pairs_of (T : Top K mg) : Ok P w K mg base 4 "_law_pairs_of" s__law_pairs_of ["_law_jug_here", "_law_x", "_law_most"] (sp_pairs_of K) := by
  have G__law_pairs := ok__law_pairs (P := P) (w := w) (base := base) T
  refine T.d__law_pairs_of.ok sc__law_pairs_of (fun vs H Q E h => ?_) (fun f cdv A outer s H vs Q E hg hr h => ?_)
  · obtain ⟨k, x, u, n, rfl, _⟩ := h
    rfl
  · obtain ⟨k, x, u, n, rfl, hk, hn, hu, q⟩ := h
    refine ⟨_, (pss_one (ps_ret (pe_callTy (T := "tuple") (c_tuple rfl) (by rfl) T.b_tuple (by decide +kernel) (pa_cons (pe_lc (own := [("_law_pair", 3)]) (by rfl) sc__law_pairs_of.nd (i_tup' rfl (pe_g G__law_pairs (fun _ _ F => bd__law_pairs F) hg (hr.mono (by decide)) passL (by rfl) (pa_cons (pv 0) (pa_cons (pv 2) pa_nil)))) (blkOk_by (own := [("_law_pair", 3)]) (N := ["_law_jug_here", "_law_x", "_law_most", "_law_pair"]) (sc := defScope s__law_pairs_of) (by decide +kernel)) (fun _ _ _ _ _ => (pg_name (i := 3) sc__law_pairs_of.nd rfl (Or.inl rfl))) (fun _ _ _ _ _ => pts_nil) (fun _ _ _ _ _ => (pe_tup (pa_cons (pe_op op_mod (pv 1) (pe_ix (x_tup rfl) (pv 3) pe_int (fun _ _ => rfl))) (pa_cons (pe_ix (x_tup rfl) (pv 3) pe_int (fun _ _ => rfl)) pa_nil))))) pa_nil)))), ?_⟩
    walk_at "st"
    refine ⟨k, u, n, rfl, hk, hn, hu, fun p0 fs H1 x1 n1 dr lu ⟨vs, sv, pvs⟩ k1 => ?_⟩
    have ev := pvs.length
    have hl := dr.1
    walk_at "go"
    refine r_lcTs vs (fun D i H' => Same H1 H' ∧ ∃ ws, H' D = some (.lst ws) ∧ PairsAt K H' ws ((fs.take i).map fun p => (x % p.2, p.2))) (fun D hD => ⟨Same.new hD, [], upd_same, .nil⟩) (fun D i H' hD hi hP => ?_) (fun D i v H' hD hi hP => ?_) (fun D H' hD hP => ?_)
    · exact Same.tup hP.1 sv
    · obtain ⟨s2, ws, d2, pw⟩ := hP
      obtain ⟨p, hp, t, rfl, st⟩ := pvs.get hi
      have st2 := Same.tup s2 st
      have fp := dr.2 p (List.mem_of_getElem? hp)
      have ii : i < fs.length := (List.getElem?_eq_some_iff.mp hp).1
      have lw := pw.length
      rw [List.length_map, List.length_take] at lw
      walk_at "go"
      refine ⟨rfl, ?_⟩
      walk_at "go"
      refine r_ixT st2 (atI_nat (j := 1) rfl) ?_
      walk_at "go"
      refine r_rI (by omega) ?_
      walk_at "go"
      refine r_ixT st2 (atI_nat (j := 1) rfl) ?_
      walk_at "go"
      rename_i T1 hT1
      refine ⟨ws, at_new hT1 d2, Nat.lt_of_le_of_lt (show ws.length ≤ 5 by omega) (by decide), fun b o e => ?_, ws ++ [.ref T1], upd_same, ?_⟩
      · rw [upd_ne (ne_of_none e hD)]
        exact Same.new hT1 _ _ (s2 _ _ e)
      · rw [List.take_add_one, hp]
        simp only [Option.toList_some, List.map_append, List.map_cons, List.map_nil]
        exact PairsAt.tt (upd_tt (at_new hT1 d2)) (PairsAt.append (pw.tt (new_tt hT1)) (.cons ⟨T1, rfl, SqT.of upd_same⟩ .nil))
    · obtain ⟨s2, ws, d2, pw⟩ := hP
      rw [List.take_of_length_le (by omega)] at pw
      walk_at "go"
      refine r_tupL (SqL.of d2) fun p hp => ?_
      have x3 : Kx k H H' := x1.same s2
      have k3 := k1.same s2
      have hpn : H p = none := by
        obtain ⟨z1, z2, z3, z4, z5⟩ := k3
        exact none_kx x3 z4 hp
      refine q p (fs.map fun p => (x % p.2, p.2)) _ (x3.same (Same.new hp)) hpn ⟨by rw [List.length_map]; exact hl, fun o ho => ?_⟩ (fun o ho => ?_) (by rw [List.length_map]; exact lu) ⟨ws, SqT.of upd_same, pw.tt (new_tt hp)⟩ (k3.new hp)
      · obtain ⟨p, hp, rfl⟩ := List.mem_map.mp ho
        have fp := dr.2 p hp
        exact ⟨fp.1, fp.2.1, Int.emod_nonneg _ (by omega), Int.emod_lt_of_pos _ (by omega)⟩
      · obtain ⟨p, hp, rfl⟩ := List.mem_map.mp ho
        rfl
end
section
variable {P : Program} {w : World} {K : PySem.W.Frag} {mg : Str → Option Value} {base : Heap}
/-! ### the rests that are left by a base -/
def fitB (fs : List (Int × Int)) (i : Nat) : Bool := fs.all fun p => decide (((i : Int) - p.1) % p.2 = 0)
def rstN (fs : List (Int × Int)) (b : Int) (m : Nat) : List Int := ((List.range m).filter (fitB fs)).map fun i : Nat => (i : Int) % b
theorem rstN_succ (fs : List (Int × Int)) (b : Int) (m : Nat) : rstN fs b (m + 1) = rstN fs b m ++ (if fitB fs m = true then [(m : Int) % b] else []) := by
  unfold rstN
  rw [List.range_succ, List.filter_append, List.map_append, List.filter_cons, List.filter_nil]
  cases fitB fs m <;> rfl
theorem fitB_iff {fs : List (Int × Int)} {R : Int} (hf : ∀ p ∈ fs, Fact p) (jn : Vf.Jn fs R) (i : Nat) : fitB fs i = true ↔ i % lcmAll fs = R.toNat := by
  unfold fitB
  rw [all_fits hf, jn.2.2 (i : Int)]
  have h0 := jn.1
  constructor
  · intro h
    omega
  · intro h
    omega
theorem rstN_mono (fs : List (Int × Int)) (b : Int) {m n : Nat} (h : m ≤ n) : (rstN fs b m).length ≤ (rstN fs b n).length := by
  induction n with
  | zero => rw [show m = 0 by omega]; exact Nat.le_refl _
  | succ n ih =>
    rcases Nat.lt_or_ge m (n + 1) with c | c
    · refine Nat.le_trans (ih (by omega)) ?_
      rw [rstN_succ, List.length_append]
      omega
    · rw [show m = n + 1 by omega]
      exact Nat.le_refl _
theorem rstN_len {fs : List (Int × Int)} {R : Int} {b : Nat} (hf : ∀ p ∈ fs, Fact p) (jn : Vf.Jn fs R) (b0 : 0 < b) : (rstN fs (b : Int) (Nat.lcm (lcmAll fs) b)).length ≤ b := by
  unfold rstN
  rw [List.length_map, show Nat.lcm (lcmAll fs) b = lcmAll fs * (b / Nat.gcd (lcmAll fs) b) from Nat.mul_div_assoc _ (Nat.gcd_dvd_right _ _), fit_count_mul (L := lcmAll fs) (R := R.toNat) (by have := jn.2.1; have := jn.1; omega) (fitB_iff hf jn)]
  exact Nat.div_le_self _ _
theorem mem_rstN {fs : List (Int × Int)} {R : Int} {b : Nat} (hf : ∀ p ∈ fs, Fact p) (jn : Vf.Jn fs R) (b0 : 0 < b) (L0 : 0 < lcmAll fs) (r : Int) :
    r ∈ rstN fs (b : Int) (Nat.lcm (lcmAll fs) b) ↔ 0 ≤ r ∧ r < b ∧ r % ((Nat.gcd (lcmAll fs) b : Nat) : Int) = R % ((Nat.gcd (lcmAll fs) b : Nat) : Int) := by
  rw [← rest_iff L0 b0 jn.1 jn.2.1 r]
  unfold rstN
  rw [List.mem_map]
  constructor
  · rintro ⟨i, hi, rfl⟩
    obtain ⟨h1, h2⟩ := List.mem_filter.mp hi
    have h1 := List.mem_range.mp h1
    have h2 := (fitB_iff hf jn i).mp h2
    have h0 := jn.1
    exact ⟨(i : Int), by omega, by omega, by omega, rfl⟩
  · rintro ⟨x, x0, x1, e1, e2⟩
    obtain ⟨i, rfl⟩ := Int.eq_ofNat_of_zero_le x0
    refine ⟨i, List.mem_filter.mpr ⟨List.mem_range.mpr (by omega), (fitB_iff hf jn i).mpr ?_⟩, e2⟩
    omega
def sp_rests (K : PySem.W.Frag) : Sp := fun vs H Q _ => ∃ (a : Addr) (fs : List (Int × Int)) (R : Int) (b : Nat), vs = [.ref a, .int (b : Int)] ∧ FactsAt K H a fs ∧ Dr fs ∧ Vf.Jn fs R ∧ 1 ≤ b ∧ b ≤ 36 ∧
  ∀ p (ns : List Int) H', Same H H' → H p = none → H' p = some (.lst (ns.map V.int)) → ns.Pairwise (· < ·) → ns.length ≤ 36 → (∀ r, r ∈ ns ↔ 0 ≤ r ∧ r < b ∧ r % ((Nat.gcd (lcmAll fs) b : Nat) : Int) = R % ((Nat.gcd (lcmAll fs) b : Nat) : Int)) → Q (.ref p) H'
theorem ok__law_rests (T : Top K mg) : Ok P w K mg base 3 "_law_rests" s__law_rests ["_law_some", "_law_by"] (sp_rests K) := by
  have G__law_round := ok__law_round (P := P) (w := w) (base := base) T
  have G__law_fit := ok__law_fit (P := P) (w := w) (base := base) T
  refine T.d__law_rests.ok sc__law_rests (fun vs H Q E h => ?_) (fun f cdv A outer s H vs Q E hg hr h => ?_)
  · obtain ⟨a, fs, R, b, rfl, _⟩ := h
    rfl
  · obtain ⟨a, fs, R, b, rfl, hfa, dr, jn, b1, b2, q⟩ := h
    have hF := dr.facts
    have l0 := dr.pos
    have l1 := dr.lcm
    have l5 := dr.1
    obtain ⟨vs, sv, pvs⟩ := id hfa
    have ev := pvs.length
    refine ⟨_, (pss_one (ps_ret (pe_callB (id := "sorted") (c_sortedSet rfl rfl) (by rfl) T.b_sorted (by decide +kernel) (pa_cons (pe_callTy (T := "set") (c_setLo rfl rfl rfl) (by rfl) T.b_set (by decide +kernel) (pa_cons (pe_lc (own := [("_law_x", 2)]) (by rfl) sc__law_rests.nd (pi_range1 (by rfl) T.b_range (pa_cons (pe_g G__law_round (fun _ _ F => bd__law_round F) hg (hr.mono (by decide)) passL (by rfl) (pa_cons (pe_op (o_catA rfl) (pv 0) (pe_tup (pa_cons (pe_tup (pa_cons pe_int (pa_cons (pv 1) pa_nil))) pa_nil))) pa_nil)) pa_nil)) (blkOk_by (own := [("_law_x", 2)]) (N := ["_law_some", "_law_by", "_law_x"]) (sc := defScope s__law_rests) (by decide +kernel)) (fun _ _ _ _ _ => (pg_name (i := 2) sc__law_rests.nd rfl (Or.inl rfl))) (fun _ _ _ _ _ => (pts_one (pt_val (pe_g G__law_fit (fun _ _ F => bd__law_fit F) hg (hr.mono (by decide)) passL (by rfl) (pa_cons (pv 0) (pa_cons (pv 2) pa_nil)))))) (fun _ _ _ _ _ => (pe_op op_mod (pv 2) (pv 1)))) pa_nil)) pa_nil)))), ?_⟩
    walk_at "st"
    rename_i t1 ht1 t2 ht2
    have sA : Same H (upd (upd H t1 (.tup [.int 0, .int (b : Int)])) t2 (.tup [.ref t1])) := (Same.new ht1).trans (Same.new ht2)
    have tA : SqT K (upd (upd H t1 (.tup [.int 0, .int (b : Int)])) t2 (.tup [.ref t1])) t1 [.int 0, .int (b : Int)] := SqT.of (at_new ht2 upd_same)
    refine r_catA (Same.tup sA sv) (SqT.of upd_same) (by simp; omega) fun c1 H1 s1 e1 => ?_
    walk_at "go"
    have s01 : Same H H1 := sA.trans s1
    have hfa1 := hfa.tt (Same.tt s01)
    have hF1 : Facts (fs ++ [((0 : Int), (b : Int))]) := by
      refine ⟨by rw [List.length_append]; simp; omega, fun p hp => ?_⟩
      rcases List.mem_append.mp hp with z | z
      · exact hF.2 p z
      · rw [List.mem_singleton.mp z]
        exact ⟨by show 1 ≤ (b : Int); omega, by show (b : Int) ≤ 10 ^ 30; omega, Int.le_refl 0, by show (0 : Int) < (b : Int); omega⟩
    have el : lcmAll (fs ++ [((0 : Int), (b : Int))]) = Nat.lcm (lcmAll fs) b := lcmAll_snoc fs (0, (b : Int))
    have bm : Nat.lcm (lcmAll fs) b ≤ 759375 * 36 := Nat.le_trans (lcm_le_mul _ _) (Nat.mul_le_mul l1 b2)
    refine ⟨c1, _, rfl, ⟨_, .inr e1, PairsAt.append (pvs.tt (Same.tt s01)) (.cons ⟨t1, rfl, Same.tup s1 tA⟩ .nil)⟩, hF1, ?_⟩
    rw [el]
    walk_at "go"
    refine ⟨by omega, by omega, ?_⟩
    rw [Int.toNat_natCast]
    have len := rstN_len hF.2 jn (show 0 < b by omega)
    refine r_lcR (fun D i H' => Same H1 H' ∧ H' D = some (.lst ((rstN fs (b : Int) i).map V.int))) (fun D hD => ⟨Same.new hD, upd_same⟩) (fun D i H' hD hi hP => ?_) (fun D H' hD hP => ?_)
    · obtain ⟨s3, d3⟩ := hP
      have li := rstN_mono fs (b : Int) (show i ≤ Nat.lcm (lcmAll fs) b by omega)
      walk_at "go"
      refine ⟨rfl, ?_⟩
      walk_at "go"
      rw [Int.zero_add] at *
      refine ⟨a, fs, _, rfl, ((FactsAt.seq hfa1).same s3), dr, fun H3 s4 => ?_⟩
      walk_at "go"
      have ef := rstN_succ fs (b : Int) i
      unfold fitB at ef
      cases hb : (fs.all fun p => decide (((i : Int) - p.1) % p.2 = 0)) with
      | true =>
        rw [if_pos hb] at ef
        walk_at "go"
        refine r_rI (by omega) ?_
        walk_at "go"
        refine ⟨_, s4 _ _ d3, Nat.lt_of_le_of_lt (show _ ≤ 36 by rw [List.length_map]; omega) (by decide), fun b o e => ?_, ?_⟩
        · rw [upd_ne (ne_of_none e hD)]
          exact s4 _ _ (s3 _ _ e)
        · rw [ef, List.map_append]
          exact upd_same
      | false =>
        rw [if_neg (by rw [hb]; decide), List.append_nil] at ef
        refine ⟨s3.trans s4, ?_⟩
        rw [ef]
        exact s4 _ _ d3
    · obtain ⟨s3, d3⟩ := hP
      walk_at "go"
      refine r_setLo (rstN fs (b : Int) (Nat.lcm (lcmAll fs) b)) (SqL.of d3) (by omega) fun p c hp hc => ?_
      walk_at "go"
      refine r_sortedSet upd_same (by omega) fun ns p2 h1 h2 h3 hp2 => ?_
      refine q p2 ns _ (s01.trans (s3.trans ((Same.new hp).trans (Same.new hp2)))) ?_ upd_same h1 (by omega) fun r => ?_
      · exact none_same (s01.trans (s3.trans (Same.new hp))) hp2
      · rw [h2 r, decide_eq_true_eq]
        exact mem_rstN hF.2 jn (by omega) l0 r
end
section
variable {P : Program} {w : World} {K : PySem.W.Frag} {mg : Str → Option Value} {base : Heap}
/-! ### the law of the rest by a base -/
def sp_rest_right (K : PySem.W.Frag) : Sp := fun vs H Q _ => ∃ (a : Addr) (fs : List (Int × Int)) (R : Int) (b : Nat), vs = [.ref a, .int (b : Int)] ∧ FactsAt K H a fs ∧ Dr fs ∧ Vf.Jn fs R ∧ 1 ≤ b ∧ b ≤ 36 ∧ ∀ H', Same H H' → Q (.bl true) H'
def modN (g r : Int) (m : Nat) : List Int := ((List.range m).filter fun i : Nat => decide ((i : Int) % g = r)).map fun i : Nat => (i : Int)
theorem modN_succ (g r : Int) (m : Nat) : modN g r (m + 1) = modN g r m ++ (if decide ((m : Int) % g = r) = true then [(m : Int)] else []) := by
  unfold modN
  rw [List.range_succ, List.filter_append, List.map_append, List.filter_cons, List.filter_nil]
  cases decide ((m : Int) % g = r) <;> rfl
theorem modN_len (g r : Int) (m : Nat) : (modN g r m).length ≤ m := by
  unfold modN
  rw [List.length_map]
  exact Nat.le_trans (List.length_filter_le _ _) (by rw [List.length_range]; exact Nat.le_refl m)
theorem modN_asc (g r : Int) (m : Nat) : (modN g r m).Pairwise (· < ·) := by
  unfold modN
  refine List.pairwise_map.mpr ?_
  exact List.Pairwise.imp (fun h => by omega) (List.Pairwise.filter _ List.pairwise_lt_range)
theorem mem_modN (g r : Int) (m : Nat) (k : Int) : k ∈ modN g r m ↔ 0 ≤ k ∧ k < m ∧ k % g = r := by
  unfold modN
  rw [List.mem_map]
  constructor
  · rintro ⟨i, hi, rfl⟩
    obtain ⟨h1, h2⟩ := List.mem_filter.mp hi
    have h1 := List.mem_range.mp h1
    exact ⟨by omega, by omega, of_decide_eq_true h2⟩
  · rintro ⟨h0, h1, h2⟩
    obtain ⟨i, rfl⟩ := Int.eq_ofNat_of_zero_le h0
    exact ⟨i, List.mem_filter.mpr ⟨List.mem_range.mpr (by omega), decide_eq_true h2⟩, rfl⟩
theorem r_reprTs2 {H : Hp} {Q : VK} {t : Addr} (x y : Int) (bx : x.natAbs ≤ 1000000) (by_ : y.natAbs ≤ 1000000) (h : SqT K H t [.int x, .int y]) (q : Q (.str (tupD [x, y]).shown) H) : rRepr K [.ref t] H Q := by
  have big : 1000000 < 2 ^ 1900 := Nat.lt_of_lt_of_le (by decide : 1000000 < 2 ^ 20) (Nat.pow_le_pow_right (by decide) (by decide))
  refine r_reprD (tupD [x, y]) (Dp.tupD h) (tameInts [x, y] fun n hn => ?_) (Nat.le_of_ble_eq_true rfl) (Nat.le_of_ble_eq_true rfl) q
  rcases List.mem_cons.mp hn with z | z
  · rw [z]
    exact Nat.lt_of_le_of_lt bx big
  · rw [List.mem_singleton.mp z]
    exact Nat.lt_of_le_of_lt by_ big
theorem ok__law_rest_right (T : Top K mg) : Ok P w K mg base 8 "_law_rest_right" s__law_rest_right ["_law_some", "_law_by"] (sp_rest_right K) := by
  have G__law_rests := ok__law_rests (P := P) (w := w) (base := base) T
  have G_rest_by := ok_rest_by (P := P) (w := w) (base := base) T
  refine T.d__law_rest_right.ok sc__law_rest_right (fun vs H Q E h => ?_) (fun f cdv A outer s H vs Q E hg hr h => ?_)
  · obtain ⟨a, fs, R, b, rfl, _⟩ := h
    rfl
  · obtain ⟨a, fs, R, b, rfl, hfa, dr, jn, b1, b2, q⟩ := h
    have hF := dr.facts
    have l0 := dr.pos
    have g0 : 0 < Nat.gcd (lcmAll fs) b := Nat.gcd_pos_of_pos_left _ l0
    have gb : Nat.gcd (lcmAll fs) b ≤ b := Nat.gcd_le_right _ (by omega)
    have gd : ((Nat.gcd (lcmAll fs) b : Nat) : Int) ∣ (b : Int) := Int.natCast_dvd_natCast.mpr (Nat.gcd_dvd_right _ _)
    refine ⟨_, (pss_cons (ps_asg (pe_tup (pa_cons (pe_g G_rest_by (fun _ _ F => bd_rest_by F) hg (hr.mono (by decide)) passL (by rfl) (pa_cons (pv 0) (pa_cons (pv 1) pa_nil))) (pa_cons (pe_g G__law_rests (fun _ _ F => bd__law_rests F) hg (hr.mono (by decide)) passL (by rfl) (pa_cons (pv 0) (pa_cons (pv 1) pa_nil))) pa_nil))) (g_tup rfl rfl (pgs_cons (pg_name (i := 2) sc__law_rest_right.nd rfl (.inr rfl)) (pgs_cons (pg_name (i := 3) sc__law_rest_right.nd rfl (.inl rfl)) pgs_nil)) rfl rfl))
    (pss_cons (ps_if (PW.pt (pw_or (pt_cmpR op_neS (pe_callB (id := "repr") (c_repr rfl hg hr.units) (by rfl) T.b_repr (by decide +kernel) (pa_cons (pe_gk0 G_rest_by (fun _ _ F => kb_rest_by_0 F) hg (hr.mono (by decide)) passL (by rfl) (pk_cons (pv 1) (pk_cons (pv 0) pk_nil))) pa_nil)) (pe_callB (id := "repr") (c_repr rfl hg hr.units) (by rfl) T.b_repr (by decide +kernel) (pa_cons (pv 2) pa_nil)) (nomark _)) (pw_or (pt_cmpR op_neZ (pe_op op_mod (pv 1) (pe_ix (x_tup rfl) (pv 2) pe_int (fun _ _ => rfl))) pe_int (nomark _)) (pw_or1 (pt_not (pt_chain op_le op_lt pe_int (pe_ix (x_tup rfl) (pv 2) pe_int (fun _ _ => rfl)) (pe_ix (x_tup rfl) (pv 2) pe_int (fun _ _ => rfl)))))))) (pss_one (ps_ret pe_bl)) pss_nil)
    (pss_one (ps_ret (pe_cmpR (o_eqD rfl hr.units) (pe_lc (own := [("_law_r", 4)]) (by rfl) sc__law_rest_right.nd (pi_range1 (by rfl) T.b_range (pa_cons (pv 1) pa_nil)) (blkOk_by (own := [("_law_r", 4)]) (N := ["_law_some", "_law_by", "_law_told", "_law_due", "_law_r"]) (sc := defScope s__law_rest_right) (by decide +kernel)) (fun _ _ _ _ _ => (pg_name (i := 4) sc__law_rest_right.nd rfl (Or.inl rfl))) (fun _ _ _ _ _ => (pts_one (pt_cmpR op_eqZ (pe_op op_mod (pv 4) (pe_ix (x_tup rfl) (pv 2) pe_int (fun _ _ => rfl))) (pe_ix (x_tup rfl) (pv 2) pe_int (fun _ _ => rfl)) (nomark _)))) (fun _ _ _ _ _ => (pv 4))) (pv 3) (nomark _)))))), ?_⟩
    walk_at "st"
    refine ⟨a, fs, R, b, rfl, hfa, hF, jn, by omega, by omega, fun t1 H1 s1 n1 e1 => ?_⟩
    rw [Int.natAbs_natCast] at e1
    walk_at "go"
    refine ⟨a, fs, R, b, rfl, hfa.tt (Same.tt s1), dr, jn, b1, b2, fun p ns H2 s2 n2 e2 asc l36 mem => ?_⟩
    walk_at "go"
    rename_i t0 ht0
    have s3 : Same H2 (upd H2 t0 (.tup [.ref t1, .ref p])) := Same.new ht0
    have hfa3 := hfa.tt (Same.tt (s1.trans (s2.trans s3)))
    have e1' := s3 _ _ (s2 _ _ e1)
    have e2' := s3 _ _ e2
    have sAll : Same H (upd H2 t0 (.tup [.ref t1, .ref p])) := s1.trans (s2.trans s3)
    clear n1 n2 e1 e2
    generalize upd H2 t0 (.tup [.ref t1, .ref p]) = H3 at *
    walk_at "gi"
    refine ⟨a, fs, R, b, rfl, hfa3, hF, jn, by omega, by omega, fun t2 H4 s4 n4 e4 => ?_⟩
    rw [Int.natAbs_natCast] at e4
    have e5 := s4 _ _ e1'
    have e6 := s4 _ _ e2'
    have sB := sAll.trans s4
    have u0 := Int.emod_nonneg R (show ((Nat.gcd (lcmAll fs) b : Nat) : Int) ≠ 0 by omega)
    have u1 := Int.emod_lt_of_pos R (show (0 : Int) < ((Nat.gcd (lcmAll fs) b : Nat) : Int) by omega)
    generalize Nat.gcd (lcmAll fs) b = g at *
    generalize R % (g : Int) = u at *
    walk_at "gi"
    refine r_reprTs2 u (g : Int) (by omega) (by omega) (SqT.of e4) ?_
    walk_at "gi"
    refine r_reprTs2 u (g : Int) (by omega) (by omega) (SqT.of e5) ?_
    walk_at "gi"
    refine ifnd (fun c => absurd rfl c) (fun _ => ?_)
    walk_at "gi"
    refine r_ixT (SqT.of e5) (atI_nat (j := 1) rfl) ?_
    walk_at "gi"
    refine r_rI (by omega) ?_
    walk_at "gi"
    refine ifnd (fun c => absurd (Int.emod_eq_zero_of_dvd gd) c) (fun _ => ?_)
    walk_at "gi"
    refine r_ixT (SqT.of e5) (atI_nat (j := 0) rfl) ?_
    walk_at "gi"
    refine ifd (fun _ => ?_) (fun c => absurd u0 c)
    walk_at "gi"
    refine r_ixT (SqT.of e5) (atI_nat (j := 1) rfl) ?_
    walk_at "gi"
    rw [decide_eq_true u1]
    rw [if_neg (by decide)]
    walk_at "gi"
    refine ⟨by omega, by omega, ?_⟩
    rw [Int.toNat_natCast]
    refine r_lcR (fun D i H' => Same H4 H' ∧ H' D = some (.lst ((modN (g : Int) u i).map V.int))) (fun D hD => ⟨Same.new hD, upd_same⟩) (fun D i H' hD hi hP => ?_) (fun D H' hD hP => ?_)
    · obtain ⟨s5, d5⟩ := hP
      have li := modN_len (g : Int) u i
      walk_at "go"
      refine ⟨rfl, ?_⟩
      walk_at "go"
      rw [Int.zero_add] at *
      refine r_ixT (SqT.of (s5 _ _ e5)) (atI_nat (j := 1) rfl) ?_
      walk_at "go"
      refine r_rI (by omega) ?_
      walk_at "go"
      refine r_ixT (SqT.of (s5 _ _ e5)) (atI_nat (j := 0) rfl) ?_
      walk_at "go"
      have ef := modN_succ (g : Int) u i
      cases hb : decide ((i : Int) % (g : Int) = u) with
      | true =>
        rw [if_pos hb] at ef
        walk_at "go"
        refine ⟨_, d5, Nat.lt_of_le_of_lt (show _ ≤ 36 by rw [List.length_map]; omega) (by decide), fun b o e => ?_, ?_⟩
        · rw [upd_ne (ne_of_none e hD)]
          exact s5 _ _ e
        · rw [ef, List.map_append]
          exact upd_same
      | false =>
        rw [if_neg (by rw [hb]; decide), List.append_nil] at ef
        refine ⟨s5, ?_⟩
        rw [ef]
        exact d5
    · obtain ⟨s5, d5⟩ := hP
      walk_at "go"
      refine r_eqI (modN (g : Int) u b) ns (SqL.of d5) (SqL.of (s5 _ _ e6)) ?_
      have ee : modN (g : Int) u b = ns := asc_ext (modN_asc _ _ _) asc fun k => by rw [mem_modN, mem k]
      rw [decide_eq_true ee]
      exact q _ (sB.trans s5)
end
section
variable {P : Program} {w : World} {K : PySem.W.Frag} {mg : Str → Option Value} {base : Heap}
/-! ### the law of a fact that is told -/
def sp_fact_right (K : PySem.W.Frag) : Sp := fun vs H Q _ => ∃ (a t : Addr) (fs : List (Int × Int)) (R r : Int) (b : Nat), vs = [.ref a, .ref t] ∧ FactsAt K H a fs ∧ Dr fs ∧ Vf.Jn fs R ∧ SqT K H t [.int r, .int (b : Int)] ∧ 1 ≤ b ∧ b ≤ 36 ∧ 0 ≤ r ∧ r < b ∧ ∀ H', Same H H' → Q (.bl true) H'
/-- what the rests tell, and what is reckoned -/
theorem told_rests {L b : Nat} {R r : Int} {ns : List Int} (L0 : 0 < L) (b0 : 0 < b) (h0 : 0 ≤ R) (r0 : 0 ≤ r) (r1 : r < b) (mem : ∀ k, k ∈ ns ↔ 0 ≤ k ∧ k < b ∧ k % ((Nat.gcd L b : Nat) : Int) = R % ((Nat.gcd L b : Nat) : Int)) :
    (ns.filter fun k => !decide (k = r)).isEmpty = (decide ((L : Int) % (b : Int) = 0) && decide ((R - r) % (b : Int) = 0)) := by
  have g0 : 0 < Nat.gcd L b := Nat.gcd_pos_of_pos_left _ L0
  have gb : Nat.gcd L b ∣ b := Nat.gcd_dvd_right L b
  have gi : ((Nat.gcd L b : Nat) : Int) ∣ (b : Int) := Int.natCast_dvd_natCast.mpr gb
  rw [Bool.eq_iff_iff, List.isEmpty_iff, Bool.and_eq_true, decide_eq_true_eq, decide_eq_true_eq]
  have u0 := Int.emod_nonneg R (show ((Nat.gcd L b : Nat) : Int) ≠ 0 by omega)
  have u1 := Int.emod_lt_of_pos R (show (0 : Int) < ((Nat.gcd L b : Nat) : Int) by omega)
  have gle := Nat.le_of_dvd b0 gb
  have uu : R % ((Nat.gcd L b : Nat) : Int) % ((Nat.gcd L b : Nat) : Int) = R % ((Nat.gcd L b : Nat) : Int) := Int.emod_emod_of_dvd R (Int.dvd_refl _)
  have one : R % ((Nat.gcd L b : Nat) : Int) ∈ ns := (mem _).mpr ⟨u0, by omega, uu⟩
  have all : (ns.filter fun k => !decide (k = r)) = [] ↔ ∀ k ∈ ns, k = r := by
    rw [List.filter_eq_nil_iff]
    exact ⟨fun h k hk => by have := h k hk; simpa using this, fun h k hk => by have := h k hk; simpa using this⟩
  rw [all]
  constructor
  · intro h
    have e1 := h _ one
    have e2 : Nat.gcd L b = b := by
      obtain ⟨c, hc⟩ := gb
      rcases Nat.lt_or_ge c 2 with c2 | c2
      · have c1 : c = 1 := by
          rcases Nat.eq_zero_or_pos c with z | z
          · subst z
            omega
          · omega
        rw [c1, Nat.mul_one] at hc
        exact hc.symm
      · exfalso
        have le : Nat.gcd L b * 2 ≤ b := Nat.le_trans (Nat.mul_le_mul_left (Nat.gcd L b) c2) (Nat.le_of_eq hc.symm)
        have two : R % ((Nat.gcd L b : Nat) : Int) + ((Nat.gcd L b : Nat) : Int) ∈ ns := (mem _).mpr ⟨by omega, by omega, by rw [Int.add_emod_right, uu]⟩
        have e3 := h _ two
        omega
    have dv : b ∣ L := by
      rw [← e2]
      exact Nat.gcd_dvd_left L b
    refine ⟨Int.emod_eq_zero_of_dvd (Int.natCast_dvd_natCast.mpr dv), ?_⟩
    rw [e2] at e1
    rw [← e1]
    exact Int.emod_eq_emod_iff_emod_sub_eq_zero.mp (Int.emod_emod_of_dvd R (Int.dvd_refl _)).symm
  · rintro ⟨h1, h2⟩ k hk
    have dv : b ∣ L := Int.natCast_dvd_natCast.mp (Int.dvd_of_emod_eq_zero h1)
    have e2 : Nat.gcd L b = b := Nat.gcd_eq_right dv
    obtain ⟨k0, k1, k2⟩ := (mem k).mp hk
    rw [e2, Int.emod_eq_of_lt k0 k1] at k2
    have e4 := Int.emod_eq_emod_iff_emod_sub_eq_zero.mpr h2
    rw [Int.emod_eq_of_lt r0 r1] at e4
    omega
theorem r_bools {H : Hp} {Q : VK} {a : Addr} {b : Bool} (h : H a = some (.lst [.bl b, .bl b])) (q : Q (.str (PyData.list [.bool b, .bool b]).shown) H) : rRepr K [.ref a] H Q := by
  refine r_reprD (.list [.bool b, .bool b]) (Dp.lst (SqL.of h) (.cons (.bl _) (.cons (.bl _) .nil))) ?_ ?_ ?_ q
  · rfl
  · exact Nat.le_of_ble_eq_true rfl
  · exact Nat.le_of_ble_eq_true rfl
theorem fN_succ {ns : List Int} {r : Int} {i : Nat} {v : Int} (h : ns[i]? = some v) : (ns.take (i + 1)).filter (fun k => !decide (k = r)) = (ns.take i).filter (fun k => !decide (k = r)) ++ (if (!decide (v = r)) = true then [v] else []) := by
  rw [List.take_add_one, h, List.filter_append, Option.toList_some, List.filter_cons, List.filter_nil]
theorem ok__law_fact_right (T : Top K mg) : Ok P w K mg base 8 "_law_fact_right" s__law_fact_right ["_law_some", "_law_pair"] (sp_fact_right K) := by
  have G__law_rests := ok__law_rests (P := P) (w := w) (base := base) T
  have G_tells := ok_tells (P := P) (w := w) (base := base) T
  have G_joined := ok_joined (P := P) (w := w) (base := base) T
  refine T.d__law_fact_right.ok sc__law_fact_right (fun vs H Q E h => ?_) (fun f cdv A outer s H vs Q E hg hr h => ?_)
  · obtain ⟨a, t, fs, R, r, b, rfl, _⟩ := h
    rfl
  · obtain ⟨a, t, fs, R, r, b, rfl, hfa, dr, jn, st, b1, b2, r0, r1, q⟩ := h
    have hF := dr.facts
    have l0 := dr.pos
    have l5 := dr.1
    refine ⟨_, (pss_cons (ps_set (i := 2) sc__law_fact_right.nd rfl (.inl rfl) (pe_cmpR (o_eqD rfl hr.units) (pe_lc (own := [("_law_r", 3)]) (by rfl) sc__law_fact_right.nd (i_list rfl (pe_g G__law_rests (fun _ _ F => bd__law_rests F) hg (hr.mono (by decide)) passL (by rfl) (pa_cons (pv 0) (pa_cons (pe_ix (x_tup rfl) (pv 1) pe_int (fun _ _ => rfl)) pa_nil)))) (blkOk_by (own := [("_law_r", 3)]) (N := ["_law_some", "_law_pair", "_law_due", "_law_r"]) (sc := defScope s__law_fact_right) (by decide +kernel)) (fun _ _ _ _ _ => (pg_name (i := 3) sc__law_fact_right.nd rfl (Or.inl rfl))) (fun _ _ _ _ _ => (pts_one (pt_cmpR op_ne (pv 3) (pe_ix (x_tup rfl) (pv 1) pe_int (fun _ _ => rfl)) (nomark _)))) (fun _ _ _ _ _ => (pv 3))) (pe_lst pa_nil) (nomark _)))
    (pss_cons (ps_if (pt_cmpR op_neS (pe_callB (id := "repr") (c_repr rfl hg hr.units) (by rfl) T.b_repr (by decide +kernel) (pa_cons (pe_lst (pa_cons (pe_g G_tells (fun _ _ F => bd_tells F) hg (hr.mono (by decide)) passL (by rfl) (pa_cons (pv 0) (pa_cons (pv 1) pa_nil))) (pa_cons (pe_gk0 G_tells (fun _ _ F => kb_tells_1 F) hg (hr.mono (by decide)) passL (by rfl) (pk_cons (pv 1) (pk_cons (pv 0) pk_nil))) pa_nil))) pa_nil)) (pe_callB (id := "repr") (c_repr rfl hg hr.units) (by rfl) T.b_repr (by decide +kernel) (pa_cons (pe_lst (pa_cons (pv 2) (pa_cons (pv 2) pa_nil))) pa_nil)) (nomark _)) (pss_one (ps_ret pe_bl)) pss_nil)
    (pss_one (ps_ret (pe_or (pe_not (pv 2)) (pe_one (pe_cmpR (o_eqD rfl hr.units) (pe_gS G_joined (fun _ _ F => bd_joined F) hg (hr.mono (by decide)) (takes_of rfl rfl rfl rfl) (by rfl) (pa_cons (pe_op (o_catA rfl) (pv 0) (pe_tup (pa_cons (pv 1) pa_nil))) pa_nil)) (pe_gS G_joined (fun _ _ F => bd_joined F) hg (hr.mono (by decide)) (takes_of rfl rfl rfl rfl) (by rfl) (pa_cons (pv 0) pa_nil)) (nomark _)))))))), ?_⟩
    walk_at "st"
    refine r_ixT st (atI_nat (j := 1) rfl) ?_
    walk_at "go"
    refine ⟨a, fs, R, b, rfl, hfa, dr, jn, b1, b2, fun p ns H1 s1 n1 e1 asc l36 mem => ?_⟩
    have st1 := Same.tup s1 st
    have hfa1 := hfa.tt (Same.tt s1)
    have told := told_rests (L := lcmAll fs) (b := b) (R := R) (r := r) (ns := ns) l0 (by omega) jn.1 r0 r1 mem
    walk_at "go"
    refine r_lcLs (ns.map V.int) (fun D i H' => Same H1 H' ∧ H' D = some (.lst (((ns.take i).filter fun k => !decide (k = r)).map V.int))) (fun D hD => ⟨Same.new hD, upd_same⟩) (fun D i H' hD hi hP => ?_) (fun D i v H' hD hi hP => ?_) (fun D H' hD hP => ?_)
    · exact SqL.of (hP.1 _ _ e1)
    · obtain ⟨s2, d2⟩ := hP
      rw [List.getElem?_map, Option.map_eq_some_iff] at hi
      obtain ⟨v, hv, rfl⟩ := hi
      have ef := fN_succ (r := r) hv
      have lf : ((ns.take i).filter fun k => !decide (k = r)).length ≤ 36 := Nat.le_trans (List.length_filter_le _ _) (by rw [List.length_take]; omega)
      walk_at "go"
      refine ⟨rfl, ?_⟩
      walk_at "go"
      refine r_ixT (Same.tup s2 st1) (atI_nat (j := 0) rfl) ?_
      walk_at "go"
      refine ⟨rfl, _, rfl, ?_⟩
      rw [show decide (V.int v = V.int r) = decide (v = r) from by simp]
      refine ifnd (fun c => ?_) (fun c => ?_)
      · rw [if_pos (by simpa using c)] at ef
        walk_at "go"
        refine ⟨_, d2, Nat.lt_of_le_of_lt (show _ ≤ 36 by rw [List.length_map]; exact lf) (by decide), fun b o e => ?_, ?_⟩
        · rw [upd_ne (ne_of_none e hD)]
          exact s2 _ _ e
        · rw [ef, List.map_append]
          exact upd_same
      · rw [if_neg (by simpa using c), List.append_nil] at ef
        refine ⟨s2, ?_⟩
        rw [ef]
        exact d2
    obtain ⟨s2, d2⟩ := hP
    rw [List.length_map, List.take_length] at d2
    walk_at "go"
    rename_i e9 he9
    refine r_eqI (ns.filter fun k => !decide (k = r)) [] (SqL.of (at_new he9 d2)) (SqL.of upd_same) ?_
    have s3 : Same H (upd H' e9 (.lst [])) := s1.trans (s2.trans (Same.new he9))
    have dd : decide ((ns.filter fun k => !decide (k = r)) = []) = (decide ((lcmAll fs : Int) % (b : Int) = 0) && decide ((R - r) % (b : Int) = 0)) := by
      rw [← told]
      cases ns.filter fun k => !decide (k = r) <;> rfl
    rw [dd]
    clear told dd d2 e1
    have hfa3 := hfa.tt (Same.tt s3)
    have st3 := Same.tup s3 st
    generalize upd H' e9 (.lst []) = H3 at *
    walk_at "go"
    have fp : Fact (r, (b : Int)) := ⟨by show 1 ≤ (b : Int); omega, by show (b : Int) ≤ 10 ^ 30; omega, r0, r1⟩
    walk_at "gi"
    refine ⟨a, fs, R, .ref t, (r, (b : Int)), rfl, hfa3, hF, jn, ⟨t, rfl, st3⟩, fp, fun H4 s4 => ?_⟩
    walk_at "gi"
    refine ⟨a, fs, R, .ref t, (r, (b : Int)), rfl, hfa3.tt (Same.tt s4), hF, jn, ⟨t, rfl, Same.tup s4 st3⟩, fp, fun H5 s5 => ?_⟩
    have s35 := s4.trans s5
    generalize hB : (decide ((lcmAll fs : Int) % (b : Int) = 0) && decide ((R - r) % (b : Int) = 0)) = B
    walk_at "gi"
    rename_i N1 hN1
    refine r_bools upd_same ?_
    walk_at "gi"
    rename_i N2 hN2
    refine r_bools upd_same ?_
    walk_at "gi"
    refine ifnd (fun c => absurd rfl c) (fun _ => ?_)
    have sN : Same H (upd (upd H5 N1 (.lst [.bl B, .bl B])) N2 (.lst [.bl B, .bl B])) := s3.trans (s35.trans ((Same.new hN1).trans (Same.new hN2)))
    generalize upd (upd H5 N1 (.lst [.bl B, .bl B])) N2 (.lst [.bl B, .bl B]) = H6 at *
    walk_at "gi"
    cases B with
    | false => exact q _ sN
    | true =>
      rw [if_neg (by decide)]
      rw [Bool.and_eq_true, decide_eq_true_eq, decide_eq_true_eq] at hB
      obtain ⟨hB1, hB2⟩ := hB
      have dv : b ∣ lcmAll fs := Int.natCast_dvd_natCast.mp (Int.dvd_of_emod_eq_zero hB1)
      have er : R % (b : Int) = r := by
        have z := Int.emod_eq_emod_iff_emod_sub_eq_zero.mpr hB2
        rw [z, Int.emod_eq_of_lt r0 r1]
      have el : Nat.lcm (lcmAll fs) b = lcmAll fs := Nat.dvd_antisymm (Nat.lcm_dvd (Nat.dvd_refl _) dv) (Nat.dvd_lcm_left _ _)
      have jn2 : Vf.Jn (fs ++ [(r, (b : Int))]) R := jn.snoc fp l0 jn.1 (by show R < ((Nat.lcm (lcmAll fs) b : Nat) : Int); rw [el]; exact jn.2.1) (Int.emod_eq_of_lt jn.1 jn.2.1) er
      have el2 : lcmAll (fs ++ [(r, (b : Int))]) = lcmAll fs := by
        rw [lcmAll_snoc]
        exact el
      have hF2 : Facts (fs ++ [(r, (b : Int))]) := by
        refine ⟨by rw [List.length_append]; simp; omega, fun p hp => ?_⟩
        rcases List.mem_append.mp hp with z | z
        · exact hF.2 p z
        · rw [List.mem_singleton.mp z]
          exact fp
      obtain ⟨vs, sv, pvs⟩ := hfa.tt (Same.tt sN)
      have lv := pvs.length
      have stN := Same.tup sN st
      walk_at "gi"
      rename_i tp htp
      refine r_catA (Same.tup (Same.new htp) sv) (SqT.of upd_same) (by simp; omega) fun c1 H7 s7 e7 => ?_
      have sP : Same H6 H7 := (Same.new htp).trans s7
      walk_at "gi"
      refine joined_ok (a := c1) ⟨_, e7, PairsAt.append (pvs.tt (Same.tt sP)) (.cons ⟨t, rfl, Same.tup sP stN⟩ .nil)⟩ hF2 jn2 el2 fun t3 H8 s8 n8 e8 => ?_
      walk_at "gi"
      refine joined_ok (a := a) ⟨vs, Same.tup (sP.trans s8) sv, pvs.tt (Same.tt (sP.trans s8))⟩ hF jn rfl fun t4 H9 s9 n9 e9 => ?_
      walk_at "gi"
      refine r_eqT [R, (lcmAll fs : Int)] [R, (lcmAll fs : Int)] (SqT.of (s9 _ _ e8)) (SqT.of e9) ?_
      rw [decide_eq_true rfl]
      exact q _ (sN.trans (sP.trans (s8.trans s9)))
end
section
variable {P : Program} {w : World} {K : PySem.W.Frag} {mg : Str → Option Value} {base : Heap}
/-! ### the law of the facts that are needless -/
theorem lcm_less {fs : List (Int × Int)} {k : Nat} (hk : k < fs.length) : lcmAll fs = Nat.lcm (lcmAll (fs.take k ++ fs.drop (k + 1))) fs[k].2.natAbs := by
  rw [← lcmAll_snoc]
  have same : ∀ p, p ∈ fs ↔ p ∈ fs.take k ++ fs.drop (k + 1) ++ [fs[k]] := fun p => by
    have e : fs = fs.take k ++ fs[k] :: fs.drop (k + 1) := by rw [List.getElem_cons_drop, List.take_append_drop]
    constructor
    · intro h
      rw [e] at h
      rcases List.mem_append.mp h with z | z
      · exact List.mem_append_left _ (List.mem_append_left _ z)
      · rcases List.mem_cons.mp z with y | y
        · exact List.mem_append_right _ (List.mem_singleton.mpr y)
        · exact List.mem_append_left _ (List.mem_append_right _ y)
    · intro h
      rcases List.mem_append.mp h with z | z
      · rcases List.mem_append.mp z with y | y
        · exact List.mem_of_mem_take y
        · exact List.mem_of_mem_drop y
      · rw [List.mem_singleton.mp z]
        exact List.getElem_mem hk
  refine Nat.dvd_antisymm (lcmAll_dvd _ 1 _ (Nat.one_dvd _) fun p hp => (dvd_lcmAll _ 1).2 p ((same p).mp hp)) (lcmAll_dvd _ 1 _ (Nat.one_dvd _) fun p hp => (dvd_lcmAll _ 1).2 p ((same p).mpr hp))
theorem needless_iff {fs : List (Int × Int)} {R : Int} (hf : ∀ p ∈ fs, Fact p) (jn : Vf.Jn fs R) {k : Nat} (hk : k < fs.length) : decide (fitN (fs.take k ++ fs.drop (k + 1)) (lcmAll fs) = [R]) = ndB fs k := by
  have hl : ∀ p ∈ fs.take k ++ fs.drop (k + 1), Fact p := fun p hp => by
    rcases List.mem_append.mp hp with z | z
    · exact hf p (List.mem_of_mem_take z)
    · exact hf p (List.mem_of_mem_drop z)
  have fx := jn.fits
  have jl := Jn.of_fits (R := 0) (x := R) hl fun p hp => by
    rcases List.mem_append.mp hp with z | z
    · exact fx p (List.mem_of_mem_take z)
    · exact fx p (List.mem_of_mem_drop z)
  have eL := lcm_less hk
  have l0 : 0 < lcmAll (fs.take k ++ fs.drop (k + 1)) := lcmAll_pos _ 1 hl (by decide)
  have eg : fs.getD k (0, 1) = fs[k] := by rw [List.getD_eq_getElem?_getD, List.getElem?_eq_getElem hk]; rfl
  obtain ⟨o1, o2, o3, o4⟩ := hf fs[k] (List.getElem_mem hk)
  unfold ndB
  rw [eg, decide_eq_decide]
  generalize fs.take k ++ fs.drop (k + 1) = ls at *
  have nb : ((fs[k].2.natAbs : Nat) : Int) = fs[k].2 := by omega
  constructor
  · intro h
    have len : (fitN ls (lcmAll fs)).length = lcmAll fs / lcmAll ls := by
      have dv : lcmAll ls ∣ lcmAll fs := by rw [eL]; exact Nat.dvd_lcm_left _ _
      unfold fitN
      rw [List.length_map]
      have z := fit_count_mul (p := fun i : Nat => ls.all fun p => decide (((i : Int) - p.1) % p.2 = 0)) (L := lcmAll ls) (R := (R % (lcmAll ls : Int)).toNat) (t := lcmAll fs / lcmAll ls) (by have := jl.1; have := jl.2.1; omega) (fitB_iff hl jl)
      rw [Nat.mul_div_cancel' dv] at z
      exact z
    rw [h] at len
    have e1 : lcmAll fs / lcmAll ls = 1 := len.symm
    have dv : lcmAll ls ∣ lcmAll fs := by rw [eL]; exact Nat.dvd_lcm_left _ _
    have e2 : lcmAll fs = lcmAll ls := by
      have z := Nat.div_mul_cancel dv
      rw [e1, Nat.one_mul] at z
      exact z.symm
    rw [← nb]
    refine Int.emod_eq_zero_of_dvd (Int.natCast_dvd_natCast.mpr ?_)
    rw [← e2, eL]
    exact Nat.dvd_lcm_right _ _
  · intro h
    rw [← nb] at h
    have dv : fs[k].2.natAbs ∣ lcmAll ls := Int.natCast_dvd_natCast.mp (Int.dvd_of_emod_eq_zero h)
    have e2 : lcmAll fs = lcmAll ls := by
      rw [eL]
      exact Nat.dvd_antisymm (Nat.lcm_dvd (Nat.dvd_refl _) dv) (Nat.dvd_lcm_left _ _)
    rw [e2, fitN_one hl jl, ← e2, Int.emod_eq_of_lt jn.1 jn.2.1]
theorem dr_less {fs : List (Int × Int)} (h : Dr fs) (k : Nat) : Dr (fs.take k ++ fs.drop (k + 1)) := by
  refine ⟨?_, fun p hp => ?_⟩
  · rw [List.length_append, List.length_take, List.length_drop]
    have := h.1
    omega
  · rcases List.mem_append.mp hp with z | z
    · exact h.2 p (List.mem_of_mem_take z)
    · exact h.2 p (List.mem_of_mem_drop z)
def sp_needless_right (K : PySem.W.Frag) : Sp := fun vs H Q _ => ∃ (a : Addr) (fs : List (Int × Int)) (R : Int), vs = [.ref a] ∧ FactsAt K H a fs ∧ Dr fs ∧ Vf.Jn fs R ∧ ∀ H', Same H H' → Q (.bl true) H'
theorem ok__law_needless_right (T : Top K mg) : Ok P w K mg base 8 "_law_needless_right" s__law_needless_right ["_law_some"] (sp_needless_right K) := by
  have G__law_fitting := ok__law_fitting (P := P) (w := w) (base := base) T
  have G__law_round := ok__law_round (P := P) (w := w) (base := base) T
  have G__law_fit := ok__law_fit (P := P) (w := w) (base := base) T
  have G_needless := ok_needless (P := P) (w := w) (base := base) T
  refine T.d__law_needless_right.ok sc__law_needless_right (fun vs H Q E h => ?_) (fun f cdv A outer s H vs Q E hg hr h => ?_)
  · obtain ⟨a, fs, R, rfl, _⟩ := h
    rfl
  · obtain ⟨a, fs, R, rfl, hfa, dr, jn, q⟩ := h
    have hF := dr.facts
    have l0 := dr.pos
    have l1 := dr.lcm
    have l5 := dr.1
    have SL : 800000 < sizeLine := by decide
    refine ⟨_, (pss_cons (ps_par (i := 1) (j := 2) (by rfl) sc__law_needless_right.nd rfl rfl (by decide) rfl rfl (pa_cons (pe_g G__law_fitting (fun _ _ F => bd__law_fitting F) hg (hr.mono (by decide)) passL (by rfl) (pa_cons (pv 0) pa_nil)) (pa_cons (pe_lst pa_nil) pa_nil)) (by rfl))
    (pss_cons (ps_for (passes_of rfl) rfl (pi_range1 (by rfl) T.b_range (pa_cons (pe_callB (id := "len") (c_len rfl) (by rfl) T.b_len (by decide +kernel) (pa_cons (pv 0) pa_nil)) pa_nil)) (pg_name (i := 3) sc__law_needless_right.nd rfl (.inl rfl)) (pss_cons (ps_set (i := 4) sc__law_needless_right.nd rfl (.inr rfl) (pe_op (o_catA rfl) (pe_slice (s_tupA rfl) (pv 0) po_none (po_some (pv 3))) (pe_slice (s_tupA rfl) (pv 0) (po_some (pe_op op_add (pv 3) pe_int)) po_none)))
    (pss_one (ps_if (pt_cmpR (o_eqD rfl hr.units) (pe_lc (own := [("_law_x", 5)]) (by rfl) sc__law_needless_right.nd (pi_range1 (by rfl) T.b_range (pa_cons (pe_g G__law_round (fun _ _ F => bd__law_round F) hg (hr.mono (by decide)) passL (by rfl) (pa_cons (pv 0) pa_nil)) pa_nil)) (blkOk_by (own := [("_law_x", 5)]) (N := ["_law_some", "_law_fitting_here", "_law_due", "_law_k", "_law_less", "_law_x"]) (sc := defScope s__law_needless_right) (by decide +kernel)) (fun _ _ _ _ _ => (pg_name (i := 5) sc__law_needless_right.nd rfl (Or.inl rfl))) (fun _ _ _ _ _ => (pts_one (pt_val (pe_g G__law_fit (fun _ _ F => bd__law_fit F) hg (hr.mono (by decide)) passL (by rfl) (pa_cons (pv 4) (pa_cons (pv 5) pa_nil)))))) (fun _ _ _ _ _ => (pv 5))) (pv 1) (nomark _)) (pss_one (ps_expr (pe_bm PySem.F.plainAttrs_list PySem.F.slot_list_append PySem.F.type_list_append mt_append (pv 2) (pa_cons (pv 3) pa_nil)))) pss_nil))))
    (pss_one (ps_ret (pe_cmpR op_eqS (pe_callB (id := "repr") (c_repr rfl hg hr.units) (by rfl) T.b_repr (by decide +kernel) (pa_cons (pe_lst (pa_cons (pe_g G_needless (fun _ _ F => bd_needless F) hg (hr.mono (by decide)) passL (by rfl) (pa_cons (pv 0) pa_nil)) (pa_cons (pe_gk0 G_needless (fun _ _ F => kb_needless_2 F) hg (hr.mono (by decide)) passL (by rfl) (pk_cons (pv 0) pk_nil)) pa_nil))) pa_nil)) (pe_callB (id := "repr") (c_repr rfl hg hr.units) (by rfl) T.b_repr (by decide +kernel) (pa_cons (pe_op op_rep (pe_lst (pa_cons (pe_callTy (T := "tuple") (c_tuple rfl) (by rfl) T.b_tuple (by decide +kernel) (pa_cons (pv 2) pa_nil)) pa_nil)) pe_int) pa_nil)) (nomark _)))))), ?_⟩
    walk_at "st"
    refine ⟨a, fs, rfl, FactsAt.seq hfa, dr, fun F1 H1 s1 n1 e1 => ?_⟩
    rw [fitN_one hF.2 jn] at e1
    obtain ⟨vs, sv, pvs⟩ := hfa.tt (Same.tt s1)
    have ev := pvs.length
    walk_at "go"
    rename_i Dl hDl
    refine ⟨by omega, by omega, ?_⟩
    rw [show (vs.length : Int).toNat = vs.length from rfl, ev]
    refine r_forR (fun i σ H' => ∃ x3 x4, σ = [some (.ref a), some (.ref F1), some (.ref Dl), x3, x4, none] ∧ Same H1 H' ∧ H' Dl = some (.lst ((ndN fs i).map V.int)))
      ⟨_, _, rfl, Same.new hDl, upd_same⟩ (fun i σ H' hi hP => ?_) (fun σ H' hP => ?_)
    · obtain ⟨x3, x4, rfl, s2, d2⟩ := hP
      have li := ndN_len fs i
      have ef := ndN_succ fs i
      have iff := needless_iff hF.2 jn hi
      walk_at "go"
      rw [Int.zero_add]
      refine r_slA (Same.tup s2 sv) fun c1 H3 s3 e3 => ?_
      rw [cut_til] at e3
      walk_at "go"
      rw [show ((i : Int) + 1) = ((i + 1 : Nat) : Int) from rfl]
      refine r_slA (Same.tup (s2.trans s3) sv) fun c2 H4 s4 e4 => ?_
      rw [cut_from (by omega)] at e4
      walk_at "go"
      refine r_catA (Same.tup s4 e3) e4 (by rw [List.length_take, List.length_drop]; omega) fun c3 H5 s5 e5 => ?_
      have s25 := s3.trans (s4.trans s5)
      have s15 := s2.trans s25
      have hl : FactsAt K H5 c3 (fs.take i ++ fs.drop (i + 1)) := ⟨_, e5, PairsAt.append (pairs_take i (pvs.tt (Same.tt s15))) (pairs_drop (i + 1) (pvs.tt (Same.tt s15)))⟩
      have dl := dr_less dr i
      have d5 := s25 _ _ d2
      have e1' := s15 _ _ e1
      have hfa5 : FactsAt K H5 a fs := ⟨vs, Same.tup s15 sv, pvs.tt (Same.tt s15)⟩
      generalize fs.take i ++ fs.drop (i + 1) = ls at *
      walk_at "go"
      walk_at "gi"
      refine ⟨a, fs, rfl, FactsAt.seq hfa5, hF, ?_⟩
      walk_at "gi"
      refine ⟨by omega, by omega, ?_⟩
      rw [Int.toNat_natCast]
      refine r_lcR (fun D j H' => Same H5 H' ∧ H' D = some (.lst ((fitN ls j).map V.int))) (fun D hD => ⟨Same.new hD, upd_same⟩) (fun D j H' hD hj hP => ?_) (fun D H' hD hP => ?_)
      · obtain ⟨s6, d6⟩ := hP
        have lj := fitN_len ls j
        walk_at "go"
        refine ⟨rfl, ?_⟩
        walk_at "go"
        rw [Int.zero_add] at *
        refine ⟨c3, ls, _, rfl, (FactsAt.seq hl).same s6, dl, fun H7 s7 => ?_⟩
        walk_at "go"
        have efj := fitN_succ ls j
        cases hb : (ls.all fun p => decide (((j : Int) - p.1) % p.2 = 0)) with
        | true =>
          rw [if_pos hb] at efj
          walk_at "go"
          refine ⟨_, s7 _ _ d6, by rw [List.length_map]; omega, fun b o e => ?_, ?_⟩
          · rw [upd_ne (ne_of_none e hD)]
            exact s7 _ _ (s6 _ _ e)
          · rw [efj, List.map_append]
            exact upd_same
        | false =>
          rw [if_neg (by rw [hb]; decide), List.append_nil] at efj
          refine ⟨s6.trans s7, ?_⟩
          rw [efj]
          exact s7 _ _ d6
      · obtain ⟨s6, d6⟩ := hP
        walk_at "go"
        refine r_eqI (fitN ls (lcmAll fs)) [R] (SqL.of d6) (SqL.of (s6 _ _ e1')) ?_
        rw [iff]
        refine ⟨_, rfl, ?_⟩
        have d7 := s6 _ _ d5
        have s17 := s15.trans s6
        cases hb : ndB fs i with
        | true =>
          rw [if_pos hb] at ef
          rw [if_pos rfl]
          walk_at "gi"
          refine ⟨.inl ⟨rfl, _, SqL.of d7⟩, ?_⟩
          walk_at "gi"
          refine r_app d7 (by rw [List.length_map]; omega) ?_
          walk_at "gi"
          refine ⟨fun b o e => ?_, ?_⟩
          · rw [upd_ne (ne_of_none e hDl)]
            exact s17 _ _ e
          · rw [ef, List.map_append]
            exact upd_same
        | false =>
          rw [if_neg (by rw [hb]; decide), List.append_nil] at ef
          rw [if_neg (by decide)]
          walk_at "gi"
          refine ⟨s17, ?_⟩
          rw [ef]
          exact d7
    · obtain ⟨x3, x4, rfl, s2, d2⟩ := hP
      have li := ndN_len fs fs.length
      have bd : ∀ n ∈ ndN fs fs.length, n.natAbs < 2 ^ 1900 := fun n hn => by
        have big : 5 < 2 ^ 1900 := Nat.lt_of_lt_of_le (by decide : 5 < 2 ^ 3) (Nat.pow_le_pow_right (by decide) (by decide))
        unfold ndN at hn
        obtain ⟨i, hi, rfl⟩ := List.mem_map.mp hn
        have := List.mem_range.mp (List.mem_filter.mp hi).1
        exact Nat.lt_of_le_of_lt (show ((i : Nat) : Int).natAbs ≤ 5 by omega) big
      have hfa2 : FactsAt K H' a fs := ⟨vs, Same.tup s2 sv, pvs.tt (Same.tt s2)⟩
      have q0 := qall_of_fits hF.2 jn.fits
      walk_at "go"
      refine ⟨a, fs, rfl, hfa2, hF, q0, fun t1 H3 s3 n3 e3 => ?_⟩
      walk_at "go"
      refine ⟨a, fs, rfl, hfa2.tt (Same.tt s3), hF, q0, fun t2 H4 s4 n4 e4 => ?_⟩
      walk_at "go"
      rename_i L1 hL1
      refine r_reprTT (ndN fs fs.length) (ndN fs fs.length) (SqL.of upd_same) (SqT.of (at_new hL1 (s4 _ _ e3))) (SqT.of (at_new hL1 e4)) bd bd (by omega) (by omega) ?_
      have d5 := (s3.trans (s4.trans (Same.new hL1 (o := .lst [.ref t1, .ref t2])))) _ _ d2
      have s5 : Same H (upd H4 L1 (.lst [.ref t1, .ref t2])) := s1.trans (s2.trans (s3.trans (s4.trans (Same.new hL1))))
      generalize upd H4 L1 (.lst [.ref t1, .ref t2]) = H5 at *
      walk_at "go"
      refine r_tupL (SqL.of d5) fun t3 ht3 => ?_
      walk_at "go"
      rename_i M2 hM2
      refine r_rep upd_same (by decide) (by decide) (Nat.le_of_ble_eq_true rfl) fun L3 hL3 => ?_
      rw [show (List.replicate (Int.toNat 2) [V.ref t3]).flatten = [V.ref t3, V.ref t3] from rfl]
      walk_at "go"
      have e6 : upd (upd (upd H5 t3 (.tup ((ndN fs fs.length).map V.int))) M2 (.lst [.ref t3])) L3 (.lst [.ref t3, .ref t3]) t3 = some (.tup ((ndN fs fs.length).map V.int)) := at_new hL3 (at_new hM2 upd_same)
      refine r_reprTT (ndN fs fs.length) (ndN fs fs.length) (SqL.of upd_same) (SqT.of e6) (SqT.of e6) bd bd (by omega) (by omega) ?_
      walk_at "go"
      rw [decide_eq_true rfl]
      exact q _ (s5.trans ((Same.new ht3).trans ((Same.new hM2).trans (Same.new hL3))))
end
section
variable {P : Program} {w : World} {K : PySem.W.Frag} {mg : Str → Option Value} {base : Heap}
/-! ### all of it -/
def sp_right (K : PySem.W.Frag) : Sp := fun vs H Q _ => ∃ k : Addr, vs = [.ref k] ∧ Jug 1 k H ∧ ∀ H', Kx k H H' → Q (.bl true) H'
theorem ok__law_right (T : Top K mg) : Ok P w K mg base 9 "_law_right" s__law_right ["_law_jug_here"] (sp_right K) := by
  have G__law_pour := ok__law_pour (P := P) (w := w) (base := base) T
  have G__law_pairs_of := ok__law_pairs_of (P := P) (w := w) (base := base) T
  have G__law_rest_right := ok__law_rest_right (P := P) (w := w) (base := base) T
  have G__law_one_of := ok__law_one_of (P := P) (w := w) (base := base) T
  have G__law_needless_right := ok__law_needless_right (P := P) (w := w) (base := base) T
  have G__law_fact_right := ok__law_fact_right (P := P) (w := w) (base := base) T
  have G_tells := ok_tells (P := P) (w := w) (base := base) T
  refine T.d__law_right.ok sc__law_right (fun vs H Q E h => ?_) (fun f cdv A outer s H vs Q E hg hr h => ?_)
  · obtain ⟨k, rfl, _⟩ := h
    rfl
  · obtain ⟨k, rfl, hk, q⟩ := h
    have E58 := e58
    have E60 := e60
    have E62 := e62
    refine ⟨_, (pss_cons (ps_set (i := 1) sc__law_right.nd rfl (.inl rfl) (pe_g G__law_pour (fun _ _ F => bd__law_pour F) hg (hr.mono (by decide)) passL (by rfl) (pa_cons (pv 0) (pa_cons pe_int pa_nil))))
    (pss_cons (ps_set (i := 2) sc__law_right.nd rfl (.inr rfl) (pe_g G__law_pairs_of (fun _ _ F => bd__law_pairs_of F) hg (hr.mono (by decide)) passL (by rfl) (pa_cons (pv 0) (pa_cons (pv 1) (pa_cons pe_int pa_nil)))))
    (pss_cons (ps_if (pt_cmpR (o_neD rfl hr.units) (pe_lc (own := [("_law_by", 3)]) (by rfl) sc__law_right.nd (i_list rfl (pe_lst (pa_cons pe_int (pa_cons pe_int (pa_cons pe_int (pa_cons pe_int (pa_cons pe_int (pa_cons pe_int (pa_cons pe_int (pa_cons pe_int (pa_cons pe_int pa_nil))))))))))) (blkOk_by (own := [("_law_by", 3)]) (N := ["_law_jug_here", "_law_x", "_law_some", "_law_by", "_law_wide", "_law_turn", "_law_r"]) (sc := defScope s__law_right) (by decide +kernel)) (fun _ _ _ _ _ => (pg_name (i := 3) sc__law_right.nd rfl (Or.inl rfl))) (fun _ _ _ _ _ => (pts_one (pt_not (pt_val (pe_g G__law_rest_right (fun _ _ F => bd__law_rest_right F) hg (hr.mono (by decide)) passL (by rfl) (pa_cons (pv 2) (pa_cons (pv 3) pa_nil))))))) (fun _ _ _ _ _ => (pv 3))) (pe_lst pa_nil) (nomark _)) (pss_one (ps_ret pe_bl)) pss_nil)
    (pss_cons (ps_set (i := 4) sc__law_right.nd rfl (.inl rfl) (pe_g G__law_one_of (fun _ _ F => bd__law_one_of F) hg (hr.mono (by decide)) passL (by rfl) (pa_cons (pv 0) (pa_cons (pe_lst (pa_cons pe_int (pa_cons pe_int (pa_cons pe_int (pa_cons pe_int (pa_cons pe_int (pa_cons pe_int (pa_cons pe_int (pa_cons pe_int (pa_cons pe_int pa_nil)))))))))) pa_nil))))
    (pss_cons (ps_if (PW.pt (pw_or (pt_not (pt_val (pe_g G__law_rest_right (fun _ _ F => bd__law_rest_right F) hg (hr.mono (by decide)) passL (by rfl) (pa_cons (pv 2) (pa_cons (pv 4) pa_nil))))) (pw_or1 (pt_not (pt_val (pe_g G__law_needless_right (fun _ _ F => bd__law_needless_right F) hg (hr.mono (by decide)) passL (by rfl) (pa_cons (pv 2) pa_nil))))))) (pss_one (ps_ret pe_bl)) pss_nil)
    (pss_cons (ps_for (passes_of rfl) rfl (pi_range1 (by rfl) T.b_range (pa_cons pe_int pa_nil)) (pg_name (i := 5) sc__law_right.nd rfl (.inl rfl)) (pss_cons (ps_set (i := 3) sc__law_right.nd rfl (.inl rfl) (pe_g G__law_one_of (fun _ _ F => bd__law_one_of F) hg (hr.mono (by decide)) passL (by rfl) (pa_cons (pv 0) (pa_cons (pe_lst (pa_cons pe_int (pa_cons pe_int (pa_cons pe_int (pa_cons pe_int (pa_cons pe_int (pa_cons pe_int (pa_cons pe_int (pa_cons pe_int (pa_cons pe_int (pa_cons pe_int pa_nil))))))))))) pa_nil))))
    (pss_cons (ps_set (i := 6) sc__law_right.nd rfl (.inl rfl) (pe_ifExp (pt_cmpR op_gt (pe_g G__law_pour (fun _ _ F => bd__law_pour F) hg (hr.mono (by decide)) passL (by rfl) (pa_cons (pv 0) (pa_cons pe_int pa_nil))) pe_int (nomark _)) (pe_op op_mod (pv 1) (pv 3)) (pe_g G__law_pour (fun _ _ F => bd__law_pour F) hg (hr.mono (by decide)) passL (by rfl) (pa_cons (pv 0) (pa_cons (pv 3) pa_nil)))))
    (pss_one (ps_if (pt_not (pt_val (pe_g G__law_fact_right (fun _ _ F => bd__law_fact_right F) hg (hr.mono (by decide)) passL (by rfl) (pa_cons (pv 2) (pa_cons (pe_tup (pa_cons (pv 6) (pa_cons (pv 3) pa_nil))) pa_nil))))) (pss_one (ps_ret pe_bl)) pss_nil)))))
    (pss_one (ps_ret (pe_and (pe_g G__law_needless_right (fun _ _ F => bd__law_needless_right F) hg (hr.mono (by decide)) passL (by rfl) (pa_cons (pe_op (o_catA rfl) (pv 2) (pe_slice (s_tupA rfl) (pv 2) po_none (po_some pe_int))) pa_nil)) (pe_and (pe_g G_tells (fun _ _ F => bd_tells F) hg (hr.mono (by decide)) passL (by rfl) (pa_cons (pe_tup pa_nil) (pa_cons (pe_tup (pa_cons pe_int (pa_cons pe_int pa_nil))) pa_nil))) (pe_one (pe_not (pe_g G_tells (fun _ _ F => bd_tells F) hg (hr.mono (by decide)) passL (by rfl) (pa_cons (pe_tup pa_nil) (pa_cons (pe_tup (pa_cons pe_int (pa_cons pe_int pa_nil))) pa_nil))))))))))))))), ?_⟩
    walk_at "st"
    refine i_pour 1 hk (by omega) (by omega) (by omega) fun x H1 x0 x1 y1 k1 => ?_
    walk_at "go"
    refine ⟨k, x, 4, 2, rfl, k1, by omega, by omega, fun a fs H2 y2 na dr hx l4 hfa k2 => ?_⟩
    have jn := Jn.of_fits (R := 0) dr.facts.2 hx
    generalize x % (lcmAll fs : Int) = R at jn
    obtain ⟨vs, sv, pvs⟩ := id hfa
    have ev := pvs.length
    have l5 := dr.1
    walk_at "go"
    walk_at "gi"
    rename_i t1 ht1
    have mem9 : ∀ v ∈ ([.int 1, .int 2, .int 3, .int 4, .int 6, .int 8, .int 9, .int 10, .int 12] : List V), ∃ b : Nat, v = .int (b : Int) ∧ 1 ≤ b ∧ b ≤ 36 := by
      intro v hv
      simp only [List.mem_cons, List.not_mem_nil, or_false] at hv
      rcases hv with e | e | e | e | e | e | e | e | e
      · exact ⟨1, e, by decide, by decide⟩
      · exact ⟨2, e, by decide, by decide⟩
      · exact ⟨3, e, by decide, by decide⟩
      · exact ⟨4, e, by decide, by decide⟩
      · exact ⟨6, e, by decide, by decide⟩
      · exact ⟨8, e, by decide, by decide⟩
      · exact ⟨9, e, by decide, by decide⟩
      · exact ⟨10, e, by decide, by decide⟩
      · exact ⟨12, e, by decide, by decide⟩
    have x02 : Kx k H H2 := y1.trans y2
    have eT : upd H2 t1 (.lst [.int 1, .int 2, .int 3, .int 4, .int 6, .int 8, .int 9, .int 10, .int 12]) t1 = some (.lst [.int 1, .int 2, .int 3, .int 4, .int 6, .int 8, .int 9, .int 10, .int 12]) := upd_same
    have s1 : Same H2 (upd H2 t1 (.lst [.int 1, .int 2, .int 3, .int 4, .int 6, .int 8, .int 9, .int 10, .int 12])) := Same.new ht1
    generalize upd H2 t1 (.lst [.int 1, .int 2, .int 3, .int 4, .int 6, .int 8, .int 9, .int 10, .int 12]) = H3 at *
    have hfa3 := hfa.tt (Same.tt s1)
    refine r_lcLs [.int 1, .int 2, .int 3, .int 4, .int 6, .int 8, .int 9, .int 10, .int 12] (fun D i H' => Same H3 H' ∧ H' D = some (.lst [])) (fun D hD => ⟨Same.new hD, upd_same⟩) (fun D i H' hD hi hP => ?_) (fun D i v H' hD hi hP => ?_) (fun D H' hD hP => ?_)
    · exact SqL.of (hP.1 _ _ eT)
    · obtain ⟨s2, d2⟩ := hP
      obtain ⟨b, rfl, b1, b2⟩ := mem9 v (List.mem_of_getElem? hi)
      walk_at "go"
      refine ⟨rfl, ?_⟩
      walk_at "go"
      refine ⟨a, fs, R, b, rfl, hfa3.tt (Same.tt s2), dr, jn, b1, b2, fun H4 s4 => ?_⟩
      walk_at "go"
      exact ⟨s2.trans s4, s4 _ _ d2⟩
    obtain ⟨s2, d2⟩ := hP
    walk_at "gi"
    rename_i e1 he1
    refine r_neI [] [] (SqL.of (at_new he1 d2)) (SqL.of upd_same) ?_
    rw [decide_eq_true rfl]
    refine ⟨_, rfl, ?_⟩
    rw [if_neg (by decide)]
    have sA : Same H2 (upd H' e1 (.lst [])) := s1.trans (s2.trans (Same.new he1))
    generalize upd H' e1 (.lst []) = H4 at *
    have k4 := k2.same sA
    have x04 := x02.same sA
    have hfa4 := hfa.tt (Same.tt sA)
    walk_at "gi"
    rename_i t2 ht2
    refine i_one_of 22 (([5, 7, 15, 16, 18, 20, 24, 30, 36] : List Int).map V.int) (k4.new ht2) (by omega) (k4.ne ht2) (SqL.of upd_same) (by decide) (by decide) fun j v H5 hj y5 k5 => ?_
    rw [List.getElem?_map, Option.map_eq_some_iff] at hj
    obtain ⟨w0, hw, rfl⟩ := hj
    obtain ⟨w1, w2⟩ := (by decide : ∀ z ∈ ([5, 7, 15, 16, 18, 20, 24, 30, 36] : List Int), 1 ≤ z ∧ z ≤ 36) w0 (List.mem_of_getElem? hw)
    obtain ⟨wb, rfl⟩ := Int.eq_ofNat_of_zero_le (show 0 ≤ w0 by omega)
    have x05 : Kx k H H5 := (x04.same (Same.new ht2)).trans y5
    have hfa5 := (hfa4.tt (new_tt ht2)).tt ((k4.new ht2).tt y5)
    walk_at "gi"
    refine ⟨a, fs, R, wb, rfl, hfa5, dr, jn, by omega, by omega, fun H6 s6 => ?_⟩
    walk_at "gi"
    refine ⟨a, fs, R, rfl, hfa5.tt (Same.tt s6), dr, jn, fun H7 s7 => ?_⟩
    have k7 := (k5.same s6).same s7
    have x07 := (x05.same s6).same s7
    have hfa7 := (hfa5.tt (Same.tt s6)).tt (Same.tt s7)
    walk_at "gi"
    refine ⟨by decide, by decide, ?_⟩
    rw [show Int.toNat 6 = 6 from rfl]
    refine r_forR (fun i σ H' => ∃ x3 x5 x6, σ = [some (.ref k), some (.int x), some (.ref a), x3, some (.int (wb : Int)), x5, x6] ∧ Kx k H H' ∧ Jug (23 + 3 * i) k H' ∧ FactsAt K H' a fs)
      ⟨_, _, _, rfl, x07, k7, hfa7⟩ (fun i σ H' hi hP => ?_) (fun σ H' hP => ?_)
    · obtain ⟨x3, x5, x6, rfl, xx, kk, ff⟩ := hP
      have i6 : i < 6 := hi
      walk_at "gi"
      rename_i t3 ht3
      refine i_one_of (23 + 3 * i) (([1, 2, 3, 4, 5, 6, 8, 12, 24, 30] : List Int).map V.int) (kk.new ht3) (by omega) (kk.ne ht3) (SqL.of upd_same) (by decide) (by decide) fun j2 v2 H8 hj2 y8 k8 => ?_
      rw [List.getElem?_map, Option.map_eq_some_iff] at hj2
      obtain ⟨c0, hc, rfl⟩ := hj2
      obtain ⟨c1, c2⟩ := (by decide : ∀ z ∈ ([1, 2, 3, 4, 5, 6, 8, 12, 24, 30] : List Int), 1 ≤ z ∧ z ≤ 36) c0 (List.mem_of_getElem? hc)
      obtain ⟨cb, rfl⟩ := Int.eq_ofNat_of_zero_le (show 0 ≤ c0 by omega)
      have f8 := (ff.tt (new_tt ht3)).tt ((kk.new ht3).tt y8)
      have x8 : Kx k H H8 := (xx.same (Same.new ht3)).trans y8
      walk_at "gi"
      refine i_pour (23 + 3 * i + 1) k8 (by omega) (by omega) (by omega) fun z H9 z0 z1 y9 k9 => ?_
      have f9 := f8.tt (k8.tt y9)
      have x9 := x8.trans y9
      walk_at "gi"
      refine ifd (fun c => ?_) (fun c => ?_)
      · walk_at "gi"
        refine r_rI (by omega) ?_
        have r0 := Int.emod_nonneg x (show (cb : Int) ≠ 0 by omega)
        have r1 := Int.emod_lt_of_pos x (show (0 : Int) < (cb : Int) by omega)
        generalize x % (cb : Int) = rr at *
        walk_at "gi"
        rename_i tf htf
        refine ⟨a, tf, fs, R, rr, cb, rfl, f9.tt (new_tt htf), dr, jn, SqT.of upd_same, by omega, by omega, by omega, by omega, fun H10 s10 => ?_⟩
        walk_at "gi"
        exact ⟨(x9.same (Same.new htf)).same s10, ((k9.new htf).same s10).mono (by omega), (f9.tt (new_tt htf)).tt (Same.tt s10)⟩
      · walk_at "gi"
        refine i_pour (23 + 3 * i + 2) k9 (by omega) (by omega) (by omega) fun rr H11 r0 r1 y11 k11 => ?_
        have f11 := f9.tt (k9.tt y11)
        have x11 := x9.trans y11
        walk_at "gi"
        rename_i tf htf
        refine ⟨a, tf, fs, R, rr, cb, rfl, f11.tt (new_tt htf), dr, jn, SqT.of upd_same, by omega, by omega, by omega, by omega, fun H10 s10 => ?_⟩
        walk_at "gi"
        exact ⟨(x11.same (Same.new htf)).same s10, ((k11.new htf).same s10).mono (by omega), (f11.tt (new_tt htf)).tt (Same.tt s10)⟩
    · obtain ⟨x3, x5, x6, rfl, xx, kk, ff⟩ := hP
      walk_at "gi"
      obtain ⟨ws, sw, pws⟩ := id ff
      have lw := pws.length
      refine r_slA sw fun c1 H3 s3 e3 => ?_
      rw [show cutV ws none (some 1) = ws.take 1 from cut_til 1] at e3
      walk_at "gi"
      refine r_catA (Same.tup s3 sw) e3 (by rw [List.length_take]; omega) fun c2 H4 s4 e4 => ?_
      have s34 := s3.trans s4
      have dr2 : Dr (fs ++ fs.take 1) := by
        refine ⟨by rw [List.length_append, List.length_take]; omega, fun p hp => ?_⟩
        rcases List.mem_append.mp hp with z | z
        · exact dr.2 p z
        · exact dr.2 p (List.mem_of_mem_take z)
      have hx2 : Fits R (fs ++ fs.take 1) := fun p hp => by
        rcases List.mem_append.mp hp with z | z
        · exact jn.fits p z
        · exact jn.fits p (List.mem_of_mem_take z)
      walk_at "gi"
      refine ⟨c2, fs ++ fs.take 1, _, rfl, ⟨_, e4, PairsAt.append (pws.tt (Same.tt s34)) (pairs_take 1 (pws.tt (Same.tt s34)))⟩, dr2, Jn.of_fits (R := 0) dr2.facts.2 hx2, fun H5 s5 => ?_⟩
      have s35 := s34.trans s5
      walk_at "gi"
      rename_i u1 hu1 u2 hu2
      have d0 : Facts [] := ⟨by decide, fun _ h => nomatch h⟩
      refine ⟨u1, [], 0, .ref u2, (0, 1), rfl, ⟨[], SqT.of (at_new hu2 upd_same), .nil⟩, d0, Vf.Jn.nil, ⟨u2, rfl, SqT.of upd_same⟩, ⟨by decide, by decide, by decide, by decide⟩, fun H6 s6 => ?_⟩
      have s56 : Same H5 H6 := (Same.new hu1).trans ((Same.new hu2).trans s6)
      rw [show (decide (((lcmAll [] : Nat) : Int) % ((0, 1) : Int × Int).2 = 0) && decide ((0 - ((0, 1) : Int × Int).1) % ((0, 1) : Int × Int).2 = 0)) = true from rfl]
      walk_at "gi"
      rename_i u3 hu3 u4 hu4
      refine ⟨u3, [], 0, .ref u4, (0, 2), rfl, ⟨[], SqT.of (at_new hu4 upd_same), .nil⟩, d0, Vf.Jn.nil, ⟨u4, rfl, SqT.of upd_same⟩, ⟨by decide, by decide, by decide, by decide⟩, fun H7 s7 => ?_⟩
      rw [show (decide (((lcmAll [] : Nat) : Int) % ((0, 2) : Int × Int).2 = 0) && decide ((0 - ((0, 2) : Int × Int).1) % ((0, 2) : Int × Int).2 = 0)) = false from rfl]
      walk_at "gi"
      exact q _ (xx.same (s35.trans (s56.trans ((Same.new hu3).trans ((Same.new hu4).trans s7)))))
end
section
variable {P : Program} {w : World} {K : PySem.W.Frag} {mg : Str → Option Value} {base : Heap}
/-! ### the law -/
def sp_law (K : PySem.W.Frag) : Sp := fun vs H Q _ => ∃ (c : Addr) (ns : List Int), vs = [.ref c] ∧ SqL K H c (ns.map V.int) ∧ Script ns ∧ ∀ H', Q (.bl true) H'
theorem ok_law (T : Top K mg) : Ok P w K mg base 10 "law" s_law ["_law_script"] (sp_law K) := by
  have G__law_right := ok__law_right (P := P) (w := w) (base := base) T
  have G__law_jug := ok__law_jug (P := P) (w := w) (base := base) T
  refine T.d_law.ok sc_law (fun vs H Q E h => ?_) (fun f cdv A outer s H vs Q E hg hr h => ?_)
  · obtain ⟨c, ns, rfl, _⟩ := h
    rfl
  · obtain ⟨c, ns, rfl, hs, hn, q⟩ := h
    refine ⟨_, (pss_one (ps_ret (pe_callB (id := "all") (c_all rfl rfl) (by rfl) T.b_all (by decide +kernel) (pa_cons (pe_lc (own := [("_law_turn", 1)]) (by rfl) sc_law.nd (pi_range1 (by rfl) T.b_range (pa_cons (pe_callB (id := "max") (c_max2 rfl) (by rfl) T.b_max (by decide +kernel) (pa_cons pe_int (pa_cons (pe_callB (id := "min") (c_min2 rfl) (by rfl) T.b_min (by decide +kernel) (pa_cons (pe_callB (id := "len") (c_len rfl) (by rfl) T.b_len (by decide +kernel) (pa_cons (pv 0) pa_nil)) (pa_cons pe_int pa_nil))) pa_nil))) pa_nil)) (blkOk_by (own := [("_law_turn", 1)]) (N := ["_law_script", "_law_turn"]) (sc := defScope s_law) (by decide +kernel)) (fun _ _ _ _ _ => (pg_name (i := 1) sc_law.nd rfl (Or.inl rfl))) (fun _ _ _ _ _ => pts_nil) (fun _ _ _ _ _ => (pe_g G__law_right (fun _ _ F => bd__law_right F) hg (hr.mono (by decide)) passL (by rfl) (pa_cons (pe_g G__law_jug (fun _ _ F => bd__law_jug F) hg (hr.mono (by decide)) passL (by rfl) (pa_cons (pv 0) (pa_cons (pv 1) pa_nil))) pa_nil)))) pa_nil)))), ?_⟩
    walk_at "st"
    have E62 := e62
    rw [List.length_map]
    refine ⟨by omega, by omega, ?_⟩
    have hm : (max 2 (min (ns.length : Int) 4)).toNat ≤ 4 := by omega
    generalize (max 2 (min (ns.length : Int) 4)).toNat = m at *
    refine r_lcR (fun D i H' => Same H H' ∧ H' D = some (.lst ((List.replicate i true).map V.bl))) (fun D hD => ⟨Same.new hD, upd_same⟩) (fun D i H' hD hi hP => ?_) (fun D H' hD hP => ?_)
    · obtain ⟨s1, d1⟩ := hP
      walk_at "go"
      refine ⟨rfl, ?_⟩
      walk_at "go"
      rw [Int.zero_add]
      refine i_jug ns i (Same.list s1 hs) hn (by omega) fun p H2 s2 n2 k2 => ?_
      have npD : D ≠ p := ne_of_none d1 n2
      walk_at "go"
      refine ⟨p, rfl, k2, fun H3 x3 => ?_⟩
      have d3 : H3 D = some (.lst ((List.replicate i true).map V.bl)) := x3 _ _ npD (s2 _ _ d1)
      refine ⟨_, d3, ?_, fun b o e => ?_, ?_⟩
      · rw [List.length_map, List.length_replicate]
        exact Nat.lt_of_le_of_lt (show i ≤ 4 by omega) (by decide)
      · have nb : b ≠ D := ne_of_none e hD
        have e1 := s1 _ _ e
        rw [upd_ne nb]
        exact x3 _ _ (ne_of_none e1 n2) (s2 _ _ e1)
      · rw [upd_same, List.replicate_succ', List.map_append]
        rfl
    obtain ⟨s1, d1⟩ := hP
    refine r_all (SqL.of d1) ?_
    rw [show (List.replicate m true).all id = true by simp]
    exact q _
end
end K08
open PySem PySem.W PyProof.Rows
set_option maxHeartbeats 0 in
theorem PySem.Challenge.cw_restworld_k08_whole_what_facts_tell_holds : PySem.Challenge.rw_restworld_k08_whole_what_facts_tell.Holds := by
  w_on; o_law; k_head; (case hw => w_witness2)
  k_fill
  refine Vf.walk_g (l := PySem.Challenge.rw_restworld_k08_whole_what_facts_tell) (n := 63) (k := 10) (y := "_law_script") (st := K08.s_law) (sp := K08.sp_law) rfl (by decide) rfl ⟨rfl, by decide, by decide⟩ (fun w h Y => PySem.W.kIn_of Y) ?F (fun w f fd G => K08.bd_law G) (fun w H a ns hl hb hS => ⟨a, ns, rfl, hS, ⟨hl, hb⟩, fun _ => rfl⟩)
  case F =>
    intro w mg h KX G base kb gb
    refine' K08.ok_law (K08.top_mk KX G ?a0 ?l0 ?c0 ?k0 ?a1 ?l1 ?c1 ?k1 ?a2 ?l2 ?c2 ?k2 ?a3 ?l3 ?c3 ?k3 ?a4 ?l4 ?c4 ?k4 ?a5 ?l5 ?c5 ?k5 ?a6 ?l6 ?c6 ?k6 ?a7 ?l7 ?c7 ?k7 ?a8 ?l8 ?c8 ?k8 ?a9 ?l9 ?c9 ?k9 ?a10 ?l10 ?c10 ?k10 ?a11 ?l11 ?c11 ?k11 ?a12 ?l12 ?c12 ?k12 ?a13 ?l13 ?c13 ?k13 ?a14 ?l14 ?c14 ?k14 ?a15 ?l15 ?c15 ?k15 ?a16 ?l16 ?c16 ?k16 ?a17 ?l17 ?c17 ?k17 ?a18 ?l18 ?c18 ?k18 ?a19 ?l19 ?c19 ?k19 ?a20 ?l20 ?c20 ?k20 ?a21 ?l21 ?c21 ?k21 ?a22 ?l22 ?c22 ?k22 ?a23 ?l23 ?c23 ?k23 ?a24 ?l24 ?c24 ?k24 ?a25 ?l25 ?c25 ?k25 ?a26 ?l26 ?c26 ?k26 ?a27 ?l27 ?c27 ?k27 ?a28 ?l28 ?c28 ?k28 ?a29 ?l29 ?c29 ?k29 ?a30 ?l30 ?c30 ?k30 ?a31 ?l31 ?c31 ?k31 ?a32 ?l32 ?c32 ?k32 ?a33 ?l33 ?c33 ?k33 ?a34 ?l34 ?c34 ?k34 ?a35 ?l35 ?c35 ?k35 ?a36 ?l36 ?c36 ?k36 ?a37 ?l37 ?c37 ?k37 ?a38 ?l38 ?c38 ?k38 ?a39 ?l39 ?c39 ?k39 ?a40 ?l40 ?c40 ?k40 ?a41 ?l41 ?c41 ?k41 ?m_gcd ?m_lcm ?q_MOST_FACT ?q_MOST_BASE ?q_MOST_FACTS ?b_abs ?b_all ?b_bool ?b_divmod ?b_enumerate ?b_int ?b_isinstance ?b_len ?b_max ?b_min ?b_range ?b_repr ?b_set ?b_sorted ?b_tuple ?g_Quarrel ?l_Quarrel ?t_Quarrel ?s_Quarrel ?ga_Quarrel ?gg_Quarrel ?b_Quarrel ?h_Quarrel ?ty_Quarrel ?kp_Quarrel ?n_Quarrel_first ?n_Quarrel_second ?i_Quarrel ?ti_Quarrel ?li_Quarrel ?ci_Quarrel ?ki_Quarrel ?e_Quarrel_Quarrel)
    (case a0 => k_is)
    (case l0 => k_is)
    (case c0 => k_is)
    (case k0 => k_is)
    (case a1 => k_is)
    (case l1 => k_is)
    (case c1 => k_is)
    (case k1 => k_is)
    (case a2 => k_is)
    (case l2 => k_is)
    (case c2 => k_is)
    (case k2 => k_is)
    (case a3 => k_is)
    (case l3 => k_is)
    (case c3 => k_is)
    (case k3 => k_is)
    (case a4 => k_is)
    (case l4 => k_is)
    (case c4 => k_is)
    (case k4 => k_is)
    (case a5 => k_is)
    (case l5 => k_is)
    (case c5 => k_is)
    (case k5 => k_is)
    (case a6 => k_is)
    (case l6 => k_is)
    (case c6 => k_is)
    (case k6 => k_is)
    (case a7 => k_is)
    (case l7 => k_is)
    (case c7 => k_is)
    (case k7 => k_is)
    (case a8 => k_is)
    (case l8 => k_is)
    (case c8 => k_is)
    (case k8 => k_is)
    (case a9 => k_is)
    (case l9 => k_is)
    (case c9 => k_is)
    (case k9 => k_is)
    (case a10 => k_is)
    (case l10 => k_is)
    (case c10 => k_is)
    (case k10 => k_is)
    (case a11 => k_is)
    (case l11 => k_is)
    (case c11 => k_is)
    (case k11 => k_is)
    (case a12 => k_is)
    (case l12 => k_is)
    (case c12 => k_is)
    (case k12 => k_is)
    (case a13 => k_is)
    (case l13 => k_is)
    (case c13 => k_is)
    (case k13 => k_is)
    (case a14 => k_is)
    (case l14 => k_is)
    (case c14 => k_is)
    (case k14 => k_is)
    (case a15 => k_is)
    (case l15 => k_is)
    (case c15 => k_is)
    (case k15 => k_is)
    (case a16 => k_is)
    (case l16 => k_is)
    (case c16 => k_is)
    (case k16 => k_is)
    (case a17 => k_is)
    (case l17 => k_is)
    (case c17 => k_is)
    (case k17 => k_is)
    (case a18 => k_is)
    (case l18 => k_is)
    (case c18 => k_is)
    (case k18 => k_is)
    (case a19 => k_is)
    (case l19 => k_is)
    (case c19 => k_is)
    (case k19 => k_is)
    (case a20 => k_is)
    (case l20 => k_is)
    (case c20 => k_is)
    (case k20 => k_is)
    (case a21 => k_is)
    (case l21 => k_is)
    (case c21 => k_is)
    (case k21 => k_is)
    (case a22 => k_is)
    (case l22 => k_is)
    (case c22 => k_is)
    (case k22 => k_is)
    (case a23 => k_is)
    (case l23 => k_is)
    (case c23 => k_is)
    (case k23 => k_is)
    (case a24 => k_is)
    (case l24 => k_is)
    (case c24 => k_is)
    (case k24 => k_is)
    (case a25 => k_is)
    (case l25 => k_is)
    (case c25 => k_is)
    (case k25 => k_is)
    (case a26 => k_is)
    (case l26 => k_is)
    (case c26 => k_is)
    (case k26 => k_is)
    (case a27 => k_is)
    (case l27 => k_is)
    (case c27 => k_is)
    (case k27 => k_is)
    (case a28 => k_is)
    (case l28 => k_is)
    (case c28 => k_is)
    (case k28 => k_is)
    (case a29 => k_is)
    (case l29 => k_is)
    (case c29 => k_is)
    (case k29 => k_is)
    (case a30 => k_is)
    (case l30 => k_is)
    (case c30 => k_is)
    (case k30 => k_is)
    (case a31 => k_is)
    (case l31 => k_is)
    (case c31 => k_is)
    (case k31 => k_is)
    (case a32 => k_is)
    (case l32 => k_is)
    (case c32 => k_is)
    (case k32 => k_is)
    (case a33 => k_is)
    (case l33 => k_is)
    (case c33 => k_is)
    (case k33 => k_is)
    (case a34 => k_is)
    (case l34 => k_is)
    (case c34 => k_is)
    (case k34 => k_is)
    (case a35 => k_is)
    (case l35 => k_is)
    (case c35 => k_is)
    (case k35 => k_is)
    (case a36 => k_is)
    (case l36 => k_is)
    (case c36 => k_is)
    (case k36 => k_is)
    (case a37 => k_is)
    (case l37 => k_is)
    (case c37 => k_is)
    (case k37 => k_is)
    (case a38 => k_is)
    (case l38 => k_is)
    (case c38 => k_is)
    (case k38 => k_is)
    (case a39 => k_is)
    (case l39 => k_is)
    (case c39 => k_is)
    (case k39 => k_is)
    (case a40 => k_is)
    (case l40 => k_is)
    (case c40 => k_is)
    (case k40 => k_is)
    (case a41 => k_is)
    (case l41 => k_is)
    (case c41 => k_is)
    (case k41 => k_is)
    (case m_gcd => k_is)
    (case m_lcm => k_is)
    (case q_MOST_FACT => k_is)
    (case q_MOST_BASE => k_is)
    (case q_MOST_FACTS => k_is)
    (case b_abs => k_is)
    (case b_all => k_is)
    (case b_bool => k_is)
    (case b_divmod => k_is)
    (case b_enumerate => k_is)
    (case b_int => k_is)
    (case b_isinstance => k_is)
    (case b_len => k_is)
    (case b_max => k_is)
    (case b_min => k_is)
    (case b_range => k_is)
    (case b_repr => k_is)
    (case b_set => k_is)
    (case b_sorted => k_is)
    (case b_tuple => k_is)
    (case g_Quarrel => k_is)
    (case l_Quarrel => k_is)
    (case t_Quarrel => decide +kernel)
    (case s_Quarrel => k_is)
    (case ga_Quarrel => k_is)
    (case gg_Quarrel => k_is)
    (case b_Quarrel => k_is)
    (case h_Quarrel => k_is)
    (case ty_Quarrel => k_is)
    (case kp_Quarrel => k_is)
    (case n_Quarrel_first => k_is)
    (case n_Quarrel_second => k_is)
    (case i_Quarrel => k_is)
    (case ti_Quarrel => k_is)
    (case li_Quarrel => k_is)
    (case ci_Quarrel => k_is)
    (case ki_Quarrel => k_is)
    (case e_Quarrel_Quarrel => k_is)

