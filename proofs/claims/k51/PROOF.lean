import PyProof.Rows.All
import Wide.All
import OpenK.AllK
import Wide.FinOn
import HandS.ForMost
import HandS.WideBits
import HandS.WideMore
import HandS.Gcd
import HandS.IsInst
import HandS.EndBits
import HandS.WordsExc
import HandS.Style
import PyProof.ReprRoads
import HandS.Zip
import HandS.Zip0
import PyProof.EnumMake
import PyProof.Draws
import PyProof.AutoIntOps
import HandS.Conv
import KE.GoesZip
import KE.GoesMore
import HandS.ExcInit
import HandS.ExcField
import HandS.TryMany
import KE.KExcInit
import KE.KIntText
import PySem.Challenge.RW_restworld_k51_whole_rests_of_powers
set_option Elab.async false
set_option linter.all false
set_option maxRecDepth 100000
set_option maxHeartbeats 2000000
set_option exponentiation.threshold 256
namespace Vf
open PySem PySem.Spec PyProof.Rows L2

/-! ## a def of the text, known by its name, with its promise; entered only where no repr is under way -/
structure Ok (P : Program) (w : World) (K : PySem.W.Frag) (mg : Str → Option Value) (base : Heap) (k : Nat) (x : Str) (st : Stmt) (ps : List Str) (sp : Sp) : Prop where
  mk ::
  ex : ∃ f fd, L2.Fun K x x st f fd ∧ mg x = some (.ref f) ∧
    (∀ (A : Around) (outer : List Env) (s : Shared) (H : Hp) (args : Args) (us : List Value) (vs : List V) (Q : VK) (E : XK),
      A.guards = some [] → Room k A → Env0 P w K mg base A outer s H → BindsTo s fd args (ps.zip us) → Vals vs us → sp vs H Q E →
        codeAny (model P w) A (.call (.ref f) args) (CR (CX P w) outer P w H s Q E) s)
  len : ∀ vs H Q E, sp vs H Q E → vs.length = ps.length

/-- where a def of the text stands -/
def At (K : PySem.W.Frag) (mg : Str → Option Value) (x : Str) (st : Stmt) : Prop :=
  ∃ f fd, L2.Fun K x x st f fd ∧ mg x = some (.ref f)

section
variable {P : Program} {w : World} {K : PySem.W.Frag} {mg : Str → Option Value} {base : Heap} {k j : Nat} {x : Str} {st : Stmt} {ps N : List Str} {sp sp' : Sp}
theorem Ok.mono (G : Ok P w K mg base j x st ps sp) (h : j ≤ k) : Ok P w K mg base k x st ps sp := by
  obtain ⟨⟨f, fd, F, g, r⟩, l⟩ := G
  exact ⟨⟨f, fd, F, g, fun A outer s H args us vs Q E hg hr => r A outer s H args us vs Q E hg (hr.mono h)⟩, l⟩
theorem Ok.imp (G : Ok P w K mg base k x st ps sp) (h : ∀ vs H Q E, sp' vs H Q E → sp vs H Q E) : Ok P w K mg base k x st ps sp' := by
  obtain ⟨⟨f, fd, F, g, r⟩, l⟩ := G
  exact ⟨⟨f, fd, F, g, fun A outer s H args us vs Q E hg hr he hb hv hs => r A outer s H args us vs Q E hg hr he hb hv (h _ _ _ _ hs)⟩, fun vs H Q E q => l vs H Q E (h _ _ _ _ q)⟩

/-- the rule for a def: the term of its body, then its reading -/
theorem At.ok (a : At K mg x st) (S : FnScope N ps (defScope st)) (len : ∀ vs H Q E, sp vs H Q E → vs.length = ps.length)
    (hbody : ∀ (f : Addr) (cdv : Value) (A : Around) (outer : List Env) (s : Shared) (H : Hp) (vs : List V) (Q : VK) (E : XK),
      (A.deeper (envOfC x (defScope st) s.heap.objs.size f cdv)).guards = some [] →
      Room k (A.deeper (envOfC x (defScope st) s.heap.objs.size f cdv)) → sp vs H Q E →
      ∃ t, PSs (cxOf (CX P w) P w K mg base N x (defScope st) f cdv A outer s H E) (defBody st) t ∧
        t { nx := fun _ H' => Q .non H', rt := Q } (L2.start N vs) H) : Ok P w K mg base (k + 1) x st ps sp := by
  obtain ⟨f, fd, F, g⟩ := a
  have F2 := F
  obtain ⟨⟨oc, od, kV, doc, pm, an, cdv, ct, osl, rfl, lk, hcd⟩, kp⟩ := F
  refine ⟨⟨f, _, F2, g, fun A outer s H args us vs Q E hg hr e0 hb r hsp => ?_⟩, len⟩
  have hl := len _ _ _ _ hsp
  have stay : ∀ b o, base.get? b = some o → s.heap.get? b = some o := fun b o e => (e0.bs b o e).1
  have KX : K.In s.heap := e0.mod.kin.keeps stay
  have lim : s.heap.NoLimit := e0.mod.nolimit.keeps stay
  refine codeAny_call_function hr.depth (KX _ _ lk) rfl S.co S.gen rfl
    (PySem.W.codeRec_of KX hcd) (hb _ _ _ _ ?_)
  refine wpAny_newFunctionEnv_cells S.kind (fun ⟨n, v⟩ hy => ?_) fun env he s1 x1 => ?_
  · rcases S.par n (List.of_mem_zip hy).1 with q | q
    · exact Or.inl q
    · exact Or.inr ⟨q, PySem.W.cellsFrom_some _ _ _ (Or.inl q)⟩
  subst he
  refine ⟨lim.keeps x1.toInCall.keep, codeAny_func ?_⟩
  obtain ⟨t, ht, hq⟩ := hbody f cdv A outer s H vs Q E hg (hr.deeper _) hsp
  have I := inv_start (CX := CX P w) (E := E) S hr.hd e0 hl r x1
  refine wpAny_mono (ht.run [] s1 _ H _ I hq) (fun fl s' hs => ?_) fun e s' hs => hs
  cases fl with
  | ret u =>
    obtain ⟨v, σ', H', J, rv, q⟩ := hs
    exact ⟨v, H', J.os, J.bare, J.base, J.hok, rv, q⟩
  | next =>
    obtain ⟨σ', H', J, q⟩ := hs
    exact ⟨V.non, H', J.os, J.bare, J.base, J.hok, rfl, q⟩
  | brk =>
    obtain ⟨_, _, _, z⟩ := hs
    exact (show False from z).elim
  | cont =>
    obtain ⟨_, _, _, z⟩ := hs
    exact (show False from z).elim
end

section
variable {X : Cx} {k : Nat} {ps ks : List Str} {sp : Sp} {E : XK} {x : Str} {st : Stmt} {p pos : Pos} {e : Expr} {es : List Expr} {kws : List Keyword} {t tk : TA}
/-- the callee runs -/
theorem run_g {pins : List (Addr × Obj)} {σ : L2.St} {H : Hp} {s : Shared} {Q : VK} {us : List Value} {vs : List V} {f : Addr} {fd : FuncData} {args : Args}
    (r : ∀ (A : Around) (outer : List Env) (s : Shared) (H : Hp) (args : Args) (us : List Value) (vs : List V) (Q : VK) (E : XK),
      A.guards = some [] → Room k A → Env0 X.prog X.w X.K X.mg X.base A outer s H → BindsTo s fd args (ps.zip us) → Vals vs us → sp vs H Q E →
        codeAny (model X.prog X.w) A (.call (.ref f) args) (CR (CX X.prog X.w) outer X.prog X.w H s Q E) s)
    (hg : X.A.guards = some []) (hr : Room k X.A) (hx : Passes (CX X.prog X.w) X E)
    (I : Inv X pins σ H s) (hb : BindsTo s fd args (ps.zip us)) (hv : Vals vs us) (h : sp vs H Q E) :
    codeAny (model X.prog X.w) X.A (.call (.ref f) args)
      (fun r s' => match r with | .ok (.ret u) => EP X pins σ Q u s' | .ok _ => False | .error e => X.xe e s') s := by
  refine codeAny_mono (r X.A X.stack s H args us vs Q E hg hr I.env0 hb hv h) fun r s' hq => ?_
  cases r with
  | error e => exact hx pins σ H s e s' I hq
  | ok fl =>
    cases fl with
    | ret u => exact I.after hq
    | next => exact hq
    | brk => exact hq
    | cont => exact hq

/-- f(e, ..), every parameter given by its place -/
theorem pe_g (G : Ok X.prog X.w X.K X.mg X.base k x st ps sp) (b : ∀ f fd, L2.Fun X.K x x st f fd → L2.Binds X.K fd ps [])
    (hg : X.A.guards = some []) (hr : Room k X.A) (hx : Passes (CX X.prog X.w) X E) (gl : Gl X x) (ha : PA X (e :: es) t)
    (hdb : (x == ("__debug__" : Str)) = false := by decide)
    (he : starEach (e :: es) X.env = (false, eval e X.env) :: starEach es X.env := by rfl)
    (hpl : (backTo pos (starEach es X.env)).any (·.1) = false := by rfl) :
    PE X (.Call (.Name x p) (e :: es) [] pos) (tCall sp [] E t) := by
  obtain ⟨⟨f, fd, F, hm, r⟩, l⟩ := G
  refine ⟨fun pins s σ H Q I h => ?_⟩
  refine wpAny_Call_Name_kw (ld_glob I gl hm ?_ hdb)
  refine PySem.W.callWith_K (h₀ := X.base) I.ok.mod.kin F.kp
    (thn (ha.run pos pins s σ H _ I h) fun us s1 ⟨vs, H1, I1, r1, q⟩ => ⟨I1.kIn, ?_⟩) he hpl
  have q1 : sp (vs ++ []) H1 Q E := q
  rw [List.append_nil] at q1
  have hl : us.length = ps.length := by rw [← r1.length]; exact l _ _ _ _ q1
  have bb := b f fd F s1 us I1.kIn (by rw [List.append_nil]; exact hl)
  rw [List.append_nil] at bb
  refine wpAny_call (codeAny_mono (run_g r hg hr hx I1 bb r1 q1) fun z s' hz => ?_)
  cases z with
  | error e => exact hz
  | ok fl => cases fl <;> exact hz
/-- f(.., k = v) -/
theorem pe_gk {gf : List Value → List Value → List Value} {gV : List V → List V → List V} (G : Ok X.prog X.w X.K X.mg X.base k x st ps sp)
    (b : ∀ f fd, L2.Fun X.K x x st f fd → KBinds X.K fd ps ks gf gV)
    (hg : X.A.guards = some []) (hr : Room k X.A) (hx : Passes (CX X.prog X.w) X E) (gl : Gl X x) (ha : PA X (e :: es) t) (hkw : PK X kws tk)
    (hall : (backToKw pos (keywordEach kws X.env)).all (·.1.isSome) = true := by rfl)
    (hks : (backToKw pos (keywordEach kws X.env)).filterMap (·.1) = ks := by rfl) (hdb : (x == ("__debug__" : Str)) = false := by decide)
    (he : starEach (e :: es) X.env = (false, eval e X.env) :: starEach es X.env := by rfl)
    (hpl : ((backTo pos (starEach (e :: es) X.env)).any (·.1) || (backToKw pos (keywordEach kws X.env)).any (·.1.isNone)) = false := by rfl) :
    PE X (.Call (.Name x p) (e :: es) kws pos) (tCallK sp gV E t tk) := by
  obtain ⟨⟨f, fd, F, hm, r⟩, l⟩ := G
  refine ⟨fun pins s σ H Q I h => ?_⟩
  refine wpAny_Call_Name_kw (ld_glob I gl hm ?_ hdb)
  refine PySem.W.callWith_KW (h₀ := X.base) I.ok.mod.kin F.kp hall
    (thn (ha.run pos pins s σ H _ I h) fun us s1 ⟨vs, H1, I1, r1, q⟩ => ?_) hpl he
  refine thn (hkw.run pos pins s1 σ H1 _ I1 q) fun ws s2 ⟨zs, H2, I2, rz, q2⟩ => ⟨I2.kIn, ?_⟩
  rw [hks]
  have B := b f fd F
  have r2 := B.rel r1 rz
  have hl : (gf us ws).length = ps.length := by rw [← r2.length]; exact l _ _ _ _ q2
  refine wpAny_call (codeAny_mono (run_g r hg hr hx I2 (B.to s2 us ws I2.kIn hl) r2 q2) fun z s' hz => ?_)
  cases z with
  | error e => exact hz
  | ok fl => cases fl <;> exact hz
/-- f(k = v, ..): keywords alone -/
theorem pe_gk0 {gf : List Value → List Value → List Value} {gV : List V → List V → List V} (G : Ok X.prog X.w X.K X.mg X.base k x st ps sp)
    (b : ∀ f fd, L2.Fun X.K x x st f fd → KBinds X.K fd ps ks gf gV)
    (hg : X.A.guards = some []) (hr : Room k X.A) (hx : Passes (CX X.prog X.w) X E) (gl : Gl X x) (hkw : PK X kws tk)
    (hall : (backToKw pos (keywordEach kws X.env)).all (·.1.isSome) = true := by rfl)
    (hks : (backToKw pos (keywordEach kws X.env)).filterMap (·.1) = ks := by rfl) (hdb : (x == ("__debug__" : Str)) = false := by decide)
    (hpl : ((backTo pos (starEach [] X.env)).any (·.1) || (backToKw pos (keywordEach kws X.env)).any (·.1.isNone)) = false := by rfl) :
    PE X (.Call (.Name x p) [] kws pos) (tCallK sp gV E tNil tk) := by
  obtain ⟨⟨f, fd, F, hm, r⟩, l⟩ := G
  refine ⟨fun pins s σ H Q I h => ?_⟩
  refine wpAny_Call_Name_kw (ld_glob I gl hm ?_ hdb)
  refine PySem.W.callWith_KW0 (h₀ := X.base) I.ok.mod.kin F.kp hall
    (thn (hkw.run pos pins s σ H _ I h) fun ws s2 ⟨zs, H2, I2, rz, q2⟩ => ⟨I2.kIn, ?_⟩) hpl
  rw [hks]
  have B := b f fd F
  have r2 := B.rel .nil rz
  have hl : (gf [] ws).length = ps.length := by rw [← r2.length]; exact l _ _ _ _ q2
  refine wpAny_call (codeAny_mono (run_g r hg hr hx I2 (B.to s2 [] ws I2.kIn hl) r2 q2) fun z s' hz => ?_)
  cases z with
  | error e => exact hz
  | ok fl => cases fl <;> exact hz
/-- f() -/
theorem pe_g0 (G : Ok X.prog X.w X.K X.mg X.base k x st ps sp) (b : ∀ f fd, L2.Fun X.K x x st f fd → L2.Binds X.K fd ps [])
    (hg : X.A.guards = some []) (hr : Room k X.A) (hx : Passes (CX X.prog X.w) X E) (gl : Gl X x)
    (hdb : (x == ("__debug__" : Str)) = false := by decide) : PE X (.Call (.Name x p) [] [] pos) (tCall sp [] E tNil) := by
  obtain ⟨⟨f, fd, F, hm, r⟩, l⟩ := G
  refine ⟨fun pins s σ H Q I h => ?_⟩
  refine wpAny_Call_Name_kw (ld_glob I gl hm ?_ hdb)
  have q1 : sp [] H Q E := h
  have bb := b f fd F s [] I.kIn (by rw [List.append_nil]; have := l _ _ _ _ q1; exact this)
  rw [List.append_nil] at bb
  refine PySem.W.callWith_K0 I.kIn F.kp (wpAny_call (codeAny_mono (run_g r hg hr hx I bb .nil q1) fun z s' hz => ?_))
  cases z with
  | error e => exact hz
  | ok fl => cases fl <;> exact hz
end
end Vf

namespace Vf
open PySem PySem.Spec PyProof.Rows L2
/-! ## more rules -/
theorem Dp.noDict {K : PySem.W.Frag} {H : Hp} : ∀ (d : PyData) (v : V), Dp K H v d → d.hasDict = false
  | .none, _, _ => rfl
  | .bool _, _, _ => rfl
  | .int _, _, _ => rfl
  | .str _, _, _ => rfl
  | .list ds, _, h => by
    cases h with
    | lst _ ha => exact DpAllN ds _ ha
  | .tuple ds, _, h => by
    cases h with
    | tup _ ha => exact DpAllN ds _ ha
  | .dict _, _, h => by cases h
where
  DpAllN {K : PySem.W.Frag} {H : Hp} : ∀ (ds : List PyData) (vs : List V), DpAll K H vs ds → PyData.hasDictAll ds = false
  | [], _, _ => rfl
  | d :: ds, _, h => by
    cases h with
    | cons h1 h2 =>
      have e1 := Dp.noDict d _ h1
      have e2 := DpAllN ds _ h2
      simp only [PyData.hasDictAll, e1, e2, Bool.or_self]
section
variable {X : Cx}
/-- repr of a list or a tuple of data -/
def rRepr (K : PySem.W.Frag) : List V → Hp → VK → Prop := fun xs H Q => ∃ (a : Addr) (d : PyData), xs = [.ref a] ∧ Dp K H (.ref a) d ∧ d.showable = true ∧
  d.depth ≤ 40 ∧ d.shown.length ≤ sizeLine ∧ Q (.str d.shown) H
theorem cr_repr (hg : X.A.guards = some []) (hu : X.A.units + 64 < cLine) : CallR X (.builtin "repr") (rRepr X.K) := by
  intro pins s σ H xs us Q I r h
  obtain ⟨a, d, rfl, hd, hs, hdp, hz, q⟩ := h
  have e := Vals.ref1 r
  subst e
  obtain ⟨as, rd⟩ := Dp.reads I d _ (.ref a) hd rfl
  refine repr_of_reads' rd hs (fun z => ?_) hg (by omega) (fun _ _ z => z) (fun h' u tk k => ⟨.str d.shown, H, I.kept k, ⟨_, rfl⟩, q⟩) hz
  rw [Dp.noDict d _ hd] at z
  cases z
/-- math.lcm of two ints -/
def rLcm : List V → Hp → VK → Prop := fun vs H Q => ∃ a b : Int, vs = [.int a, .int b] ∧ a.natAbs < 2 ^ 9000 ∧ b.natAbs < 2 ^ 9000 ∧ Q (.int ((Nat.lcm a.natAbs b.natAbs : Nat) : Int)) H
theorem log_lim {n k : Nat} (h : n < 2 ^ k) (hk : 0 < k) : n.log2 < k := PySem.Flt.log2_lt_of hk h
theorem cr_lcm : CallR X (.builtin "math.lcm") rLcm := by
  intro pins s σ H vs us Q I r h
  obtain ⟨a, b, rfl, ha, hb, q⟩ := h
  obtain ⟨t, u, rfl⟩ := Vals.int2 r
  have h1 : (max 1 a.natAbs).log2 < 9000 := log_lim (Nat.max_lt.mpr ⟨Nat.one_lt_two_pow (by decide), ha⟩) (by decide)
  have h2 : (max a.natAbs b.natAbs).log2 < 9000 := log_lim (Nat.max_lt.mpr ⟨ha, hb⟩) (by decide)
  have e1 : Nat.lcm 1 a.natAbs = a.natAbs := Nat.lcm_one_left _
  have hz : (((Nat.lcm 1 a.natAbs).lcm b.natAbs : Nat) : Int).natAbs.log2 < bitsLine := by
    rw [e1, Int.natAbs_natCast]
    have hl : Nat.lcm a.natAbs b.natAbs ≤ a.natAbs * b.natAbs := by
      rcases Nat.eq_zero_or_pos (a.natAbs * b.natAbs) with z | z
      · have : Nat.lcm a.natAbs b.natAbs = 0 := by unfold Nat.lcm; rw [z]; exact Nat.zero_div _
        omega
      · exact Nat.le_of_dvd z (Nat.lcm_dvd (Nat.dvd_mul_right _ _) (Nat.dvd_mul_left _ _))
    have hm : a.natAbs * b.natAbs < 2 ^ 18000 := by
      have := Nat.mul_lt_mul'' ha hb
      rw [← Nat.pow_add] at this
      exact this
    have : Nat.log2 (Nat.lcm a.natAbs b.natAbs) < 18000 := log_lim (Nat.lt_of_le_of_lt hl hm) (by decide)
    have e : bitsLine = 134217728 := by decide
    omega
  have g := PySem.W.mg_run_lcm a t b u (by omega) (by omega) hz
  rw [e1] at g
  exact call_function_meets PySem.W.MGF.kind_lcm PySem.W.MGF.plain_lcm PySem.W.MGF.entry_lcm (PySem.W.MGF.args_lcm _ _) g.meets ⟨.int _, H, I.tok _, ⟨_, rfl⟩, q⟩

/-- // by any divisor of fewer than 9000 bits -/
def CDivG (_ j : Int) : Prop := j ≠ 0 ∧ j.natAbs < 2 ^ 9000
theorem op_fdivG : OpR X (binaryOp .FloorDiv) (rI CDivG fun i j => .int (i.fdiv j)) :=
  opI fun i j _ _ _ _ _ hc q => floordiv_int hc.1 q (.inl (PyProof.noPylong_of_log2 (log_lim hc.2 (by decide))))
/-- == and != of two ints -/
theorem op_eqZ : OpR X (compareOp .Eq) (rI0 fun i j => .bl (decide (i = j))) := by
  intro pins s σ H x y u v Q I rx ry h
  obtain ⟨i, j, rfl, rfl, q⟩ := h
  refine op_eq pins s σ H _ _ u v Q I rx ry ⟨rfl, ?_⟩
  have e : decide (V.int i = V.int j) = decide (i = j) := by
    by_cases z : i = j
    · subst z; simp
    · simp [z]
  rw [e]
  exact q
theorem op_neZ : OpR X (compareOp .NotEq) (rI0 fun i j => .bl (!decide (i = j))) := by
  intro pins s σ H x y u v Q I rx ry h
  obtain ⟨i, j, rfl, rfl, q⟩ := h
  refine op_ne pins s σ H _ _ u v Q I rx ry ⟨rfl, ?_⟩
  have e : decide (V.int i = V.int j) = decide (i = j) := by
    by_cases z : i = j
    · subst z; simp
    · simp [z]
  rw [e]
  exact q
/-- == and != of two texts -/
theorem op_eqS : OpR X (compareOp .Eq) (fun x y H Q => ∃ i j, x = .str i ∧ y = .str j ∧ Q (.bl (decide (i = j))) H) := by
  intro pins s σ H x y u v Q I rx ry h
  obtain ⟨i, j, rfl, rfl, q⟩ := h
  refine op_eq pins s σ H _ _ u v Q I rx ry ⟨rfl, ?_⟩
  have e : decide (V.str i = V.str j) = decide (i = j) := by
    by_cases z : i = j
    · subst z; simp
    · simp [z]
  rw [e]
  exact q
theorem op_neS : OpR X (compareOp .NotEq) (fun x y H Q => ∃ i j, x = .str i ∧ y = .str j ∧ Q (.bl (!decide (i = j))) H) := by
  intro pins s σ H x y u v Q I rx ry h
  obtain ⟨i, j, rfl, rfl, q⟩ := h
  refine op_ne pins s σ H _ _ u v Q I rx ry ⟨rfl, ?_⟩
  have e : decide (V.str i = V.str j) = decide (i = j) := by
    by_cases z : i = j
    · subst z; simp
    · simp [z]
  rw [e]
  exact q
/-- a module's int -/
theorem pe_gi {x : Str} {i : Int} {pos : Pos} (hm : ∃ t, X.mg x = some (.int i t)) (hg : Gl X x) (hd : (x == ("__debug__" : Str)) = false := by decide) : PE X (.Name x pos) (tC (.int i)) := by
  obtain ⟨t, hm⟩ := hm
  exact pe_glob hg hm ⟨t, rfl⟩ hd
end
/-! ## the rules by the written part K alone, each with a name for its reading -/
def rLenQ (K : PySem.W.Frag) : List V → Hp → VK → Prop := fun xs H Q => ∃ p ys, xs = [.ref p] ∧ (SqL K H p ys ∨ SqT K H p ys) ∧ Q (.int ys.length) H
def rLenStr : List V → Hp → VK → Prop := fun xs H Q => ∃ z, xs = [.str z] ∧ z.length ≤ sizeLine ∧ Q (.int z.length) H
def rListQ (K : PySem.W.Frag) : List V → Hp → VK → Prop := fun xs H Q => ∃ p ys, xs = [.ref p] ∧ (SqL K H p ys ∨ SqT K H p ys) ∧ ∀ l, H l = none → Q (.ref l) (upd H l (.lst ys))
def rTupQ (K : PySem.W.Frag) : List V → Hp → VK → Prop := fun xs H Q => ∃ p ys, xs = [.ref p] ∧ ((SqL K H p ys ∧ ∀ l, H l = none → Q (.ref l) (upd H l (.tup ys))) ∨ (SqT K H p ys ∧ Q (.ref p) H))
def rAbs : List V → Hp → VK → Prop := fun xs H Q => ∃ i, xs = [.int i] ∧ Q (.int (if i < 0 then -i else i)) H
def rMax2 : List V → Hp → VK → Prop := fun xs H Q => ∃ i j, xs = [.int i, .int j] ∧ Q (.int (if j > i then j else i)) H
def rMin2 : List V → Hp → VK → Prop := fun xs H Q => ∃ i j, xs = [.int i, .int j] ∧ Q (.int (if j < i then j else i)) H
def rInt1 : List V → Hp → VK → Prop := fun xs H Q => (∃ i, xs = [.int i] ∧ Q (.int i) H) ∨ ∃ k, xs = [.bl k] ∧ Q (.int (if k then 1 else 0)) H
def rDivmod : List V → Hp → VK → Prop := fun xs H Q => ∃ i j, xs = [.int i, .int j] ∧ CDivP i j ∧ ∀ p, H p = none → Q (.ref p) (upd H p (.tup [.int (i / j), .int (i % j)]))
section
variable {X : Cx} {K : PySem.W.Frag}
theorem c_len (e : X.K = K) : CallR X (.builtin "len") (rLenQ K) := by subst e; exact call_len_seq
theorem c_lenS : CallR X (.builtin "len") rLenStr := call_len_str
theorem c_list (e : X.K = K) : CallR X (.type "list") (rListQ K) := by subst e; exact call_list_of
theorem c_tuple (e : X.K = K) : CallR X (.type "tuple") (rTupQ K) := by subst e; exact call_tuple_of
theorem c_abs : CallR X (.builtin "abs") rAbs := call_abs
theorem c_max2 (h : X.calm = true) : CallR X (.builtin "max") rMax2 := call_max2 h
theorem c_min2 (h : X.calm = true) : CallR X (.builtin "min") rMin2 := call_min2 h
theorem c_int : CallR X (.type "int") rInt1 := call_int1
theorem c_divmod : CallR X (.builtin "divmod") rDivmod := call_divmodW
theorem c_isi (e : X.K = K) : CallR X (.builtin "isinstance") (rIsi K) := by subst e; exact call_isi
theorem c_repr (e : X.K = K) (hg : X.A.guards = some []) (hu : X.A.units + 64 < cLine) : CallR X (.builtin "repr") (rRepr K) := by subst e; exact cr_repr hg hu
theorem c_all (e : X.K = K) (h : X.calm = true) : CallR X (.builtin "all") (rAll K) := by subst e; exact cr_all h
theorem c_any (e : X.K = K) (h : X.calm = true) : CallR X (.builtin "any") (rAny K) := by subst e; exact cr_any h
theorem c_sum (e : X.K = K) (h : X.calm = true) : CallR X (.builtin "sum") (rSum K) := by subst e; exact cr_sum h
theorem c_maxL (e : X.K = K) (h : X.calm = true) : CallR X (.builtin "max") (rMax K) := by subst e; exact cr_max h
theorem c_minL (e : X.K = K) (h : X.calm = true) : CallR X (.builtin "min") (rMin K) := by subst e; exact cr_min h
theorem x_list (e : X.K = K) : IxR X (rIxL K) := by subst e; exact ix_list
theorem x_tup (e : X.K = K) : IxR X (rIxT K) := by subst e; exact ix_tup
theorem o_eqD (e : X.K = K) (hu : X.A.units + 64 < cLine) : OpR X (compareOp .Eq) (rEqD K) := by subst e; exact op_eqD hu
theorem o_neD (e : X.K = K) (hu : X.A.units + 64 < cLine) : OpR X (compareOp .NotEq) (rNeD K) := by subst e; exact op_neD hu
theorem o_in (e : X.K = K) : OpR X (compareOp .In) (rIn K false) := by subst e; exact op_in_seq
theorem o_notIn (e : X.K = K) : OpR X (compareOp .NotIn) (rIn K true) := by subst e; exact op_notIn_seq
theorem o_catT (e : X.K = K) : OpR X (binaryOp .Add) (rCatT K) := by subst e; exact op_catT
theorem s_list (e : X.K = K) : SlR X (rSlL K) := by subst e; exact sl_list
theorem s_tup (e : X.K = K) : SlR X (rSlT K) := by subst e; exact sl_tup
theorem i_list {tg l : Expr} {tl : TE} (e : X.K = K) (hl : PE X l tl) : PI X tg l (iList K tl) := by subst e; exact pi_list hl
theorem i_tup' {tg l : Expr} {tl : TE} (e : X.K = K) (hl : PE X l tl) : PI X tg l (iTup K tl) := by subst e; exact pi_tup hl
theorem g_tup {es : List Expr} {k : Nat} {t : TGs} {n : Nat} {pos : Pos} (e : X.K = K) (hc : X.calm = true) (h : PGs X es t) (hn : (assignEach es X.env).length = n)
    (hst : (assignEach es X.env).findIdx? (·.1) = none) : PG X (.Tuple es k pos) (gTup K n t) := by
  subst e
  exact pg_tup hc h hn hst
end
end Vf

namespace Vf
open PySem PySem.Spec PyProof.Rows L2
/-! ## heaps -/
/-- all but what stands at k is as it was -/
def Kx (k : Addr) (H H' : Hp) : Prop := ∀ b o, b ≠ k → H b = some o → H' b = some o
theorem Kx.refl {k : Addr} (H : Hp) : Kx k H H := fun _ _ _ h => h
theorem Kx.trans {k : Addr} {H H1 H2 : Hp} (a : Kx k H H1) (b : Kx k H1 H2) : Kx k H H2 := fun c o n h => b c o n (a c o n h)
theorem Kx.same {k : Addr} {H H1 H2 : Hp} (a : Kx k H H1) (b : Same H1 H2) : Kx k H H2 := fun c o n h => b c o (a c o n h)
theorem Same.kx {k : Addr} {H H1 H2 : Hp} (a : Same H H1) (b : Kx k H1 H2) : Kx k H H2 := fun c o n h => b c o n (a c o h)
theorem Same.toKx {k : Addr} {H H1 : Hp} (a : Same H H1) : Kx k H H1 := fun c o _ h => a c o h
theorem Same.new {H : Hp} {p : Addr} {o : HO} (h : H p = none) : Same H (upd H p o) := fun a u e => by
  rw [upd_ne (ne_of_none e h)]
  exact e
theorem Kx.upd {H : Hp} {k : Addr} {o : HO} : Kx k H (upd H k o) := fun a u n e => by
  rw [upd_ne n]
  exact e
theorem at_new {H : Hp} {a p : Addr} {o u : HO} (h : H p = none) (e : H a = some u) : upd H p o a = some u := Same.new h a u e
theorem at_ne {H : Hp} {a p : Addr} {o u : HO} (h : a ≠ p) (e : H a = some u) : upd H p o a = some u := by rw [upd_ne h]; exact e
theorem at_same {H H' : Hp} {a : Addr} {u : HO} (h : Same H H') (e : H a = some u) : H' a = some u := h a u e
theorem at_kx {k : Addr} {H H' : Hp} {a : Addr} {u : HO} (h : Kx k H H') (n : a ≠ k) (e : H a = some u) : H' a = some u := h a u n e
theorem Kx.list {K : PySem.W.Frag} {k : Addr} {H H' : Hp} {a : Addr} {xs : List V} (e : Kx k H H') (n : a ≠ k) (h : SqL K H a xs) : SqL K H' a xs := by
  rcases h with (h | ⟨o, h⟩) | h
  · exact Or.inl (Or.inl (e _ _ n h))
  · exact Or.inl (Or.inr ⟨o, e _ _ n h⟩)
  · exact Or.inr h
theorem Kx.tup {K : PySem.W.Frag} {k : Addr} {H H' : Hp} {a : Addr} {xs : List V} (e : Kx k H H') (n : a ≠ k) (h : SqT K H a xs) : SqT K H' a xs := by
  rcases h with (h | ⟨o, h⟩) | h
  · exact Or.inl (Or.inl (e _ _ n h))
  · exact Or.inl (Or.inr ⟨o, e _ _ n h⟩)
  · exact Or.inr h
theorem Same.list {K : PySem.W.Frag} {H H' : Hp} {a : Addr} {xs : List V} (e : Same H H') (h : SqL K H a xs) : SqL K H' a xs := e.seq h
theorem Same.tup {K : PySem.W.Frag} {H H' : Hp} {a : Addr} {xs : List V} (e : Same H H') (h : SqT K H a xs) : SqT K H' a xs := by
  rcases h with (h | ⟨o, h⟩) | h
  · exact Or.inl (Or.inl (e _ _ h))
  · exact Or.inl (Or.inr ⟨o, e _ _ h⟩)
  · exact Or.inr h
theorem new_list {K : PySem.W.Frag} {H : Hp} {a p : Addr} {o : HO} {xs : List V} (h : H p = none) (e : SqL K H a xs) : SqL K (upd H p o) a xs := (Same.new h).seq e
theorem new_tup {K : PySem.W.Frag} {H : Hp} {a p : Addr} {o : HO} {xs : List V} (h : H p = none) (e : SqT K H a xs) : SqT K (upd H p o) a xs := Same.tup (Same.new h) e
theorem ne_list {K : PySem.W.Frag} {H : Hp} {a p : Addr} {o : HO} {xs : List V} (h : a ≠ p) (e : SqL K H a xs) : SqL K (upd H p o) a xs := Kx.list Kx.upd h e
theorem ne_tup {K : PySem.W.Frag} {H : Hp} {a p : Addr} {o : HO} {xs : List V} (h : a ≠ p) (e : SqT K H a xs) : SqT K (upd H p o) a xs := Kx.tup Kx.upd h e

theorem none_up {H : Hp} {p q : Addr} {o : HO} (h : upd H p o q = none) : H q = none := by
  by_cases e : q = p
  · subst e
    rw [upd_same] at h
    cases h
  · rw [upd_ne e] at h
    exact h
theorem none_same {H H' : Hp} {q : Addr} (e : Same H H') (h : H' q = none) : H q = none := e.free h
theorem none_kx {H H' : Hp} {k q : Addr} {o : HO} (e : Kx k H H') (hk : H' k = some o) (h : H' q = none) : H q = none := by
  cases z : H q with
  | none => rfl
  | some u =>
    have n : q ≠ k := fun c => by rw [c, hk] at h; cases h
    rw [e q u n z] at h
    cases h
/-- a new tuple, a new list, handed back -/
def NewT (xs : List V) (H : Hp) (Q : VK) : Prop := ∀ p H', Same H H' → H p = none → H' p = some (.tup xs) → Q (.ref p) H'
def NewL (xs : List V) (H : Hp) (Q : VK) : Prop := ∀ p H', Same H H' → H p = none → H' p = some (.lst xs) → Q (.ref p) H'
/-! ## readings, one step each -/
section
variable {K : PySem.W.Frag} {D : Ends} {σ : L2.St} {H : Hp} {Q : VK} {t u : TS} {te ta tb tc : TE} {tt tt2 : TT} {v x y : V} {i j : Nat} {g : TG} {gs : TGs} {tas : TA}
theorem r_seq (h : t { D with nx := u D } σ H) : tSeq t u D σ H := h
theorem r_asg (h : te σ H fun v H1 => g v σ H1 D.nx) : tAsg te g D σ H := h
theorem r_name {R : L2.St → Hp → Prop} (h : R (σ.set i (some v)) H) : gName i v σ H R := h
theorem r_gtup {R : L2.St → Hp → Prop} {a : Addr} {xs : List V} {n : Nat} (hs : SqT K H a xs) (hn : xs.length = n) (h : gs xs σ H R) : gTup K n gs (.ref a) σ H R := ⟨a, xs, rfl, hs, hn, h⟩
theorem r_gcons {R : L2.St → Hp → Prop} {r : List V} (h : g v σ H fun σ' H' => gs r σ' H' R) : gCons g gs (v :: r) σ H R := ⟨v, r, rfl, h⟩
theorem r_gnil {R : L2.St → Hp → Prop} (h : R σ H) : gNil [] σ H R := ⟨rfl, h⟩
theorem r_gsub {R : L2.St → Hp → Prop} {ts : TSet} (h : ta σ H fun o H1 => tb σ H1 fun i H2 => ts o i v H2 fun H3 => R σ H3) : gSub ta tb ts v σ H R := h
theorem r_setL {R : Hp → Prop} {p : Addr} {k : Int} {xs : List V} (hp : H p = some (.lst xs)) (hj : ixN xs.length k = some j) (h : R (upd H p (.lst (xs.set j v)))) : rSetL (.ref p) (.int k) v H R := ⟨p, xs, k, j, rfl, rfl, hp, hj, h⟩
theorem r_par (h : tas σ H fun vs H1 => ∃ v w, vs = [v, w] ∧ D.nx ((σ.set i (some v)).set j (some w)) H1) : tPar i j tas D σ H := h
theorem r_par3 {l : Nat} (h : tas σ H fun vs H1 => ∃ u v w, vs = [u, v, w] ∧ D.nx (((σ.set i (some u)).set j (some v)).set l (some w)) H1) : tPar3 i j l tas D σ H := h
theorem r_aug {ti : TIp} (e : σ[i]? = some (some x)) (h : te σ H fun y H1 => ti x y H1 fun z H2 => D.nx (σ.set i (some z)) H2) : tAug i te ti D σ H := ⟨x, e, h⟩
theorem r_ip {f : Int → Int → Int} {a b : Int} (h : Q (.int (f a b)) H) : ipI f (.int a) (.int b) H Q := ⟨a, b, rfl, rfl, h⟩
theorem r_drop (h : te σ H fun _ H1 => D.nx σ H1) : tDrop te D σ H := h
theorem r_ret (h : te σ H D.rt) : tRet te D σ H := h
theorem r_retN (h : D.rt .non H) : tRetN D σ H := h
theorem r_if (h : tt σ H fun b H1 => if b = true then t D σ H1 else u D σ H1) : tIfS tt t u D σ H := h
theorem r_next (h : D.nx σ H) : tNext D σ H := h
theorem r_break (h : D.bk σ H) : tBreak D σ H := h
theorem r_cont (h : D.ct σ H) : tCont D σ H := h
theorem r_var (e : σ[i]? = some (some v)) (h : Q v H) : tVar i σ H Q := ⟨v, e, h⟩
theorem r_yes {R : Bool → Hp → Prop} (h : R true H) : tYes σ H R := h
theorem r_c (h : Q v H) : tC v σ H Q := h
theorem r_op {r : R2} (h : ta σ H fun x H1 => tb σ H1 fun y H2 => r x y H2 Q) : tOp r ta tb σ H Q := h
theorem r_un {r : V → Hp → VK → Prop} (h : ta σ H fun x H1 => r x H1 Q) : tUn r ta σ H Q := h
theorem r_rI0 {f : Int → Int → V} {a b : Int} (h : Q (f a b) H) : rI0 f (.int a) (.int b) H Q := ⟨a, b, rfl, rfl, h⟩
theorem r_rU {f : Int → V} {a : Int} (h : Q (f a) H) : rU f (.int a) H Q := ⟨a, rfl, h⟩
theorem r_rI {C : Int → Int → Prop} {f : Int → Int → V} {a b : Int} (c : C a b) (h : Q (f a b) H) : rI C f (.int a) (.int b) H Q := ⟨a, b, rfl, rfl, c, h⟩
theorem r_test {R : Bool → Hp → Prop} (h : te σ H fun x H1 => ∃ k, x = .bl k ∧ R k H1) : tTest te σ H R := h
theorem r_B {R : Bool → Hp → Prop} (h : te σ H fun x H1 => ∃ k, x = .bl k ∧ R k H1) : tB te σ H R := h
theorem r_and {R : Bool → Hp → Prop} (h : tt σ H fun c H1 => if c = true then tt2 σ H1 R else R false H1) : tAnd tt tt2 σ H R := h
theorem r_or {R : Bool → Hp → Prop} (h : tt σ H fun c H1 => if c = true then R true H1 else tt2 σ H1 R) : tOr tt tt2 σ H R := h
theorem r_not {R : Bool → Hp → Prop} (h : tt σ H fun c H1 => R (!c) H1) : tNot tt σ H R := h
theorem r_andV (h : ta σ H fun x H1 => ∃ c, x = .bl c ∧ if c = true then tb σ H1 Q else Q (.bl false) H1) : tAndV ta tb σ H Q := h
theorem r_orV (h : ta σ H fun x H1 => ∃ c, x = .bl c ∧ if c = true then Q (.bl true) H1 else tb σ H1 Q) : tOrV ta tb σ H Q := h
theorem r_notV (h : ta σ H fun x H1 => ∃ c, x = .bl c ∧ Q (.bl (!c)) H1) : tNotV ta σ H Q := h
theorem r_ifE (h : tt σ H fun c H1 => if c = true then ta σ H1 Q else tb σ H1 Q) : tIf tt ta tb σ H Q := h
theorem r_chain {r r' : R2} (h : ta σ H fun x H1 => tb σ H1 fun y H2 => r x y H2 fun z H3 => ∃ k, z = .bl k ∧
  (if k = true then tc σ H3 fun w' H4 => r' y w' H4 Q else Q (.bl false) H3)) : tChain r r' ta tb tc σ H Q := h
theorem r_cons {R : List V → Hp → Prop} (h : ta σ H fun x H1 => tas σ H1 fun xs H2 => R (x :: xs) H2) : tCons ta tas σ H R := h
theorem r_nil {R : List V → Hp → Prop} (h : R [] H) : tNil σ H R := h
theorem r_tup (h : tas σ H fun xs H1 => xs.length ≤ sizeLine ∧ ∀ p, H1 p = none → Q (.ref p) (upd H1 p (.tup xs))) : tTup tas σ H Q := h
theorem r_lst (h : tas σ H fun xs H1 => xs.length ≤ sizeLine ∧ ∀ p, H1 p = none → Q (.ref p) (upd H1 p (.lst xs))) : tLst tas σ H Q := h
theorem r_call {sp : Sp} {E : XK} (h : tas σ H fun vs H1 => sp vs H1 Q E) : tCall sp [] E tas σ H Q := by
  have e : tCall sp [] E tas σ H Q = tas σ H fun vs H1 => sp vs H1 Q E := by
    unfold tCall
    simp only [List.append_nil]
  rw [e]
  exact h
theorem r_callK {sp : Sp} {gV : List V → List V → List V} {E : XK} {tk : TA} (h : tas σ H fun vs H1 => tk σ H1 fun zs H2 => sp (gV vs zs) H2 Q E) : tCallK sp gV E tas tk σ H Q := h
theorem r_cb {r : List V → Hp → VK → Prop} (h : tas σ H fun vs H1 => r vs H1 Q) : tCB r tas σ H Q := h
theorem r_ixL {a : Addr} {xs : List V} {k : Int} (h1 : SqL K H a xs) (h2 : atI xs k = some v) (h : Q v H) : rIxL K (.ref a) (.int k) H Q := ⟨a, xs, k, v, rfl, rfl, h1, h2, h⟩
theorem r_ixT {a : Addr} {xs : List V} {k : Int} (h1 : SqT K H a xs) (h2 : atI xs k = some v) (h : Q v H) : rIxT K (.ref a) (.int k) H Q := ⟨a, xs, k, v, rfl, rfl, h1, h2, h⟩
theorem r_lenL {a : Addr} {xs : List V} (hs : SqL K H a xs) (h : Q (.int xs.length) H) : rLenQ K [.ref a] H Q := ⟨a, xs, rfl, .inl hs, h⟩
theorem r_lenT {a : Addr} {xs : List V} (hs : SqT K H a xs) (h : Q (.int xs.length) H) : rLenQ K [.ref a] H Q := ⟨a, xs, rfl, .inr hs, h⟩
theorem r_tupL {a : Addr} {xs : List V} (hs : SqL K H a xs) (h : ∀ l, H l = none → Q (.ref l) (upd H l (.tup xs))) : rTupQ K [.ref a] H Q := ⟨a, xs, rfl, .inl ⟨hs, h⟩⟩
theorem r_tupT {a : Addr} {xs : List V} (hs : SqT K H a xs) (h : Q (.ref a) H) : rTupQ K [.ref a] H Q := ⟨a, xs, rfl, .inr ⟨hs, h⟩⟩
theorem r_listL {a : Addr} {xs : List V} (hs : SqL K H a xs) (h : ∀ l, H l = none → Q (.ref l) (upd H l (.lst xs))) : rListQ K [.ref a] H Q := ⟨a, xs, rfl, .inl hs, h⟩
theorem r_listT {a : Addr} {xs : List V} (hs : SqT K H a xs) (h : ∀ l, H l = none → Q (.ref l) (upd H l (.lst xs))) : rListQ K [.ref a] H Q := ⟨a, xs, rfl, .inr hs, h⟩
theorem r_abs {i : Int} (h : Q (.int (i.natAbs : Int)) H) : rAbs [.int i] H Q := by
  have e : (if i < 0 then -i else i) = (i.natAbs : Int) := by split <;> omega
  exact ⟨i, rfl, by rw [e]; exact h⟩
theorem r_max2 {i j : Int} (h : Q (.int (max i j)) H) : rMax2 [.int i, .int j] H Q := by
  have e : (if j > i then j else i) = max i j := by split <;> omega
  exact ⟨i, j, rfl, by rw [e]; exact h⟩
theorem r_min2 {i j : Int} (h : Q (.int (min i j)) H) : rMin2 [.int i, .int j] H Q := by
  have e : (if j < i then j else i) = min i j := by split <;> omega
  exact ⟨i, j, rfl, by rw [e]; exact h⟩
theorem r_int1 {i : Int} (h : Q (.int i) H) : rInt1 [.int i] H Q := .inl ⟨i, rfl, h⟩
theorem r_divmod {i j : Int} (c : CDivP i j) (h : ∀ p, H p = none → Q (.ref p) (upd H p (.tup [.int (i / j), .int (i % j)]))) : rDivmod [.int i, .int j] H Q := ⟨i, j, rfl, c, h⟩
theorem r_gcd {a b : Int} (h : Q (.int ((Nat.gcd a.natAbs b.natAbs : Nat) : Int)) H) : rGcd [.int a, .int b] H Q := ⟨a, b, rfl, h⟩
theorem r_lcm {a b : Int} (ha : a.natAbs < 2 ^ 9000) (hb : b.natAbs < 2 ^ 9000) (h : Q (.int ((Nat.lcm a.natAbs b.natAbs : Nat) : Int)) H) : rLcm [.int a, .int b] H Q := ⟨a, b, rfl, ha, hb, h⟩
theorem r_repr {a : Addr} {d : PyData} (hd : Dp K H (.ref a) d) (hs : d.showable = true) (hp : d.depth ≤ 40) (hz : d.shown.length ≤ sizeLine) (h : Q (.str d.shown) H) : rRepr K [.ref a] H Q := ⟨a, d, rfl, hd, hs, hp, hz, h⟩
theorem r_isi {x c : V} {t u : Value} {b : Bool} (h1 : ClsV c u) (h2 : TyX K H x t) (h3 : PySem.W.kitOne K t u = some b) (h : Q (.bl b) H) : rIsi K [x, c] H Q := ⟨x, c, t, u, b, rfl, h1, h2, h3, h⟩
theorem r_all {a : Addr} {bs : List Bool} (hs : SqL K H a (bs.map V.bl)) (h : Q (.bl (bs.all id)) H) : rAll K [.ref a] H Q := ⟨a, bs, rfl, hs, h⟩
theorem r_any {a : Addr} {bs : List Bool} (hs : SqL K H a (bs.map V.bl)) (h : Q (.bl (bs.any id)) H) : rAny K [.ref a] H Q := ⟨a, bs, rfl, hs, h⟩
theorem r_neD {x y : V} {d e : PyData} (h1 : Dp K H x d) (h2 : Dp K H y e) (h3 : SeqAt.shaped d = true) (h4 : SeqAt.shaped e = true) (h : Q (.bl (!PyData.eqv d e)) H) : rNeD K x y H Q := ⟨d, e, h1, h2, h3, h4, h⟩
theorem r_eqD {x y : V} {d e : PyData} (h1 : Dp K H x d) (h2 : Dp K H y e) (h3 : SeqAt.shaped d = true) (h4 : SeqAt.shaped e = true) (h : Q (.bl (PyData.eqv d e)) H) : rEqD K x y H Q := ⟨d, e, h1, h2, h3, h4, h⟩
end
/-- tests that are known, and both ways of one that is not -/
theorem ifd {p A B : Prop} {_i : Decidable p} (h1 : p → A) (h2 : ¬ p → B) : if decide p = true then A else B := by
  by_cases h : p
  · rw [if_pos (decide_eq_true h)]; exact h1 h
  · rw [if_neg (by rw [decide_eq_false h]; exact Bool.false_ne_true)]; exact h2 h
theorem ifnd {p A B : Prop} {_i : Decidable p} (h1 : ¬ p → A) (h2 : p → B) : if (!decide p) = true then A else B := by
  by_cases h : p
  · rw [if_neg (by rw [decide_eq_true h]; decide)]; exact h2 h
  · rw [if_pos (by rw [decide_eq_false h]; decide)]; exact h1 h
theorem ifb {b : Bool} {A B : Prop} (h1 : b = true → A) (h2 : b = false → B) : if b = true then A else B := by
  cases b with
  | true => rw [if_pos rfl]; exact h1 rfl
  | false => rw [if_neg Bool.false_ne_true]; exact h2 rfl
theorem ifT {b : Bool} {A B : Prop} (hb : b = true) (h : A) : if b = true then A else B := by rw [if_pos hb]; exact h
theorem ifF {b : Bool} {A B : Prop} (hb : b = false) (h : B) : if b = true then A else B := by rw [if_neg (by rw [hb]; exact Bool.false_ne_true)]; exact h
theorem ifTT {A B : Prop} (h : A) : if true = true then A else B := by rw [if_pos rfl]; exact h
theorem ifFF {A B : Prop} (h : B) : if false = true then A else B := by rw [if_neg Bool.false_ne_true]; exact h
theorem ifNT {A B : Prop} (h : B) : if (!true) = true then A else B := by rw [if_neg (by decide)]; exact h
theorem ifNF {A B : Prop} (h : A) : if (!false) = true then A else B := by rw [if_pos (by decide)]; exact h
theorem small {n : Nat} (h : n ≤ 100000) : n ≤ sizeLine := Nat.le_trans h (by decide)
/-! ## data -/
theorem DpAll.ints {K : PySem.W.Frag} {H : Hp} : ∀ ns : List Int, DpAll K H (ns.map V.int) (ns.map PyData.int)
  | [] => .nil
  | n :: ns => .cons (.int n) (DpAll.ints ns)

/-! ## isinstance, type by type -/
section
variable {K : PySem.W.Frag} {H : Hp} {Q : VK} {a : Addr} {xs : List V} {i : Int} {b : Bool}
theorem is_int_int (h : Q (.bl true) H) : rIsi K [(.int i), .ty "int"] H Q := r_isi (.ty "int") (.base (.int i)) (kit_ty (by decide +kernel)) h
theorem is_int_bool (h : Q (.bl false) H) : rIsi K [(.int i), .ty "bool"] H Q := r_isi (.ty "bool") (.base (.int i)) (kit_ty (by decide +kernel)) h
theorem is_int_tuple (h : Q (.bl false) H) : rIsi K [(.int i), .ty "tuple"] H Q := r_isi (.ty "tuple") (.base (.int i)) (kit_ty (by decide +kernel)) h
theorem is_int_list (h : Q (.bl false) H) : rIsi K [(.int i), .ty "list"] H Q := r_isi (.ty "list") (.base (.int i)) (kit_ty (by decide +kernel)) h
theorem is_int_str (h : Q (.bl false) H) : rIsi K [(.int i), .ty "str"] H Q := r_isi (.ty "str") (.base (.int i)) (kit_ty (by decide +kernel)) h
theorem is_bool_int (h : Q (.bl true) H) : rIsi K [(.bl b), .ty "int"] H Q := r_isi (.ty "int") (.base (.bl b)) (kit_ty (by decide +kernel)) h
theorem is_bool_bool (h : Q (.bl true) H) : rIsi K [(.bl b), .ty "bool"] H Q := r_isi (.ty "bool") (.base (.bl b)) (kit_ty (by decide +kernel)) h
theorem is_bool_tuple (h : Q (.bl false) H) : rIsi K [(.bl b), .ty "tuple"] H Q := r_isi (.ty "tuple") (.base (.bl b)) (kit_ty (by decide +kernel)) h
theorem is_bool_list (h : Q (.bl false) H) : rIsi K [(.bl b), .ty "list"] H Q := r_isi (.ty "list") (.base (.bl b)) (kit_ty (by decide +kernel)) h
theorem is_bool_str (h : Q (.bl false) H) : rIsi K [(.bl b), .ty "str"] H Q := r_isi (.ty "str") (.base (.bl b)) (kit_ty (by decide +kernel)) h
theorem is_NoneType_int (h : Q (.bl false) H) : rIsi K [.non, .ty "int"] H Q := r_isi (.ty "int") (.base .non) (kit_ty (by decide +kernel)) h
theorem is_NoneType_bool (h : Q (.bl false) H) : rIsi K [.non, .ty "bool"] H Q := r_isi (.ty "bool") (.base .non) (kit_ty (by decide +kernel)) h
theorem is_NoneType_tuple (h : Q (.bl false) H) : rIsi K [.non, .ty "tuple"] H Q := r_isi (.ty "tuple") (.base .non) (kit_ty (by decide +kernel)) h
theorem is_NoneType_list (h : Q (.bl false) H) : rIsi K [.non, .ty "list"] H Q := r_isi (.ty "list") (.base .non) (kit_ty (by decide +kernel)) h
theorem is_NoneType_str (h : Q (.bl false) H) : rIsi K [.non, .ty "str"] H Q := r_isi (.ty "str") (.base .non) (kit_ty (by decide +kernel)) h
theorem is_str_int {z : Str} (h : Q (.bl false) H) : rIsi K [(.str z), .ty "int"] H Q := r_isi (.ty "int") (.base (.str z)) (kit_ty (by decide +kernel)) h
theorem is_str_bool {z : Str} (h : Q (.bl false) H) : rIsi K [(.str z), .ty "bool"] H Q := r_isi (.ty "bool") (.base (.str z)) (kit_ty (by decide +kernel)) h
theorem is_str_tuple {z : Str} (h : Q (.bl false) H) : rIsi K [(.str z), .ty "tuple"] H Q := r_isi (.ty "tuple") (.base (.str z)) (kit_ty (by decide +kernel)) h
theorem is_str_list {z : Str} (h : Q (.bl false) H) : rIsi K [(.str z), .ty "list"] H Q := r_isi (.ty "list") (.base (.str z)) (kit_ty (by decide +kernel)) h
theorem is_str_str {z : Str} (h : Q (.bl true) H) : rIsi K [(.str z), .ty "str"] H Q := r_isi (.ty "str") (.base (.str z)) (kit_ty (by decide +kernel)) h
theorem is_tuple_int (e : H a = some (.tup xs)) (h : Q (.bl false) H) : rIsi K [(.ref a), .ty "int"] H Q := r_isi (.ty "int") (.base (.tup e)) (kit_ty (by decide +kernel)) h
theorem is_tuple_bool (e : H a = some (.tup xs)) (h : Q (.bl false) H) : rIsi K [(.ref a), .ty "bool"] H Q := r_isi (.ty "bool") (.base (.tup e)) (kit_ty (by decide +kernel)) h
theorem is_tuple_tuple (e : H a = some (.tup xs)) (h : Q (.bl true) H) : rIsi K [(.ref a), .ty "tuple"] H Q := r_isi (.ty "tuple") (.base (.tup e)) (kit_ty (by decide +kernel)) h
theorem is_tuple_list (e : H a = some (.tup xs)) (h : Q (.bl false) H) : rIsi K [(.ref a), .ty "list"] H Q := r_isi (.ty "list") (.base (.tup e)) (kit_ty (by decide +kernel)) h
theorem is_tuple_str (e : H a = some (.tup xs)) (h : Q (.bl false) H) : rIsi K [(.ref a), .ty "str"] H Q := r_isi (.ty "str") (.base (.tup e)) (kit_ty (by decide +kernel)) h
theorem is_list_int (e : H a = some (.lst xs)) (h : Q (.bl false) H) : rIsi K [(.ref a), .ty "int"] H Q := r_isi (.ty "int") (.base (.lst e)) (kit_ty (by decide +kernel)) h
theorem is_list_bool (e : H a = some (.lst xs)) (h : Q (.bl false) H) : rIsi K [(.ref a), .ty "bool"] H Q := r_isi (.ty "bool") (.base (.lst e)) (kit_ty (by decide +kernel)) h
theorem is_list_tuple (e : H a = some (.lst xs)) (h : Q (.bl false) H) : rIsi K [(.ref a), .ty "tuple"] H Q := r_isi (.ty "tuple") (.base (.lst e)) (kit_ty (by decide +kernel)) h
theorem is_list_list (e : H a = some (.lst xs)) (h : Q (.bl true) H) : rIsi K [(.ref a), .ty "list"] H Q := r_isi (.ty "list") (.base (.lst e)) (kit_ty (by decide +kernel)) h
theorem is_list_str (e : H a = some (.lst xs)) (h : Q (.bl false) H) : rIsi K [(.ref a), .ty "str"] H Q := r_isi (.ty "str") (.base (.lst e)) (kit_ty (by decide +kernel)) h
end

/-! ## two ways that meet -/
section
variable {D : Ends} {σ : L2.St} {H : Hp} {Q : VK} {tt : TT} {ta tb : TE} {t u : TS}
theorem j_e {te : TE} (Pv : V → Hp → Prop) (hF : ∀ Q' : VK, (∀ v H', Pv v H' → Q' v H') → te σ H Q') (hQ : ∀ v H', Pv v H' → Q v H') : te σ H Q := hF Q hQ
theorem j_if (Pv : V → Hp → Prop) (hF : ∀ Q' : VK, (∀ v H', Pv v H' → Q' v H') → tIf tt ta tb σ H Q') (hQ : ∀ v H', Pv v H' → Q v H') : tIf tt ta tb σ H Q := hF Q hQ
theorem j_s {ts : TS} (M : L2.St → Hp → Prop) (hF : ∀ nx' : L2.St → Hp → Prop, (∀ σ' H', M σ' H' → nx' σ' H') → ts { D with nx := nx' } σ H) (hQ : ∀ σ' H', M σ' H' → D.nx σ' H') : ts D σ H := hF D.nx hQ
end
/-! ## loops -/
section
variable {K : PySem.W.Frag} {D : Ends} {σ : L2.St} {H : Hp} {tt : TT} {tb : TS} {g : TG} {x : V}
abbrev Wp (W : Nat → L2.St → Hp → Prop) (m : Nat) (σ : L2.St) (H : Hp) : Prop := W m σ H
theorem r_while (W : Nat → L2.St → Hp → Prop) (m : Nat) (w0 : W m σ H)
    (hs : ∀ m σ H, W m σ H → tt σ H fun b H1 => if b = true then ∃ N : L2.St → Hp → Prop, (∀ σ' H', N σ' H' → ∃ m', m' < m ∧ Wp W m' σ' H') ∧ tb { D with nx := N, ct := N, bk := D.nx } σ H1 else D.nx σ H1) :
    tWhile tt tb D σ H := ⟨W, ⟨m, w0⟩, hs⟩
theorem r_wb {D : (L2.St → Hp → Prop) → Ends} {W : Nat → L2.St → Hp → Prop} {m : Nat} (h : tb (D fun σ' H' => ∃ m', m' < m ∧ Wp W m' σ' H') σ H) :
    ∃ N : L2.St → Hp → Prop, (∀ σ' H', N σ' H' → ∃ m', m' < m ∧ Wp W m' σ' H') ∧ tb (D N) σ H := ⟨_, fun _ _ h => h, h⟩
theorem tru_int {i : Int} {R : Bool → Prop} (h : R (i != 0)) : ∃ k, TruV K (.int i) H k ∧ R k := ⟨_, rfl, h⟩
theorem tru_list {a : Addr} {xs : List V} {R : Bool → Prop} (hs : SqL K H a xs) (h : R (!xs.isEmpty)) : ∃ k, TruV K (.ref a) H k ∧ R k := ⟨_, .inl ⟨xs, hs, rfl⟩, h⟩
theorem tru_tup {a : Addr} {xs : List V} {R : Bool → Prop} (hs : SqT K H a xs) (h : R (!xs.isEmpty)) : ∃ k, TruV K (.ref a) H k ∧ R k := ⟨_, .inr (.inl ⟨xs, hs, rfl⟩), h⟩
theorem r_for1 {ta : TA} (h : ta σ H fun vs H1 => ∃ j : Int, vs = [.int j] ∧ -(2 ^ 62) ≤ j ∧ j < 2 ^ 62 ∧ tFor (fun _ H2 R => R (Itr 0 j.toNat) H2) g tb D σ H1) : tFor (iRng1 ta) g tb D σ H := h
theorem r_for2 {ta : TA} (h : ta σ H fun vs H1 => ∃ i j : Int, vs = [.int i, .int j] ∧ (-(2 ^ 62) ≤ i ∧ i < 2 ^ 62 ∧ -(2 ^ 62) ≤ j ∧ j < 2 ^ 62) ∧ tFor (fun _ H2 R => R (Itr i (j - i).toNat) H2) g tb D σ H1) : tFor (iRng2 ta) g tb D σ H := h
theorem r_forR {lo : Int} {n : Nat} (Pv : Nat → L2.St → Hp → Prop) (h0 : Pv 0 σ H)
    (hs : ∀ i σ H, i < n → Pv i σ H → g (.int (lo + i)) σ H fun σ2 H2 => tb { D with nx := Pv (i + 1), ct := Pv (i + 1), bk := D.nx } σ2 H2) (hd : ∀ σ H, Pv n σ H → D.nx σ H) :
    tFor (fun _ H2 R => R (Itr lo n) H2) g tb D σ H := for_range Pv h0 hs hd
theorem r_forL {te : TE} (h : te σ H fun x H1 => ∃ a, x = .ref a ∧ (∃ xs, SqL K H1 a xs) ∧ tFor (fun _ H2 R => R (Itl K a) H2) g tb D σ H1) : tFor (iList K te) g tb D σ H := h
theorem r_forT {te : TE} (h : te σ H fun x H1 => ∃ a, x = .ref a ∧ (∃ xs, SqT K H1 a xs) ∧ tFor (fun _ H2 R => R (Itt K a) H2) g tb D σ H1) : tFor (iTup K te) g tb D σ H := h
theorem r_forLs {a : Addr} (xs : List V) (Pv : Nat → L2.St → Hp → Prop) (h0 : Pv 0 σ H) (hl : ∀ i σ H, i ≤ xs.length → Pv i σ H → SqL K H a xs)
    (hs : ∀ i x σ H, xs[i]? = some x → Pv i σ H → g x σ H fun σ2 H2 => tb { D with nx := Pv (i + 1), ct := Pv (i + 1), bk := D.nx } σ2 H2) (hd : ∀ σ H, Pv xs.length σ H → D.nx σ H) :
    tFor (fun _ H2 R => R (Itl K a) H2) g tb D σ H := for_list Pv h0 hl hs hd
theorem r_forTs {a : Addr} (xs : List V) (Pv : Nat → L2.St → Hp → Prop) (h0 : Pv 0 σ H) (hl : ∀ i σ H, i ≤ xs.length → Pv i σ H → SqT K H a xs)
    (hs : ∀ i x σ H, xs[i]? = some x → Pv i σ H → g x σ H fun σ2 H2 => tb { D with nx := Pv (i + 1), ct := Pv (i + 1), bk := D.nx } σ2 H2) (hd : ∀ σ H, Pv xs.length σ H → D.nx σ H) :
    tFor (fun _ H2 R => R (Itt K a) H2) g tb D σ H := for_tup Pv h0 hl hs hd
/-! comprehensions -/
variable {te : TE} {vs : List Nat} {Q : VK}
theorem r_lcR1 {ta : TA} (h : ta σ H fun ws H1 => ∃ j : Int, ws = [.int j] ∧ -(2 ^ 62) ≤ j ∧ j < 2 ^ 62 ∧ tLc (fun _ H2 R => R (Itr 0 j.toNat) H2) g tt te vs σ H1 Q) : tLc (iRng1 ta) g tt te vs σ H Q := h
theorem r_lcR2 {ta : TA} (h : ta σ H fun ws H1 => ∃ i j : Int, ws = [.int i, .int j] ∧ (-(2 ^ 62) ≤ i ∧ i < 2 ^ 62 ∧ -(2 ^ 62) ≤ j ∧ j < 2 ^ 62) ∧ tLc (fun _ H2 R => R (Itr i (j - i).toNat) H2) g tt te vs σ H1 Q) : tLc (iRng2 ta) g tt te vs σ H Q := h
theorem r_lcL {tl : TE} (h : tl σ H fun x H1 => ∃ a, x = .ref a ∧ (∃ xs, SqL K H1 a xs) ∧ tLc (fun _ H2 R => R (Itl K a) H2) g tt te vs σ H1 Q) : tLc (iList K tl) g tt te vs σ H Q := h
theorem r_lcT {tl : TE} (h : tl σ H fun x H1 => ∃ a, x = .ref a ∧ (∃ xs, SqT K H1 a xs) ∧ tLc (fun _ H2 R => R (Itt K a) H2) g tt te vs σ H1 Q) : tLc (iTup K tl) g tt te vs σ H Q := h
theorem r_lcR {lo : Int} {n : Nat} (Pv : Addr → Nat → Hp → Prop) (h0 : ∀ D, H D = none → Pv D 0 (upd H D (.lst [])))
    (hs : ∀ D i H', H D = none → i < n → Pv D i H' → g (.int (lo + i)) (wipe σ vs) H' fun σ2 H2 => wipe σ2 vs = wipe σ vs ∧ tt σ2 H2 fun b H3 =>
      if b = true then te σ2 H3 fun y H4 => ∃ acc, H4 D = some (.lst acc) ∧ acc.length < sizeLine ∧ Pv D (i + 1) (upd H4 D (.lst (acc ++ [y]))) else Pv D (i + 1) H3)
    (hd : ∀ D H', H D = none → Pv D n H' → Q (.ref D) H') : tLc (fun _ H2 R => R (Itr lo n) H2) g tt te vs σ H Q :=
  fun D hD => lc_range (Pv D) (h0 D hD) (fun i H' hi p => hs D i H' hD hi p) (fun H' p => hd D H' hD p)
theorem r_lcLs {a : Addr} (xs : List V) (Pv : Addr → Nat → Hp → Prop) (h0 : ∀ D, H D = none → Pv D 0 (upd H D (.lst []))) (hl : ∀ D i H', H D = none → i ≤ xs.length → Pv D i H' → SqL K H' a xs)
    (hs : ∀ D i x H', H D = none → xs[i]? = some x → Pv D i H' → g x (wipe σ vs) H' fun σ2 H2 => wipe σ2 vs = wipe σ vs ∧ tt σ2 H2 fun b H3 =>
      if b = true then te σ2 H3 fun y H4 => ∃ acc, H4 D = some (.lst acc) ∧ acc.length < sizeLine ∧ Pv D (i + 1) (upd H4 D (.lst (acc ++ [y]))) else Pv D (i + 1) H3)
    (hd : ∀ D H', H D = none → Pv D xs.length H' → Q (.ref D) H') : tLc (fun _ H2 R => R (Itl K a) H2) g tt te vs σ H Q :=
  fun D hD => lc_list (Pv D) (h0 D hD) (fun i H' hi p => hl D i H' hD hi p) (fun i x H' hx p => hs D i x H' hD hx p) (fun H' p => hd D H' hD p)
theorem r_lcTs {a : Addr} (xs : List V) (Pv : Addr → Nat → Hp → Prop) (h0 : ∀ D, H D = none → Pv D 0 (upd H D (.lst []))) (hl : ∀ D i H', H D = none → i ≤ xs.length → Pv D i H' → SqT K H' a xs)
    (hs : ∀ D i x H', H D = none → xs[i]? = some x → Pv D i H' → g x (wipe σ vs) H' fun σ2 H2 => wipe σ2 vs = wipe σ vs ∧ tt σ2 H2 fun b H3 =>
      if b = true then te σ2 H3 fun y H4 => ∃ acc, H4 D = some (.lst acc) ∧ acc.length < sizeLine ∧ Pv D (i + 1) (upd H4 D (.lst (acc ++ [y]))) else Pv D (i + 1) H3)
    (hd : ∀ D H', H D = none → Pv D xs.length H' → Q (.ref D) H') : tLc (fun _ H2 R => R (Itt K a) H2) g tt te vs σ H Q :=
  fun D hD => lc_tup (Pv D) (h0 D hD) (fun i H' hi p => hl D i H' hD hi p) (fun i x H' hx p => hs D i x H' hD hx p) (fun H' p => hd D H' hD p)
end
end Vf

namespace Vf
open PySem PySem.Spec PyProof.Rows L2
/-! ## the law's source of numbers -/
theorem bits_mono {x y : Int} (h : x.natAbs ≤ y.natAbs) : Builtin.Int.intBits x ≤ Builtin.Int.intBits y := by
  by_cases z : y = 0
  · subst z
    have : x = 0 := by omega
    subst this
    exact Nat.le_refl _
  · have e : Builtin.Int.intBits y = y.natAbs.log2 + 1 := by
      unfold Builtin.Int.intBits
      rw [if_neg (by simpa using z)]
    rw [e]
    exact PyProof.Rows.intBits_le (Nat.lt_of_le_of_lt h Nat.lt_log2_self)
structure KegOk (a b c : Int) (n : Nat) : Prop where
  a0 : 0 ≤ a
  ab : Builtin.Int.intBits a ≤ 1048600
  b0 : 0 ≤ b
  bM : b < 2147482801
  c0 : 0 ≤ c
  cn : c ≤ n
def Keg (n : Nat) (k : Addr) (H : Hp) : Prop := ∃ a b c : Int, H k = some (.lst [.int a, .int b, .int c]) ∧ KegOk a b c n
theorem Keg.mono {n m : Nat} {k : Addr} {H : Hp} (h : Keg n k H) (l : n ≤ m) : Keg m k H := by
  obtain ⟨a, b, c, e, o⟩ := h
  exact ⟨a, b, c, e, o.a0, o.ab, o.b0, o.bM, o.c0, by have := o.cn; omega⟩
theorem Keg.same {n : Nat} {k : Addr} {H H' : Hp} (h : Keg n k H) (s : Same H H') : Keg n k H' := by
  obtain ⟨a, b, c, e, o⟩ := h
  exact ⟨a, b, c, s _ _ e, o⟩
theorem Keg.new {n : Nat} {k p : Addr} {H : Hp} {o : HO} (h : Keg n k H) (hp : H p = none) : Keg n k (upd H p o) := h.same (Same.new hp)
theorem Keg.ne {n : Nat} {k p : Addr} {H : Hp} (h : Keg n k H) (hp : H p = none) : p ≠ k := by
  obtain ⟨a, b, c, e, o⟩ := h
  exact (ne_of_none e hp).symm
theorem Keg.none {n : Nat} {k q : Addr} {H H' : Hp} (h : Keg n k H') (e : Kx k H H') (hq : H' q = Option.none) : H q = Option.none := by
  obtain ⟨a, b, c, z, o⟩ := h
  exact none_kx e z hq
def sp_tap : Sp := fun vs H Q _ => ∃ (k : Addr) (u : Int) (n : Nat), vs = [.ref k, .int u] ∧ Keg n k H ∧ n ≤ 2 ^ 60 ∧ 0 < u ∧ u < 2 ^ 62 ∧
  ∀ f H', 0 ≤ f → f < u → Kx k H H' → Keg (n + 1) k H' → Q (.int f) H'
theorem i_tap {k : Addr} {u : Int} {H : Hp} {Q : VK} {E : XK} (n : Nat) (hk : Keg n k H) (hn : n ≤ 2 ^ 60) (h0 : 0 < u) (h1 : u < 2 ^ 62)
    (q : ∀ f H', 0 ≤ f → f < u → Kx k H H' → Keg (n + 1) k H' → Q (.int f) H') : sp_tap [.ref k, .int u] H Q E := ⟨k, u, n, rfl, hk, hn, h0, h1, q⟩
def sp_any (K : PySem.W.Frag) : Sp := fun vs H Q _ => ∃ (k t : Addr) (xs : List V) (n : Nat), vs = [.ref k, .ref t] ∧ Keg n k H ∧ n ≤ 2 ^ 60 ∧ t ≠ k ∧ SqL K H t xs ∧ 0 < xs.length ∧ xs.length ≤ 100000 ∧
  ∀ (i : Nat) (x : V) H', xs[i]? = some x → Kx k H H' → Keg (n + 1) k H' → Q x H'
theorem i_any {K : PySem.W.Frag} {k t : Addr} {H : Hp} {Q : VK} {E : XK} (n : Nat) (xs : List V) (hk : Keg n k H) (hn : n ≤ 2 ^ 60) (ht : t ≠ k) (hs : SqL K H t xs) (h0 : 0 < xs.length) (h1 : xs.length ≤ 100000)
    (q : ∀ (i : Nat) x H', xs[i]? = some x → Kx k H H' → Keg (n + 1) k H' → Q x H') : sp_any K [.ref k, .ref t] H Q E := ⟨k, t, xs, n, rfl, hk, hn, ht, hs, h0, h1, q⟩
/-- the script's ints are of at most 2 ^ 20 bits -/
def Script (ns : List Int) : Prop := ns.length ≤ 63 ∧ ∀ z ∈ ns, Builtin.Int.intBits z ≤ 1048576
def sp_keg (K : PySem.W.Frag) : Sp := fun vs H Q _ => ∃ (c : Addr) (ns : List Int) (j : Nat), vs = [.ref c, .int (j : Int)] ∧ SqL K H c (ns.map V.int) ∧ Script ns ∧ j ≤ 1000 ∧
  ∀ p H', Same H H' → H p = none → Keg 1 p H' → Q (.ref p) H'
theorem i_keg {K : PySem.W.Frag} {c : Addr} {H : Hp} {Q : VK} {E : XK} (ns : List Int) (j : Nat) (hs : SqL K H c (ns.map V.int)) (hn : Script ns) (hj : j ≤ 1000)
    (q : ∀ p H', Same H H' → H p = none → Keg 1 p H' → Q (.ref p) H') : sp_keg K [.ref c, .int (j : Int)] H Q E := ⟨c, ns, j, rfl, hs, hn, hj, q⟩
/-- a product of two ints of so many bits at most -/
theorem bit_mul {i j : Int} {a b : Nat} (ha : Builtin.Int.intBits i ≤ a) (hb : Builtin.Int.intBits j ≤ b) (h : a + b ≤ 134217728) : CMulX i j := by
  unfold CMulX
  omega
theorem bit_of {i : Int} {a : Nat} (h : i.natAbs < 2 ^ a) : Builtin.Int.intBits i ≤ a := PyProof.Rows.intBits_le h
theorem divp_of {i j : Int} (h : 0 < j) (hj : j < 2 ^ 62) : CDivP i j :=
  ⟨h, PyProof.noPylong_of_log2 (Nat.lt_of_lt_of_le (log_lim (k := 62) (by omega) (by decide)) (by decide))⟩
theorem divw_of {i j : Int} (h : 0 < j) (hj : j < 2 ^ 62) : CDivW i j := wide_div (b := 62) h (by omega) (by decide) (by decide)
end Vf

namespace Vf
open PySem PySem.Spec PyProof.Rows L2
/-! ## data: what repr of it is like, and == -/
mutual
/-- no text, no dict; each number of fewer than 1920 bits -/
def tame : PyData → Bool
  | .none | .bool _ => true
  | .int i => decide (i.natAbs.log2 < 1920)
  | .list xs | .tuple xs => tameAll xs
  | _ => false
def tameAll : List PyData → Bool
  | [] => true
  | x :: xs => tame x && tameAll xs
end
mutual
def room : PyData → Nat
  | .list xs | .tuple xs => 4 + roomAll xs
  | _ => 2000
def roomAll : List PyData → Nat
  | [] => 0
  | x :: xs => room x + 2 + roomAll xs
end
theorem from_le : ∀ (ts : List Str) (k : Nat) (acc : Str), (textFrom k acc ts).length ≤ acc.length + piled ts
  | [], _, _ => Nat.le_add_right _ _
  | t :: r, k, acc => by
    refine Nat.le_trans (from_le r (k + 1) _) ?_
    rw [strLen_append, strLen_append, piled_cons]
    have e : (Str.ofString (if k > 0 then ", " else "" : String)).length ≤ 2 := by
      split
      · decide +kernel
      · decide +kernel
    omega
theorem listText_le (ts : List Str) : (listText ts).length ≤ 4 + piled ts := by
  show (textFrom 0 "[" ts ++ "]").length ≤ _
  rw [strLen_append]
  have h := from_le ts 0 "["
  have e1 : ("[" : Str).length = 1 := by decide +kernel
  have e2 : ("]" : Str).length = 1 := by decide +kernel
  omega
theorem tupleText_le (ts : List Str) : (tupleText ts).length ≤ 4 + piled ts := by
  unfold tupleText
  rw [strLen_append, strLen_append]
  have e1 : ("(" : Str).length = 1 := by decide +kernel
  have e2 : (if (ts.length == 1) = true then ",)" else ")" : String) = ",)" ∨ (if (ts.length == 1) = true then ",)" else ")" : String) = ")" := by split <;> simp
  have e3 : (Str.ofString (if (ts.length == 1) = true then ",)" else ")" : String)).length ≤ 2 := by
    rcases e2 with e | e <;> rw [e] <;> decide +kernel
  have e4 : (Str.join ", " ts).length ≤ piled ts := by
    by_cases z : ts = []
    · subst z; decide +kernel
    · have := join_length_add ts z; omega
  show ("(" : Str).length + _ + (Str.ofString _).length ≤ _
  omega
mutual
theorem shown_le : ∀ d : PyData, tame d = true → d.showable = true ∧ d.hasDict = false ∧ (d.shown).length ≤ room d
  | .none, _ => ⟨rfl, rfl, by show ("None" : Str).length ≤ 2000; decide +kernel⟩
  | .bool b, _ => ⟨rfl, rfl, by cases b <;> decide +kernel⟩
  | .int i, h => by
    have h1 : i.natAbs.log2 < 1920 := of_decide_eq_true h
    refine ⟨by simpa [PyData.showable] using h1, rfl, ?_⟩
    have e := int_text_length_le (k := 1920) (by decide) h1
    show (Str.ofString (toString i)).length ≤ 2000
    rw [PySem.ofString_length]
    omega
  | .str _, h => by cases h
  | .dict _, h => by cases h
  | .list xs, h => by
    obtain ⟨a, b, c⟩ := shown_leAll xs h
    refine ⟨a, b, ?_⟩
    have := listText_le (PyData.shownAll xs)
    show (listText (PyData.shownAll xs)).length ≤ 4 + roomAll xs
    omega
  | .tuple xs, h => by
    obtain ⟨a, b, c⟩ := shown_leAll xs h
    refine ⟨a, b, ?_⟩
    have := tupleText_le (PyData.shownAll xs)
    show (tupleText (PyData.shownAll xs)).length ≤ 4 + roomAll xs
    omega
theorem shown_leAll : ∀ ds : List PyData, tameAll ds = true → PyData.showableAll ds = true ∧ PyData.hasDictAll ds = false ∧ piled (PyData.shownAll ds) ≤ roomAll ds
  | [], _ => ⟨rfl, rfl, Nat.le_refl _⟩
  | d :: ds, h => by
    have h2 : (tame d && tameAll ds) = true := h
    rw [Bool.and_eq_true] at h2
    obtain ⟨a, b, c⟩ := shown_le d h2.1
    obtain ⟨a2, b2, c2⟩ := shown_leAll ds h2.2
    refine ⟨by simp [PyData.showableAll, a, a2], by simp [PyData.hasDictAll, b, b2], ?_⟩
    show piled (d.shown :: PyData.shownAll ds) ≤ room d + 2 + roomAll ds
    rw [piled_cons]
    omega
end
theorem tameInts : ∀ ns : List Int, (∀ n ∈ ns, n.natAbs < 2 ^ 1900) → tameAll (ns.map PyData.int) = true
  | [], _ => rfl
  | n :: ns, h => by
    show (tame (.int n) && tameAll (ns.map PyData.int)) = true
    rw [tameInts ns fun m hm => h m (List.mem_cons_of_mem _ hm), Bool.and_true]
    refine decide_eq_true (log_lim (Nat.lt_of_lt_of_le (h n List.mem_cons_self) (Nat.pow_le_pow_right (by decide) (by decide))) (by decide))
theorem roomInts : ∀ ns : List Int, roomAll (ns.map PyData.int) = 2002 * ns.length
  | [] => rfl
  | n :: ns => by
    show 2000 + 2 + roomAll (ns.map PyData.int) = 2002 * (ns.length + 1)
    rw [roomInts ns]; omega
theorem depthInts : ∀ ns : List Int, PyData.depthAll (ns.map PyData.int) = 0
  | [] => rfl
  | n :: ns => by
    show max (PyData.depth (.int n)) (PyData.depthAll (ns.map PyData.int)) = 0
    rw [depthInts ns]; rfl
/-- what repr gives of a list of ints -/
def intsD (ns : List Int) : PyData := .list (ns.map PyData.int)
section
variable {K : PySem.W.Frag} {H : Hp} {Q : VK}
theorem r_reprD {a : Addr} (d : PyData) (hd : Dp K H (.ref a) d) (ht : tame d = true) (hp : d.depth ≤ 40) (hz : room d ≤ 100000) (h : Q (.str d.shown) H) : rRepr K [.ref a] H Q := by
  obtain ⟨h1, _, h2⟩ := shown_le d ht
  exact r_repr hd h1 hp (small (Nat.le_trans h2 hz)) h
theorem Dp.intsD {a : Addr} {ns : List Int} (h : SqL K H a (ns.map V.int)) : Dp K H (.ref a) (intsD ns) := .lst h (DpAll.ints ns)
theorem r_reprI {a : Addr} (ns : List Int) (hs : SqL K H a (ns.map V.int)) (hb : ∀ n ∈ ns, n.natAbs < 2 ^ 1900) (hl : ns.length ≤ 40) (h : Q (.str (intsD ns).shown) H) : rRepr K [.ref a] H Q := by
  refine r_reprD (intsD ns) (Dp.intsD hs) (tameInts ns hb) ?_ ?_ h
  · show PyData.depthAll (ns.map PyData.int) + 1 ≤ 40
    rw [depthInts]; decide
  · show 4 + roomAll (ns.map PyData.int) ≤ 100000
    rw [roomInts]; omega
/-- a list times a number -/
theorem r_rep {a : Addr} {xs : List V} {k : Int} (hl : H a = some (.lst xs)) (h0 : 0 ≤ k) (h1 : k ≤ 1000) (hx : xs.length ≤ 1000) (h : ∀ p, H p = none → Q (.ref p) (upd H p (.lst (List.replicate k.toNat xs).flatten))) : rRep (.ref a) (.int k) H Q := by
  refine ⟨a, k, xs, rfl, rfl, hl, by omega, by omega, ?_, h⟩
  have : xs.length * k.toNat ≤ 1000 * 1000 := Nat.mul_le_mul hx (by omega)
  exact Nat.le_trans this (by decide)
theorem eqvInts : ∀ ns ms : List Int, PyData.eqvAll (ns.map PyData.int) (ms.map PyData.int) = decide (ns = ms)
  | [], [] => rfl
  | [], _ :: _ => rfl
  | _ :: _, [] => rfl
  | n :: ns, m :: ms => by
    show (n == m && PyData.eqvAll (ns.map PyData.int) (ms.map PyData.int)) = _
    rw [eqvInts ns ms]
    by_cases e : n = m
    · subst e
      by_cases e2 : ns = ms
      · subst e2; simp
      · simp [e2]
    · simp [e]
theorem canInts : ∀ ns : List Int, PyData.canLayAll0 (ns.map PyData.int) = true
  | [] => rfl
  | n :: ns => by
    show (PyData.canLay0 (.int n) && PyData.canLayAll0 (ns.map PyData.int)) = true
    rw [canInts ns]; rfl
theorem shapedInts (ns : List Int) : SeqAt.shaped (intsD ns) = true := by
  unfold SeqAt.shaped
  rw [Bool.and_eq_true]
  refine ⟨canInts ns, decide_eq_true ?_⟩
  show PyData.depthAll (ns.map PyData.int) + 1 ≤ 64
  rw [depthInts]; decide
/-- two lists of ints compared -/
theorem r_neI {a b : Addr} (ns ms : List Int) (h1 : SqL K H a (ns.map V.int)) (h2 : SqL K H b (ms.map V.int)) (h : Q (.bl (!decide (ns = ms))) H) : rNeD K (.ref a) (.ref b) H Q := by
  refine r_neD (Dp.intsD h1) (Dp.intsD h2) (shapedInts ns) (shapedInts ms) ?_
  rw [show PyData.eqv (intsD ns) (intsD ms) = decide (ns = ms) from eqvInts ns ms]
  exact h
theorem r_eqI {a b : Addr} (ns ms : List Int) (h1 : SqL K H a (ns.map V.int)) (h2 : SqL K H b (ms.map V.int)) (h : Q (.bl (decide (ns = ms))) H) : rEqD K (.ref a) (.ref b) H Q := by
  refine r_eqD (Dp.intsD h1) (Dp.intsD h2) (shapedInts ns) (shapedInts ms) ?_
  rw [show PyData.eqv (intsD ns) (intsD ms) = decide (ns = ms) from eqvInts ns ms]
  exact h
end
end Vf

namespace Vf
open PySem PySem.Spec PyProof.Rows L2
/-! ## the law's own call, from the promise of its def -/
section
variable {P : Program} {w : World} {K : PySem.W.Frag} {mg mb : Str → Option Value} {k : Nat} {fa a : Addr} {st : Stmt} {x y : Str} {sp : Sp} {s₁ : Shared} {vs : List Value} {ns : List Int}
/-- what the whole call is to come to -/
abbrev Told (s₁ : Shared) (r : Result) (s' : Shared) : Prop :=
  r = .ok (.ret (.bool true)) ∧ OldK s₁.heap s'.heap ∧ s'.os = s₁.os ∧ AllBare s'.gens
theorem law_g (KX : K.In s₁.heap) (hns : s₁.heap.Ns mainGlobals mg) (hb : s₁.heap.Ns builtinsNs mb) (hbb : ∀ z : Str, z ≠ "__name__" → mb z = bootBuiltins z)
    (hlim : s₁.heap.NoLimit) (hg : s₁.gens = #[]) (ha : s₁.heap.get? a = some { cls := .type "list", data := .seq vs.toArray }) (hi : IntsAre vs ns) (hl : ns.length ≤ sizeLine)
    (hr : Room k callerA) (hfa : mg x = some (.ref fa)) (F : ∀ base : Heap, K.In base → base.Ns mainGlobals mg → Ok P w K mg base k x st [y] sp)
    (B : ∀ f fd, L2.Fun K x x st f fd → L2.Binds K fd [y] [])
    (hsp : ∀ H : Hp, L2.Only H → SqL K H a (ns.map V.int) → sp [.ref a] H (fun v _ => v = .bl true) fun _ _ _ => False) :
    codeAny (model P w) callerA (.call (.ref fa) ⟨[.ref a], []⟩) (Told s₁) s₁ := by
  have rv := vals_ints hi
  -- over a heap that tracks the script alone, or nothing
  have run : ∀ H : Hp, L2.Only H → SqL K H a (ns.map V.int) → HOk P w H s₁.heap → (∀ b o, H b = some o → b = a ∧ K.lookup a = none) →
      codeAny (model P w) callerA (.call (.ref fa) ⟨[.ref a], []⟩) (Told s₁) s₁ := by
    intro H hO hS hok only
    -- the base: all that H does not track
    have dictNone : ∀ {b : Addr} {o : Obj} {es : Array DictEntry} {ep : Nat}, s₁.heap.get? b = some o → o.data = .dict es ep → H b = none := by
      intro b o es ep e d
      rcases hz : H b with _ | u
      · rfl
      · obtain ⟨rfl, _⟩ := only b u hz
        rw [ha] at e
        injection e with e
        rw [← e] at d
        exact absurd d (by intro z; injection z)
    have space : ∀ {b : Addr} {m : Str → Option Value}, s₁.heap.Ns b m → (hidT s₁.heap H).Ns b m := by
      rintro b m ⟨o, es, ep, e, d, rest⟩
      exact ⟨o, es, ep, hidT_get e (dictNone e d), d, rest⟩
    have kin : K.In (hidT s₁.heap H) := by
      intro b o e
      refine hidT_get (KX b o e) ?_
      rcases hz : H b with _ | u
      · rfl
      · obtain ⟨rfl, n⟩ := only b u hz
        rw [n] at e
        cases e
    obtain ⟨mc, hc1, hc2⟩ := hlim
    have env : Env0 P w K mg (hidT s₁.heap H) callerA [] s₁ H :=
      { frames := rfl, mod := ⟨kin, space hns, ⟨mb, space hb, hbb⟩, ⟨mc, space hc1, hc2⟩⟩, bs := fun b o e => of_hidT e, bsz := Nat.le_of_eq (hidT_size _ _)
        funs := trivial, frf := fun b z => absurd (show b ∈ ([] : List Addr) from z) List.not_mem_nil, hok := hok, bare := .of_eq hg }
    obtain ⟨⟨f, fd, G, hm, go⟩, _⟩ := F _ kin (space hns)
    have ef : f = fa := by
      rw [hfa] at hm
      injection hm with hm
      injection hm with hm
      exact hm.symm
    subst ef
    have bind := B f fd G s₁ [.ref a] KX rfl
    rw [List.append_nil] at bind
    refine codeAny_mono (go callerA [] s₁ H ⟨[.ref a], []⟩ [.ref a] [.ref a] (fun v _ => v = .bl true) (fun _ _ _ => False) rfl hr env bind (.cons rfl .nil) (hsp H hO hS)) ?_
    intro r s' h
    rcases r with e | fl
    · obtain ⟨_, _, _, _, _, _, _, _, _, _, _, _, z⟩ := h
      exact z.elim
    · rcases fl with _ | _ | _ | u
      · exact False.elim h
      · exact False.elim h
      · exact False.elim h
      · obtain ⟨v, H', os, bare, un, hok', rr, q⟩ := h
        have q2 : v = .bl true := q
        subst q2
        have eu : u = Value.bool true := rr
        subst eu
        refine ⟨rfl, OldK.of_keep (fun b o e => ?_), os, bare⟩
        rcases hz : H b with _ | u
        · exact un.keep b o e hz (fun z => absurd (show b ∈ ([] : List Addr) from z) List.not_mem_nil) List.not_mem_nil
        · rcases hO b with z | ⟨ob, xs, z⟩
          · rw [hz] at z; cases z
          · have e1 := (hok b _ z).1
            have e2 := (hok' b _ (un.frzs b ob _ z)).1
            rw [e] at e1
            rw [e2, e1]
  rcases hk : K.lookup a with _ | o
  · -- the script is no object of the module: it is tracked, as a locked list
    let sc : Obj := { cls := .type "list", data := .seq vs.toArray }
    let H : Hp := fun b => if b = a then some (.frz sc (.lst (ns.map V.int))) else none
    have at_ : H a = some (.frz sc (.lst (ns.map V.int))) := if_pos rfl
    have off : ∀ b, b ≠ a → H b = none := fun b n => if_neg n
    have here : ∀ b o, H b = some o → b = a := fun b o e => by
      by_cases n : b = a
      · exact n
      · rw [off b n] at e; cases e
    refine run H (fun b => ?_) (Or.inl (Or.inr ⟨sc, at_⟩)) (fun b o e => ?_) (fun b o e => ⟨here b o e, hk⟩)
    · by_cases n : b = a
      · subst n; exact Or.inr ⟨_, _, at_⟩
      · exact Or.inl (off b n)
    · have n := here b o e
      subst n
      rw [at_] at e
      injection e with e
      subst e
      exact ⟨ha, by rw [List.length_map]; exact hl, vs, _, rv, ha⟩
  · -- it is one
    have e := KX a o hk
    rw [ha] at e
    injection e with e
    subst e
    refine run (fun _ => none) (fun _ => Or.inl rfl) (Or.inr ⟨_, vs.toArray, _, hk, rfl, rfl, rfl, ?_, ?_⟩) (fun b u z => ?_) (fun b u z => ?_)
    · rw [List.size_toArray, hi.length]; exact hl
    · simpa using rv
    · cases (show (none : Option HO) = some u from z)
    · cases (show (none : Option HO) = some u from z)
end
/-- the end of a law: the promise of its def, with the script's bits told -/
theorem walk_g {l : PySem.W.OpenLaw} {n k : Nat} {q : Program} {loose : List Str} {XP : (Str → Option Value) → Heap → Prop} {YP : World → Heap → Prop} {d : DefRec} {K : Params → PySem.W.Frag} {sp : PySem.W.Frag → Sp} {y : Str} {st : Stmt}
    (hn : l.most = some n) (hn2 : n ≤ sizeLine) (hdf : d.params.defaults = []) (hr : Room k callerA) (hY : ∀ (w : World) (h : Heap), YP w h → (K w.params).In h)
    (F : ∀ (w : World) (mg : Str → Option Value) (h : Heap), (K w.params).In h → h.Ns mainGlobals mg → ∀ base : Heap, (K w.params).In base → base.Ns mainGlobals mg → Ok l.prog w (K w.params) mg base k d.name st [y] (sp (K w.params)))
    (B : ∀ (w : World) f fd, L2.Fun (K w.params) d.name d.name st f fd → L2.Binds (K w.params) fd [y] [])
    (hsp : ∀ (w : World) (H : Hp) (a : Addr) (ns : List Int), ns.length ≤ n → (∀ z ∈ ns, Builtin.Int.intBits z ≤ 1048576) → SqL (K w.params) H a (ns.map V.int) → sp (K w.params) [.ref a] H (fun v _ => v = .bl true) fun _ _ _ => False) :
    PySem.W.WalkO q loose XP YP l.row.toRowW d [] (fun f vs => PySem.call f vs) := by
  refine Att.attach_callB hn hdf fun w s₀ s₁ mg mb fa o pm cd doc a vs ns G Y ho hd hcd hmg hobj hints hlen hbits hg => ?_
  have KX := hY w _ Y
  exact law_g KX G.T.g G.T.b G.T.builtins G.T.nolimit hg hobj hints (Nat.le_trans hlen hn2) hr hmg (F w mg _ KX G.T.g) (B w) fun H hO hS => hsp w H a ns hlen hbits hS
end Vf

namespace Vf
open PySem PySem.Spec PyProof.Rows L2
/-! ## enumerate(t), t a tuple -/
section
open AutoSeq1 (wpAny_loadPart')
/-- what enumerate makes of a tuple: its iterator, then the object that counts -/
def enT (h : Heap) (a : Addr) : Heap := h.push { cls := .type "tuple_iterator", data := .fields #[.ref a, .int 0 0] }
def enE (h : Heap) : Obj := { cls := .type "enumerate", data := .fields #[.none, .bool false, .ref h.objs.size, rawInt 0, .none, .none] }
theorem meets_enT (a : Addr) (items : Array Value) (n : Nat) (dct : Option Addr) (sl : Array (Option Value)) :
    Meets (Builtin.«enumerate.__new__» ⟨[.type "enumerate", .ref a], []⟩)
      (fun _ R s => s.heap.get? a = some { cls := .type "tuple", dict := dct, data := .seq items n, slots := sl } ∧
        R (.ok (.ret (.ref (enT s.heap a).objs.size))) { s with heap := (enT s.heap a).push (enE s.heap) }) :=
  .of_wp fun prog w A R s h => by
    obtain ⟨hp, g, d, tk, os⟩ := s
    obtain ⟨ho, h⟩ := h
    have sub := sub_enumerate
    have tup : Heap.IsTuple (Shared.heap ⟨hp, g, d, tk, os⟩) a items := ⟨_, ho, rfl, n, rfl⟩
    wp_walk using wpAny_loadPart' ho
    refine wpAny_stack_any fun st => wpAny_pure ?_
    split
    · rename_i c _ _ _ _ _
      rcases (c == Value.type "enumerate") with _ | _
      · wp_walk using wpAny_loadPart' ho, wpAny_pyIter_tuple tup
        exact ⟨_, rfl, h⟩
      · wp_walk using wpAny_loadPart' ho, wpAny_pyIter_tuple tup
        exact ⟨_, rfl, h⟩
    · wp_walk using wpAny_loadPart' ho, wpAny_pyIter_tuple tup
      exact ⟨_, rfl, h⟩
end
section
variable {prog : Program} {w : World} {A : Around} {E : Value → Shared → Prop} {s : Shared}
theorem call_enT {a : Addr} {items : Array Value} {Q : Value → Shared → Prop} (tup : s.heap.IsTuple a items)
    (h : ∀ h', IsEnum h' (s.heap.objs.size + 1) s.heap.objs.size 0 .none → h'.IsTupleIter s.heap.objs.size a 0 →
      (∀ b o, s.heap.get? b = some o → h'.get? b = some o) → Q (.ref (s.heap.objs.size + 1)) { s with heap := h' }) :
    wpAny (model prog w) A (call (.type "enumerate") [.ref a]) Q E s := by
  obtain ⟨⟨c, dct, dt, sl⟩, ho, hc, n, hd⟩ := tup
  cases (show c = .type "tuple" from hc)
  cases (show dt = .seq items n from hd)
  have sz : (enT s.heap a).objs.size = s.heap.objs.size + 1 := Heap.size_push ..
  have it0 : (enT s.heap a).get? s.heap.objs.size = some { cls := .type "tuple_iterator", data := .fields #[.ref a, .int 0 0] } := Heap.get?_push_size _ rfl
  have en0 : ((enT s.heap a).push (enE s.heap)).get? (s.heap.objs.size + 1) = some (enE s.heap) := by
    rw [← sz]
    exact Heap.get?_push_size _ rfl
  refine callType_new F.called_enumerate (by decide) (F.typeCall_enumerate_1 _) (F.newCall_enumerate_1 _)
    (fun obj => F.args_object_init_2 obj _) F.entry_enumerate_new (meets_enT a items n dct sl) ⟨ho, ?_⟩
  show _ ∧ _
  rw [sz]
  exact ⟨⟨_, en0, rfl⟩, h _ en0 ⟨_, Heap.get?_push_of_some _ it0, rfl, rfl⟩ fun b o e => Heap.get?_push_of_some _ (Heap.get?_push_of_some _ e)⟩
end
theorem drawsT {prog : Program} {w : World} {A : Around} (hh : A.handled = none) (it a : Addr) (ne : a ≠ it) (items : Array Value) :
    Draws prog w A it [it, a] items.size (fun i v => items[i]? = some v) (fun i h => h.IsTupleIter it a i ∧ h.IsTuple a items) where
  live := fun i h st => by
    obtain ⟨⟨o, ho, _⟩, _⟩ := st
    exact ⟨o, ho⟩
  frame := fun i h h' st k => by
    obtain ⟨⟨o, ho, r⟩, ⟨o2, ho2, r2⟩⟩ := st
    exact ⟨⟨o, k it (by simp) o ho, r⟩, ⟨o2, k a (by simp) o2 ho2, r2⟩⟩
  item := fun i s Q E hi st q => RZ.nextOf_tuple_item st.1 st.2 (x := items[i]) (by simp [hi]) fun h' hit sb =>
    q _ h' s.toks (by simp [hi]) ⟨hit, by
      obtain ⟨o2, ho2, r2⟩ := st.2
      exact ⟨o2, (sb.2 a ne).trans ho2, r2⟩⟩ sb
  done := fun s Q E st q => RZ.nextOf_tuple_end hh st.1 st.2 (by simp) q
/-- the tuple at a, each item in a new pair with its place -/
def ItE (K : PySem.W.Frag) (a : Addr) : It :=
  ⟨fun i H => ∃ (xs : List V) (x : V), SqT K H a xs ∧ xs[i]? = some x,
   fun i H v H' => ∃ T x, v = .ref T ∧ H T = none ∧ H' = upd H T (.tup [.int (i : Nat), x]) ∧ ∀ xs, SqT K H a xs → xs[i]? = some x,
   fun i H => ∃ xs : List V, SqT K H a xs ∧ xs.length ≤ i⟩
def EnAt (a e it : Addr) (i : Nat) (h : Heap) : Prop := (∃ old, IsEnum h e it ((i : Nat) : Int) old) ∧ h.IsTupleIter it a i ∧ e ≠ it ∧ e ≠ a ∧ it ≠ a
theorem turn_enT {P : Program} {w : World} {K : PySem.W.Frag} {elts : List Expr} {kk : Nat} {tpos : Pos} (a e it : Addr) :
    Turn P w K (.Tuple elts kk tpos) (ItE K a) [e, it] e (EnAt a e it) where
  mem := List.mem_cons_self
  obj := fun i h st b hb => by
    obtain ⟨⟨old, he⟩, ⟨o, ho, hc, hd⟩, _⟩ := st
    rcases List.mem_cons.mp hb with rfl | hb
    · exact ⟨_, he, fun v q => nomatch q⟩
    · rw [List.mem_singleton.mp hb]
      exact ⟨o, ho, fun v q => by rw [hd] at q; cases q⟩
  keep := fun i h h' st k => by
    obtain ⟨⟨old, he⟩, ⟨o, ho, r⟩, n⟩ := st
    exact ⟨⟨old, k e (by simp) _ he⟩, ⟨o, k it (by simp) _ ho, r⟩, n⟩
  item := by
    intro X hP hw hK hc i pins s σ H E I hf st hg
    subst hP hw hK
    obtain ⟨⟨old, he⟩, hit, n1, n2, n3⟩ := st
    obtain ⟨xs, x, hq, hx⟩ := hg
    obtain ⟨its, rv, p, hz⟩ := I.tuple hq
    obtain ⟨u, hu, ru⟩ := rv.get hx
    have tup : s.heap.IsTuple a its.toArray := p
    have hel := Heap.lt_size he
    have hil : it < s.heap.objs.size := by
      obtain ⟨_, q, _⟩ := hit
      exact Heap.lt_size q
    have hi : i < its.toArray.size := by
      rw [List.size_toArray]
      exact (List.getElem?_eq_some_iff.mp hu).1
    refine wpAny_pyNext_enum_itemD (drawsT (A := X.A.in1) (I.ok.hd hc) it a n3.symm its.toArray) he ⟨hit, tup⟩ hi n1 (by simp [n1, n2]) fun y h' tk hy ho st' hT hsz hk => ?_
    have eyu : y = u := by
      have h1 : its[i]? = some y := by simpa using hy
      rw [hu] at h1
      exact (Option.some.inj h1).symm
    subst eyu
    refine ⟨_, rfl, wpAny_letOwnedTupleGo_enum (s := { s with heap := h', toks := tk + 1 }) ho fun h'' he' sb => ?_⟩
    have hT2 : h''.get? s.heap.objs.size = some { cls := .type "tuple", data := .seq #[.int i tk, y] } := (sb.2 _ (Nat.ne_of_gt hel)).trans hT
    have new : ObjOk X.prog X.w (upd H s.heap.objs.size (.tup [.int (i : Nat), x])) h'' s.heap.objs.size (.tup [.int (i : Nat), x]) :=
      ⟨by show 2 ≤ sizeLine; decide, [.int i tk, y], .cons ⟨_, rfl⟩ (.cons ru .nil), ⟨_, hT2, rfl, _, rfl⟩⟩
    have stay : ∀ b ob, b ∉ [e, it] → s.heap.get? b = some ob → h''.get? b = some ob := fun b ob hb q =>
      (sb.2 b (fun z => hb (by simp [z]))).trans (hk b ob (fun z => hb (by simp [z])) (fun z => hb (by simp [z])) q)
    have I1 := I.turnedNew (t' := tk + 1) (ch := [e, it]) stay hf (Nat.le_refl _) new
    refine ⟨.ref s.heap.objs.size, _, I1, rfl, ⟨_, x, rfl, I.hok.fresh (Nat.le_refl _), rfl, fun ys hy2 => by rw [I.tuple_inj hy2 hq]; exact hx⟩, ⟨⟨y, ?_⟩, ?_, n1, n2, n3⟩, fun b hb => ?_⟩
    · rw [show ((i + 1 : Nat) : Int) = (i : Int) + 1 by omega]
      exact he'
    · obtain ⟨o, ho2, r⟩ := st'.1
      exact ⟨o, (sb.2 it n1.symm).trans ho2, r⟩
    · have lt : b < s.heap.objs.size := by
        rcases List.mem_cons.mp hb with rfl | hb
        · exact hel
        · rw [List.mem_singleton.mp hb]; exact hil
      rw [upd_ne (Nat.ne_of_lt lt)]
      exact (hf b hb).1
  done := by
    intro X hP hw hK hc i pins s σ H E I hf st hg
    subst hP hw hK
    obtain ⟨⟨old, he⟩, hit, n1, n2, n3⟩ := st
    obtain ⟨xs, hq, hx⟩ := hg
    obtain ⟨its, rv, p, hz⟩ := I.tuple hq
    obtain ⟨f0, f1, f2, f3, f4, f5⟩ := hf it (by simp)
    have tup : s.heap.IsTuple a its.toArray := p
    have hT : s.TypeIs (.ref e) "enumerate" := ⟨_, he, rfl⟩
    have hl := rv.length
    unfold pyNext
    refine wpAny_bind (wpAny_attempt (wpAny_callSpecial?_slot (name := Str.ofString "__next__") hT F.slot_enumerate_next
      (wpAny_call_entry F.slot_enumerate_next hT F.entry_enumerate_next ?_ (F.args_enumerate_next_1 _))))
    show wpAny _ _ (field (.ref e) 2 >>= _) _ _ _
    refine wpAny_bind (wpAny_field he rfl (x := .ref it) rfl ?_)
    refine wpAny_bind (RZ.nextOf_tuple_end (A := X.A.in1) (I.ok.hd hc) hit tup (by simp; omega) fun h' z hb hz2 => ?_)
    obtain ⟨o, ho, hcl⟩ := hz2
    refine wpAny_bind (wpAny_isInstance (T := "StopIteration") (b := true) ⟨o, ho, hcl⟩ isSubtype_stop ?_)
    exact wpAny_pure ⟨rfl, I.turned (t' := s.toks) (fun b o hb2 q => hb b o hb2 q) f0 f1 f3 f4 f5⟩
  self := fun A i s Q E st h => by
    obtain ⟨⟨_, he⟩, _⟩ := st
    exact wpAny_pyIter_enum he h
def iEn (K : PySem.W.Frag) (ta : TA) : TI := fun σ H R => ta σ H fun vs H1 => ∃ a xs, vs = [.ref a] ∧ SqT K H1 a xs ∧ R (ItE K a) H1
theorem i_enT {X : Cx} {K : PySem.W.Frag} {e : Expr} {ta : TA} {p pos tpos : Pos} {elts : List Expr} {kk : Nat} (ek : X.K = K) (hg : Gl X "enumerate") (hm : X.mg "enumerate" = none) (ha : PA X [e] ta)
    (hs : starEach [e] X.env = [(false, eval e X.env)] := by rfl) : PI X (.Tuple elts kk tpos) (.Call (.Name "enumerate" p) [e] [] pos) (iEn K ta) := by
  subst ek
  refine ⟨fun pins s σ H R I h => ?_⟩
  refine Call_ (ld_blt I hg hm boot_enumerate (PyProof.Rows.callWith_type1 (thn (ha.run pos pins s σ H _ I h) fun us s1 ⟨vs, H1, I1, r1, q1⟩ => ?_) hs rfl))
  obtain ⟨a, xs, rfl, hq, q⟩ := q1
  have eu := Vals.ref1 r1
  subst eu
  obtain ⟨its, rv, tup, hz⟩ := I1.tuple hq
  have hal : a < s1.heap.objs.size := tup.lt
  refine call_enT tup fun h' he hit hk => wpAny_pyIter_enum he ?_
  refine ⟨s1.heap.objs.size + 1, [s1.heap.objs.size + 1, s1.heap.objs.size], EnAt a (s1.heap.objs.size + 1) s1.heap.objs.size, _, H1, rfl, I1.kept (t' := s1.toks) hk, turn_enT a _ _,
    ⟨⟨.none, he⟩, hit, Nat.succ_ne_self _, Nat.ne_of_gt (Nat.lt_succ_of_lt hal), Nat.ne_of_gt hal⟩, fun b hb => ?_, q⟩
  have le : s1.heap.objs.size ≤ b := by
    rcases List.mem_cons.mp hb with rfl | hb
    · exact Nat.le_succ _
    · rw [List.mem_singleton.mp hb]; exact Nat.le_refl _
  exact I1.fpOk le (I1.hok.fresh le)
/-- slices -/
theorem r_slL {K : PySem.W.Frag} {H : Hp} {Q : VK} {a : Addr} {xs : List V} {lo hi : Option Int} (hs : SqL K H a xs) (h : ∀ p, H p = none → Q (.ref p) (upd H p (.lst (cutV xs lo hi)))) : rSlL K (.ref a) lo hi H Q := ⟨a, xs, rfl, hs, h⟩
theorem r_sl {r : V → Option Int → Option Int → Hp → VK → Prop} {te : TE} {tl th : TO} {σ : L2.St} {H : Hp} {Q : VK} (h : te σ H fun x H1 => tl σ H1 fun l H2 => th σ H2 fun u H3 => r x l u H3 Q) : tSl r te tl th σ H Q := h
theorem r_noPart {σ : L2.St} {H : Hp} {R : Option Int → Hp → Prop} (h : R none H) : tNoPart σ H R := h
theorem r_part {t : TE} {σ : L2.St} {H : Hp} {R : Option Int → Hp → Prop} (h : t σ H fun x H1 => ∃ i, x = .int i ∧ R (some i) H1) : tPart t σ H R := h
theorem cut_to (xs : List V) (n : Nat) : cutV xs none (some (n : Int)) = xs.take n := by
  unfold cutV
  rw [HT.sIx_none, HT.sIx_nat, List.drop_zero, Nat.sub_zero]
  rcases Nat.le_total n xs.length with h | h
  · rw [Nat.min_eq_left h]
  · rw [Nat.min_eq_right h, List.take_length, List.take_of_length_le h]
/-- a walk of a tuple with its places -/
theorem r_forEn {K : PySem.W.Frag} {g : TG} {tb : TS} {D : Ends} {σ : L2.St} {H : Hp} {a : Addr} (xs : List V) (Pv : Nat → L2.St → Hp → Prop) (h0 : Pv 0 σ H) (hl : ∀ i σ H, i ≤ xs.length → Pv i σ H → SqT K H a xs)
    (hs : ∀ i x σ H T, xs[i]? = some x → Pv i σ H → H T = none → g (.ref T) σ (upd H T (.tup [.int (i : Nat), x])) fun σ2 H2 => tb { D with nx := Pv (i + 1), ct := Pv (i + 1), bk := D.nx } σ2 H2)
    (hd : ∀ σ H, Pv xs.length σ H → D.nx σ H) : tFor (fun _ H2 R => R (ItE K a) H2) g tb D σ H := by
  refine ⟨fun i m σ H => m = xs.length - i ∧ i ≤ xs.length ∧ Pv i σ H, ⟨xs.length, by omega, Nat.zero_le _, h0⟩, ?_⟩
  rintro i m σ H ⟨rfl, hi, p⟩
  have q := hl i σ H hi p
  by_cases lt : i < xs.length
  · refine Or.inr ⟨⟨xs, xs[i], q, by simp [lt]⟩, Pv (i + 1), fun σ' H' p' => ⟨xs.length - (i + 1), by omega, rfl, lt, p'⟩, fun x H' y => ?_⟩
    obtain ⟨T, z, rfl, nT, rfl, fz⟩ := y
    exact hs i z σ H T (fz xs q) p nT
  · have e : i = xs.length := by omega
    subst e
    exact Or.inl ⟨⟨xs, q, Nat.le_refl _⟩, hd σ H p⟩
theorem r_forE {K : PySem.W.Frag} {g : TG} {tb : TS} {D : Ends} {σ : L2.St} {H : Hp} {ta : TA} (h : ta σ H fun vs H1 => ∃ a xs, vs = [.ref a] ∧ SqT K H1 a xs ∧ tFor (fun _ H2 R => R (ItE K a) H2) g tb D σ H1) : tFor (iEn K ta) g tb D σ H := h
end Vf

namespace Vf
/-! ## the greatest common divisor as a sum of both -/
/-- behind the first turn: both rests have one sign s, the factors of the first number go up and down by turns -/
def Bl (y u nu l r : Int) : Prop := ∃ (s e : Int) (p q a b : Nat), (s = 1 ∨ s = -1) ∧ (e = 1 ∨ e = -1) ∧ l = s * a ∧ r = s * b ∧ u = e * p ∧ nu = -(e * q) ∧ p * b + q * a = y.natAbs ∧ b < a ∧ p ≤ y.natAbs ∧ a ≤ y.natAbs
structure Bz (x y u v nu nv l r : Int) : Prop where
  e1 : u * x + v * y = l
  e2 : nu * x + nv * y = r
  g : Nat.gcd l.natAbs r.natAbs = Nat.gcd x.natAbs y.natAbs
  st : (u = 1 ∧ v = 0 ∧ nu = 0 ∧ nv = 1 ∧ l = x ∧ r = y) ∨ (y ≠ 0 ∧ Bl y u nu l r)
theorem Bz.first (x y : Int) : Bz x y 1 0 0 1 x y := ⟨by omega, by omega, rfl, .inl ⟨rfl, rfl, rfl, rfl, rfl, rfl⟩⟩
theorem nat_gcd_sub (l r t : Int) : Nat.gcd r.natAbs (l - t * r).natAbs = Nat.gcd l.natAbs r.natAbs := by
  have h : Int.gcd r (l - t * r) = Int.gcd r l := Int.gcd_sub_mul_right_right r l t
  rw [show Nat.gcd r.natAbs (l - t * r).natAbs = Int.gcd r (l - t * r) from rfl, h, Int.gcd_comm]
  rfl
theorem sgn_abs {s : Int} (h : s = 1 ∨ s = -1) (n : Nat) : (s * n).natAbs = n := by
  rcases h with h | h <;> subst h <;> omega
theorem fmod_neg (l r : Int) (h : r < 0) : l.fmod r ≤ 0 ∧ r < l.fmod r := by
  have e := Int.neg_fmod_neg (-l) (-r)
  rw [Int.neg_neg, Int.neg_neg] at e
  have h1 := Int.fmod_nonneg_of_pos (-l) (show 0 < -r by omega)
  have h2 := Int.fmod_lt_of_pos (-l) (show 0 < -r by omega)
  omega
theorem Bl.step {y u nu l r : Int} (h : Bl y u nu l r) (hr : r ≠ 0) : Bl y nu (u - l.fdiv r * nu) r (l - l.fdiv r * r) := by
  obtain ⟨s, e, p, q, a, b, hs, he, hl, hrr, hu, hnu, hy, hab, hp, ha⟩ := h
  have hb : 0 < b := by
    rcases Nat.eq_zero_or_pos b with z | z
    · subst z
      exact absurd (by rw [hrr]; simp) hr
    · exact z
  have ht : l.fdiv r = ((a / b : Nat) : Int) := by
    rw [hl, hrr]
    rcases hs with z | z <;> subst z
    · rw [Int.one_mul, Int.one_mul, Int.fdiv_eq_ediv_of_nonneg _ (by omega)]
      rfl
    · rw [Int.neg_mul, Int.neg_mul, Int.one_mul, Int.one_mul, Int.neg_fdiv_neg, Int.fdiv_eq_ediv_of_nonneg _ (by omega)]
      rfl
  have hd := Nat.div_add_mod a b
  have hm := Nat.mod_lt a hb
  rw [ht]
  generalize a / b = d at *
  generalize a % b = m at *
  have hd' : (b : Int) * d + m = a := by rw [← hd, Int.natCast_add, Int.natCast_mul]
  refine ⟨s, -e, q, p + d * q, b, m, hs, by omega, hrr, ?_, ?_, ?_, ?_, hm, ?_, by omega⟩
  · rw [hl, hrr, ← hd']
    grind
  · rw [hnu]; grind
  · rw [hu, hnu, Int.natCast_add, Int.natCast_mul]; grind
  · rw [← hy, ← hd]; grind
  · rw [← hy]
    have : q * 1 ≤ q * a := Nat.mul_le_mul_left q (by omega)
    omega
theorem Bz.step {x y u v nu nv l r : Int} (h : Bz x y u v nu nv l r) (hr : r ≠ 0) :
    Bz x y nu nv (u - l.fdiv r * nu) (v - l.fdiv r * nv) r (l - l.fdiv r * r) ∧ (l - l.fdiv r * r).natAbs < r.natAbs := by
  have key : l - l.fdiv r * r = l.fmod r := by rw [Int.fmod_def, Int.mul_comm]
  have lt : (l - l.fdiv r * r).natAbs < r.natAbs := by
    rw [key]
    rcases Int.lt_or_gt_of_ne hr with z | z
    · have h1 := fmod_neg l r z
      omega
    · have h1 := Int.fmod_nonneg_of_pos l z
      have h2 := Int.fmod_lt_of_pos l z
      omega
  refine ⟨⟨h.e2, ?_, ?_, .inr ?_⟩, lt⟩
  · have h1 := h.e1
    have h2 := h.e2
    grind
  · rw [nat_gcd_sub]; exact h.g
  · rcases h.st with ⟨e1, e2, e3, e4, e5, e6⟩ | ⟨hy, b⟩
    · subst e1 e2 e3 e4 e5 e6
      refine ⟨hr, ?_⟩
      rcases Int.lt_or_gt_of_ne hr with z | z
      · have h1 := (fmod_neg l r z).1
        refine ⟨-1, -1, 0, 1, r.natAbs, (l - l.fdiv r * r).natAbs, .inr rfl, .inr rfl, by omega, by omega, by omega, by omega, by omega, lt, by omega, by omega⟩
      · have h1 := Int.fmod_nonneg_of_pos l z
        refine ⟨1, -1, 0, 1, r.natAbs, (l - l.fdiv r * r).natAbs, .inl rfl, .inr rfl, by omega, by omega, by omega, by omega, by omega, lt, by omega, by omega⟩
    · exact ⟨hy, b.step hr⟩
theorem abs_of_mul {v y : Int} {B : Nat} (hy : y ≠ 0) (h : (v * y).natAbs ≤ B) : v.natAbs ≤ B := by
  rw [Int.natAbs_mul] at h
  exact Nat.le_trans (Nat.le_mul_of_pos_right _ (by omega)) h
theorem Bz.bounds {x y u v nu nv l r : Int} {B : Nat} (h : Bz x y u v nu nv l r) (hx : x.natAbs ≤ B) (hy : y.natAbs ≤ B) (hB : 1 ≤ B) :
    u.natAbs ≤ B ∧ nu.natAbs ≤ B ∧ l.natAbs ≤ B ∧ r.natAbs ≤ B ∧ v.natAbs ≤ B + B * B ∧ nv.natAbs ≤ B + B * B := by
  rcases h.st with ⟨e1, e2, e3, e4, e5, e6⟩ | ⟨h0, s, e, p, q, a, b, hs, he, hl, hrr, hu, hnu, hyy, hab, hp, ha⟩
  · subst e1 e2 e3 e4 e5 e6
    refine ⟨by omega, by omega, hx, hy, by omega, by omega⟩
  · have q1 : q ≤ y.natAbs := by
      rw [← hyy]
      have : q * 1 ≤ q * a := Nat.mul_le_mul_left q (by omega)
      omega
    have hub : u.natAbs ≤ B := by rw [hu, sgn_abs he]; omega
    have hnub : nu.natAbs ≤ B := by rw [hnu, Int.natAbs_neg, sgn_abs he]; omega
    have ra : r.natAbs = b := by rw [hrr, sgn_abs hs]
    have la : l.natAbs = a := by rw [hl, sgn_abs hs]
    have mb : ∀ (f : Int), f.natAbs ≤ B → (f * x).natAbs ≤ B * B := fun f hf => by
      rw [Int.natAbs_mul]; exact Nat.mul_le_mul hf hx
    have m1 := mb u hub
    have m2 := mb nu hnub
    have e1 := h.e1
    have e2 := h.e2
    refine ⟨hub, hnub, by omega, by omega, abs_of_mul h0 (by omega), abs_of_mul h0 (by omega)⟩
end Vf

namespace Vf
/-! ## two rests made one -/
theorem emod_unique {x r n q : Int} (h : x = r + n * q) (h0 : 0 ≤ r) (h1 : r < n) : x % n = r := by
  rw [h, Int.add_mul_emod_self_left]
  exact Int.emod_eq_of_lt h0 h1
/-- u is, by the step, what turns b / g back -/
theorem merge_math {x b c g bt ct u w : Int} (hb : 0 < b) (hc : 0 < c) (hg : 0 < g) (eb : b = g * bt) (ec : c = g * ct) (hu : u * bt = 1 + ct * w) :
    (x % c - x % b) % g = 0 ∧ x % b + b * (((x % c - x % b) / g * (u % ct)) % ct) = x % (b * ct) := by
  have hct : 0 < ct := by
    rcases Int.lt_trichotomy ct 0 with z | z | z
    · have := Int.mul_neg_of_pos_of_neg hg z; omega
    · subst z; omega
    · exact z
  have d1 := Int.emod_add_mul_ediv x b
  have d2 := Int.emod_add_mul_ediv x c
  generalize hr : x % b = r at *
  generalize hs : x % c = s at *
  generalize x / b = q at *
  generalize x / c = v at *
  have hr0 : 0 ≤ r := by rw [← hr]; exact Int.emod_nonneg _ (by omega)
  have hrb : r < b := by rw [← hr]; exact Int.emod_lt_of_pos _ hb
  -- the difference of the rests is g times d
  have hd : s - r = g * (bt * q - ct * v) := by
    subst eb ec
    have h1 : g * (bt * q - ct * v) = g * bt * q - g * ct * v := by grind
    rw [h1]
    omega
  have e0 : (s - r) % g = 0 := by rw [hd]; exact Int.mul_emod_right g _
  refine ⟨e0, ?_⟩
  have e1 : (s - r) / g = bt * q - ct * v := by rw [hd]; exact Int.mul_ediv_cancel_left _ (by omega)
  rw [e1]
  -- times is q, by the step
  have e2 : ((bt * q - ct * v) * (u % ct)) % ct = q % ct := by
    rw [Int.mul_emod, Int.emod_emod_of_dvd _ (Int.dvd_refl ct), ← Int.mul_emod]
    have : (bt * q - ct * v) * u = q + ct * (w * q - v * u) := by grind
    rw [this, Int.add_mul_emod_self_left]
  rw [e2]
  have dq := Int.emod_add_mul_ediv q ct
  have t0 := Int.emod_nonneg q (show ct ≠ 0 by omega)
  have t1 := Int.emod_lt_of_pos q hct
  generalize q % ct = t at *
  generalize q / ct = k at *
  refine (emod_unique (q := k) ?_ ?_ ?_).symm
  · rw [← d1, ← dq]; grind
  · have := Int.mul_nonneg (show 0 ≤ b by omega) t0
    omega
  · have h2 : b * (t + 1) ≤ b * ct := Int.mul_le_mul_of_nonneg_left (by omega) (by omega)
    rw [Int.mul_add, Int.mul_one] at h2
    omega
/-- least common multiples of some bases -/
def lcmAll (fs : List (Int × Int)) : Nat := fs.foldl (fun m p => Nat.lcm m p.2.natAbs) 1
theorem lcmAll_append (fs gs : List (Int × Int)) : lcmAll (fs ++ gs) = gs.foldl (fun m p => Nat.lcm m p.2.natAbs) (lcmAll fs) := by
  unfold lcmAll
  rw [List.foldl_append]
theorem lcmAll_snoc (fs : List (Int × Int)) (p : Int × Int) : lcmAll (fs ++ [p]) = Nat.lcm (lcmAll fs) p.2.natAbs := lcmAll_append fs [p]
/-- facts that are right: a base from 1 on, a rest by it -/
def Fact (p : Int × Int) : Prop := 1 ≤ p.2 ∧ p.2 ≤ 10 ^ 30 ∧ 0 ≤ p.1 ∧ p.1 < p.2
theorem lcmAll_pos : ∀ (fs : List (Int × Int)) (m : Nat), (∀ p ∈ fs, Fact p) → 0 < m → 0 < fs.foldl (fun m p => Nat.lcm m p.2.natAbs) m
  | [], _, _, h => h
  | p :: fs, m, hf, h => by
    have hp := hf p List.mem_cons_self
    exact lcmAll_pos fs _ (fun q hq => hf q (List.mem_cons_of_mem _ hq)) (Nat.lcm_pos h (by have := hp.1; omega))
theorem lcm_le_mul (a b : Nat) : Nat.lcm a b ≤ a * b := Nat.div_le_self _ _
theorem lcmAll_le : ∀ (fs : List (Int × Int)) (m e : Nat), (∀ p ∈ fs, Fact p) → m ≤ 2 ^ e → fs.foldl (fun m p => Nat.lcm m p.2.natAbs) m ≤ 2 ^ (e + 100 * fs.length)
  | [], _, _, _, h => h
  | p :: fs, m, e, hf, h => by
    have hp := hf p List.mem_cons_self
    have h2 : p.2.natAbs ≤ 2 ^ 100 := by
      obtain ⟨h1, h2, _⟩ := hp
      omega
    have h3 : Nat.lcm m p.2.natAbs ≤ 2 ^ (e + 100) := by
      rw [Nat.pow_add]
      exact Nat.le_trans (lcm_le_mul _ _) (Nat.mul_le_mul h h2)
    have := lcmAll_le fs _ (e + 100) (fun q hq => hf q (List.mem_cons_of_mem _ hq)) h3
    have e1 : e + 100 + 100 * fs.length = e + 100 * (p :: fs).length := by rw [List.length_cons]; omega
    rw [e1] at this
    exact this
theorem dvd_lcmAll : ∀ (fs : List (Int × Int)) (m : Nat), m ∣ fs.foldl (fun m p => Nat.lcm m p.2.natAbs) m ∧ ∀ p ∈ fs, p.2.natAbs ∣ fs.foldl (fun m p => Nat.lcm m p.2.natAbs) m
  | [], m => ⟨Nat.dvd_refl m, fun _ h => nomatch h⟩
  | p :: fs, m => by
    obtain ⟨h1, h2⟩ := dvd_lcmAll fs (Nat.lcm m p.2.natAbs)
    refine ⟨Nat.dvd_trans (Nat.dvd_lcm_left _ _) h1, fun q hq => ?_⟩
    rcases List.mem_cons.mp hq with rfl | hq
    · exact Nat.dvd_trans (Nat.dvd_lcm_right _ _) h1
    · exact h2 q hq
theorem lcmAll_dvd : ∀ (fs : List (Int × Int)) (m d : Nat), m ∣ d → (∀ p ∈ fs, p.2.natAbs ∣ d) → fs.foldl (fun m p => Nat.lcm m p.2.natAbs) m ∣ d
  | [], _, _, h, _ => h
  | p :: fs, m, d, h, hf => lcmAll_dvd fs _ d (Nat.lcm_dvd h (hf p List.mem_cons_self)) fun q hq => hf q (List.mem_cons_of_mem _ hq)
/-- a number fits some facts -/
def Fits (x : Int) (fs : List (Int × Int)) : Prop := ∀ p ∈ fs, x % p.2 = p.1
/-- whoever fits the facts that x fits leaves the rest of x by their multiple -/
theorem fits_iff {x y : Int} {fs : List (Int × Int)} (hf : ∀ p ∈ fs, Fact p) (hx : Fits x fs) : Fits y fs ↔ (lcmAll fs : Int) ∣ y - x := by
  constructor
  · intro hy
    have : lcmAll fs ∣ (y - x).natAbs := by
      refine lcmAll_dvd fs 1 _ (Nat.one_dvd _) fun p hp => ?_
      have h := Int.emod_emod_of_dvd (y - x) (Int.dvd_refl p.2)
      have e : y % p.2 = x % p.2 := by rw [hx p hp, hy p hp]
      have d : p.2 ∣ y - x := Int.dvd_of_emod_eq_zero (Int.emod_eq_emod_iff_emod_sub_eq_zero.mp e)
      exact Int.natAbs_dvd_natAbs.mpr d
    exact Int.dvd_natAbs.mp (Int.natCast_dvd_natCast.mpr this)
  · intro h p hp
    rw [← hx p hp]
    refine Int.emod_eq_emod_iff_emod_sub_eq_zero.mpr (Int.emod_eq_zero_of_dvd ?_)
    have d := (dvd_lcmAll fs 1).2 p hp
    have d2 : (p.2.natAbs : Int) ∣ (lcmAll fs : Int) := Int.natCast_dvd_natCast.mpr d
    have e : (p.2.natAbs : Int) = p.2 := by have := (hf p hp).1; omega
    rw [e] at d2
    exact Int.dvd_trans d2 h
end Vf

namespace Vf
open PySem PySem.Spec PyProof.Rows L2
/-! ## tuples stay, whatever a list does -/
theorem Kx.tupI {K : PySem.W.Frag} {k : Addr} {H H' : Hp} {l : List V} {a : Addr} {xs : List V} (e : Kx k H H') (hk : H k = some (.lst l)) (h : SqT K H a xs) : SqT K H' a xs := by
  rcases h with (h | ⟨o, h⟩) | h
  · exact Or.inl (Or.inl (e _ _ (ne_of h hk (by intro z; cases z)) h))
  · exact Or.inl (Or.inr ⟨o, e _ _ (ne_of h hk (by intro z; cases z)) h⟩)
  · exact Or.inr h
/-- what keeps all tuples -/
def Tt (H H' : Hp) : Prop := ∀ (K : PySem.W.Frag) a xs, SqT K H a xs → SqT K H' a xs
theorem Tt.refl (H : Hp) : Tt H H := fun _ _ _ h => h
theorem Tt.trans {H H1 H2 : Hp} (a : Tt H H1) (b : Tt H1 H2) : Tt H H2 := fun K x xs h => b K x xs (a K x xs h)
theorem Same.tt {H H' : Hp} (s : Same H H') : Tt H H' := fun _ _ _ h => Same.tup s h
theorem Kx.tt {k : Addr} {H H' : Hp} {l : List V} (e : Kx k H H') (hk : H k = some (.lst l)) : Tt H H' := fun _ _ _ h => e.tupI hk h
theorem new_tt {H : Hp} {p : Addr} {o : HO} (h : H p = none) : Tt H (upd H p o) := Same.tt (Same.new h)
theorem upd_tt {H : Hp} {k : Addr} {l : List V} {o : HO} (hk : H k = some (.lst l)) : Tt H (upd H k o) := Kx.tt Kx.upd hk
/-! ## pairs of ints, tuples of them -/
def PairAt (K : PySem.W.Frag) (H : Hp) (v : V) (p : Int × Int) : Prop := ∃ t, v = .ref t ∧ SqT K H t [.int p.1, .int p.2]
def PairsAt (K : PySem.W.Frag) (H : Hp) (vs : List V) (fs : List (Int × Int)) : Prop := Paired (PairAt K H) vs fs
def FactsAt (K : PySem.W.Frag) (H : Hp) (a : Addr) (fs : List (Int × Int)) : Prop := ∃ vs, SqT K H a vs ∧ PairsAt K H vs fs
theorem PairAt.tt {K : PySem.W.Frag} {H H' : Hp} {v : V} {p : Int × Int} (h : PairAt K H v p) (e : Tt H H') : PairAt K H' v p := by
  obtain ⟨t, rfl, s⟩ := h
  exact ⟨t, rfl, e K t _ s⟩
theorem PairsAt.tt {K : PySem.W.Frag} {H H' : Hp} (e : Tt H H') : ∀ {vs : List V} {fs : List (Int × Int)}, PairsAt K H vs fs → PairsAt K H' vs fs
  | _, _, .nil => .nil
  | _, _, .cons r t => .cons (r.tt e) (PairsAt.tt e t)
theorem FactsAt.tt {K : PySem.W.Frag} {H H' : Hp} {a : Addr} {fs : List (Int × Int)} (h : FactsAt K H a fs) (e : Tt H H') : FactsAt K H' a fs := by
  obtain ⟨vs, s, p⟩ := h
  exact ⟨vs, e K a _ s, PairsAt.tt e p⟩
theorem PairsAt.length {K : PySem.W.Frag} {H : Hp} {vs : List V} {fs : List (Int × Int)} (h : PairsAt K H vs fs) : vs.length = fs.length := Paired.length h
theorem PairsAt.get {K : PySem.W.Frag} {H : Hp} : ∀ {vs : List V} {fs : List (Int × Int)} {i : Nat} {x : V}, PairsAt K H vs fs → vs[i]? = some x → ∃ p, fs[i]? = some p ∧ PairAt K H x p
  | _, _, _, _, .nil, e => by simp at e
  | _, _, 0, x, .cons (b := q) r _, e => by
    simp at e
    subst e
    exact ⟨q, rfl, r⟩
  | _, _, i + 1, x, .cons _ t, e => by
    obtain ⟨p, h1, h2⟩ := PairsAt.get (i := i) (x := x) t (by simpa using e)
    exact ⟨p, by simpa using h1, h2⟩
theorem PairsAt.at {K : PySem.W.Frag} {H : Hp} {vs : List V} {fs : List (Int × Int)} {i : Nat} {p : Int × Int} (h : PairsAt K H vs fs) (e : fs[i]? = some p) : ∃ x, vs[i]? = some x ∧ PairAt K H x p := by
  have hl := h.length
  have hi : i < vs.length := by
    rw [hl]
    exact (List.getElem?_eq_some_iff.mp e).1
  obtain ⟨q, h1, h2⟩ := h.get (List.getElem?_eq_getElem hi)
  rw [e] at h1
  cases h1
  exact ⟨_, List.getElem?_eq_getElem hi, h2⟩
theorem PairsAt.append {K : PySem.W.Frag} {H : Hp} : ∀ {vs ws : List V} {fs gs : List (Int × Int)}, PairsAt K H vs fs → PairsAt K H ws gs → PairsAt K H (vs ++ ws) (fs ++ gs)
  | _, _, _, _, .nil, s => s
  | _, _, _, _, .cons r t, s => .cons r (PairsAt.append t s)
/-- facts that are right, at most forty -/
def Facts (fs : List (Int × Int)) : Prop := fs.length ≤ 40 ∧ ∀ p ∈ fs, Fact p
theorem Facts.at {fs : List (Int × Int)} (h : Facts fs) {i : Nat} {p : Int × Int} (e : fs[i]? = some p) : Fact p := h.2 p (List.mem_of_getElem? e)
theorem Facts.lcm_pos {fs : List (Int × Int)} (h : Facts fs) : 0 < lcmAll fs := lcmAll_pos fs 1 h.2 (by decide)
theorem Facts.lcm_bits {fs : List (Int × Int)} (h : Facts fs) : lcmAll fs ≤ 2 ^ (100 * fs.length) := by
  have := lcmAll_le fs 1 0 h.2 (Nat.le_refl 1)
  rwa [Nat.zero_add] at this
/-- a number of so many bits that all can be reckoned with it -/
def Bt (n : Nat) (i : Int) : Prop := Builtin.Int.intBits i ≤ n
theorem Bt.mul {a b : Nat} {i j : Int} (h1 : Bt a i) (h2 : Bt b j) (h : a + b ≤ 100000000) : CMulX i j := by
  unfold Bt at h1 h2
  unfold CMulX
  omega
theorem Bt.of {a : Nat} {i : Int} (h : i.natAbs < 2 ^ a) : Bt a i := bit_of h
theorem Bt.mono {a b : Nat} {i : Int} (h : Bt a i) (l : a ≤ b) : Bt b i := Nat.le_trans h l
theorem pow_lt_of_le {a b n : Nat} (h : n ≤ 2 ^ a) (l : a < b) : n < 2 ^ b := Nat.lt_of_le_of_lt h (Nat.pow_lt_pow_right (by decide) l)
theorem Bt.le {a : Nat} {i : Int} (h : i.natAbs ≤ 2 ^ a) : Bt (a + 1) i := Bt.of (pow_lt_of_le h (Nat.lt_succ_self a))
/-! ## the law's jug -/
def Jug (n : Nat) (k : Addr) (H : Hp) : Prop := ∃ a b c : Int, H k = some (.lst [.int b, .int a, .int c]) ∧ KegOk a b c n
theorem Jug.mono {n m : Nat} {k : Addr} {H : Hp} (h : Jug n k H) (l : n ≤ m) : Jug m k H := by
  obtain ⟨a, b, c, e, o⟩ := h
  exact ⟨a, b, c, e, o.a0, o.ab, o.b0, o.bM, o.c0, by have := o.cn; omega⟩
theorem Jug.same {n : Nat} {k : Addr} {H H' : Hp} (h : Jug n k H) (s : Same H H') : Jug n k H' := by
  obtain ⟨a, b, c, e, o⟩ := h
  exact ⟨a, b, c, s _ _ e, o⟩
theorem Jug.new {n : Nat} {k p : Addr} {H : Hp} {o : HO} (h : Jug n k H) (hp : H p = none) : Jug n k (upd H p o) := h.same (Same.new hp)
theorem Jug.ne {n : Nat} {k p : Addr} {H : Hp} (h : Jug n k H) (hp : H p = none) : p ≠ k := by
  obtain ⟨a, b, c, e, o⟩ := h
  exact (ne_of_none e hp).symm
theorem Jug.tt {n : Nat} {k : Addr} {H H' : Hp} (h : Jug n k H) (e : Kx k H H') : Tt H H' := by
  obtain ⟨a, b, c, z, o⟩ := h
  exact e.tt z
theorem Jug.kx {n m : Nat} {k j : Addr} {H H' : Hp} (h : Jug n k H) (e : Kx j H H') (ne : k ≠ j) : Jug n k H' := by
  obtain ⟨a, b, c, z, o⟩ := h
  exact ⟨a, b, c, e _ _ ne z, o⟩
def sp_pour : Sp := fun vs H Q _ => ∃ (k : Addr) (u : Int) (n : Nat), vs = [.ref k, .int u] ∧ Jug n k H ∧ n ≤ 2 ^ 60 ∧ 0 < u ∧ u < 2 ^ 62 ∧
  ∀ f H', 0 ≤ f → f < u → Kx k H H' → Jug (n + 1) k H' → Q (.int f) H'
theorem i_pour {k : Addr} {u : Int} {H : Hp} {Q : VK} {E : XK} (n : Nat) (hk : Jug n k H) (hn : n ≤ 2 ^ 60) (h0 : 0 < u) (h1 : u < 2 ^ 62)
    (q : ∀ f H', 0 ≤ f → f < u → Kx k H H' → Jug (n + 1) k H' → Q (.int f) H') : sp_pour [.ref k, .int u] H Q E := ⟨k, u, n, rfl, hk, hn, h0, h1, q⟩
def sp_one_of (K : PySem.W.Frag) : Sp := fun vs H Q _ => ∃ (k t : Addr) (xs : List V) (n : Nat), vs = [.ref k, .ref t] ∧ Jug n k H ∧ n ≤ 2 ^ 60 ∧ t ≠ k ∧ SqL K H t xs ∧ 0 < xs.length ∧ xs.length ≤ 100000 ∧
  ∀ (i : Nat) (x : V) H', xs[i]? = some x → Kx k H H' → Jug (n + 1) k H' → Q x H'
theorem i_one_of {K : PySem.W.Frag} {k t : Addr} {H : Hp} {Q : VK} {E : XK} (n : Nat) (xs : List V) (hk : Jug n k H) (hn : n ≤ 2 ^ 60) (ht : t ≠ k) (hs : SqL K H t xs) (h0 : 0 < xs.length) (h1 : xs.length ≤ 100000)
    (q : ∀ (i : Nat) x H', xs[i]? = some x → Kx k H H' → Jug (n + 1) k H' → Q x H') : sp_one_of K [.ref k, .ref t] H Q E := ⟨k, t, xs, n, rfl, hk, hn, ht, hs, h0, h1, q⟩
def sp_jug (K : PySem.W.Frag) : Sp := fun vs H Q _ => ∃ (c : Addr) (ns : List Int) (j : Nat), vs = [.ref c, .int (j : Int)] ∧ SqL K H c (ns.map V.int) ∧ Script ns ∧ j ≤ 1000 ∧
  ∀ p H', Same H H' → H p = none → Jug 1 p H' → Q (.ref p) H'
theorem i_jug {K : PySem.W.Frag} {c : Addr} {H : Hp} {Q : VK} {E : XK} (ns : List Int) (j : Nat) (hs : SqL K H c (ns.map V.int)) (hn : Script ns) (hj : j ≤ 1000)
    (q : ∀ p H', Same H H' → H p = none → Jug 1 p H' → Q (.ref p) H') : sp_jug K [.ref c, .int (j : Int)] H Q E := ⟨c, ns, j, rfl, hs, hn, hj, q⟩
def sp_great : Sp := fun vs H Q _ => ∃ (k : Addr) (u : Int) (n : Nat), vs = [.ref k, .int u] ∧ Jug n k H ∧ n ≤ 2 ^ 59 ∧ 0 < u ∧
  ∀ f H', 0 ≤ f → f < u → f < 10 ^ 37 → Kx k H H' → Jug (n + 10) k H' → Q (.int f) H'
theorem i_great {k : Addr} {u : Int} {H : Hp} {Q : VK} {E : XK} (n : Nat) (hk : Jug n k H) (hn : n ≤ 2 ^ 59) (h0 : 0 < u)
    (q : ∀ f H', 0 ≤ f → f < u → f < 10 ^ 37 → Kx k H H' → Jug (n + 10) k H' → Q (.int f) H') : sp_great [.ref k, .int u] H Q E := ⟨k, u, n, rfl, hk, hn, h0, q⟩
end Vf

namespace Vf
open PySem PySem.Spec PyProof.Rows L2
/-! ## two walks in one comprehension -/
/-- the inner walk: item by item, then Nx -/
def Inn (D : Addr) (J1 : It) (g1 : TG) (tt1 : TT) (te : TE) (vs1 : List Nat) (σ2 : L2.St) (H4 : Hp) (Nx : Hp → Prop) : Prop :=
  ∃ W1 : Nat → Nat → Hp → Prop, (∃ m, W1 0 m H4) ∧ ∀ j k H, W1 j k H →
      (J1.stop j H ∧ Nx H) ∨ (J1.go j H ∧ ∃ Nx1 : Hp → Prop, (∀ H', Nx1 H' → ∃ k', k' < k ∧ W1 (j + 1) k' H') ∧ ∀ x H', J1.yld j H x H' → g1 x (wipe σ2 vs1) H' fun σ3 H5 => wipe σ3 vs1 = wipe σ2 vs1 ∧ tt1 σ3 H5 fun b H6 =>
        if b = true then te σ3 H6 fun y H7 => ∃ acc, H7 D = some (.lst acc) ∧ acc.length < sizeLine ∧ Nx1 (upd H7 D (.lst (acc ++ [y]))) else Nx1 H6)
theorem inn_range {D : Addr} {g1 : TG} {tt1 : TT} {te : TE} {vs1 : List Nat} {σ2 : L2.St} {H4 : Hp} {Nx : Hp → Prop} {lo : Int} {n : Nat} (Pv : Nat → Hp → Prop) (h0 : Pv 0 H4)
    (hs : ∀ j H, j < n → Pv j H → g1 (.int (lo + j)) (wipe σ2 vs1) H fun σ3 H5 => wipe σ3 vs1 = wipe σ2 vs1 ∧ tt1 σ3 H5 fun b H6 =>
        if b = true then te σ3 H6 fun y H7 => ∃ acc, H7 D = some (.lst acc) ∧ acc.length < sizeLine ∧ Pv (j + 1) (upd H7 D (.lst (acc ++ [y]))) else Pv (j + 1) H6)
    (hd : ∀ H, Pv n H → Nx H) : Inn D (Itr lo n) g1 tt1 te vs1 σ2 H4 Nx := by
  refine ⟨fun i m H => m = n - i ∧ i ≤ n ∧ Pv i H, ⟨n, by omega, Nat.zero_le _, h0⟩, ?_⟩
  rintro i m H ⟨rfl, hi, p⟩
  by_cases lt : i < n
  · refine Or.inr ⟨lt, Pv (i + 1), fun H' p' => ⟨n - (i + 1), by omega, rfl, lt, p'⟩, fun x H' y => ?_⟩
    obtain ⟨e, y⟩ := y
    subst e y
    exact hs i _ lt p
  · have e : i = n := by omega
    subst e
    exact Or.inl ⟨Nat.le_refl _, hd H p⟩
section
variable {σ : L2.St} {H : Hp} {Q : VK} {g g1 : TG} {tt tt1 : TT} {te : TE} {vs vs1 : List Nat} {wi1 : TI}
theorem r_lc2R {lo : Int} {n : Nat} (Pv : Addr → Nat → Hp → Prop) (h0 : ∀ D, H D = none → Pv D 0 (upd H D (.lst [])))
    (hs : ∀ D i H', H D = none → i < n → Pv D i H' → g (.int (lo + i)) (wipe σ vs) H' fun σ2 H2 => wipe σ2 vs = wipe σ vs ∧ tt σ2 H2 fun b H3 =>
      if b = true then wi1 σ2 H3 fun J1 H4 => Inn D J1 g1 tt1 te vs1 σ2 H4 (Pv D (i + 1)) else Pv D (i + 1) H3)
    (hd : ∀ D H', H D = none → Pv D n H' → Q (.ref D) H') : tLc2 (fun _ H2 R => R (Itr lo n) H2) g tt wi1 g1 tt1 te vs vs1 σ H Q := by
  refine fun D hD => ⟨fun i m H => m = n - i ∧ i ≤ n ∧ Pv D i H, ⟨n, by omega, Nat.zero_le _, h0 D hD⟩, ?_⟩
  rintro i m H' ⟨rfl, hi, p⟩
  by_cases lt : i < n
  · refine Or.inr ⟨lt, Pv D (i + 1), fun H' p' => ⟨n - (i + 1), by omega, rfl, lt, p'⟩, fun x H' y => ?_⟩
    obtain ⟨e, y⟩ := y
    subst e y
    exact hs D i _ hD lt p
  · have e : i = n := by omega
    subst e
    exact Or.inl ⟨Nat.le_refl _, hd D H' hD p⟩
theorem r_lc2R1 {ta : TA} (h : ta σ H fun ws H1 => ∃ j : Int, ws = [.int j] ∧ -(2 ^ 62) ≤ j ∧ j < 2 ^ 62 ∧ tLc2 (fun _ H2 R => R (Itr 0 j.toNat) H2) g tt wi1 g1 tt1 te vs vs1 σ H1 Q) : tLc2 (iRng1 ta) g tt wi1 g1 tt1 te vs vs1 σ H Q := h
theorem r_w2 {ta : TA} {R : It → Hp → Prop} (h : ta σ H fun ws H1 => ∃ i j : Int, ws = [.int i, .int j] ∧ (-(2 ^ 62) ≤ i ∧ i < 2 ^ 62 ∧ -(2 ^ 62) ≤ j ∧ j < 2 ^ 62) ∧ R (Itr i (j - i).toNat) H1) : iRng2 ta σ H R := h
end
theorem is_T_T {K : PySem.W.Frag} {H : Hp} {Q : VK} {a : Addr} {xs : List V} (hs : SqT K H a xs) (h : Q (.bl true) H) : rIsi K [.ref a, .ty "tuple"] H Q := by
  have t : TyX K H (.ref a) (.type "tuple") := by
    rcases hs with (e | ⟨o, e⟩) | ⟨o, _, _, e, c, _⟩
    · exact .base (.tup e)
    · exact .fTuple e
    · exact .kTuple e c
  exact r_isi (.ty "tuple") t (kit_ty (by decide +kernel)) h
theorem r_bm {K : PySem.W.Frag} {T : String} {r : V → List V → Hp → VK → Prop} {to : TE} {t : TA} {σ : L2.St} {H : Hp} {Q : VK} (h : to σ H fun x H1 => tyV K T x H1 ∧ t σ H1 fun xs H2 => r x xs H2 Q) : tBM K T r to t σ H Q := h
theorem r_app {H : Hp} {Q : VK} {l : Addr} {xs : List V} {y : V} (e : H l = some (.lst xs)) (hz : xs.length ≤ 100000) (h : Q .non (upd H l (.lst (xs ++ [y])))) : rAppend (.ref l) [y] H Q :=
  ⟨l, xs, y, rfl, rfl, e, Nat.lt_of_le_of_lt hz (by decide), h⟩
/-! ## how great all that is reckoned can get -/
def Bq : Nat := 2 ^ 4001
theorem Bq_one : 1 ≤ Bq := by decide +kernel
theorem Bq_two : 2 * Bq < 2 ^ 4003 := by decide +kernel
theorem Bq_sq : Bq + Bq * Bq < 2 ^ 8010 := by decide +kernel
theorem Bq_lt : Bq < 2 ^ 4003 := by decide +kernel
theorem Bq_90 : Bq < 2 ^ 9000 := by decide +kernel
theorem Facts.lcm_Bq {fs : List (Int × Int)} (h : ∀ p ∈ fs, Fact p) (hl : fs.length ≤ 40) : lcmAll fs ≤ Bq := by
  refine Nat.le_trans (Facts.lcm_bits ⟨hl, h⟩) (Nat.pow_le_pow_right (by decide) ?_)
  omega
theorem Bq_div {i j : Int} (h0 : 0 < j) (h : j.natAbs ≤ Bq) : CDivW i j := wide_div (b := 4003) h0 (Nat.lt_of_le_of_lt h Bq_lt) (by decide) (by decide)
theorem Bq_bits {i : Int} (h : i.natAbs ≤ Bq) : Builtin.Int.intBits i ≤ 4003 := bit_of (Nat.lt_of_le_of_lt h Bq_lt)
theorem lcmAll_small : ∀ (fs : List (Int × Int)) (m e : Nat), (∀ p ∈ fs, p.2.natAbs ≤ 2 ^ 6) → m ≤ 2 ^ e → fs.foldl (fun m p => Nat.lcm m p.2.natAbs) m ≤ 2 ^ (e + 6 * fs.length)
  | [], _, _, _, h => h
  | p :: fs, m, e, hf, h => by
    have h3 : Nat.lcm m p.2.natAbs ≤ 2 ^ (e + 6) := by
      rw [Nat.pow_add]
      exact Nat.le_trans (lcm_le_mul _ _) (Nat.mul_le_mul h (hf p List.mem_cons_self))
    have := lcmAll_small fs _ (e + 6) (fun q hq => hf q (List.mem_cons_of_mem _ hq)) h3
    have e1 : e + 6 + 6 * fs.length = e + 6 * (p :: fs).length := by rw [List.length_cons]; omega
    rw [e1] at this
    exact this
/-- drawn facts: at most four, of small bases -/
def Drawn (fs : List (Int × Int)) : Prop := fs.length ≤ 4 ∧ ∀ p ∈ fs, 1 ≤ p.2 ∧ p.2 ≤ 36 ∧ 0 ≤ p.1 ∧ p.1 < p.2
theorem Drawn.facts {fs : List (Int × Int)} (h : Drawn fs) : Facts fs := by
  refine ⟨by have := h.1; omega, fun p hp => ?_⟩
  obtain ⟨h1, h2, h3, h4⟩ := h.2 p hp
  exact ⟨h1, by omega, h3, h4⟩
theorem Drawn.lcm {fs : List (Int × Int)} (h : Drawn fs) : lcmAll fs ≤ 2 ^ 24 := by
  have := lcmAll_small fs 1 0 (fun p hp => by have := h.2 p hp; omega) (Nat.le_refl 1)
  refine Nat.le_trans this (Nat.pow_le_pow_right (by decide) ?_)
  have := h.1
  omega
end Vf

namespace Vf
open PySem PySem.Spec PyProof.Rows L2
/-! ## zip(t, u) of two tuples, each pair under one name -/
/-- a zip in any state: what it gave out last, whether it knows that this lives -/
def Zst (h : Heap) (u TI TO : Addr) (f0 f1 : Value) : Prop := h.get? u = some ⟨.type "zip", none, .fields #[f0, f1, .bool false, .ref TI, .ref TO], #[]⟩
def Out (f0 : Value) : Prop := f0 = .none ∨ ∃ T : Nat, f0 = rawInt (T : Int)
def Flag (f1 : Value) : Prop := ∃ b, f1 = .bool b
section
variable {prog : Program} {w : World} {A : Around} {E : Value → Shared → Prop} {s : Shared}
theorem alive_any {a : Addr} {Q : Option Obj → Shared → Prop} (h : Q (s.heap.get? a) s) : wpAny (model prog w) A (loadIfAlive a) Q E s := fun _ _ _ => h
theorem z_free {u TI TO : Addr} {f0 f1 : Value} {Q : Bool → Shared → Prop} (o0 : Out f0) (o1 : Flag f1) (zz : Zst s.heap u TI TO f0 f1) (h1 : Q true s)
    (h2 : ∀ h' g1, Flag g1 → Zst h' u TI TO f0 g1 → Heap.SameBut u s.heap h' → Q false { s with heap := h' }) : wpAny (model prog w) A (Builtin.SmallTypes.ownedTupleIsFree (.ref u)) Q E s := by
  unfold Builtin.SmallTypes.ownedTupleIsFree
  refine wpAny_bind (wpAny_field (x := f0) zz rfl rfl ?_)
  rcases o0 with e | ⟨T, e⟩
  · subst e
    exact wpAny_pure h1
  · subst e
    show wpAny _ _ (loadIfAlive _ >>= _) _ _ _
    refine wpAny_bind (alive_any ?_)
    cases s.heap.get? (T : Int).toNat with
    | none => exact wpAny_pure h1
    | some o =>
      obtain ⟨b, e⟩ := o1
      subst e
      show wpAny _ _ (field (.ref u) 1 >>= _) _ _ _
      refine wpAny_bind (wpAny_field (x := .bool b) zz rfl rfl ?_)
      cases b with
      | true => exact wpAny_pure (h2 s.heap _ ⟨true, rfl⟩ zz (Heap.SameBut.refl _ _))
      | false =>
        exact wpAny_bind (wpAny_setField_rec zz (by simp) fun h' z' sb => wpAny_pure (h2 h' _ ⟨true, rfl⟩ z' sb))
/-- what a turn leaves -/
def ZNext (s : Shared) (u TI TO i1 i2 l1 l2 : Addr) (k1 k2 : Nat) (x y : Value) (h' : Heap) : Prop :=
  (∃ g0 g1, Out g0 ∧ Flag g1 ∧ Zst h' u TI TO g0 g1) ∧ (∃ a b, IsPair h' TO a b) ∧ h'.IsTupleIter i1 l1 (k1 + 1) ∧ h'.IsTupleIter i2 l2 (k2 + 1) ∧ IsPair h' s.heap.objs.size x y ∧ h'.objs.size = s.heap.objs.size + 1 ∧
    ∀ c o, c ≠ u → c ≠ TO → c ≠ i1 → c ≠ i2 → s.heap.get? c = some o → h'.get? c = some o
theorem zn_item {u TI TO i1 i2 l1 l2 : Addr} {f0 f1 : Value} {k1 k2 : Nat} {xs ys : Array Value} {x y a b : Value} {Q : Value → Shared → Prop} (D : ZipApart u TI TO i1 i2 l1 l2) (o0 : Out f0) (o1 : Flag f1)
    (zz : Zst s.heap u TI TO f0 f1) (ti : IsPair s.heap TI (.ref i1) (.ref i2)) (to : IsPair s.heap TO a b) (h1 : s.heap.IsTupleIter i1 l1 k1) (h2 : s.heap.IsTupleIter i2 l2 k2)
    (t1 : s.heap.IsTuple l1 xs) (t2 : s.heap.IsTuple l2 ys) (ex : xs[k1]? = some x) (ey : ys[k2]? = some y) (q : ∀ h', ZNext s u TI TO i1 i2 l1 l2 k1 k2 x y h' → Q (.ref s.heap.objs.size) { s with heap := h' }) :
    wpAny (model prog w) A (Builtin.«zip.__next__» ⟨[.ref u], []⟩) (fun r s' => ∃ v, r = .done (.ret v) ∧ Q v s') E s := by
  show wpAny _ _ (field (.ref u) 2 >>= _) _ _ _
  refine wpAny_bind (wpAny_field (x := .bool false) zz rfl rfl ?_)
  show wpAny _ _ (field (.ref u) 3 >>= _) _ _ _
  refine wpAny_bind (wpAny_field (x := .ref TI) zz rfl rfl ?_)
  refine wpAny_bind (wpAny_seqItems ti rfl ?_)
  show wpAny _ _ (Builtin.SmallTypes.ownedTupleIsFree (.ref u) >>= _) _ _ _
  refine wpAny_bind (z_free o0 o1 zz ?_ fun m1 g1 og zm sb1 => ?_)
  · simp only [if_true]
    refine wpAny_bind <| wpAny_rule ?_
    refine wpAny_bind (wpAny_field (x := .ref TO) zz rfl rfl ?_)
    refine wpAny_bind (wpAny_setField_rec zz (by simp) fun m1 zm sb1 => ?_)
    replace zm : Zst m1 u TI TO .ellipsis f1 := zm
    refine wpAny_bind ?_
    rw [List.zipIdx_cons, List.zipIdx_cons, List.zipIdx_nil]
    simp only [List.forIn_cons, List.forIn_nil]
    refine wpAny_bind <| wpAny_bind <| wpAny_onRaise ?_
    show wpAny _ _ (Builtin.SmallTypes.nextOf (Value.ref i1) >>= _) _ _ _
    refine wpAny_bind (RZ.nextOf_tuple_item (h1.extBut sb1.extBut D.i1z) (t1.extBut sb1.extBut D.l1z) ex fun m2 n1 sb2 => wpAny_pure ?_)
    have to2 : IsPair m2 TO a b := sb2.extBut _ _ D.TOi1 (sb1.extBut _ _ D.TOz to)
    refine wpAny_bind (wpAny_seqItems to2 rfl ?_)
    refine wpAny_bind (wpAny_updateSeq_pair to2 fun m3 to3 sb3 => ?_)
    replace to3 : IsPair m3 TO x b := to3
    refine wpAny_bind <| wpAny_letGo <| wpAny_pure ?_
    refine wpAny_bind <| wpAny_bind <| wpAny_onRaise ?_
    show wpAny _ _ (Builtin.SmallTypes.nextOf (Value.ref i2) >>= _) _ _ _
    have p2 : m3.IsTupleIter i2 l2 k2 := ((h2.extBut sb1.extBut D.i2z).extBut sb2.extBut D.i12.symm).extBut sb3.extBut D.TOi2.symm
    have q2 : m3.IsTuple l2 ys := ((t2.extBut sb1.extBut D.l2z).extBut sb2.extBut D.l2i1).extBut sb3.extBut D.l2TO
    refine wpAny_bind (RZ.nextOf_tuple_item p2 q2 ey fun m4 n2 sb4 => wpAny_pure ?_)
    have to4 : IsPair m4 TO x b := sb4.extBut _ _ D.TOi2 to3
    refine wpAny_bind (wpAny_seqItems to4 rfl ?_)
    refine wpAny_bind (wpAny_updateSeq_pair to4 fun m5 to5 sb5 => ?_)
    replace to5 : IsPair m5 TO x y := to5
    refine wpAny_bind <| wpAny_letGo <| wpAny_pure <| wpAny_pure ?_
    refine wpAny_bind (wpAny_seqItems to5 rfl ?_)
    refine wpAny_bind <| wpAny_newTuple ?_
    have sz : m5.objs.size = s.heap.objs.size := by rw [sb5.1, sb4.1, sb3.1, sb2.1, sb1.1]
    have z5 : Zst m5 u TI TO .ellipsis f1 := sb5.extBut _ _ D.TOz.symm (sb4.extBut _ _ D.i2z.symm (sb3.extBut _ _ D.TOz.symm (sb2.extBut _ _ D.i1z.symm zm)))
    have k5 : ∀ c o, c ≠ u → c ≠ TO → c ≠ i1 → c ≠ i2 → s.heap.get? c = some o → m5.get? c = some o := fun c o c1 c2 c3 c4 e => sb5.extBut _ _ c2 (sb4.extBut _ _ c4 (sb3.extBut _ _ c2 (sb2.extBut _ _ c3 (sb1.extBut _ _ c1 e))))
    have r1 : m5.IsTupleIter i1 l1 (k1 + 1) := ((n1.extBut sb3.extBut D.TOi1.symm).extBut sb4.extBut D.i12).extBut sb5.extBut D.TOi1.symm
    have r2 : m5.IsTupleIter i2 l2 (k2 + 1) := n2.extBut sb5.extBut D.TOi2.symm
    have ul : u < m5.objs.size := Heap.lt_size z5
    show wpAny _ _ (Builtin.SmallTypes.ownedTupleHandOut (.ref u) (.ref m5.objs.size) >>= _) _ _ _
    refine wpAny_bind ?_
    unfold Builtin.SmallTypes.ownedTupleHandOut
    have z6 : Zst (m5.push { cls := .type "tuple", data := .seq #[x, y] }) u TI TO .ellipsis f1 := Heap.get?_push_of_some _ z5
    refine wpAny_bind (wpAny_setField_rec z6 (by simp) fun m7 z7 sb7 => ?_)
    replace z7 : Zst m7 u TI TO (rawInt m5.objs.size) f1 := z7
    refine wpAny_setField_rec z7 (by simp) fun m8 z8 sb8 => ?_
    replace z8 : Zst m8 u TI TO (rawInt m5.objs.size) (.bool false) := z8
    have up : ∀ c o, c ≠ u → m5.get? c = some o → m8.get? c = some o := fun c o c1 e => sb8.extBut _ _ c1 (sb7.extBut _ _ c1 (Heap.get?_push_of_some _ e))
    have np : IsPair m8 m5.objs.size x y := sb8.extBut _ _ (Nat.ne_of_gt ul) (sb7.extBut _ _ (Nat.ne_of_gt ul) (Heap.get?_push_size _ rfl))
    have sz8 : m8.objs.size = m5.objs.size + 1 := by rw [sb8.1, sb7.1, Heap.size_push]
    refine wpAny_pure ⟨_, rfl, ?_⟩
    show Q (.ref m5.objs.size) _
    rw [sz] at z8 np sz8 ⊢
    exact q m8 ⟨⟨_, _, .inr ⟨_, rfl⟩, ⟨_, rfl⟩, z8⟩, ⟨x, y, up _ _ D.TOz to5⟩, r1.at fun o e => up _ o D.i1z e, r2.at fun o e => up _ o D.i2z e, np, sz8, fun c o c1 c2 c3 c4 e => up c o c1 (k5 c o c1 c2 c3 c4 e)⟩
  · simp only [Bool.false_eq_true, if_false]
    refine wpAny_bind ?_
    rw [← Array.forIn_toList]
    simp only [List.forIn_cons, List.forIn_nil]
    refine wpAny_bind <| wpAny_bind <| wpAny_holding ?_
    show wpAny _ _ (Builtin.SmallTypes.nextOf (Value.ref i1) >>= _) _ _ _
    refine wpAny_bind (RZ.nextOf_tuple_item (s := { s with heap := m1 }) (h1.extBut sb1.extBut D.i1z) (t1.extBut sb1.extBut D.l1z) ex fun m2 n1 sb2 => wpAny_pure ?_)
    refine wpAny_pure ?_
    refine wpAny_bind <| wpAny_bind <| wpAny_holding ?_
    show wpAny _ _ (Builtin.SmallTypes.nextOf (Value.ref i2) >>= _) _ _ _
    refine wpAny_bind (RZ.nextOf_tuple_item (s := { s with heap := m2 }) ((h2.extBut sb1.extBut D.i2z).extBut sb2.extBut D.i12.symm) ((t2.extBut sb1.extBut D.l2z).extBut sb2.extBut D.l2i1) ey fun m3 n2 sb3 => wpAny_pure ?_)
    refine wpAny_pure <| wpAny_pure ?_
    show wpAny _ _ (newTuple [x, y] >>= _) _ _ _
    refine wpAny_bind <| wpAny_newTuple ?_
    have sz : m3.objs.size = s.heap.objs.size := by rw [sb3.1, sb2.1, sb1.1]
    have z3 : Zst m3 u TI TO f0 g1 := sb3.extBut _ _ D.i2z.symm (sb2.extBut _ _ D.i1z.symm zm)
    have k3 : ∀ c o, c ≠ u → c ≠ i1 → c ≠ i2 → s.heap.get? c = some o → m3.get? c = some o := fun c o c1 c2 c3 e => sb3.extBut _ _ c3 (sb2.extBut _ _ c2 (sb1.extBut _ _ c1 e))
    have r1 : m3.IsTupleIter i1 l1 (k1 + 1) := n1.extBut sb3.extBut D.i12
    refine wpAny_pure ⟨_, rfl, ?_⟩
    show Q (.ref m3.objs.size) _
    have np : IsPair (m3.push { cls := .type "tuple", data := .seq #[x, y] }) m3.objs.size x y := Heap.get?_push_size _ rfl
    have sz4 : (m3.push { cls := .type "tuple", data := .seq #[x, y] }).objs.size = m3.objs.size + 1 := Heap.size_push ..
    rw [sz] at np sz4 ⊢
    exact q _ ⟨⟨_, _, o0, og, Heap.get?_push_of_some _ z3⟩, ⟨a, b, Heap.get?_push_of_some _ (k3 _ _ D.TOz D.TOi1 D.TOi2 to)⟩, r1.at fun o e => Heap.get?_push_of_some _ e, n2.at fun o e => Heap.get?_push_of_some _ e, np, sz4,
      fun c o c1 _ c3 c4 e => Heap.get?_push_of_some _ (k3 c o c1 c3 c4 e)⟩
/-- what the end leaves -/
def ZEnd (s : Shared) (u TO i1 i2 : Addr) (h' : Heap) : Prop := ∀ c o, c ≠ u → c ≠ TO → c ≠ i1 → c ≠ i2 → s.heap.get? c = some o → h'.get? c = some o
theorem zn_end {u TI TO i1 i2 l1 l2 : Addr} {f0 f1 : Value} {k1 k2 : Nat} {xs ys : Array Value} {a b : Value} {Q : Fin → Shared → Prop} (hh : A.handled = none) (D : ZipApart u TI TO i1 i2 l1 l2) (o0 : Out f0) (o1 : Flag f1)
    (zz : Zst s.heap u TI TO f0 f1) (ti : IsPair s.heap TI (.ref i1) (.ref i2)) (to : IsPair s.heap TO a b) (h1 : s.heap.IsTupleIter i1 l1 k1) (h2 : s.heap.IsTupleIter i2 l2 k2)
    (t1 : s.heap.IsTuple l1 xs) (t2 : s.heap.IsTuple l2 ys) (no : xs[k1]? = none ∨ ys[k2]? = none) (q : ∀ h' e, ZEnd s u TO i1 i2 h' → (∃ o, h'.get? e = some o ∧ o.cls = .type "StopIteration") → E (.ref e) { s with heap := h' }) :
    wpAny (model prog w) A (Builtin.«zip.__next__» ⟨[.ref u], []⟩) Q E s := by
  show wpAny _ _ (field (.ref u) 2 >>= _) _ _ _
  refine wpAny_bind (wpAny_field (x := .bool false) zz rfl rfl ?_)
  show wpAny _ _ (field (.ref u) 3 >>= _) _ _ _
  refine wpAny_bind (wpAny_field (x := .ref TI) zz rfl rfl ?_)
  refine wpAny_bind (wpAny_seqItems ti rfl ?_)
  show wpAny _ _ (Builtin.SmallTypes.ownedTupleIsFree (.ref u) >>= _) _ _ _
  refine wpAny_bind (z_free o0 o1 zz ?_ fun m1 g1 og zm sb1 => ?_)
  · simp only [if_true]
    refine wpAny_bind <| wpAny_rule ?_
    refine wpAny_bind (wpAny_field (x := .ref TO) zz rfl rfl ?_)
    refine wpAny_bind (wpAny_setField_rec zz (by simp) fun m1 zm sb1 => ?_)
    replace zm : Zst m1 u TI TO .ellipsis f1 := zm
    refine wpAny_bind ?_
    rw [List.zipIdx_cons, List.zipIdx_cons, List.zipIdx_nil]
    simp only [List.forIn_cons, List.forIn_nil]
    refine wpAny_bind <| wpAny_bind <| wpAny_onRaise ?_
    show wpAny _ _ (Builtin.SmallTypes.nextOf (Value.ref i1) >>= _) _ _ _
    cases ex : xs[k1]? with
    | none =>
      refine wpAny_bind (RZ.nextOf_tuple_end hh (h1.extBut sb1.extBut D.i1z) (t1.extBut sb1.extBut D.l1z) ex fun m2 e sb2 se => ?_)
      obtain ⟨oe, e1, e2⟩ := se
      have z2 : Zst m2 u TI TO .ellipsis f1 := sb2 _ _ D.i1z.symm zm
      have ne : e ≠ u := fun eq => by
        subst eq
        rw [show m2.get? e = _ from z2] at e1
        cases e1
        simp at e2
      exact wpAny_setField_rec z2 (by simp) fun m3 _ sb3 => q m3 e (fun c o c1 _ c3 _ eq => sb3.extBut _ _ c1 (sb2 _ _ c3 (sb1.extBut _ _ c1 eq))) ⟨oe, sb3.extBut _ _ ne e1, e2⟩
    | some x =>
      have ey : ys[k2]? = none := by
        rcases no with n | n
        · rw [ex] at n; cases n
        · exact n
      refine wpAny_bind (RZ.nextOf_tuple_item (h1.extBut sb1.extBut D.i1z) (t1.extBut sb1.extBut D.l1z) ex fun m2 n1 sb2 => wpAny_pure ?_)
      have to2 : IsPair m2 TO a b := sb2.extBut _ _ D.TOi1 (sb1.extBut _ _ D.TOz to)
      refine wpAny_bind (wpAny_seqItems to2 rfl ?_)
      refine wpAny_bind (wpAny_updateSeq_pair to2 fun m3 to3 sb3 => ?_)
      refine wpAny_bind <| wpAny_letGo <| wpAny_pure ?_
      refine wpAny_bind <| wpAny_bind <| wpAny_onRaise ?_
      show wpAny _ _ (Builtin.SmallTypes.nextOf (Value.ref i2) >>= _) _ _ _
      have p2 : m3.IsTupleIter i2 l2 k2 := ((h2.extBut sb1.extBut D.i2z).extBut sb2.extBut D.i12.symm).extBut sb3.extBut D.TOi2.symm
      have q2 : m3.IsTuple l2 ys := ((t2.extBut sb1.extBut D.l2z).extBut sb2.extBut D.l2i1).extBut sb3.extBut D.l2TO
      refine wpAny_bind (RZ.nextOf_tuple_end hh p2 q2 ey fun m4 e sb4 se => ?_)
      obtain ⟨oe, e1, e2⟩ := se
      have z4 : Zst m4 u TI TO .ellipsis f1 := sb4 _ _ D.i2z.symm (sb3.extBut _ _ D.TOz.symm (sb2.extBut _ _ D.i1z.symm zm))
      have ne : e ≠ u := fun eq => by
        subst eq
        rw [show m4.get? e = _ from z4] at e1
        cases e1
        simp at e2
      exact wpAny_setField_rec z4 (by simp) fun m5 _ sb5 => q m5 e (fun c o c1 c2 c3 c4 eq => sb5.extBut _ _ c1 (sb4 _ _ c4 (sb3.extBut _ _ c2 (sb2.extBut _ _ c3 (sb1.extBut _ _ c1 eq))))) ⟨oe, sb5.extBut _ _ ne e1, e2⟩
  · simp only [Bool.false_eq_true, if_false]
    refine wpAny_bind ?_
    rw [← Array.forIn_toList]
    simp only [List.forIn_cons, List.forIn_nil]
    refine wpAny_bind <| wpAny_bind <| wpAny_holding ?_
    show wpAny _ _ (Builtin.SmallTypes.nextOf (Value.ref i1) >>= _) _ _ _
    cases ex : xs[k1]? with
    | none =>
      exact wpAny_bind (RZ.nextOf_tuple_end (s := { s with heap := m1 }) hh (h1.extBut sb1.extBut D.i1z) (t1.extBut sb1.extBut D.l1z) ex fun m2 e sb2 se => q m2 e (fun c o c1 _ c3 _ eq => sb2 _ _ c3 (sb1.extBut _ _ c1 eq)) se)
    | some x =>
      have ey : ys[k2]? = none := by
        rcases no with n | n
        · rw [ex] at n; cases n
        · exact n
      refine wpAny_bind (RZ.nextOf_tuple_item (s := { s with heap := m1 }) (h1.extBut sb1.extBut D.i1z) (t1.extBut sb1.extBut D.l1z) ex fun m2 n1 sb2 => wpAny_pure ?_)
      refine wpAny_pure ?_
      refine wpAny_bind <| wpAny_bind <| wpAny_holding ?_
      show wpAny _ _ (Builtin.SmallTypes.nextOf (Value.ref i2) >>= _) _ _ _
      exact wpAny_bind (RZ.nextOf_tuple_end (s := { s with heap := m2 }) hh ((h2.extBut sb1.extBut D.i2z).extBut sb2.extBut D.i12.symm) ((t2.extBut sb1.extBut D.l2z).extBut sb2.extBut D.l2i1) ey
        fun m3 e sb3 se => q m3 e (fun c o c1 _ c3 c4 eq => sb3 _ _ c4 (sb2.extBut _ _ c3 (sb1.extBut _ _ c1 eq))) se)
theorem zp_item {u TI TO i1 i2 l1 l2 : Addr} {f0 f1 : Value} {k1 k2 : Nat} {xs ys : Array Value} {x y a b : Value} {Q : Option Value → Shared → Prop} (D : ZipApart u TI TO i1 i2 l1 l2) (o0 : Out f0) (o1 : Flag f1)
    (zz : Zst s.heap u TI TO f0 f1) (ti : IsPair s.heap TI (.ref i1) (.ref i2)) (to : IsPair s.heap TO a b) (h1 : s.heap.IsTupleIter i1 l1 k1) (h2 : s.heap.IsTupleIter i2 l2 k2)
    (t1 : s.heap.IsTuple l1 xs) (t2 : s.heap.IsTuple l2 ys) (ex : xs[k1]? = some x) (ey : ys[k2]? = some y) (q : ∀ h', ZNext s u TI TO i1 i2 l1 l2 k1 k2 x y h' → Q (some (.ref s.heap.objs.size)) { s with heap := h' }) :
    wpAny (model prog w) A (pyNext (.ref u)) Q E s := by
  have ty : s.TypeIs (.ref u) "zip" := ⟨_, zz, rfl⟩
  unfold pyNext
  refine wpAny_bind <| wpAny_attempt <| wpAny_callSpecial?_slot (name := Str.ofString "__next__") ty F.slot_zip_next ?_
  exact wpAny_call_entry F.slot_zip_next ty F.entry_zip_next (zn_item D o0 o1 zz ti to h1 h2 t1 t2 ex ey fun h' z => wpAny_pure (q h' z)) (F.args_zip_next_1 _)
theorem zp_end {u TI TO i1 i2 l1 l2 : Addr} {f0 f1 : Value} {k1 k2 : Nat} {xs ys : Array Value} {a b : Value} {Q : Option Value → Shared → Prop} (hh : A.handled = none) (D : ZipApart u TI TO i1 i2 l1 l2) (o0 : Out f0) (o1 : Flag f1)
    (zz : Zst s.heap u TI TO f0 f1) (ti : IsPair s.heap TI (.ref i1) (.ref i2)) (to : IsPair s.heap TO a b) (h1 : s.heap.IsTupleIter i1 l1 k1) (h2 : s.heap.IsTupleIter i2 l2 k2)
    (t1 : s.heap.IsTuple l1 xs) (t2 : s.heap.IsTuple l2 ys) (no : xs[k1]? = none ∨ ys[k2]? = none) (q : ∀ h', ZEnd s u TO i1 i2 h' → Q none { s with heap := h' }) :
    wpAny (model prog w) A (pyNext (.ref u)) Q E s := by
  have ty : s.TypeIs (.ref u) "zip" := ⟨_, zz, rfl⟩
  unfold pyNext
  refine wpAny_bind <| wpAny_attempt <| wpAny_callSpecial?_slot (name := Str.ofString "__next__") ty F.slot_zip_next ?_
  refine wpAny_call_entry F.slot_zip_next ty F.entry_zip_next (zn_end hh D o0 o1 zz ti to h1 h2 t1 t2 no fun h' e z se => ?_) (F.args_zip_next_1 _)
  obtain ⟨oe, e1, e2⟩ := se
  refine wpAny_bind (wpAny_isInstance (b := true) (T := "StopIteration") ⟨oe, e1, e2⟩ isSubtype_stop ?_)
  exact wpAny_pure (q _ z)
end
end Vf

namespace Vf
open PySem PySem.Spec PyProof.Rows L2
theorem z_iter {prog : Program} {w : World} {A : Around} {E : Value → Shared → Prop} {s : Shared} {u TI TO : Addr} {f0 f1 : Value} {Q : Value → Shared → Prop} (zz : Zst s.heap u TI TO f0 f1) (q : Q (.ref u) s) : wpAny (model prog w) A (pyIter (.ref u)) Q E s := by
  have ty : s.TypeIs (.ref u) "zip" := ⟨_, zz, rfl⟩
  refine wpAny_pyIter_slot ty F.slot_zip_iter (wpAny_call_entry F.slot_zip_iter ty F.entry_zip_iter ?_ (F.args_zip_iter_1 _))
  show wpAny _ _ (ret (Value.ref u)) _ _ s
  exact wpAny_pure ⟨_, rfl, "zip", _, ty, F.slot_zip_next.lookup, q⟩
def ZTn (u TI TO i1 i2 a b : Addr) (i : Nat) (h : Heap) : Prop :=
  (∃ f0 f1, Out f0 ∧ Flag f1 ∧ Zst h u TI TO f0 f1) ∧ IsPair h TI (.ref i1) (.ref i2) ∧ (∃ x y, IsPair h TO x y) ∧ h.IsTupleIter i1 a i ∧ h.IsTupleIter i2 b i
theorem turn_zipN {P : Program} {w : World} {K : PySem.W.Frag} {nm : Str} {npos : Pos} {a b u TI TO i1 i2 : Addr} (D : ZipApart u TI TO i1 i2 a b) :
    Turn P w K (.Name nm npos) (RZ.ItzT K a b) [u, TI, TO, i1, i2] u (ZTn u TI TO i1 i2 a b) where
  mem := List.mem_cons_self
  obj := fun i h st c hc => by
    obtain ⟨⟨f0, f1, _, _, zz⟩, ti, ⟨x, y, to⟩, ⟨o1, e1, _, d1⟩, ⟨o2, e2, _, d2⟩⟩ := st
    simp only [List.mem_cons, List.not_mem_nil, or_false] at hc
    rcases hc with e | e | e | e | e
    · subst e; exact ⟨_, zz, fun v q => nomatch q⟩
    · subst e; exact ⟨_, ti, fun v q => nomatch q⟩
    · subst e; exact ⟨_, to, fun v q => nomatch q⟩
    · subst e; exact ⟨o1, e1, fun v q => by rw [d1] at q; cases q⟩
    · subst e; exact ⟨o2, e2, fun v q => by rw [d2] at q; cases q⟩
  keep := fun i h h' st k => by
    obtain ⟨⟨f0, f1, p0, p1, zz⟩, ti, ⟨x, y, to⟩, h1, h2⟩ := st
    exact ⟨⟨f0, f1, p0, p1, k u (by simp) _ zz⟩, k TI (by simp) _ ti, ⟨x, y, k TO (by simp) _ to⟩, h1.at fun o q => k i1 (by simp) o q, h2.at fun o q => k i2 (by simp) o q⟩
  item := by
    intro X hP hw hK hc i pins s σ H E I hf st hg
    subst hP hw hK
    obtain ⟨⟨f0, f1, p0, p1, zz⟩, ti, ⟨x0, y0, to⟩, h1, h2⟩ := st
    obtain ⟨xs, ys, x, y, qx, qy, ex, ey⟩ := hg
    obtain ⟨its, rv, tp, _⟩ := I.tuple qx
    obtain ⟨its2, rv2, tp2, _⟩ := I.tuple qy
    obtain ⟨v1, g1, w1⟩ := rv.get ex
    obtain ⟨v2, g2, w2⟩ := rv2.get ey
    have b0 : u < s.heap.objs.size := Heap.lt_size zz
    have bI : TI < s.heap.objs.size := Heap.lt_size ti
    have bO : TO < s.heap.objs.size := Heap.lt_size to
    have b1 : i1 < s.heap.objs.size := by
      obtain ⟨_, q, _⟩ := h1
      exact Heap.lt_size q
    have b2 : i2 < s.heap.objs.size := by
      obtain ⟨_, q, _⟩ := h2
      exact Heap.lt_size q
    refine zp_item D p0 p1 zz ti to h1 h2 tp tp2 (x := v1) (y := v2) (by simpa using g1) (by simpa using g2) fun m zn => ?_
    obtain ⟨z', ⟨ta, tb, to'⟩, n1, n2, np, sz, kp⟩ := zn
    refine ⟨_, rfl, ?_⟩
    unfold letOwnedTupleGo
    refine wpAny_pure ?_
    have fresh : ObjOk X.prog X.w (upd H s.heap.objs.size (.tup [x, y])) m s.heap.objs.size (.tup [x, y]) :=
      ⟨by show 2 ≤ sizeLine; decide, [v1, v2], .cons w1 (.cons w2 .nil), ⟨_, np, rfl, _, rfl⟩⟩
    have stay : ∀ c o, c ∉ [u, TI, TO, i1, i2] → s.heap.get? c = some o → m.get? c = some o := fun c o hb q => kp c o (fun e => hb (by simp [e])) (fun e => hb (by simp [e])) (fun e => hb (by simp [e])) (fun e => hb (by simp [e])) q
    have I1 := I.turnedNew (t' := s.toks) (ch := [u, TI, TO, i1, i2]) stay hf (Nat.le_refl _) fresh
    refine ⟨.ref s.heap.objs.size, _, I1, rfl, ⟨_, x, y, rfl, I.hok.fresh (Nat.le_refl _), rfl, fun l hl => by rw [I.tuple_inj hl qx]; exact ex, fun l hl => by rw [I.tuple_inj hl qy]; exact ey⟩,
      ⟨z', kp _ _ D.TIz D.TITO D.TIi1 D.TIi2 ti, ⟨ta, tb, to'⟩, n1, n2⟩, fun c hcm => ?_⟩
    have lt : c < s.heap.objs.size := by
      have hcm2 := hcm
      simp only [List.mem_cons, List.not_mem_nil, or_false] at hcm2
      rcases hcm2 with e | e | e | e | e <;> (subst e; assumption)
    rw [upd_ne (Nat.ne_of_lt lt)]
    exact (hf c hcm).1
  done := by
    intro X hP hw hK hc i pins s σ H E I hf st hg
    subst hP hw hK
    obtain ⟨⟨f0, f1, p0, p1, zz⟩, ti, ⟨x0, y0, to⟩, h1, h2⟩ := st
    obtain ⟨xs, ys, qx, qy, en⟩ := hg
    obtain ⟨its, rv, tp, _⟩ := I.tuple qx
    obtain ⟨its2, rv2, tp2, _⟩ := I.tuple qy
    have l1 := rv.length
    have l2 := rv2.length
    have no : its.toArray[i]? = none ∨ its2.toArray[i]? = none := by
      rcases en with q | q
      · exact .inl (by simp; omega)
      · exact .inr (by simp; omega)
    refine zp_end (I.ok.hd hc) D p0 p1 zz ti to h1 h2 tp tp2 no fun m ze => ⟨rfl, ?_⟩
    exact I.turnedL (t' := s.toks) (ch := [u, TI, TO, i1, i2]) (fun c o hb q => ze c o (fun e => hb (by simp [e])) (fun e => hb (by simp [e])) (fun e => hb (by simp [e])) (fun e => hb (by simp [e])) q) hf
  self := fun A i s Q E st h => by
    obtain ⟨⟨f0, f1, _, _, zz⟩, _⟩ := st
    exact z_iter zz h
/-- zip(t, u) of tuples -/
def iZn (K : PySem.W.Frag) (ta : TA) : TI := fun σ H R => ta σ H fun vs H1 => ∃ a b xs ys, vs = [.ref a, .ref b] ∧ SqT K H1 a xs ∧ SqT K H1 b ys ∧ R (RZ.ItzT K a b) H1
theorem i_zipN {X : Cx} {K : PySem.W.Frag} {e e2 : Expr} {ta : TA} {p pos npos : Pos} {nm : Str} (ek : X.K = K) (hg : Gl X "zip") (hm : X.mg "zip" = none) (ha : PA X [e, e2] ta)
    (hs : starEach [e, e2] X.env = (false, eval e X.env) :: starEach [e2] X.env := by rfl) (hp : (backTo pos (starEach [e2] X.env)).any (·.1) = false := by rfl) :
    PI X (.Name nm npos) (.Call (.Name "zip" p) [e, e2] [] pos) (iZn K ta) := by
  subst ek
  refine ⟨fun pins s σ H R I h => ?_⟩
  refine Call_ (ld_blt I hg hm PyProof.Rows.boot_zip (PyProof.Rows.callWith_type1 (thn (ha.run pos pins s σ H _ I h) fun us s1 ⟨vs, H1, I1, r1, q1⟩ => ?_) hs hp))
  obtain ⟨a, b, xs, ys, rfl, qx, qy, q⟩ := q1
  obtain ⟨ua, ub, rfl, ra, rb⟩ : ∃ ua ub, us = [ua, ub] ∧ RelV (.ref a) ua ∧ RelV (.ref b) ub := by
    cases r1 with
    | cons r rr =>
      cases rr with
      | cons r' rr =>
        cases rr
        exact ⟨_, _, rfl, r, r'⟩
  cases ra
  cases rb
  obtain ⟨its, rv, tp, _⟩ := I1.tuple qx
  obtain ⟨its2, rv2, tp2, _⟩ := I1.tuple qy
  have la : a < s1.heap.objs.size := tp.lt
  have lb : b < s1.heap.objs.size := tp2.lt
  refine RZ.call_zipT tp tp2 fun m hz hTI hTO n1 n2 hsz hk => z_iter (f0 := .none) (f1 := .bool false) hz ?_
  refine ⟨s1.heap.objs.size + 4, [s1.heap.objs.size + 4, s1.heap.objs.size + 2, s1.heap.objs.size + 3, s1.heap.objs.size, s1.heap.objs.size + 1], _, _, H1, rfl, I1.kept (t' := s1.toks) hk,
    turn_zipN (PySem.W.ktu_apart s1.heap.objs.size a b la lb), ⟨⟨.none, .bool false, .inl rfl, ⟨false, rfl⟩, hz⟩, hTI, ⟨_, _, hTO⟩, n1, n2⟩, fun c hcm => ?_, q⟩
  have le : s1.heap.objs.size ≤ c := by
    simp only [List.mem_cons, List.not_mem_nil, or_false] at hcm
    rcases hcm with e | e | e | e | e <;> subst e
    · exact Nat.le_add_right _ _
    · exact Nat.le_add_right _ _
    · exact Nat.le_add_right _ _
    · exact Nat.le_refl _
    · exact Nat.le_add_right _ _
  exact I1.fpOk le (I1.hok.fresh le)
/-- a walk of two tuples, pair by pair -/
theorem r_forZ {K : PySem.W.Frag} {g : TG} {tb : TS} {D : Ends} {σ : L2.St} {H : Hp} {a b : Addr} (xs ys : List V) (n : Nat) (hx : xs.length = n) (hy : ys.length = n) (Pv : Nat → L2.St → Hp → Prop) (h0 : Pv 0 σ H)
    (hl : ∀ i σ H, i ≤ n → Pv i σ H → SqT K H a xs ∧ SqT K H b ys)
    (hs : ∀ i x y σ H T, xs[i]? = some x → ys[i]? = some y → Pv i σ H → H T = none → g (.ref T) σ (upd H T (.tup [x, y])) fun σ2 H2 => tb { D with nx := Pv (i + 1), ct := Pv (i + 1), bk := D.nx } σ2 H2)
    (hd : ∀ σ H, Pv n σ H → D.nx σ H) : tFor (fun _ H2 R => R (RZ.ItzT K a b) H2) g tb D σ H := by
  refine ⟨fun i m σ H => m = n - i ∧ i ≤ n ∧ Pv i σ H, ⟨n, by omega, Nat.zero_le _, h0⟩, ?_⟩
  rintro i m σ H ⟨rfl, hi, p⟩
  obtain ⟨qx, qy⟩ := hl i σ H hi p
  by_cases lt : i < n
  · have ix : i < xs.length := by omega
    have iy : i < ys.length := by omega
    refine Or.inr ⟨⟨xs, ys, xs[i], ys[i], qx, qy, by simp [ix], by simp [iy]⟩, Pv (i + 1), fun σ' H' p' => ⟨n - (i + 1), by omega, rfl, lt, p'⟩, fun v H' yy => ?_⟩
    obtain ⟨T, x, y, rfl, nT, rfl, f1, f2⟩ := yy
    exact hs i x y σ H T (f1 xs qx) (f2 ys qy) p nT
  · have e : i = n := by omega
    subst e
    exact Or.inl ⟨⟨xs, ys, qx, qy, .inl (by omega)⟩, hd σ H p⟩
theorem r_forZn {K : PySem.W.Frag} {g : TG} {tb : TS} {D : Ends} {σ : L2.St} {H : Hp} {ta : TA} (h : ta σ H fun vs H1 => ∃ a b xs ys, vs = [.ref a, .ref b] ∧ SqT K H1 a xs ∧ SqT K H1 b ys ∧ tFor (fun _ H2 R => R (RZ.ItzT K a b) H2) g tb D σ H1) :
    tFor (iZn K ta) g tb D σ H := h
end Vf

namespace Vf
open PySem PySem.Spec PyProof.Rows L2
/-! ## *= and //= of ints -/
def ipC (C : Int → Int → Prop) (f : Int → Int → Int) : TIp := fun x y H Q => ∃ i j, x = .int i ∧ y = .int j ∧ C i j ∧ Q (.int (f i j)) H
theorem r_ipC {C : Int → Int → Prop} {f : Int → Int → Int} {i j : Int} {H : Hp} {Q : VK} (c : C i j) (q : Q (.int (f i j)) H) : ipC C f (.int i) (.int j) H Q := ⟨i, j, rfl, rfl, c, q⟩
section
variable {X : Cx}
theorem ip_mulX : PIp X .Mult (ipC CMulX fun i j => i * j) := by
  intro pins s σ H x y v u Q I rx ry h
  obtain ⟨i, j, rfl, rfl, c, q⟩ := h
  obtain ⟨t1, rfl⟩ := rx
  obtain ⟨t2, rfl⟩ := ry
  exact PySem.AutoIntOps.imul_0 ⟨.int _, H, I.tok _, ⟨_, rfl⟩, q⟩ c.ok
theorem ip_fdivW : PIp X .FloorDiv (ipC CDivW fun i j => i / j) := by
  intro pins s σ H x y v u Q I rx ry h
  obtain ⟨i, j, rfl, rfl, c, q⟩ := h
  obtain ⟨t1, rfl⟩ := rx
  obtain ⟨t2, rfl⟩ := ry
  have j0 : (0 : Int) < j := c.1
  refine PySem.AutoIntOps.ifloordiv_1 (by simp; omega) (by rw [PyProof.noPylong_of_log2 c.2]; decide) ?_
  rw [Int.fdiv_eq_ediv_of_nonneg i (by omega)]
  exact ⟨.int _, H, I.tok _, ⟨_, rfl⟩, q⟩
end
/-! ## zip under two names -/
theorem r_forZa {K : PySem.W.Frag} {g : TG} {tb : TS} {D : Ends} {σ : L2.St} {H : Hp} {ta : TA} (h : ta σ H fun vs H1 => ∃ a b xs ys, vs = [.ref a, .ref b] ∧ ((SqL K H1 a xs ∧ SqL K H1 b ys ∧ tFor (fun _ H2 R => R (Itz K a b) H2) g tb D σ H1) ∨
    (SqT K H1 a xs ∧ SqT K H1 b ys ∧ tFor (fun _ H2 R => R (RZ.ItzT K a b) H2) g tb D σ H1))) : tFor (RZ.iZipA K ta) g tb D σ H := h
end Vf

namespace Vf
open PySem PySem.Spec PyProof.Rows L2
/-! ## tuples of ints, compared and shown -/
section
variable {K : PySem.W.Frag} {H : Hp} {Q : VK}
def tupD (ns : List Int) : PyData := .tuple (ns.map PyData.int)
theorem Dp.tupD {a : Addr} {ns : List Int} (h : SqT K H a (ns.map V.int)) : Dp K H (.ref a) (tupD ns) := .tup h (DpAll.ints ns)
theorem shapedTup (ns : List Int) : SeqAt.shaped (tupD ns) = true := by
  unfold SeqAt.shaped
  rw [Bool.and_eq_true]
  refine ⟨canInts ns, decide_eq_true ?_⟩
  show PyData.depthAll (ns.map PyData.int) + 1 ≤ 64
  rw [depthInts]; decide
theorem r_neT {a b : Addr} (ns ms : List Int) (h1 : SqT K H a (ns.map V.int)) (h2 : SqT K H b (ms.map V.int)) (h : Q (.bl (!decide (ns = ms))) H) : rNeD K (.ref a) (.ref b) H Q := by
  refine r_neD (Dp.tupD h1) (Dp.tupD h2) (shapedTup ns) (shapedTup ms) ?_
  rw [show PyData.eqv (tupD ns) (tupD ms) = decide (ns = ms) from eqvInts ns ms]
  exact h
def twoD (ns ms : List Int) : PyData := .list [tupD ns, tupD ms]
theorem r_reprTT {a t1 t2 : Addr} (ns ms : List Int) (hs : SqL K H a [.ref t1, .ref t2]) (h1 : SqT K H t1 (ns.map V.int)) (h2 : SqT K H t2 (ms.map V.int)) (b1 : ∀ n ∈ ns, n.natAbs < 2 ^ 1900) (b2 : ∀ n ∈ ms, n.natAbs < 2 ^ 1900)
    (l1 : ns.length ≤ 20) (l2 : ms.length ≤ 20) (h : Q (.str (twoD ns ms).shown) H) : rRepr K [.ref a] H Q := by
  refine r_reprD (twoD ns ms) (Dp.lst hs (.cons (Dp.tupD h1) (.cons (Dp.tupD h2) .nil))) ?_ ?_ ?_ h
  · show (tameAll (ns.map PyData.int) && (tameAll (ms.map PyData.int) && true)) = true
    rw [tameInts ns b1, tameInts ms b2]
    rfl
  · show max (PyData.depthAll (ns.map PyData.int) + 1) (max (PyData.depthAll (ms.map PyData.int) + 1) 0) + 1 ≤ 40
    rw [depthInts, depthInts]
    decide
  · show 4 + ((4 + roomAll (ns.map PyData.int)) + 2 + ((4 + roomAll (ms.map PyData.int)) + 2 + 0)) ≤ 100000
    rw [roomInts, roomInts]
    omega
end
end Vf

namespace Vf
open PySem PySem.Spec PyProof.Rows L2
/-! ## zip of three tuples -/
/-- the tuples at a, b, c, item by item in new triples -/
def ItT3 (K : PySem.W.Frag) (a b c : Addr) : It :=
  ⟨fun i H => ∃ (xs ys zs : List V), (SqT K H a xs ∧ SqT K H b ys ∧ SqT K H c zs) ∧ i < xs.length ∧ i < ys.length ∧ i < zs.length,
   fun i H v H' => ∃ T x y z, v = .ref T ∧ H T = none ∧ H' = upd H T (.tup [x, y, z]) ∧ (∀ xs, SqT K H a xs → xs[i]? = some x) ∧ (∀ ys, SqT K H b ys → ys[i]? = some y) ∧ ∀ zs, SqT K H c zs → zs[i]? = some z,
   fun i H => ∃ (xs ys zs : List V), (SqT K H a xs ∧ SqT K H b ys ∧ SqT K H c zs) ∧ (i ≤ xs.length ∧ i ≤ ys.length ∧ i ≤ zs.length) ∧ (i = xs.length ∨ i = ys.length ∨ i = zs.length)⟩
/-- the cells of it -/
structure Six (u TI TO i1 i2 i3 a b c : Addr) : Prop where
  ap : u ≠ TI ∧ u ≠ TO ∧ u ≠ i1 ∧ u ≠ i2 ∧ u ≠ i3 ∧ TI ≠ TO ∧ TI ≠ i1 ∧ TI ≠ i2 ∧ TI ≠ i3 ∧ TO ≠ i1 ∧ TO ≠ i2 ∧ TO ≠ i3 ∧ i1 ≠ i2 ∧ i1 ≠ i3 ∧ i2 ≠ i3
  a0 : a ≠ u ∧ a ≠ TI ∧ a ≠ TO ∧ a ≠ i1 ∧ a ≠ i2 ∧ a ≠ i3
  b0 : b ≠ u ∧ b ≠ TI ∧ b ≠ TO ∧ b ≠ i1 ∧ b ≠ i2 ∧ b ≠ i3
  c0 : c ≠ u ∧ c ≠ TI ∧ c ≠ TO ∧ c ≠ i1 ∧ c ≠ i2 ∧ c ≠ i3
theorem Six.sep {u TI TO i1 i2 i3 a b c : Addr} (S : Six u TI TO i1 i2 i3 a b c) : ZipSep3 u TI TO i1 i2 i3 [i1, a] [i2, b] [i3, c] := by
  obtain ⟨⟨s1, s2, s3, s4, s5, s6, s7, s8, s9, s10, s11, s12, s13, s14, s15⟩, ⟨a1, a2, a3, a4, a5, a6⟩, ⟨b1, b2, b3, b4, b5, b6⟩, ⟨c1, c2, c3, c4, c5, c6⟩⟩ := S
  constructor <;> simp [*, Ne.symm s1, Ne.symm s2, Ne.symm s3, Ne.symm s6, Ne.symm a1, Ne.symm a3, Ne.symm a4, Ne.symm a5, Ne.symm a6, Ne.symm b1, Ne.symm b3, Ne.symm b4, Ne.symm b5, Ne.symm b6, Ne.symm c1, Ne.symm c3, Ne.symm c4, Ne.symm c5, Ne.symm c6, Ne.symm s13, Ne.symm s14, Ne.symm s15]
def Z3At (u TI TO i1 i2 i3 a b c : Addr) (i : Nat) (h : Heap) : Prop :=
  IsZip h u TI TO .none ∧ IsTupOf3 h TI (.ref i1) (.ref i2) (.ref i3) ∧ (∃ x y z, IsTupOf3 h TO x y z) ∧ h.IsTupleIter i1 a i ∧ h.IsTupleIter i2 b i ∧ h.IsTupleIter i3 c i
theorem turn_zip3 {P : Program} {w : World} {K : PySem.W.Frag} {elts : List Expr} {kk : Nat} {tpos : Pos} {u TI TO i1 i2 i3 a b c : Addr} (S : Six u TI TO i1 i2 i3 a b c) :
    Turn P w K (.Tuple elts kk tpos) (ItT3 K a b c) [u, TI, TO, i1, i2, i3] u (Z3At u TI TO i1 i2 i3 a b c) where
  mem := List.mem_cons_self
  obj := fun i h st d hd => by
    obtain ⟨zz, ti, ⟨x, y, z, to⟩, ⟨o1, e1, _, d1⟩, ⟨o2, e2, _, d2⟩, ⟨o3, e3, _, d3⟩⟩ := st
    simp only [List.mem_cons, List.not_mem_nil, or_false] at hd
    rcases hd with e | e | e | e | e | e
    · subst e; exact ⟨_, zz, fun v q => nomatch q⟩
    · subst e; exact ⟨_, ti, fun v q => nomatch q⟩
    · subst e; exact ⟨_, to, fun v q => nomatch q⟩
    · subst e; exact ⟨o1, e1, fun v q => by rw [d1] at q; cases q⟩
    · subst e; exact ⟨o2, e2, fun v q => by rw [d2] at q; cases q⟩
    · subst e; exact ⟨o3, e3, fun v q => by rw [d3] at q; cases q⟩
  keep := fun i h h' st k => by
    obtain ⟨zz, ti, ⟨x, y, z, to⟩, h1, h2, h3⟩ := st
    exact ⟨k u (by simp) _ zz, k TI (by simp) _ ti, ⟨x, y, z, k TO (by simp) _ to⟩, h1.at fun o q => k i1 (by simp) o q, h2.at fun o q => k i2 (by simp) o q, h3.at fun o q => k i3 (by simp) o q⟩
  item := by
    intro X hP hw hK hc i pins s σ H E I hf st hg
    subst hP hw hK
    obtain ⟨zz, ti, ⟨x0, y0, z0, to⟩, h1, h2, h3⟩ := st
    obtain ⟨xs, ys, zs, ⟨qx, qy, qz⟩, lx, ly, lz⟩ := hg
    obtain ⟨v1, r1, t1, _⟩ := I.tuple qx
    obtain ⟨v2, r2, t2, _⟩ := I.tuple qy
    obtain ⟨v3, r3, t3, _⟩ := I.tuple qz
    obtain ⟨y1, g1, w1⟩ := r1.get (List.getElem?_eq_getElem lx)
    obtain ⟨y2, g2, w2⟩ := r2.get (List.getElem?_eq_getElem ly)
    obtain ⟨y3, g3, w3⟩ := r3.get (List.getElem?_eq_getElem lz)
    have n1 := r1.length
    have n2 := r2.length
    have n3 := r3.length
    have hd := I.ok.hd hc
    have b0 : u < s.heap.objs.size := Heap.lt_size zz
    have bI : TI < s.heap.objs.size := Heap.lt_size ti
    have bO : TO < s.heap.objs.size := Heap.lt_size to
    have b1 : i1 < s.heap.objs.size := by
      obtain ⟨_, q, _⟩ := h1
      exact Heap.lt_size q
    have b2 : i2 < s.heap.objs.size := by
      obtain ⟨_, q, _⟩ := h2
      exact Heap.lt_size q
    have b3 : i3 < s.heap.objs.size := by
      obtain ⟨_, q, _⟩ := h3
      exact Heap.lt_size q
    refine wpAny_pyNext_zipD3_item S.sep (drawsT (A := X.A.in1) hd i1 a S.a0.2.2.2.1 v1.toArray) (drawsT (A := X.A.in1) hd i2 b S.b0.2.2.2.2.1 v2.toArray) (drawsT (A := X.A.in1) hd i3 c S.c0.2.2.2.2.2 v3.toArray)
      zz ti to ⟨h1, t1⟩ ⟨h2, t2⟩ ⟨h3, t3⟩ (by simp; omega) (by simp; omega) (by simp; omega) fun x1 x2 x3 m tk p1 p2 p3 zz' to' st1 st2 st3 np sz kp => ?_
    obtain rfl : y1 = x1 := by
      have : v1[i]? = some x1 := by simpa using p1
      rw [g1] at this
      exact Option.some.inj this
    obtain rfl : y2 = x2 := by
      have : v2[i]? = some x2 := by simpa using p2
      rw [g2] at this
      exact Option.some.inj this
    obtain rfl : y3 = x3 := by
      have : v3[i]? = some x3 := by simpa using p3
      rw [g3] at this
      exact Option.some.inj this
    refine ⟨_, rfl, wpAny_letOwnedTupleGo_zip (s := { s with heap := m, toks := tk }) zz' fun m2 zz2 sb => ?_⟩
    have np2 : IsTupOf3 m2 s.heap.objs.size y1 y2 y3 := (sb.2 _ (Nat.ne_of_gt b0)).trans np
    have fresh : ObjOk X.prog X.w (upd H s.heap.objs.size (.tup [xs[i], ys[i], zs[i]])) m2 s.heap.objs.size (.tup [xs[i], ys[i], zs[i]]) :=
      ⟨by show 3 ≤ sizeLine; decide, [y1, y2, y3], .cons w1 (.cons w2 (.cons w3 .nil)), ⟨_, np2, rfl, _, rfl⟩⟩
    have stay : ∀ d o, d ∉ [u, TI, TO, i1, i2, i3] → s.heap.get? d = some o → m2.get? d = some o := fun d o hb q =>
      (sb.2 d (fun e => hb (by simp [e]))).trans (kp d o (fun e => hb (by simp [e])) (fun e => hb (by simp [e])) (fun e => hb (by simp [e])) (fun e => hb (by simp [e])) (fun e => hb (by simp [e])) q)
    have I1 := I.turnedNew (t' := tk) (ch := [u, TI, TO, i1, i2, i3]) stay hf (Nat.le_refl _) fresh
    obtain ⟨⟨s1, s2, s3, s4, s5, s6, s7, s8, s9, s10, s11, s12, s13, s14, s15⟩, _, _, _⟩ := S
    refine ⟨.ref s.heap.objs.size, _, I1, rfl, ⟨_, xs[i], ys[i], zs[i], rfl, I.hok.fresh (Nat.le_refl _), rfl, fun l hl => by rw [I.tuple_inj hl qx]; exact List.getElem?_eq_getElem lx, fun l hl => by rw [I.tuple_inj hl qy]; exact List.getElem?_eq_getElem ly,
      fun l hl => by rw [I.tuple_inj hl qz]; exact List.getElem?_eq_getElem lz⟩, ⟨zz2, (sb.2 _ (Ne.symm s1)).trans (kp _ _ (Ne.symm s1) s6 s7 s8 s9 ti), ⟨_, _, _, (sb.2 _ (Ne.symm s2)).trans to'⟩, st1.1.at fun o q => (sb.2 _ (Ne.symm s3)).trans q, st2.1.at fun o q => (sb.2 _ (Ne.symm s4)).trans q,
      st3.1.at fun o q => (sb.2 _ (Ne.symm s5)).trans q⟩, fun d hdm => ?_⟩
    have lt : d < s.heap.objs.size := by
      have h2 := hdm
      simp only [List.mem_cons, List.not_mem_nil, or_false] at h2
      rcases h2 with e | e | e | e | e | e <;> (subst e; assumption)
    rw [upd_ne (Nat.ne_of_lt lt)]
    exact (hf d hdm).1
  done := by
    intro X hP hw hK hc i pins s σ H E I hf st hg
    subst hP hw hK
    obtain ⟨zz, ti, ⟨x0, y0, z0, to⟩, h1, h2, h3⟩ := st
    obtain ⟨xs, ys, zs, ⟨qx, qy, qz⟩, ⟨lx, ly, lz⟩, en⟩ := hg
    obtain ⟨v1, r1, t1, _⟩ := I.tuple qx
    obtain ⟨v2, r2, t2, _⟩ := I.tuple qy
    obtain ⟨v3, r3, t3, _⟩ := I.tuple qz
    have n1 := r1.length
    have n2 := r2.length
    have n3 := r3.length
    have hd := I.ok.hd hc
    refine wpAny_pyNext_zipD3_end S.sep (drawsT (A := X.A.in1) hd i1 a S.a0.2.2.2.1 v1.toArray) (drawsT (A := X.A.in1) hd i2 b S.b0.2.2.2.2.1 v2.toArray) (drawsT (A := X.A.in1) hd i3 c S.c0.2.2.2.2.2 v3.toArray)
      zz ti to ⟨h1, t1⟩ ⟨h2, t2⟩ ⟨h3, t3⟩ (by simp; omega) (by simp; omega) (by simp; omega) (by simp; omega) fun m tk kp => ⟨rfl, ?_⟩
    exact I.turnedL (t' := tk) (ch := [u, TI, TO, i1, i2, i3]) (fun d o hb q => kp d o (fun e => hb (by simp [e])) (fun e => hb (by simp [e])) (fun e => hb (by simp [e])) (fun e => hb (by simp [e])) (fun e => hb (by simp [e])) q) hf
  self := fun A i s Q E st h => wpAny_pyIter_zip st.1 h
end Vf

namespace Vf
open PySem PySem.Spec PyProof.Rows L2
/-! ## zip of three tuples: the rule, and a comprehension over it -/
def iZ3 (K : PySem.W.Frag) (ta : TA) : TI := fun σ H R => ta σ H fun vs H1 => ∃ a b c xs ys zs, vs = [.ref a, .ref b, .ref c] ∧ (SqT K H1 a xs ∧ SqT K H1 b ys ∧ SqT K H1 c zs) ∧ R (ItT3 K a b c) H1
theorem six_new (n a b c : Nat) (ha : a < n) (hb : b < n) (hc : c < n) : Six (n + 5) (n + 3) (n + 4) n (n + 1) (n + 2) a b c := by
  refine ⟨⟨?_, ?_, ?_, ?_, ?_, ?_, ?_, ?_, ?_, ?_, ?_, ?_, ?_, ?_, ?_⟩, ⟨?_, ?_, ?_, ?_, ?_, ?_⟩, ⟨?_, ?_, ?_, ?_, ?_, ?_⟩, ⟨?_, ?_, ?_, ?_, ?_, ?_⟩⟩ <;> (show _ ≠ _; intro e; have e2 : (_ : Nat) = _ := e; omega)
theorem i_zip3 {X : Cx} {K : PySem.W.Frag} {e1 e2 e3 : Expr} {ta : TA} {p pos tpos : Pos} {elts : List Expr} {kk : Nat} (ek : X.K = K) (hg : Gl X "zip") (hm : X.mg "zip" = none) (ha : PA X [e1, e2, e3] ta)
    (hs : starEach [e1, e2, e3] X.env = (false, eval e1 X.env) :: starEach [e2, e3] X.env := by rfl) (hp : (backTo pos (starEach [e2, e3] X.env)).any (·.1) = false := by rfl) :
    PI X (.Tuple elts kk tpos) (.Call (.Name "zip" p) [e1, e2, e3] [] pos) (iZ3 K ta) := by
  subst ek
  refine ⟨fun pins s σ H R I h => ?_⟩
  refine Call_ (ld_blt I hg hm PyProof.Rows.boot_zip (PyProof.Rows.callWith_type1 (thn (ha.run pos pins s σ H _ I h) fun us s1 ⟨vs, H1, I1, r1, q1⟩ => ?_) hs hp))
  obtain ⟨a, b, c, xs, ys, zs, rfl, ⟨qx, qy, qz⟩, q⟩ := q1
  obtain ⟨ua, ub, uc, rfl, ra, rb, rc⟩ : ∃ ua ub uc, us = [ua, ub, uc] ∧ RelV (.ref a) ua ∧ RelV (.ref b) ub ∧ RelV (.ref c) uc := by
    cases r1 with
    | cons r rr =>
      cases rr with
      | cons r' rr =>
        cases rr with
        | cons r'' rr =>
          cases rr
          exact ⟨_, _, _, rfl, r, r', r''⟩
  cases ra
  cases rb
  cases rc
  obtain ⟨v1, _, t1, _⟩ := I1.tuple qx
  obtain ⟨v2, _, t2, _⟩ := I1.tuple qy
  obtain ⟨v3, _, t3, _⟩ := I1.tuple qz
  have la : a < s1.heap.objs.size := t1.lt
  have lb : b < s1.heap.objs.size := t2.lt
  have lc : c < s1.heap.objs.size := t3.lt
  refine zip_begins3 (begins_tuple a v1.toArray) (begins_tuple b v2.toArray) (begins_tuple c v3.toArray) t1 t2 t3 fun m hz hTI hTO g1 g2 g3 hsz hk => wpAny_pyIter_zip hz ?_
  refine ⟨s1.heap.objs.size + 5, [s1.heap.objs.size + 5, s1.heap.objs.size + 3, s1.heap.objs.size + 4, s1.heap.objs.size, s1.heap.objs.size + 1, s1.heap.objs.size + 2], _, _, H1, rfl, I1.kept (t' := s1.toks) hk,
    turn_zip3 (six_new s1.heap.objs.size a b c la lb lc), ⟨hz, hTI, ⟨_, _, _, hTO⟩, ⟨_, g1, rfl, rfl⟩, ⟨_, g2, rfl, rfl⟩, ⟨_, g3, rfl, rfl⟩⟩, fun d hd => ?_, q⟩
  have le : s1.heap.objs.size ≤ d := by
    simp only [List.mem_cons, List.not_mem_nil, or_false] at hd
    rcases hd with e | e | e | e | e | e <;> subst e
    · exact Nat.le_add_right _ _
    · exact Nat.le_add_right _ _
    · exact Nat.le_add_right _ _
    · exact Nat.le_refl _
    · exact Nat.le_add_right _ _
    · exact Nat.le_add_right _ _
  exact I1.fpOk le (I1.hok.fresh le)
section
variable {K : PySem.W.Frag} {σ : L2.St} {H : Hp} {Q : VK} {g : TG} {tt : TT} {te : TE} {vs : List Nat}
theorem r_lcZ3i {ta : TA} (h : ta σ H fun ws H1 => ∃ a b c xs ys zs, ws = [.ref a, .ref b, .ref c] ∧ (SqT K H1 a xs ∧ SqT K H1 b ys ∧ SqT K H1 c zs) ∧ tLc (fun _ H2 R => R (ItT3 K a b c) H2) g tt te vs σ H1 Q) : tLc (iZ3 K ta) g tt te vs σ H Q := h
theorem r_lcZ3 {a b c : Addr} (xs ys zs : List V) (n : Nat) (nx : xs.length = n) (ny : ys.length = n) (nz : zs.length = n) (Pv : Addr → Nat → Hp → Prop) (h0 : ∀ D, H D = none → Pv D 0 (upd H D (.lst [])))
    (hl : ∀ D i H', H D = none → i ≤ n → Pv D i H' → SqT K H' a xs ∧ SqT K H' b ys ∧ SqT K H' c zs)
    (hs : ∀ D i x y z H' T, H D = none → xs[i]? = some x → ys[i]? = some y → zs[i]? = some z → Pv D i H' → H' T = none → g (.ref T) (wipe σ vs) (upd H' T (.tup [x, y, z])) fun σ2 H2 => wipe σ2 vs = wipe σ vs ∧ tt σ2 H2 fun b H3 =>
      if b = true then te σ2 H3 fun y H4 => ∃ acc, H4 D = some (.lst acc) ∧ acc.length < sizeLine ∧ Pv D (i + 1) (upd H4 D (.lst (acc ++ [y]))) else Pv D (i + 1) H3)
    (hd : ∀ D H', H D = none → Pv D n H' → Q (.ref D) H') : tLc (fun _ H2 R => R (ItT3 K a b c) H2) g tt te vs σ H Q := by
  refine fun D hD => ⟨fun i m H => m = n - i ∧ i ≤ n ∧ Pv D i H, ⟨n, by omega, Nat.zero_le _, h0 D hD⟩, ?_⟩
  rintro i m H' ⟨rfl, hi, p⟩
  obtain ⟨qx, qy, qz⟩ := hl D i H' hD hi p
  by_cases lt : i < n
  · refine Or.inr ⟨⟨xs, ys, zs, ⟨qx, qy, qz⟩, by omega, by omega, by omega⟩, Pv D (i + 1), fun H' p' => ⟨n - (i + 1), by omega, rfl, lt, p'⟩, fun v H'' yy => ?_⟩
    obtain ⟨T, x, y, z, rfl, nT, rfl, f1, f2, f3⟩ := yy
    exact hs D i x y z H' T hD (f1 xs qx) (f2 ys qy) (f3 zs qz) p nT
  · have e : i = n := by omega
    subst e
    exact Or.inl ⟨⟨xs, ys, zs, ⟨qx, qy, qz⟩, ⟨by omega, by omega, by omega⟩, .inl (by omega)⟩, hd D H' hD p⟩
end
end Vf

namespace Vf
open PySem PySem.Spec PyProof.Rows L2
/-! ## defs as values: named in a list, called by a name of the caller's -/
/-- a def at an address, with its promise -/
def OkL (P : Program) (w : World) (K : PySem.W.Frag) (mg : Str → Option Value) (base : Heap) (k : Nat) (f : Addr) (sp : Sp) : Prop :=
  ∃ (x : Str) (st : Stmt) (ps : List Str) (fd : FuncData), L2.Fun K x x st f fd ∧ L2.Binds K fd ps [] ∧
    (∀ (A : Around) (outer : List Env) (s : Shared) (H : Hp) (args : Args) (us : List Value) (vs : List V) (Q : VK) (E : XK),
      A.guards = some [] → Room k A → Env0 P w K mg base A outer s H → BindsTo s fd args (ps.zip us) → Vals vs us → sp vs H Q E →
        codeAny (model P w) A (.call (.ref f) args) (CR (CX P w) outer P w H s Q E) s) ∧
    ∀ vs H Q E, sp vs H Q E → vs.length = ps.length
section
variable {P : Program} {w : World} {K : PySem.W.Frag} {mg : Str → Option Value} {base : Heap} {k j : Nat} {x : Str} {st : Stmt} {ps : List Str} {sp : Sp}
theorem Ok.val (G : Ok P w K mg base k x st ps sp) (b : ∀ f fd, L2.Fun K x x st f fd → L2.Binds K fd ps []) : ∃ f, mg x = some (.ref f) ∧ OkL P w K mg base k f sp := by
  obtain ⟨⟨f, fd, F, hm, r⟩, l⟩ := G
  exact ⟨f, hm, x, st, ps, fd, F, b f fd F, r, l⟩
end
section
variable {X : Cx} {k i : Nat} {E : XK} {x : Str} {p pos : Pos} {e : Expr} {es : List Expr} {t : TA}
/-- the slot holds one of some defs -/
def tCallH (i : Nat) (S : Addr → Sp → Prop) (E : XK) (t : TA) : TE := fun σ H Q => ∃ f sp, σ[i]? = some (some (.ref f)) ∧ S f sp ∧ t σ H fun vs H1 => sp vs H1 Q E
theorem pe_gl {S : Addr → Sp → Prop} (A : ∀ f sp, S f sp → OkL X.prog X.w X.K X.mg X.base k f sp) (hg : X.A.guards = some []) (hr : Room k X.A) (hx : Passes (CX X.prog X.w) X E)
    (hN : X.N[i]? = some x) (hv : Vis X.env.scope x) (ha : PA X (e :: es) t)
    (hdb : (x == ("__debug__" : Str)) = false := by decide) (hcd : (x == ("__classdict__" : Str)) = false := by decide)
    (he : starEach (e :: es) X.env = (false, eval e X.env) :: starEach es X.env := by rfl)
    (hpl : (backTo pos (starEach es X.env)).any (·.1) = false := by rfl) :
    PE X (.Call (.Name x p) (e :: es) [] pos) (tCallH i S E t) := by
  refine ⟨fun pins s σ H Q I h => ?_⟩
  obtain ⟨f, sp, hs, hS, ht⟩ := h
  obtain ⟨_, _, ps, fd, F, hb, r, l⟩ := A f sp hS
  refine wpAny_Call_Name_kw (thn ((pe_var (pos := p) hN hv hdb hcd).run pins s σ H (fun v H1 => v = .ref f ∧ H1 = H) I ⟨.ref f, hs, rfl, rfl⟩) fun u s1 ⟨v, H1, I1, r1, q1⟩ => ?_)
  obtain ⟨rfl, rfl⟩ := q1
  cases r1
  refine PySem.W.callWith_K (h₀ := X.base) I.ok.mod.kin F.kp
    (thn (ha.run pos pins s1 σ _ _ I1 ht) fun us s2 ⟨vs, H2, I2, r2, q⟩ => ⟨I2.kIn, ?_⟩) he hpl
  have hl : us.length = ps.length := by rw [← r2.length]; exact l _ _ _ _ q
  have bb := hb s2 us I2.kIn (by rw [List.append_nil]; exact hl)
  rw [List.append_nil] at bb
  refine wpAny_call (codeAny_mono (run_g r hg hr hx I2 bb r2 q) fun z s' hz => ?_)
  cases z with
  | error e => exact hz
  | ok fl => cases fl <;> exact hz
/-- the name of a def, as a value -/
theorem pe_gd {f : Addr} {pos : Pos} (gl : Gl X x) (hm : X.mg x = some (.ref f)) (hd : (x == ("__debug__" : Str)) = false := by decide) : PE X (.Name x pos) (tC (.ref f)) :=
  pe_glob gl hm rfl hd
end
theorem r_callH {i : Nat} {S : Addr → Sp → Prop} {E : XK} {t : TA} {σ : L2.St} {H : Hp} {Q : VK} (f : Addr) (sp : Sp) (h1 : σ[i]? = some (some (.ref f))) (h2 : S f sp) (h : t σ H fun vs H1 => sp vs H1 Q E) : tCallH i S E t σ H Q := ⟨f, sp, h1, h2, h⟩
end Vf

namespace Vf
/-! ## powers by a base -/
theorem cg_mul {n a b c d : Int} (h1 : a % n = b % n) (h2 : c % n = d % n) : (a * c) % n = (b * d) % n := by
  rw [Int.mul_emod, h1, h2, ← Int.mul_emod]
theorem cg_pow {n a b : Int} (h : a % n = b % n) : ∀ k : Nat, a ^ k % n = b ^ k % n
  | 0 => by rw [Int.pow_zero, Int.pow_zero]
  | k + 1 => by
    rw [Int.pow_succ, Int.pow_succ]
    exact cg_mul (cg_pow h k) h
theorem cg_mod (n a : Int) : (a % n) % n = a % n := Int.emod_emod ..
theorem sq_pow (f : Int) (k : Nat) : (f * f) ^ k = f ^ (2 * k) := by
  rw [Int.pow_mul, show f * f = f ^ 2 by rw [Int.pow_succ, Int.pow_succ, Int.pow_zero, Int.one_mul]]
/-- the turn of raising by squares -/
theorem raise_odd {n p f : Int} {l : Nat} (h : l % 2 = 1) : ((p * f % n) * (f * f % n) ^ (l / 2)) % n = (p * f ^ l) % n := by
  have e : p * f ^ l = (p * f) * (f * f) ^ (l / 2) := by
    have z : l = 2 * (l / 2) + 1 := by omega
    rw [sq_pow]
    conv => lhs; rw [z]
    rw [Int.pow_succ, Int.mul_comm (f ^ (2 * (l / 2))), ← Int.mul_assoc]
  rw [e]
  exact cg_mul (cg_mod _ _) (cg_pow (cg_mod _ _) _)
theorem raise_even {n p f : Int} {l : Nat} (h : l % 2 = 0) : (p * (f * f % n) ^ (l / 2)) % n = (p * f ^ l) % n := by
  have e : p * f ^ l = p * (f * f) ^ (l / 2) := by
    have z : l = 2 * (l / 2) := by omega
    rw [sq_pow]
    conv => lhs; rw [z]
  rw [e]
  exact cg_mul rfl (cg_pow (cg_mod _ _) _)
/-- what turns a number round is one rest -/
theorem inv_one {n x u v : Int} (hu : (u * x) % n = 1 % n) (hv : (v * x) % n = 1 % n) : u % n = v % n := by
  have h1 : (u * (v * x)) % n = (u * 1) % n := cg_mul rfl hv
  have h2 : (v * (u * x)) % n = (v * 1) % n := cg_mul rfl hu
  rw [Int.mul_one] at h1 h2
  rw [← h1, ← h2, Int.mul_left_comm]
theorem inv_pow {n x u : Int} (hu : (u * x) % n = 1 % n) (k : Nat) : (u ^ k * x ^ k) % n = 1 % n := by
  rw [← Int.mul_pow]
  have h := cg_pow hu k
  rw [Int.one_pow] at h
  exact h
/-- open numbers: what turns round one of them tells that it is open -/
theorem open_of {n : Nat} {x u : Int} (hu : (u * x) % (n : Int) = 1 % (n : Int)) : Nat.gcd x.natAbs n = 1 := by
  have d1 : ((Nat.gcd x.natAbs n : Nat) : Int) ∣ x := Int.ofNat_dvd_left.mpr (Nat.gcd_dvd_left _ _)
  have d2 : ((Nat.gcd x.natAbs n : Nat) : Int) ∣ (n : Int) := Int.natCast_dvd_natCast.mpr (Nat.gcd_dvd_right _ _)
  have d3 : (n : Int) ∣ u * x - 1 := Int.dvd_of_emod_eq_zero (Int.emod_eq_emod_iff_emod_sub_eq_zero.mp hu)
  have d4 : ((Nat.gcd x.natAbs n : Nat) : Int) ∣ 1 := by
    have h := Int.dvd_sub (Int.dvd_trans d1 (Int.dvd_mul_left u x)) (Int.dvd_trans d2 d3)
    rw [show u * x - (u * x - 1) = 1 by omega] at h
    exact h
  have := Int.natCast_dvd_natCast.mp (show ((Nat.gcd x.natAbs n : Nat) : Int) ∣ ((1 : Nat) : Int) from d4)
  exact Nat.dvd_one.mp this
end Vf

namespace Vf
open PySem PySem.Spec PyProof.Rows L2
/-! ## an own exception class over any built-in one, its fields stored by its __init__ -/
structure EC (K : PySem.W.Frag) (C : Addr) (tail : List Value) (nid : String) : Prop where
  cl : ∃ nm q N bs bm sn sub ab col dd k0 k1 k2 k3 k5,
    K.lookup C = some (excClassObj nm q C N bs bm true sn sub ab col dd k0 k1 k2 k3 k5 nid) ∧ PySem.W.excTail tail bm = true
  st : PySem.W.findIn K (.ref C) "__setattr__" = some (some (.builtin "object.__setattr__"))
  xf : XfC K C
  tt : PySem.W.typeIn K (.ref C) = some (.type "type")
  kk : PySem.W.keepIn K (.ref C) = true
theorem EC.over {K : PySem.W.Frag} {C : Addr} {tail : List Value} {nid : String} (T : EC K C tail nid) : PySem.W.excOver K C tail = true := by
  obtain ⟨nm, q, N, bs, bm, sn, sub, ab, col, dd, k0, k1, k2, k3, k5, hC, hb⟩ := T.cl
  unfold PySem.W.excOver PySem.W.clsIn
  rw [hC]
  show ((C == C) && PySem.W.excTail tail bm) = true
  rw [hb, beq_self_eq_true, Bool.and_self]
theorem taker_none {K : PySem.W.Frag} {C : Addr} {f : Str} (h : PySem.W.findIn K (.ref C) f = some none) : PySem.W.takerIn K C f = some none := by
  unfold PySem.W.takerIn
  rw [h] <;> rfl
/-- what of the built-in base the stores want -/
abbrev SFa (B : String) (tail : List Value) := StoreFacts B tail "object.__setattr__" "object"
section
variable {X : Cx} {pins : List (Addr × Obj)} {σ : L2.St} {H : Hp} {s : Shared} {a C dx : Addr} {f : Str} {y : V} {u : Value} {fs : List (Str × V)}
variable {Q : Unit → Shared → Prop} {E : Value → Shared → Prop} {A : Around} {B nid iid : String} {tail : List Value}
/-- self.f = y on an exception without a dict -/
theorem est_new (T : EC X.K C tail nid) (SF : SFa B tail) (I : Inv X pins σ H s) (e : H a = some (exo a C none)) (hno : PySem.W.findIn X.K (.ref C) f = some none) (ry : RelV y u)
    (h : ∀ dx s', H dx = none → dx ≠ a → Inv X pins σ (upd (upd H dx (exd dx [(f, y)])) a (exo a C (some dx))) s' → Q () s') :
    wpAny (model X.prog X.w) A (setAttr (.ref a) f u) Q E s := by
  obtain ⟨t1, ho⟩ := exo_at I.hok e
  obtain ⟨hp, g, d, t, os⟩ := s
  have hx : hp.get? a = some (PySem.W.excObj C t1 none .none) := ho
  refine PySem.W.set_plain (od := none) I.kIn ⟨hx, rfl, rfl, trivial⟩ T.st ?_
  refine PySem.W.osa_openX (od := none) (r := none) SF I.kIn ⟨hx, rfl, rfl, trivial⟩ T.over (taker_none hno) fun b => ?_
  obtain ⟨cd, hc, hd'⟩ := PySem.W.any_some T.xf.hdC
  have ltA : a < hp.objs.size := Heap.lt_size hx
  refine wpAny_bind (wpAny_pure (wpAny_bind (PySem.W.instanceDict_exc hx (PySem.W.looks_clsIn I.kIn hc) hd' ?_)))
  show wpAny _ _ (Builtin.ObjectAttr.storeInDict hp.objs.size (.str f _) f u) _ _ _
  have nax : a ≠ hp.objs.size := Nat.ne_of_lt ltA
  have xN : ((hp.push (PySem.W.dictOf [] 0)).update a fun o => { o with dict := some hp.objs.size }).get? a = some (PySem.W.excObj C t1 (some hp.objs.size) .none) :=
    Heap.get?_update_self _ (Heap.get?_push_of_some _ hx) rfl
  refine PySem.HandSPX.store_in_new ⟨PySem.W.dictOf [] 0, #[], _, (Heap.get?_update_ne _ _ _ _ nax.symm).trans (Heap.get?_push_at rfl rfl), rfl, fun e he => absurd he (by simp), fun _ => rfl⟩ fun h' tk' hn sb => ?_
  have k : ∀ b o, b ≠ a → hp.get? b = some o → h'.get? b = some o := fun b o hb ob =>
    (sb.2 b (Nat.ne_of_lt (Heap.lt_size ob))).trans ((Heap.get?_update_ne _ _ _ _ hb).trans (Heap.get?_push_of_some _ ob))
  have xE : h'.get? a = some (PySem.W.excObj C t1 (some hp.objs.size) .none) := (sb.2 a nax).trans xN
  have hnd : H hp.objs.size = none := I.hok.fresh (Nat.le_refl _)
  have nD : ∀ {b : Addr} {o : Obj}, hp.get? b = some o → b ≠ hp.objs.size := fun {b o} q => Nat.ne_of_lt (Heap.lt_size q)
  have nA : ∀ {b : Addr}, H b = none → b ≠ a := fun {b} n z => by
    rw [z, e] at n
    cases n
  have oT : ∀ {b : Addr} {o : HO}, H b = some o → exo a C none ≠ o → upd (upd H hp.objs.size (exd hp.objs.size [(f, y)])) a (exo a C (some hp.objs.size)) b = some o := fun {b o} q ne => by
    rw [upd_ne (L2.at_ne e q ne), upd_ne (ne_of_none q hnd)]
    exact q
  have U : Un X.fs [] H (upd (upd H hp.objs.size (exd hp.objs.size [(f, y)])) a (exo a C (some hp.objs.size))) hp h' := by
    refine ⟨fun b o q n _ _ => k b o (nA n) q, fun b o q n _ _ => ⟨o.slots, k b o (nA n) q⟩, fun b o q n _ => ?_, fun b o q _ => ?_, fun b xs q => oT q exo_tup, fun b o v q => oT q exo_frz, fun b ps q => ⟨#[], ?_⟩⟩
    · rw [upd_ne (nA n), upd_ne (nD q)]
      exact n
    · by_cases hb : b = a
      · rw [hb]
        exact ⟨_, xE⟩
      · exact ⟨o, k b o hb q⟩
    · rw [oT q exo_tbl, Array.append_empty]
  refine h hp.objs.size _ hnd nax.symm (I.un (t' := tk') U fun b o q => ?_)
  by_cases hb : b = a
  · rw [hb, upd_same] at q
    cases q
    rw [hb]
    exact exo_ok xE
  · rw [upd_ne hb] at q
    by_cases hd : b = hp.objs.size
    · rw [hd, upd_same] at q
      cases q
      rw [hd]
      exact exd_ok hn (relO_put (fs := []) ry fun g => True.intro)
    · rw [upd_ne hd] at q
      refine (I.hok b o q).stay (fun c v hc z => k c v ?_ z) (fun c hc => oT hc exo_own) fun c xs hc => oT hc exo_tup
      rcases hc with hc | hc
      · rw [hc]
        exact hb
      · exact L2.at_ne e hc exo_own
/-- a further one -/
theorem est_old (T : EC X.K C tail nid) (SF : SFa B tail) (I : Inv X pins σ H s) (e : H a = some (exo a C (some dx))) (ed : H dx = some (exd dx fs)) (hl : fs.length ≤ 900)
    (hno : PySem.W.findIn X.K (.ref C) f = some none) (ry : RelV y u) (h : ∀ s', Inv X pins σ (upd H dx (exd dx ((f, y) :: fs))) s' → Q () s') :
    wpAny (model X.prog X.w) A (setAttr (.ref a) f u) Q E s := by
  obtain ⟨t1, ho⟩ := exo_at I.hok e
  obtain ⟨mA, hns, rel⟩ := exd_at I.hok ed
  have hw := within_of rel
  obtain ⟨hp, g, d, t, os⟩ := s
  obtain ⟨oD, _, _, hoD, _, _⟩ := hns.count hw
  have hx : hp.get? a = some (PySem.W.excObj C t1 (some dx) .none) := ho
  refine PySem.W.set_plain (od := some oD) I.kIn ⟨hx, rfl, rfl, hoD⟩ T.st ?_
  refine PySem.W.osa_openX (od := some oD) (r := none) SF I.kIn ⟨hx, rfl, rfl, hoD⟩ T.over (taker_none hno) fun b => ?_
  obtain ⟨cd, hc, hd'⟩ := PySem.W.any_some T.xf.hdC
  refine wpAny_bind (wpAny_pure (wpAny_bind (wpAny_bind (wpAny_loadPart hx (wpAny_bind ((PySem.W.looks_clsIn I.kIn hc).at ?_))))))
  rw [hd']
  refine wpAny_pure (a := some dx) ?_
  refine PySem.OEX.store_in_old hns hw (by rw [List.length_map]; omega) fun h' tk' hn sb => ?_
  have there : ∃ o, h'.get? dx = some o := by
    obtain ⟨o, _, _, e', _⟩ := hn
    exact ⟨o, e'⟩
  exact h _ (I.write (t' := tk') (x := dx) (e := dx) (o := exd dx ((f, y) :: fs)) (by rw [ed]; exact True.intro) (.inl rfl) (fun b o hb ob => (sb.2 b hb).trans ob) there (exd_ok hn (relO_put ry rel)))
end
/-- what the making of an exception at C asks of its arguments -/
def MkB (C : Addr) (sp : Sp) (vs : List V) (H1 : Hp) (Q : XK) : Prop := vs.length ≤ 1000 ∧ ∀ a, H1 a = none → sp (.ref a :: vs) (upd H1 a (exo a C none))
  (fun v H2 => v = .non ∧ ∃ (d : Addr) (fs : List (Str × V)), H2 a = some (exo a C (some d)) ∧ H2 d = some (exd d fs) ∧ H1 d = none ∧ Q (.ref C) (some d) (upd (del H2 a) d (.xd fs)))
  (fun _ _ _ => False)
/-- self.f = e, in the __init__ of the class at C -/
def tEst (C : Addr) (f : Str) (to te : TE) : TS := fun D σ H => te σ H fun y H1 => to σ H1 fun x H2 => ∃ a : Addr, x = .ref a ∧
  ((H2 a = some (exo a C none) ∧ ∀ dx, H2 dx = none → dx ≠ a → D.nx σ (upd (upd H2 dx (exd dx [(f, y)])) a (exo a C (some dx)))) ∨
    ∃ (dx : Addr) (fs : List (Str × V)), H2 a = some (exo a C (some dx)) ∧ H2 dx = some (exd dx fs) ∧ fs.length ≤ 900 ∧ D.nx σ (upd H2 dx (exd dx ((f, y) :: fs))))
section
variable {X : Cx} {o e : Expr} {es : List Expr} {to te : TE} {ta : TA} {f : Str} {p p' p1 p2 pos : Pos} {C : Addr} {B nid iid : String} {tail : List Value}
theorem ps_est (T : EC X.K C tail nid) (SF : SFa B tail) (hno : PySem.W.findIn X.K (.ref C) f = some none) (ho : PE X o to) (he : PE X e te)
    (hs : swapsWith e (some (.Attribute o f p')) pos.line X.env = pure false := by rfl) : PS X (.Assign [.Attribute o f p'] e pos) (tEst C f to te) := by
  refine ⟨fun pins s σ H D I h => ?_⟩
  refine plainObj_wpAny_Assign_Attribute (thn (he.run pins s σ H _ I h) fun v s1 ⟨y, H1, I1, r1, q1⟩ => ?_) hs
  refine thn (ho.run pins s1 σ H1 _ I1 q1) fun u s2 ⟨x, H2, I2, r2, a, ex, q⟩ => ?_
  subst ex
  obtain rfl : u = Value.ref a := r2
  rcases q with ⟨ea, q⟩ | ⟨dx, fs, ea, ed, hl, q⟩
  · exact est_new T SF I2 ea hno r1 fun dx s' n ne J => ⟨σ, _, J, q dx n ne⟩
  · exact est_old T SF I2 ea ed hl hno r1 fun s' J => ⟨σ, _, J, q⟩
/-- C(e, ..): an exception is made, its __init__ being known -/
theorem pmk_ec {CX : CXT} {x : Str} {fI : Addr} {k : Nat} {fd : FuncData} {ps : List Str} {sp : Sp} (T : EC X.K C tail nid) (EB : ExcBaseFacts B nid iid tail)
    (iC : PySem.W.findIn X.K (.ref C) "__init__" = some (some (.ref fI))) (tI : PySem.W.typeIn X.K (.ref fI) = some (.type "function"))
    (F1 : FnOk X.prog X.w X.K X.mg X.base CX k fI fd ps sp) (hr : Room (k + 1) X.A) (hb : Binds X.K fd ps []) (hx : Passes CX X (fun _ _ _ => False)) (hg : Gl X x) (hm : X.mg x = some (.ref C)) (ha : PA X (e :: es) ta)
    (hdb : (x == ("__debug__" : Str)) = false := by decide) (he : starEach (e :: es) X.env = (false, eval e X.env) :: starEach es X.env := by rfl)
    (hpl : (backTo pos (starEach es X.env)).any (·.1) = false := by rfl) {R : List V → Hp → XK → Prop} (hR : ∀ vs H1 Q, R vs H1 Q → MkB C sp vs H1 Q) :
    PMk X (.Call (.Name x p) (e :: es) [] pos) (fun σ H Q => ta σ H fun vs H1 => R vs H1 Q) := by
  intro pins s σ H Q I h
  obtain ⟨nm, q, N, bs, bm, sn, sub, ab, col, dd, k0, k1, k2, k3, k5, hC, hbm⟩ := T.cl
  refine wpAny_Call_Name_kw (ld_glob I hg hm ?_ hdb)
  refine PySem.W.callWith_K (h₀ := X.base) I.ok.mod.kin T.kk (thn (ha.run pos pins s σ H _ I h) fun us s1 ⟨vs, H1, I1, r1, qR⟩ => ⟨I1.kIn, ?_⟩) he hpl
  obtain ⟨hz, q1⟩ := hR _ _ _ qR
  show wpAny _ _ (call (.ref C) us) _ _ _
  obtain ⟨hp, g, dr, tk, os⟩ := s1
  have hsz : hp.objs.size ≤ hp.objs.size + 1 := Nat.le_succ _
  have hq := q1 _ (I1.hok.fresh hsz)
  have up : ∀ b o, hp.get? b = some o → ((hp.push (PySem.W.kdv_tup us)).push (PySem.HandSPX.excO C hp.objs.size)).get? b = some o :=
    fun b o e => Heap.get?_push_of_some _ (Heap.get?_push_of_some _ e)
  have hget : ((hp.push (PySem.W.kdv_tup us)).push (PySem.HandSPX.excO C hp.objs.size)).get? (hp.objs.size + 1) = some (PySem.HandSPX.excO C hp.objs.size) := by heap_get
  have I2 := I1.laid (t' := tk) (a := hp.objs.size + 1) (o := exo (hp.objs.size + 1) C none) (h' := (hp.push (PySem.W.kdv_tup us)).push (PySem.HandSPX.excO C hp.objs.size)) up hsz (exo_ok hget)
  have r2 : Vals (V.ref (hp.objs.size + 1) :: vs) (Value.ref (hp.objs.size + 1) :: us) := .cons rfl r1
  have hl : (Value.ref (hp.objs.size + 1) :: us).length = ps.length := r2.length.symm.trans (F1.len _ _ _ _ hq)
  have hb' := hb _ (Value.ref (hp.objs.size + 1) :: us) I2.kIn (by rw [List.append_nil]; exact hl)
  rw [List.append_nil] at hb'
  have hus : us.length ≤ sizeLine := by
    rw [← Paired.length r1, sizeLine_eq]
    omega
  refine wpAny_call (PySem.HandSPX.call_own EB (fun Y => PySem.W.excTail_contains Y bm hbm) (I1.kIn _ _ hC) (PySem.W.looks_findIn I1.kIn iC) (fun self => PySem.W.bind_fn I1.kIn self tI) hus ?_)
  refine codeAny_mono (F1.run _ X.stack _ _ _ _ _ _ (fun _ _ _ => False) (hr.make C us []) (I2.env0.make C us []) hb' r2 hq) fun r s' z => ?_
  cases r with
  | error er => exact hx pins σ _ _ er s' I2 z
  | ok fl =>
    cases fl with
    | next => exact False.elim z
    | brk => exact False.elim z
    | cont => exact False.elim z
    | ret u =>
      obtain ⟨v, H2, os2, bare2, un2, hok2, rv, ev, d, fs, ea, ed, hd1, q2⟩ := z
      subst ev
      obtain ⟨h2, g2, d2, t2, os'⟩ := s'
      exact ⟨rv, mk_end (raises_own T.xf.exC T.tt) I1 hsz up un2 hok2 os2 bare2 ea ed hd1 q2⟩
end
/-- where the class stands that the module calls so -/
def cA (mg : Str → Option Value) (x : Str) : Addr := match mg x with
  | some (.ref a) => a
  | _ => 0
theorem cA_eq {mg : Str → Option Value} {x : Str} {a : Addr} (h : mg x = some (.ref a)) : cA mg x = a := by
  unfold cA
  rw [h]
/-! ## __init__ with one field, with two -/
def spI1 (C : Addr) (f : Str) : Sp := fun vs H Q _ => ∃ (a : Addr) (v : V), vs = [.ref a, v] ∧ H a = some (exo a C none) ∧
  ∀ dx, H dx = none → dx ≠ a → Q .non (upd (upd H dx (exd dx [(f, v)])) a (exo a C (some dx)))
def spI2 (C : Addr) (f g : Str) : Sp := fun vs H Q _ => ∃ (a : Addr) (v w : V), vs = [.ref a, v, w] ∧ H a = some (exo a C none) ∧
  ∀ dx, H dx = none → dx ≠ a → Q .non (upd (upd (upd H dx (exd dx [(f, v)])) a (exo a C (some dx))) dx (exd dx [(g, w), (f, v)]))
/-- C(e) of one field; C(e, e') of two: the exception's dict stands at a new place -/
def tMk1 (C : Addr) (f : Str) (ta : TA) : L2.St → Hp → XK → Prop := fun σ H Q => ta σ H fun vs H1 => ∃ v, vs = [v] ∧ ∀ d, H1 d = none → Q (.ref C) (some d) (upd H1 d (.xd [(f, v)]))
def tMk2 (C : Addr) (f g : Str) (ta : TA) : L2.St → Hp → XK → Prop := fun σ H Q => ta σ H fun vs H1 => ∃ v w, vs = [v, w] ∧ ∀ d, H1 d = none → Q (.ref C) (some d) (upd H1 d (.xd [(g, w), (f, v)]))
theorem mk1_of {C : Addr} {f : Str} (vs : List V) (H1 : Hp) (Q : XK) : (∃ v, vs = [v] ∧ ∀ d, H1 d = none → Q (.ref C) (some d) (upd H1 d (.xd [(f, v)]))) → MkB C (spI1 C f) vs H1 Q := by
  rintro ⟨v, rfl, q⟩
  refine ⟨Nat.le_of_ble_eq_true rfl, fun a ha => ⟨a, v, rfl, upd_same, fun dx hd ne => ⟨rfl, dx, [(f, v)], upd_same, ?_, ?_, ?_⟩⟩⟩
  · rw [upd_ne ne, upd_same]
  · rw [upd_ne ne] at hd
    exact hd
  · have z := q dx (by rw [upd_ne ne] at hd; exact hd)
    have e : upd (del (upd (upd (upd H1 a (exo a C none)) dx (exd dx [(f, v)])) a (exo a C (some dx))) a) dx (.xd [(f, v)]) = upd H1 dx (.xd [(f, v)]) := by
      funext b
      by_cases h1 : b = dx
      · rw [h1, upd_same, upd_same]
      · rw [upd_ne h1, upd_ne h1]
        by_cases h2 : b = a
        · rw [h2, del_same, ha]
        · rw [del_ne h2, upd_ne h2, upd_ne h1, upd_ne h2]
    rw [e]
    exact z
theorem mk2_of {C : Addr} {f g : Str} (vs : List V) (H1 : Hp) (Q : XK) : (∃ v w, vs = [v, w] ∧ ∀ d, H1 d = none → Q (.ref C) (some d) (upd H1 d (.xd [(g, w), (f, v)]))) → MkB C (spI2 C f g) vs H1 Q := by
  rintro ⟨v, w, rfl, q⟩
  refine ⟨Nat.le_of_ble_eq_true rfl, fun a ha => ⟨a, v, w, rfl, upd_same, fun dx hd ne => ⟨rfl, dx, [(g, w), (f, v)], ?_, upd_same, ?_, ?_⟩⟩⟩
  · rw [upd_ne ne.symm, upd_same]
  · rw [upd_ne ne] at hd
    exact hd
  · have z := q dx (by rw [upd_ne ne] at hd; exact hd)
    have e : upd (del (upd (upd (upd (upd H1 a (exo a C none)) dx (exd dx [(f, v)])) a (exo a C (some dx))) dx (exd dx [(g, w), (f, v)])) a) dx (.xd [(g, w), (f, v)]) = upd H1 dx (.xd [(g, w), (f, v)]) := by
      funext b
      by_cases h1 : b = dx
      · rw [h1, upd_same, upd_same]
      · rw [upd_ne h1, upd_ne h1]
        by_cases h2 : b = a
        · rw [h2, del_same, ha]
        · rw [del_ne h2, upd_ne h1, upd_ne h2, upd_ne h1, upd_ne h2]
    rw [e]
    exact z
/-! ## calls of defs that may raise, by the caller's slots -/
def tCallW (sp : Sp) (W : WX) (t : TA) : TE := fun σ H Q => t σ H fun vs H1 => sp vs H1 Q fun cls d H' => W cls d σ H'
def tCallKW (sp : Sp) (gV : List V → List V → List V) (W : WX) (t tk : TA) : TE := fun σ H Q => t σ H fun vs H1 => tk σ H1 fun zs H2 => sp (gV vs zs) H2 Q fun cls d H' => W cls d σ H'
section
variable {X : Cx} {k : Nat} {ps ks : List Str} {sp : Sp} {W : WX} {x : Str} {st : Stmt} {p pos : Pos} {e : Expr} {es : List Expr} {kws : List Keyword} {t tq : TA}
theorem run_gS {pins : List (Addr × Obj)} {σ : L2.St} {H : Hp} {s : Shared} {Q : VK} {us : List Value} {vs : List V} {f : Addr} {fd : FuncData} {args : Args}
    (r : ∀ (A : Around) (outer : List Env) (s : Shared) (H : Hp) (args : Args) (us : List Value) (vs : List V) (Q : VK) (E : XK),
      A.guards = some [] → Room k A → Env0 X.prog X.w X.K X.mg X.base A outer s H → BindsTo s fd args (ps.zip us) → Vals vs us → sp vs H Q E →
        codeAny (model X.prog X.w) A (.call (.ref f) args) (CR (CX X.prog X.w) outer X.prog X.w H s Q E) s)
    (hg : X.A.guards = some []) (hr : Room k X.A) (tk : Takes X W) (I : Inv X pins σ H s) (hb : BindsTo s fd args (ps.zip us)) (hv : Vals vs us)
    (h : sp vs H Q fun cls d H' => W cls d σ H') :
    codeAny (model X.prog X.w) X.A (.call (.ref f) args)
      (fun r s' => match r with | .error e => X.xe e s' | .ok (.ret u) => EP X pins σ Q u s' | .ok _ => False) s := by
  refine codeAny_mono (r X.A X.stack s H args us vs Q _ hg hr I.env0 hb hv h) fun r s' hq => ?_
  cases r with
  | error e => exact tk _ _ (XE.of_call I (fun _ _ _ z => z) hq)
  | ok fl =>
    cases fl with
    | ret u => exact I.after hq
    | next => exact hq
    | brk => exact hq
    | cont => exact hq
theorem pe_gS (G : Ok X.prog X.w X.K X.mg X.base k x st ps sp) (b : ∀ f fd, L2.Fun X.K x x st f fd → L2.Binds X.K fd ps [])
    (hg : X.A.guards = some []) (hr : Room k X.A) (tk : Takes X W) (gl : Gl X x) (ha : PA X (e :: es) t)
    (hdb : (x == ("__debug__" : Str)) = false := by decide)
    (he : starEach (e :: es) X.env = (false, eval e X.env) :: starEach es X.env := by rfl)
    (hpl : (backTo pos (starEach es X.env)).any (·.1) = false := by rfl) :
    PE X (.Call (.Name x p) (e :: es) [] pos) (tCallW sp W t) := by
  obtain ⟨⟨f, fd, F, hm, r⟩, l⟩ := G
  refine ⟨fun pins s σ H Q I h => wpAny_Call_Name_kw (ld_glob I gl hm ?_ hdb)⟩
  refine PySem.W.callWith_K (h₀ := X.base) I.ok.mod.kin F.kp (thn (ha.run pos pins s σ H _ I h) fun us s1 ⟨vs, H1, I1, r1, q1⟩ => ⟨I1.kIn, ?_⟩) he hpl
  have hl : us.length = ps.length := r1.length.symm.trans (l _ _ _ _ q1)
  have bb := b f fd F s1 us I1.kIn (by rw [List.append_nil]; exact hl)
  rw [List.append_nil] at bb
  refine wpAny_call (codeAny_mono (run_gS r hg hr tk I1 bb r1 q1) fun z s' hz => ?_)
  rcases z with e | fl
  · exact hz
  · cases fl <;> exact hz
theorem pe_gkS0 {gf : List Value → List Value → List Value} {gV : List V → List V → List V} (G : Ok X.prog X.w X.K X.mg X.base k x st ps sp)
    (b : ∀ f fd, L2.Fun X.K x x st f fd → KBinds X.K fd ps ks gf gV)
    (hg : X.A.guards = some []) (hr : Room k X.A) (tk : Takes X W) (gl : Gl X x) (hkw : PK X kws tq)
    (hall : (backToKw pos (keywordEach kws X.env)).all (·.1.isSome) = true := by rfl)
    (hks : (backToKw pos (keywordEach kws X.env)).filterMap (·.1) = ks := by rfl) (hdb : (x == ("__debug__" : Str)) = false := by decide)
    (hpl : ((backTo pos (starEach [] X.env)).any (·.1) || (backToKw pos (keywordEach kws X.env)).any (·.1.isNone)) = false := by rfl) :
    PE X (.Call (.Name x p) [] kws pos) (tCallKW sp gV W tNil tq) := by
  obtain ⟨⟨f, fd, F, hm, r⟩, l⟩ := G
  refine ⟨fun pins s σ H Q I h => wpAny_Call_Name_kw (ld_glob I gl hm ?_ hdb)⟩
  refine PySem.W.callWith_KW0 (h₀ := X.base) I.ok.mod.kin F.kp hall (thn (hkw.run pos pins s σ H _ I h) fun ws s2 ⟨zs, H2, I2, rz, q2⟩ => ⟨I2.kIn, ?_⟩) hpl
  rw [hks]
  have B := b f fd F
  have r2 := B.rel .nil rz
  refine wpAny_call (codeAny_mono (run_gS r hg hr tk I2 (B.to s2 [] ws I2.kIn (r2.length.symm.trans (l _ _ _ _ q2))) r2 q2) fun z s' hz => ?_)
  rcases z with e | fl
  · exact hz
  · cases fl <;> exact hz
theorem pe_gkS {gf : List Value → List Value → List Value} {gV : List V → List V → List V} (G : Ok X.prog X.w X.K X.mg X.base k x st ps sp)
    (b : ∀ f fd, L2.Fun X.K x x st f fd → KBinds X.K fd ps ks gf gV)
    (hg : X.A.guards = some []) (hr : Room k X.A) (tk : Takes X W) (gl : Gl X x) (ha : PA X (e :: es) t) (hkw : PK X kws tq)
    (hall : (backToKw pos (keywordEach kws X.env)).all (·.1.isSome) = true := by rfl)
    (hks : (backToKw pos (keywordEach kws X.env)).filterMap (·.1) = ks := by rfl) (hdb : (x == ("__debug__" : Str)) = false := by decide)
    (he : starEach (e :: es) X.env = (false, eval e X.env) :: starEach es X.env := by rfl)
    (hpl : ((backTo pos (starEach (e :: es) X.env)).any (·.1) || (backToKw pos (keywordEach kws X.env)).any (·.1.isNone)) = false := by rfl) :
    PE X (.Call (.Name x p) (e :: es) kws pos) (tCallKW sp gV W t tq) := by
  obtain ⟨⟨f, fd, F, hm, r⟩, l⟩ := G
  refine ⟨fun pins s σ H Q I h => wpAny_Call_Name_kw (ld_glob I gl hm ?_ hdb)⟩
  refine PySem.W.callWith_KW (h₀ := X.base) I.ok.mod.kin F.kp hall (thn (ha.run pos pins s σ H _ I h) fun us s1 ⟨vs, H1, I1, r1, q⟩ => ?_) hpl he
  refine thn (hkw.run pos pins s1 σ H1 _ I1 q) fun ws s2 ⟨zs, H2, I2, rz, q2⟩ => ⟨I2.kIn, ?_⟩
  rw [hks]
  have B := b f fd F
  have r2 := B.rel r1 rz
  refine wpAny_call (codeAny_mono (run_gS r hg hr tk I2 (B.to s2 us ws I2.kIn (r2.length.symm.trans (l _ _ _ _ q2))) r2 q2) fun z s' hz => ?_)
  rcases z with e | fl
  · exact hz
  · cases fl <;> exact hz
end
section
variable {sp : Sp} {W : WX} {t tq : TA} {gV : List V → List V → List V} {σ : L2.St} {H : Hp} {Q : VK} {a C : Addr} {cls : Value} {d : Option Addr} {f : Str} {te : TE}
theorem r_callW (h : t σ H fun vs H1 => sp vs H1 Q fun cls d H' => W cls d σ H') : tCallW sp W t σ H Q := h
theorem r_callKW (h : t σ H fun vs H1 => tq σ H1 fun zs H2 => sp (gV vs zs) H2 Q fun cls d H' => W cls d σ H') : tCallKW sp gV W t tq σ H Q := h
theorem r_xf (h : te σ H fun x H1 => x = .ref a ∧ cls = .ref C ∧ ∃ (dd : Addr) (fs : List (Str × V)) (v : V), d = some dd ∧ H1 dd = some (.xd fs) ∧ fs.lookup f = some v ∧ Q v H1) :
    tXf a cls d C f te σ H Q := h
/-- the clause 'except x as n' takes it; it goes by -/
theorem w_as {K : PySem.W.Frag} {c : Value} {i : Nat} {ts : Addr → Value → Option Addr → TS} {Wout : WX} {D : Ends} (h1 : PySem.W.exmOne K cls c = some true)
    (h : ∀ a, H a = none → ts a cls d { nx := fun σ' H' => D.nx (σ'.set i none) H', rt := D.rt, bk := fun σ' H' => D.bk (σ'.set i none) H', ct := fun σ' H' => D.ct (σ'.set i none) H' } (σ.set i (some (.ref a))) H) :
    wAs K c i ts Wout D cls d σ H := ⟨true, h1, fun _ a ha => h a ha, fun z => Bool.noConfusion z⟩
theorem w_by {K : PySem.W.Frag} {c : Value} {i : Nat} {ts : Addr → Value → Option Addr → TS} {Wout : WX} {D : Ends} (h1 : PySem.W.exmOne K cls c = some false) (h : Wout cls d σ H) :
    wAs K c i ts Wout D cls d σ H := ⟨false, h1, fun z => Bool.noConfusion z, fun _ => h⟩
end
/-- whether an except clause takes an exception of an own class -/
theorem exm_cls {K : PySem.W.Frag} {C D : Addr} {b : Bool} (h1 : PySem.W.subIn K (.ref D) (.type "BaseException") = some true) (h2 : PySem.W.hasDictIn K D = true)
    (h3 : PySem.W.typeIn K (.ref D) = some (.type "type")) (h4 : PySem.W.subIn K (.ref C) (.ref D) = some b) : PySem.W.exmOne K (.ref C) (.ref D) = some b := by
  obtain ⟨cd, hc, _⟩ := PySem.W.any_some h2
  unfold PySem.W.exmOne
  rw [if_pos (by rw [h1]; decide)]
  unfold PySem.W.kitCls
  dsimp only
  rw [if_pos (by rw [h3, hc] <;> rfl)]
  exact h4
/-! ## is None, is not None -/
theorem r_isn_ref {p : Addr} {R : Bool → Prop} (h : R false) : V.non = V.non ∧ ∃ k, V.bl (decide (V.ref p = V.non)) = V.bl k ∧ R k := ⟨rfl, _, rfl, by rw [show decide (V.ref p = V.non) = false by simp]; exact h⟩
theorem r_nn_ref {p : Addr} {R : Bool → Prop} (h : R true) : V.non = V.non ∧ ∃ k, V.bl (!decide (V.ref p = V.non)) = V.bl k ∧ R k := ⟨rfl, _, rfl, by rw [show (!decide (V.ref p = V.non)) = true by simp]; exact h⟩
theorem r_isn_int {i : Int} {R : Bool → Prop} (h : R false) : V.non = V.non ∧ ∃ k, V.bl (decide (V.int i = V.non)) = V.bl k ∧ R k := ⟨rfl, _, rfl, by rw [show decide (V.int i = V.non) = false by simp]; exact h⟩
theorem r_nn_int {i : Int} {R : Bool → Prop} (h : R true) : V.non = V.non ∧ ∃ k, V.bl (!decide (V.int i = V.non)) = V.bl k ∧ R k := ⟨rfl, _, rfl, by rw [show (!decide (V.int i = V.non)) = true by simp]; exact h⟩
theorem r_isn_non {R : Bool → Prop} (h : R true) : V.non = V.non ∧ ∃ k, V.bl (decide (V.non = V.non)) = V.bl k ∧ R k := ⟨rfl, _, rfl, by rw [show decide (V.non = V.non) = true by simp]; exact h⟩
theorem r_nn_non {R : Bool → Prop} (h : R false) : V.non = V.non ∧ ∃ k, V.bl (!decide (V.non = V.non)) = V.bl k ∧ R k := ⟨rfl, _, rfl, by rw [show (!decide (V.non = V.non)) = false by simp]; exact h⟩
/-! ## lists put together -/
theorem r_cat {l b : Addr} {xs zs : List V} {H : Hp} {Q : VK} (h1 : H l = some (.lst xs)) (h2 : H b = some (.lst zs)) (hz : xs.length + zs.length ≤ 100000) (h : ∀ p, H p = none → Q (.ref p) (upd H p (.lst (xs ++ zs)))) :
    rCat (.ref l) (.ref b) H Q := ⟨l, b, xs, zs, rfl, rfl, h1, h2, small hz, h⟩
/-! ## >>= 1, signs of a text -/
def ipH : TIp := fun x y H Q => ∃ i : Int, x = .int i ∧ y = .int 1 ∧ Q (.int (i / 2)) H
theorem ip_half {X : Cx} : PIp X .RShift ipH := fun pins s σ H x y v u Q I rx ry h => iop_halfI pins s σ H x y v u Q I rx ry h
theorem r_half {i : Int} {H : Hp} {Q : VK} (h : Q (.int (i / 2)) H) : ipH (.int i) (.int 1) H Q := ⟨i, rfl, rfl, h⟩
def rOdd : V → V → Hp → VK → Prop := fun x y H Q => ∃ n : Nat, x = .int (n : Int) ∧ y = .int 1 ∧ Q (.int ((n % 2 : Nat) : Int)) H
theorem r_odd {n : Nat} {H : Hp} {Q : VK} (h : Q (.int ((n % 2 : Nat) : Int)) H) : ∃ m : Nat, (V.int (n : Int)) = .int (m : Int) ∧ V.int 1 = .int 1 ∧ Q (.int ((m % 2 : Nat) : Int)) H := ⟨n, rfl, rfl, h⟩
theorem r_forStr {g : TG} {tb : TS} {D : Ends} {σ : L2.St} {H : Hp} {te : TE} (h : te σ H fun v H1 => ∃ x, v = .str x ∧ tFor (fun _ H2 R => R (Its x) H2) g tb D σ H1) : tFor (iStr te) g tb D σ H := h
theorem r_forSs {x : Str} {g : TG} {tb : TS} {D : Ends} {σ : L2.St} {H : Hp} (Pv : Nat → L2.St → Hp → Prop) (h0 : Pv 0 σ H)
    (hs : ∀ i c σ H, x.cps[i]? = some c → Pv i σ H → g (.str ⟨#[c]⟩) σ H fun σ2 H2 => tb { D with nx := Pv (i + 1), ct := Pv (i + 1), bk := D.nx } σ2 H2) (hd : ∀ σ H, Pv x.cps.size σ H → D.nx σ H) :
    tFor (fun _ H2 R => R (Its x) H2) g tb D σ H := by
  refine ⟨fun i l σ H => i + l = x.cps.size ∧ Pv i σ H, ⟨x.cps.size, Nat.zero_add _, h0⟩, ?_⟩
  rintro i l σ H ⟨e, p⟩
  by_cases c : i < x.cps.size
  · refine .inr ⟨c, Pv (i + 1), fun σ' H' p' => ⟨l - 1, by omega, by omega, p'⟩, ?_⟩
    rintro y H' ⟨eH, c0, hc, ey⟩
    subst eH
    subst ey
    exact hs i c0 σ _ hc p
  · have z : i = x.cps.size := by omega
    subst z
    exact .inl ⟨Nat.le_refl _, hd σ H p⟩
end Vf

namespace Vf
open PySem PySem.Spec PyProof.Rows L2
/-! ## the decimal signs of a number, read one by one -/
def sgn (k : Nat) : Str := PySem.Str.ofString (toString ((k : Nat) : Int))
/-- what the first signs tell -/
def dv (k i : Nat) : Nat := NumText.digitsVal ((sgn k).cps.toList.take i)
theorem sgn_list (k : Nat) : (sgn k).cps.toList = (Nat.toDigits 10 k).map Char.toNat := PySem.W.KIN.signs_num k
theorem dv_zero (k : Nat) : dv k 0 = 0 := rfl
theorem dv_all (k : Nat) : dv k (sgn k).cps.size = k := by
  unfold dv
  rw [List.take_of_length_le (by rw [Array.length_toList]; exact Nat.le_refl _), sgn_list]
  exact PySem.W.KIN.val_back k
theorem sgn_digit {k i c : Nat} (h : (sgn k).cps[i]? = some c) : 48 ≤ c ∧ c ≤ 57 := by
  have m : c ∈ (sgn k).cps.toList := Array.mem_toList_iff.mpr (Array.mem_of_getElem? h)
  rw [sgn_list] at m
  obtain ⟨ch, hch, e⟩ := List.mem_map.mp m
  have r := PyProof.Rows.digit_range (Nat.isDigit_of_mem_toDigits (by decide) (by decide) hch)
  rw [← e]
  exact r
theorem dv_next {k i c : Nat} (h : (sgn k).cps[i]? = some c) : dv k (i + 1) = dv k i * 10 + (c - 48) := by
  have h' : (sgn k).cps.toList[i]? = some c := by rw [Array.getElem?_toList]; exact h
  unfold dv
  rw [List.take_add_one, h']
  exact PySem.NumText.digitsVal_snoc _ _
theorem one_sign {c : Nat} (h1 : 48 ≤ c) (h2 : c ≤ 57) : PySem.intText? (⟨#[c]⟩ : Str) = some (((c - 48 : Nat) : Nat) : Int) := by
  have e := PySem.intText_digits (x := (⟨#[c]⟩ : Str)) (fun d hd => by
    have : d = c := by simpa using hd
    subst this
    exact ⟨h1, h2⟩) (by simp) (show 1 ≤ 4300 by decide)
  rw [e]
  congr 2
  show 0 * 10 + (c - 48) = c - 48
  omega
theorem r_intS {c : Nat} {H : Hp} {Q : VK} (h1 : 48 ≤ c) (h2 : c ≤ 57) (h : Q (.int ((c - 48 : Nat) : Int)) H) :
    ∃ a n, [V.str ⟨#[c]⟩] = [V.str a] ∧ PySem.intText? a = some n ∧ a.length ≤ 640 ∧ Q (.int n) H := ⟨_, _, rfl, one_sign h1 h2, (by decide : 1 ≤ 640), h⟩
theorem r_strI {k : Nat} {H : Hp} {Q : VK} (hk : k.log2 < 1920) (h : Q (.str (sgn k)) H) : ∃ i : Int, [V.int (k : Int)] = [V.int i] ∧ i.natAbs.log2 < 1920 ∧ Q (.str (toString i)) H := ⟨_, rfl, hk, h⟩
end Vf

namespace K51
open PySem PySem.Spec PyProof.Rows L2 Vf
/-! ### the text -/
def topS (i : Nat) : Stmt := PySem.Challenge.pw_restworld_k51_whole_rests_of_powers.main.body.getD i (.Pass ⟨0, 0, 0, 0⟩)
abbrev s_bezout : Stmt := topS 2
theorem sc_bezout : FnScope ["one", "other", "u", "v", "next_u", "next_v", "left", "right", "times"] ["one", "other"] (defScope s_bezout) := ⟨rfl, rfl, rfl, by decide +kernel, rfl, by decide +kernel, by decide +kernel⟩
theorem bd_bezout {K : PySem.W.Frag} {f : Addr} {fd : FuncData} (F : L2.Fun K "bezout" "bezout" s_bezout f fd) : L2.Binds K fd ["one", "other"] [] := F.binds (ps := ["one", "other"]) fun _ _ _ _ _ _ us hl => match us, hl with | [_, _], _ => rfl
abbrev s_inverse : Stmt := topS 3
theorem sc_inverse : FnScope ["number", "base", "u", "_"] ["number", "base"] (defScope s_inverse) := ⟨rfl, rfl, rfl, by decide +kernel, rfl, by decide +kernel, by decide +kernel⟩
theorem bd_inverse {K : PySem.W.Frag} {f : Addr} {fd : FuncData} (F : L2.Fun K "inverse" "inverse" s_inverse f fd) : L2.Binds K fd ["number", "base"] [] := F.binds (ps := ["number", "base"]) fun _ _ _ _ _ _ us hl => match us, hl with | [_, _], _ => rfl
abbrev s_raised_by : Stmt := topS 4
theorem sc_raised_by : FnScope ["number", "times", "base", "product", "factor", "left"] ["number", "times", "base"] (defScope s_raised_by) := ⟨rfl, rfl, rfl, by decide +kernel, rfl, by decide +kernel, by decide +kernel⟩
theorem bd_raised_by {K : PySem.W.Frag} {f : Addr} {fd : FuncData} (F : L2.Fun K "raised_by" "raised_by" s_raised_by f fd) : L2.Binds K fd ["number", "times", "base"] [] := F.binds (ps := ["number", "times", "base"]) fun _ _ _ _ _ _ us hl => match us, hl with | [_, _, _], _ => rfl
abbrev s_is_integer : Stmt := topS 13
theorem sc_is_integer : FnScope ["given"] ["given"] (defScope s_is_integer) := ⟨rfl, rfl, rfl, by decide +kernel, rfl, by decide +kernel, by decide +kernel⟩
theorem bd_is_integer {K : PySem.W.Frag} {f : Addr} {fd : FuncData} (F : L2.Fun K "is_integer" "is_integer" s_is_integer f fd) : L2.Binds K fd ["given"] [] := F.binds (ps := ["given"]) fun _ _ _ _ _ _ us hl => match us, hl with | [_], _ => rfl
abbrev s_is_within : Stmt := topS 14
theorem sc_is_within : FnScope ["given", "least", "most"] ["given", "least", "most"] (defScope s_is_within) := ⟨rfl, rfl, rfl, by decide +kernel, rfl, by decide +kernel, by decide +kernel⟩
theorem bd_is_within {K : PySem.W.Frag} {f : Addr} {fd : FuncData} (F : L2.Fun K "is_within" "is_within" s_is_within f fd) : L2.Binds K fd ["given", "least", "most"] [] := F.binds (ps := ["given", "least", "most"]) fun _ _ _ _ _ _ us hl => match us, hl with | [_, _, _], _ => rfl
abbrev s_check_within : Stmt := topS 15
theorem sc_check_within : FnScope ["given", "least", "most"] ["given", "least", "most"] (defScope s_check_within) := ⟨rfl, rfl, rfl, by decide +kernel, rfl, by decide +kernel, by decide +kernel⟩
theorem bd_check_within {K : PySem.W.Frag} {f : Addr} {fd : FuncData} (F : L2.Fun K "check_within" "check_within" s_check_within f fd) : L2.Binds K fd ["given", "least", "most"] [] := F.binds (ps := ["given", "least", "most"]) fun _ _ _ _ _ _ us hl => match us, hl with | [_, _, _], _ => rfl
abbrev s_check_number : Stmt := topS 16
theorem sc_check_number : FnScope ["given"] ["given"] (defScope s_check_number) := ⟨rfl, rfl, rfl, by decide +kernel, rfl, by decide +kernel, by decide +kernel⟩
theorem bd_check_number {K : PySem.W.Frag} {f : Addr} {fd : FuncData} (F : L2.Fun K "check_number" "check_number" s_check_number f fd) : L2.Binds K fd ["given"] [] := F.binds (ps := ["given"]) fun _ _ _ _ _ _ us hl => match us, hl with | [_], _ => rfl
abbrev s_power_rest : Stmt := topS 18
theorem sc_power_rest : FnScope ["number", "power", "base"] ["number", "power", "base"] (defScope s_power_rest) := ⟨rfl, rfl, rfl, by decide +kernel, rfl, by decide +kernel, by decide +kernel⟩
theorem bd_power_rest {K : PySem.W.Frag} {f : Addr} {fd : FuncData} (F : L2.Fun K "power_rest" "power_rest" s_power_rest f fd) : L2.Binds K fd ["number", "power", "base"] [] := F.binds (ps := ["number", "power", "base"]) fun _ _ _ _ _ _ us hl => match us, hl with | [_, _, _], _ => rfl
abbrev s_is_open : Stmt := topS 19
theorem sc_is_open : FnScope ["number", "base"] ["number", "base"] (defScope s_is_open) := ⟨rfl, rfl, rfl, by decide +kernel, rfl, by decide +kernel, by decide +kernel⟩
theorem bd_is_open {K : PySem.W.Frag} {f : Addr} {fd : FuncData} (F : L2.Fun K "is_open" "is_open" s_is_open f fd) : L2.Binds K fd ["number", "base"] [] := F.binds (ps := ["number", "base"]) fun _ _ _ _ _ _ us hl => match us, hl with | [_, _], _ => rfl
abbrev s_back : Stmt := topS 20
theorem sc_back : FnScope ["number", "base"] ["number", "base"] (defScope s_back) := ⟨rfl, rfl, rfl, by decide +kernel, rfl, by decide +kernel, by decide +kernel⟩
theorem bd_back {K : PySem.W.Frag} {f : Addr} {fd : FuncData} (F : L2.Fun K "back" "back" s_back f fd) : L2.Binds K fd ["number", "base"] [] := F.binds (ps := ["number", "base"]) fun _ _ _ _ _ _ us hl => match us, hl with | [_, _], _ => rfl
abbrev s__check_power : Stmt := topS 21
theorem sc__check_power : FnScope ["power"] ["power"] (defScope s__check_power) := ⟨rfl, rfl, rfl, by decide +kernel, rfl, by decide +kernel, by decide +kernel⟩
theorem bd__check_power {K : PySem.W.Frag} {f : Addr} {fd : FuncData} (F : L2.Fun K "_check_power" "_check_power" s__check_power f fd) : L2.Binds K fd ["power"] [] := F.binds (ps := ["power"]) fun _ _ _ _ _ _ us hl => match us, hl with | [_], _ => rfl
abbrev s__law_mug : Stmt := topS 23
theorem sc__law_mug : FnScope ["_law_cells", "_law_k", "_law_cell", "_law_stirred", "_law_each"] ["_law_cells", "_law_k"] (defScope s__law_mug) := ⟨rfl, rfl, rfl, by decide +kernel, rfl, by decide +kernel, by decide +kernel⟩
theorem bd__law_mug {K : PySem.W.Frag} {f : Addr} {fd : FuncData} (F : L2.Fun K "_law_mug" "_law_mug" s__law_mug f fd) : L2.Binds K fd ["_law_cells", "_law_k"] [] := F.binds (ps := ["_law_cells", "_law_k"]) fun _ _ _ _ _ _ us hl => match us, hl with | [_, _], _ => rfl
abbrev s__law_sip : Stmt := topS 24
theorem sc__law_sip : FnScope ["_law_mug_here", "_law_top", "_law_old", "_law_digit"] ["_law_mug_here", "_law_top"] (defScope s__law_sip) := ⟨rfl, rfl, rfl, by decide +kernel, rfl, by decide +kernel, by decide +kernel⟩
theorem bd__law_sip {K : PySem.W.Frag} {f : Addr} {fd : FuncData} (F : L2.Fun K "_law_sip" "_law_sip" s__law_sip f fd) : L2.Binds K fd ["_law_mug_here", "_law_top"] [] := F.binds (ps := ["_law_mug_here", "_law_top"]) fun _ _ _ _ _ _ us hl => match us, hl with | [_, _], _ => rfl
abbrev s__law_of : Stmt := topS 25
theorem sc__law_of : FnScope ["_law_mug_here", "_law_things"] ["_law_mug_here", "_law_things"] (defScope s__law_of) := ⟨rfl, rfl, rfl, by decide +kernel, rfl, by decide +kernel, by decide +kernel⟩
theorem bd__law_of {K : PySem.W.Frag} {f : Addr} {fd : FuncData} (F : L2.Fun K "_law_of" "_law_of" s__law_of f fd) : L2.Binds K fd ["_law_mug_here", "_law_things"] [] := F.binds (ps := ["_law_mug_here", "_law_things"]) fun _ _ _ _ _ _ us hl => match us, hl with | [_, _], _ => rfl
abbrev s__law_common : Stmt := topS 26
theorem sc__law_common : FnScope ["_law_a", "_law_b"] ["_law_a", "_law_b"] (defScope s__law_common) := ⟨rfl, rfl, rfl, by decide +kernel, rfl, by decide +kernel, by decide +kernel⟩
theorem bd__law_common {K : PySem.W.Frag} {f : Addr} {fd : FuncData} (F : L2.Fun K "_law_common" "_law_common" s__law_common f fd) : L2.Binds K fd ["_law_a", "_law_b"] [] := F.binds (ps := ["_law_a", "_law_b"]) fun _ _ _ _ _ _ us hl => match us, hl with | [_, _], _ => rfl
abbrev s__law_raised : Stmt := topS 27
theorem sc__law_raised : FnScope ["_law_x", "_law_k", "_law_n", "_law_found", "_law_figure", "_law_tenth", "_law_turn"] ["_law_x", "_law_k", "_law_n"] (defScope s__law_raised) := ⟨rfl, rfl, rfl, by decide +kernel, rfl, by decide +kernel, by decide +kernel⟩
theorem bd__law_raised {K : PySem.W.Frag} {f : Addr} {fd : FuncData} (F : L2.Fun K "_law_raised" "_law_raised" s__law_raised f fd) : L2.Binds K fd ["_law_x", "_law_k", "_law_n"] [] := F.binds (ps := ["_law_x", "_law_k", "_law_n"]) fun _ _ _ _ _ _ us hl => match us, hl with | [_, _, _], _ => rfl
abbrev s__law_great : Stmt := topS 28
theorem sc__law_great : FnScope ["_law_mug_here", "_law_top", "_law_found", "_law_turn"] ["_law_mug_here", "_law_top"] (defScope s__law_great) := ⟨rfl, rfl, rfl, by decide +kernel, rfl, by decide +kernel, by decide +kernel⟩
theorem bd__law_great {K : PySem.W.Frag} {f : Addr} {fd : FuncData} (F : L2.Fun K "_law_great" "_law_great" s__law_great f fd) : L2.Binds K fd ["_law_mug_here", "_law_top"] [] := F.binds (ps := ["_law_mug_here", "_law_top"]) fun _ _ _ _ _ _ us hl => match us, hl with | [_, _], _ => rfl
abbrev s__law_led_back : Stmt := topS 29
theorem sc__law_led_back : FnScope ["_law_x", "_law_n", "e"] ["_law_x", "_law_n"] (defScope s__law_led_back) := ⟨rfl, rfl, rfl, by decide +kernel, rfl, by decide +kernel, by decide +kernel⟩
theorem bd__law_led_back {K : PySem.W.Frag} {f : Addr} {fd : FuncData} (F : L2.Fun K "_law_led_back" "_law_led_back" s__law_led_back f fd) : L2.Binds K fd ["_law_x", "_law_n"] [] := F.binds (ps := ["_law_x", "_law_n"]) fun _ _ _ _ _ _ us hl => match us, hl with | [_, _], _ => rfl
abbrev s__law_one_right : Stmt := topS 30
theorem sc__law_one_right : FnScope ["_law_mug_here", "_law_x", "_law_n", "_law_first", "_law_second", "_law_due", "_law_part", "_law_open_here", "_law_there"] ["_law_mug_here", "_law_x", "_law_n"] (defScope s__law_one_right) := ⟨rfl, rfl, rfl, by decide +kernel, rfl, by decide +kernel, by decide +kernel⟩
theorem bd__law_one_right {K : PySem.W.Frag} {f : Addr} {fd : FuncData} (F : L2.Fun K "_law_one_right" "_law_one_right" s__law_one_right f fd) : L2.Binds K fd ["_law_mug_here", "_law_x", "_law_n"] [] := F.binds (ps := ["_law_mug_here", "_law_x", "_law_n"]) fun _ _ _ _ _ _ us hl => match us, hl with | [_, _, _], _ => rfl
abbrev s__law_right : Stmt := topS 31
theorem sc__law_right : FnScope ["_law_mug_here", "_law_turn", "_law_x", "_law_n"] ["_law_mug_here"] (defScope s__law_right) := ⟨rfl, rfl, rfl, by decide +kernel, rfl, by decide +kernel, by decide +kernel⟩
theorem bd__law_right {K : PySem.W.Frag} {f : Addr} {fd : FuncData} (F : L2.Fun K "_law_right" "_law_right" s__law_right f fd) : L2.Binds K fd ["_law_mug_here"] [] := F.binds (ps := ["_law_mug_here"]) fun _ _ _ _ _ _ us hl => match us, hl with | [_], _ => rfl
abbrev s_law : Stmt := topS 32
theorem sc_law : FnScope ["_law_cells", "_law_k"] ["_law_cells"] (defScope s_law) := ⟨rfl, rfl, rfl, by decide +kernel, rfl, by decide +kernel, by decide +kernel⟩
theorem bd_law {K : PySem.W.Frag} {f : Addr} {fd : FuncData} (F : L2.Fun K "law" "law" s_law f fd) : L2.Binds K fd ["_law_cells"] [] := F.binds (ps := ["_law_cells"]) fun _ _ _ _ _ _ us hl => match us, hl with | [_], _ => rfl
def g_kb_power_rest_0 {α : Type} (us ws : List α) : List α := match us, ws with | [], [w0, w1, w2] => [w2, w1, w0] | _, _ => []
theorem kb_power_rest_0 {K : PySem.W.Frag} {f : Addr} {fd : FuncData} (F : L2.Fun K "power_rest" "power_rest" s_power_rest f fd) : KBinds K fd ["number", "power", "base"] [("base" : Str), ("power" : Str), ("number" : Str)] g_kb_power_rest_0 g_kb_power_rest_0 := by
  obtain ⟨⟨oc, od, kV, doc, pm, an, cdv, ct, osl, rfl, lk, hcd⟩, _⟩ := F
  refine ⟨fun s us ws _ hl => ?_, fun {vs us zs ws} hv hz => ?_⟩
  · match us, ws, hl with
    | [], [w0, w1, w2], _ => exact .of_eq rfl
  ·
    cases hv with
    | nil =>
      cases hz with
      | nil => exact Paired.nil
      | cons q0 t_q0 =>
        cases t_q0 with
        | nil => exact Paired.nil
        | cons q1 t_q1 =>
          cases t_q1 with
          | nil => exact Paired.nil
          | cons q2 t_q2 =>
            cases t_q2 with
            | nil =>
              exact (.cons q2 (.cons q1 (.cons q0 .nil)))
            | cons _ _ => exact Paired.nil
    | cons _ _ => exact Paired.nil

def g_kb_is_open_1 {α : Type} (us ws : List α) : List α := match us, ws with | [], [w0, w1] => [w1, w0] | _, _ => []
theorem kb_is_open_1 {K : PySem.W.Frag} {f : Addr} {fd : FuncData} (F : L2.Fun K "is_open" "is_open" s_is_open f fd) : KBinds K fd ["number", "base"] [("base" : Str), ("number" : Str)] g_kb_is_open_1 g_kb_is_open_1 := by
  obtain ⟨⟨oc, od, kV, doc, pm, an, cdv, ct, osl, rfl, lk, hcd⟩, _⟩ := F
  refine ⟨fun s us ws _ hl => ?_, fun {vs us zs ws} hv hz => ?_⟩
  · match us, ws, hl with
    | [], [w0, w1], _ => exact .of_eq rfl
  ·
    cases hv with
    | nil =>
      cases hz with
      | nil => exact Paired.nil
      | cons q0 t_q0 =>
        cases t_q0 with
        | nil => exact Paired.nil
        | cons q1 t_q1 =>
          cases t_q1 with
          | nil =>
            exact (.cons q1 (.cons q0 .nil))
          | cons _ _ => exact Paired.nil
    | cons _ _ => exact Paired.nil

def g_kb_back_2 {α : Type} (us ws : List α) : List α := match us, ws with | [], [w0, w1] => [w1, w0] | _, _ => []
theorem kb_back_2 {K : PySem.W.Frag} {f : Addr} {fd : FuncData} (F : L2.Fun K "back" "back" s_back f fd) : KBinds K fd ["number", "base"] [("base" : Str), ("number" : Str)] g_kb_back_2 g_kb_back_2 := by
  obtain ⟨⟨oc, od, kV, doc, pm, an, cdv, ct, osl, rfl, lk, hcd⟩, _⟩ := F
  refine ⟨fun s us ws _ hl => ?_, fun {vs us zs ws} hv hz => ?_⟩
  · match us, ws, hl with
    | [], [w0, w1], _ => exact .of_eq rfl
  ·
    cases hv with
    | nil =>
      cases hz with
      | nil => exact Paired.nil
      | cons q0 t_q0 =>
        cases t_q0 with
        | nil => exact Paired.nil
        | cons q1 t_q1 =>
          cases t_q1 with
          | nil =>
            exact (.cons q1 (.cons q0 .nil))
          | cons _ _ => exact Paired.nil
    | cons _ _ => exact Paired.nil

def clsS (s : Stmt) (j : Nat) : Stmt := match s with
  | .ClassDef _ _ _ b .. => b.getD j (.Pass ⟨0, 0, 0, 0⟩)
  | _ => .Pass ⟨0, 0, 0, 0⟩
abbrev si_NotOpen : Stmt := clsS (topS 9) 0
theorem sci_NotOpen : FnScope ["self", "given"] ["self", "given"] (defScope si_NotOpen) := ⟨rfl, rfl, rfl, by decide +kernel, rfl, by decide +kernel, by decide +kernel⟩
theorem bdi_NotOpen {K : PySem.W.Frag} {f : Addr} {fd : FuncData} (F : L2.Fun K "__init__" "NotOpen.__init__" si_NotOpen f fd) : L2.Binds K fd ["self", "given"] [] := F.binds (ps := ["self", "given"]) fun _ _ _ _ _ _ us hl => match us, hl with | [_, _], _ => rfl
/-! ### the top -/
structure Top (K : PySem.W.Frag) (mg : Str → Option Value) : Prop where
  g_NotOpen : mg "NotOpen" = some (.ref (cA mg "NotOpen"))
  ec_NotOpen : EC K (cA mg "NotOpen") [.type "ArithmeticError", .type "Exception", .type "BaseException", .type "object"] "ArithmeticError.__new__"
  n_NotOpen_given : PySem.W.findIn K (.ref (cA mg "NotOpen")) "given" = some none
  fi_NotOpen : ∃ fI fd, PySem.W.findIn K (.ref (cA mg "NotOpen")) "__init__" = some (some (.ref fI)) ∧ PySem.W.typeIn K (.ref fI) = some (.type "function") ∧ L2.Fun K "__init__" "NotOpen.__init__" si_NotOpen fI fd
  e_NotOpen_NotOpen : PySem.W.exmOne K (.ref (cA mg "NotOpen")) (.ref (cA mg "NotOpen")) = some true
  d_bezout : At K mg "bezout" s_bezout
  d_inverse : At K mg "inverse" s_inverse
  d_raised_by : At K mg "raised_by" s_raised_by
  d_is_integer : At K mg "is_integer" s_is_integer
  d_is_within : At K mg "is_within" s_is_within
  d_check_within : At K mg "check_within" s_check_within
  d_check_number : At K mg "check_number" s_check_number
  d_power_rest : At K mg "power_rest" s_power_rest
  d_is_open : At K mg "is_open" s_is_open
  d_back : At K mg "back" s_back
  d__check_power : At K mg "_check_power" s__check_power
  d__law_mug : At K mg "_law_mug" s__law_mug
  d__law_sip : At K mg "_law_sip" s__law_sip
  d__law_of : At K mg "_law_of" s__law_of
  d__law_common : At K mg "_law_common" s__law_common
  d__law_raised : At K mg "_law_raised" s__law_raised
  d__law_great : At K mg "_law_great" s__law_great
  d__law_led_back : At K mg "_law_led_back" s__law_led_back
  d__law_one_right : At K mg "_law_one_right" s__law_one_right
  d__law_right : At K mg "_law_right" s__law_right
  d_law : At K mg "law" s_law
  m_gcd : mg "gcd" = some (.builtin "math.gcd")
  c_MOST_NUMBER : ∃ t, mg "MOST_NUMBER" = some (.int (10000000000000000000000000000000000000000) t)
  c_MOST_FACT : ∃ t, mg "MOST_FACT" = some (.int (1000000000000000000000000000000) t)
  b_abs : mg "abs" = none
  b_all : mg "all" = none
  b_bool : mg "bool" = none
  b_divmod : mg "divmod" = none
  b_int : mg "int" = none
  b_isinstance : mg "isinstance" = none
  b_len : mg "len" = none
  b_min : mg "min" = none
  b_range : mg "range" = none
  b_repr : mg "repr" = none
  b_str : mg "str" = none
/-! ### the exceptions -/
theorem ini_NotOpen {P : Program} {w : World} {K : PySem.W.Frag} {mg : Str → Option Value} {base : Heap} {fI : Addr} {fd : FuncData} (T : Top K mg) (F : L2.Fun K "__init__" "NotOpen.__init__" si_NotOpen fI fd) : FnOk P w K mg base (L2.CX P w) 1 fI fd ["self", "given"] (spI1 (cA mg "NotOpen") "given") := by
  refine F.okX sci_NotOpen (fun vs H Q E h => ?_) (fun cdv A outer s H vs Q E hr h => ?_)
  · obtain ⟨a, v0, rfl, _⟩ := h
    rfl
  · obtain ⟨a, v0, rfl, ha, q⟩ := h
    refine ⟨_, (pss_one (ps_est T.ec_NotOpen PySem.F.store_ArithmeticError T.n_NotOpen_given (pv 0) (pv 1))), v0, rfl, .ref a, rfl, a, rfl, .inl ⟨ha, fun dx hd ne => q dx hd ne⟩⟩
theorem mk_NotOpen {X : Cx} {ta : TA} {p pos : Pos} {e : Expr} {es : List Expr} (T : Top X.K X.mg) (hr : Room 2 X.A) (ha : PA X (e :: es) ta) (hg : Gl X "NotOpen")
    (he : starEach (e :: es) X.env = (false, eval e X.env) :: starEach es X.env := by rfl) (hpl : (backTo pos (starEach es X.env)).any (·.1) = false := by rfl) :
    PMk X (.Call (.Name "NotOpen" p) (e :: es) [] pos) (fun σ H Q => ta σ H fun vs H1 => ∃ v0, vs = [v0] ∧ ∀ d, H1 d = none → Q (.ref (cA X.mg "NotOpen")) (some d) (upd H1 d (.xd [("given", v0)]))) := by
  obtain ⟨fI, fd, iC, tI, F⟩ := T.fi_NotOpen
  exact pmk_ec T.ec_NotOpen PySem.F.excBase_ArithmeticError iC tI (ini_NotOpen T F) hr (bdi_NotOpen F) passL hg T.g_NotOpen ha (by decide) he hpl mk1_of
/-! ### the end -/
theorem top_mk {K : PySem.W.Frag} {h : Heap} {mg : Str → Option Value} (X : K.In h) (G : h.Ns mainGlobals mg)
    {f0 : Addr} {od0 an0 : Option Addr} {sl0 : Array (Option Value)} {oc0 kV0 dc0 pm0 cd0 ct0 : Value}
    {f1 : Addr} {od1 an1 : Option Addr} {sl1 : Array (Option Value)} {oc1 kV1 dc1 pm1 cd1 ct1 : Value}
    {f2 : Addr} {od2 an2 : Option Addr} {sl2 : Array (Option Value)} {oc2 kV2 dc2 pm2 cd2 ct2 : Value}
    {f3 : Addr} {od3 an3 : Option Addr} {sl3 : Array (Option Value)} {oc3 kV3 dc3 pm3 cd3 ct3 : Value}
    {f4 : Addr} {od4 an4 : Option Addr} {sl4 : Array (Option Value)} {oc4 kV4 dc4 pm4 cd4 ct4 : Value}
    {f5 : Addr} {od5 an5 : Option Addr} {sl5 : Array (Option Value)} {oc5 kV5 dc5 pm5 cd5 ct5 : Value}
    {f6 : Addr} {od6 an6 : Option Addr} {sl6 : Array (Option Value)} {oc6 kV6 dc6 pm6 cd6 ct6 : Value}
    {f7 : Addr} {od7 an7 : Option Addr} {sl7 : Array (Option Value)} {oc7 kV7 dc7 pm7 cd7 ct7 : Value}
    {f8 : Addr} {od8 an8 : Option Addr} {sl8 : Array (Option Value)} {oc8 kV8 dc8 pm8 cd8 ct8 : Value}
    {f9 : Addr} {od9 an9 : Option Addr} {sl9 : Array (Option Value)} {oc9 kV9 dc9 pm9 cd9 ct9 : Value}
    {f10 : Addr} {od10 an10 : Option Addr} {sl10 : Array (Option Value)} {oc10 kV10 dc10 pm10 cd10 ct10 : Value}
    {f11 : Addr} {od11 an11 : Option Addr} {sl11 : Array (Option Value)} {oc11 kV11 dc11 pm11 cd11 ct11 : Value}
    {f12 : Addr} {od12 an12 : Option Addr} {sl12 : Array (Option Value)} {oc12 kV12 dc12 pm12 cd12 ct12 : Value}
    {f13 : Addr} {od13 an13 : Option Addr} {sl13 : Array (Option Value)} {oc13 kV13 dc13 pm13 cd13 ct13 : Value}
    {f14 : Addr} {od14 an14 : Option Addr} {sl14 : Array (Option Value)} {oc14 kV14 dc14 pm14 cd14 ct14 : Value}
    {f15 : Addr} {od15 an15 : Option Addr} {sl15 : Array (Option Value)} {oc15 kV15 dc15 pm15 cd15 ct15 : Value}
    {f16 : Addr} {od16 an16 : Option Addr} {sl16 : Array (Option Value)} {oc16 kV16 dc16 pm16 cd16 ct16 : Value}
    {f17 : Addr} {od17 an17 : Option Addr} {sl17 : Array (Option Value)} {oc17 kV17 dc17 pm17 cd17 ct17 : Value}
    {f18 : Addr} {od18 an18 : Option Addr} {sl18 : Array (Option Value)} {oc18 kV18 dc18 pm18 cd18 ct18 : Value}
    {f19 : Addr} {od19 an19 : Option Addr} {sl19 : Array (Option Value)} {oc19 kV19 dc19 pm19 cd19 ct19 : Value}
    {f20 : Addr} {od20 an20 : Option Addr} {sl20 : Array (Option Value)} {oc20 kV20 dc20 pm20 cd20 ct20 : Value}
    {t_MOST_NUMBER : Tok}
    {t_MOST_FACT : Tok}
    {x_NotOpen : Addr}
    {nm_NotOpen qn_NotOpen : Str} {N_NotOpen : Addr} {bs_NotOpen bm_NotOpen sub_NotOpen : List Value} {sn_NotOpen : List Str} {ab_NotOpen : Bool} {col_NotOpen : Option Bool} {dd_NotOpen : Option Addr} {k0_NotOpen k1_NotOpen k2_NotOpen k3_NotOpen k5_NotOpen : Option Value}
    {fI_NotOpen : Addr} {odI_NotOpen anI_NotOpen : Option Addr} {slI_NotOpen : Array (Option Value)} {ocI_NotOpen kVI_NotOpen dcI_NotOpen pmI_NotOpen cdI_NotOpen ctI_NotOpen : Value}
    (a0 : PySem.W.nsIn K mainGlobals "bezout" = some (some (.ref f0))) (l0 : K.lookup f0 = some ⟨oc0, od0, .func (PySem.W.fnOf "bezout" "bezout" (defArgs s_bezout) (defBody s_bezout) (defScope s_bezout) .none kV0 dc0 pm0 an0 cd0 ct0), sl0⟩) (c0 : PySem.W.codeIn K cd0 "bezout" = true) (k0 : PySem.W.keepIn K (.ref f0) = true)
    (a1 : PySem.W.nsIn K mainGlobals "inverse" = some (some (.ref f1))) (l1 : K.lookup f1 = some ⟨oc1, od1, .func (PySem.W.fnOf "inverse" "inverse" (defArgs s_inverse) (defBody s_inverse) (defScope s_inverse) .none kV1 dc1 pm1 an1 cd1 ct1), sl1⟩) (c1 : PySem.W.codeIn K cd1 "inverse" = true) (k1 : PySem.W.keepIn K (.ref f1) = true)
    (a2 : PySem.W.nsIn K mainGlobals "raised_by" = some (some (.ref f2))) (l2 : K.lookup f2 = some ⟨oc2, od2, .func (PySem.W.fnOf "raised_by" "raised_by" (defArgs s_raised_by) (defBody s_raised_by) (defScope s_raised_by) .none kV2 dc2 pm2 an2 cd2 ct2), sl2⟩) (c2 : PySem.W.codeIn K cd2 "raised_by" = true) (k2 : PySem.W.keepIn K (.ref f2) = true)
    (a3 : PySem.W.nsIn K mainGlobals "is_integer" = some (some (.ref f3))) (l3 : K.lookup f3 = some ⟨oc3, od3, .func (PySem.W.fnOf "is_integer" "is_integer" (defArgs s_is_integer) (defBody s_is_integer) (defScope s_is_integer) .none kV3 dc3 pm3 an3 cd3 ct3), sl3⟩) (c3 : PySem.W.codeIn K cd3 "is_integer" = true) (k3 : PySem.W.keepIn K (.ref f3) = true)
    (a4 : PySem.W.nsIn K mainGlobals "is_within" = some (some (.ref f4))) (l4 : K.lookup f4 = some ⟨oc4, od4, .func (PySem.W.fnOf "is_within" "is_within" (defArgs s_is_within) (defBody s_is_within) (defScope s_is_within) .none kV4 dc4 pm4 an4 cd4 ct4), sl4⟩) (c4 : PySem.W.codeIn K cd4 "is_within" = true) (k4 : PySem.W.keepIn K (.ref f4) = true)
    (a5 : PySem.W.nsIn K mainGlobals "check_within" = some (some (.ref f5))) (l5 : K.lookup f5 = some ⟨oc5, od5, .func (PySem.W.fnOf "check_within" "check_within" (defArgs s_check_within) (defBody s_check_within) (defScope s_check_within) .none kV5 dc5 pm5 an5 cd5 ct5), sl5⟩) (c5 : PySem.W.codeIn K cd5 "check_within" = true) (k5 : PySem.W.keepIn K (.ref f5) = true)
    (a6 : PySem.W.nsIn K mainGlobals "check_number" = some (some (.ref f6))) (l6 : K.lookup f6 = some ⟨oc6, od6, .func (PySem.W.fnOf "check_number" "check_number" (defArgs s_check_number) (defBody s_check_number) (defScope s_check_number) .none kV6 dc6 pm6 an6 cd6 ct6), sl6⟩) (c6 : PySem.W.codeIn K cd6 "check_number" = true) (k6 : PySem.W.keepIn K (.ref f6) = true)
    (a7 : PySem.W.nsIn K mainGlobals "power_rest" = some (some (.ref f7))) (l7 : K.lookup f7 = some ⟨oc7, od7, .func (PySem.W.fnOf "power_rest" "power_rest" (defArgs s_power_rest) (defBody s_power_rest) (defScope s_power_rest) .none kV7 dc7 pm7 an7 cd7 ct7), sl7⟩) (c7 : PySem.W.codeIn K cd7 "power_rest" = true) (k7 : PySem.W.keepIn K (.ref f7) = true)
    (a8 : PySem.W.nsIn K mainGlobals "is_open" = some (some (.ref f8))) (l8 : K.lookup f8 = some ⟨oc8, od8, .func (PySem.W.fnOf "is_open" "is_open" (defArgs s_is_open) (defBody s_is_open) (defScope s_is_open) .none kV8 dc8 pm8 an8 cd8 ct8), sl8⟩) (c8 : PySem.W.codeIn K cd8 "is_open" = true) (k8 : PySem.W.keepIn K (.ref f8) = true)
    (a9 : PySem.W.nsIn K mainGlobals "back" = some (some (.ref f9))) (l9 : K.lookup f9 = some ⟨oc9, od9, .func (PySem.W.fnOf "back" "back" (defArgs s_back) (defBody s_back) (defScope s_back) .none kV9 dc9 pm9 an9 cd9 ct9), sl9⟩) (c9 : PySem.W.codeIn K cd9 "back" = true) (k9 : PySem.W.keepIn K (.ref f9) = true)
    (a10 : PySem.W.nsIn K mainGlobals "_check_power" = some (some (.ref f10))) (l10 : K.lookup f10 = some ⟨oc10, od10, .func (PySem.W.fnOf "_check_power" "_check_power" (defArgs s__check_power) (defBody s__check_power) (defScope s__check_power) .none kV10 dc10 pm10 an10 cd10 ct10), sl10⟩) (c10 : PySem.W.codeIn K cd10 "_check_power" = true) (k10 : PySem.W.keepIn K (.ref f10) = true)
    (a11 : PySem.W.nsIn K mainGlobals "_law_mug" = some (some (.ref f11))) (l11 : K.lookup f11 = some ⟨oc11, od11, .func (PySem.W.fnOf "_law_mug" "_law_mug" (defArgs s__law_mug) (defBody s__law_mug) (defScope s__law_mug) .none kV11 dc11 pm11 an11 cd11 ct11), sl11⟩) (c11 : PySem.W.codeIn K cd11 "_law_mug" = true) (k11 : PySem.W.keepIn K (.ref f11) = true)
    (a12 : PySem.W.nsIn K mainGlobals "_law_sip" = some (some (.ref f12))) (l12 : K.lookup f12 = some ⟨oc12, od12, .func (PySem.W.fnOf "_law_sip" "_law_sip" (defArgs s__law_sip) (defBody s__law_sip) (defScope s__law_sip) .none kV12 dc12 pm12 an12 cd12 ct12), sl12⟩) (c12 : PySem.W.codeIn K cd12 "_law_sip" = true) (k12 : PySem.W.keepIn K (.ref f12) = true)
    (a13 : PySem.W.nsIn K mainGlobals "_law_of" = some (some (.ref f13))) (l13 : K.lookup f13 = some ⟨oc13, od13, .func (PySem.W.fnOf "_law_of" "_law_of" (defArgs s__law_of) (defBody s__law_of) (defScope s__law_of) .none kV13 dc13 pm13 an13 cd13 ct13), sl13⟩) (c13 : PySem.W.codeIn K cd13 "_law_of" = true) (k13 : PySem.W.keepIn K (.ref f13) = true)
    (a14 : PySem.W.nsIn K mainGlobals "_law_common" = some (some (.ref f14))) (l14 : K.lookup f14 = some ⟨oc14, od14, .func (PySem.W.fnOf "_law_common" "_law_common" (defArgs s__law_common) (defBody s__law_common) (defScope s__law_common) .none kV14 dc14 pm14 an14 cd14 ct14), sl14⟩) (c14 : PySem.W.codeIn K cd14 "_law_common" = true) (k14 : PySem.W.keepIn K (.ref f14) = true)
    (a15 : PySem.W.nsIn K mainGlobals "_law_raised" = some (some (.ref f15))) (l15 : K.lookup f15 = some ⟨oc15, od15, .func (PySem.W.fnOf "_law_raised" "_law_raised" (defArgs s__law_raised) (defBody s__law_raised) (defScope s__law_raised) .none kV15 dc15 pm15 an15 cd15 ct15), sl15⟩) (c15 : PySem.W.codeIn K cd15 "_law_raised" = true) (k15 : PySem.W.keepIn K (.ref f15) = true)
    (a16 : PySem.W.nsIn K mainGlobals "_law_great" = some (some (.ref f16))) (l16 : K.lookup f16 = some ⟨oc16, od16, .func (PySem.W.fnOf "_law_great" "_law_great" (defArgs s__law_great) (defBody s__law_great) (defScope s__law_great) .none kV16 dc16 pm16 an16 cd16 ct16), sl16⟩) (c16 : PySem.W.codeIn K cd16 "_law_great" = true) (k16 : PySem.W.keepIn K (.ref f16) = true)
    (a17 : PySem.W.nsIn K mainGlobals "_law_led_back" = some (some (.ref f17))) (l17 : K.lookup f17 = some ⟨oc17, od17, .func (PySem.W.fnOf "_law_led_back" "_law_led_back" (defArgs s__law_led_back) (defBody s__law_led_back) (defScope s__law_led_back) .none kV17 dc17 pm17 an17 cd17 ct17), sl17⟩) (c17 : PySem.W.codeIn K cd17 "_law_led_back" = true) (k17 : PySem.W.keepIn K (.ref f17) = true)
    (a18 : PySem.W.nsIn K mainGlobals "_law_one_right" = some (some (.ref f18))) (l18 : K.lookup f18 = some ⟨oc18, od18, .func (PySem.W.fnOf "_law_one_right" "_law_one_right" (defArgs s__law_one_right) (defBody s__law_one_right) (defScope s__law_one_right) .none kV18 dc18 pm18 an18 cd18 ct18), sl18⟩) (c18 : PySem.W.codeIn K cd18 "_law_one_right" = true) (k18 : PySem.W.keepIn K (.ref f18) = true)
    (a19 : PySem.W.nsIn K mainGlobals "_law_right" = some (some (.ref f19))) (l19 : K.lookup f19 = some ⟨oc19, od19, .func (PySem.W.fnOf "_law_right" "_law_right" (defArgs s__law_right) (defBody s__law_right) (defScope s__law_right) .none kV19 dc19 pm19 an19 cd19 ct19), sl19⟩) (c19 : PySem.W.codeIn K cd19 "_law_right" = true) (k19 : PySem.W.keepIn K (.ref f19) = true)
    (a20 : PySem.W.nsIn K mainGlobals "law" = some (some (.ref f20))) (l20 : K.lookup f20 = some ⟨oc20, od20, .func (PySem.W.fnOf "law" "law" (defArgs s_law) (defBody s_law) (defScope s_law) .none kV20 dc20 pm20 an20 cd20 ct20), sl20⟩) (c20 : PySem.W.codeIn K cd20 "law" = true) (k20 : PySem.W.keepIn K (.ref f20) = true)
    (m_gcd : PySem.W.nsIn K mainGlobals "gcd" = some (some (.builtin "math.gcd")))
    (q_MOST_NUMBER : PySem.W.nsIn K mainGlobals "MOST_NUMBER" = some (some (.int (10000000000000000000000000000000000000000) t_MOST_NUMBER)))
    (q_MOST_FACT : PySem.W.nsIn K mainGlobals "MOST_FACT" = some (some (.int (1000000000000000000000000000000) t_MOST_FACT)))
    (b_abs : PySem.W.nsIn K mainGlobals "abs" = some none)
    (b_all : PySem.W.nsIn K mainGlobals "all" = some none)
    (b_bool : PySem.W.nsIn K mainGlobals "bool" = some none)
    (b_divmod : PySem.W.nsIn K mainGlobals "divmod" = some none)
    (b_int : PySem.W.nsIn K mainGlobals "int" = some none)
    (b_isinstance : PySem.W.nsIn K mainGlobals "isinstance" = some none)
    (b_len : PySem.W.nsIn K mainGlobals "len" = some none)
    (b_min : PySem.W.nsIn K mainGlobals "min" = some none)
    (b_range : PySem.W.nsIn K mainGlobals "range" = some none)
    (b_repr : PySem.W.nsIn K mainGlobals "repr" = some none)
    (b_str : PySem.W.nsIn K mainGlobals "str" = some none)
    (g_NotOpen : PySem.W.nsIn K mainGlobals "NotOpen" = some (some (.ref x_NotOpen)))
    (l_NotOpen : K.lookup x_NotOpen = some (excClassObj nm_NotOpen qn_NotOpen x_NotOpen N_NotOpen bs_NotOpen bm_NotOpen true sn_NotOpen sub_NotOpen ab_NotOpen col_NotOpen dd_NotOpen k0_NotOpen k1_NotOpen k2_NotOpen k3_NotOpen k5_NotOpen "ArithmeticError.__new__"))
    (t_NotOpen : PySem.W.excTail [.type "ArithmeticError", .type "Exception", .type "BaseException", .type "object"] bm_NotOpen = true)
    (s_NotOpen : PySem.W.findIn K (.ref x_NotOpen) "__setattr__" = some (some (.builtin "object.__setattr__")))
    (ga_NotOpen : PySem.W.findIn K (.ref x_NotOpen) "__getattribute__" = some (some (.builtin "BaseException.__getattribute__")))
    (gg_NotOpen : PySem.W.findIn K (.ref x_NotOpen) "__getattr__" = some none)
    (b_NotOpen : PySem.W.subIn K (.ref x_NotOpen) (.type "BaseException") = some true)
    (h_NotOpen : PySem.W.hasDictIn K x_NotOpen = true)
    (ty_NotOpen : PySem.W.typeIn K (.ref x_NotOpen) = some (.type "type"))
    (kp_NotOpen : PySem.W.keepIn K (.ref x_NotOpen) = true)
    (n_NotOpen_given : PySem.W.findIn K (.ref x_NotOpen) "given" = some none)
    (i_NotOpen : PySem.W.findIn K (.ref x_NotOpen) "__init__" = some (some (.ref fI_NotOpen)))
    (ti_NotOpen : PySem.W.typeIn K (.ref fI_NotOpen) = some (.type "function"))
    (li_NotOpen : K.lookup fI_NotOpen = some ⟨ocI_NotOpen, odI_NotOpen, .func (PySem.W.fnOf "__init__" "NotOpen.__init__" (defArgs si_NotOpen) (defBody si_NotOpen) (defScope si_NotOpen) .none kVI_NotOpen dcI_NotOpen pmI_NotOpen anI_NotOpen cdI_NotOpen ctI_NotOpen), slI_NotOpen⟩)
    (ci_NotOpen : PySem.W.codeIn K cdI_NotOpen "NotOpen.__init__" = true)
    (ki_NotOpen : PySem.W.keepIn K (.ref fI_NotOpen) = true)
    (e_NotOpen_NotOpen : PySem.W.subIn K (.ref x_NotOpen) (.ref x_NotOpen) = some true) : Top K mg where
  g_NotOpen := by rw [cA_eq (PySem.W.mg_of X G g_NotOpen)]; exact PySem.W.mg_of X G g_NotOpen
  ec_NotOpen := by rw [cA_eq (PySem.W.mg_of X G g_NotOpen)]; exact ⟨⟨_, _, _, _, _, _, _, _, _, _, _, _, _, _, _, l_NotOpen, t_NotOpen⟩, s_NotOpen, ⟨ga_NotOpen, gg_NotOpen, b_NotOpen, h_NotOpen⟩, ty_NotOpen, kp_NotOpen⟩
  n_NotOpen_given := by rw [cA_eq (PySem.W.mg_of X G g_NotOpen)]; exact n_NotOpen_given
  fi_NotOpen := by rw [cA_eq (PySem.W.mg_of X G g_NotOpen)]; exact ⟨_, _, i_NotOpen, ti_NotOpen, fun_mk (st := si_NotOpen) li_NotOpen ci_NotOpen ki_NotOpen⟩
  e_NotOpen_NotOpen := by rw [cA_eq (PySem.W.mg_of X G g_NotOpen)]; exact exm_cls b_NotOpen h_NotOpen ty_NotOpen e_NotOpen_NotOpen
  d_bezout := ⟨_, _, fun_mk (st := s_bezout) l0 c0 k0, PySem.W.mg_of X G a0⟩
  d_inverse := ⟨_, _, fun_mk (st := s_inverse) l1 c1 k1, PySem.W.mg_of X G a1⟩
  d_raised_by := ⟨_, _, fun_mk (st := s_raised_by) l2 c2 k2, PySem.W.mg_of X G a2⟩
  d_is_integer := ⟨_, _, fun_mk (st := s_is_integer) l3 c3 k3, PySem.W.mg_of X G a3⟩
  d_is_within := ⟨_, _, fun_mk (st := s_is_within) l4 c4 k4, PySem.W.mg_of X G a4⟩
  d_check_within := ⟨_, _, fun_mk (st := s_check_within) l5 c5 k5, PySem.W.mg_of X G a5⟩
  d_check_number := ⟨_, _, fun_mk (st := s_check_number) l6 c6 k6, PySem.W.mg_of X G a6⟩
  d_power_rest := ⟨_, _, fun_mk (st := s_power_rest) l7 c7 k7, PySem.W.mg_of X G a7⟩
  d_is_open := ⟨_, _, fun_mk (st := s_is_open) l8 c8 k8, PySem.W.mg_of X G a8⟩
  d_back := ⟨_, _, fun_mk (st := s_back) l9 c9 k9, PySem.W.mg_of X G a9⟩
  d__check_power := ⟨_, _, fun_mk (st := s__check_power) l10 c10 k10, PySem.W.mg_of X G a10⟩
  d__law_mug := ⟨_, _, fun_mk (st := s__law_mug) l11 c11 k11, PySem.W.mg_of X G a11⟩
  d__law_sip := ⟨_, _, fun_mk (st := s__law_sip) l12 c12 k12, PySem.W.mg_of X G a12⟩
  d__law_of := ⟨_, _, fun_mk (st := s__law_of) l13 c13 k13, PySem.W.mg_of X G a13⟩
  d__law_common := ⟨_, _, fun_mk (st := s__law_common) l14 c14 k14, PySem.W.mg_of X G a14⟩
  d__law_raised := ⟨_, _, fun_mk (st := s__law_raised) l15 c15 k15, PySem.W.mg_of X G a15⟩
  d__law_great := ⟨_, _, fun_mk (st := s__law_great) l16 c16 k16, PySem.W.mg_of X G a16⟩
  d__law_led_back := ⟨_, _, fun_mk (st := s__law_led_back) l17 c17 k17, PySem.W.mg_of X G a17⟩
  d__law_one_right := ⟨_, _, fun_mk (st := s__law_one_right) l18 c18 k18, PySem.W.mg_of X G a18⟩
  d__law_right := ⟨_, _, fun_mk (st := s__law_right) l19 c19 k19, PySem.W.mg_of X G a19⟩
  d_law := ⟨_, _, fun_mk (st := s_law) l20 c20 k20, PySem.W.mg_of X G a20⟩
  m_gcd := PySem.W.mg_of X G m_gcd
  c_MOST_NUMBER := ⟨_, PySem.W.mg_of X G q_MOST_NUMBER⟩
  c_MOST_FACT := ⟨_, PySem.W.mg_of X G q_MOST_FACT⟩
  b_abs := PySem.W.mg_none_of X G b_abs
  b_all := PySem.W.mg_none_of X G b_all
  b_bool := PySem.W.mg_none_of X G b_bool
  b_divmod := PySem.W.mg_none_of X G b_divmod
  b_int := PySem.W.mg_none_of X G b_int
  b_isinstance := PySem.W.mg_none_of X G b_isinstance
  b_len := PySem.W.mg_none_of X G b_len
  b_min := PySem.W.mg_none_of X G b_min
  b_range := PySem.W.mg_none_of X G b_range
  b_repr := PySem.W.mg_none_of X G b_repr
  b_str := PySem.W.mg_none_of X G b_str
local macro_rules | `(tactic| walk_at "vat") => `(tactic| first
  | assumption
  | exact upd_same
  | (refine at_new (by assumption) ?_; walk_at "vat")
  | (refine at_same (by assumption) ?_; walk_at "vat")
  | (refine at_ne (by first | assumption | exact Ne.symm (by assumption)) ?_; walk_at "vat")
  | (refine at_kx (by assumption) (by first | assumption | exact Ne.symm (by assumption)) ?_; walk_at "vat"))
local macro_rules | `(tactic| walk_at "vsq") => `(tactic| first
  | assumption
  | (exact SqL.of (by walk_at "vat"))
  | (exact SqT.of (by walk_at "vat"))
  | (refine new_list (by assumption) ?_; walk_at "vsq")
  | (refine new_tup (by assumption) ?_; walk_at "vsq")
  | (refine Same.list (by assumption) ?_; walk_at "vsq")
  | (refine Same.tup (by assumption) ?_; walk_at "vsq")
  | (refine ne_list (by first | assumption | exact Ne.symm (by assumption)) ?_; walk_at "vsq")
  | (refine ne_tup (by first | assumption | exact Ne.symm (by assumption)) ?_; walk_at "vsq")
  | (refine Kx.list (by assumption) (by first | assumption | exact Ne.symm (by assumption)) ?_; walk_at "vsq")
  | (refine Kx.tup (by assumption) (by first | assumption | exact Ne.symm (by assumption)) ?_; walk_at "vsq"))
local macro_rules | `(tactic| walk_at "vsame") => `(tactic| first
  | exact Same.refl _
  | assumption
  | (refine Same.trans ?_ (Same.new (by assumption)); walk_at "vsame")
  | (refine Same.trans ?_ (by assumption); walk_at "vsame"))
local macro_rules | `(tactic| walk_at "vnone") => `(tactic| first
  | assumption
  | (refine none_up (by assumption))
  | (refine none_same (by assumption) ?_; walk_at "vnone"))
local macro_rules | `(tactic| walk_at "s") => `(tactic| first
  | (with_reducible refine r_seq ?_)
  | (with_reducible refine r_asg ?_)
  | (with_reducible refine r_name ?_)
  | ((with_reducible refine r_var (v := ?kv) ?k1 ?_); (case k1 => exact rfl))
  | (with_reducible refine r_c ?_)
  | (with_reducible refine r_yes ?_)
  | (with_reducible refine r_op ?_)
  | (with_reducible refine r_un ?_)
  | (with_reducible refine r_rI0 ?_)
  | (with_reducible refine r_rU ?_)
  | (with_reducible refine r_test ?_)
  | (with_reducible refine r_B ?_)
  | (with_reducible refine r_ret ?_)
  | (with_reducible refine r_drop ?_)
  | (with_reducible refine r_cons ?_)
  | (with_reducible refine r_nil ?_)
  | (with_reducible refine r_call ?_)
  | (with_reducible refine r_callK ?_)
  | (with_reducible refine r_callW ?_)
  | (with_reducible refine r_callKW ?_)
  | (with_reducible refine r_xf ?_)
  | (with_reducible refine r_isn_ref ?_)
  | (with_reducible refine r_isn_int ?_)
  | (with_reducible refine r_isn_non ?_)
  | (with_reducible refine r_nn_ref ?_)
  | (with_reducible refine r_nn_int ?_)
  | (with_reducible refine r_nn_non ?_)
  | (with_reducible refine r_cb ?_)
  | (with_reducible refine r_tup ?_)
  | (with_reducible refine r_lst ?_)
  | (with_reducible refine r_and ?_)
  | (with_reducible refine r_or ?_)
  | (with_reducible refine r_not ?_)
  | (with_reducible refine r_andV ?_)
  | (with_reducible refine r_orV ?_)
  | (with_reducible refine r_notV ?_)
  | (with_reducible refine r_chain ?_)
  | (with_reducible refine r_gcd ?_)
  | (with_reducible refine r_abs ?_)
  | (with_reducible refine r_max2 ?_)
  | (with_reducible refine r_min2 ?_)
  | (with_reducible refine r_int1 ?_)
  | ((with_reducible refine r_lenL (xs := ?kx) ?k1 ?_); (case k1 => walk_at "vsq"))
  | ((with_reducible refine r_lenT (xs := ?kx) ?k1 ?_); (case k1 => walk_at "vsq"))
  | (with_reducible refine is_int_int ?_)
  | (with_reducible refine is_int_bool ?_)
  | (with_reducible refine is_int_tuple ?_)
  | (with_reducible refine is_int_list ?_)
  | (with_reducible refine is_int_str ?_)
  | (with_reducible refine is_bool_int ?_)
  | (with_reducible refine is_bool_bool ?_)
  | (with_reducible refine is_bool_tuple ?_)
  | (with_reducible refine is_bool_list ?_)
  | (with_reducible refine is_bool_str ?_)
  | (with_reducible refine is_NoneType_int ?_)
  | (with_reducible refine is_NoneType_bool ?_)
  | (with_reducible refine is_NoneType_tuple ?_)
  | (with_reducible refine is_NoneType_list ?_)
  | (with_reducible refine is_NoneType_str ?_)
  | (with_reducible refine is_str_int ?_)
  | (with_reducible refine is_str_bool ?_)
  | (with_reducible refine is_str_tuple ?_)
  | (with_reducible refine is_str_list ?_)
  | (with_reducible refine is_str_str ?_)
  | ((with_reducible refine is_tuple_int (xs := ?kx) ?k1 ?_); (case k1 => walk_at "vat"))
  | ((with_reducible refine is_tuple_bool (xs := ?kx) ?k1 ?_); (case k1 => walk_at "vat"))
  | ((with_reducible refine is_tuple_tuple (xs := ?kx) ?k1 ?_); (case k1 => walk_at "vat"))
  | ((with_reducible refine is_tuple_list (xs := ?kx) ?k1 ?_); (case k1 => walk_at "vat"))
  | ((with_reducible refine is_tuple_str (xs := ?kx) ?k1 ?_); (case k1 => walk_at "vat"))
  | ((with_reducible refine is_list_int (xs := ?kx) ?k1 ?_); (case k1 => walk_at "vat"))
  | ((with_reducible refine is_list_bool (xs := ?kx) ?k1 ?_); (case k1 => walk_at "vat"))
  | ((with_reducible refine is_list_tuple (xs := ?kx) ?k1 ?_); (case k1 => walk_at "vat"))
  | ((with_reducible refine is_list_list (xs := ?kx) ?k1 ?_); (case k1 => walk_at "vat"))
  | ((with_reducible refine is_list_str (xs := ?kx) ?k1 ?_); (case k1 => walk_at "vat"))
  | (with_reducible refine r_par ?_)
  | (with_reducible refine r_par3 ?_)
  | ((with_reducible refine r_aug (x := ?kv) ?k1 ?_); (case k1 => exact rfl))
  | (with_reducible refine r_ip ?_)
  | (with_reducible refine r_gsub ?_)
  | ((with_reducible refine r_gtup (xs := ?kx) ?k1 ?k2 ?_); (case k1 => walk_at "vsq"); (case k2 => exact rfl))
  | (with_reducible refine r_gcons ?_)
  | (with_reducible refine And.intro (small (Nat.le_of_ble_eq_true rfl)) (fun _ _ => ?_))
  | (with_reducible refine r_gnil ?_)
  | (with_reducible refine And.intro (Exists.intro _ (by walk_at "vsq")) ?_)
  | (with_reducible refine r_wb ?_)
  | (with_reducible refine r_for1 ?_)
  | (with_reducible refine r_for2 ?_)
  | (with_reducible refine r_forL ?_)
  | (with_reducible refine r_forT ?_)
  | (with_reducible refine r_lcR1 ?_)
  | (with_reducible refine r_lcR2 ?_)
  | (with_reducible refine r_lcL ?_)
  | (with_reducible refine r_lcT ?_)
  | (with_reducible refine r_lcZ3i ?_)
  | (with_reducible refine r_sl ?_)
  | (with_reducible refine r_noPart ?_)
  | (with_reducible refine r_part ?_)
  | (with_reducible refine r_forE ?_)
  | (with_reducible refine r_forZn ?_)
  | (with_reducible refine r_forZa ?_)
  | (with_reducible refine tru_int ?_)
  | (with_reducible refine r_bm ?_)
  | (with_reducible refine r_lc2R1 ?_)
  | (with_reducible refine r_next ?_)
  | (with_reducible refine r_break ?_)
  | (with_reducible refine r_cont ?_)
  | (with_reducible refine r_retN ?_)
  | (with_reducible refine Exists.intro _ (And.intro rfl ?_))
  | (with_reducible refine Exists.intro _ (Exists.intro _ (And.intro rfl ?_)))
  | (with_reducible refine Exists.intro _ (Exists.intro _ (And.intro rfl (And.intro rfl ?_))))
  | (with_reducible refine Exists.intro _ (Exists.intro _ (Exists.intro _ (And.intro rfl ?_))))
  | (with_reducible refine ifTT ?_)
  | (with_reducible refine ifFF ?_)
  | (with_reducible refine ifNT ?_)
  | (with_reducible refine ifNF ?_)
  | dsimp only)
local macro_rules | `(tactic| walk_at "go") => `(tactic| repeat walk_at "s")
local macro_rules | `(tactic| walk_at "gi") => `(tactic| repeat first | walk_at "s" | (with_reducible refine r_if ?_) | (with_reducible refine r_ifE ?_))
local macro_rules | `(tactic| walk_at "sti") => `(tactic| ((try dsimp only [cxOf]); walk_at "gi"))
local macro_rules | `(tactic| walk_at "st") => `(tactic| ((try dsimp only [cxOf]); walk_at "go"))
section
/-! ### what a mug holds -/
theorem e60 : (2 : Nat) ^ 60 = 1152921504606846976 := by decide
theorem e59 : (2 : Nat) ^ 59 = 576460752303423488 := by decide
theorem e62 : (2 : Int) ^ 62 = 4611686018427387904 := by decide
structure MugOk (a b c : Int) (n : Nat) : Prop where
  a0 : 0 ≤ a
  ab : Builtin.Int.intBits a ≤ 1048600
  b0 : 0 ≤ b
  bM : b < 2147482819
  c0 : 0 ≤ c
  cn : c ≤ n
def Mug (n : Nat) (k : Addr) (H : Hp) : Prop := ∃ a b c : Int, H k = some (.lst [.int a, .int b, .int c]) ∧ MugOk a b c n
theorem Mug.mono {n m : Nat} {k : Addr} {H : Hp} (h : Mug n k H) (l : n ≤ m) : Mug m k H := by
  obtain ⟨a, b, c, e, o⟩ := h
  exact ⟨a, b, c, e, o.a0, o.ab, o.b0, o.bM, o.c0, by have := o.cn; omega⟩
theorem Mug.same {n : Nat} {k : Addr} {H H' : Hp} (h : Mug n k H) (s : Same H H') : Mug n k H' := by
  obtain ⟨a, b, c, e, o⟩ := h
  exact ⟨a, b, c, s _ _ e, o⟩
theorem Mug.new {n : Nat} {k p : Addr} {H : Hp} {o : HO} (h : Mug n k H) (hp : H p = none) : Mug n k (upd H p o) := h.same (Same.new hp)
theorem Mug.ne {n : Nat} {k p : Addr} {H : Hp} (h : Mug n k H) (hp : H p = none) : p ≠ k := by
  obtain ⟨a, b, c, e, o⟩ := h
  exact (ne_of_none e hp).symm
def sp_sip : Sp := fun vs H Q _ => ∃ (k : Addr) (u : Int) (n : Nat), vs = [.ref k, .int u] ∧ Mug n k H ∧ n ≤ 2 ^ 60 ∧ 0 < u ∧ u < 2 ^ 62 ∧
  ∀ f H', 0 ≤ f → f < u → Kx k H H' → Mug (n + 1) k H' → Q (.int f) H'
theorem i_sip {k : Addr} {u : Int} {H : Hp} {Q : VK} {E : XK} (n : Nat) (hk : Mug n k H) (hn : n ≤ 2 ^ 60) (h0 : 0 < u) (h1 : u < 2 ^ 62)
    (q : ∀ f H', 0 ≤ f → f < u → Kx k H H' → Mug (n + 1) k H' → Q (.int f) H') : sp_sip [.ref k, .int u] H Q E := ⟨k, u, n, rfl, hk, hn, h0, h1, q⟩
def sp_of (K : PySem.W.Frag) : Sp := fun vs H Q _ => ∃ (k t : Addr) (xs : List V) (n : Nat), vs = [.ref k, .ref t] ∧ Mug n k H ∧ n ≤ 2 ^ 60 ∧ t ≠ k ∧ SqL K H t xs ∧ 0 < xs.length ∧ xs.length ≤ 100000 ∧
  ∀ (i : Nat) (x : V) H', xs[i]? = some x → Kx k H H' → Mug (n + 1) k H' → Q x H'
theorem i_of {K : PySem.W.Frag} {k t : Addr} {H : Hp} {Q : VK} {E : XK} (n : Nat) (xs : List V) (hk : Mug n k H) (hn : n ≤ 2 ^ 60) (ht : t ≠ k) (hs : SqL K H t xs) (h0 : 0 < xs.length) (h1 : xs.length ≤ 100000)
    (q : ∀ (i : Nat) x H', xs[i]? = some x → Kx k H H' → Mug (n + 1) k H' → Q x H') : sp_of K [.ref k, .ref t] H Q E := ⟨k, t, xs, n, rfl, hk, hn, ht, hs, h0, h1, q⟩
def sp_mug (K : PySem.W.Frag) : Sp := fun vs H Q _ => ∃ (c : Addr) (ns : List Int) (j : Nat), vs = [.ref c, .int (j : Int)] ∧ SqL K H c (ns.map V.int) ∧ Script ns ∧ j ≤ 1000 ∧
  ∀ p H', Same H H' → H p = none → Mug 1 p H' → Q (.ref p) H'
theorem i_mug {K : PySem.W.Frag} {c : Addr} {H : Hp} {Q : VK} {E : XK} (ns : List Int) (j : Nat) (hs : SqL K H c (ns.map V.int)) (hn : Script ns) (hj : j ≤ 1000)
    (q : ∀ p H', Same H H' → H p = none → Mug 1 p H' → Q (.ref p) H') : sp_mug K [.ref c, .int (j : Int)] H Q E := ⟨c, ns, j, rfl, hs, hn, hj, q⟩
end
section
variable {P : Program} {w : World} {K : PySem.W.Frag} {mg : Str → Option Value} {base : Heap}
theorem ok__law_sip (T : Top K mg) : Ok P w K mg base 1 "_law_sip" s__law_sip ["_law_mug_here", "_law_top"] sp_sip := by
  refine T.d__law_sip.ok sc__law_sip (fun vs H Q E h => ?_) (fun f cdv A outer s H vs Q E hg hr h => ?_)
  · obtain ⟨k, u, n, rfl, _⟩ := h
    rfl
  · obtain ⟨k, u, n, rfl, ⟨a, b, c, hk, o⟩, hn, h0, h1, q⟩ := h
    obtain ⟨oa, oab, ob, obM, oc, ocn⟩ := o
    have E60 := e60
    refine ⟨_, (pss_cons (ps_asg (pe_op op_add (pe_ix (x_list rfl) (pv 0) pe_int (fun _ _ => rfl)) pe_int) (pg_sub (pv 0) pe_int set_list))
    (pss_cons (ps_set (i := 2) sc__law_sip.nd rfl (.inl rfl) (pe_callTy (T := "int") c_int (by rfl) T.b_int (by decide +kernel) (pa_cons (pe_ix (x_list rfl) (pv 0) pe_int (fun _ _ => rfl)) pa_nil)))
    (pss_cons (ps_asg (pe_op op_mod (pe_callTy (T := "int") c_int (by rfl) T.b_int (by decide +kernel) (pa_cons (pe_op op_add (pe_op op_add (pe_op op_mulX (pv 2) (pe_op op_add (pe_op op_mod (pe_callTy (T := "int") c_int (by rfl) T.b_int (by decide +kernel) (pa_cons (pv 2) pa_nil)) pe_int) pe_int)) (pe_op op_mulX pe_int (pe_ix (x_list rfl) (pv 0) pe_int (fun _ _ => rfl)))) pe_int) pa_nil)) pe_int) (pg_sub (pv 0) pe_int set_list))
    (pss_cons (ps_if (pt_cmpR op_gt (pe_ix (x_list rfl) (pv 0) pe_int (fun _ _ => rfl)) pe_int (nomark _)) (pss_cons (ps_asg (pe_callB (id := "divmod") c_divmod (by rfl) T.b_divmod (by decide +kernel) (pa_cons (pe_ix (x_list rfl) (pv 0) pe_int (fun _ _ => rfl)) (pa_cons (pv 1) pa_nil))) (g_tup rfl rfl (pgs_cons (pg_sub (pv 0) pe_int set_list) (pgs_cons (pg_name (i := 3) sc__law_sip.nd rfl (.inl rfl)) pgs_nil)) rfl rfl))
    (pss_one (ps_ret (pv 3)))) pss_nil)
    (pss_one (ps_ret (pe_op op_mod (pe_callTy (T := "int") c_int (by rfl) T.b_int (by decide +kernel) (pa_cons (pe_op op_fdivW (pe_ix (x_list rfl) (pv 0) pe_int (fun _ _ => rfl)) pe_int) pa_nil)) (pv 1)))))))), ?_⟩
    walk_at "st"
    refine r_ixL (SqL.of hk) (atI_nat (j := 2) rfl) ?_
    walk_at "go"
    refine r_setL (j := 2) hk rfl ?_
    walk_at "go"
    have hk1 : upd H k (.lst ([V.int a, V.int b, V.int c].set 2 (V.int (c + 1)))) k = some (.lst [.int a, .int b, .int (c + 1)]) := upd_same
    have x1 : Kx k H (upd H k (.lst ([V.int a, V.int b, V.int c].set 2 (V.int (c + 1))))) := Kx.upd
    generalize upd H k (.lst ([V.int a, V.int b, V.int c].set 2 (V.int (c + 1)))) = H1 at *
    refine r_ixL (SqL.of hk1) (atI_nat (j := 1) rfl) ?_
    walk_at "go"
    refine r_rI (by decide) ?_
    walk_at "go"
    have m1 := Int.emod_nonneg b (show (24001 : Int) ≠ 0 by decide)
    have m2 := Int.emod_lt_of_pos b (show (0 : Int) < 24001 by decide)
    refine r_rI (bit_mul (a := 64) (b := 64) (bit_of (by omega)) (bit_of (by omega)) (by decide)) ?_
    walk_at "go"
    refine r_ixL (SqL.of hk1) (atI_nat (j := 2) rfl) ?_
    walk_at "go"
    refine r_rI (bit_mul (a := 64) (b := 64) (bit_of (by decide)) (bit_of (by omega)) (by decide)) ?_
    walk_at "go"
    refine r_rI (by decide) ?_
    walk_at "go"
    generalize hz : (b * (b % 24001 + 19001) + 58013 * (c + 1) + 73) % 2147482819 = z
    have z1 : 0 ≤ z := by rw [← hz]; exact Int.emod_nonneg _ (by decide)
    have z2 : z < 2147482819 := by rw [← hz]; exact Int.emod_lt_of_pos _ (by decide)
    refine r_setL (j := 1) hk1 rfl ?_
    walk_at "gi"
    have hk2 : upd H1 k (.lst ([V.int a, V.int b, V.int (c + 1)].set 1 (V.int z))) k = some (.lst [.int a, .int z, .int (c + 1)]) := upd_same
    have x2 : Kx k H (upd H1 k (.lst ([V.int a, V.int b, V.int (c + 1)].set 1 (V.int z)))) := x1.trans Kx.upd
    generalize upd H1 k (.lst ([V.int a, V.int b, V.int (c + 1)].set 1 (V.int z))) = H2 at *
    refine r_ixL (SqL.of hk2) (atI_nat (j := 0) rfl) ?_
    walk_at "gi"
    refine ifd (fun ca => ?_) (fun ca => ?_)
    · walk_at "gi"
      refine r_ixL (SqL.of hk2) (atI_nat (j := 0) rfl) ?_
      walk_at "gi"
      refine r_divmod (divp_of h0 h1) fun p hp => ?_
      walk_at "gi"
      refine r_setL (j := 0) (at_new hp hk2) rfl ?_
      walk_at "gi"
      refine q _ _ (Int.emod_nonneg _ (by omega)) (Int.emod_lt_of_pos _ h0) (x2.trans (Kx.trans (Same.toKx (Same.new hp)) Kx.upd)) ⟨a / u, z, c + 1, upd_same, ⟨Int.ediv_nonneg oa (by omega), ?_, z1, z2, by omega, by omega⟩⟩
      refine Nat.le_trans (bits_mono ?_) oab
      have := Int.ediv_le_self u oa
      have := Int.ediv_nonneg oa (show 0 ≤ u by omega)
      omega
    · walk_at "gi"
      refine r_ixL (SqL.of hk2) (atI_nat (j := 1) rfl) ?_
      walk_at "gi"
      refine r_rI (divw_of (by decide) (by decide)) ?_
      walk_at "gi"
      refine r_rI h0 ?_
      exact q _ _ (Int.emod_nonneg _ (by omega)) (Int.emod_lt_of_pos _ h0) x2 ⟨a, z, c + 1, hk2, ⟨oa, oab, z1, z2, by omega, by omega⟩⟩
theorem ok__law_of (T : Top K mg) : Ok P w K mg base 2 "_law_of" s__law_of ["_law_mug_here", "_law_things"] (sp_of K) := by
  have G__law_sip := ok__law_sip (P := P) (w := w) (base := base) T
  refine T.d__law_of.ok sc__law_of (fun vs H Q E h => ?_) (fun f cdv A outer s H vs Q E hg hr h => ?_)
  · obtain ⟨k, t, xs, n, rfl, _⟩ := h
    rfl
  · obtain ⟨k, t, xs, n, rfl, hk, hn, ht, hs, h0, h1, q⟩ := h
    refine ⟨_, (pss_one (ps_ret (pe_ix (x_list rfl) (pv 1) (pe_g G__law_sip (fun _ _ F => bd__law_sip F) hg (hr.mono (by decide)) passL (by rfl) (pa_cons (pv 0) (pa_cons (pe_callB (id := "len") (c_len rfl) (by rfl) T.b_len (by decide +kernel) (pa_cons (pv 1) pa_nil)) pa_nil))) (fun _ _ => rfl)))), ?_⟩
    walk_at "sti"
    refine i_sip n hk hn (by omega) (by omega) fun f H' f0 f1 kx hk' => ?_
    obtain ⟨j, rfl⟩ := Int.eq_ofNat_of_zero_le f0
    have hj : j < xs.length := by omega
    exact r_ixL (kx.list ht hs) (atI_nat (List.getElem?_eq_getElem hj)) (q j _ _ (List.getElem?_eq_getElem hj) kx hk')
theorem ok__law_mug (T : Top K mg) : Ok P w K mg base 1 "_law_mug" s__law_mug ["_law_cells", "_law_k"] (sp_mug K) := by
  refine T.d__law_mug.ok sc__law_mug (fun vs H Q E h => ?_) (fun f cdv A outer s H vs Q E hg hr h => ?_)
  · obtain ⟨c, ns, j, rfl, _⟩ := h
    rfl
  · obtain ⟨c, ns, j, rfl, hs, ⟨hl, hb⟩, hj, q⟩ := h
    have cell : ∀ i : Nat, i < ns.length → ∃ z, (ns.map V.int)[i]? = some (V.int z) ∧ Builtin.Int.intBits z ≤ 1048576 := fun i hi =>
      ⟨ns[i], by rw [List.getElem?_map, List.getElem?_eq_getElem hi]; rfl, hb _ (List.getElem_mem hi)⟩
    refine ⟨_, (pss_cons (ps_set (i := 2) sc__law_mug.nd rfl (.inl rfl) (pe_ifExp (pt_cmpR op_lt (pv 1) (pe_callB (id := "len") (c_len rfl) (by rfl) T.b_len (by decide +kernel) (pa_cons (pv 0) pa_nil)) (nomark _)) (pe_callTy (T := "int") c_int (by rfl) T.b_int (by decide +kernel) (pa_cons (pe_ix (x_list rfl) (pv 0) (pv 1) (fun _ _ => rfl)) pa_nil)) (pe_op op_add (pe_op op_mulX pe_int (pv 1)) pe_int)))
    (pss_cons (ps_set (i := 3) sc__law_mug.nd rfl (.inl rfl) (pe_op op_add pe_int (pe_op op_mulX pe_int (pv 1))))
    (pss_cons (ps_for (passes_of rfl) rfl (i_list rfl (pe_op op_cat (pe_slice (s_list rfl) (pv 0) po_none (po_some pe_int)) (pe_lst (pa_cons (pv 2) pa_nil)))) (pg_name (i := 4) sc__law_mug.nd rfl (.inl rfl)) (pss_one (ps_set (i := 3) sc__law_mug.nd rfl (.inl rfl) (pe_op op_mod (pe_callTy (T := "int") c_int (by rfl) T.b_int (by decide +kernel) (pa_cons (pe_op op_add (pe_op op_mulX (pv 3) pe_int) (pe_callTy (T := "int") c_int (by rfl) T.b_int (by decide +kernel) (pa_cons (pv 4) pa_nil))) pa_nil)) pe_int))))
    (pss_one (ps_ret (pe_lst (pa_cons (pe_ifExp (PW.pt (pw_or (pt_cmpR op_lt (pv 2) pe_int (nomark _)) (pw_or1 (pt_cmpR op_ge (pv 2) (pe_op op_pow pe_int pe_int) (nomark _))))) (pe_callB (id := "abs") c_abs (by rfl) T.b_abs (by decide +kernel) (pa_cons (pv 2) pa_nil)) pe_int) (pa_cons (pv 3) (pa_cons pe_int pa_nil))))))))), ?_⟩
    walk_at "st"
    refine j_if (fun v H' => H' = H ∧ ∃ own : Int, v = .int own ∧ Builtin.Int.intBits own ≤ 1048576) (fun Q' q' => ?_) (fun v H' hv => ?_)
    · walk_at "gi"
      refine ifd (fun cc => ?_) (fun cc => ?_)
      · walk_at "gi"
        have hj2 : j < ns.length := by
          rw [List.length_map] at cc
          omega
        obtain ⟨z, e, hz⟩ := cell j hj2
        refine r_ixL hs (atI_nat e) ?_
        walk_at "gi"
        exact q' _ _ ⟨rfl, z, rfl, hz⟩
      · walk_at "gi"
        refine r_rI (bit_mul (a := 64) (b := 64) (bit_of (by decide)) (bit_of (by omega)) (by decide)) ?_
        walk_at "gi"
        exact q' _ _ ⟨rfl, _, rfl, Nat.le_trans (bit_of (a := 64) (by omega)) (by decide)⟩
    obtain ⟨rfl, own, rfl, ho⟩ := hv
    walk_at "go"
    refine r_rI (bit_mul (a := 64) (b := 64) (bit_of (by decide)) (bit_of (by omega)) (by decide)) ?_
    walk_at "go"
    have ho : Builtin.Int.intBits own ≤ 1048576 := ho
    refine r_slL hs fun p1 np1 => ?_
    walk_at "go"
    rename_i p2 np2
    have cut : cutV (ns.map V.int) none (some 5) = (ns.take 5).map V.int := (cut_to (ns.map V.int) 5).trans (List.map_take ..).symm
    rw [cut]
    rw [cut] at np2
    have hcut : ∀ z ∈ ns.take 5 ++ [own], Builtin.Int.intBits z ≤ 1048576 := fun z hz => by
      rcases List.mem_append.mp hz with hz | hz
      · exact hb z (List.mem_of_mem_take hz)
      · rw [List.mem_singleton.mp hz]
        exact ho
    have l5 : (ns.take 5).length ≤ 5 := List.length_take_le ..
    refine r_cat (at_new np2 upd_same) upd_same (by rw [List.length_map]; exact Nat.le_trans (Nat.add_le_add_right l5 1) (Nat.le_of_ble_eq_true rfl)) fun p3 np3 => ?_
    rw [show (ns.take 5).map V.int ++ [V.int own] = (ns.take 5 ++ [own]).map V.int by rw [List.map_append]; rfl]
    generalize ns.take 5 ++ [own] = ms at *
    have s3 : Same H' (upd (upd (upd H' p1 (.lst ((ns.take 5).map V.int))) p2 (.lst [V.int own])) p3 (.lst (ms.map V.int))) := ((Same.new np1).trans (Same.new np2)).trans (Same.new np3)
    have at3 : upd (upd (upd H' p1 (.lst ((ns.take 5).map V.int))) p2 (.lst [V.int own])) p3 (.lst (ms.map V.int)) p3 = some (.lst (ms.map V.int)) := upd_same
    generalize upd (upd (upd H' p1 (.lst ((ns.take 5).map V.int))) p2 (.lst [V.int own])) p3 (.lst (ms.map V.int)) = H3 at *
    refine ⟨p3, rfl, ⟨_, SqL.of at3⟩, ?_⟩
    refine r_forLs (ms.map V.int) (fun i σ H1 => H1 = H3 ∧ ∃ (bl : Int) (x4 : Option V), σ = [some (.ref c), some (.int (j : Int)), some (.int own), some (.int bl), x4] ∧ 0 ≤ bl ∧ bl < 2147482819)
      ⟨rfl, 99023 + 661 * (j : Int), none, rfl, by omega, by omega⟩ (fun i σ H1 _ hP => ?_) (fun i x σ H1 hi hP => ?_) (fun σ H1 hP => ?_)
    · obtain ⟨rfl, _⟩ := hP
      exact SqL.of at3
    · obtain ⟨rfl, bl, x4, rfl, b0, b1⟩ := hP
      have hx : ∃ z, x = V.int z ∧ Builtin.Int.intBits z ≤ 1048576 := by
        rw [List.getElem?_map] at hi
        cases e : ms[i]? with
        | none => rw [e] at hi; cases hi
        | some z =>
          rw [e] at hi
          exact ⟨z, (Option.some.inj hi).symm, hcut z (List.mem_of_getElem? e)⟩
      obtain ⟨z, rfl, hz⟩ := hx
      walk_at "go"
      refine r_rI (bit_mul (a := 64) (b := 64) (bit_of (by omega)) (bit_of (by decide)) (by decide)) ?_
      walk_at "go"
      refine r_rI (by decide) ?_
      walk_at "go"
      exact ⟨rfl, _, _, rfl, Int.emod_nonneg _ (by decide), Int.emod_lt_of_pos _ (by decide)⟩
    obtain ⟨rfl, bl, x4, rfl, b0, b1⟩ := hP
    walk_at "go"
    refine j_if (fun v H2 => H2 = H1 ∧ ∃ a : Int, v = .int a ∧ 0 ≤ a ∧ Builtin.Int.intBits a ≤ 1048600) (fun Q' q' => ?_) (fun v H2 hv => ?_)
    · walk_at "gi"
      refine ifd (fun cc => ?_) (fun cc => ?_)
      · walk_at "gi"
        refine q' _ _ ⟨rfl, _, rfl, by omega, Nat.le_trans (bits_mono ?_) (Nat.le_trans ho (by decide))⟩
        omega
      · walk_at "gi"
        refine r_rI ⟨by decide, by decide, by decide⟩ ?_
        walk_at "gi"
        refine ifd (fun c2 => ?_) (fun c2 => ?_)
        · walk_at "gi"
          refine q' _ _ ⟨rfl, _, rfl, by omega, Nat.le_trans (bits_mono ?_) (Nat.le_trans ho (by decide))⟩
          omega
        · walk_at "gi"
          exact q' _ _ ⟨rfl, 0, rfl, by decide, by decide⟩
    obtain ⟨rfl, a, rfl, a0, ab⟩ := hv
    walk_at "go"
    refine q _ _ (s3.trans (Same.new (by assumption))) ?_ ⟨a, bl, 0, upd_same, ⟨a0, ab, ?_, ?_, by decide, by decide⟩⟩
    · exact none_same s3 (by assumption)
    · exact b0
    · exact b1
end
section
variable {P : Program} {w : World} {K : PySem.W.Frag} {mg : Str → Option Value} {base : Heap}
/-! ### the checks, of ints that are right -/
def sp_is_integer : Sp := fun vs H Q _ => ∃ i : Int, vs = [.int i] ∧ Q (.bl true) H
theorem ok_is_integer (T : Top K mg) : Ok P w K mg base 1 "is_integer" s_is_integer ["given"] sp_is_integer := by
  refine T.d_is_integer.ok sc_is_integer (fun vs H Q E h => ?_) (fun f cdv A outer s H vs Q E hg hr h => ?_)
  · obtain ⟨i, rfl, _⟩ := h
    rfl
  · obtain ⟨i, rfl, q⟩ := h
    refine ⟨_, (pss_one (ps_ret (pe_and (pe_callB (id := "isinstance") (c_isi rfl) (by rfl) T.b_isinstance (by decide +kernel) (pa_cons (pv 0) (pa_cons (pe_bltn (v := .ty "int") (by rfl) T.b_int (by decide +kernel) rfl) pa_nil))) (pe_one (pe_not (pe_callB (id := "isinstance") (c_isi rfl) (by rfl) T.b_isinstance (by decide +kernel) (pa_cons (pv 0) (pa_cons (pe_bltn (v := .ty "bool") (by rfl) T.b_bool (by decide +kernel) rfl) pa_nil)))))))), ?_⟩
    walk_at "sti"
    exact q
def sp_is_within : Sp := fun vs H Q _ => ∃ i a b : Int, vs = [.int i, .int a, .int b] ∧ Q (.bl (decide (a ≤ i ∧ i ≤ b))) H
theorem ok_is_within (T : Top K mg) : Ok P w K mg base 2 "is_within" s_is_within ["given", "least", "most"] sp_is_within := by
  have G_is_integer := ok_is_integer (P := P) (w := w) (base := base) T
  refine T.d_is_within.ok sc_is_within (fun vs H Q E h => ?_) (fun f cdv A outer s H vs Q E hg hr h => ?_)
  · obtain ⟨i, a, b, rfl, _⟩ := h
    rfl
  · obtain ⟨i, a, b, rfl, q⟩ := h
    refine ⟨_, (pss_one (ps_ret (pe_and (pe_g G_is_integer (fun _ _ F => bd_is_integer F) hg (hr.mono (by decide)) passL (by rfl) (pa_cons (pv 0) pa_nil)) (pe_one (pe_chain op_le op_le (pv 1) (pv 0) (pv 2)))))), ?_⟩
    walk_at "sti"
    refine ⟨i, rfl, ?_⟩
    walk_at "gi"
    refine ifd (fun c => ?_) (fun c => ?_)
    · walk_at "gi"
      rw [show decide (i ≤ b) = decide (a ≤ i ∧ i ≤ b) by simp [c]]
      exact q
    · rw [show decide (a ≤ i ∧ i ≤ b) = false by simp [c]] at q
      exact q
def sp_check_within : Sp := fun vs H Q _ => ∃ i a b : Int, vs = [.int i, .int a, .int b] ∧ a ≤ i ∧ i ≤ b ∧ Q .non H
theorem ok_check_within (T : Top K mg) : Ok P w K mg base 3 "check_within" s_check_within ["given", "least", "most"] sp_check_within := by
  have G_is_within := ok_is_within (P := P) (w := w) (base := base) T
  refine T.d_check_within.ok sc_check_within (fun vs H Q E h => ?_) (fun f cdv A outer s H vs Q E hg hr h => ?_)
  · obtain ⟨i, a, b, rfl, _⟩ := h
    rfl
  · obtain ⟨i, a, b, rfl, h1, h2, q⟩ := h
    refine ⟨_, (pss_one (ps_if (pt_not (pt_val (pe_g G_is_within (fun _ _ F => bd_is_within F) hg (hr.mono (by decide)) passL (by rfl) (pa_cons (pv 0) (pa_cons (pv 1) (pa_cons (pv 2) pa_nil)))))) (pss_one ps_never) pss_nil)), ?_⟩
    walk_at "sti"
    refine ⟨i, a, b, rfl, ?_⟩
    rw [decide_eq_true (show a ≤ i ∧ i ≤ b from ⟨h1, h2⟩)]
    walk_at "gi"
    exact q
def sp_check_number : Sp := fun vs H Q _ => ∃ i : Int, vs = [.int i] ∧ -(10 ^ 40) ≤ i ∧ i ≤ 10 ^ 40 ∧ Q .non H
theorem ok_check_number (T : Top K mg) : Ok P w K mg base 4 "check_number" s_check_number ["given"] sp_check_number := by
  have G_check_within := ok_check_within (P := P) (w := w) (base := base) T
  refine T.d_check_number.ok sc_check_number (fun vs H Q E h => ?_) (fun f cdv A outer s H vs Q E hg hr h => ?_)
  · obtain ⟨i, rfl, _⟩ := h
    rfl
  · obtain ⟨i, rfl, h1, h2, q⟩ := h
    refine ⟨_, (pss_one (ps_expr (pe_g G_check_within (fun _ _ F => bd_check_within F) hg (hr.mono (by decide)) passL (by rfl) (pa_cons (pv 0) (pa_cons (pe_un un_neg (pe_gi T.c_MOST_NUMBER (by rfl))) (pa_cons (pe_gi T.c_MOST_NUMBER (by rfl)) pa_nil)))))), ?_⟩
    walk_at "sti"
    exact ⟨i, _, _, rfl, h1, h2, q⟩

def Nr (i : Int) : Prop := -(10 ^ 40) ≤ i ∧ i ≤ 10 ^ 40
def sp_check_power : Sp := fun vs H Q _ => ∃ i : Int, vs = [.int i] ∧ 0 ≤ i ∧ i ≤ 10 ^ 40 ∧ Q .non H
theorem ok__check_power (T : Top K mg) : Ok P w K mg base 4 "_check_power" s__check_power ["power"] sp_check_power := by
  have G_check_within := ok_check_within (P := P) (w := w) (base := base) T
  refine T.d__check_power.ok sc__check_power (fun vs H Q E h => ?_) (fun f cdv A outer s H vs Q E hg hr h => ?_)
  · obtain ⟨i, rfl, _⟩ := h
    rfl
  · obtain ⟨i, rfl, h1, h2, q⟩ := h
    refine ⟨_, (pss_one (ps_expr (pe_g G_check_within (fun _ _ F => bd_check_within F) hg (hr.mono (by decide)) passL (by rfl) (pa_cons (pv 0) (pa_cons pe_int (pa_cons (pe_gi T.c_MOST_NUMBER (by rfl)) pa_nil)))))), ?_⟩
    walk_at "sti"
    exact ⟨i, _, _, rfl, h1, h2, q⟩
end
section
variable {P : Program} {w : World} {K : PySem.W.Frag} {mg : Str → Option Value} {base : Heap}
/-! ### bezout, inverse -/
def sp_bezout : Sp := fun vs H Q _ => ∃ a b : Int, vs = [.int a, .int b] ∧ a.natAbs ≤ Bq ∧ b.natAbs ≤ Bq ∧
  ∀ u v : Int, u * a + v * b = (Nat.gcd a.natAbs b.natAbs : Nat) → u.natAbs ≤ Bq → NewT [.int u, .int v] H Q
theorem ok_bezout (T : Top K mg) : Ok P w K mg base 1 "bezout" s_bezout ["one", "other"] sp_bezout := by
  refine T.d_bezout.ok sc_bezout (fun vs H Q E h => ?_) (fun f cdv A outer s H vs Q E hg hr h => ?_)
  · obtain ⟨a, b, rfl, _⟩ := h
    rfl
  · obtain ⟨x, y, rfl, hx, hy, q⟩ := h
    refine ⟨_, (pss_cons (ps_asg (pe_tup (pa_cons pe_int (pa_cons pe_int (pa_cons pe_int (pa_cons pe_int pa_nil))))) (g_tup rfl rfl (pgs_cons (pg_name (i := 2) sc_bezout.nd rfl (.inl rfl)) (pgs_cons (pg_name (i := 3) sc_bezout.nd rfl (.inl rfl)) (pgs_cons (pg_name (i := 4) sc_bezout.nd rfl (.inl rfl)) (pgs_cons (pg_name (i := 5) sc_bezout.nd rfl (.inl rfl)) pgs_nil)))) rfl rfl))
    (pss_cons (ps_par (i := 6) (j := 7) (by rfl) sc_bezout.nd rfl rfl (by decide) rfl rfl (pa_cons (pv 0) (pa_cons (pv 1) pa_nil)) (by rfl))
    (pss_cons (ps_while (passes_of rfl) (pt_truth (pv 7) (by intro _; rfl)) (pss_cons (ps_set (i := 8) sc_bezout.nd rfl (.inl rfl) (pe_op op_fdivG (pv 6) (pv 7)))
    (pss_cons (ps_par (i := 6) (j := 7) (by rfl) sc_bezout.nd rfl rfl (by decide) rfl rfl (pa_cons (pv 7) (pa_cons (pe_op op_sub (pv 6) (pe_op op_mulX (pv 8) (pv 7))) pa_nil)) (by rfl))
    (pss_cons (ps_par (i := 2) (j := 4) (by rfl) sc_bezout.nd rfl rfl (by decide) rfl rfl (pa_cons (pv 4) (pa_cons (pe_op op_sub (pv 2) (pe_op op_mulX (pv 8) (pv 4))) pa_nil)) (by rfl))
    (pss_one (ps_par (i := 3) (j := 5) (by rfl) sc_bezout.nd rfl rfl (by decide) rfl rfl (pa_cons (pv 5) (pa_cons (pe_op op_sub (pv 3) (pe_op op_mulX (pv 8) (pv 5))) pa_nil)) (by rfl)))))))
    (pss_cons (ps_if (pt_cmpR op_lt (pv 6) pe_int (nomark _)) (pss_one (ps_ret (pe_tup (pa_cons (pe_un un_neg (pv 2)) (pa_cons (pe_un un_neg (pv 3)) pa_nil))))) pss_nil)
    (pss_one (ps_ret (pe_tup (pa_cons (pv 2) (pa_cons (pv 3) pa_nil))))))))), ?_⟩
    walk_at "sti"
    refine r_while (fun m σ H' => ∃ u v nu nv l r tm, σ = [some (.int x), some (.int y), some (.int u), some (.int v), some (.int nu), some (.int nv), some (.int l), some (.int r), tm] ∧
      Bz x y u v nu nv l r ∧ m = r.natAbs ∧ Same H H') y.natAbs ⟨1, 0, 0, 1, x, y, none, rfl, Bz.first x y, rfl, by walk_at "vsame"⟩ fun m σ H1 hW => ?_
    obtain ⟨u, v, nu, nv, l, r, tm, rfl, B, rfl, s1⟩ := hW
    have bd := B.bounds (B := Bq) hx hy Bq_one
    obtain ⟨b1, b2, b3, b4, b5, b6⟩ := bd
    walk_at "gi"
    refine ifb (fun c => ?_) (fun c => ?_)
    · have hr0 : r ≠ 0 := by simpa using c
      have st := B.step hr0
      have bt : Builtin.Int.intBits (l.fdiv r) ≤ 4003 := by
        refine bit_of (Nat.lt_of_le_of_lt (m := 2 * Bq) (abs_of_mul hr0 ?_) Bq_two)
        have := st.2
        omega
      walk_at "gi"
      refine r_rI ⟨hr0, Nat.lt_of_le_of_lt b4 Bq_90⟩ ?_
      walk_at "gi"
      refine r_rI (bit_mul bt (Bq_bits b4) (by decide)) ?_
      walk_at "gi"
      refine r_rI (bit_mul bt (Bq_bits b2) (by decide)) ?_
      walk_at "gi"
      refine r_rI (bit_mul bt (bit_of (Nat.lt_of_le_of_lt b6 Bq_sq)) (by decide)) ?_
      walk_at "gi"
      exact ⟨_, st.2, _, _, _, _, _, _, _, rfl, st.1, rfl, s1⟩
    · have hr0 : r = 0 := by simpa using c
      have g := B.g
      have e1 := B.e1
      rw [hr0] at g
      have g2 : l.natAbs = Nat.gcd x.natAbs y.natAbs := by rw [← g]; simp
      walk_at "gi"
      refine ifd (fun c => ?_) (fun c => ?_)
      · walk_at "gi"
        refine q (-u) (-v) ?_ (by omega) _ _ (by walk_at "vsame") (by walk_at "vnone") upd_same
        rw [← g2]
        have : -u * x + -v * y = -(u * x + v * y) := by grind
        omega
      · walk_at "gi"
        refine q u v ?_ (by omega) _ _ (by walk_at "vsame") (by walk_at "vnone") upd_same
        omega
theorem gcd_rest (n : Int) (b : Nat) : Nat.gcd (n % (b : Int)).natAbs ((b : Nat) : Int).natAbs = Nat.gcd n.natAbs b := by
  have h := Int.gcd_add_mul_right_right (b : Int) (n % (b : Int)) (n / (b : Int))
  rw [Int.mul_comm, Int.emod_add_mul_ediv, Int.gcd_eq_natAbs_gcd_natAbs, Int.gcd_eq_natAbs_gcd_natAbs, Int.natAbs_natCast] at h
  rw [Int.natAbs_natCast, Nat.gcd_comm, ← h, Nat.gcd_comm]
def sp_inverse : Sp := fun vs H Q _ => ∃ (n : Int) (b : Nat), vs = [.int n, .int (b : Int)] ∧ 0 < b ∧ b ≤ Bq ∧
  ∀ (u w : Int) H', u * n = (Nat.gcd n.natAbs b : Nat) + b * w → Same H H' → Q (.int (u % b)) H'
theorem ok_inverse (T : Top K mg) : Ok P w K mg base 2 "inverse" s_inverse ["number", "base"] sp_inverse := by
  have G_bezout := ok_bezout (P := P) (w := w) (base := base) T
  refine T.d_inverse.ok sc_inverse (fun vs H Q E h => ?_) (fun f cdv A outer s H vs Q E hg hr h => ?_)
  · obtain ⟨a, b, rfl, _⟩ := h
    rfl
  · obtain ⟨n, b, rfl, b0, hb, q⟩ := h
    have m0 := Int.emod_nonneg n (show (b : Int) ≠ 0 by omega)
    have m1 := Int.emod_lt_of_pos n (show (0 : Int) < b by omega)
    refine ⟨_, (pss_cons (ps_asg (pe_g G_bezout (fun _ _ F => bd_bezout F) hg (hr.mono (by decide)) passL (by rfl) (pa_cons (pe_op op_mod (pv 0) (pv 1)) (pa_cons (pv 1) pa_nil))) (g_tup rfl rfl (pgs_cons (pg_name (i := 2) sc_inverse.nd rfl (.inl rfl)) (pgs_cons (pg_name (i := 3) sc_inverse.nd rfl (.inl rfl)) pgs_nil)) rfl rfl))
    (pss_one (ps_ret (pe_op op_mod (pv 2) (pv 1))))), ?_⟩
    walk_at "sti"
    refine r_rI (by omega) ?_
    walk_at "gi"
    refine ⟨_, _, rfl, by omega, by omega, fun u v e ub p H' sH pn pa => ?_⟩
    walk_at "gi"
    refine r_rI (by omega) ?_
    refine q u (u * (n / b) - v) _ ?_ sH
    rw [gcd_rest] at e
    have d := Int.emod_add_mul_ediv n b
    generalize n % (b : Int) = m at *
    generalize n / (b : Int) = z at *
    rw [← e]
    have : u * n = u * m + b * (u * z) := by rw [← d]; grind
    rw [this]
    grind
/-! ### raising -/
/-- numbers up to 10 ^ 40, bases up to 10 ^ 30 -/
def Ba (n : Int) : Prop := 1 ≤ n ∧ n ≤ 10 ^ 30
def sp_raised_by : Sp := fun vs H Q _ => ∃ (x n : Int) (t : Nat), vs = [.int x, .int (t : Int), .int n] ∧ Nr x ∧ Ba n ∧ Q (.int (x ^ t % n)) H
theorem mod_lt {a n : Int} (h : Ba n) : 0 ≤ a % n ∧ a % n < n ∧ (a % n).natAbs < 2 ^ 100 := by
  have h1 := Int.emod_nonneg a (show n ≠ 0 by have := h.1; omega)
  have h2 := Int.emod_lt_of_pos a (show 0 < n by have := h.1; omega)
  have h3 := h.2
  exact ⟨h1, h2, by omega⟩
theorem ok_raised_by (T : Top K mg) : Ok P w K mg base 1 "raised_by" s_raised_by ["number", "times", "base"] sp_raised_by := by
  refine T.d_raised_by.ok sc_raised_by (fun vs H Q E h => ?_) (fun f cdv A outer s H vs Q E hg hr h => ?_)
  · obtain ⟨x, n, t, rfl, _⟩ := h
    rfl
  · obtain ⟨x, n, t, rfl, hx, hn, q⟩ := h
    have n0 : 0 < n := by have := hn.1; omega
    refine ⟨_, (pss_cons (ps_set (i := 3) sc_raised_by.nd rfl (.inl rfl) (pe_op op_mod pe_int (pv 2)))
    (pss_cons (ps_set (i := 4) sc_raised_by.nd rfl (.inl rfl) (pe_op op_mod (pv 0) (pv 2)))
    (pss_cons (ps_set (i := 5) sc_raised_by.nd rfl (.inl rfl) (pv 1))
    (pss_cons (ps_while (passes_of rfl) (pt_truth (pv 5) (by intro _; rfl)) (pss_cons (ps_if (pt_truth (pe_op op_odd (pv 5) pe_int) (by intro _; rfl)) (pss_one (ps_set (i := 3) sc_raised_by.nd rfl (.inl rfl) (pe_op op_mod (pe_op op_mulX (pv 3) (pv 4)) (pv 2)))) pss_nil)
    (pss_cons (ps_aug (i := 5) sc_raised_by.nd rfl (.inl rfl) pe_int ip_half)
    (pss_one (ps_set (i := 4) sc_raised_by.nd rfl (.inl rfl) (pe_op op_mod (pe_op op_mulX (pv 4) (pv 4)) (pv 2)))))))
    (pss_one (ps_ret (pv 3))))))), ?_⟩
    walk_at "st"
    refine r_rI n0 ?_
    walk_at "go"
    refine r_rI n0 ?_
    walk_at "go"
    refine r_while (fun m σ H' => H' = H ∧ ∃ p f : Int, σ = [some (.int x), some (.int (t : Int)), some (.int n), some (.int p), some (.int f), some (.int (m : Int))] ∧ 0 ≤ p ∧ p < n ∧ 0 ≤ f ∧ f < n ∧ (p * f ^ m) % n = x ^ t % n) t ?_ (fun m σ H' hW => ?_)
    · obtain ⟨a1, a2, _⟩ := mod_lt (a := 1) hn
      obtain ⟨b1, b2, _⟩ := mod_lt (a := x) hn
      refine ⟨rfl, _, _, rfl, a1, a2, b1, b2, ?_⟩
      have h := Vf.cg_mul (Vf.cg_mod n 1) (Vf.cg_pow (Vf.cg_mod n x) t)
      rw [Int.one_mul] at h
      exact h
    · obtain ⟨rfl, p, f, rfl, p0, p1, f0, f1, e⟩ := hW
      have hn2 := hn.2
      walk_at "go"
      refine ifb (fun cm => ?_) (fun cm => ?_)
      · have m0 : m ≠ 0 := by
          intro z
          subst z
          exact absurd cm (by decide)
        walk_at "gi"
        refine ⟨rfl, ?_⟩
        walk_at "gi"
        have nb : n.natAbs < 2 ^ 100 := by omega
        have pb : CMulX p f := bit_mul (a := 100) (b := 100) (bit_of (by omega)) (bit_of (by omega)) (by decide)
        have fb : CMulX f f := bit_mul (a := 100) (b := 100) (bit_of (by omega)) (bit_of (by omega)) (by decide)
        have half : ((m : Nat) : Int) / 2 = ((m / 2 : Nat) : Int) := by omega
        obtain ⟨s1, s2, _⟩ := mod_lt (a := f * f) hn
        obtain ⟨u1, u2, _⟩ := mod_lt (a := p * f) hn
        refine ifb (fun ck => ?_) (fun ck => ?_)
        · have mo : m % 2 = 1 := by
            have z : ((m % 2 : Nat) : Int) ≠ 0 := by simpa using ck
            omega
          walk_at "gi"
          refine r_rI pb ?_
          walk_at "gi"
          refine r_rI n0 ?_
          walk_at "gi"
          refine r_half ?_
          walk_at "gi"
          refine r_rI fb ?_
          walk_at "gi"
          refine r_rI n0 ?_
          walk_at "gi"
          rw [half]
          exact ⟨m / 2, by omega, rfl, _, _, rfl, u1, u2, s1, s2, (Vf.raise_odd mo).trans e⟩
        · have mo : m % 2 = 0 := by
            have z : ((m % 2 : Nat) : Int) = 0 := by simpa using ck
            omega
          walk_at "gi"
          refine r_half ?_
          walk_at "gi"
          refine r_rI fb ?_
          walk_at "gi"
          refine r_rI n0 ?_
          walk_at "gi"
          rw [half]
          exact ⟨m / 2, by omega, rfl, _, _, rfl, p0, p1, s1, s2, (Vf.raise_even mo).trans e⟩
      · have m0 : m = 0 := by
          have z : ((m : Nat) : Int) = 0 := by simpa using cm
          omega
        subst m0
        walk_at "gi"
        rw [Int.pow_zero, Int.mul_one, Int.emod_eq_of_lt p0 p1] at e
        rw [← e] at q
        exact q
end
section
variable {P : Program} {w : World} {K : PySem.W.Frag} {mg : Str → Option Value} {base : Heap}
def sp_power_rest : Sp := fun vs H Q _ => ∃ (x n : Int) (t : Nat), vs = [.int x, .int (t : Int), .int n] ∧ Nr x ∧ t ≤ 10 ^ 40 ∧ Ba n ∧ Q (.int (x ^ t % n)) H
theorem ok_power_rest (T : Top K mg) : Ok P w K mg base 5 "power_rest" s_power_rest ["number", "power", "base"] sp_power_rest := by
  have G_check_number := ok_check_number (P := P) (w := w) (base := base) T
  have G__check_power := ok__check_power (P := P) (w := w) (base := base) T
  have G_check_within := ok_check_within (P := P) (w := w) (base := base) T
  have G_raised_by := ok_raised_by (P := P) (w := w) (base := base) T
  refine T.d_power_rest.ok sc_power_rest (fun vs H Q E h => ?_) (fun f cdv A outer s H vs Q E hg hr h => ?_)
  · obtain ⟨x, n, t, rfl, _⟩ := h
    rfl
  · obtain ⟨x, n, t, rfl, hx, ht, hn, q⟩ := h
    refine ⟨_, (pss_cons (ps_expr (pe_g G_check_number (fun _ _ F => bd_check_number F) hg (hr.mono (by decide)) passL (by rfl) (pa_cons (pv 0) pa_nil)))
    (pss_cons (ps_expr (pe_g G__check_power (fun _ _ F => bd__check_power F) hg (hr.mono (by decide)) passL (by rfl) (pa_cons (pv 1) pa_nil)))
    (pss_cons (ps_expr (pe_g G_check_within (fun _ _ F => bd_check_within F) hg (hr.mono (by decide)) passL (by rfl) (pa_cons (pv 2) (pa_cons pe_int (pa_cons (pe_gi T.c_MOST_FACT (by rfl)) pa_nil)))))
    (pss_one (ps_ret (pe_g G_raised_by (fun _ _ F => bd_raised_by F) hg (hr.mono (by decide)) passL (by rfl) (pa_cons (pv 0) (pa_cons (pv 1) (pa_cons (pv 2) pa_nil))))))))), ?_⟩
    walk_at "sti"
    refine ⟨x, rfl, hx.1, hx.2, ?_⟩
    walk_at "gi"
    refine ⟨(t : Int), rfl, by omega, by omega, ?_⟩
    walk_at "gi"
    refine ⟨n, _, _, rfl, hn.1, hn.2, ?_⟩
    walk_at "gi"
    exact ⟨x, n, t, rfl, hx, hn, q⟩
theorem gcd_flip (x n : Int) : Nat.gcd x.natAbs n.natAbs = Nat.gcd n.natAbs x.natAbs := Nat.gcd_comm _ _
def sp_is_open : Sp := fun vs H Q _ => ∃ x n : Int, vs = [.int x, .int n] ∧ Nr x ∧ Ba n ∧ Q (.bl (decide (Nat.gcd x.natAbs n.natAbs = 1))) H
theorem ok_is_open (T : Top K mg) : Ok P w K mg base 5 "is_open" s_is_open ["number", "base"] sp_is_open := by
  have G_check_number := ok_check_number (P := P) (w := w) (base := base) T
  have G_check_within := ok_check_within (P := P) (w := w) (base := base) T
  refine T.d_is_open.ok sc_is_open (fun vs H Q E h => ?_) (fun f cdv A outer s H vs Q E hg hr h => ?_)
  · obtain ⟨x, n, rfl, _⟩ := h
    rfl
  · obtain ⟨x, n, rfl, hx, hn, q⟩ := h
    refine ⟨_, (pss_cons (ps_expr (pe_g G_check_number (fun _ _ F => bd_check_number F) hg (hr.mono (by decide)) passL (by rfl) (pa_cons (pv 0) pa_nil)))
    (pss_cons (ps_expr (pe_g G_check_within (fun _ _ F => bd_check_within F) hg (hr.mono (by decide)) passL (by rfl) (pa_cons (pv 1) (pa_cons pe_int (pa_cons (pe_gi T.c_MOST_FACT (by rfl)) pa_nil)))))
    (pss_one (ps_ret (pe_cmpR op_eqZ (pe_callBfun (id := "math.gcd") cr_gcd (by rfl) T.m_gcd (pa_cons (pv 0) (pa_cons (pv 1) pa_nil))) pe_int (nomark _)))))), ?_⟩
    walk_at "sti"
    refine ⟨x, rfl, hx.1, hx.2, ?_⟩
    walk_at "gi"
    refine ⟨n, _, _, rfl, hn.1, hn.2, ?_⟩
    walk_at "gi"
    rw [show decide (((Nat.gcd x.natAbs n.natAbs : Nat) : Int) = 1) = decide (Nat.gcd x.natAbs n.natAbs = 1) from decide_eq_decide.mpr ⟨fun z => by omega, fun z => by omega⟩]
    exact q
/-- what turns a number round by the base, or the refusal -/
def sp_back (C : Addr) : Sp := fun vs H Q E => ∃ x n : Int, vs = [.int x, .int n] ∧ Nr x ∧ Ba n ∧
  (Nat.gcd x.natAbs n.natAbs = 1 → ∀ (u : Int) H', 0 ≤ u → u < n → (u * x) % n = 1 % n → Same H H' → Q (.int u) H') ∧
  (Nat.gcd x.natAbs n.natAbs ≠ 1 → ∀ d, H d = none → E (.ref C) (some d) (upd H d (.xd [("given", .int x)])))
theorem ok_back (T : Top K mg) : Ok P w K mg base 6 "back" s_back ["number", "base"] (sp_back (cA mg "NotOpen")) := by
  have G_is_open := ok_is_open (P := P) (w := w) (base := base) T
  have G_inverse := ok_inverse (P := P) (w := w) (base := base) T
  refine T.d_back.ok sc_back (fun vs H Q E h => ?_) (fun f cdv A outer s H vs Q E hg hr h => ?_)
  · obtain ⟨x, n, rfl, _⟩ := h
    rfl
  · obtain ⟨x, n, rfl, hx, hn, q1, q2⟩ := h
    refine ⟨_, (pss_cons (ps_if (pt_not (pt_val (pe_g G_is_open (fun _ _ F => bd_is_open F) hg (hr.mono (by decide)) passL (by rfl) (pa_cons (pv 0) (pa_cons (pv 1) pa_nil))))) (pss_one (ps_raise rfl (takes_of rfl rfl rfl rfl) (mk_NotOpen T (hr.mono (by decide)) (pa_cons (pv 0) pa_nil) (by rfl)))) pss_nil)
    (pss_one (ps_ret (pe_g G_inverse (fun _ _ F => bd_inverse F) hg (hr.mono (by decide)) passL (by rfl) (pa_cons (pv 0) (pa_cons (pv 1) pa_nil)))))), ?_⟩
    walk_at "sti"
    refine ⟨x, n, rfl, hx, hn, ?_⟩
    walk_at "gi"
    refine ifnd (fun c => ?_) (fun c => ?_)
    · walk_at "gi"
      exact fun d hd => q2 (by simpa using c) d hd
    · walk_at "gi"
      have c1 : Nat.gcd x.natAbs n.natAbs = 1 := by simpa using c
      obtain ⟨b, rfl⟩ := Int.eq_ofNat_of_zero_le (show 0 ≤ n by have := hn.1; omega)
      have hb := hn.1
      have hB := hn.2
      have b30 : b ≤ Bq := Nat.le_trans (show b ≤ 2 ^ 100 by omega) (Nat.pow_le_pow_right (by decide) (by decide))
      refine ⟨x, b, rfl, by omega, b30, fun u wz H' e sH => ?_⟩
      have b0 : (b : Int) ≠ 0 := by omega
      refine q1 c1 _ _ (Int.emod_nonneg _ b0) (Int.emod_lt_of_pos _ (by omega)) ?_ sH
      rw [Int.natAbs_natCast] at c1
      rw [c1] at e
      have e2 : (u % (b : Int) * x) % (b : Int) = (u * x) % (b : Int) := Vf.cg_mul (Vf.cg_mod _ _) rfl
      rw [e2, e]
      show (1 + (b : Int) * wz) % (b : Int) = 1 % (b : Int)
      rw [Int.add_mul_emod_self_left]
end
section
variable {P : Program} {w : World} {K : PySem.W.Frag} {mg : Str → Option Value} {base : Heap}
/-! ### the law's own looks -/
def sp_lcommon : Sp := fun vs H Q _ => ∃ a b : Int, vs = [.int a, .int b] ∧ Q (.int ((Nat.gcd a.natAbs b.natAbs : Nat) : Int)) H
theorem ok__law_common (T : Top K mg) : Ok P w K mg base 1 "_law_common" s__law_common ["_law_a", "_law_b"] sp_lcommon := by
  refine T.d__law_common.ok sc__law_common (fun vs H Q E h => ?_) (fun f cdv A outer s H vs Q E hg hr h => ?_)
  · obtain ⟨a, b, rfl, _⟩ := h
    rfl
  · obtain ⟨a, b, rfl, q⟩ := h
    refine ⟨_, (pss_cons (ps_par (i := 0) (j := 1) (by rfl) sc__law_common.nd rfl rfl (by decide) rfl rfl (pa_cons (pe_callB (id := "abs") c_abs (by rfl) T.b_abs (by decide +kernel) (pa_cons (pv 0) pa_nil)) (pa_cons (pe_callB (id := "abs") c_abs (by rfl) T.b_abs (by decide +kernel) (pa_cons (pv 1) pa_nil)) pa_nil)) (by rfl))
    (pss_cons (ps_while (passes_of rfl) (pt_cmpR op_gt (pv 1) pe_int (nomark _)) (pss_one (ps_par (i := 0) (j := 1) (by rfl) sc__law_common.nd rfl rfl (by decide) rfl rfl (pa_cons (pv 1) (pa_cons (pe_op op_mod (pe_callTy (T := "int") c_int (by rfl) T.b_int (by decide +kernel) (pa_cons (pv 0) pa_nil)) (pv 1)) pa_nil)) (by rfl))))
    (pss_one (ps_ret (pv 0))))), ?_⟩
    walk_at "st"
    refine r_while (fun m σ H' => H' = H ∧ ∃ x : Nat, σ = [some (.int (x : Int)), some (.int (m : Int))] ∧ Nat.gcd x m = Nat.gcd a.natAbs b.natAbs) b.natAbs ?_ (fun m σ H' hW => ?_)
    · exact ⟨rfl, a.natAbs, rfl, rfl⟩
    · obtain ⟨rfl, x, rfl, e⟩ := hW
      walk_at "go"
      refine ifd (fun c => ?_) (fun c => ?_)
      · walk_at "gi"
        refine r_rI c ?_
        walk_at "gi"
        refine ⟨x % m, Nat.mod_lt _ (by omega), rfl, m, rfl, ?_⟩
        rw [Nat.gcd_comm, ← Nat.gcd_rec, Nat.gcd_comm]
        exact e
      · walk_at "gi"
        have m0 : m = 0 := by omega
        subst m0
        rw [Nat.gcd_zero_right] at e
        rw [e]
        exact q
def sp_lraised : Sp := fun vs H Q _ => ∃ (x n : Int) (k : Nat), vs = [.int x, .int (k : Int), .int n] ∧ x.natAbs < 2 ^ 200 ∧ k ≤ 10 ^ 40 ∧ Ba n ∧ Q (.int (x ^ k % n)) H
theorem ok__law_raised (T : Top K mg) : Ok P w K mg base 1 "_law_raised" s__law_raised ["_law_x", "_law_k", "_law_n"] sp_lraised := by
  refine T.d__law_raised.ok sc__law_raised (fun vs H Q E h => ?_) (fun f cdv A outer s H vs Q E hg hr h => ?_)
  · obtain ⟨x, n, k, rfl, _⟩ := h
    rfl
  · obtain ⟨x, n, k, rfl, hx, hk, hn, q⟩ := h
    have n0 : 0 < n := by have := hn.1; omega
    have hn2 := hn.2
    refine ⟨_, (pss_cons (ps_set (i := 3) sc__law_raised.nd rfl (.inl rfl) (pe_op op_mod (pe_callTy (T := "int") c_int (by rfl) T.b_int (by decide +kernel) (pa_cons pe_int pa_nil)) (pv 2)))
    (pss_cons (ps_for (passes_of rfl) rfl (pi_str (pe_callTy (T := "str") call_str_int (by rfl) T.b_str (by decide +kernel) (pa_cons (pv 1) pa_nil))) (pg_name (i := 4) sc__law_raised.nd rfl (.inl rfl)) (pss_cons (ps_set (i := 5) sc__law_raised.nd rfl (.inl rfl) (pv 3))
    (pss_cons (ps_for (passes_of rfl) rfl (pi_range1 (by rfl) T.b_range (pa_cons pe_int pa_nil)) (pg_name (i := 6) sc__law_raised.nd rfl (.inl rfl)) (pss_one (ps_set (i := 5) sc__law_raised.nd rfl (.inl rfl) (pe_op op_mod (pe_callTy (T := "int") c_int (by rfl) T.b_int (by decide +kernel) (pa_cons (pe_op op_mulX (pv 5) (pv 3)) pa_nil)) (pv 2)))))
    (pss_cons (ps_for (passes_of rfl) rfl (pi_range1 (by rfl) T.b_range (pa_cons (pe_callTy (T := "int") call_int_str (by rfl) T.b_int (by decide +kernel) (pa_cons (pv 4) pa_nil)) pa_nil)) (pg_name (i := 6) sc__law_raised.nd rfl (.inl rfl)) (pss_one (ps_set (i := 5) sc__law_raised.nd rfl (.inl rfl) (pe_op op_mod (pe_callTy (T := "int") c_int (by rfl) T.b_int (by decide +kernel) (pa_cons (pe_op op_mulX (pv 5) (pv 0)) pa_nil)) (pv 2)))))
    (pss_one (ps_set (i := 3) sc__law_raised.nd rfl (.inl rfl) (pv 5)))))))
    (pss_one (ps_ret (pv 3))))), ?_⟩
    walk_at "st"
    refine r_rI n0 ?_
    walk_at "go"
    refine r_forStr ?_
    walk_at "go"
    refine ⟨Nat.lt_of_lt_of_le (log_lim (n := ((k : Nat) : Int).natAbs) (k := 140) (by omega) (by decide)) (by decide), sgn k, rfl, ?_⟩
    refine r_forSs (fun i σ H' => H' = H ∧ ∃ (f : Int) (x4 x5 x6 : Option V), σ = [some (.int x), some (.int (k : Int)), some (.int n), some (.int f), x4, x5, x6] ∧ f = x ^ dv k i % n) ?_ (fun i c σ H' hc hP => ?_) (fun σ H' hP => ?_)
    · exact ⟨rfl, _, none, none, none, rfl, by rw [dv_zero, Int.pow_zero]⟩
    · obtain ⟨rfl, f, x4, x5, x6, rfl, ef⟩ := hP
      obtain ⟨c1, c2⟩ := sgn_digit hc
      obtain ⟨f0, f1, fb⟩ := mod_lt (a := x ^ dv k i) hn
      walk_at "go"
      have nx2 : x.natAbs < 2 ^ 200 := hx
      refine ⟨by decide, by decide, ?_⟩
      refine r_forR (fun l σ H2 => H2 = H' ∧ ∃ (g : Int) (x6 : Option V), σ = [some (.int x), some (.int (k : Int)), some (.int n), some (.int f), some (.str ⟨#[c]⟩), some (.int g), x6] ∧ 0 ≤ g ∧ g < n ∧ g = (x ^ dv k i) ^ (l + 1) % n)
        ⟨rfl, f, x6, rfl, by rw [ef]; exact f0, by rw [ef]; exact f1, by rw [ef, Int.pow_succ, Int.pow_zero, Int.one_mul]⟩ (fun l σ H2 hl hP => ?_) (fun σ H2 hP => ?_)
      · obtain ⟨rfl, g, x6, rfl, g0, g1, eg⟩ := hP
        walk_at "go"
        refine r_rI (bit_mul (a := 100) (b := 100) (bit_of (by omega)) (bit_of (by rw [ef]; exact fb)) (by decide)) ?_
        walk_at "go"
        refine r_rI n0 ?_
        walk_at "go"
        obtain ⟨h0, h1, _⟩ := mod_lt (a := g * f) hn
        refine ⟨rfl, _, _, rfl, h0, h1, ?_⟩
        rw [Int.pow_succ (x ^ dv k i) (l + 1)]
        exact Vf.cg_mul (by rw [eg, Vf.cg_mod]) (by rw [ef, Vf.cg_mod])
      · obtain ⟨rfl, g, x6, rfl, g0, g1, eg⟩ := hP
        walk_at "go"
        refine ⟨_, _, rfl, Vf.one_sign c1 c2, (by decide : 1 ≤ 640), ?_⟩
        walk_at "go"
        refine ⟨by omega, by omega, ?_⟩
        rw [Int.toNat_natCast]
        refine r_forR (fun l σ H3 => H3 = H2 ∧ ∃ (g : Int) (x6 : Option V), σ = [some (.int x), some (.int (k : Int)), some (.int n), some (.int f), some (.str ⟨#[c]⟩), some (.int g), x6] ∧ 0 ≤ g ∧ g < n ∧ g = x ^ (dv k i * 10 + l) % n)
          ⟨rfl, g, x6, rfl, g0, g1, by rw [eg, ← Int.pow_mul]; rfl⟩ (fun l σ H3 hl hP => ?_) (fun σ H3 hP => ?_)
        · obtain ⟨rfl, g, x6, rfl, g0, g1, eg⟩ := hP
          walk_at "go"
          refine r_rI (bit_mul (a := 100) (b := 200) (bit_of (by omega)) (bit_of (by omega)) (by decide)) ?_
          walk_at "go"
          refine r_rI n0 ?_
          walk_at "go"
          obtain ⟨h0, h1, _⟩ := mod_lt (a := g * x) hn
          refine ⟨rfl, _, _, rfl, h0, h1, ?_⟩
          rw [← Nat.add_assoc, Int.pow_succ]
          exact Vf.cg_mul (by rw [eg, Vf.cg_mod]) rfl
        · obtain ⟨rfl, g, x6, rfl, g0, g1, eg⟩ := hP
          walk_at "go"
          exact ⟨rfl, _, _, _, _, rfl, by rw [eg, dv_next hc]⟩
    · obtain ⟨rfl, f, x4, x5, x6, rfl, ef⟩ := hP
      walk_at "go"
      rw [ef, dv_all]
      exact q
end
section
variable {P : Program} {w : World} {K : PySem.W.Frag} {mg : Str → Option Value} {base : Heap}
/-! ### great draws, the refusal that is caught -/
def sp_great : Sp := fun vs H Q _ => ∃ (k : Addr) (u : Int) (n : Nat), vs = [.ref k, .int u] ∧ Mug n k H ∧ n ≤ 2 ^ 59 ∧ 0 ≤ u ∧
  ∀ (x : Nat) H', (x : Int) ≤ u → Kx k H H' → Mug (n + 12) k H' → Q (.int (x : Int)) H'
theorem i_great {k : Addr} {u : Int} {H : Hp} {Q : VK} {E : XK} (n : Nat) (hk : Mug n k H) (hn : n ≤ 2 ^ 59) (h0 : 0 ≤ u)
    (q : ∀ (x : Nat) H', (x : Int) ≤ u → Kx k H H' → Mug (n + 12) k H' → Q (.int (x : Int)) H') : sp_great [.ref k, .int u] H Q E := ⟨k, u, n, rfl, hk, hn, h0, q⟩
theorem ok__law_great (T : Top K mg) : Ok P w K mg base 2 "_law_great" s__law_great ["_law_mug_here", "_law_top"] sp_great := by
  have G__law_sip := ok__law_sip (P := P) (w := w) (base := base) T
  refine T.d__law_great.ok sc__law_great (fun vs H Q E h => ?_) (fun f cdv A outer s H vs Q E hg hr h => ?_)
  · obtain ⟨k, u, n, rfl, _⟩ := h
    rfl
  · obtain ⟨k, u, n, rfl, hk, hn, h0, q⟩ := h
    have E60 := e60
    have E59 := e59
    refine ⟨_, (pss_cons (ps_set (i := 2) sc__law_great.nd rfl (.inl rfl) pe_int)
    (pss_cons (ps_for (passes_of rfl) rfl (pi_range1 (by rfl) T.b_range (pa_cons (pe_op op_add pe_int (pe_g G__law_sip (fun _ _ F => bd__law_sip F) hg (hr.mono (by decide)) passL (by rfl) (pa_cons (pv 0) (pa_cons pe_int pa_nil)))) pa_nil)) (pg_name (i := 3) sc__law_great.nd rfl (.inl rfl)) (pss_one (ps_set (i := 2) sc__law_great.nd rfl (.inl rfl) (pe_op op_add (pe_op op_mulX pe_int (pv 2)) (pe_g G__law_sip (fun _ _ F => bd__law_sip F) hg (hr.mono (by decide)) passL (by rfl) (pa_cons (pv 0) (pa_cons pe_int pa_nil)))))))
    (pss_one (ps_ret (pe_callB (id := "min") (c_min2 rfl) (by rfl) T.b_min (by decide +kernel) (pa_cons (pv 2) (pa_cons (pv 1) pa_nil))))))), ?_⟩
    walk_at "st"
    refine i_sip n hk (by omega) (by decide) (by decide) fun m H1 m0 m1 x1 k1 => ?_
    walk_at "go"
    refine ⟨by omega, by omega, ?_⟩
    have hm : (1 + m).toNat ≤ 10 := by omega
    generalize (1 + m).toNat = r at *
    refine r_forR (fun i σ H' => ∃ (x : Nat) (x3 : Option V), σ = [some (.ref k), some (.int u), some (.int (x : Int)), x3] ∧ x < 10000 ^ i ∧ Kx k H H' ∧ Mug (n + 1 + i) k H')
      ⟨0, none, rfl, by decide, x1, k1⟩ (fun i σ H' hi hP => ?_) (fun σ H' hP => ?_)
    · obtain ⟨x, x3, rfl, xl, x2, k2⟩ := hP
      have p10 : 10000 ^ i ≤ 10000 ^ 10 := Nat.pow_le_pow_right (by decide) (by omega)
      have p11 : (10000 : Nat) ^ 10 = 10000000000000000000000000000000000000000 := by decide
      walk_at "go"
      refine r_rI (bit_mul (a := 20) (b := 140) (bit_of (by decide)) (bit_of (by omega)) (by decide)) ?_
      walk_at "go"
      refine i_sip _ k2 (by omega) (by decide) (by decide) fun y H3 y0 y1 x4 k3 => ?_
      walk_at "go"
      obtain ⟨y', rfl⟩ := Int.eq_ofNat_of_zero_le y0
      refine ⟨10000 * x + y', _, rfl, ?_, x2.trans x4, k3⟩
      rw [Nat.pow_succ]
      omega
    · obtain ⟨x, x3, rfl, xl, x2, k2⟩ := hP
      walk_at "go"
      rw [show min (x : Int) u = ((min x u.toNat : Nat) : Int) by omega]
      exact q _ _ (by omega) x2 (k2.mono (by omega))
def sp_led (K : PySem.W.Frag) : Sp := fun vs H Q _ => ∃ x n : Int, vs = [.int x, .int n] ∧ Nr x ∧ Ba n ∧ Nat.gcd x.natAbs n.natAbs ≠ 1 ∧ ∀ p H', Same H H' → H p = none → H' p = some (.tup [.str "open", .int x]) → Q (.ref p) H'
theorem ok__law_led_back (T : Top K mg) : Ok P w K mg base 7 "_law_led_back" s__law_led_back ["_law_x", "_law_n"] (sp_led K) := by
  have G_back := ok_back (P := P) (w := w) (base := base) T
  refine T.d__law_led_back.ok sc__law_led_back (fun vs H Q E h => ?_) (fun f cdv A outer s H vs Q E hg hr h => ?_)
  · obtain ⟨x, n, rfl, _⟩ := h
    rfl
  · obtain ⟨x, n, rfl, hx, hn, c, q⟩ := h
    refine ⟨_, (pss_one (ps_try_as (i := 2) rfl rfl sc__law_led_back.nd rfl rfl ⟨by rfl, by decide, .inl T.g_NotOpen⟩ takes0 (fun W pn xe tk po => (pss_one (ps_ret (pe_gS G_back (fun _ _ F => bd_back F) hg (hr.mono (by decide)) tk (by rfl) (pa_cons (pv 0) (pa_cons (pv 1) pa_nil)))))) (fun a oe cls dd pn hz hf => (pss_one (ps_ret (pe_tup (pa_cons pe_str (pa_cons (pe_xf T.ec_NotOpen.xf T.n_NotOpen_given hz hf (pv 2)) pa_nil)))))))), ?_⟩
    walk_at "st"
    refine ⟨x, n, rfl, hx, hn, fun z => absurd z c, fun _ d hd => w_as T.e_NotOpen_NotOpen fun a ha => ?_⟩
    walk_at "go"
    refine ⟨rfl, rfl, d, _, _, rfl, upd_same, rfl, ?_⟩
    walk_at "go"
    exact q _ _ ((Same.new hd).trans (Same.new (by assumption))) (none_up (by assumption)) upd_same
end
section
variable {P : Program} {w : World} {K : PySem.W.Frag} {mg : Str → Option Value} {base : Heap}
theorem Nr.nat {x : Nat} (h : x ≤ 10 ^ 40) : Nr (x : Int) := by
  unfold Nr
  omega
theorem Nr.mod {a n : Int} (h : Ba n) : Nr (a % n) := by
  obtain ⟨h1, h2, _⟩ := mod_lt (a := a) h
  have := h.2
  unfold Nr
  omega
theorem shapedOne {z : Str} (x : Int) (hz : PyData.canLay0 (.str z) = true) : SeqAt.shaped (.tuple [.str z, .int x]) = true := by
  unfold SeqAt.shaped
  rw [Bool.and_eq_true]
  refine ⟨?_, decide_eq_true ?_⟩
  · show (PyData.canLay0 (.str z) && (true && true)) = true
    rw [hz]; rfl
  · show max (0 : Nat) (max 0 0) + 1 ≤ 64
    decide
theorem openOk : PyData.canLay0 (.str "open") = true := by decide +kernel
theorem small2 {z : Int} (h : z.natAbs < 2 ^ 200) : ∀ m ∈ [z, z], m.natAbs < 2 ^ 1900 := by
  intro m hm
  have e : m = z := by simpa using hm
  rw [e]
  exact Nat.lt_trans h (Nat.pow_lt_pow_right (by decide) (by decide))
def sp_one (K : PySem.W.Frag) : Sp := fun vs H Q _ => ∃ (k : Addr) (x n : Int) (m : Nat), vs = [.ref k, .int x, .int n] ∧ Mug m k H ∧ m ≤ 2 ^ 58 ∧ Nr x ∧ Ba n ∧
  ∀ H', Kx k H H' → Mug (m + 20) k H' → Q (.bl true) H'
theorem ok__law_one_right (T : Top K mg) : Ok P w K mg base 8 "_law_one_right" s__law_one_right ["_law_mug_here", "_law_x", "_law_n"] (sp_one K) := by
  have G__law_of := ok__law_of (P := P) (w := w) (base := base) T
  have G__law_great := ok__law_great (P := P) (w := w) (base := base) T
  have G__law_raised := ok__law_raised (P := P) (w := w) (base := base) T
  have G_power_rest := ok_power_rest (P := P) (w := w) (base := base) T
  have G__law_common := ok__law_common (P := P) (w := w) (base := base) T
  have G_is_open := ok_is_open (P := P) (w := w) (base := base) T
  have G__law_led_back := ok__law_led_back (P := P) (w := w) (base := base) T
  have G_back := ok_back (P := P) (w := w) (base := base) T
  refine T.d__law_one_right.ok sc__law_one_right (fun vs H Q E h => ?_) (fun f cdv A outer s H vs Q E hg hr h => ?_)
  · obtain ⟨k, x, n, m, rfl, _⟩ := h
    rfl
  · obtain ⟨k, x, n, m, rfl, hk, hm, hx, hn, q⟩ := h
    have E60 := e60
    have E59 := e59
    have n0 : 0 < n := by have := hn.1; omega
    have hn2 := hn.2
    have e58 : (2 : Nat) ^ 58 = 288230376151711744 := by decide
    have xb : x.natAbs < 2 ^ 200 := by
      have := hx.1
      have := hx.2
      omega
    refine ⟨_, (pss_cons (ps_par (i := 3) (j := 4) (by rfl) sc__law_one_right.nd rfl rfl (by decide) rfl rfl (pa_cons (pe_g G__law_great (fun _ _ F => bd__law_great F) hg (hr.mono (by decide)) passL (by rfl) (pa_cons (pv 0) (pa_cons (pe_op op_pow pe_int pe_int) pa_nil))) (pa_cons (pe_g G__law_of (fun _ _ F => bd__law_of F) hg (hr.mono (by decide)) passL (by rfl) (pa_cons (pv 0) (pa_cons (pe_lst (pa_cons pe_int (pa_cons pe_int (pa_cons pe_int (pa_cons pe_int (pa_cons pe_int (pa_cons (pe_op op_pow pe_int pe_int) pa_nil))))))) pa_nil))) pa_nil)) (by rfl))
    (pss_cons (ps_set (i := 5) sc__law_one_right.nd rfl (.inl rfl) (pe_g G__law_raised (fun _ _ F => bd__law_raised F) hg (hr.mono (by decide)) passL (by rfl) (pa_cons (pv 1) (pa_cons (pv 3) (pa_cons (pv 2) pa_nil)))))
    (pss_cons (ps_if (pt_cmpR op_neS (pe_callB (id := "repr") (c_repr rfl hg hr.units) (by rfl) T.b_repr (by decide +kernel) (pa_cons (pe_lst (pa_cons (pe_g G_power_rest (fun _ _ F => bd_power_rest F) hg (hr.mono (by decide)) passL (by rfl) (pa_cons (pv 1) (pa_cons (pv 3) (pa_cons (pv 2) pa_nil)))) (pa_cons (pe_gk0 G_power_rest (fun _ _ F => kb_power_rest_0 F) hg (hr.mono (by decide)) passL (by rfl) (pk_cons (pv 2) (pk_cons (pv 3) (pk_cons (pv 1) pk_nil)))) pa_nil))) pa_nil)) (pe_callB (id := "repr") (c_repr rfl hg hr.units) (by rfl) T.b_repr (by decide +kernel) (pa_cons (pe_lst (pa_cons (pv 5) (pa_cons (pv 5) pa_nil))) pa_nil)) (nomark _)) (pss_one (ps_ret pe_bl)) pss_nil)
    (pss_cons (ps_if (pt_cmpR op_neZ (pe_g G_power_rest (fun _ _ F => bd_power_rest F) hg (hr.mono (by decide)) passL (by rfl) (pa_cons (pv 1) (pa_cons (pe_op op_add (pv 3) (pv 4)) (pa_cons (pv 2) pa_nil)))) (pe_op op_mod (pe_callTy (T := "int") c_int (by rfl) T.b_int (by decide +kernel) (pa_cons (pe_op op_mulX (pv 5) (pe_g G__law_raised (fun _ _ F => bd__law_raised F) hg (hr.mono (by decide)) passL (by rfl) (pa_cons (pv 1) (pa_cons (pv 4) (pa_cons (pv 2) pa_nil))))) pa_nil)) (pv 2)) (nomark _)) (pss_one (ps_ret pe_bl)) pss_nil)
    (pss_cons (ps_if (PW.pt (pw_or (pt_cmpR op_neZ (pe_g G_power_rest (fun _ _ F => bd_power_rest F) hg (hr.mono (by decide)) passL (by rfl) (pa_cons (pv 1) (pa_cons (pe_op op_mulX (pv 3) (pv 4)) (pa_cons (pv 2) pa_nil)))) (pe_g G_power_rest (fun _ _ F => bd_power_rest F) hg (hr.mono (by decide)) passL (by rfl) (pa_cons (pv 5) (pa_cons (pv 4) (pa_cons (pv 2) pa_nil)))) (nomark _)) (pw_or1 (pt_cmpR op_neZ (pe_g G_power_rest (fun _ _ F => bd_power_rest F) hg (hr.mono (by decide)) passL (by rfl) (pa_cons (pv 1) (pa_cons pe_int (pa_cons (pv 2) pa_nil)))) (pe_op op_mod (pe_callTy (T := "int") c_int (by rfl) T.b_int (by decide +kernel) (pa_cons pe_int pa_nil)) (pv 2)) (nomark _))))) (pss_one (ps_ret pe_bl)) pss_nil)
    (pss_cons (ps_if (PW.pt (pw_or (pt_cmpR op_neZ (pe_g G_power_rest (fun _ _ F => bd_power_rest F) hg (hr.mono (by decide)) passL (by rfl) (pa_cons (pv 1) (pa_cons pe_int (pa_cons (pv 2) pa_nil)))) (pe_op op_mod (pe_callTy (T := "int") c_int (by rfl) T.b_int (by decide +kernel) (pa_cons (pv 1) pa_nil)) (pv 2)) (nomark _)) (pw_or1 (pt_cmpR op_neZ (pe_g G_power_rest (fun _ _ F => bd_power_rest F) hg (hr.mono (by decide)) passL (by rfl) (pa_cons (pv 1) (pa_cons (pe_op op_pow pe_int pe_int) (pa_cons (pv 2) pa_nil)))) (pe_g G__law_raised (fun _ _ F => bd__law_raised F) hg (hr.mono (by decide)) passL (by rfl) (pa_cons (pv 1) (pa_cons (pe_op op_pow pe_int pe_int) (pa_cons (pv 2) pa_nil)))) (nomark _))))) (pss_one (ps_ret pe_bl)) pss_nil)
    (pss_cons (ps_set (i := 6) sc__law_one_right.nd rfl (.inl rfl) (pe_g G__law_common (fun _ _ F => bd__law_common F) hg (hr.mono (by decide)) passL (by rfl) (pa_cons (pv 2) (pa_cons (pe_g G__law_of (fun _ _ F => bd__law_of F) hg (hr.mono (by decide)) passL (by rfl) (pa_cons (pv 0) (pa_cons (pe_lst (pa_cons pe_int (pa_cons pe_int (pa_cons (pe_op op_pow pe_int pe_int) (pa_cons pe_int pa_nil))))) pa_nil))) pa_nil))))
    (pss_cons (ps_if (pt_cmpR op_neZ (pe_g G_power_rest (fun _ _ F => bd_power_rest F) hg (hr.mono (by decide)) passL (by rfl) (pa_cons (pv 1) (pa_cons (pv 3) (pa_cons (pv 6) pa_nil)))) (pe_op op_mod (pe_callTy (T := "int") c_int (by rfl) T.b_int (by decide +kernel) (pa_cons (pv 5) pa_nil)) (pv 6)) (nomark _)) (pss_one (ps_ret pe_bl)) pss_nil)
    (pss_cons (ps_set (i := 7) sc__law_one_right.nd rfl (.inl rfl) (pe_cmpR op_eqZ (pe_g G__law_common (fun _ _ F => bd__law_common F) hg (hr.mono (by decide)) passL (by rfl) (pa_cons (pv 1) (pa_cons (pv 2) pa_nil))) pe_int (nomark _)))
    (pss_cons (ps_if (pt_cmpR op_neS (pe_callB (id := "repr") (c_repr rfl hg hr.units) (by rfl) T.b_repr (by decide +kernel) (pa_cons (pe_lst (pa_cons (pe_g G_is_open (fun _ _ F => bd_is_open F) hg (hr.mono (by decide)) passL (by rfl) (pa_cons (pv 1) (pa_cons (pv 2) pa_nil))) (pa_cons (pe_gk0 G_is_open (fun _ _ F => kb_is_open_1 F) hg (hr.mono (by decide)) passL (by rfl) (pk_cons (pv 2) (pk_cons (pv 1) pk_nil))) pa_nil))) pa_nil)) (pe_callB (id := "repr") (c_repr rfl hg hr.units) (by rfl) T.b_repr (by decide +kernel) (pa_cons (pe_lst (pa_cons (pv 7) (pa_cons (pv 7) pa_nil))) pa_nil)) (nomark _)) (pss_one (ps_ret pe_bl)) pss_nil)
    (pss_cons (ps_if (pt_not (pt_val (pv 7))) (pss_one (ps_ret (pe_cmpR (o_eqD rfl hr.units) (pe_g G__law_led_back (fun _ _ F => bd__law_led_back F) hg (hr.mono (by decide)) passL (by rfl) (pa_cons (pv 1) (pa_cons (pv 2) pa_nil))) (pe_tup (pa_cons pe_str (pa_cons (pv 1) pa_nil))) (nomark _)))) pss_nil)
    (pss_cons (ps_set (i := 8) sc__law_one_right.nd rfl (.inl rfl) (pe_gkS0 G_back (fun _ _ F => kb_back_2 F) hg (hr.mono (by decide)) (takes_of rfl rfl rfl rfl) (by rfl) (pk_cons (pv 2) (pk_cons (pv 1) pk_nil))))
    (pss_cons (ps_if (PW.pt (pw_or (pt_not (pt_chain op_le op_lt pe_int (pv 8) (pv 2))) (pw_or (pt_cmpR op_neZ (pe_op op_mod (pe_callTy (T := "int") c_int (by rfl) T.b_int (by decide +kernel) (pa_cons (pe_op op_mulX (pv 8) (pv 1)) pa_nil)) (pv 2)) (pe_op op_mod (pe_callTy (T := "int") c_int (by rfl) T.b_int (by decide +kernel) (pa_cons pe_int pa_nil)) (pv 2)) (nomark _)) (pw_or1 (pt_cmpR op_neZ (pe_gS G_back (fun _ _ F => bd_back F) hg (hr.mono (by decide)) (takes_of rfl rfl rfl rfl) (by rfl) (pa_cons (pv 8) (pa_cons (pv 2) pa_nil))) (pe_op op_mod (pe_callTy (T := "int") c_int (by rfl) T.b_int (by decide +kernel) (pa_cons (pv 1) pa_nil)) (pv 2)) (nomark _)))))) (pss_one (ps_ret pe_bl)) pss_nil)
    (pss_one (ps_ret (pe_cmpR op_eqZ (pe_g G_power_rest (fun _ _ F => bd_power_rest F) hg (hr.mono (by decide)) passL (by rfl) (pa_cons (pv 8) (pa_cons (pv 3) (pa_cons (pv 2) pa_nil)))) (pe_gS G_back (fun _ _ F => bd_back F) hg (hr.mono (by decide)) (takes_of rfl rfl rfl rfl) (by rfl) (pa_cons (pv 5) (pa_cons (pv 2) pa_nil))) (nomark _))))))))))))))))), ?_⟩
    walk_at "st"
    refine r_rI ⟨by decide, by decide, by decide⟩ ?_
    walk_at "go"
    refine i_great m hk (by omega) (by decide) fun a H1 ha x1 k1 => ?_
    walk_at "go"
    refine r_rI ⟨by decide, by decide, by decide⟩ ?_
    walk_at "go"
    refine i_of _ _ (k1.new (by assumption)) (by omega) (by exact k1.ne (by assumption)) (SqL.of upd_same) (by decide) (by decide) fun i y H2 hy x2 k2 => ?_
    have hb : ∃ b : Nat, y = .int (b : Int) ∧ b ≤ 10 ^ 19 := by
      have z := List.mem_of_getElem? hy
      simp only [List.mem_cons, List.not_mem_nil, or_false] at z
      rcases z with rfl | rfl | rfl | rfl | rfl | rfl
      · exact ⟨0, rfl, by decide⟩
      · exact ⟨1, rfl, by decide⟩
      · exact ⟨2, rfl, by decide⟩
      · exact ⟨7, rfl, by decide⟩
      · exact ⟨100, rfl, by decide⟩
      · exact ⟨10 ^ 19, rfl, by decide⟩
    obtain ⟨b, rfl, hb⟩ := hb
    have ha : a ≤ 10 ^ 20 := by
      have e20 : (10 : Int) ^ Int.toNat 20 = 100000000000000000000 := by decide
      rw [e20] at ha
      omega
    have x3 : Kx k H H2 := (x1.trans (Same.toKx (Same.new (by assumption)))).trans x2
    clear hk k1 x1 x2
    walk_at "go"
    refine ⟨x, n, a, rfl, xb, by omega, hn, ?_⟩
    obtain ⟨d0, d1, db⟩ := mod_lt (a := x ^ a) hn
    generalize hd : x ^ a % n = d at *
    have db2 : d.natAbs < 2 ^ 200 := Nat.lt_trans db (Nat.pow_lt_pow_right (by decide) (by decide))
    walk_at "gi"
    refine ⟨x, n, a, rfl, hx, by omega, hn, ?_⟩
    rw [hd]
    walk_at "gi"
    refine ⟨x, n, a, rfl, hx, by omega, hn, ?_⟩
    rw [hd]
    walk_at "gi"
    refine r_reprI [d, d] (SqL.of upd_same) (small2 db2) (Nat.le_of_ble_eq_true rfl) ?_
    walk_at "gi"
    refine r_reprI [d, d] (SqL.of upd_same) (small2 db2) (Nat.le_of_ble_eq_true rfl) ?_
    walk_at "gi"
    refine ifnd (fun c => absurd rfl c) (fun _ => ?_)
    have cd : x ^ a % n = d % n := by rw [← hd, Vf.cg_mod]
    have dn : d % n = d := Int.emod_eq_of_lt d0 d1
    obtain ⟨r0, r1, rb⟩ := mod_lt (a := x ^ b) hn
    walk_at "gi"
    refine ⟨x, n, a + b, rfl, hx, by omega, hn, ?_⟩
    walk_at "gi"
    refine ⟨x, n, b, rfl, xb, by omega, hn, ?_⟩
    walk_at "gi"
    refine r_rI (bit_mul (a := 100) (b := 100) (bit_of db) (bit_of rb) (by decide)) ?_
    walk_at "gi"
    refine r_rI n0 ?_
    walk_at "gi"
    refine ifnd (fun c => absurd (by rw [Int.pow_add]; exact Vf.cg_mul cd (Vf.cg_mod _ _).symm) c) (fun _ => ?_)
    walk_at "gi"
    refine r_rI (bit_mul (a := 100) (b := 100) (bit_of (by omega)) (bit_of (by omega)) (by decide)) ?_
    walk_at "gi"
    have ab : a * b ≤ 10 ^ 20 * 10 ^ 19 := Nat.mul_le_mul ha hb
    refine ⟨x, n, a * b, rfl, hx, by omega, hn, ?_⟩
    walk_at "gi"
    have nd : Nr d := by rw [← hd]; exact Nr.mod hn
    refine ⟨d, n, b, rfl, nd, by omega, hn, ?_⟩
    walk_at "gi"
    refine ifnd (fun c => absurd (by rw [Int.pow_mul]; exact Vf.cg_pow cd b) c) (fun _ => ?_)
    walk_at "gi"
    refine ⟨x, n, 0, rfl, hx, by decide, hn, ?_⟩
    walk_at "gi"
    refine r_rI n0 ?_
    walk_at "gi"
    refine ifnd (fun c => absurd (by rw [Int.pow_zero]) c) (fun _ => ?_)
    walk_at "gi"
    refine ⟨x, n, 1, rfl, hx, by decide, hn, ?_⟩
    walk_at "gi"
    refine r_rI n0 ?_
    walk_at "gi"
    refine ifnd (fun c => absurd (by rw [Int.pow_succ, Int.pow_zero, Int.one_mul]) c) (fun _ => ?_)
    have e40 : (10 : Int) ^ Int.toNat 40 = ((10 ^ 40 : Nat) : Int) := by decide
    walk_at "gi"
    refine r_rI ⟨by decide, by decide, by decide⟩ ?_
    rw [e40]
    walk_at "gi"
    refine ⟨x, n, 10 ^ 40, rfl, hx, Nat.le_refl _, hn, ?_⟩
    walk_at "gi"
    refine r_rI ⟨by decide, by decide, by decide⟩ ?_
    rw [e40]
    walk_at "gi"
    refine ⟨x, n, 10 ^ 40, rfl, xb, Nat.le_refl _, hn, ?_⟩
    walk_at "gi"
    refine ifnd (fun c => absurd rfl c) (fun _ => ?_)
    walk_at "gi"
    refine r_rI ⟨by decide, by decide, by decide⟩ ?_
    walk_at "gi"
    refine i_of _ _ (k2.same (by walk_at "vsame")) (by omega) (k2.ne (none_up (none_up (by assumption)))) (SqL.of upd_same) (by decide) (by decide) fun i2 y2 H3 hy2 x4 k3 => ?_
    have hw : ∃ e : Int, y2 = .int e := by
      have z := List.mem_of_getElem? hy2
      simp only [List.mem_cons, List.not_mem_nil, or_false] at z
      rcases z with rfl | rfl | rfl | rfl
      · exact ⟨_, rfl⟩
      · exact ⟨_, rfl⟩
      · exact ⟨_, rfl⟩
      · exact ⟨_, rfl⟩
    obtain ⟨e, rfl⟩ := hw
    have x5 : Kx k H H3 := x3.trans ((Same.toKx (by walk_at "vsame")).trans x4)
    clear x3 x4 k2
    walk_at "gi"
    refine ⟨n, e, rfl, ?_⟩
    walk_at "gi"
    have pd : ((Nat.gcd n.natAbs e.natAbs : Nat) : Int) ∣ n := Int.ofNat_dvd_left.mpr (Nat.gcd_dvd_left _ _)
    have p0 : 0 < Nat.gcd n.natAbs e.natAbs := Nat.gcd_pos_of_pos_left _ (by omega)
    have p1 : Nat.gcd n.natAbs e.natAbs ≤ n.natAbs := Nat.gcd_le_left _ (by omega)
    generalize Nat.gcd n.natAbs e.natAbs = g at *
    have hgB : Ba (g : Int) := ⟨by omega, by omega⟩
    refine ⟨x, g, a, rfl, hx, by omega, hgB, ?_⟩
    walk_at "gi"
    refine r_rI (by omega) ?_
    walk_at "gi"
    refine ifnd (fun c => absurd (by rw [← hd, Int.emod_emod_of_dvd _ pd]) c) (fun _ => ?_)
    walk_at "gi"
    refine ⟨x, n, rfl, ?_⟩
    walk_at "gi"
    rw [show decide (((Nat.gcd x.natAbs n.natAbs : Nat) : Int) = 1) = decide (Nat.gcd x.natAbs n.natAbs = 1) from decide_eq_decide.mpr ⟨fun z => by omega, fun z => by omega⟩]
    refine ⟨x, n, rfl, hx, hn, ?_⟩
    walk_at "gi"
    refine ⟨x, n, rfl, hx, hn, ?_⟩
    walk_at "gi"
    obtain ⟨o, ho⟩ : ∃ o, o = decide (Nat.gcd x.natAbs n.natAbs = 1) := ⟨_, rfl⟩
    rw [← ho]
    refine r_reprD (.list [.bool o, .bool o]) (.lst (SqL.of upd_same) (.cons (.bl o) (.cons (.bl o) .nil))) (by cases o <;> decide) (by cases o <;> decide) (by cases o <;> decide) ?_
    walk_at "gi"
    refine r_reprD (.list [.bool o, .bool o]) (.lst (SqL.of upd_same) (.cons (.bl o) (.cons (.bl o) .nil))) (by cases o <;> decide) (by cases o <;> decide) (by cases o <;> decide) ?_
    walk_at "gi"
    refine ifnd (fun c => absurd rfl c) (fun _ => ?_)
    walk_at "gi"
    cases o with
    | false =>
      have c1 : Nat.gcd x.natAbs n.natAbs ≠ 1 := of_decide_eq_false ho.symm
      walk_at "gi"
      refine ⟨x, n, rfl, hx, hn, c1, fun p H4 s4 np hp => ?_⟩
      walk_at "gi"
      have at4 : ∀ o, upd H4 o (.tup [.str "open", .int x]) o = some (.tup [.str "open", .int x]) := fun o => upd_same
      refine r_eqD (d := .tuple [.str "open", .int x]) (e := .tuple [.str "open", .int x]) (.tup (SqT.of (by walk_at "vat")) (.cons (.str _) (.cons (.int x) .nil))) (.tup (SqT.of upd_same) (.cons (.str _) (.cons (.int x) .nil))) (shapedOne x openOk) (shapedOne x openOk) ?_
      rw [SeqAt.eqv_refl _ (SeqAt.canLay_of_shaped (shapedOne x openOk))]
      exact q _ (x5.trans (Same.toKx (by walk_at "vsame"))) ((k3.same (by walk_at "vsame")).mono (by omega))
    | true =>
      have c1 : Nat.gcd x.natAbs n.natAbs = 1 := of_decide_eq_true ho.symm
      walk_at "gi"
      refine ⟨x, n, rfl, hx, hn, fun _ u H4 u0 u1 eu s4 => ?_, fun z => absurd c1 z⟩
      have nu : Nr u := by
        unfold Nr
        omega
      have gu : Nat.gcd u.natAbs n.natAbs = 1 := by
        obtain ⟨N, rfl⟩ := Int.eq_ofNat_of_zero_le (show 0 ≤ n by omega)
        rw [Int.natAbs_natCast]
        exact Vf.open_of (u := x) (by rw [Int.mul_comm]; exact eu)
      walk_at "gi"
      rw [decide_eq_true u0]
      walk_at "gi"
      rw [decide_eq_true u1]
      walk_at "gi"
      refine r_rI (bit_mul (a := 100) (b := 200) (bit_of (by omega)) (bit_of xb) (by decide)) ?_
      walk_at "gi"
      refine r_rI n0 ?_
      walk_at "gi"
      refine r_rI n0 ?_
      walk_at "gi"
      refine ifnd (fun c => absurd eu c) (fun _ => ?_)
      walk_at "gi"
      refine ⟨u, n, rfl, nu, hn, fun _ v H5 v0 v1 ev s5 => ?_, fun z => absurd gu z⟩
      walk_at "gi"
      refine r_rI n0 ?_
      walk_at "gi"
      have ev2 : v = x % n := by
        have z := Vf.inv_one (x := u) ev (show (x * u) % n = 1 % n by rw [Int.mul_comm]; exact eu)
        rw [Int.emod_eq_of_lt v0 v1] at z
        exact z
      refine ifnd (fun c => absurd ev2 c) (fun _ => ?_)
      walk_at "gi"
      refine ⟨u, n, a, rfl, nu, by omega, hn, ?_⟩
      walk_at "gi"
      have ed : (u ^ a * d) % n = 1 % n := by
        rw [← Vf.inv_pow eu a]
        exact Vf.cg_mul rfl cd.symm
      have gd : Nat.gcd d.natAbs n.natAbs = 1 := by
        obtain ⟨N, rfl⟩ := Int.eq_ofNat_of_zero_le (show 0 ≤ n by omega)
        rw [Int.natAbs_natCast]
        exact Vf.open_of (u := u ^ a) ed
      refine ⟨d, n, rfl, nd, hn, fun _ t H6 t0 t1 et s6 => ?_, fun z => absurd gd z⟩
      have et2 : u ^ a % n = t := by
        have z := Vf.inv_one ed et
        rw [Int.emod_eq_of_lt t0 t1] at z
        exact z
      rw [et2]
      walk_at "gi"
      rw [decide_eq_true rfl]
      exact q _ (x5.trans (Same.toKx (by walk_at "vsame"))) ((k3.same (by walk_at "vsame")).mono (by omega))
end
section
variable {P : Program} {w : World} {K : PySem.W.Frag} {mg : Str → Option Value} {base : Heap}
def sp_right : Sp := fun vs H Q _ => ∃ k : Addr, vs = [.ref k] ∧ Mug 1 k H ∧ ∀ H', Kx k H H' → Q (.bl true) H'
theorem ok__law_right (T : Top K mg) : Ok P w K mg base 9 "_law_right" s__law_right ["_law_mug_here"] sp_right := by
  have G__law_sip := ok__law_sip (P := P) (w := w) (base := base) T
  have G__law_of := ok__law_of (P := P) (w := w) (base := base) T
  have G__law_great := ok__law_great (P := P) (w := w) (base := base) T
  have G__law_one_right := ok__law_one_right (P := P) (w := w) (base := base) T
  refine T.d__law_right.ok sc__law_right (fun vs H Q E h => ?_) (fun f cdv A outer s H vs Q E hg hr h => ?_)
  · obtain ⟨k, rfl, _⟩ := h
    rfl
  · obtain ⟨k, rfl, hk, q⟩ := h
    have E60 := e60
    have E59 := e59
    have E58 : (2 : Nat) ^ 58 = 288230376151711744 := by decide
    refine ⟨_, (pss_cons (ps_for (passes_of rfl) rfl (pi_range1 (by rfl) T.b_range (pa_cons pe_int pa_nil)) (pg_name (i := 1) sc__law_right.nd rfl (.inl rfl)) (pss_cons (ps_par (i := 2) (j := 3) (by rfl) sc__law_right.nd rfl rfl (by decide) rfl rfl (pa_cons (pe_op op_sub (pe_g G__law_sip (fun _ _ F => bd__law_sip F) hg (hr.mono (by decide)) passL (by rfl) (pa_cons (pv 0) (pa_cons pe_int pa_nil))) pe_int) (pa_cons (pe_op op_add pe_int (pe_g G__law_sip (fun _ _ F => bd__law_sip F) hg (hr.mono (by decide)) passL (by rfl) (pa_cons (pv 0) (pa_cons pe_int pa_nil)))) pa_nil)) (by rfl))
    (pss_cons (ps_if (pt_cmpR op_eqZ (pe_g G__law_sip (fun _ _ F => bd__law_sip F) hg (hr.mono (by decide)) passL (by rfl) (pa_cons (pv 0) (pa_cons pe_int pa_nil))) pe_int (nomark _)) (pss_one (ps_set (i := 2) sc__law_right.nd rfl (.inl rfl) (pe_op op_mulX (pe_g G__law_great (fun _ _ F => bd__law_great F) hg (hr.mono (by decide)) passL (by rfl) (pa_cons (pv 0) (pa_cons (pe_op op_pow pe_int pe_int) pa_nil))) (pe_g G__law_of (fun _ _ F => bd__law_of F) hg (hr.mono (by decide)) passL (by rfl) (pa_cons (pv 0) (pa_cons (pe_lst (pa_cons pe_int (pa_cons pe_int (pa_cons (pe_un un_neg pe_int) pa_nil)))) pa_nil)))))) pss_nil)
    (pss_cons (ps_if (pt_cmpR op_eqZ (pe_g G__law_sip (fun _ _ F => bd__law_sip F) hg (hr.mono (by decide)) passL (by rfl) (pa_cons (pv 0) (pa_cons pe_int pa_nil))) pe_int (nomark _)) (pss_one (ps_set (i := 3) sc__law_right.nd rfl (.inl rfl) (pe_op op_add pe_int (pe_g G__law_great (fun _ _ F => bd__law_great F) hg (hr.mono (by decide)) passL (by rfl) (pa_cons (pv 0) (pa_cons (pe_op op_sub (pe_op op_pow pe_int pe_int) pe_int) pa_nil)))))) pss_nil)
    (pss_one (ps_if (pt_not (pt_val (pe_g G__law_one_right (fun _ _ F => bd__law_one_right F) hg (hr.mono (by decide)) passL (by rfl) (pa_cons (pv 0) (pa_cons (pv 2) (pa_cons (pv 3) pa_nil)))))) (pss_one (ps_ret pe_bl)) pss_nil))))))
    (pss_one (ps_ret pe_bl))), ?_⟩
    walk_at "st"
    refine ⟨by decide, by decide, ?_⟩
    refine r_forR (fun i σ H' => ∃ a b c, σ = [some (.ref k), a, b, c] ∧ Mug (1 + 100 * i) k H' ∧ Kx k H H')
      ⟨none, none, none, rfl, hk, Kx.refl _⟩ (fun i σ H1 hi hP => ?_) (fun σ H1 hP => ?_)
    · obtain ⟨a, b, c, rfl, kk, xx⟩ := hP
      walk_at "go"
      refine i_sip (u := 99) _ kk (by omega) (by decide) (by decide) fun x H2 x0 x1 x2 k2 => ?_
      walk_at "go"
      refine i_sip (u := 60) _ k2 (by omega) (by decide) (by decide) fun n H3 n0 n1 x3 k3 => ?_
      walk_at "go"
      have x35 : Kx k H H3 := (xx.trans x2).trans x3
      have nx : Nr (x - 49) := by
        unfold Nr
        omega
      have bn : Ba (1 + n) := ⟨by omega, by omega⟩
      generalize x - 49 = x' at *
      generalize 1 + n = n' at *
      refine j_s (fun σ' H' => ∃ x', σ' = [some (.ref k), some (.int (0 + (i : Int))), some (.int x'), some (.int n')] ∧ Nr x' ∧ Mug (1 + 100 * i + 20) k H' ∧ Kx k H H') (fun nx' q' => ?_) (fun σ' H6 hM => ?_)
      · walk_at "gi"
        refine i_sip (u := 2) _ k3 (by omega) (by decide) (by decide) fun z H4 z0 z1 x4 k4 => ?_
        have x5 : Kx k H H4 := x35.trans x4
        walk_at "gi"
        refine ifd (fun c1 => ?_) (fun c1 => ?_)
        · walk_at "gi"
          refine r_rI ⟨by decide, by decide, by decide⟩ ?_
          walk_at "gi"
          refine i_great _ k4 (by omega) (by decide) fun g H5 hg1 x6 k5 => ?_
          walk_at "gi"
          refine i_of _ _ (k5.new (by assumption)) (by omega) (by exact k5.ne (by assumption)) (SqL.of upd_same) (by decide) (by decide) fun j y H6 hy x7 k6 => ?_
          have e40 : (10 : Int) ^ Int.toNat 40 = ((10 ^ 40 : Nat) : Int) := by decide
          rw [e40] at hg1
          have x8 : Kx k H H6 := ((x5.trans x6).trans (Same.toKx (Same.new (by assumption)))).trans x7
          have hw : ∃ e : Int, y = .int e ∧ (e = 1 ∨ e = -1) := by
            have z := List.mem_of_getElem? hy
            simp only [List.mem_cons, List.not_mem_nil, or_false] at z
            rcases z with rfl | rfl | rfl
            · exact ⟨1, rfl, .inl rfl⟩
            · exact ⟨1, rfl, .inl rfl⟩
            · exact ⟨-1, rfl, .inr rfl⟩
          obtain ⟨e, rfl, he⟩ := hw
          walk_at "gi"
          refine r_rI (bit_mul (a := 140) (b := 20) (bit_of (by omega)) (bit_of (by omega)) (by decide)) ?_
          walk_at "gi"
          refine q' _ _ ⟨_, rfl, ?_, k6.mono (by omega), x8⟩
          unfold Nr
          rcases he with rfl | rfl <;> omega
        · walk_at "gi"
          exact q' _ _ ⟨_, rfl, nx, k4.mono (by omega), x5⟩
      obtain ⟨x', rfl, nx, k6, x6⟩ := hM
      walk_at "go"
      refine j_s (fun σ' H' => ∃ n', σ' = [some (.ref k), some (.int (0 + (i : Int))), some (.int x'), some (.int n')] ∧ Ba n' ∧ Mug (1 + 100 * i + 40) k H' ∧ Kx k H H') (fun nx' q' => ?_) (fun σ' H8 hM => ?_)
      · walk_at "gi"
        refine i_sip (u := 2) _ k6 (by omega) (by decide) (by decide) fun z H7 z0 z1 x7 k7 => ?_
        have x8 : Kx k H H7 := x6.trans x7
        walk_at "gi"
        refine ifd (fun c1 => ?_) (fun c1 => ?_)
        · walk_at "gi"
          refine r_rI ⟨by decide, by decide, by decide⟩ ?_
          walk_at "gi"
          have e30 : (10 : Int) ^ Int.toNat 30 = 1000000000000000000000000000000 := by decide
          rw [e30]
          refine i_great _ k7 (by omega) (by decide) fun g H9 hg1 x9 k9 => ?_
          walk_at "gi"
          exact q' _ _ ⟨_, rfl, ⟨by omega, by omega⟩, k9.mono (by omega), x8.trans x9⟩
        · walk_at "gi"
          exact q' _ _ ⟨_, rfl, bn, k7.mono (by omega), x8⟩
      obtain ⟨n', rfl, bn, k8, x9⟩ := hM
      walk_at "gi"
      refine ⟨k, x', n', _, rfl, k8, by omega, nx, bn, fun H9 x10 k10 => ?_⟩
      walk_at "gi"
      exact ⟨k10.mono (by omega), x9.trans x10⟩
    · obtain ⟨a, b, c, rfl, kk, xx⟩ := hP
      walk_at "go"
      exact q _ xx
/-! ### the law -/
def sp_law (K : PySem.W.Frag) : Sp := fun vs H Q _ => ∃ (c : Addr) (ns : List Int), vs = [.ref c] ∧ SqL K H c (ns.map V.int) ∧ Script ns ∧ ∀ H', Q (.bl true) H'
theorem ok_law (T : Top K mg) : Ok P w K mg base 10 "law" s_law ["_law_cells"] (sp_law K) := by
  have G__law_right := ok__law_right (P := P) (w := w) (base := base) T
  have G__law_mug := ok__law_mug (P := P) (w := w) (base := base) T
  refine T.d_law.ok sc_law (fun vs H Q E h => ?_) (fun f cdv A outer s H vs Q E hg hr h => ?_)
  · obtain ⟨c, ns, rfl, _⟩ := h
    rfl
  · obtain ⟨c, ns, rfl, hs, hn, q⟩ := h
    refine ⟨_, (pss_one (ps_ret (pe_callB (id := "all") (c_all rfl rfl) (by rfl) T.b_all (by decide +kernel) (pa_cons (pe_lc (own := [("_law_k", 1)]) (by rfl) sc_law.nd (pi_range1 (by rfl) T.b_range (pa_cons pe_int pa_nil)) (blkOk_by (own := [("_law_k", 1)]) (N := ["_law_cells", "_law_k"]) (sc := defScope s_law) (by decide +kernel)) (fun _ _ _ _ _ => (pg_name (i := 1) sc_law.nd rfl (Or.inl rfl))) (fun _ _ _ _ _ => pts_nil) (fun _ _ _ _ _ => (pe_g G__law_right (fun _ _ F => bd__law_right F) hg (hr.mono (by decide)) passL (by rfl) (pa_cons (pe_g G__law_mug (fun _ _ F => bd__law_mug F) hg (hr.mono (by decide)) passL (by rfl) (pa_cons (pv 0) (pa_cons (pv 1) pa_nil))) pa_nil)))) pa_nil)))), ?_⟩
    walk_at "st"
    refine ⟨by decide, by decide, ?_⟩
    refine r_lcR (fun D i H' => Same H H' ∧ H' D = some (.lst ((List.replicate i true).map V.bl))) (fun D hD => ⟨Same.new hD, upd_same⟩) (fun D i H' hD hi hP => ?_) (fun D H' hD hP => ?_)
    · obtain ⟨s1, d1⟩ := hP
      walk_at "go"
      refine ⟨rfl, ?_⟩
      walk_at "go"
      rw [Int.zero_add]
      refine i_mug ns i (Same.list s1 hs) hn (by omega) fun p H2 s2 n2 k2 => ?_
      have npD : D ≠ p := ne_of_none d1 n2
      walk_at "go"
      refine ⟨p, rfl, k2, fun H3 x3 => ?_⟩
      have d3 : H3 D = some (.lst ((List.replicate i true).map V.bl)) := x3 _ _ npD (s2 _ _ d1)
      refine ⟨_, d3, ?_, fun b o e => ?_, ?_⟩
      · rw [List.length_map, List.length_replicate]
        exact Nat.lt_of_le_of_lt (show i ≤ 3 by omega) (by decide)
      · have nb : b ≠ D := ne_of_none e hD
        have e1 := s1 _ _ e
        rw [upd_ne nb]
        exact x3 _ _ (ne_of_none e1 n2) (s2 _ _ e1)
      · rw [upd_same, List.replicate_succ', List.map_append]
        rfl
    obtain ⟨s1, d1⟩ := hP
    refine r_all (SqL.of d1) ?_
    rw [show ∀ m : Nat, (List.replicate m true).all id = true from fun m => by simp]
    exact q _
end
end K51
open PySem PySem.W PyProof.Rows
set_option maxHeartbeats 0 in
theorem PySem.Challenge.cw_restworld_k51_whole_rests_of_powers_holds : PySem.Challenge.rw_restworld_k51_whole_rests_of_powers.Holds := by
  w_on; o_law; k_head; (case hw => w_witness2)
  k_fill
  refine Vf.walk_g (l := PySem.Challenge.rw_restworld_k51_whole_rests_of_powers) (n := 63) (k := 10) (y := "_law_cells") (st := K51.s_law) (sp := K51.sp_law) rfl (by decide) rfl ⟨rfl, by decide, by decide⟩ (fun w h Y => PySem.W.kIn_of Y) ?F (fun w f fd G => K51.bd_law G) (fun w H a ns hl hb hS => ⟨a, ns, rfl, hS, ⟨hl, hb⟩, fun _ => rfl⟩)
  case F =>
    intro w mg h KX G base kb gb
    refine' K51.ok_law (K51.top_mk KX G ?a0 ?l0 ?c0 ?k0 ?a1 ?l1 ?c1 ?k1 ?a2 ?l2 ?c2 ?k2 ?a3 ?l3 ?c3 ?k3 ?a4 ?l4 ?c4 ?k4 ?a5 ?l5 ?c5 ?k5 ?a6 ?l6 ?c6 ?k6 ?a7 ?l7 ?c7 ?k7 ?a8 ?l8 ?c8 ?k8 ?a9 ?l9 ?c9 ?k9 ?a10 ?l10 ?c10 ?k10 ?a11 ?l11 ?c11 ?k11 ?a12 ?l12 ?c12 ?k12 ?a13 ?l13 ?c13 ?k13 ?a14 ?l14 ?c14 ?k14 ?a15 ?l15 ?c15 ?k15 ?a16 ?l16 ?c16 ?k16 ?a17 ?l17 ?c17 ?k17 ?a18 ?l18 ?c18 ?k18 ?a19 ?l19 ?c19 ?k19 ?a20 ?l20 ?c20 ?k20 ?m_gcd ?q_MOST_NUMBER ?q_MOST_FACT ?b_abs ?b_all ?b_bool ?b_divmod ?b_int ?b_isinstance ?b_len ?b_min ?b_range ?b_repr ?b_str ?g_NotOpen ?l_NotOpen ?t_NotOpen ?s_NotOpen ?ga_NotOpen ?gg_NotOpen ?b_NotOpen ?h_NotOpen ?ty_NotOpen ?kp_NotOpen ?n_NotOpen_given ?i_NotOpen ?ti_NotOpen ?li_NotOpen ?ci_NotOpen ?ki_NotOpen ?e_NotOpen_NotOpen)
    (case a0 => k_is)
    (case l0 => k_is)
    (case c0 => k_is)
    (case k0 => k_is)
    (case a1 => k_is)
    (case l1 => k_is)
    (case c1 => k_is)
    (case k1 => k_is)
    (case a2 => k_is)
    (case l2 => k_is)
    (case c2 => k_is)
    (case k2 => k_is)
    (case a3 => k_is)
    (case l3 => k_is)
    (case c3 => k_is)
    (case k3 => k_is)
    (case a4 => k_is)
    (case l4 => k_is)
    (case c4 => k_is)
    (case k4 => k_is)
    (case a5 => k_is)
    (case l5 => k_is)
    (case c5 => k_is)
    (case k5 => k_is)
    (case a6 => k_is)
    (case l6 => k_is)
    (case c6 => k_is)
    (case k6 => k_is)
    (case a7 => k_is)
    (case l7 => k_is)
    (case c7 => k_is)
    (case k7 => k_is)
    (case a8 => k_is)
    (case l8 => k_is)
    (case c8 => k_is)
    (case k8 => k_is)
    (case a9 => k_is)
    (case l9 => k_is)
    (case c9 => k_is)
    (case k9 => k_is)
    (case a10 => k_is)
    (case l10 => k_is)
    (case c10 => k_is)
    (case k10 => k_is)
    (case a11 => k_is)
    (case l11 => k_is)
    (case c11 => k_is)
    (case k11 => k_is)
    (case a12 => k_is)
    (case l12 => k_is)
    (case c12 => k_is)
    (case k12 => k_is)
    (case a13 => k_is)
    (case l13 => k_is)
    (case c13 => k_is)
    (case k13 => k_is)
    (case a14 => k_is)
    (case l14 => k_is)
    (case c14 => k_is)
    (case k14 => k_is)
    (case a15 => k_is)
    (case l15 => k_is)
    (case c15 => k_is)
    (case k15 => k_is)
    (case a16 => k_is)
    (case l16 => k_is)
    (case c16 => k_is)
    (case k16 => k_is)
    (case a17 => k_is)
    (case l17 => k_is)
    (case c17 => k_is)
    (case k17 => k_is)
    (case a18 => k_is)
    (case l18 => k_is)
    (case c18 => k_is)
    (case k18 => k_is)
    (case a19 => k_is)
    (case l19 => k_is)
    (case c19 => k_is)
    (case k19 => k_is)
    (case a20 => k_is)
    (case l20 => k_is)
    (case c20 => k_is)
    (case k20 => k_is)
    (case m_gcd => k_is)
    (case q_MOST_NUMBER => k_is)
    (case q_MOST_FACT => k_is)
    (case b_abs => k_is)
    (case b_all => k_is)
    (case b_bool => k_is)
    (case b_divmod => k_is)
    (case b_int => k_is)
    (case b_isinstance => k_is)
    (case b_len => k_is)
    (case b_min => k_is)
    (case b_range => k_is)
    (case b_repr => k_is)
    (case b_str => k_is)
    (case g_NotOpen => k_is)
    (case l_NotOpen => k_is)
    (case t_NotOpen => decide +kernel)
    (case s_NotOpen => k_is)
    (case ga_NotOpen => k_is)
    (case gg_NotOpen => k_is)
    (case b_NotOpen => k_is)
    (case h_NotOpen => k_is)
    (case ty_NotOpen => k_is)
    (case kp_NotOpen => k_is)
    (case n_NotOpen_given => k_is)
    (case i_NotOpen => k_is)
    (case ti_NotOpen => k_is)
    (case li_NotOpen => k_is)
    (case ci_NotOpen => k_is)
    (case ki_NotOpen => k_is)
    (case e_NotOpen_NotOpen => k_is)

