import PyProof.Rows.All
import Wide.All
import OpenK.AllK
import Wide.FinOn
import HandS.ForMost
import HandS.WideBits
import HandS.WideMore
import HandS.Gcd
import HandS.IsInst
import HandS.EndBits
import HandS.WordsExc
import HandS.Style
import PyProof.ReprRoads
import HandS.Zip
import HandS.Zip0
import PyProof.EnumMake
import PyProof.Draws
import PyProof.AutoIntOps
import HandS.Conv
import KE.GoesZip
import KE.GoesMore
import HandS.Rev
import HandS.TupAny
import PySem.Challenge.RW_restworld_k34_whole_tables_of_sums
set_option Elab.async false
set_option linter.all false
set_option maxRecDepth 100000
set_option maxHeartbeats 2000000
set_option exponentiation.threshold 256
namespace Vf
open PySem PySem.Spec PyProof.Rows L2

/-! ## a def of the text, known by its name, with its promise; entered only where no repr is under way -/
structure Ok (P : Program) (w : World) (K : PySem.W.Frag) (mg : Str → Option Value) (base : Heap) (k : Nat) (x : Str) (st : Stmt) (ps : List Str) (sp : Sp) : Prop where
  mk ::
  ex : ∃ f fd, L2.Fun K x x st f fd ∧ mg x = some (.ref f) ∧
    (∀ (A : Around) (outer : List Env) (s : Shared) (H : Hp) (args : Args) (us : List Value) (vs : List V) (Q : VK) (E : XK),
      A.guards = some [] → Room k A → Env0 P w K mg base A outer s H → BindsTo s fd args (ps.zip us) → Vals vs us → sp vs H Q E →
        codeAny (model P w) A (.call (.ref f) args) (CR (CX P w) outer P w H s Q E) s)
  len : ∀ vs H Q E, sp vs H Q E → vs.length = ps.length

/-- where a def of the text stands -/
def At (K : PySem.W.Frag) (mg : Str → Option Value) (x : Str) (st : Stmt) : Prop :=
  ∃ f fd, L2.Fun K x x st f fd ∧ mg x = some (.ref f)

section
variable {P : Program} {w : World} {K : PySem.W.Frag} {mg : Str → Option Value} {base : Heap} {k j : Nat} {x : Str} {st : Stmt} {ps N : List Str} {sp sp' : Sp}
theorem Ok.mono (G : Ok P w K mg base j x st ps sp) (h : j ≤ k) : Ok P w K mg base k x st ps sp := by
  obtain ⟨⟨f, fd, F, g, r⟩, l⟩ := G
  exact ⟨⟨f, fd, F, g, fun A outer s H args us vs Q E hg hr => r A outer s H args us vs Q E hg (hr.mono h)⟩, l⟩
theorem Ok.imp (G : Ok P w K mg base k x st ps sp) (h : ∀ vs H Q E, sp' vs H Q E → sp vs H Q E) : Ok P w K mg base k x st ps sp' := by
  obtain ⟨⟨f, fd, F, g, r⟩, l⟩ := G
  exact ⟨⟨f, fd, F, g, fun A outer s H args us vs Q E hg hr he hb hv hs => r A outer s H args us vs Q E hg hr he hb hv (h _ _ _ _ hs)⟩, fun vs H Q E q => l vs H Q E (h _ _ _ _ q)⟩

/-- the rule for a def: the term of its body, then its reading -/
theorem At.ok (a : At K mg x st) (S : FnScope N ps (defScope st)) (len : ∀ vs H Q E, sp vs H Q E → vs.length = ps.length)
    (hbody : ∀ (f : Addr) (cdv : Value) (A : Around) (outer : List Env) (s : Shared) (H : Hp) (vs : List V) (Q : VK) (E : XK),
      (A.deeper (envOfC x (defScope st) s.heap.objs.size f cdv)).guards = some [] →
      Room k (A.deeper (envOfC x (defScope st) s.heap.objs.size f cdv)) → sp vs H Q E →
      ∃ t, PSs (cxOf (CX P w) P w K mg base N x (defScope st) f cdv A outer s H E) (defBody st) t ∧
        t { nx := fun _ H' => Q .non H', rt := Q } (L2.start N vs) H) : Ok P w K mg base (k + 1) x st ps sp := by
  obtain ⟨f, fd, F, g⟩ := a
  have F2 := F
  obtain ⟨⟨oc, od, kV, doc, pm, an, cdv, ct, osl, rfl, lk, hcd⟩, kp⟩ := F
  refine ⟨⟨f, _, F2, g, fun A outer s H args us vs Q E hg hr e0 hb r hsp => ?_⟩, len⟩
  have hl := len _ _ _ _ hsp
  have stay : ∀ b o, base.get? b = some o → s.heap.get? b = some o := fun b o e => (e0.bs b o e).1
  have KX : K.In s.heap := e0.mod.kin.keeps stay
  have lim : s.heap.NoLimit := e0.mod.nolimit.keeps stay
  refine codeAny_call_function hr.depth (KX _ _ lk) rfl S.co S.gen rfl
    (PySem.W.codeRec_of KX hcd) (hb _ _ _ _ ?_)
  refine wpAny_newFunctionEnv_cells S.kind (fun ⟨n, v⟩ hy => ?_) fun env he s1 x1 => ?_
  · rcases S.par n (List.of_mem_zip hy).1 with q | q
    · exact Or.inl q
    · exact Or.inr ⟨q, PySem.W.cellsFrom_some _ _ _ (Or.inl q)⟩
  subst he
  refine ⟨lim.keeps x1.toInCall.keep, codeAny_func ?_⟩
  obtain ⟨t, ht, hq⟩ := hbody f cdv A outer s H vs Q E hg (hr.deeper _) hsp
  have I := inv_start (CX := CX P w) (E := E) S hr.hd e0 hl r x1
  refine wpAny_mono (ht.run [] s1 _ H _ I hq) (fun fl s' hs => ?_) fun e s' hs => hs
  cases fl with
  | ret u =>
    obtain ⟨v, σ', H', J, rv, q⟩ := hs
    exact ⟨v, H', J.os, J.bare, J.base, J.hok, rv, q⟩
  | next =>
    obtain ⟨σ', H', J, q⟩ := hs
    exact ⟨V.non, H', J.os, J.bare, J.base, J.hok, rfl, q⟩
  | brk =>
    obtain ⟨_, _, _, z⟩ := hs
    exact (show False from z).elim
  | cont =>
    obtain ⟨_, _, _, z⟩ := hs
    exact (show False from z).elim
end

section
variable {X : Cx} {k : Nat} {ps ks : List Str} {sp : Sp} {E : XK} {x : Str} {st : Stmt} {p pos : Pos} {e : Expr} {es : List Expr} {kws : List Keyword} {t tk : TA}
/-- the callee runs -/
theorem run_g {pins : List (Addr × Obj)} {σ : L2.St} {H : Hp} {s : Shared} {Q : VK} {us : List Value} {vs : List V} {f : Addr} {fd : FuncData} {args : Args}
    (r : ∀ (A : Around) (outer : List Env) (s : Shared) (H : Hp) (args : Args) (us : List Value) (vs : List V) (Q : VK) (E : XK),
      A.guards = some [] → Room k A → Env0 X.prog X.w X.K X.mg X.base A outer s H → BindsTo s fd args (ps.zip us) → Vals vs us → sp vs H Q E →
        codeAny (model X.prog X.w) A (.call (.ref f) args) (CR (CX X.prog X.w) outer X.prog X.w H s Q E) s)
    (hg : X.A.guards = some []) (hr : Room k X.A) (hx : Passes (CX X.prog X.w) X E)
    (I : Inv X pins σ H s) (hb : BindsTo s fd args (ps.zip us)) (hv : Vals vs us) (h : sp vs H Q E) :
    codeAny (model X.prog X.w) X.A (.call (.ref f) args)
      (fun r s' => match r with | .ok (.ret u) => EP X pins σ Q u s' | .ok _ => False | .error e => X.xe e s') s := by
  refine codeAny_mono (r X.A X.stack s H args us vs Q E hg hr I.env0 hb hv h) fun r s' hq => ?_
  cases r with
  | error e => exact hx pins σ H s e s' I hq
  | ok fl =>
    cases fl with
    | ret u => exact I.after hq
    | next => exact hq
    | brk => exact hq
    | cont => exact hq

/-- f(e, ..), every parameter given by its place -/
theorem pe_g (G : Ok X.prog X.w X.K X.mg X.base k x st ps sp) (b : ∀ f fd, L2.Fun X.K x x st f fd → L2.Binds X.K fd ps [])
    (hg : X.A.guards = some []) (hr : Room k X.A) (hx : Passes (CX X.prog X.w) X E) (gl : Gl X x) (ha : PA X (e :: es) t)
    (hdb : (x == ("__debug__" : Str)) = false := by decide)
    (he : starEach (e :: es) X.env = (false, eval e X.env) :: starEach es X.env := by rfl)
    (hpl : (backTo pos (starEach es X.env)).any (·.1) = false := by rfl) :
    PE X (.Call (.Name x p) (e :: es) [] pos) (tCall sp [] E t) := by
  obtain ⟨⟨f, fd, F, hm, r⟩, l⟩ := G
  refine ⟨fun pins s σ H Q I h => ?_⟩
  refine wpAny_Call_Name_kw (ld_glob I gl hm ?_ hdb)
  refine PySem.W.callWith_K (h₀ := X.base) I.ok.mod.kin F.kp
    (thn (ha.run pos pins s σ H _ I h) fun us s1 ⟨vs, H1, I1, r1, q⟩ => ⟨I1.kIn, ?_⟩) he hpl
  have q1 : sp (vs ++ []) H1 Q E := q
  rw [List.append_nil] at q1
  have hl : us.length = ps.length := by rw [← r1.length]; exact l _ _ _ _ q1
  have bb := b f fd F s1 us I1.kIn (by rw [List.append_nil]; exact hl)
  rw [List.append_nil] at bb
  refine wpAny_call (codeAny_mono (run_g r hg hr hx I1 bb r1 q1) fun z s' hz => ?_)
  cases z with
  | error e => exact hz
  | ok fl => cases fl <;> exact hz
/-- f(.., k = v) -/
theorem pe_gk {gf : List Value → List Value → List Value} {gV : List V → List V → List V} (G : Ok X.prog X.w X.K X.mg X.base k x st ps sp)
    (b : ∀ f fd, L2.Fun X.K x x st f fd → KBinds X.K fd ps ks gf gV)
    (hg : X.A.guards = some []) (hr : Room k X.A) (hx : Passes (CX X.prog X.w) X E) (gl : Gl X x) (ha : PA X (e :: es) t) (hkw : PK X kws tk)
    (hall : (backToKw pos (keywordEach kws X.env)).all (·.1.isSome) = true := by rfl)
    (hks : (backToKw pos (keywordEach kws X.env)).filterMap (·.1) = ks := by rfl) (hdb : (x == ("__debug__" : Str)) = false := by decide)
    (he : starEach (e :: es) X.env = (false, eval e X.env) :: starEach es X.env := by rfl)
    (hpl : ((backTo pos (starEach (e :: es) X.env)).any (·.1) || (backToKw pos (keywordEach kws X.env)).any (·.1.isNone)) = false := by rfl) :
    PE X (.Call (.Name x p) (e :: es) kws pos) (tCallK sp gV E t tk) := by
  obtain ⟨⟨f, fd, F, hm, r⟩, l⟩ := G
  refine ⟨fun pins s σ H Q I h => ?_⟩
  refine wpAny_Call_Name_kw (ld_glob I gl hm ?_ hdb)
  refine PySem.W.callWith_KW (h₀ := X.base) I.ok.mod.kin F.kp hall
    (thn (ha.run pos pins s σ H _ I h) fun us s1 ⟨vs, H1, I1, r1, q⟩ => ?_) hpl he
  refine thn (hkw.run pos pins s1 σ H1 _ I1 q) fun ws s2 ⟨zs, H2, I2, rz, q2⟩ => ⟨I2.kIn, ?_⟩
  rw [hks]
  have B := b f fd F
  have r2 := B.rel r1 rz
  have hl : (gf us ws).length = ps.length := by rw [← r2.length]; exact l _ _ _ _ q2
  refine wpAny_call (codeAny_mono (run_g r hg hr hx I2 (B.to s2 us ws I2.kIn hl) r2 q2) fun z s' hz => ?_)
  cases z with
  | error e => exact hz
  | ok fl => cases fl <;> exact hz
/-- f(k = v, ..): keywords alone -/
theorem pe_gk0 {gf : List Value → List Value → List Value} {gV : List V → List V → List V} (G : Ok X.prog X.w X.K X.mg X.base k x st ps sp)
    (b : ∀ f fd, L2.Fun X.K x x st f fd → KBinds X.K fd ps ks gf gV)
    (hg : X.A.guards = some []) (hr : Room k X.A) (hx : Passes (CX X.prog X.w) X E) (gl : Gl X x) (hkw : PK X kws tk)
    (hall : (backToKw pos (keywordEach kws X.env)).all (·.1.isSome) = true := by rfl)
    (hks : (backToKw pos (keywordEach kws X.env)).filterMap (·.1) = ks := by rfl) (hdb : (x == ("__debug__" : Str)) = false := by decide)
    (hpl : ((backTo pos (starEach [] X.env)).any (·.1) || (backToKw pos (keywordEach kws X.env)).any (·.1.isNone)) = false := by rfl) :
    PE X (.Call (.Name x p) [] kws pos) (tCallK sp gV E tNil tk) := by
  obtain ⟨⟨f, fd, F, hm, r⟩, l⟩ := G
  refine ⟨fun pins s σ H Q I h => ?_⟩
  refine wpAny_Call_Name_kw (ld_glob I gl hm ?_ hdb)
  refine PySem.W.callWith_KW0 (h₀ := X.base) I.ok.mod.kin F.kp hall
    (thn (hkw.run pos pins s σ H _ I h) fun ws s2 ⟨zs, H2, I2, rz, q2⟩ => ⟨I2.kIn, ?_⟩) hpl
  rw [hks]
  have B := b f fd F
  have r2 := B.rel .nil rz
  have hl : (gf [] ws).length = ps.length := by rw [← r2.length]; exact l _ _ _ _ q2
  refine wpAny_call (codeAny_mono (run_g r hg hr hx I2 (B.to s2 [] ws I2.kIn hl) r2 q2) fun z s' hz => ?_)
  cases z with
  | error e => exact hz
  | ok fl => cases fl <;> exact hz
/-- f() -/
theorem pe_g0 (G : Ok X.prog X.w X.K X.mg X.base k x st ps sp) (b : ∀ f fd, L2.Fun X.K x x st f fd → L2.Binds X.K fd ps [])
    (hg : X.A.guards = some []) (hr : Room k X.A) (hx : Passes (CX X.prog X.w) X E) (gl : Gl X x)
    (hdb : (x == ("__debug__" : Str)) = false := by decide) : PE X (.Call (.Name x p) [] [] pos) (tCall sp [] E tNil) := by
  obtain ⟨⟨f, fd, F, hm, r⟩, l⟩ := G
  refine ⟨fun pins s σ H Q I h => ?_⟩
  refine wpAny_Call_Name_kw (ld_glob I gl hm ?_ hdb)
  have q1 : sp [] H Q E := h
  have bb := b f fd F s [] I.kIn (by rw [List.append_nil]; have := l _ _ _ _ q1; exact this)
  rw [List.append_nil] at bb
  refine PySem.W.callWith_K0 I.kIn F.kp (wpAny_call (codeAny_mono (run_g r hg hr hx I bb .nil q1) fun z s' hz => ?_))
  cases z with
  | error e => exact hz
  | ok fl => cases fl <;> exact hz
end
end Vf

namespace Vf
open PySem PySem.Spec PyProof.Rows L2
/-! ## more rules -/
theorem Dp.noDict {K : PySem.W.Frag} {H : Hp} : ∀ (d : PyData) (v : V), Dp K H v d → d.hasDict = false
  | .none, _, _ => rfl
  | .bool _, _, _ => rfl
  | .int _, _, _ => rfl
  | .str _, _, _ => rfl
  | .list ds, _, h => by
    cases h with
    | lst _ ha => exact DpAllN ds _ ha
  | .tuple ds, _, h => by
    cases h with
    | tup _ ha => exact DpAllN ds _ ha
  | .dict _, _, h => by cases h
where
  DpAllN {K : PySem.W.Frag} {H : Hp} : ∀ (ds : List PyData) (vs : List V), DpAll K H vs ds → PyData.hasDictAll ds = false
  | [], _, _ => rfl
  | d :: ds, _, h => by
    cases h with
    | cons h1 h2 =>
      have e1 := Dp.noDict d _ h1
      have e2 := DpAllN ds _ h2
      simp only [PyData.hasDictAll, e1, e2, Bool.or_self]
section
variable {X : Cx}
/-- repr of a list or a tuple of data -/
def rRepr (K : PySem.W.Frag) : List V → Hp → VK → Prop := fun xs H Q => ∃ (a : Addr) (d : PyData), xs = [.ref a] ∧ Dp K H (.ref a) d ∧ d.showable = true ∧
  d.depth ≤ 40 ∧ d.shown.length ≤ sizeLine ∧ Q (.str d.shown) H
theorem cr_repr (hg : X.A.guards = some []) (hu : X.A.units + 64 < cLine) : CallR X (.builtin "repr") (rRepr X.K) := by
  intro pins s σ H xs us Q I r h
  obtain ⟨a, d, rfl, hd, hs, hdp, hz, q⟩ := h
  have e := Vals.ref1 r
  subst e
  obtain ⟨as, rd⟩ := Dp.reads I d _ (.ref a) hd rfl
  refine repr_of_reads' rd hs (fun z => ?_) hg (by omega) (fun _ _ z => z) (fun h' u tk k => ⟨.str d.shown, H, I.kept k, ⟨_, rfl⟩, q⟩) hz
  rw [Dp.noDict d _ hd] at z
  cases z
/-- math.lcm of two ints -/
def rLcm : List V → Hp → VK → Prop := fun vs H Q => ∃ a b : Int, vs = [.int a, .int b] ∧ a.natAbs < 2 ^ 9000 ∧ b.natAbs < 2 ^ 9000 ∧ Q (.int ((Nat.lcm a.natAbs b.natAbs : Nat) : Int)) H
theorem log_lim {n k : Nat} (h : n < 2 ^ k) (hk : 0 < k) : n.log2 < k := PySem.Flt.log2_lt_of hk h
theorem cr_lcm : CallR X (.builtin "math.lcm") rLcm := by
  intro pins s σ H vs us Q I r h
  obtain ⟨a, b, rfl, ha, hb, q⟩ := h
  obtain ⟨t, u, rfl⟩ := Vals.int2 r
  have h1 : (max 1 a.natAbs).log2 < 9000 := log_lim (Nat.max_lt.mpr ⟨Nat.one_lt_two_pow (by decide), ha⟩) (by decide)
  have h2 : (max a.natAbs b.natAbs).log2 < 9000 := log_lim (Nat.max_lt.mpr ⟨ha, hb⟩) (by decide)
  have e1 : Nat.lcm 1 a.natAbs = a.natAbs := Nat.lcm_one_left _
  have hz : (((Nat.lcm 1 a.natAbs).lcm b.natAbs : Nat) : Int).natAbs.log2 < bitsLine := by
    rw [e1, Int.natAbs_natCast]
    have hl : Nat.lcm a.natAbs b.natAbs ≤ a.natAbs * b.natAbs := by
      rcases Nat.eq_zero_or_pos (a.natAbs * b.natAbs) with z | z
      · have : Nat.lcm a.natAbs b.natAbs = 0 := by unfold Nat.lcm; rw [z]; exact Nat.zero_div _
        omega
      · exact Nat.le_of_dvd z (Nat.lcm_dvd (Nat.dvd_mul_right _ _) (Nat.dvd_mul_left _ _))
    have hm : a.natAbs * b.natAbs < 2 ^ 18000 := by
      have := Nat.mul_lt_mul'' ha hb
      rw [← Nat.pow_add] at this
      exact this
    have : Nat.log2 (Nat.lcm a.natAbs b.natAbs) < 18000 := log_lim (Nat.lt_of_le_of_lt hl hm) (by decide)
    have e : bitsLine = 134217728 := by decide
    omega
  have g := PySem.W.mg_run_lcm a t b u (by omega) (by omega) hz
  rw [e1] at g
  exact call_function_meets PySem.W.MGF.kind_lcm PySem.W.MGF.plain_lcm PySem.W.MGF.entry_lcm (PySem.W.MGF.args_lcm _ _) g.meets ⟨.int _, H, I.tok _, ⟨_, rfl⟩, q⟩

/-- // by any divisor of fewer than 9000 bits -/
def CDivG (_ j : Int) : Prop := j ≠ 0 ∧ j.natAbs < 2 ^ 9000
theorem op_fdivG : OpR X (binaryOp .FloorDiv) (rI CDivG fun i j => .int (i.fdiv j)) :=
  opI fun i j _ _ _ _ _ hc q => floordiv_int hc.1 q (.inl (PyProof.noPylong_of_log2 (log_lim hc.2 (by decide))))
/-- == and != of two ints -/
theorem op_eqZ : OpR X (compareOp .Eq) (rI0 fun i j => .bl (decide (i = j))) := by
  intro pins s σ H x y u v Q I rx ry h
  obtain ⟨i, j, rfl, rfl, q⟩ := h
  refine op_eq pins s σ H _ _ u v Q I rx ry ⟨rfl, ?_⟩
  have e : decide (V.int i = V.int j) = decide (i = j) := by
    by_cases z : i = j
    · subst z; simp
    · simp [z]
  rw [e]
  exact q
theorem op_neZ : OpR X (compareOp .NotEq) (rI0 fun i j => .bl (!decide (i = j))) := by
  intro pins s σ H x y u v Q I rx ry h
  obtain ⟨i, j, rfl, rfl, q⟩ := h
  refine op_ne pins s σ H _ _ u v Q I rx ry ⟨rfl, ?_⟩
  have e : decide (V.int i = V.int j) = decide (i = j) := by
    by_cases z : i = j
    · subst z; simp
    · simp [z]
  rw [e]
  exact q
/-- == and != of two texts -/
theorem op_eqS : OpR X (compareOp .Eq) (fun x y H Q => ∃ i j, x = .str i ∧ y = .str j ∧ Q (.bl (decide (i = j))) H) := by
  intro pins s σ H x y u v Q I rx ry h
  obtain ⟨i, j, rfl, rfl, q⟩ := h
  refine op_eq pins s σ H _ _ u v Q I rx ry ⟨rfl, ?_⟩
  have e : decide (V.str i = V.str j) = decide (i = j) := by
    by_cases z : i = j
    · subst z; simp
    · simp [z]
  rw [e]
  exact q
theorem op_neS : OpR X (compareOp .NotEq) (fun x y H Q => ∃ i j, x = .str i ∧ y = .str j ∧ Q (.bl (!decide (i = j))) H) := by
  intro pins s σ H x y u v Q I rx ry h
  obtain ⟨i, j, rfl, rfl, q⟩ := h
  refine op_ne pins s σ H _ _ u v Q I rx ry ⟨rfl, ?_⟩
  have e : decide (V.str i = V.str j) = decide (i = j) := by
    by_cases z : i = j
    · subst z; simp
    · simp [z]
  rw [e]
  exact q
/-- a module's int -/
theorem pe_gi {x : Str} {i : Int} {pos : Pos} (hm : ∃ t, X.mg x = some (.int i t)) (hg : Gl X x) (hd : (x == ("__debug__" : Str)) = false := by decide) : PE X (.Name x pos) (tC (.int i)) := by
  obtain ⟨t, hm⟩ := hm
  exact pe_glob hg hm ⟨t, rfl⟩ hd
end
/-! ## the rules by the written part K alone, each with a name for its reading -/
def rLenQ (K : PySem.W.Frag) : List V → Hp → VK → Prop := fun xs H Q => ∃ p ys, xs = [.ref p] ∧ (SqL K H p ys ∨ SqT K H p ys) ∧ Q (.int ys.length) H
def rLenStr : List V → Hp → VK → Prop := fun xs H Q => ∃ z, xs = [.str z] ∧ z.length ≤ sizeLine ∧ Q (.int z.length) H
def rListQ (K : PySem.W.Frag) : List V → Hp → VK → Prop := fun xs H Q => ∃ p ys, xs = [.ref p] ∧ (SqL K H p ys ∨ SqT K H p ys) ∧ ∀ l, H l = none → Q (.ref l) (upd H l (.lst ys))
def rTupQ (K : PySem.W.Frag) : List V → Hp → VK → Prop := fun xs H Q => ∃ p ys, xs = [.ref p] ∧ ((SqL K H p ys ∧ ∀ l, H l = none → Q (.ref l) (upd H l (.tup ys))) ∨ (SqT K H p ys ∧ Q (.ref p) H))
def rAbs : List V → Hp → VK → Prop := fun xs H Q => ∃ i, xs = [.int i] ∧ Q (.int (if i < 0 then -i else i)) H
def rMax2 : List V → Hp → VK → Prop := fun xs H Q => ∃ i j, xs = [.int i, .int j] ∧ Q (.int (if j > i then j else i)) H
def rMin2 : List V → Hp → VK → Prop := fun xs H Q => ∃ i j, xs = [.int i, .int j] ∧ Q (.int (if j < i then j else i)) H
def rInt1 : List V → Hp → VK → Prop := fun xs H Q => (∃ i, xs = [.int i] ∧ Q (.int i) H) ∨ ∃ k, xs = [.bl k] ∧ Q (.int (if k then 1 else 0)) H
def rDivmod : List V → Hp → VK → Prop := fun xs H Q => ∃ i j, xs = [.int i, .int j] ∧ CDivP i j ∧ ∀ p, H p = none → Q (.ref p) (upd H p (.tup [.int (i / j), .int (i % j)]))
section
variable {X : Cx} {K : PySem.W.Frag}
theorem c_len (e : X.K = K) : CallR X (.builtin "len") (rLenQ K) := by subst e; exact call_len_seq
theorem c_lenS : CallR X (.builtin "len") rLenStr := call_len_str
theorem c_list (e : X.K = K) : CallR X (.type "list") (rListQ K) := by subst e; exact call_list_of
theorem c_tuple (e : X.K = K) : CallR X (.type "tuple") (rTupQ K) := by subst e; exact call_tuple_of
theorem c_abs : CallR X (.builtin "abs") rAbs := call_abs
theorem c_max2 (h : X.calm = true) : CallR X (.builtin "max") rMax2 := call_max2 h
theorem c_min2 (h : X.calm = true) : CallR X (.builtin "min") rMin2 := call_min2 h
theorem c_int : CallR X (.type "int") rInt1 := call_int1
theorem c_divmod : CallR X (.builtin "divmod") rDivmod := call_divmodW
theorem c_isi (e : X.K = K) : CallR X (.builtin "isinstance") (rIsi K) := by subst e; exact call_isi
theorem c_repr (e : X.K = K) (hg : X.A.guards = some []) (hu : X.A.units + 64 < cLine) : CallR X (.builtin "repr") (rRepr K) := by subst e; exact cr_repr hg hu
theorem c_all (e : X.K = K) (h : X.calm = true) : CallR X (.builtin "all") (rAll K) := by subst e; exact cr_all h
theorem c_any (e : X.K = K) (h : X.calm = true) : CallR X (.builtin "any") (rAny K) := by subst e; exact cr_any h
theorem c_sum (e : X.K = K) (h : X.calm = true) : CallR X (.builtin "sum") (rSum K) := by subst e; exact cr_sum h
theorem c_maxL (e : X.K = K) (h : X.calm = true) : CallR X (.builtin "max") (rMax K) := by subst e; exact cr_max h
theorem c_minL (e : X.K = K) (h : X.calm = true) : CallR X (.builtin "min") (rMin K) := by subst e; exact cr_min h
theorem x_list (e : X.K = K) : IxR X (rIxL K) := by subst e; exact ix_list
theorem x_tup (e : X.K = K) : IxR X (rIxT K) := by subst e; exact ix_tup
theorem o_eqD (e : X.K = K) (hu : X.A.units + 64 < cLine) : OpR X (compareOp .Eq) (rEqD K) := by subst e; exact op_eqD hu
theorem o_neD (e : X.K = K) (hu : X.A.units + 64 < cLine) : OpR X (compareOp .NotEq) (rNeD K) := by subst e; exact op_neD hu
theorem o_in (e : X.K = K) : OpR X (compareOp .In) (rIn K false) := by subst e; exact op_in_seq
theorem o_notIn (e : X.K = K) : OpR X (compareOp .NotIn) (rIn K true) := by subst e; exact op_notIn_seq
theorem o_catT (e : X.K = K) : OpR X (binaryOp .Add) (rCatT K) := by subst e; exact op_catT
theorem s_list (e : X.K = K) : SlR X (rSlL K) := by subst e; exact sl_list
theorem s_tup (e : X.K = K) : SlR X (rSlT K) := by subst e; exact sl_tup
theorem i_list {tg l : Expr} {tl : TE} (e : X.K = K) (hl : PE X l tl) : PI X tg l (iList K tl) := by subst e; exact pi_list hl
theorem i_tup' {tg l : Expr} {tl : TE} (e : X.K = K) (hl : PE X l tl) : PI X tg l (iTup K tl) := by subst e; exact pi_tup hl
theorem g_tup {es : List Expr} {k : Nat} {t : TGs} {n : Nat} {pos : Pos} (e : X.K = K) (hc : X.calm = true) (h : PGs X es t) (hn : (assignEach es X.env).length = n)
    (hst : (assignEach es X.env).findIdx? (·.1) = none) : PG X (.Tuple es k pos) (gTup K n t) := by
  subst e
  exact pg_tup hc h hn hst
end
end Vf

namespace Vf
open PySem PySem.Spec PyProof.Rows L2
/-! ## heaps -/
/-- all but what stands at k is as it was -/
def Kx (k : Addr) (H H' : Hp) : Prop := ∀ b o, b ≠ k → H b = some o → H' b = some o
theorem Kx.refl {k : Addr} (H : Hp) : Kx k H H := fun _ _ _ h => h
theorem Kx.trans {k : Addr} {H H1 H2 : Hp} (a : Kx k H H1) (b : Kx k H1 H2) : Kx k H H2 := fun c o n h => b c o n (a c o n h)
theorem Kx.same {k : Addr} {H H1 H2 : Hp} (a : Kx k H H1) (b : Same H1 H2) : Kx k H H2 := fun c o n h => b c o (a c o n h)
theorem Same.kx {k : Addr} {H H1 H2 : Hp} (a : Same H H1) (b : Kx k H1 H2) : Kx k H H2 := fun c o n h => b c o n (a c o h)
theorem Same.toKx {k : Addr} {H H1 : Hp} (a : Same H H1) : Kx k H H1 := fun c o _ h => a c o h
theorem Same.new {H : Hp} {p : Addr} {o : HO} (h : H p = none) : Same H (upd H p o) := fun a u e => by
  rw [upd_ne (ne_of_none e h)]
  exact e
theorem Kx.upd {H : Hp} {k : Addr} {o : HO} : Kx k H (upd H k o) := fun a u n e => by
  rw [upd_ne n]
  exact e
theorem at_new {H : Hp} {a p : Addr} {o u : HO} (h : H p = none) (e : H a = some u) : upd H p o a = some u := Same.new h a u e
theorem at_ne {H : Hp} {a p : Addr} {o u : HO} (h : a ≠ p) (e : H a = some u) : upd H p o a = some u := by rw [upd_ne h]; exact e
theorem at_same {H H' : Hp} {a : Addr} {u : HO} (h : Same H H') (e : H a = some u) : H' a = some u := h a u e
theorem at_kx {k : Addr} {H H' : Hp} {a : Addr} {u : HO} (h : Kx k H H') (n : a ≠ k) (e : H a = some u) : H' a = some u := h a u n e
theorem Kx.list {K : PySem.W.Frag} {k : Addr} {H H' : Hp} {a : Addr} {xs : List V} (e : Kx k H H') (n : a ≠ k) (h : SqL K H a xs) : SqL K H' a xs := by
  rcases h with (h | ⟨o, h⟩) | h
  · exact Or.inl (Or.inl (e _ _ n h))
  · exact Or.inl (Or.inr ⟨o, e _ _ n h⟩)
  · exact Or.inr h
theorem Kx.tup {K : PySem.W.Frag} {k : Addr} {H H' : Hp} {a : Addr} {xs : List V} (e : Kx k H H') (n : a ≠ k) (h : SqT K H a xs) : SqT K H' a xs := by
  rcases h with (h | ⟨o, h⟩) | h
  · exact Or.inl (Or.inl (e _ _ n h))
  · exact Or.inl (Or.inr ⟨o, e _ _ n h⟩)
  · exact Or.inr h
theorem Same.list {K : PySem.W.Frag} {H H' : Hp} {a : Addr} {xs : List V} (e : Same H H') (h : SqL K H a xs) : SqL K H' a xs := e.seq h
theorem Same.tup {K : PySem.W.Frag} {H H' : Hp} {a : Addr} {xs : List V} (e : Same H H') (h : SqT K H a xs) : SqT K H' a xs := by
  rcases h with (h | ⟨o, h⟩) | h
  · exact Or.inl (Or.inl (e _ _ h))
  · exact Or.inl (Or.inr ⟨o, e _ _ h⟩)
  · exact Or.inr h
theorem new_list {K : PySem.W.Frag} {H : Hp} {a p : Addr} {o : HO} {xs : List V} (h : H p = none) (e : SqL K H a xs) : SqL K (upd H p o) a xs := (Same.new h).seq e
theorem new_tup {K : PySem.W.Frag} {H : Hp} {a p : Addr} {o : HO} {xs : List V} (h : H p = none) (e : SqT K H a xs) : SqT K (upd H p o) a xs := Same.tup (Same.new h) e
theorem ne_list {K : PySem.W.Frag} {H : Hp} {a p : Addr} {o : HO} {xs : List V} (h : a ≠ p) (e : SqL K H a xs) : SqL K (upd H p o) a xs := Kx.list Kx.upd h e
theorem ne_tup {K : PySem.W.Frag} {H : Hp} {a p : Addr} {o : HO} {xs : List V} (h : a ≠ p) (e : SqT K H a xs) : SqT K (upd H p o) a xs := Kx.tup Kx.upd h e

theorem none_up {H : Hp} {p q : Addr} {o : HO} (h : upd H p o q = none) : H q = none := by
  by_cases e : q = p
  · subst e
    rw [upd_same] at h
    cases h
  · rw [upd_ne e] at h
    exact h
theorem none_same {H H' : Hp} {q : Addr} (e : Same H H') (h : H' q = none) : H q = none := e.free h
theorem none_kx {H H' : Hp} {k q : Addr} {o : HO} (e : Kx k H H') (hk : H' k = some o) (h : H' q = none) : H q = none := by
  cases z : H q with
  | none => rfl
  | some u =>
    have n : q ≠ k := fun c => by rw [c, hk] at h; cases h
    rw [e q u n z] at h
    cases h
/-- a new tuple, a new list, handed back -/
def NewT (xs : List V) (H : Hp) (Q : VK) : Prop := ∀ p H', Same H H' → H p = none → H' p = some (.tup xs) → Q (.ref p) H'
def NewL (xs : List V) (H : Hp) (Q : VK) : Prop := ∀ p H', Same H H' → H p = none → H' p = some (.lst xs) → Q (.ref p) H'
/-! ## readings, one step each -/
section
variable {K : PySem.W.Frag} {D : Ends} {σ : L2.St} {H : Hp} {Q : VK} {t u : TS} {te ta tb tc : TE} {tt tt2 : TT} {v x y : V} {i j : Nat} {g : TG} {gs : TGs} {tas : TA}
theorem r_seq (h : t { D with nx := u D } σ H) : tSeq t u D σ H := h
theorem r_asg (h : te σ H fun v H1 => g v σ H1 D.nx) : tAsg te g D σ H := h
theorem r_name {R : L2.St → Hp → Prop} (h : R (σ.set i (some v)) H) : gName i v σ H R := h
theorem r_gtup {R : L2.St → Hp → Prop} {a : Addr} {xs : List V} {n : Nat} (hs : SqT K H a xs) (hn : xs.length = n) (h : gs xs σ H R) : gTup K n gs (.ref a) σ H R := ⟨a, xs, rfl, hs, hn, h⟩
theorem r_gcons {R : L2.St → Hp → Prop} {r : List V} (h : g v σ H fun σ' H' => gs r σ' H' R) : gCons g gs (v :: r) σ H R := ⟨v, r, rfl, h⟩
theorem r_gnil {R : L2.St → Hp → Prop} (h : R σ H) : gNil [] σ H R := ⟨rfl, h⟩
theorem r_gsub {R : L2.St → Hp → Prop} {ts : TSet} (h : ta σ H fun o H1 => tb σ H1 fun i H2 => ts o i v H2 fun H3 => R σ H3) : gSub ta tb ts v σ H R := h
theorem r_setL {R : Hp → Prop} {p : Addr} {k : Int} {xs : List V} (hp : H p = some (.lst xs)) (hj : ixN xs.length k = some j) (h : R (upd H p (.lst (xs.set j v)))) : rSetL (.ref p) (.int k) v H R := ⟨p, xs, k, j, rfl, rfl, hp, hj, h⟩
theorem r_par (h : tas σ H fun vs H1 => ∃ v w, vs = [v, w] ∧ D.nx ((σ.set i (some v)).set j (some w)) H1) : tPar i j tas D σ H := h
theorem r_par3 {l : Nat} (h : tas σ H fun vs H1 => ∃ u v w, vs = [u, v, w] ∧ D.nx (((σ.set i (some u)).set j (some v)).set l (some w)) H1) : tPar3 i j l tas D σ H := h
theorem r_aug {ti : TIp} (e : σ[i]? = some (some x)) (h : te σ H fun y H1 => ti x y H1 fun z H2 => D.nx (σ.set i (some z)) H2) : tAug i te ti D σ H := ⟨x, e, h⟩
theorem r_ip {f : Int → Int → Int} {a b : Int} (h : Q (.int (f a b)) H) : ipI f (.int a) (.int b) H Q := ⟨a, b, rfl, rfl, h⟩
theorem r_drop (h : te σ H fun _ H1 => D.nx σ H1) : tDrop te D σ H := h
theorem r_ret (h : te σ H D.rt) : tRet te D σ H := h
theorem r_retN (h : D.rt .non H) : tRetN D σ H := h
theorem r_if (h : tt σ H fun b H1 => if b = true then t D σ H1 else u D σ H1) : tIfS tt t u D σ H := h
theorem r_next (h : D.nx σ H) : tNext D σ H := h
theorem r_break (h : D.bk σ H) : tBreak D σ H := h
theorem r_cont (h : D.ct σ H) : tCont D σ H := h
theorem r_var (e : σ[i]? = some (some v)) (h : Q v H) : tVar i σ H Q := ⟨v, e, h⟩
theorem r_yes {R : Bool → Hp → Prop} (h : R true H) : tYes σ H R := h
theorem r_c (h : Q v H) : tC v σ H Q := h
theorem r_op {r : R2} (h : ta σ H fun x H1 => tb σ H1 fun y H2 => r x y H2 Q) : tOp r ta tb σ H Q := h
theorem r_un {r : V → Hp → VK → Prop} (h : ta σ H fun x H1 => r x H1 Q) : tUn r ta σ H Q := h
theorem r_rI0 {f : Int → Int → V} {a b : Int} (h : Q (f a b) H) : rI0 f (.int a) (.int b) H Q := ⟨a, b, rfl, rfl, h⟩
theorem r_rU {f : Int → V} {a : Int} (h : Q (f a) H) : rU f (.int a) H Q := ⟨a, rfl, h⟩
theorem r_rI {C : Int → Int → Prop} {f : Int → Int → V} {a b : Int} (c : C a b) (h : Q (f a b) H) : rI C f (.int a) (.int b) H Q := ⟨a, b, rfl, rfl, c, h⟩
theorem r_test {R : Bool → Hp → Prop} (h : te σ H fun x H1 => ∃ k, x = .bl k ∧ R k H1) : tTest te σ H R := h
theorem r_B {R : Bool → Hp → Prop} (h : te σ H fun x H1 => ∃ k, x = .bl k ∧ R k H1) : tB te σ H R := h
theorem r_and {R : Bool → Hp → Prop} (h : tt σ H fun c H1 => if c = true then tt2 σ H1 R else R false H1) : tAnd tt tt2 σ H R := h
theorem r_or {R : Bool → Hp → Prop} (h : tt σ H fun c H1 => if c = true then R true H1 else tt2 σ H1 R) : tOr tt tt2 σ H R := h
theorem r_not {R : Bool → Hp → Prop} (h : tt σ H fun c H1 => R (!c) H1) : tNot tt σ H R := h
theorem r_andV (h : ta σ H fun x H1 => ∃ c, x = .bl c ∧ if c = true then tb σ H1 Q else Q (.bl false) H1) : tAndV ta tb σ H Q := h
theorem r_orV (h : ta σ H fun x H1 => ∃ c, x = .bl c ∧ if c = true then Q (.bl true) H1 else tb σ H1 Q) : tOrV ta tb σ H Q := h
theorem r_notV (h : ta σ H fun x H1 => ∃ c, x = .bl c ∧ Q (.bl (!c)) H1) : tNotV ta σ H Q := h
theorem r_ifE (h : tt σ H fun c H1 => if c = true then ta σ H1 Q else tb σ H1 Q) : tIf tt ta tb σ H Q := h
theorem r_chain {r r' : R2} (h : ta σ H fun x H1 => tb σ H1 fun y H2 => r x y H2 fun z H3 => ∃ k, z = .bl k ∧
  (if k = true then tc σ H3 fun w' H4 => r' y w' H4 Q else Q (.bl false) H3)) : tChain r r' ta tb tc σ H Q := h
theorem r_cons {R : List V → Hp → Prop} (h : ta σ H fun x H1 => tas σ H1 fun xs H2 => R (x :: xs) H2) : tCons ta tas σ H R := h
theorem r_nil {R : List V → Hp → Prop} (h : R [] H) : tNil σ H R := h
theorem r_tup (h : tas σ H fun xs H1 => xs.length ≤ sizeLine ∧ ∀ p, H1 p = none → Q (.ref p) (upd H1 p (.tup xs))) : tTup tas σ H Q := h
theorem r_lst (h : tas σ H fun xs H1 => xs.length ≤ sizeLine ∧ ∀ p, H1 p = none → Q (.ref p) (upd H1 p (.lst xs))) : tLst tas σ H Q := h
theorem r_call {sp : Sp} {E : XK} (h : tas σ H fun vs H1 => sp vs H1 Q E) : tCall sp [] E tas σ H Q := by
  have e : tCall sp [] E tas σ H Q = tas σ H fun vs H1 => sp vs H1 Q E := by
    unfold tCall
    simp only [List.append_nil]
  rw [e]
  exact h
theorem r_callK {sp : Sp} {gV : List V → List V → List V} {E : XK} {tk : TA} (h : tas σ H fun vs H1 => tk σ H1 fun zs H2 => sp (gV vs zs) H2 Q E) : tCallK sp gV E tas tk σ H Q := h
theorem r_cb {r : List V → Hp → VK → Prop} (h : tas σ H fun vs H1 => r vs H1 Q) : tCB r tas σ H Q := h
theorem r_ixL {a : Addr} {xs : List V} {k : Int} (h1 : SqL K H a xs) (h2 : atI xs k = some v) (h : Q v H) : rIxL K (.ref a) (.int k) H Q := ⟨a, xs, k, v, rfl, rfl, h1, h2, h⟩
theorem r_ixT {a : Addr} {xs : List V} {k : Int} (h1 : SqT K H a xs) (h2 : atI xs k = some v) (h : Q v H) : rIxT K (.ref a) (.int k) H Q := ⟨a, xs, k, v, rfl, rfl, h1, h2, h⟩
theorem r_lenL {a : Addr} {xs : List V} (hs : SqL K H a xs) (h : Q (.int xs.length) H) : rLenQ K [.ref a] H Q := ⟨a, xs, rfl, .inl hs, h⟩
theorem r_lenT {a : Addr} {xs : List V} (hs : SqT K H a xs) (h : Q (.int xs.length) H) : rLenQ K [.ref a] H Q := ⟨a, xs, rfl, .inr hs, h⟩
theorem r_tupL {a : Addr} {xs : List V} (hs : SqL K H a xs) (h : ∀ l, H l = none → Q (.ref l) (upd H l (.tup xs))) : rTupQ K [.ref a] H Q := ⟨a, xs, rfl, .inl ⟨hs, h⟩⟩
theorem r_tupT {a : Addr} {xs : List V} (hs : SqT K H a xs) (h : Q (.ref a) H) : rTupQ K [.ref a] H Q := ⟨a, xs, rfl, .inr ⟨hs, h⟩⟩
theorem r_listL {a : Addr} {xs : List V} (hs : SqL K H a xs) (h : ∀ l, H l = none → Q (.ref l) (upd H l (.lst xs))) : rListQ K [.ref a] H Q := ⟨a, xs, rfl, .inl hs, h⟩
theorem r_listT {a : Addr} {xs : List V} (hs : SqT K H a xs) (h : ∀ l, H l = none → Q (.ref l) (upd H l (.lst xs))) : rListQ K [.ref a] H Q := ⟨a, xs, rfl, .inr hs, h⟩
theorem r_abs {i : Int} (h : Q (.int (i.natAbs : Int)) H) : rAbs [.int i] H Q := by
  have e : (if i < 0 then -i else i) = (i.natAbs : Int) := by split <;> omega
  exact ⟨i, rfl, by rw [e]; exact h⟩
theorem r_max2 {i j : Int} (h : Q (.int (max i j)) H) : rMax2 [.int i, .int j] H Q := by
  have e : (if j > i then j else i) = max i j := by split <;> omega
  exact ⟨i, j, rfl, by rw [e]; exact h⟩
theorem r_min2 {i j : Int} (h : Q (.int (min i j)) H) : rMin2 [.int i, .int j] H Q := by
  have e : (if j < i then j else i) = min i j := by split <;> omega
  exact ⟨i, j, rfl, by rw [e]; exact h⟩
theorem r_int1 {i : Int} (h : Q (.int i) H) : rInt1 [.int i] H Q := .inl ⟨i, rfl, h⟩
theorem r_divmod {i j : Int} (c : CDivP i j) (h : ∀ p, H p = none → Q (.ref p) (upd H p (.tup [.int (i / j), .int (i % j)]))) : rDivmod [.int i, .int j] H Q := ⟨i, j, rfl, c, h⟩
theorem r_gcd {a b : Int} (h : Q (.int ((Nat.gcd a.natAbs b.natAbs : Nat) : Int)) H) : rGcd [.int a, .int b] H Q := ⟨a, b, rfl, h⟩
theorem r_lcm {a b : Int} (ha : a.natAbs < 2 ^ 9000) (hb : b.natAbs < 2 ^ 9000) (h : Q (.int ((Nat.lcm a.natAbs b.natAbs : Nat) : Int)) H) : rLcm [.int a, .int b] H Q := ⟨a, b, rfl, ha, hb, h⟩
theorem r_repr {a : Addr} {d : PyData} (hd : Dp K H (.ref a) d) (hs : d.showable = true) (hp : d.depth ≤ 40) (hz : d.shown.length ≤ sizeLine) (h : Q (.str d.shown) H) : rRepr K [.ref a] H Q := ⟨a, d, rfl, hd, hs, hp, hz, h⟩
theorem r_isi {x c : V} {t u : Value} {b : Bool} (h1 : ClsV c u) (h2 : TyX K H x t) (h3 : PySem.W.kitOne K t u = some b) (h : Q (.bl b) H) : rIsi K [x, c] H Q := ⟨x, c, t, u, b, rfl, h1, h2, h3, h⟩
theorem r_all {a : Addr} {bs : List Bool} (hs : SqL K H a (bs.map V.bl)) (h : Q (.bl (bs.all id)) H) : rAll K [.ref a] H Q := ⟨a, bs, rfl, hs, h⟩
theorem r_any {a : Addr} {bs : List Bool} (hs : SqL K H a (bs.map V.bl)) (h : Q (.bl (bs.any id)) H) : rAny K [.ref a] H Q := ⟨a, bs, rfl, hs, h⟩
theorem r_neD {x y : V} {d e : PyData} (h1 : Dp K H x d) (h2 : Dp K H y e) (h3 : SeqAt.shaped d = true) (h4 : SeqAt.shaped e = true) (h : Q (.bl (!PyData.eqv d e)) H) : rNeD K x y H Q := ⟨d, e, h1, h2, h3, h4, h⟩
theorem r_eqD {x y : V} {d e : PyData} (h1 : Dp K H x d) (h2 : Dp K H y e) (h3 : SeqAt.shaped d = true) (h4 : SeqAt.shaped e = true) (h : Q (.bl (PyData.eqv d e)) H) : rEqD K x y H Q := ⟨d, e, h1, h2, h3, h4, h⟩
end
/-- tests that are known, and both ways of one that is not -/
theorem ifd {p A B : Prop} {_i : Decidable p} (h1 : p → A) (h2 : ¬ p → B) : if decide p = true then A else B := by
  by_cases h : p
  · rw [if_pos (decide_eq_true h)]; exact h1 h
  · rw [if_neg (by rw [decide_eq_false h]; exact Bool.false_ne_true)]; exact h2 h
theorem ifnd {p A B : Prop} {_i : Decidable p} (h1 : ¬ p → A) (h2 : p → B) : if (!decide p) = true then A else B := by
  by_cases h : p
  · rw [if_neg (by rw [decide_eq_true h]; decide)]; exact h2 h
  · rw [if_pos (by rw [decide_eq_false h]; decide)]; exact h1 h
theorem ifb {b : Bool} {A B : Prop} (h1 : b = true → A) (h2 : b = false → B) : if b = true then A else B := by
  cases b with
  | true => rw [if_pos rfl]; exact h1 rfl
  | false => rw [if_neg Bool.false_ne_true]; exact h2 rfl
theorem ifT {b : Bool} {A B : Prop} (hb : b = true) (h : A) : if b = true then A else B := by rw [if_pos hb]; exact h
theorem ifF {b : Bool} {A B : Prop} (hb : b = false) (h : B) : if b = true then A else B := by rw [if_neg (by rw [hb]; exact Bool.false_ne_true)]; exact h
theorem ifTT {A B : Prop} (h : A) : if true = true then A else B := by rw [if_pos rfl]; exact h
theorem ifFF {A B : Prop} (h : B) : if false = true then A else B := by rw [if_neg Bool.false_ne_true]; exact h
theorem ifNT {A B : Prop} (h : B) : if (!true) = true then A else B := by rw [if_neg (by decide)]; exact h
theorem ifNF {A B : Prop} (h : A) : if (!false) = true then A else B := by rw [if_pos (by decide)]; exact h
theorem small {n : Nat} (h : n ≤ 100000) : n ≤ sizeLine := Nat.le_trans h (by decide)
/-! ## data -/
theorem DpAll.ints {K : PySem.W.Frag} {H : Hp} : ∀ ns : List Int, DpAll K H (ns.map V.int) (ns.map PyData.int)
  | [] => .nil
  | n :: ns => .cons (.int n) (DpAll.ints ns)

/-! ## isinstance, type by type -/
section
variable {K : PySem.W.Frag} {H : Hp} {Q : VK} {a : Addr} {xs : List V} {i : Int} {b : Bool}
theorem is_int_int (h : Q (.bl true) H) : rIsi K [(.int i), .ty "int"] H Q := r_isi (.ty "int") (.base (.int i)) (kit_ty (by decide +kernel)) h
theorem is_int_bool (h : Q (.bl false) H) : rIsi K [(.int i), .ty "bool"] H Q := r_isi (.ty "bool") (.base (.int i)) (kit_ty (by decide +kernel)) h
theorem is_int_tuple (h : Q (.bl false) H) : rIsi K [(.int i), .ty "tuple"] H Q := r_isi (.ty "tuple") (.base (.int i)) (kit_ty (by decide +kernel)) h
theorem is_int_list (h : Q (.bl false) H) : rIsi K [(.int i), .ty "list"] H Q := r_isi (.ty "list") (.base (.int i)) (kit_ty (by decide +kernel)) h
theorem is_int_str (h : Q (.bl false) H) : rIsi K [(.int i), .ty "str"] H Q := r_isi (.ty "str") (.base (.int i)) (kit_ty (by decide +kernel)) h
theorem is_bool_int (h : Q (.bl true) H) : rIsi K [(.bl b), .ty "int"] H Q := r_isi (.ty "int") (.base (.bl b)) (kit_ty (by decide +kernel)) h
theorem is_bool_bool (h : Q (.bl true) H) : rIsi K [(.bl b), .ty "bool"] H Q := r_isi (.ty "bool") (.base (.bl b)) (kit_ty (by decide +kernel)) h
theorem is_bool_tuple (h : Q (.bl false) H) : rIsi K [(.bl b), .ty "tuple"] H Q := r_isi (.ty "tuple") (.base (.bl b)) (kit_ty (by decide +kernel)) h
theorem is_bool_list (h : Q (.bl false) H) : rIsi K [(.bl b), .ty "list"] H Q := r_isi (.ty "list") (.base (.bl b)) (kit_ty (by decide +kernel)) h
theorem is_bool_str (h : Q (.bl false) H) : rIsi K [(.bl b), .ty "str"] H Q := r_isi (.ty "str") (.base (.bl b)) (kit_ty (by decide +kernel)) h
theorem is_NoneType_int (h : Q (.bl false) H) : rIsi K [.non, .ty "int"] H Q := r_isi (.ty "int") (.base .non) (kit_ty (by decide +kernel)) h
theorem is_NoneType_bool (h : Q (.bl false) H) : rIsi K [.non, .ty "bool"] H Q := r_isi (.ty "bool") (.base .non) (kit_ty (by decide +kernel)) h
theorem is_NoneType_tuple (h : Q (.bl false) H) : rIsi K [.non, .ty "tuple"] H Q := r_isi (.ty "tuple") (.base .non) (kit_ty (by decide +kernel)) h
theorem is_NoneType_list (h : Q (.bl false) H) : rIsi K [.non, .ty "list"] H Q := r_isi (.ty "list") (.base .non) (kit_ty (by decide +kernel)) h
theorem is_NoneType_str (h : Q (.bl false) H) : rIsi K [.non, .ty "str"] H Q := r_isi (.ty "str") (.base .non) (kit_ty (by decide +kernel)) h
theorem is_str_int {z : Str} (h : Q (.bl false) H) : rIsi K [(.str z), .ty "int"] H Q := r_isi (.ty "int") (.base (.str z)) (kit_ty (by decide +kernel)) h
theorem is_str_bool {z : Str} (h : Q (.bl false) H) : rIsi K [(.str z), .ty "bool"] H Q := r_isi (.ty "bool") (.base (.str z)) (kit_ty (by decide +kernel)) h
theorem is_str_tuple {z : Str} (h : Q (.bl false) H) : rIsi K [(.str z), .ty "tuple"] H Q := r_isi (.ty "tuple") (.base (.str z)) (kit_ty (by decide +kernel)) h
theorem is_str_list {z : Str} (h : Q (.bl false) H) : rIsi K [(.str z), .ty "list"] H Q := r_isi (.ty "list") (.base (.str z)) (kit_ty (by decide +kernel)) h
theorem is_str_str {z : Str} (h : Q (.bl true) H) : rIsi K [(.str z), .ty "str"] H Q := r_isi (.ty "str") (.base (.str z)) (kit_ty (by decide +kernel)) h
theorem is_tuple_int (e : H a = some (.tup xs)) (h : Q (.bl false) H) : rIsi K [(.ref a), .ty "int"] H Q := r_isi (.ty "int") (.base (.tup e)) (kit_ty (by decide +kernel)) h
theorem is_tuple_bool (e : H a = some (.tup xs)) (h : Q (.bl false) H) : rIsi K [(.ref a), .ty "bool"] H Q := r_isi (.ty "bool") (.base (.tup e)) (kit_ty (by decide +kernel)) h
theorem is_tuple_tuple (e : H a = some (.tup xs)) (h : Q (.bl true) H) : rIsi K [(.ref a), .ty "tuple"] H Q := r_isi (.ty "tuple") (.base (.tup e)) (kit_ty (by decide +kernel)) h
theorem is_tuple_list (e : H a = some (.tup xs)) (h : Q (.bl false) H) : rIsi K [(.ref a), .ty "list"] H Q := r_isi (.ty "list") (.base (.tup e)) (kit_ty (by decide +kernel)) h
theorem is_tuple_str (e : H a = some (.tup xs)) (h : Q (.bl false) H) : rIsi K [(.ref a), .ty "str"] H Q := r_isi (.ty "str") (.base (.tup e)) (kit_ty (by decide +kernel)) h
theorem is_list_int (e : H a = some (.lst xs)) (h : Q (.bl false) H) : rIsi K [(.ref a), .ty "int"] H Q := r_isi (.ty "int") (.base (.lst e)) (kit_ty (by decide +kernel)) h
theorem is_list_bool (e : H a = some (.lst xs)) (h : Q (.bl false) H) : rIsi K [(.ref a), .ty "bool"] H Q := r_isi (.ty "bool") (.base (.lst e)) (kit_ty (by decide +kernel)) h
theorem is_list_tuple (e : H a = some (.lst xs)) (h : Q (.bl false) H) : rIsi K [(.ref a), .ty "tuple"] H Q := r_isi (.ty "tuple") (.base (.lst e)) (kit_ty (by decide +kernel)) h
theorem is_list_list (e : H a = some (.lst xs)) (h : Q (.bl true) H) : rIsi K [(.ref a), .ty "list"] H Q := r_isi (.ty "list") (.base (.lst e)) (kit_ty (by decide +kernel)) h
theorem is_list_str (e : H a = some (.lst xs)) (h : Q (.bl false) H) : rIsi K [(.ref a), .ty "str"] H Q := r_isi (.ty "str") (.base (.lst e)) (kit_ty (by decide +kernel)) h
end

/-! ## two ways that meet -/
section
variable {D : Ends} {σ : L2.St} {H : Hp} {Q : VK} {tt : TT} {ta tb : TE} {t u : TS}
theorem j_e {te : TE} (Pv : V → Hp → Prop) (hF : ∀ Q' : VK, (∀ v H', Pv v H' → Q' v H') → te σ H Q') (hQ : ∀ v H', Pv v H' → Q v H') : te σ H Q := hF Q hQ
theorem j_if (Pv : V → Hp → Prop) (hF : ∀ Q' : VK, (∀ v H', Pv v H' → Q' v H') → tIf tt ta tb σ H Q') (hQ : ∀ v H', Pv v H' → Q v H') : tIf tt ta tb σ H Q := hF Q hQ
theorem j_s {ts : TS} (M : L2.St → Hp → Prop) (hF : ∀ nx' : L2.St → Hp → Prop, (∀ σ' H', M σ' H' → nx' σ' H') → ts { D with nx := nx' } σ H) (hQ : ∀ σ' H', M σ' H' → D.nx σ' H') : ts D σ H := hF D.nx hQ
end
/-! ## loops -/
section
variable {K : PySem.W.Frag} {D : Ends} {σ : L2.St} {H : Hp} {tt : TT} {tb : TS} {g : TG} {x : V}
abbrev Wp (W : Nat → L2.St → Hp → Prop) (m : Nat) (σ : L2.St) (H : Hp) : Prop := W m σ H
theorem r_while (W : Nat → L2.St → Hp → Prop) (m : Nat) (w0 : W m σ H)
    (hs : ∀ m σ H, W m σ H → tt σ H fun b H1 => if b = true then ∃ N : L2.St → Hp → Prop, (∀ σ' H', N σ' H' → ∃ m', m' < m ∧ Wp W m' σ' H') ∧ tb { D with nx := N, ct := N, bk := D.nx } σ H1 else D.nx σ H1) :
    tWhile tt tb D σ H := ⟨W, ⟨m, w0⟩, hs⟩
theorem r_wb {D : (L2.St → Hp → Prop) → Ends} {W : Nat → L2.St → Hp → Prop} {m : Nat} (h : tb (D fun σ' H' => ∃ m', m' < m ∧ Wp W m' σ' H') σ H) :
    ∃ N : L2.St → Hp → Prop, (∀ σ' H', N σ' H' → ∃ m', m' < m ∧ Wp W m' σ' H') ∧ tb (D N) σ H := ⟨_, fun _ _ h => h, h⟩
theorem tru_int {i : Int} {R : Bool → Prop} (h : R (i != 0)) : ∃ k, TruV K (.int i) H k ∧ R k := ⟨_, rfl, h⟩
theorem tru_list {a : Addr} {xs : List V} {R : Bool → Prop} (hs : SqL K H a xs) (h : R (!xs.isEmpty)) : ∃ k, TruV K (.ref a) H k ∧ R k := ⟨_, .inl ⟨xs, hs, rfl⟩, h⟩
theorem tru_tup {a : Addr} {xs : List V} {R : Bool → Prop} (hs : SqT K H a xs) (h : R (!xs.isEmpty)) : ∃ k, TruV K (.ref a) H k ∧ R k := ⟨_, .inr (.inl ⟨xs, hs, rfl⟩), h⟩
theorem r_for1 {ta : TA} (h : ta σ H fun vs H1 => ∃ j : Int, vs = [.int j] ∧ -(2 ^ 62) ≤ j ∧ j < 2 ^ 62 ∧ tFor (fun _ H2 R => R (Itr 0 j.toNat) H2) g tb D σ H1) : tFor (iRng1 ta) g tb D σ H := h
theorem r_for2 {ta : TA} (h : ta σ H fun vs H1 => ∃ i j : Int, vs = [.int i, .int j] ∧ (-(2 ^ 62) ≤ i ∧ i < 2 ^ 62 ∧ -(2 ^ 62) ≤ j ∧ j < 2 ^ 62) ∧ tFor (fun _ H2 R => R (Itr i (j - i).toNat) H2) g tb D σ H1) : tFor (iRng2 ta) g tb D σ H := h
theorem r_forR {lo : Int} {n : Nat} (Pv : Nat → L2.St → Hp → Prop) (h0 : Pv 0 σ H)
    (hs : ∀ i σ H, i < n → Pv i σ H → g (.int (lo + i)) σ H fun σ2 H2 => tb { D with nx := Pv (i + 1), ct := Pv (i + 1), bk := D.nx } σ2 H2) (hd : ∀ σ H, Pv n σ H → D.nx σ H) :
    tFor (fun _ H2 R => R (Itr lo n) H2) g tb D σ H := for_range Pv h0 hs hd
theorem r_forL {te : TE} (h : te σ H fun x H1 => ∃ a, x = .ref a ∧ (∃ xs, SqL K H1 a xs) ∧ tFor (fun _ H2 R => R (Itl K a) H2) g tb D σ H1) : tFor (iList K te) g tb D σ H := h
theorem r_forT {te : TE} (h : te σ H fun x H1 => ∃ a, x = .ref a ∧ (∃ xs, SqT K H1 a xs) ∧ tFor (fun _ H2 R => R (Itt K a) H2) g tb D σ H1) : tFor (iTup K te) g tb D σ H := h
theorem r_forLs {a : Addr} (xs : List V) (Pv : Nat → L2.St → Hp → Prop) (h0 : Pv 0 σ H) (hl : ∀ i σ H, i ≤ xs.length → Pv i σ H → SqL K H a xs)
    (hs : ∀ i x σ H, xs[i]? = some x → Pv i σ H → g x σ H fun σ2 H2 => tb { D with nx := Pv (i + 1), ct := Pv (i + 1), bk := D.nx } σ2 H2) (hd : ∀ σ H, Pv xs.length σ H → D.nx σ H) :
    tFor (fun _ H2 R => R (Itl K a) H2) g tb D σ H := for_list Pv h0 hl hs hd
theorem r_forTs {a : Addr} (xs : List V) (Pv : Nat → L2.St → Hp → Prop) (h0 : Pv 0 σ H) (hl : ∀ i σ H, i ≤ xs.length → Pv i σ H → SqT K H a xs)
    (hs : ∀ i x σ H, xs[i]? = some x → Pv i σ H → g x σ H fun σ2 H2 => tb { D with nx := Pv (i + 1), ct := Pv (i + 1), bk := D.nx } σ2 H2) (hd : ∀ σ H, Pv xs.length σ H → D.nx σ H) :
    tFor (fun _ H2 R => R (Itt K a) H2) g tb D σ H := for_tup Pv h0 hl hs hd
/-! comprehensions -/
variable {te : TE} {vs : List Nat} {Q : VK}
theorem r_lcR1 {ta : TA} (h : ta σ H fun ws H1 => ∃ j : Int, ws = [.int j] ∧ -(2 ^ 62) ≤ j ∧ j < 2 ^ 62 ∧ tLc (fun _ H2 R => R (Itr 0 j.toNat) H2) g tt te vs σ H1 Q) : tLc (iRng1 ta) g tt te vs σ H Q := h
theorem r_lcR2 {ta : TA} (h : ta σ H fun ws H1 => ∃ i j : Int, ws = [.int i, .int j] ∧ (-(2 ^ 62) ≤ i ∧ i < 2 ^ 62 ∧ -(2 ^ 62) ≤ j ∧ j < 2 ^ 62) ∧ tLc (fun _ H2 R => R (Itr i (j - i).toNat) H2) g tt te vs σ H1 Q) : tLc (iRng2 ta) g tt te vs σ H Q := h
theorem r_lcL {tl : TE} (h : tl σ H fun x H1 => ∃ a, x = .ref a ∧ (∃ xs, SqL K H1 a xs) ∧ tLc (fun _ H2 R => R (Itl K a) H2) g tt te vs σ H1 Q) : tLc (iList K tl) g tt te vs σ H Q := h
theorem r_lcT {tl : TE} (h : tl σ H fun x H1 => ∃ a, x = .ref a ∧ (∃ xs, SqT K H1 a xs) ∧ tLc (fun _ H2 R => R (Itt K a) H2) g tt te vs σ H1 Q) : tLc (iTup K tl) g tt te vs σ H Q := h
theorem r_lcR {lo : Int} {n : Nat} (Pv : Addr → Nat → Hp → Prop) (h0 : ∀ D, H D = none → Pv D 0 (upd H D (.lst [])))
    (hs : ∀ D i H', H D = none → i < n → Pv D i H' → g (.int (lo + i)) (wipe σ vs) H' fun σ2 H2 => wipe σ2 vs = wipe σ vs ∧ tt σ2 H2 fun b H3 =>
      if b = true then te σ2 H3 fun y H4 => ∃ acc, H4 D = some (.lst acc) ∧ acc.length < sizeLine ∧ Pv D (i + 1) (upd H4 D (.lst (acc ++ [y]))) else Pv D (i + 1) H3)
    (hd : ∀ D H', H D = none → Pv D n H' → Q (.ref D) H') : tLc (fun _ H2 R => R (Itr lo n) H2) g tt te vs σ H Q :=
  fun D hD => lc_range (Pv D) (h0 D hD) (fun i H' hi p => hs D i H' hD hi p) (fun H' p => hd D H' hD p)
theorem r_lcLs {a : Addr} (xs : List V) (Pv : Addr → Nat → Hp → Prop) (h0 : ∀ D, H D = none → Pv D 0 (upd H D (.lst []))) (hl : ∀ D i H', H D = none → i ≤ xs.length → Pv D i H' → SqL K H' a xs)
    (hs : ∀ D i x H', H D = none → xs[i]? = some x → Pv D i H' → g x (wipe σ vs) H' fun σ2 H2 => wipe σ2 vs = wipe σ vs ∧ tt σ2 H2 fun b H3 =>
      if b = true then te σ2 H3 fun y H4 => ∃ acc, H4 D = some (.lst acc) ∧ acc.length < sizeLine ∧ Pv D (i + 1) (upd H4 D (.lst (acc ++ [y]))) else Pv D (i + 1) H3)
    (hd : ∀ D H', H D = none → Pv D xs.length H' → Q (.ref D) H') : tLc (fun _ H2 R => R (Itl K a) H2) g tt te vs σ H Q :=
  fun D hD => lc_list (Pv D) (h0 D hD) (fun i H' hi p => hl D i H' hD hi p) (fun i x H' hx p => hs D i x H' hD hx p) (fun H' p => hd D H' hD p)
theorem r_lcTs {a : Addr} (xs : List V) (Pv : Addr → Nat → Hp → Prop) (h0 : ∀ D, H D = none → Pv D 0 (upd H D (.lst []))) (hl : ∀ D i H', H D = none → i ≤ xs.length → Pv D i H' → SqT K H' a xs)
    (hs : ∀ D i x H', H D = none → xs[i]? = some x → Pv D i H' → g x (wipe σ vs) H' fun σ2 H2 => wipe σ2 vs = wipe σ vs ∧ tt σ2 H2 fun b H3 =>
      if b = true then te σ2 H3 fun y H4 => ∃ acc, H4 D = some (.lst acc) ∧ acc.length < sizeLine ∧ Pv D (i + 1) (upd H4 D (.lst (acc ++ [y]))) else Pv D (i + 1) H3)
    (hd : ∀ D H', H D = none → Pv D xs.length H' → Q (.ref D) H') : tLc (fun _ H2 R => R (Itt K a) H2) g tt te vs σ H Q :=
  fun D hD => lc_tup (Pv D) (h0 D hD) (fun i H' hi p => hl D i H' hD hi p) (fun i x H' hx p => hs D i x H' hD hx p) (fun H' p => hd D H' hD p)
end
end Vf

namespace Vf
open PySem PySem.Spec PyProof.Rows L2
/-! ## the law's source of numbers -/
theorem bits_mono {x y : Int} (h : x.natAbs ≤ y.natAbs) : Builtin.Int.intBits x ≤ Builtin.Int.intBits y := by
  by_cases z : y = 0
  · subst z
    have : x = 0 := by omega
    subst this
    exact Nat.le_refl _
  · have e : Builtin.Int.intBits y = y.natAbs.log2 + 1 := by
      unfold Builtin.Int.intBits
      rw [if_neg (by simpa using z)]
    rw [e]
    exact PyProof.Rows.intBits_le (Nat.lt_of_le_of_lt h Nat.lt_log2_self)
structure KegOk (a b c : Int) (n : Nat) : Prop where
  a0 : 0 ≤ a
  ab : Builtin.Int.intBits a ≤ 1048600
  b0 : 0 ≤ b
  bM : b < 2147482801
  c0 : 0 ≤ c
  cn : c ≤ n
def Keg (n : Nat) (k : Addr) (H : Hp) : Prop := ∃ a b c : Int, H k = some (.lst [.int a, .int b, .int c]) ∧ KegOk a b c n
theorem Keg.mono {n m : Nat} {k : Addr} {H : Hp} (h : Keg n k H) (l : n ≤ m) : Keg m k H := by
  obtain ⟨a, b, c, e, o⟩ := h
  exact ⟨a, b, c, e, o.a0, o.ab, o.b0, o.bM, o.c0, by have := o.cn; omega⟩
theorem Keg.same {n : Nat} {k : Addr} {H H' : Hp} (h : Keg n k H) (s : Same H H') : Keg n k H' := by
  obtain ⟨a, b, c, e, o⟩ := h
  exact ⟨a, b, c, s _ _ e, o⟩
theorem Keg.new {n : Nat} {k p : Addr} {H : Hp} {o : HO} (h : Keg n k H) (hp : H p = none) : Keg n k (upd H p o) := h.same (Same.new hp)
theorem Keg.ne {n : Nat} {k p : Addr} {H : Hp} (h : Keg n k H) (hp : H p = none) : p ≠ k := by
  obtain ⟨a, b, c, e, o⟩ := h
  exact (ne_of_none e hp).symm
theorem Keg.none {n : Nat} {k q : Addr} {H H' : Hp} (h : Keg n k H') (e : Kx k H H') (hq : H' q = Option.none) : H q = Option.none := by
  obtain ⟨a, b, c, z, o⟩ := h
  exact none_kx e z hq
def sp_tap : Sp := fun vs H Q _ => ∃ (k : Addr) (u : Int) (n : Nat), vs = [.ref k, .int u] ∧ Keg n k H ∧ n ≤ 2 ^ 60 ∧ 0 < u ∧ u < 2 ^ 62 ∧
  ∀ f H', 0 ≤ f → f < u → Kx k H H' → Keg (n + 1) k H' → Q (.int f) H'
theorem i_tap {k : Addr} {u : Int} {H : Hp} {Q : VK} {E : XK} (n : Nat) (hk : Keg n k H) (hn : n ≤ 2 ^ 60) (h0 : 0 < u) (h1 : u < 2 ^ 62)
    (q : ∀ f H', 0 ≤ f → f < u → Kx k H H' → Keg (n + 1) k H' → Q (.int f) H') : sp_tap [.ref k, .int u] H Q E := ⟨k, u, n, rfl, hk, hn, h0, h1, q⟩
def sp_any (K : PySem.W.Frag) : Sp := fun vs H Q _ => ∃ (k t : Addr) (xs : List V) (n : Nat), vs = [.ref k, .ref t] ∧ Keg n k H ∧ n ≤ 2 ^ 60 ∧ t ≠ k ∧ SqL K H t xs ∧ 0 < xs.length ∧ xs.length ≤ 100000 ∧
  ∀ (i : Nat) (x : V) H', xs[i]? = some x → Kx k H H' → Keg (n + 1) k H' → Q x H'
theorem i_any {K : PySem.W.Frag} {k t : Addr} {H : Hp} {Q : VK} {E : XK} (n : Nat) (xs : List V) (hk : Keg n k H) (hn : n ≤ 2 ^ 60) (ht : t ≠ k) (hs : SqL K H t xs) (h0 : 0 < xs.length) (h1 : xs.length ≤ 100000)
    (q : ∀ (i : Nat) x H', xs[i]? = some x → Kx k H H' → Keg (n + 1) k H' → Q x H') : sp_any K [.ref k, .ref t] H Q E := ⟨k, t, xs, n, rfl, hk, hn, ht, hs, h0, h1, q⟩
/-- the script's ints are of at most 2 ^ 20 bits -/
def Script (ns : List Int) : Prop := ns.length ≤ 63 ∧ ∀ z ∈ ns, Builtin.Int.intBits z ≤ 1048576
def sp_keg (K : PySem.W.Frag) : Sp := fun vs H Q _ => ∃ (c : Addr) (ns : List Int) (j : Nat), vs = [.ref c, .int (j : Int)] ∧ SqL K H c (ns.map V.int) ∧ Script ns ∧ j ≤ 1000 ∧
  ∀ p H', Same H H' → H p = none → Keg 1 p H' → Q (.ref p) H'
theorem i_keg {K : PySem.W.Frag} {c : Addr} {H : Hp} {Q : VK} {E : XK} (ns : List Int) (j : Nat) (hs : SqL K H c (ns.map V.int)) (hn : Script ns) (hj : j ≤ 1000)
    (q : ∀ p H', Same H H' → H p = none → Keg 1 p H' → Q (.ref p) H') : sp_keg K [.ref c, .int (j : Int)] H Q E := ⟨c, ns, j, rfl, hs, hn, hj, q⟩
/-- a product of two ints of so many bits at most -/
theorem bit_mul {i j : Int} {a b : Nat} (ha : Builtin.Int.intBits i ≤ a) (hb : Builtin.Int.intBits j ≤ b) (h : a + b ≤ 134217728) : CMulX i j := by
  unfold CMulX
  omega
theorem bit_of {i : Int} {a : Nat} (h : i.natAbs < 2 ^ a) : Builtin.Int.intBits i ≤ a := PyProof.Rows.intBits_le h
theorem divp_of {i j : Int} (h : 0 < j) (hj : j < 2 ^ 62) : CDivP i j :=
  ⟨h, PyProof.noPylong_of_log2 (Nat.lt_of_lt_of_le (log_lim (k := 62) (by omega) (by decide)) (by decide))⟩
theorem divw_of {i j : Int} (h : 0 < j) (hj : j < 2 ^ 62) : CDivW i j := wide_div (b := 62) h (by omega) (by decide) (by decide)
end Vf

namespace Vf
open PySem PySem.Spec PyProof.Rows L2
/-! ## data: what repr of it is like, and == -/
mutual
/-- no text, no dict; each number of fewer than 1920 bits -/
def tame : PyData → Bool
  | .none | .bool _ => true
  | .int i => decide (i.natAbs.log2 < 1920)
  | .list xs | .tuple xs => tameAll xs
  | _ => false
def tameAll : List PyData → Bool
  | [] => true
  | x :: xs => tame x && tameAll xs
end
mutual
def room : PyData → Nat
  | .list xs | .tuple xs => 4 + roomAll xs
  | _ => 2000
def roomAll : List PyData → Nat
  | [] => 0
  | x :: xs => room x + 2 + roomAll xs
end
theorem from_le : ∀ (ts : List Str) (k : Nat) (acc : Str), (textFrom k acc ts).length ≤ acc.length + piled ts
  | [], _, _ => Nat.le_add_right _ _
  | t :: r, k, acc => by
    refine Nat.le_trans (from_le r (k + 1) _) ?_
    rw [strLen_append, strLen_append, piled_cons]
    have e : (Str.ofString (if k > 0 then ", " else "" : String)).length ≤ 2 := by
      split
      · decide +kernel
      · decide +kernel
    omega
theorem listText_le (ts : List Str) : (listText ts).length ≤ 4 + piled ts := by
  show (textFrom 0 "[" ts ++ "]").length ≤ _
  rw [strLen_append]
  have h := from_le ts 0 "["
  have e1 : ("[" : Str).length = 1 := by decide +kernel
  have e2 : ("]" : Str).length = 1 := by decide +kernel
  omega
theorem tupleText_le (ts : List Str) : (tupleText ts).length ≤ 4 + piled ts := by
  unfold tupleText
  rw [strLen_append, strLen_append]
  have e1 : ("(" : Str).length = 1 := by decide +kernel
  have e2 : (if (ts.length == 1) = true then ",)" else ")" : String) = ",)" ∨ (if (ts.length == 1) = true then ",)" else ")" : String) = ")" := by split <;> simp
  have e3 : (Str.ofString (if (ts.length == 1) = true then ",)" else ")" : String)).length ≤ 2 := by
    rcases e2 with e | e <;> rw [e] <;> decide +kernel
  have e4 : (Str.join ", " ts).length ≤ piled ts := by
    by_cases z : ts = []
    · subst z; decide +kernel
    · have := join_length_add ts z; omega
  show ("(" : Str).length + _ + (Str.ofString _).length ≤ _
  omega
mutual
theorem shown_le : ∀ d : PyData, tame d = true → d.showable = true ∧ d.hasDict = false ∧ (d.shown).length ≤ room d
  | .none, _ => ⟨rfl, rfl, by show ("None" : Str).length ≤ 2000; decide +kernel⟩
  | .bool b, _ => ⟨rfl, rfl, by cases b <;> decide +kernel⟩
  | .int i, h => by
    have h1 : i.natAbs.log2 < 1920 := of_decide_eq_true h
    refine ⟨by simpa [PyData.showable] using h1, rfl, ?_⟩
    have e := int_text_length_le (k := 1920) (by decide) h1
    show (Str.ofString (toString i)).length ≤ 2000
    rw [PySem.ofString_length]
    omega
  | .str _, h => by cases h
  | .dict _, h => by cases h
  | .list xs, h => by
    obtain ⟨a, b, c⟩ := shown_leAll xs h
    refine ⟨a, b, ?_⟩
    have := listText_le (PyData.shownAll xs)
    show (listText (PyData.shownAll xs)).length ≤ 4 + roomAll xs
    omega
  | .tuple xs, h => by
    obtain ⟨a, b, c⟩ := shown_leAll xs h
    refine ⟨a, b, ?_⟩
    have := tupleText_le (PyData.shownAll xs)
    show (tupleText (PyData.shownAll xs)).length ≤ 4 + roomAll xs
    omega
theorem shown_leAll : ∀ ds : List PyData, tameAll ds = true → PyData.showableAll ds = true ∧ PyData.hasDictAll ds = false ∧ piled (PyData.shownAll ds) ≤ roomAll ds
  | [], _ => ⟨rfl, rfl, Nat.le_refl _⟩
  | d :: ds, h => by
    have h2 : (tame d && tameAll ds) = true := h
    rw [Bool.and_eq_true] at h2
    obtain ⟨a, b, c⟩ := shown_le d h2.1
    obtain ⟨a2, b2, c2⟩ := shown_leAll ds h2.2
    refine ⟨by simp [PyData.showableAll, a, a2], by simp [PyData.hasDictAll, b, b2], ?_⟩
    show piled (d.shown :: PyData.shownAll ds) ≤ room d + 2 + roomAll ds
    rw [piled_cons]
    omega
end
theorem tameInts : ∀ ns : List Int, (∀ n ∈ ns, n.natAbs < 2 ^ 1900) → tameAll (ns.map PyData.int) = true
  | [], _ => rfl
  | n :: ns, h => by
    show (tame (.int n) && tameAll (ns.map PyData.int)) = true
    rw [tameInts ns fun m hm => h m (List.mem_cons_of_mem _ hm), Bool.and_true]
    refine decide_eq_true (log_lim (Nat.lt_of_lt_of_le (h n List.mem_cons_self) (Nat.pow_le_pow_right (by decide) (by decide))) (by decide))
theorem roomInts : ∀ ns : List Int, roomAll (ns.map PyData.int) = 2002 * ns.length
  | [] => rfl
  | n :: ns => by
    show 2000 + 2 + roomAll (ns.map PyData.int) = 2002 * (ns.length + 1)
    rw [roomInts ns]; omega
theorem depthInts : ∀ ns : List Int, PyData.depthAll (ns.map PyData.int) = 0
  | [] => rfl
  | n :: ns => by
    show max (PyData.depth (.int n)) (PyData.depthAll (ns.map PyData.int)) = 0
    rw [depthInts ns]; rfl
/-- what repr gives of a list of ints -/
def intsD (ns : List Int) : PyData := .list (ns.map PyData.int)
section
variable {K : PySem.W.Frag} {H : Hp} {Q : VK}
theorem r_reprD {a : Addr} (d : PyData) (hd : Dp K H (.ref a) d) (ht : tame d = true) (hp : d.depth ≤ 40) (hz : room d ≤ 100000) (h : Q (.str d.shown) H) : rRepr K [.ref a] H Q := by
  obtain ⟨h1, _, h2⟩ := shown_le d ht
  exact r_repr hd h1 hp (small (Nat.le_trans h2 hz)) h
theorem Dp.intsD {a : Addr} {ns : List Int} (h : SqL K H a (ns.map V.int)) : Dp K H (.ref a) (intsD ns) := .lst h (DpAll.ints ns)
theorem r_reprI {a : Addr} (ns : List Int) (hs : SqL K H a (ns.map V.int)) (hb : ∀ n ∈ ns, n.natAbs < 2 ^ 1900) (hl : ns.length ≤ 40) (h : Q (.str (intsD ns).shown) H) : rRepr K [.ref a] H Q := by
  refine r_reprD (intsD ns) (Dp.intsD hs) (tameInts ns hb) ?_ ?_ h
  · show PyData.depthAll (ns.map PyData.int) + 1 ≤ 40
    rw [depthInts]; decide
  · show 4 + roomAll (ns.map PyData.int) ≤ 100000
    rw [roomInts]; omega
/-- a list times a number -/
theorem r_rep {a : Addr} {xs : List V} {k : Int} (hl : H a = some (.lst xs)) (h0 : 0 ≤ k) (h1 : k ≤ 1000) (hx : xs.length ≤ 1000) (h : ∀ p, H p = none → Q (.ref p) (upd H p (.lst (List.replicate k.toNat xs).flatten))) : rRep (.ref a) (.int k) H Q := by
  refine ⟨a, k, xs, rfl, rfl, hl, by omega, by omega, ?_, h⟩
  have : xs.length * k.toNat ≤ 1000 * 1000 := Nat.mul_le_mul hx (by omega)
  exact Nat.le_trans this (by decide)
theorem eqvInts : ∀ ns ms : List Int, PyData.eqvAll (ns.map PyData.int) (ms.map PyData.int) = decide (ns = ms)
  | [], [] => rfl
  | [], _ :: _ => rfl
  | _ :: _, [] => rfl
  | n :: ns, m :: ms => by
    show (n == m && PyData.eqvAll (ns.map PyData.int) (ms.map PyData.int)) = _
    rw [eqvInts ns ms]
    by_cases e : n = m
    · subst e
      by_cases e2 : ns = ms
      · subst e2; simp
      · simp [e2]
    · simp [e]
theorem canInts : ∀ ns : List Int, PyData.canLayAll0 (ns.map PyData.int) = true
  | [] => rfl
  | n :: ns => by
    show (PyData.canLay0 (.int n) && PyData.canLayAll0 (ns.map PyData.int)) = true
    rw [canInts ns]; rfl
theorem shapedInts (ns : List Int) : SeqAt.shaped (intsD ns) = true := by
  unfold SeqAt.shaped
  rw [Bool.and_eq_true]
  refine ⟨canInts ns, decide_eq_true ?_⟩
  show PyData.depthAll (ns.map PyData.int) + 1 ≤ 64
  rw [depthInts]; decide
/-- two lists of ints compared -/
theorem r_neI {a b : Addr} (ns ms : List Int) (h1 : SqL K H a (ns.map V.int)) (h2 : SqL K H b (ms.map V.int)) (h : Q (.bl (!decide (ns = ms))) H) : rNeD K (.ref a) (.ref b) H Q := by
  refine r_neD (Dp.intsD h1) (Dp.intsD h2) (shapedInts ns) (shapedInts ms) ?_
  rw [show PyData.eqv (intsD ns) (intsD ms) = decide (ns = ms) from eqvInts ns ms]
  exact h
theorem r_eqI {a b : Addr} (ns ms : List Int) (h1 : SqL K H a (ns.map V.int)) (h2 : SqL K H b (ms.map V.int)) (h : Q (.bl (decide (ns = ms))) H) : rEqD K (.ref a) (.ref b) H Q := by
  refine r_eqD (Dp.intsD h1) (Dp.intsD h2) (shapedInts ns) (shapedInts ms) ?_
  rw [show PyData.eqv (intsD ns) (intsD ms) = decide (ns = ms) from eqvInts ns ms]
  exact h
end
end Vf

namespace Vf
open PySem PySem.Spec PyProof.Rows L2
/-! ## the law's own call, from the promise of its def -/
section
variable {P : Program} {w : World} {K : PySem.W.Frag} {mg mb : Str → Option Value} {k : Nat} {fa a : Addr} {st : Stmt} {x y : Str} {sp : Sp} {s₁ : Shared} {vs : List Value} {ns : List Int}
/-- what the whole call is to come to -/
abbrev Told (s₁ : Shared) (r : Result) (s' : Shared) : Prop :=
  r = .ok (.ret (.bool true)) ∧ OldK s₁.heap s'.heap ∧ s'.os = s₁.os ∧ AllBare s'.gens
theorem law_g (KX : K.In s₁.heap) (hns : s₁.heap.Ns mainGlobals mg) (hb : s₁.heap.Ns builtinsNs mb) (hbb : ∀ z : Str, z ≠ "__name__" → mb z = bootBuiltins z)
    (hlim : s₁.heap.NoLimit) (hg : s₁.gens = #[]) (ha : s₁.heap.get? a = some { cls := .type "list", data := .seq vs.toArray }) (hi : IntsAre vs ns) (hl : ns.length ≤ sizeLine)
    (hr : Room k callerA) (hfa : mg x = some (.ref fa)) (F : ∀ base : Heap, K.In base → base.Ns mainGlobals mg → Ok P w K mg base k x st [y] sp)
    (B : ∀ f fd, L2.Fun K x x st f fd → L2.Binds K fd [y] [])
    (hsp : ∀ H : Hp, L2.Only H → SqL K H a (ns.map V.int) → sp [.ref a] H (fun v _ => v = .bl true) fun _ _ _ => False) :
    codeAny (model P w) callerA (.call (.ref fa) ⟨[.ref a], []⟩) (Told s₁) s₁ := by
  have rv := vals_ints hi
  -- over a heap that tracks the script alone, or nothing
  have run : ∀ H : Hp, L2.Only H → SqL K H a (ns.map V.int) → HOk P w H s₁.heap → (∀ b o, H b = some o → b = a ∧ K.lookup a = none) →
      codeAny (model P w) callerA (.call (.ref fa) ⟨[.ref a], []⟩) (Told s₁) s₁ := by
    intro H hO hS hok only
    -- the base: all that H does not track
    have dictNone : ∀ {b : Addr} {o : Obj} {es : Array DictEntry} {ep : Nat}, s₁.heap.get? b = some o → o.data = .dict es ep → H b = none := by
      intro b o es ep e d
      rcases hz : H b with _ | u
      · rfl
      · obtain ⟨rfl, _⟩ := only b u hz
        rw [ha] at e
        injection e with e
        rw [← e] at d
        exact absurd d (by intro z; injection z)
    have space : ∀ {b : Addr} {m : Str → Option Value}, s₁.heap.Ns b m → (hidT s₁.heap H).Ns b m := by
      rintro b m ⟨o, es, ep, e, d, rest⟩
      exact ⟨o, es, ep, hidT_get e (dictNone e d), d, rest⟩
    have kin : K.In (hidT s₁.heap H) := by
      intro b o e
      refine hidT_get (KX b o e) ?_
      rcases hz : H b with _ | u
      · rfl
      · obtain ⟨rfl, n⟩ := only b u hz
        rw [n] at e
        cases e
    obtain ⟨mc, hc1, hc2⟩ := hlim
    have env : Env0 P w K mg (hidT s₁.heap H) callerA [] s₁ H :=
      { frames := rfl, mod := ⟨kin, space hns, ⟨mb, space hb, hbb⟩, ⟨mc, space hc1, hc2⟩⟩, bs := fun b o e => of_hidT e, bsz := Nat.le_of_eq (hidT_size _ _)
        funs := trivial, frf := fun b z => absurd (show b ∈ ([] : List Addr) from z) List.not_mem_nil, hok := hok, bare := .of_eq hg }
    obtain ⟨⟨f, fd, G, hm, go⟩, _⟩ := F _ kin (space hns)
    have ef : f = fa := by
      rw [hfa] at hm
      injection hm with hm
      injection hm with hm
      exact hm.symm
    subst ef
    have bind := B f fd G s₁ [.ref a] KX rfl
    rw [List.append_nil] at bind
    refine codeAny_mono (go callerA [] s₁ H ⟨[.ref a], []⟩ [.ref a] [.ref a] (fun v _ => v = .bl true) (fun _ _ _ => False) rfl hr env bind (.cons rfl .nil) (hsp H hO hS)) ?_
    intro r s' h
    rcases r with e | fl
    · obtain ⟨_, _, _, _, _, _, _, _, _, _, _, _, z⟩ := h
      exact z.elim
    · rcases fl with _ | _ | _ | u
      · exact False.elim h
      · exact False.elim h
      · exact False.elim h
      · obtain ⟨v, H', os, bare, un, hok', rr, q⟩ := h
        have q2 : v = .bl true := q
        subst q2
        have eu : u = Value.bool true := rr
        subst eu
        refine ⟨rfl, OldK.of_keep (fun b o e => ?_), os, bare⟩
        rcases hz : H b with _ | u
        · exact un.keep b o e hz (fun z => absurd (show b ∈ ([] : List Addr) from z) List.not_mem_nil) List.not_mem_nil
        · rcases hO b with z | ⟨ob, xs, z⟩
          · rw [hz] at z; cases z
          · have e1 := (hok b _ z).1
            have e2 := (hok' b _ (un.frzs b ob _ z)).1
            rw [e] at e1
            rw [e2, e1]
  rcases hk : K.lookup a with _ | o
  · -- the script is no object of the module: it is tracked, as a locked list
    let sc : Obj := { cls := .type "list", data := .seq vs.toArray }
    let H : Hp := fun b => if b = a then some (.frz sc (.lst (ns.map V.int))) else none
    have at_ : H a = some (.frz sc (.lst (ns.map V.int))) := if_pos rfl
    have off : ∀ b, b ≠ a → H b = none := fun b n => if_neg n
    have here : ∀ b o, H b = some o → b = a := fun b o e => by
      by_cases n : b = a
      · exact n
      · rw [off b n] at e; cases e
    refine run H (fun b => ?_) (Or.inl (Or.inr ⟨sc, at_⟩)) (fun b o e => ?_) (fun b o e => ⟨here b o e, hk⟩)
    · by_cases n : b = a
      · subst n; exact Or.inr ⟨_, _, at_⟩
      · exact Or.inl (off b n)
    · have n := here b o e
      subst n
      rw [at_] at e
      injection e with e
      subst e
      exact ⟨ha, by rw [List.length_map]; exact hl, vs, _, rv, ha⟩
  · -- it is one
    have e := KX a o hk
    rw [ha] at e
    injection e with e
    subst e
    refine run (fun _ => none) (fun _ => Or.inl rfl) (Or.inr ⟨_, vs.toArray, _, hk, rfl, rfl, rfl, ?_, ?_⟩) (fun b u z => ?_) (fun b u z => ?_)
    · rw [List.size_toArray, hi.length]; exact hl
    · simpa using rv
    · cases (show (none : Option HO) = some u from z)
    · cases (show (none : Option HO) = some u from z)
end
/-- the end of a law: the promise of its def, with the script's bits told -/
theorem walk_g {l : PySem.W.OpenLaw} {n k : Nat} {q : Program} {loose : List Str} {XP : (Str → Option Value) → Heap → Prop} {YP : World → Heap → Prop} {d : DefRec} {K : Params → PySem.W.Frag} {sp : PySem.W.Frag → Sp} {y : Str} {st : Stmt}
    (hn : l.most = some n) (hn2 : n ≤ sizeLine) (hdf : d.params.defaults = []) (hr : Room k callerA) (hY : ∀ (w : World) (h : Heap), YP w h → (K w.params).In h)
    (F : ∀ (w : World) (mg : Str → Option Value) (h : Heap), (K w.params).In h → h.Ns mainGlobals mg → ∀ base : Heap, (K w.params).In base → base.Ns mainGlobals mg → Ok l.prog w (K w.params) mg base k d.name st [y] (sp (K w.params)))
    (B : ∀ (w : World) f fd, L2.Fun (K w.params) d.name d.name st f fd → L2.Binds (K w.params) fd [y] [])
    (hsp : ∀ (w : World) (H : Hp) (a : Addr) (ns : List Int), ns.length ≤ n → (∀ z ∈ ns, Builtin.Int.intBits z ≤ 1048576) → SqL (K w.params) H a (ns.map V.int) → sp (K w.params) [.ref a] H (fun v _ => v = .bl true) fun _ _ _ => False) :
    PySem.W.WalkO q loose XP YP l.row.toRowW d [] (fun f vs => PySem.call f vs) := by
  refine Att.attach_callB hn hdf fun w s₀ s₁ mg mb fa o pm cd doc a vs ns G Y ho hd hcd hmg hobj hints hlen hbits hg => ?_
  have KX := hY w _ Y
  exact law_g KX G.T.g G.T.b G.T.builtins G.T.nolimit hg hobj hints (Nat.le_trans hlen hn2) hr hmg (F w mg _ KX G.T.g) (B w) fun H hO hS => hsp w H a ns hlen hbits hS
end Vf

namespace Vf
open PySem PySem.Spec PyProof.Rows L2
/-! ## enumerate(t), t a tuple -/
section
open AutoSeq1 (wpAny_loadPart')
/-- what enumerate makes of a tuple: its iterator, then the object that counts -/
def enT (h : Heap) (a : Addr) : Heap := h.push { cls := .type "tuple_iterator", data := .fields #[.ref a, .int 0 0] }
def enE (h : Heap) : Obj := { cls := .type "enumerate", data := .fields #[.none, .bool false, .ref h.objs.size, rawInt 0, .none, .none] }
theorem meets_enT (a : Addr) (items : Array Value) (n : Nat) (dct : Option Addr) (sl : Array (Option Value)) :
    Meets (Builtin.«enumerate.__new__» ⟨[.type "enumerate", .ref a], []⟩)
      (fun _ R s => s.heap.get? a = some { cls := .type "tuple", dict := dct, data := .seq items n, slots := sl } ∧
        R (.ok (.ret (.ref (enT s.heap a).objs.size))) { s with heap := (enT s.heap a).push (enE s.heap) }) :=
  .of_wp fun prog w A R s h => by
    obtain ⟨hp, g, d, tk, os⟩ := s
    obtain ⟨ho, h⟩ := h
    have sub := sub_enumerate
    have tup : Heap.IsTuple (Shared.heap ⟨hp, g, d, tk, os⟩) a items := ⟨_, ho, rfl, n, rfl⟩
    wp_walk using wpAny_loadPart' ho
    refine wpAny_stack_any fun st => wpAny_pure ?_
    split
    · rename_i c _ _ _ _ _
      rcases (c == Value.type "enumerate") with _ | _
      · wp_walk using wpAny_loadPart' ho, wpAny_pyIter_tuple tup
        exact ⟨_, rfl, h⟩
      · wp_walk using wpAny_loadPart' ho, wpAny_pyIter_tuple tup
        exact ⟨_, rfl, h⟩
    · wp_walk using wpAny_loadPart' ho, wpAny_pyIter_tuple tup
      exact ⟨_, rfl, h⟩
end
section
variable {prog : Program} {w : World} {A : Around} {E : Value → Shared → Prop} {s : Shared}
theorem call_enT {a : Addr} {items : Array Value} {Q : Value → Shared → Prop} (tup : s.heap.IsTuple a items)
    (h : ∀ h', IsEnum h' (s.heap.objs.size + 1) s.heap.objs.size 0 .none → h'.IsTupleIter s.heap.objs.size a 0 →
      (∀ b o, s.heap.get? b = some o → h'.get? b = some o) → Q (.ref (s.heap.objs.size + 1)) { s with heap := h' }) :
    wpAny (model prog w) A (call (.type "enumerate") [.ref a]) Q E s := by
  obtain ⟨⟨c, dct, dt, sl⟩, ho, hc, n, hd⟩ := tup
  cases (show c = .type "tuple" from hc)
  cases (show dt = .seq items n from hd)
  have sz : (enT s.heap a).objs.size = s.heap.objs.size + 1 := Heap.size_push ..
  have it0 : (enT s.heap a).get? s.heap.objs.size = some { cls := .type "tuple_iterator", data := .fields #[.ref a, .int 0 0] } := Heap.get?_push_size _ rfl
  have en0 : ((enT s.heap a).push (enE s.heap)).get? (s.heap.objs.size + 1) = some (enE s.heap) := by
    rw [← sz]
    exact Heap.get?_push_size _ rfl
  refine callType_new F.called_enumerate (by decide) (F.typeCall_enumerate_1 _) (F.newCall_enumerate_1 _)
    (fun obj => F.args_object_init_2 obj _) F.entry_enumerate_new (meets_enT a items n dct sl) ⟨ho, ?_⟩
  show _ ∧ _
  rw [sz]
  exact ⟨⟨_, en0, rfl⟩, h _ en0 ⟨_, Heap.get?_push_of_some _ it0, rfl, rfl⟩ fun b o e => Heap.get?_push_of_some _ (Heap.get?_push_of_some _ e)⟩
end
theorem drawsT {prog : Program} {w : World} {A : Around} (hh : A.handled = none) (it a : Addr) (ne : a ≠ it) (items : Array Value) :
    Draws prog w A it [it, a] items.size (fun i v => items[i]? = some v) (fun i h => h.IsTupleIter it a i ∧ h.IsTuple a items) where
  live := fun i h st => by
    obtain ⟨⟨o, ho, _⟩, _⟩ := st
    exact ⟨o, ho⟩
  frame := fun i h h' st k => by
    obtain ⟨⟨o, ho, r⟩, ⟨o2, ho2, r2⟩⟩ := st
    exact ⟨⟨o, k it (by simp) o ho, r⟩, ⟨o2, k a (by simp) o2 ho2, r2⟩⟩
  item := fun i s Q E hi st q => RZ.nextOf_tuple_item st.1 st.2 (x := items[i]) (by simp [hi]) fun h' hit sb =>
    q _ h' s.toks (by simp [hi]) ⟨hit, by
      obtain ⟨o2, ho2, r2⟩ := st.2
      exact ⟨o2, (sb.2 a ne).trans ho2, r2⟩⟩ sb
  done := fun s Q E st q => RZ.nextOf_tuple_end hh st.1 st.2 (by simp) q
/-- the tuple at a, each item in a new pair with its place -/
def ItE (K : PySem.W.Frag) (a : Addr) : It :=
  ⟨fun i H => ∃ (xs : List V) (x : V), SqT K H a xs ∧ xs[i]? = some x,
   fun i H v H' => ∃ T x, v = .ref T ∧ H T = none ∧ H' = upd H T (.tup [.int (i : Nat), x]) ∧ ∀ xs, SqT K H a xs → xs[i]? = some x,
   fun i H => ∃ xs : List V, SqT K H a xs ∧ xs.length ≤ i⟩
def EnAt (a e it : Addr) (i : Nat) (h : Heap) : Prop := (∃ old, IsEnum h e it ((i : Nat) : Int) old) ∧ h.IsTupleIter it a i ∧ e ≠ it ∧ e ≠ a ∧ it ≠ a
theorem turn_enT {P : Program} {w : World} {K : PySem.W.Frag} {elts : List Expr} {kk : Nat} {tpos : Pos} (a e it : Addr) :
    Turn P w K (.Tuple elts kk tpos) (ItE K a) [e, it] e (EnAt a e it) where
  mem := List.mem_cons_self
  obj := fun i h st b hb => by
    obtain ⟨⟨old, he⟩, ⟨o, ho, hc, hd⟩, _⟩ := st
    rcases List.mem_cons.mp hb with rfl | hb
    · exact ⟨_, he, fun v q => nomatch q⟩
    · rw [List.mem_singleton.mp hb]
      exact ⟨o, ho, fun v q => by rw [hd] at q; cases q⟩
  keep := fun i h h' st k => by
    obtain ⟨⟨old, he⟩, ⟨o, ho, r⟩, n⟩ := st
    exact ⟨⟨old, k e (by simp) _ he⟩, ⟨o, k it (by simp) _ ho, r⟩, n⟩
  item := by
    intro X hP hw hK hc i pins s σ H E I hf st hg
    subst hP hw hK
    obtain ⟨⟨old, he⟩, hit, n1, n2, n3⟩ := st
    obtain ⟨xs, x, hq, hx⟩ := hg
    obtain ⟨its, rv, p, hz⟩ := I.tuple hq
    obtain ⟨u, hu, ru⟩ := rv.get hx
    have tup : s.heap.IsTuple a its.toArray := p
    have hel := Heap.lt_size he
    have hil : it < s.heap.objs.size := by
      obtain ⟨_, q, _⟩ := hit
      exact Heap.lt_size q
    have hi : i < its.toArray.size := by
      rw [List.size_toArray]
      exact (List.getElem?_eq_some_iff.mp hu).1
    refine wpAny_pyNext_enum_itemD (drawsT (A := X.A.in1) (I.ok.hd hc) it a n3.symm its.toArray) he ⟨hit, tup⟩ hi n1 (by simp [n1, n2]) fun y h' tk hy ho st' hT hsz hk => ?_
    have eyu : y = u := by
      have h1 : its[i]? = some y := by simpa using hy
      rw [hu] at h1
      exact (Option.some.inj h1).symm
    subst eyu
    refine ⟨_, rfl, wpAny_letOwnedTupleGo_enum (s := { s with heap := h', toks := tk + 1 }) ho fun h'' he' sb => ?_⟩
    have hT2 : h''.get? s.heap.objs.size = some { cls := .type "tuple", data := .seq #[.int i tk, y] } := (sb.2 _ (Nat.ne_of_gt hel)).trans hT
    have new : ObjOk X.prog X.w (upd H s.heap.objs.size (.tup [.int (i : Nat), x])) h'' s.heap.objs.size (.tup [.int (i : Nat), x]) :=
      ⟨by show 2 ≤ sizeLine; decide, [.int i tk, y], .cons ⟨_, rfl⟩ (.cons ru .nil), ⟨_, hT2, rfl, _, rfl⟩⟩
    have stay : ∀ b ob, b ∉ [e, it] → s.heap.get? b = some ob → h''.get? b = some ob := fun b ob hb q =>
      (sb.2 b (fun z => hb (by simp [z]))).trans (hk b ob (fun z => hb (by simp [z])) (fun z => hb (by simp [z])) q)
    have I1 := I.turnedNew (t' := tk + 1) (ch := [e, it]) stay hf (Nat.le_refl _) new
    refine ⟨.ref s.heap.objs.size, _, I1, rfl, ⟨_, x, rfl, I.hok.fresh (Nat.le_refl _), rfl, fun ys hy2 => by rw [I.tuple_inj hy2 hq]; exact hx⟩, ⟨⟨y, ?_⟩, ?_, n1, n2, n3⟩, fun b hb => ?_⟩
    · rw [show ((i + 1 : Nat) : Int) = (i : Int) + 1 by omega]
      exact he'
    · obtain ⟨o, ho2, r⟩ := st'.1
      exact ⟨o, (sb.2 it n1.symm).trans ho2, r⟩
    · have lt : b < s.heap.objs.size := by
        rcases List.mem_cons.mp hb with rfl | hb
        · exact hel
        · rw [List.mem_singleton.mp hb]; exact hil
      rw [upd_ne (Nat.ne_of_lt lt)]
      exact (hf b hb).1
  done := by
    intro X hP hw hK hc i pins s σ H E I hf st hg
    subst hP hw hK
    obtain ⟨⟨old, he⟩, hit, n1, n2, n3⟩ := st
    obtain ⟨xs, hq, hx⟩ := hg
    obtain ⟨its, rv, p, hz⟩ := I.tuple hq
    obtain ⟨f0, f1, f2, f3, f4, f5⟩ := hf it (by simp)
    have tup : s.heap.IsTuple a its.toArray := p
    have hT : s.TypeIs (.ref e) "enumerate" := ⟨_, he, rfl⟩
    have hl := rv.length
    unfold pyNext
    refine wpAny_bind (wpAny_attempt (wpAny_callSpecial?_slot (name := Str.ofString "__next__") hT F.slot_enumerate_next
      (wpAny_call_entry F.slot_enumerate_next hT F.entry_enumerate_next ?_ (F.args_enumerate_next_1 _))))
    show wpAny _ _ (field (.ref e) 2 >>= _) _ _ _
    refine wpAny_bind (wpAny_field he rfl (x := .ref it) rfl ?_)
    refine wpAny_bind (RZ.nextOf_tuple_end (A := X.A.in1) (I.ok.hd hc) hit tup (by simp; omega) fun h' z hb hz2 => ?_)
    obtain ⟨o, ho, hcl⟩ := hz2
    refine wpAny_bind (wpAny_isInstance (T := "StopIteration") (b := true) ⟨o, ho, hcl⟩ isSubtype_stop ?_)
    exact wpAny_pure ⟨rfl, I.turned (t' := s.toks) (fun b o hb2 q => hb b o hb2 q) f0 f1 f3 f4 f5⟩
  self := fun A i s Q E st h => by
    obtain ⟨⟨_, he⟩, _⟩ := st
    exact wpAny_pyIter_enum he h
def iEn (K : PySem.W.Frag) (ta : TA) : TI := fun σ H R => ta σ H fun vs H1 => ∃ a xs, vs = [.ref a] ∧ SqT K H1 a xs ∧ R (ItE K a) H1
theorem i_enT {X : Cx} {K : PySem.W.Frag} {e : Expr} {ta : TA} {p pos tpos : Pos} {elts : List Expr} {kk : Nat} (ek : X.K = K) (hg : Gl X "enumerate") (hm : X.mg "enumerate" = none) (ha : PA X [e] ta)
    (hs : starEach [e] X.env = [(false, eval e X.env)] := by rfl) : PI X (.Tuple elts kk tpos) (.Call (.Name "enumerate" p) [e] [] pos) (iEn K ta) := by
  subst ek
  refine ⟨fun pins s σ H R I h => ?_⟩
  refine Call_ (ld_blt I hg hm boot_enumerate (PyProof.Rows.callWith_type1 (thn (ha.run pos pins s σ H _ I h) fun us s1 ⟨vs, H1, I1, r1, q1⟩ => ?_) hs rfl))
  obtain ⟨a, xs, rfl, hq, q⟩ := q1
  have eu := Vals.ref1 r1
  subst eu
  obtain ⟨its, rv, tup, hz⟩ := I1.tuple hq
  have hal : a < s1.heap.objs.size := tup.lt
  refine call_enT tup fun h' he hit hk => wpAny_pyIter_enum he ?_
  refine ⟨s1.heap.objs.size + 1, [s1.heap.objs.size + 1, s1.heap.objs.size], EnAt a (s1.heap.objs.size + 1) s1.heap.objs.size, _, H1, rfl, I1.kept (t' := s1.toks) hk, turn_enT a _ _,
    ⟨⟨.none, he⟩, hit, Nat.succ_ne_self _, Nat.ne_of_gt (Nat.lt_succ_of_lt hal), Nat.ne_of_gt hal⟩, fun b hb => ?_, q⟩
  have le : s1.heap.objs.size ≤ b := by
    rcases List.mem_cons.mp hb with rfl | hb
    · exact Nat.le_succ _
    · rw [List.mem_singleton.mp hb]; exact Nat.le_refl _
  exact I1.fpOk le (I1.hok.fresh le)
/-- slices -/
theorem r_slL {K : PySem.W.Frag} {H : Hp} {Q : VK} {a : Addr} {xs : List V} {lo hi : Option Int} (hs : SqL K H a xs) (h : ∀ p, H p = none → Q (.ref p) (upd H p (.lst (cutV xs lo hi)))) : rSlL K (.ref a) lo hi H Q := ⟨a, xs, rfl, hs, h⟩
theorem r_sl {r : V → Option Int → Option Int → Hp → VK → Prop} {te : TE} {tl th : TO} {σ : L2.St} {H : Hp} {Q : VK} (h : te σ H fun x H1 => tl σ H1 fun l H2 => th σ H2 fun u H3 => r x l u H3 Q) : tSl r te tl th σ H Q := h
theorem r_noPart {σ : L2.St} {H : Hp} {R : Option Int → Hp → Prop} (h : R none H) : tNoPart σ H R := h
theorem r_part {t : TE} {σ : L2.St} {H : Hp} {R : Option Int → Hp → Prop} (h : t σ H fun x H1 => ∃ i, x = .int i ∧ R (some i) H1) : tPart t σ H R := h
theorem cut_to (xs : List V) (n : Nat) : cutV xs none (some (n : Int)) = xs.take n := by
  unfold cutV
  rw [HT.sIx_none, HT.sIx_nat, List.drop_zero, Nat.sub_zero]
  rcases Nat.le_total n xs.length with h | h
  · rw [Nat.min_eq_left h]
  · rw [Nat.min_eq_right h, List.take_length, List.take_of_length_le h]
/-- a walk of a tuple with its places -/
theorem r_forEn {K : PySem.W.Frag} {g : TG} {tb : TS} {D : Ends} {σ : L2.St} {H : Hp} {a : Addr} (xs : List V) (Pv : Nat → L2.St → Hp → Prop) (h0 : Pv 0 σ H) (hl : ∀ i σ H, i ≤ xs.length → Pv i σ H → SqT K H a xs)
    (hs : ∀ i x σ H T, xs[i]? = some x → Pv i σ H → H T = none → g (.ref T) σ (upd H T (.tup [.int (i : Nat), x])) fun σ2 H2 => tb { D with nx := Pv (i + 1), ct := Pv (i + 1), bk := D.nx } σ2 H2)
    (hd : ∀ σ H, Pv xs.length σ H → D.nx σ H) : tFor (fun _ H2 R => R (ItE K a) H2) g tb D σ H := by
  refine ⟨fun i m σ H => m = xs.length - i ∧ i ≤ xs.length ∧ Pv i σ H, ⟨xs.length, by omega, Nat.zero_le _, h0⟩, ?_⟩
  rintro i m σ H ⟨rfl, hi, p⟩
  have q := hl i σ H hi p
  by_cases lt : i < xs.length
  · refine Or.inr ⟨⟨xs, xs[i], q, by simp [lt]⟩, Pv (i + 1), fun σ' H' p' => ⟨xs.length - (i + 1), by omega, rfl, lt, p'⟩, fun x H' y => ?_⟩
    obtain ⟨T, z, rfl, nT, rfl, fz⟩ := y
    exact hs i z σ H T (fz xs q) p nT
  · have e : i = xs.length := by omega
    subst e
    exact Or.inl ⟨⟨xs, q, Nat.le_refl _⟩, hd σ H p⟩
theorem r_forE {K : PySem.W.Frag} {g : TG} {tb : TS} {D : Ends} {σ : L2.St} {H : Hp} {ta : TA} (h : ta σ H fun vs H1 => ∃ a xs, vs = [.ref a] ∧ SqT K H1 a xs ∧ tFor (fun _ H2 R => R (ItE K a) H2) g tb D σ H1) : tFor (iEn K ta) g tb D σ H := h
end Vf

namespace Vf
/-! ## the greatest common divisor as a sum of both -/
/-- behind the first turn: both rests have one sign s, the factors of the first number go up and down by turns -/
def Bl (y u nu l r : Int) : Prop := ∃ (s e : Int) (p q a b : Nat), (s = 1 ∨ s = -1) ∧ (e = 1 ∨ e = -1) ∧ l = s * a ∧ r = s * b ∧ u = e * p ∧ nu = -(e * q) ∧ p * b + q * a = y.natAbs ∧ b < a ∧ p ≤ y.natAbs ∧ a ≤ y.natAbs
structure Bz (x y u v nu nv l r : Int) : Prop where
  e1 : u * x + v * y = l
  e2 : nu * x + nv * y = r
  g : Nat.gcd l.natAbs r.natAbs = Nat.gcd x.natAbs y.natAbs
  st : (u = 1 ∧ v = 0 ∧ nu = 0 ∧ nv = 1 ∧ l = x ∧ r = y) ∨ (y ≠ 0 ∧ Bl y u nu l r)
theorem Bz.first (x y : Int) : Bz x y 1 0 0 1 x y := ⟨by omega, by omega, rfl, .inl ⟨rfl, rfl, rfl, rfl, rfl, rfl⟩⟩
theorem nat_gcd_sub (l r t : Int) : Nat.gcd r.natAbs (l - t * r).natAbs = Nat.gcd l.natAbs r.natAbs := by
  have h : Int.gcd r (l - t * r) = Int.gcd r l := Int.gcd_sub_mul_right_right r l t
  rw [show Nat.gcd r.natAbs (l - t * r).natAbs = Int.gcd r (l - t * r) from rfl, h, Int.gcd_comm]
  rfl
theorem sgn_abs {s : Int} (h : s = 1 ∨ s = -1) (n : Nat) : (s * n).natAbs = n := by
  rcases h with h | h <;> subst h <;> omega
theorem fmod_neg (l r : Int) (h : r < 0) : l.fmod r ≤ 0 ∧ r < l.fmod r := by
  have e := Int.neg_fmod_neg (-l) (-r)
  rw [Int.neg_neg, Int.neg_neg] at e
  have h1 := Int.fmod_nonneg_of_pos (-l) (show 0 < -r by omega)
  have h2 := Int.fmod_lt_of_pos (-l) (show 0 < -r by omega)
  omega
theorem Bl.step {y u nu l r : Int} (h : Bl y u nu l r) (hr : r ≠ 0) : Bl y nu (u - l.fdiv r * nu) r (l - l.fdiv r * r) := by
  obtain ⟨s, e, p, q, a, b, hs, he, hl, hrr, hu, hnu, hy, hab, hp, ha⟩ := h
  have hb : 0 < b := by
    rcases Nat.eq_zero_or_pos b with z | z
    · subst z
      exact absurd (by rw [hrr]; simp) hr
    · exact z
  have ht : l.fdiv r = ((a / b : Nat) : Int) := by
    rw [hl, hrr]
    rcases hs with z | z <;> subst z
    · rw [Int.one_mul, Int.one_mul, Int.fdiv_eq_ediv_of_nonneg _ (by omega)]
      rfl
    · rw [Int.neg_mul, Int.neg_mul, Int.one_mul, Int.one_mul, Int.neg_fdiv_neg, Int.fdiv_eq_ediv_of_nonneg _ (by omega)]
      rfl
  have hd := Nat.div_add_mod a b
  have hm := Nat.mod_lt a hb
  rw [ht]
  generalize a / b = d at *
  generalize a % b = m at *
  have hd' : (b : Int) * d + m = a := by rw [← hd, Int.natCast_add, Int.natCast_mul]
  refine ⟨s, -e, q, p + d * q, b, m, hs, by omega, hrr, ?_, ?_, ?_, ?_, hm, ?_, by omega⟩
  · rw [hl, hrr, ← hd']
    grind
  · rw [hnu]; grind
  · rw [hu, hnu, Int.natCast_add, Int.natCast_mul]; grind
  · rw [← hy, ← hd]; grind
  · rw [← hy]
    have : q * 1 ≤ q * a := Nat.mul_le_mul_left q (by omega)
    omega
theorem Bz.step {x y u v nu nv l r : Int} (h : Bz x y u v nu nv l r) (hr : r ≠ 0) :
    Bz x y nu nv (u - l.fdiv r * nu) (v - l.fdiv r * nv) r (l - l.fdiv r * r) ∧ (l - l.fdiv r * r).natAbs < r.natAbs := by
  have key : l - l.fdiv r * r = l.fmod r := by rw [Int.fmod_def, Int.mul_comm]
  have lt : (l - l.fdiv r * r).natAbs < r.natAbs := by
    rw [key]
    rcases Int.lt_or_gt_of_ne hr with z | z
    · have h1 := fmod_neg l r z
      omega
    · have h1 := Int.fmod_nonneg_of_pos l z
      have h2 := Int.fmod_lt_of_pos l z
      omega
  refine ⟨⟨h.e2, ?_, ?_, .inr ?_⟩, lt⟩
  · have h1 := h.e1
    have h2 := h.e2
    grind
  · rw [nat_gcd_sub]; exact h.g
  · rcases h.st with ⟨e1, e2, e3, e4, e5, e6⟩ | ⟨hy, b⟩
    · subst e1 e2 e3 e4 e5 e6
      refine ⟨hr, ?_⟩
      rcases Int.lt_or_gt_of_ne hr with z | z
      · have h1 := (fmod_neg l r z).1
        refine ⟨-1, -1, 0, 1, r.natAbs, (l - l.fdiv r * r).natAbs, .inr rfl, .inr rfl, by omega, by omega, by omega, by omega, by omega, lt, by omega, by omega⟩
      · have h1 := Int.fmod_nonneg_of_pos l z
        refine ⟨1, -1, 0, 1, r.natAbs, (l - l.fdiv r * r).natAbs, .inl rfl, .inr rfl, by omega, by omega, by omega, by omega, by omega, lt, by omega, by omega⟩
    · exact ⟨hy, b.step hr⟩
theorem abs_of_mul {v y : Int} {B : Nat} (hy : y ≠ 0) (h : (v * y).natAbs ≤ B) : v.natAbs ≤ B := by
  rw [Int.natAbs_mul] at h
  exact Nat.le_trans (Nat.le_mul_of_pos_right _ (by omega)) h
theorem Bz.bounds {x y u v nu nv l r : Int} {B : Nat} (h : Bz x y u v nu nv l r) (hx : x.natAbs ≤ B) (hy : y.natAbs ≤ B) (hB : 1 ≤ B) :
    u.natAbs ≤ B ∧ nu.natAbs ≤ B ∧ l.natAbs ≤ B ∧ r.natAbs ≤ B ∧ v.natAbs ≤ B + B * B ∧ nv.natAbs ≤ B + B * B := by
  rcases h.st with ⟨e1, e2, e3, e4, e5, e6⟩ | ⟨h0, s, e, p, q, a, b, hs, he, hl, hrr, hu, hnu, hyy, hab, hp, ha⟩
  · subst e1 e2 e3 e4 e5 e6
    refine ⟨by omega, by omega, hx, hy, by omega, by omega⟩
  · have q1 : q ≤ y.natAbs := by
      rw [← hyy]
      have : q * 1 ≤ q * a := Nat.mul_le_mul_left q (by omega)
      omega
    have hub : u.natAbs ≤ B := by rw [hu, sgn_abs he]; omega
    have hnub : nu.natAbs ≤ B := by rw [hnu, Int.natAbs_neg, sgn_abs he]; omega
    have ra : r.natAbs = b := by rw [hrr, sgn_abs hs]
    have la : l.natAbs = a := by rw [hl, sgn_abs hs]
    have mb : ∀ (f : Int), f.natAbs ≤ B → (f * x).natAbs ≤ B * B := fun f hf => by
      rw [Int.natAbs_mul]; exact Nat.mul_le_mul hf hx
    have m1 := mb u hub
    have m2 := mb nu hnub
    have e1 := h.e1
    have e2 := h.e2
    refine ⟨hub, hnub, by omega, by omega, abs_of_mul h0 (by omega), abs_of_mul h0 (by omega)⟩
end Vf

namespace Vf
/-! ## two rests made one -/
theorem emod_unique {x r n q : Int} (h : x = r + n * q) (h0 : 0 ≤ r) (h1 : r < n) : x % n = r := by
  rw [h, Int.add_mul_emod_self_left]
  exact Int.emod_eq_of_lt h0 h1
/-- u is, by the step, what turns b / g back -/
theorem merge_math {x b c g bt ct u w : Int} (hb : 0 < b) (hc : 0 < c) (hg : 0 < g) (eb : b = g * bt) (ec : c = g * ct) (hu : u * bt = 1 + ct * w) :
    (x % c - x % b) % g = 0 ∧ x % b + b * (((x % c - x % b) / g * (u % ct)) % ct) = x % (b * ct) := by
  have hct : 0 < ct := by
    rcases Int.lt_trichotomy ct 0 with z | z | z
    · have := Int.mul_neg_of_pos_of_neg hg z; omega
    · subst z; omega
    · exact z
  have d1 := Int.emod_add_mul_ediv x b
  have d2 := Int.emod_add_mul_ediv x c
  generalize hr : x % b = r at *
  generalize hs : x % c = s at *
  generalize x / b = q at *
  generalize x / c = v at *
  have hr0 : 0 ≤ r := by rw [← hr]; exact Int.emod_nonneg _ (by omega)
  have hrb : r < b := by rw [← hr]; exact Int.emod_lt_of_pos _ hb
  -- the difference of the rests is g times d
  have hd : s - r = g * (bt * q - ct * v) := by
    subst eb ec
    have h1 : g * (bt * q - ct * v) = g * bt * q - g * ct * v := by grind
    rw [h1]
    omega
  have e0 : (s - r) % g = 0 := by rw [hd]; exact Int.mul_emod_right g _
  refine ⟨e0, ?_⟩
  have e1 : (s - r) / g = bt * q - ct * v := by rw [hd]; exact Int.mul_ediv_cancel_left _ (by omega)
  rw [e1]
  -- times is q, by the step
  have e2 : ((bt * q - ct * v) * (u % ct)) % ct = q % ct := by
    rw [Int.mul_emod, Int.emod_emod_of_dvd _ (Int.dvd_refl ct), ← Int.mul_emod]
    have : (bt * q - ct * v) * u = q + ct * (w * q - v * u) := by grind
    rw [this, Int.add_mul_emod_self_left]
  rw [e2]
  have dq := Int.emod_add_mul_ediv q ct
  have t0 := Int.emod_nonneg q (show ct ≠ 0 by omega)
  have t1 := Int.emod_lt_of_pos q hct
  generalize q % ct = t at *
  generalize q / ct = k at *
  refine (emod_unique (q := k) ?_ ?_ ?_).symm
  · rw [← d1, ← dq]; grind
  · have := Int.mul_nonneg (show 0 ≤ b by omega) t0
    omega
  · have h2 : b * (t + 1) ≤ b * ct := Int.mul_le_mul_of_nonneg_left (by omega) (by omega)
    rw [Int.mul_add, Int.mul_one] at h2
    omega
/-- least common multiples of some bases -/
def lcmAll (fs : List (Int × Int)) : Nat := fs.foldl (fun m p => Nat.lcm m p.2.natAbs) 1
theorem lcmAll_append (fs gs : List (Int × Int)) : lcmAll (fs ++ gs) = gs.foldl (fun m p => Nat.lcm m p.2.natAbs) (lcmAll fs) := by
  unfold lcmAll
  rw [List.foldl_append]
theorem lcmAll_snoc (fs : List (Int × Int)) (p : Int × Int) : lcmAll (fs ++ [p]) = Nat.lcm (lcmAll fs) p.2.natAbs := lcmAll_append fs [p]
/-- facts that are right: a base from 1 on, a rest by it -/
def Fact (p : Int × Int) : Prop := 1 ≤ p.2 ∧ p.2 ≤ 10 ^ 30 ∧ 0 ≤ p.1 ∧ p.1 < p.2
theorem lcmAll_pos : ∀ (fs : List (Int × Int)) (m : Nat), (∀ p ∈ fs, Fact p) → 0 < m → 0 < fs.foldl (fun m p => Nat.lcm m p.2.natAbs) m
  | [], _, _, h => h
  | p :: fs, m, hf, h => by
    have hp := hf p List.mem_cons_self
    exact lcmAll_pos fs _ (fun q hq => hf q (List.mem_cons_of_mem _ hq)) (Nat.lcm_pos h (by have := hp.1; omega))
theorem lcm_le_mul (a b : Nat) : Nat.lcm a b ≤ a * b := Nat.div_le_self _ _
theorem lcmAll_le : ∀ (fs : List (Int × Int)) (m e : Nat), (∀ p ∈ fs, Fact p) → m ≤ 2 ^ e → fs.foldl (fun m p => Nat.lcm m p.2.natAbs) m ≤ 2 ^ (e + 100 * fs.length)
  | [], _, _, _, h => h
  | p :: fs, m, e, hf, h => by
    have hp := hf p List.mem_cons_self
    have h2 : p.2.natAbs ≤ 2 ^ 100 := by
      obtain ⟨h1, h2, _⟩ := hp
      omega
    have h3 : Nat.lcm m p.2.natAbs ≤ 2 ^ (e + 100) := by
      rw [Nat.pow_add]
      exact Nat.le_trans (lcm_le_mul _ _) (Nat.mul_le_mul h h2)
    have := lcmAll_le fs _ (e + 100) (fun q hq => hf q (List.mem_cons_of_mem _ hq)) h3
    have e1 : e + 100 + 100 * fs.length = e + 100 * (p :: fs).length := by rw [List.length_cons]; omega
    rw [e1] at this
    exact this
theorem dvd_lcmAll : ∀ (fs : List (Int × Int)) (m : Nat), m ∣ fs.foldl (fun m p => Nat.lcm m p.2.natAbs) m ∧ ∀ p ∈ fs, p.2.natAbs ∣ fs.foldl (fun m p => Nat.lcm m p.2.natAbs) m
  | [], m => ⟨Nat.dvd_refl m, fun _ h => nomatch h⟩
  | p :: fs, m => by
    obtain ⟨h1, h2⟩ := dvd_lcmAll fs (Nat.lcm m p.2.natAbs)
    refine ⟨Nat.dvd_trans (Nat.dvd_lcm_left _ _) h1, fun q hq => ?_⟩
    rcases List.mem_cons.mp hq with rfl | hq
    · exact Nat.dvd_trans (Nat.dvd_lcm_right _ _) h1
    · exact h2 q hq
theorem lcmAll_dvd : ∀ (fs : List (Int × Int)) (m d : Nat), m ∣ d → (∀ p ∈ fs, p.2.natAbs ∣ d) → fs.foldl (fun m p => Nat.lcm m p.2.natAbs) m ∣ d
  | [], _, _, h, _ => h
  | p :: fs, m, d, h, hf => lcmAll_dvd fs _ d (Nat.lcm_dvd h (hf p List.mem_cons_self)) fun q hq => hf q (List.mem_cons_of_mem _ hq)
/-- a number fits some facts -/
def Fits (x : Int) (fs : List (Int × Int)) : Prop := ∀ p ∈ fs, x % p.2 = p.1
/-- whoever fits the facts that x fits leaves the rest of x by their multiple -/
theorem fits_iff {x y : Int} {fs : List (Int × Int)} (hf : ∀ p ∈ fs, Fact p) (hx : Fits x fs) : Fits y fs ↔ (lcmAll fs : Int) ∣ y - x := by
  constructor
  · intro hy
    have : lcmAll fs ∣ (y - x).natAbs := by
      refine lcmAll_dvd fs 1 _ (Nat.one_dvd _) fun p hp => ?_
      have h := Int.emod_emod_of_dvd (y - x) (Int.dvd_refl p.2)
      have e : y % p.2 = x % p.2 := by rw [hx p hp, hy p hp]
      have d : p.2 ∣ y - x := Int.dvd_of_emod_eq_zero (Int.emod_eq_emod_iff_emod_sub_eq_zero.mp e)
      exact Int.natAbs_dvd_natAbs.mpr d
    exact Int.dvd_natAbs.mp (Int.natCast_dvd_natCast.mpr this)
  · intro h p hp
    rw [← hx p hp]
    refine Int.emod_eq_emod_iff_emod_sub_eq_zero.mpr (Int.emod_eq_zero_of_dvd ?_)
    have d := (dvd_lcmAll fs 1).2 p hp
    have d2 : (p.2.natAbs : Int) ∣ (lcmAll fs : Int) := Int.natCast_dvd_natCast.mpr d
    have e : (p.2.natAbs : Int) = p.2 := by have := (hf p hp).1; omega
    rw [e] at d2
    exact Int.dvd_trans d2 h
end Vf

namespace Vf
open PySem PySem.Spec PyProof.Rows L2
/-! ## tuples stay, whatever a list does -/
theorem Kx.tupI {K : PySem.W.Frag} {k : Addr} {H H' : Hp} {l : List V} {a : Addr} {xs : List V} (e : Kx k H H') (hk : H k = some (.lst l)) (h : SqT K H a xs) : SqT K H' a xs := by
  rcases h with (h | ⟨o, h⟩) | h
  · exact Or.inl (Or.inl (e _ _ (ne_of h hk (by intro z; cases z)) h))
  · exact Or.inl (Or.inr ⟨o, e _ _ (ne_of h hk (by intro z; cases z)) h⟩)
  · exact Or.inr h
/-- what keeps all tuples -/
def Tt (H H' : Hp) : Prop := ∀ (K : PySem.W.Frag) a xs, SqT K H a xs → SqT K H' a xs
theorem Tt.refl (H : Hp) : Tt H H := fun _ _ _ h => h
theorem Tt.trans {H H1 H2 : Hp} (a : Tt H H1) (b : Tt H1 H2) : Tt H H2 := fun K x xs h => b K x xs (a K x xs h)
theorem Same.tt {H H' : Hp} (s : Same H H') : Tt H H' := fun _ _ _ h => Same.tup s h
theorem Kx.tt {k : Addr} {H H' : Hp} {l : List V} (e : Kx k H H') (hk : H k = some (.lst l)) : Tt H H' := fun _ _ _ h => e.tupI hk h
theorem new_tt {H : Hp} {p : Addr} {o : HO} (h : H p = none) : Tt H (upd H p o) := Same.tt (Same.new h)
theorem upd_tt {H : Hp} {k : Addr} {l : List V} {o : HO} (hk : H k = some (.lst l)) : Tt H (upd H k o) := Kx.tt Kx.upd hk
/-! ## pairs of ints, tuples of them -/
def PairAt (K : PySem.W.Frag) (H : Hp) (v : V) (p : Int × Int) : Prop := ∃ t, v = .ref t ∧ SqT K H t [.int p.1, .int p.2]
def PairsAt (K : PySem.W.Frag) (H : Hp) (vs : List V) (fs : List (Int × Int)) : Prop := Paired (PairAt K H) vs fs
def FactsAt (K : PySem.W.Frag) (H : Hp) (a : Addr) (fs : List (Int × Int)) : Prop := ∃ vs, SqT K H a vs ∧ PairsAt K H vs fs
theorem PairAt.tt {K : PySem.W.Frag} {H H' : Hp} {v : V} {p : Int × Int} (h : PairAt K H v p) (e : Tt H H') : PairAt K H' v p := by
  obtain ⟨t, rfl, s⟩ := h
  exact ⟨t, rfl, e K t _ s⟩
theorem PairsAt.tt {K : PySem.W.Frag} {H H' : Hp} (e : Tt H H') : ∀ {vs : List V} {fs : List (Int × Int)}, PairsAt K H vs fs → PairsAt K H' vs fs
  | _, _, .nil => .nil
  | _, _, .cons r t => .cons (r.tt e) (PairsAt.tt e t)
theorem FactsAt.tt {K : PySem.W.Frag} {H H' : Hp} {a : Addr} {fs : List (Int × Int)} (h : FactsAt K H a fs) (e : Tt H H') : FactsAt K H' a fs := by
  obtain ⟨vs, s, p⟩ := h
  exact ⟨vs, e K a _ s, PairsAt.tt e p⟩
theorem PairsAt.length {K : PySem.W.Frag} {H : Hp} {vs : List V} {fs : List (Int × Int)} (h : PairsAt K H vs fs) : vs.length = fs.length := Paired.length h
theorem PairsAt.get {K : PySem.W.Frag} {H : Hp} : ∀ {vs : List V} {fs : List (Int × Int)} {i : Nat} {x : V}, PairsAt K H vs fs → vs[i]? = some x → ∃ p, fs[i]? = some p ∧ PairAt K H x p
  | _, _, _, _, .nil, e => by simp at e
  | _, _, 0, x, .cons (b := q) r _, e => by
    simp at e
    subst e
    exact ⟨q, rfl, r⟩
  | _, _, i + 1, x, .cons _ t, e => by
    obtain ⟨p, h1, h2⟩ := PairsAt.get (i := i) (x := x) t (by simpa using e)
    exact ⟨p, by simpa using h1, h2⟩
theorem PairsAt.at {K : PySem.W.Frag} {H : Hp} {vs : List V} {fs : List (Int × Int)} {i : Nat} {p : Int × Int} (h : PairsAt K H vs fs) (e : fs[i]? = some p) : ∃ x, vs[i]? = some x ∧ PairAt K H x p := by
  have hl := h.length
  have hi : i < vs.length := by
    rw [hl]
    exact (List.getElem?_eq_some_iff.mp e).1
  obtain ⟨q, h1, h2⟩ := h.get (List.getElem?_eq_getElem hi)
  rw [e] at h1
  cases h1
  exact ⟨_, List.getElem?_eq_getElem hi, h2⟩
theorem PairsAt.append {K : PySem.W.Frag} {H : Hp} : ∀ {vs ws : List V} {fs gs : List (Int × Int)}, PairsAt K H vs fs → PairsAt K H ws gs → PairsAt K H (vs ++ ws) (fs ++ gs)
  | _, _, _, _, .nil, s => s
  | _, _, _, _, .cons r t, s => .cons r (PairsAt.append t s)
/-- facts that are right, at most forty -/
def Facts (fs : List (Int × Int)) : Prop := fs.length ≤ 40 ∧ ∀ p ∈ fs, Fact p
theorem Facts.at {fs : List (Int × Int)} (h : Facts fs) {i : Nat} {p : Int × Int} (e : fs[i]? = some p) : Fact p := h.2 p (List.mem_of_getElem? e)
theorem Facts.lcm_pos {fs : List (Int × Int)} (h : Facts fs) : 0 < lcmAll fs := lcmAll_pos fs 1 h.2 (by decide)
theorem Facts.lcm_bits {fs : List (Int × Int)} (h : Facts fs) : lcmAll fs ≤ 2 ^ (100 * fs.length) := by
  have := lcmAll_le fs 1 0 h.2 (Nat.le_refl 1)
  rwa [Nat.zero_add] at this
/-- a number of so many bits that all can be reckoned with it -/
def Bt (n : Nat) (i : Int) : Prop := Builtin.Int.intBits i ≤ n
theorem Bt.mul {a b : Nat} {i j : Int} (h1 : Bt a i) (h2 : Bt b j) (h : a + b ≤ 100000000) : CMulX i j := by
  unfold Bt at h1 h2
  unfold CMulX
  omega
theorem Bt.of {a : Nat} {i : Int} (h : i.natAbs < 2 ^ a) : Bt a i := bit_of h
theorem Bt.mono {a b : Nat} {i : Int} (h : Bt a i) (l : a ≤ b) : Bt b i := Nat.le_trans h l
theorem pow_lt_of_le {a b n : Nat} (h : n ≤ 2 ^ a) (l : a < b) : n < 2 ^ b := Nat.lt_of_le_of_lt h (Nat.pow_lt_pow_right (by decide) l)
theorem Bt.le {a : Nat} {i : Int} (h : i.natAbs ≤ 2 ^ a) : Bt (a + 1) i := Bt.of (pow_lt_of_le h (Nat.lt_succ_self a))
/-! ## the law's jug -/
def Jug (n : Nat) (k : Addr) (H : Hp) : Prop := ∃ a b c : Int, H k = some (.lst [.int b, .int a, .int c]) ∧ KegOk a b c n
theorem Jug.mono {n m : Nat} {k : Addr} {H : Hp} (h : Jug n k H) (l : n ≤ m) : Jug m k H := by
  obtain ⟨a, b, c, e, o⟩ := h
  exact ⟨a, b, c, e, o.a0, o.ab, o.b0, o.bM, o.c0, by have := o.cn; omega⟩
theorem Jug.same {n : Nat} {k : Addr} {H H' : Hp} (h : Jug n k H) (s : Same H H') : Jug n k H' := by
  obtain ⟨a, b, c, e, o⟩ := h
  exact ⟨a, b, c, s _ _ e, o⟩
theorem Jug.new {n : Nat} {k p : Addr} {H : Hp} {o : HO} (h : Jug n k H) (hp : H p = none) : Jug n k (upd H p o) := h.same (Same.new hp)
theorem Jug.ne {n : Nat} {k p : Addr} {H : Hp} (h : Jug n k H) (hp : H p = none) : p ≠ k := by
  obtain ⟨a, b, c, e, o⟩ := h
  exact (ne_of_none e hp).symm
theorem Jug.tt {n : Nat} {k : Addr} {H H' : Hp} (h : Jug n k H) (e : Kx k H H') : Tt H H' := by
  obtain ⟨a, b, c, z, o⟩ := h
  exact e.tt z
theorem Jug.kx {n m : Nat} {k j : Addr} {H H' : Hp} (h : Jug n k H) (e : Kx j H H') (ne : k ≠ j) : Jug n k H' := by
  obtain ⟨a, b, c, z, o⟩ := h
  exact ⟨a, b, c, e _ _ ne z, o⟩
def sp_pour : Sp := fun vs H Q _ => ∃ (k : Addr) (u : Int) (n : Nat), vs = [.ref k, .int u] ∧ Jug n k H ∧ n ≤ 2 ^ 60 ∧ 0 < u ∧ u < 2 ^ 62 ∧
  ∀ f H', 0 ≤ f → f < u → Kx k H H' → Jug (n + 1) k H' → Q (.int f) H'
theorem i_pour {k : Addr} {u : Int} {H : Hp} {Q : VK} {E : XK} (n : Nat) (hk : Jug n k H) (hn : n ≤ 2 ^ 60) (h0 : 0 < u) (h1 : u < 2 ^ 62)
    (q : ∀ f H', 0 ≤ f → f < u → Kx k H H' → Jug (n + 1) k H' → Q (.int f) H') : sp_pour [.ref k, .int u] H Q E := ⟨k, u, n, rfl, hk, hn, h0, h1, q⟩
def sp_one_of (K : PySem.W.Frag) : Sp := fun vs H Q _ => ∃ (k t : Addr) (xs : List V) (n : Nat), vs = [.ref k, .ref t] ∧ Jug n k H ∧ n ≤ 2 ^ 60 ∧ t ≠ k ∧ SqL K H t xs ∧ 0 < xs.length ∧ xs.length ≤ 100000 ∧
  ∀ (i : Nat) (x : V) H', xs[i]? = some x → Kx k H H' → Jug (n + 1) k H' → Q x H'
theorem i_one_of {K : PySem.W.Frag} {k t : Addr} {H : Hp} {Q : VK} {E : XK} (n : Nat) (xs : List V) (hk : Jug n k H) (hn : n ≤ 2 ^ 60) (ht : t ≠ k) (hs : SqL K H t xs) (h0 : 0 < xs.length) (h1 : xs.length ≤ 100000)
    (q : ∀ (i : Nat) x H', xs[i]? = some x → Kx k H H' → Jug (n + 1) k H' → Q x H') : sp_one_of K [.ref k, .ref t] H Q E := ⟨k, t, xs, n, rfl, hk, hn, ht, hs, h0, h1, q⟩
def sp_jug (K : PySem.W.Frag) : Sp := fun vs H Q _ => ∃ (c : Addr) (ns : List Int) (j : Nat), vs = [.ref c, .int (j : Int)] ∧ SqL K H c (ns.map V.int) ∧ Script ns ∧ j ≤ 1000 ∧
  ∀ p H', Same H H' → H p = none → Jug 1 p H' → Q (.ref p) H'
theorem i_jug {K : PySem.W.Frag} {c : Addr} {H : Hp} {Q : VK} {E : XK} (ns : List Int) (j : Nat) (hs : SqL K H c (ns.map V.int)) (hn : Script ns) (hj : j ≤ 1000)
    (q : ∀ p H', Same H H' → H p = none → Jug 1 p H' → Q (.ref p) H') : sp_jug K [.ref c, .int (j : Int)] H Q E := ⟨c, ns, j, rfl, hs, hn, hj, q⟩
def sp_great : Sp := fun vs H Q _ => ∃ (k : Addr) (u : Int) (n : Nat), vs = [.ref k, .int u] ∧ Jug n k H ∧ n ≤ 2 ^ 59 ∧ 0 < u ∧
  ∀ f H', 0 ≤ f → f < u → f < 10 ^ 37 → Kx k H H' → Jug (n + 10) k H' → Q (.int f) H'
theorem i_great {k : Addr} {u : Int} {H : Hp} {Q : VK} {E : XK} (n : Nat) (hk : Jug n k H) (hn : n ≤ 2 ^ 59) (h0 : 0 < u)
    (q : ∀ f H', 0 ≤ f → f < u → f < 10 ^ 37 → Kx k H H' → Jug (n + 10) k H' → Q (.int f) H') : sp_great [.ref k, .int u] H Q E := ⟨k, u, n, rfl, hk, hn, h0, q⟩
end Vf

namespace Vf
open PySem PySem.Spec PyProof.Rows L2
/-! ## two walks in one comprehension -/
/-- the inner walk: item by item, then Nx -/
def Inn (D : Addr) (J1 : It) (g1 : TG) (tt1 : TT) (te : TE) (vs1 : List Nat) (σ2 : L2.St) (H4 : Hp) (Nx : Hp → Prop) : Prop :=
  ∃ W1 : Nat → Nat → Hp → Prop, (∃ m, W1 0 m H4) ∧ ∀ j k H, W1 j k H →
      (J1.stop j H ∧ Nx H) ∨ (J1.go j H ∧ ∃ Nx1 : Hp → Prop, (∀ H', Nx1 H' → ∃ k', k' < k ∧ W1 (j + 1) k' H') ∧ ∀ x H', J1.yld j H x H' → g1 x (wipe σ2 vs1) H' fun σ3 H5 => wipe σ3 vs1 = wipe σ2 vs1 ∧ tt1 σ3 H5 fun b H6 =>
        if b = true then te σ3 H6 fun y H7 => ∃ acc, H7 D = some (.lst acc) ∧ acc.length < sizeLine ∧ Nx1 (upd H7 D (.lst (acc ++ [y]))) else Nx1 H6)
theorem inn_range {D : Addr} {g1 : TG} {tt1 : TT} {te : TE} {vs1 : List Nat} {σ2 : L2.St} {H4 : Hp} {Nx : Hp → Prop} {lo : Int} {n : Nat} (Pv : Nat → Hp → Prop) (h0 : Pv 0 H4)
    (hs : ∀ j H, j < n → Pv j H → g1 (.int (lo + j)) (wipe σ2 vs1) H fun σ3 H5 => wipe σ3 vs1 = wipe σ2 vs1 ∧ tt1 σ3 H5 fun b H6 =>
        if b = true then te σ3 H6 fun y H7 => ∃ acc, H7 D = some (.lst acc) ∧ acc.length < sizeLine ∧ Pv (j + 1) (upd H7 D (.lst (acc ++ [y]))) else Pv (j + 1) H6)
    (hd : ∀ H, Pv n H → Nx H) : Inn D (Itr lo n) g1 tt1 te vs1 σ2 H4 Nx := by
  refine ⟨fun i m H => m = n - i ∧ i ≤ n ∧ Pv i H, ⟨n, by omega, Nat.zero_le _, h0⟩, ?_⟩
  rintro i m H ⟨rfl, hi, p⟩
  by_cases lt : i < n
  · refine Or.inr ⟨lt, Pv (i + 1), fun H' p' => ⟨n - (i + 1), by omega, rfl, lt, p'⟩, fun x H' y => ?_⟩
    obtain ⟨e, y⟩ := y
    subst e y
    exact hs i _ lt p
  · have e : i = n := by omega
    subst e
    exact Or.inl ⟨Nat.le_refl _, hd H p⟩
section
variable {σ : L2.St} {H : Hp} {Q : VK} {g g1 : TG} {tt tt1 : TT} {te : TE} {vs vs1 : List Nat} {wi1 : TI}
theorem r_lc2R {lo : Int} {n : Nat} (Pv : Addr → Nat → Hp → Prop) (h0 : ∀ D, H D = none → Pv D 0 (upd H D (.lst [])))
    (hs : ∀ D i H', H D = none → i < n → Pv D i H' → g (.int (lo + i)) (wipe σ vs) H' fun σ2 H2 => wipe σ2 vs = wipe σ vs ∧ tt σ2 H2 fun b H3 =>
      if b = true then wi1 σ2 H3 fun J1 H4 => Inn D J1 g1 tt1 te vs1 σ2 H4 (Pv D (i + 1)) else Pv D (i + 1) H3)
    (hd : ∀ D H', H D = none → Pv D n H' → Q (.ref D) H') : tLc2 (fun _ H2 R => R (Itr lo n) H2) g tt wi1 g1 tt1 te vs vs1 σ H Q := by
  refine fun D hD => ⟨fun i m H => m = n - i ∧ i ≤ n ∧ Pv D i H, ⟨n, by omega, Nat.zero_le _, h0 D hD⟩, ?_⟩
  rintro i m H' ⟨rfl, hi, p⟩
  by_cases lt : i < n
  · refine Or.inr ⟨lt, Pv D (i + 1), fun H' p' => ⟨n - (i + 1), by omega, rfl, lt, p'⟩, fun x H' y => ?_⟩
    obtain ⟨e, y⟩ := y
    subst e y
    exact hs D i _ hD lt p
  · have e : i = n := by omega
    subst e
    exact Or.inl ⟨Nat.le_refl _, hd D H' hD p⟩
theorem r_lc2R1 {ta : TA} (h : ta σ H fun ws H1 => ∃ j : Int, ws = [.int j] ∧ -(2 ^ 62) ≤ j ∧ j < 2 ^ 62 ∧ tLc2 (fun _ H2 R => R (Itr 0 j.toNat) H2) g tt wi1 g1 tt1 te vs vs1 σ H1 Q) : tLc2 (iRng1 ta) g tt wi1 g1 tt1 te vs vs1 σ H Q := h
theorem r_w2 {ta : TA} {R : It → Hp → Prop} (h : ta σ H fun ws H1 => ∃ i j : Int, ws = [.int i, .int j] ∧ (-(2 ^ 62) ≤ i ∧ i < 2 ^ 62 ∧ -(2 ^ 62) ≤ j ∧ j < 2 ^ 62) ∧ R (Itr i (j - i).toNat) H1) : iRng2 ta σ H R := h
end
theorem is_T_T {K : PySem.W.Frag} {H : Hp} {Q : VK} {a : Addr} {xs : List V} (hs : SqT K H a xs) (h : Q (.bl true) H) : rIsi K [.ref a, .ty "tuple"] H Q := by
  have t : TyX K H (.ref a) (.type "tuple") := by
    rcases hs with (e | ⟨o, e⟩) | ⟨o, _, _, e, c, _⟩
    · exact .base (.tup e)
    · exact .fTuple e
    · exact .kTuple e c
  exact r_isi (.ty "tuple") t (kit_ty (by decide +kernel)) h
theorem r_bm {K : PySem.W.Frag} {T : String} {r : V → List V → Hp → VK → Prop} {to : TE} {t : TA} {σ : L2.St} {H : Hp} {Q : VK} (h : to σ H fun x H1 => tyV K T x H1 ∧ t σ H1 fun xs H2 => r x xs H2 Q) : tBM K T r to t σ H Q := h
theorem r_app {H : Hp} {Q : VK} {l : Addr} {xs : List V} {y : V} (e : H l = some (.lst xs)) (hz : xs.length ≤ 100000) (h : Q .non (upd H l (.lst (xs ++ [y])))) : rAppend (.ref l) [y] H Q :=
  ⟨l, xs, y, rfl, rfl, e, Nat.lt_of_le_of_lt hz (by decide), h⟩
/-! ## how great all that is reckoned can get -/
def Bq : Nat := 2 ^ 4001
theorem Bq_one : 1 ≤ Bq := by decide +kernel
theorem Bq_two : 2 * Bq < 2 ^ 4003 := by decide +kernel
theorem Bq_sq : Bq + Bq * Bq < 2 ^ 8010 := by decide +kernel
theorem Bq_lt : Bq < 2 ^ 4003 := by decide +kernel
theorem Bq_90 : Bq < 2 ^ 9000 := by decide +kernel
theorem Facts.lcm_Bq {fs : List (Int × Int)} (h : ∀ p ∈ fs, Fact p) (hl : fs.length ≤ 40) : lcmAll fs ≤ Bq := by
  refine Nat.le_trans (Facts.lcm_bits ⟨hl, h⟩) (Nat.pow_le_pow_right (by decide) ?_)
  omega
theorem Bq_div {i j : Int} (h0 : 0 < j) (h : j.natAbs ≤ Bq) : CDivW i j := wide_div (b := 4003) h0 (Nat.lt_of_le_of_lt h Bq_lt) (by decide) (by decide)
theorem Bq_bits {i : Int} (h : i.natAbs ≤ Bq) : Builtin.Int.intBits i ≤ 4003 := bit_of (Nat.lt_of_le_of_lt h Bq_lt)
theorem lcmAll_small : ∀ (fs : List (Int × Int)) (m e : Nat), (∀ p ∈ fs, p.2.natAbs ≤ 2 ^ 6) → m ≤ 2 ^ e → fs.foldl (fun m p => Nat.lcm m p.2.natAbs) m ≤ 2 ^ (e + 6 * fs.length)
  | [], _, _, _, h => h
  | p :: fs, m, e, hf, h => by
    have h3 : Nat.lcm m p.2.natAbs ≤ 2 ^ (e + 6) := by
      rw [Nat.pow_add]
      exact Nat.le_trans (lcm_le_mul _ _) (Nat.mul_le_mul h (hf p List.mem_cons_self))
    have := lcmAll_small fs _ (e + 6) (fun q hq => hf q (List.mem_cons_of_mem _ hq)) h3
    have e1 : e + 6 + 6 * fs.length = e + 6 * (p :: fs).length := by rw [List.length_cons]; omega
    rw [e1] at this
    exact this
/-- drawn facts: at most four, of small bases -/
def Drawn (fs : List (Int × Int)) : Prop := fs.length ≤ 4 ∧ ∀ p ∈ fs, 1 ≤ p.2 ∧ p.2 ≤ 36 ∧ 0 ≤ p.1 ∧ p.1 < p.2
theorem Drawn.facts {fs : List (Int × Int)} (h : Drawn fs) : Facts fs := by
  refine ⟨by have := h.1; omega, fun p hp => ?_⟩
  obtain ⟨h1, h2, h3, h4⟩ := h.2 p hp
  exact ⟨h1, by omega, h3, h4⟩
theorem Drawn.lcm {fs : List (Int × Int)} (h : Drawn fs) : lcmAll fs ≤ 2 ^ 24 := by
  have := lcmAll_small fs 1 0 (fun p hp => by have := h.2 p hp; omega) (Nat.le_refl 1)
  refine Nat.le_trans this (Nat.pow_le_pow_right (by decide) ?_)
  have := h.1
  omega
end Vf

namespace Vf
open PySem PySem.Spec PyProof.Rows L2
/-! ## zip(t, u) of two tuples, each pair under one name -/
/-- a zip in any state: what it gave out last, whether it knows that this lives -/
def Zst (h : Heap) (u TI TO : Addr) (f0 f1 : Value) : Prop := h.get? u = some ⟨.type "zip", none, .fields #[f0, f1, .bool false, .ref TI, .ref TO], #[]⟩
def Out (f0 : Value) : Prop := f0 = .none ∨ ∃ T : Nat, f0 = rawInt (T : Int)
def Flag (f1 : Value) : Prop := ∃ b, f1 = .bool b
section
variable {prog : Program} {w : World} {A : Around} {E : Value → Shared → Prop} {s : Shared}
theorem alive_any {a : Addr} {Q : Option Obj → Shared → Prop} (h : Q (s.heap.get? a) s) : wpAny (model prog w) A (loadIfAlive a) Q E s := fun _ _ _ => h
theorem z_free {u TI TO : Addr} {f0 f1 : Value} {Q : Bool → Shared → Prop} (o0 : Out f0) (o1 : Flag f1) (zz : Zst s.heap u TI TO f0 f1) (h1 : Q true s)
    (h2 : ∀ h' g1, Flag g1 → Zst h' u TI TO f0 g1 → Heap.SameBut u s.heap h' → Q false { s with heap := h' }) : wpAny (model prog w) A (Builtin.SmallTypes.ownedTupleIsFree (.ref u)) Q E s := by
  unfold Builtin.SmallTypes.ownedTupleIsFree
  refine wpAny_bind (wpAny_field (x := f0) zz rfl rfl ?_)
  rcases o0 with e | ⟨T, e⟩
  · subst e
    exact wpAny_pure h1
  · subst e
    show wpAny _ _ (loadIfAlive _ >>= _) _ _ _
    refine wpAny_bind (alive_any ?_)
    cases s.heap.get? (T : Int).toNat with
    | none => exact wpAny_pure h1
    | some o =>
      obtain ⟨b, e⟩ := o1
      subst e
      show wpAny _ _ (field (.ref u) 1 >>= _) _ _ _
      refine wpAny_bind (wpAny_field (x := .bool b) zz rfl rfl ?_)
      cases b with
      | true => exact wpAny_pure (h2 s.heap _ ⟨true, rfl⟩ zz (Heap.SameBut.refl _ _))
      | false =>
        exact wpAny_bind (wpAny_setField_rec zz (by simp) fun h' z' sb => wpAny_pure (h2 h' _ ⟨true, rfl⟩ z' sb))
/-- what a turn leaves -/
def ZNext (s : Shared) (u TI TO i1 i2 l1 l2 : Addr) (k1 k2 : Nat) (x y : Value) (h' : Heap) : Prop :=
  (∃ g0 g1, Out g0 ∧ Flag g1 ∧ Zst h' u TI TO g0 g1) ∧ (∃ a b, IsPair h' TO a b) ∧ h'.IsTupleIter i1 l1 (k1 + 1) ∧ h'.IsTupleIter i2 l2 (k2 + 1) ∧ IsPair h' s.heap.objs.size x y ∧ h'.objs.size = s.heap.objs.size + 1 ∧
    ∀ c o, c ≠ u → c ≠ TO → c ≠ i1 → c ≠ i2 → s.heap.get? c = some o → h'.get? c = some o
theorem zn_item {u TI TO i1 i2 l1 l2 : Addr} {f0 f1 : Value} {k1 k2 : Nat} {xs ys : Array Value} {x y a b : Value} {Q : Value → Shared → Prop} (D : ZipApart u TI TO i1 i2 l1 l2) (o0 : Out f0) (o1 : Flag f1)
    (zz : Zst s.heap u TI TO f0 f1) (ti : IsPair s.heap TI (.ref i1) (.ref i2)) (to : IsPair s.heap TO a b) (h1 : s.heap.IsTupleIter i1 l1 k1) (h2 : s.heap.IsTupleIter i2 l2 k2)
    (t1 : s.heap.IsTuple l1 xs) (t2 : s.heap.IsTuple l2 ys) (ex : xs[k1]? = some x) (ey : ys[k2]? = some y) (q : ∀ h', ZNext s u TI TO i1 i2 l1 l2 k1 k2 x y h' → Q (.ref s.heap.objs.size) { s with heap := h' }) :
    wpAny (model prog w) A (Builtin.«zip.__next__» ⟨[.ref u], []⟩) (fun r s' => ∃ v, r = .done (.ret v) ∧ Q v s') E s := by
  show wpAny _ _ (field (.ref u) 2 >>= _) _ _ _
  refine wpAny_bind (wpAny_field (x := .bool false) zz rfl rfl ?_)
  show wpAny _ _ (field (.ref u) 3 >>= _) _ _ _
  refine wpAny_bind (wpAny_field (x := .ref TI) zz rfl rfl ?_)
  refine wpAny_bind (wpAny_seqItems ti rfl ?_)
  show wpAny _ _ (Builtin.SmallTypes.ownedTupleIsFree (.ref u) >>= _) _ _ _
  refine wpAny_bind (z_free o0 o1 zz ?_ fun m1 g1 og zm sb1 => ?_)
  · simp only [if_true]
    refine wpAny_bind <| wpAny_rule ?_
    refine wpAny_bind (wpAny_field (x := .ref TO) zz rfl rfl ?_)
    refine wpAny_bind (wpAny_setField_rec zz (by simp) fun m1 zm sb1 => ?_)
    replace zm : Zst m1 u TI TO .ellipsis f1 := zm
    refine wpAny_bind ?_
    rw [List.zipIdx_cons, List.zipIdx_cons, List.zipIdx_nil]
    simp only [List.forIn_cons, List.forIn_nil]
    refine wpAny_bind <| wpAny_bind <| wpAny_onRaise ?_
    show wpAny _ _ (Builtin.SmallTypes.nextOf (Value.ref i1) >>= _) _ _ _
    refine wpAny_bind (RZ.nextOf_tuple_item (h1.extBut sb1.extBut D.i1z) (t1.extBut sb1.extBut D.l1z) ex fun m2 n1 sb2 => wpAny_pure ?_)
    have to2 : IsPair m2 TO a b := sb2.extBut _ _ D.TOi1 (sb1.extBut _ _ D.TOz to)
    refine wpAny_bind (wpAny_seqItems to2 rfl ?_)
    refine wpAny_bind (wpAny_updateSeq_pair to2 fun m3 to3 sb3 => ?_)
    replace to3 : IsPair m3 TO x b := to3
    refine wpAny_bind <| wpAny_letGo <| wpAny_pure ?_
    refine wpAny_bind <| wpAny_bind <| wpAny_onRaise ?_
    show wpAny _ _ (Builtin.SmallTypes.nextOf (Value.ref i2) >>= _) _ _ _
    have p2 : m3.IsTupleIter i2 l2 k2 := ((h2.extBut sb1.extBut D.i2z).extBut sb2.extBut D.i12.symm).extBut sb3.extBut D.TOi2.symm
    have q2 : m3.IsTuple l2 ys := ((t2.extBut sb1.extBut D.l2z).extBut sb2.extBut D.l2i1).extBut sb3.extBut D.l2TO
    refine wpAny_bind (RZ.nextOf_tuple_item p2 q2 ey fun m4 n2 sb4 => wpAny_pure ?_)
    have to4 : IsPair m4 TO x b := sb4.extBut _ _ D.TOi2 to3
    refine wpAny_bind (wpAny_seqItems to4 rfl ?_)
    refine wpAny_bind (wpAny_updateSeq_pair to4 fun m5 to5 sb5 => ?_)
    replace to5 : IsPair m5 TO x y := to5
    refine wpAny_bind <| wpAny_letGo <| wpAny_pure <| wpAny_pure ?_
    refine wpAny_bind (wpAny_seqItems to5 rfl ?_)
    refine wpAny_bind <| wpAny_newTuple ?_
    have sz : m5.objs.size = s.heap.objs.size := by rw [sb5.1, sb4.1, sb3.1, sb2.1, sb1.1]
    have z5 : Zst m5 u TI TO .ellipsis f1 := sb5.extBut _ _ D.TOz.symm (sb4.extBut _ _ D.i2z.symm (sb3.extBut _ _ D.TOz.symm (sb2.extBut _ _ D.i1z.symm zm)))
    have k5 : ∀ c o, c ≠ u → c ≠ TO → c ≠ i1 → c ≠ i2 → s.heap.get? c = some o → m5.get? c = some o := fun c o c1 c2 c3 c4 e => sb5.extBut _ _ c2 (sb4.extBut _ _ c4 (sb3.extBut _ _ c2 (sb2.extBut _ _ c3 (sb1.extBut _ _ c1 e))))
    have r1 : m5.IsTupleIter i1 l1 (k1 + 1) := ((n1.extBut sb3.extBut D.TOi1.symm).extBut sb4.extBut D.i12).extBut sb5.extBut D.TOi1.symm
    have r2 : m5.IsTupleIter i2 l2 (k2 + 1) := n2.extBut sb5.extBut D.TOi2.symm
    have ul : u < m5.objs.size := Heap.lt_size z5
    show wpAny _ _ (Builtin.SmallTypes.ownedTupleHandOut (.ref u) (.ref m5.objs.size) >>= _) _ _ _
    refine wpAny_bind ?_
    unfold Builtin.SmallTypes.ownedTupleHandOut
    have z6 : Zst (m5.push { cls := .type "tuple", data := .seq #[x, y] }) u TI TO .ellipsis f1 := Heap.get?_push_of_some _ z5
    refine wpAny_bind (wpAny_setField_rec z6 (by simp) fun m7 z7 sb7 => ?_)
    replace z7 : Zst m7 u TI TO (rawInt m5.objs.size) f1 := z7
    refine wpAny_setField_rec z7 (by simp) fun m8 z8 sb8 => ?_
    replace z8 : Zst m8 u TI TO (rawInt m5.objs.size) (.bool false) := z8
    have up : ∀ c o, c ≠ u → m5.get? c = some o → m8.get? c = some o := fun c o c1 e => sb8.extBut _ _ c1 (sb7.extBut _ _ c1 (Heap.get?_push_of_some _ e))
    have np : IsPair m8 m5.objs.size x y := sb8.extBut _ _ (Nat.ne_of_gt ul) (sb7.extBut _ _ (Nat.ne_of_gt ul) (Heap.get?_push_size _ rfl))
    have sz8 : m8.objs.size = m5.objs.size + 1 := by rw [sb8.1, sb7.1, Heap.size_push]
    refine wpAny_pure ⟨_, rfl, ?_⟩
    show Q (.ref m5.objs.size) _
    rw [sz] at z8 np sz8 ⊢
    exact q m8 ⟨⟨_, _, .inr ⟨_, rfl⟩, ⟨_, rfl⟩, z8⟩, ⟨x, y, up _ _ D.TOz to5⟩, r1.at fun o e => up _ o D.i1z e, r2.at fun o e => up _ o D.i2z e, np, sz8, fun c o c1 c2 c3 c4 e => up c o c1 (k5 c o c1 c2 c3 c4 e)⟩
  · simp only [Bool.false_eq_true, if_false]
    refine wpAny_bind ?_
    rw [← Array.forIn_toList]
    simp only [List.forIn_cons, List.forIn_nil]
    refine wpAny_bind <| wpAny_bind <| wpAny_holding ?_
    show wpAny _ _ (Builtin.SmallTypes.nextOf (Value.ref i1) >>= _) _ _ _
    refine wpAny_bind (RZ.nextOf_tuple_item (s := { s with heap := m1 }) (h1.extBut sb1.extBut D.i1z) (t1.extBut sb1.extBut D.l1z) ex fun m2 n1 sb2 => wpAny_pure ?_)
    refine wpAny_pure ?_
    refine wpAny_bind <| wpAny_bind <| wpAny_holding ?_
    show wpAny _ _ (Builtin.SmallTypes.nextOf (Value.ref i2) >>= _) _ _ _
    refine wpAny_bind (RZ.nextOf_tuple_item (s := { s with heap := m2 }) ((h2.extBut sb1.extBut D.i2z).extBut sb2.extBut D.i12.symm) ((t2.extBut sb1.extBut D.l2z).extBut sb2.extBut D.l2i1) ey fun m3 n2 sb3 => wpAny_pure ?_)
    refine wpAny_pure <| wpAny_pure ?_
    show wpAny _ _ (newTuple [x, y] >>= _) _ _ _
    refine wpAny_bind <| wpAny_newTuple ?_
    have sz : m3.objs.size = s.heap.objs.size := by rw [sb3.1, sb2.1, sb1.1]
    have z3 : Zst m3 u TI TO f0 g1 := sb3.extBut _ _ D.i2z.symm (sb2.extBut _ _ D.i1z.symm zm)
    have k3 : ∀ c o, c ≠ u → c ≠ i1 → c ≠ i2 → s.heap.get? c = some o → m3.get? c = some o := fun c o c1 c2 c3 e => sb3.extBut _ _ c3 (sb2.extBut _ _ c2 (sb1.extBut _ _ c1 e))
    have r1 : m3.IsTupleIter i1 l1 (k1 + 1) := n1.extBut sb3.extBut D.i12
    refine wpAny_pure ⟨_, rfl, ?_⟩
    show Q (.ref m3.objs.size) _
    have np : IsPair (m3.push { cls := .type "tuple", data := .seq #[x, y] }) m3.objs.size x y := Heap.get?_push_size _ rfl
    have sz4 : (m3.push { cls := .type "tuple", data := .seq #[x, y] }).objs.size = m3.objs.size + 1 := Heap.size_push ..
    rw [sz] at np sz4 ⊢
    exact q _ ⟨⟨_, _, o0, og, Heap.get?_push_of_some _ z3⟩, ⟨a, b, Heap.get?_push_of_some _ (k3 _ _ D.TOz D.TOi1 D.TOi2 to)⟩, r1.at fun o e => Heap.get?_push_of_some _ e, n2.at fun o e => Heap.get?_push_of_some _ e, np, sz4,
      fun c o c1 _ c3 c4 e => Heap.get?_push_of_some _ (k3 c o c1 c3 c4 e)⟩
/-- what the end leaves -/
def ZEnd (s : Shared) (u TO i1 i2 : Addr) (h' : Heap) : Prop := ∀ c o, c ≠ u → c ≠ TO → c ≠ i1 → c ≠ i2 → s.heap.get? c = some o → h'.get? c = some o
theorem zn_end {u TI TO i1 i2 l1 l2 : Addr} {f0 f1 : Value} {k1 k2 : Nat} {xs ys : Array Value} {a b : Value} {Q : Fin → Shared → Prop} (hh : A.handled = none) (D : ZipApart u TI TO i1 i2 l1 l2) (o0 : Out f0) (o1 : Flag f1)
    (zz : Zst s.heap u TI TO f0 f1) (ti : IsPair s.heap TI (.ref i1) (.ref i2)) (to : IsPair s.heap TO a b) (h1 : s.heap.IsTupleIter i1 l1 k1) (h2 : s.heap.IsTupleIter i2 l2 k2)
    (t1 : s.heap.IsTuple l1 xs) (t2 : s.heap.IsTuple l2 ys) (no : xs[k1]? = none ∨ ys[k2]? = none) (q : ∀ h' e, ZEnd s u TO i1 i2 h' → (∃ o, h'.get? e = some o ∧ o.cls = .type "StopIteration") → E (.ref e) { s with heap := h' }) :
    wpAny (model prog w) A (Builtin.«zip.__next__» ⟨[.ref u], []⟩) Q E s := by
  show wpAny _ _ (field (.ref u) 2 >>= _) _ _ _
  refine wpAny_bind (wpAny_field (x := .bool false) zz rfl rfl ?_)
  show wpAny _ _ (field (.ref u) 3 >>= _) _ _ _
  refine wpAny_bind (wpAny_field (x := .ref TI) zz rfl rfl ?_)
  refine wpAny_bind (wpAny_seqItems ti rfl ?_)
  show wpAny _ _ (Builtin.SmallTypes.ownedTupleIsFree (.ref u) >>= _) _ _ _
  refine wpAny_bind (z_free o0 o1 zz ?_ fun m1 g1 og zm sb1 => ?_)
  · simp only [if_true]
    refine wpAny_bind <| wpAny_rule ?_
    refine wpAny_bind (wpAny_field (x := .ref TO) zz rfl rfl ?_)
    refine wpAny_bind (wpAny_setField_rec zz (by simp) fun m1 zm sb1 => ?_)
    replace zm : Zst m1 u TI TO .ellipsis f1 := zm
    refine wpAny_bind ?_
    rw [List.zipIdx_cons, List.zipIdx_cons, List.zipIdx_nil]
    simp only [List.forIn_cons, List.forIn_nil]
    refine wpAny_bind <| wpAny_bind <| wpAny_onRaise ?_
    show wpAny _ _ (Builtin.SmallTypes.nextOf (Value.ref i1) >>= _) _ _ _
    cases ex : xs[k1]? with
    | none =>
      refine wpAny_bind (RZ.nextOf_tuple_end hh (h1.extBut sb1.extBut D.i1z) (t1.extBut sb1.extBut D.l1z) ex fun m2 e sb2 se => ?_)
      obtain ⟨oe, e1, e2⟩ := se
      have z2 : Zst m2 u TI TO .ellipsis f1 := sb2 _ _ D.i1z.symm zm
      have ne : e ≠ u := fun eq => by
        subst eq
        rw [show m2.get? e = _ from z2] at e1
        cases e1
        simp at e2
      exact wpAny_setField_rec z2 (by simp) fun m3 _ sb3 => q m3 e (fun c o c1 _ c3 _ eq => sb3.extBut _ _ c1 (sb2 _ _ c3 (sb1.extBut _ _ c1 eq))) ⟨oe, sb3.extBut _ _ ne e1, e2⟩
    | some x =>
      have ey : ys[k2]? = none := by
        rcases no with n | n
        · rw [ex] at n; cases n
        · exact n
      refine wpAny_bind (RZ.nextOf_tuple_item (h1.extBut sb1.extBut D.i1z) (t1.extBut sb1.extBut D.l1z) ex fun m2 n1 sb2 => wpAny_pure ?_)
      have to2 : IsPair m2 TO a b := sb2.extBut _ _ D.TOi1 (sb1.extBut _ _ D.TOz to)
      refine wpAny_bind (wpAny_seqItems to2 rfl ?_)
      refine wpAny_bind (wpAny_updateSeq_pair to2 fun m3 to3 sb3 => ?_)
      refine wpAny_bind <| wpAny_letGo <| wpAny_pure ?_
      refine wpAny_bind <| wpAny_bind <| wpAny_onRaise ?_
      show wpAny _ _ (Builtin.SmallTypes.nextOf (Value.ref i2) >>= _) _ _ _
      have p2 : m3.IsTupleIter i2 l2 k2 := ((h2.extBut sb1.extBut D.i2z).extBut sb2.extBut D.i12.symm).extBut sb3.extBut D.TOi2.symm
      have q2 : m3.IsTuple l2 ys := ((t2.extBut sb1.extBut D.l2z).extBut sb2.extBut D.l2i1).extBut sb3.extBut D.l2TO
      refine wpAny_bind (RZ.nextOf_tuple_end hh p2 q2 ey fun m4 e sb4 se => ?_)
      obtain ⟨oe, e1, e2⟩ := se
      have z4 : Zst m4 u TI TO .ellipsis f1 := sb4 _ _ D.i2z.symm (sb3.extBut _ _ D.TOz.symm (sb2.extBut _ _ D.i1z.symm zm))
      have ne : e ≠ u := fun eq => by
        subst eq
        rw [show m4.get? e = _ from z4] at e1
        cases e1
        simp at e2
      exact wpAny_setField_rec z4 (by simp) fun m5 _ sb5 => q m5 e (fun c o c1 c2 c3 c4 eq => sb5.extBut _ _ c1 (sb4 _ _ c4 (sb3.extBut _ _ c2 (sb2.extBut _ _ c3 (sb1.extBut _ _ c1 eq))))) ⟨oe, sb5.extBut _ _ ne e1, e2⟩
  · simp only [Bool.false_eq_true, if_false]
    refine wpAny_bind ?_
    rw [← Array.forIn_toList]
    simp only [List.forIn_cons, List.forIn_nil]
    refine wpAny_bind <| wpAny_bind <| wpAny_holding ?_
    show wpAny _ _ (Builtin.SmallTypes.nextOf (Value.ref i1) >>= _) _ _ _
    cases ex : xs[k1]? with
    | none =>
      exact wpAny_bind (RZ.nextOf_tuple_end (s := { s with heap := m1 }) hh (h1.extBut sb1.extBut D.i1z) (t1.extBut sb1.extBut D.l1z) ex fun m2 e sb2 se => q m2 e (fun c o c1 _ c3 _ eq => sb2 _ _ c3 (sb1.extBut _ _ c1 eq)) se)
    | some x =>
      have ey : ys[k2]? = none := by
        rcases no with n | n
        · rw [ex] at n; cases n
        · exact n
      refine wpAny_bind (RZ.nextOf_tuple_item (s := { s with heap := m1 }) (h1.extBut sb1.extBut D.i1z) (t1.extBut sb1.extBut D.l1z) ex fun m2 n1 sb2 => wpAny_pure ?_)
      refine wpAny_pure ?_
      refine wpAny_bind <| wpAny_bind <| wpAny_holding ?_
      show wpAny _ _ (Builtin.SmallTypes.nextOf (Value.ref i2) >>= _) _ _ _
      exact wpAny_bind (RZ.nextOf_tuple_end (s := { s with heap := m2 }) hh ((h2.extBut sb1.extBut D.i2z).extBut sb2.extBut D.i12.symm) ((t2.extBut sb1.extBut D.l2z).extBut sb2.extBut D.l2i1) ey
        fun m3 e sb3 se => q m3 e (fun c o c1 _ c3 c4 eq => sb3 _ _ c4 (sb2.extBut _ _ c3 (sb1.extBut _ _ c1 eq))) se)
theorem zp_item {u TI TO i1 i2 l1 l2 : Addr} {f0 f1 : Value} {k1 k2 : Nat} {xs ys : Array Value} {x y a b : Value} {Q : Option Value → Shared → Prop} (D : ZipApart u TI TO i1 i2 l1 l2) (o0 : Out f0) (o1 : Flag f1)
    (zz : Zst s.heap u TI TO f0 f1) (ti : IsPair s.heap TI (.ref i1) (.ref i2)) (to : IsPair s.heap TO a b) (h1 : s.heap.IsTupleIter i1 l1 k1) (h2 : s.heap.IsTupleIter i2 l2 k2)
    (t1 : s.heap.IsTuple l1 xs) (t2 : s.heap.IsTuple l2 ys) (ex : xs[k1]? = some x) (ey : ys[k2]? = some y) (q : ∀ h', ZNext s u TI TO i1 i2 l1 l2 k1 k2 x y h' → Q (some (.ref s.heap.objs.size)) { s with heap := h' }) :
    wpAny (model prog w) A (pyNext (.ref u)) Q E s := by
  have ty : s.TypeIs (.ref u) "zip" := ⟨_, zz, rfl⟩
  unfold pyNext
  refine wpAny_bind <| wpAny_attempt <| wpAny_callSpecial?_slot (name := Str.ofString "__next__") ty F.slot_zip_next ?_
  exact wpAny_call_entry F.slot_zip_next ty F.entry_zip_next (zn_item D o0 o1 zz ti to h1 h2 t1 t2 ex ey fun h' z => wpAny_pure (q h' z)) (F.args_zip_next_1 _)
theorem zp_end {u TI TO i1 i2 l1 l2 : Addr} {f0 f1 : Value} {k1 k2 : Nat} {xs ys : Array Value} {a b : Value} {Q : Option Value → Shared → Prop} (hh : A.handled = none) (D : ZipApart u TI TO i1 i2 l1 l2) (o0 : Out f0) (o1 : Flag f1)
    (zz : Zst s.heap u TI TO f0 f1) (ti : IsPair s.heap TI (.ref i1) (.ref i2)) (to : IsPair s.heap TO a b) (h1 : s.heap.IsTupleIter i1 l1 k1) (h2 : s.heap.IsTupleIter i2 l2 k2)
    (t1 : s.heap.IsTuple l1 xs) (t2 : s.heap.IsTuple l2 ys) (no : xs[k1]? = none ∨ ys[k2]? = none) (q : ∀ h', ZEnd s u TO i1 i2 h' → Q none { s with heap := h' }) :
    wpAny (model prog w) A (pyNext (.ref u)) Q E s := by
  have ty : s.TypeIs (.ref u) "zip" := ⟨_, zz, rfl⟩
  unfold pyNext
  refine wpAny_bind <| wpAny_attempt <| wpAny_callSpecial?_slot (name := Str.ofString "__next__") ty F.slot_zip_next ?_
  refine wpAny_call_entry F.slot_zip_next ty F.entry_zip_next (zn_end hh D o0 o1 zz ti to h1 h2 t1 t2 no fun h' e z se => ?_) (F.args_zip_next_1 _)
  obtain ⟨oe, e1, e2⟩ := se
  refine wpAny_bind (wpAny_isInstance (b := true) (T := "StopIteration") ⟨oe, e1, e2⟩ isSubtype_stop ?_)
  exact wpAny_pure (q _ z)
end
end Vf

namespace Vf
open PySem PySem.Spec PyProof.Rows L2
theorem z_iter {prog : Program} {w : World} {A : Around} {E : Value → Shared → Prop} {s : Shared} {u TI TO : Addr} {f0 f1 : Value} {Q : Value → Shared → Prop} (zz : Zst s.heap u TI TO f0 f1) (q : Q (.ref u) s) : wpAny (model prog w) A (pyIter (.ref u)) Q E s := by
  have ty : s.TypeIs (.ref u) "zip" := ⟨_, zz, rfl⟩
  refine wpAny_pyIter_slot ty F.slot_zip_iter (wpAny_call_entry F.slot_zip_iter ty F.entry_zip_iter ?_ (F.args_zip_iter_1 _))
  show wpAny _ _ (ret (Value.ref u)) _ _ s
  exact wpAny_pure ⟨_, rfl, "zip", _, ty, F.slot_zip_next.lookup, q⟩
def ZTn (u TI TO i1 i2 a b : Addr) (i : Nat) (h : Heap) : Prop :=
  (∃ f0 f1, Out f0 ∧ Flag f1 ∧ Zst h u TI TO f0 f1) ∧ IsPair h TI (.ref i1) (.ref i2) ∧ (∃ x y, IsPair h TO x y) ∧ h.IsTupleIter i1 a i ∧ h.IsTupleIter i2 b i
theorem turn_zipN {P : Program} {w : World} {K : PySem.W.Frag} {nm : Str} {npos : Pos} {a b u TI TO i1 i2 : Addr} (D : ZipApart u TI TO i1 i2 a b) :
    Turn P w K (.Name nm npos) (RZ.ItzT K a b) [u, TI, TO, i1, i2] u (ZTn u TI TO i1 i2 a b) where
  mem := List.mem_cons_self
  obj := fun i h st c hc => by
    obtain ⟨⟨f0, f1, _, _, zz⟩, ti, ⟨x, y, to⟩, ⟨o1, e1, _, d1⟩, ⟨o2, e2, _, d2⟩⟩ := st
    simp only [List.mem_cons, List.not_mem_nil, or_false] at hc
    rcases hc with e | e | e | e | e
    · subst e; exact ⟨_, zz, fun v q => nomatch q⟩
    · subst e; exact ⟨_, ti, fun v q => nomatch q⟩
    · subst e; exact ⟨_, to, fun v q => nomatch q⟩
    · subst e; exact ⟨o1, e1, fun v q => by rw [d1] at q; cases q⟩
    · subst e; exact ⟨o2, e2, fun v q => by rw [d2] at q; cases q⟩
  keep := fun i h h' st k => by
    obtain ⟨⟨f0, f1, p0, p1, zz⟩, ti, ⟨x, y, to⟩, h1, h2⟩ := st
    exact ⟨⟨f0, f1, p0, p1, k u (by simp) _ zz⟩, k TI (by simp) _ ti, ⟨x, y, k TO (by simp) _ to⟩, h1.at fun o q => k i1 (by simp) o q, h2.at fun o q => k i2 (by simp) o q⟩
  item := by
    intro X hP hw hK hc i pins s σ H E I hf st hg
    subst hP hw hK
    obtain ⟨⟨f0, f1, p0, p1, zz⟩, ti, ⟨x0, y0, to⟩, h1, h2⟩ := st
    obtain ⟨xs, ys, x, y, qx, qy, ex, ey⟩ := hg
    obtain ⟨its, rv, tp, _⟩ := I.tuple qx
    obtain ⟨its2, rv2, tp2, _⟩ := I.tuple qy
    obtain ⟨v1, g1, w1⟩ := rv.get ex
    obtain ⟨v2, g2, w2⟩ := rv2.get ey
    have b0 : u < s.heap.objs.size := Heap.lt_size zz
    have bI : TI < s.heap.objs.size := Heap.lt_size ti
    have bO : TO < s.heap.objs.size := Heap.lt_size to
    have b1 : i1 < s.heap.objs.size := by
      obtain ⟨_, q, _⟩ := h1
      exact Heap.lt_size q
    have b2 : i2 < s.heap.objs.size := by
      obtain ⟨_, q, _⟩ := h2
      exact Heap.lt_size q
    refine zp_item D p0 p1 zz ti to h1 h2 tp tp2 (x := v1) (y := v2) (by simpa using g1) (by simpa using g2) fun m zn => ?_
    obtain ⟨z', ⟨ta, tb, to'⟩, n1, n2, np, sz, kp⟩ := zn
    refine ⟨_, rfl, ?_⟩
    unfold letOwnedTupleGo
    refine wpAny_pure ?_
    have fresh : ObjOk X.prog X.w (upd H s.heap.objs.size (.tup [x, y])) m s.heap.objs.size (.tup [x, y]) :=
      ⟨by show 2 ≤ sizeLine; decide, [v1, v2], .cons w1 (.cons w2 .nil), ⟨_, np, rfl, _, rfl⟩⟩
    have stay : ∀ c o, c ∉ [u, TI, TO, i1, i2] → s.heap.get? c = some o → m.get? c = some o := fun c o hb q => kp c o (fun e => hb (by simp [e])) (fun e => hb (by simp [e])) (fun e => hb (by simp [e])) (fun e => hb (by simp [e])) q
    have I1 := I.turnedNew (t' := s.toks) (ch := [u, TI, TO, i1, i2]) stay hf (Nat.le_refl _) fresh
    refine ⟨.ref s.heap.objs.size, _, I1, rfl, ⟨_, x, y, rfl, I.hok.fresh (Nat.le_refl _), rfl, fun l hl => by rw [I.tuple_inj hl qx]; exact ex, fun l hl => by rw [I.tuple_inj hl qy]; exact ey⟩,
      ⟨z', kp _ _ D.TIz D.TITO D.TIi1 D.TIi2 ti, ⟨ta, tb, to'⟩, n1, n2⟩, fun c hcm => ?_⟩
    have lt : c < s.heap.objs.size := by
      have hcm2 := hcm
      simp only [List.mem_cons, List.not_mem_nil, or_false] at hcm2
      rcases hcm2 with e | e | e | e | e <;> (subst e; assumption)
    rw [upd_ne (Nat.ne_of_lt lt)]
    exact (hf c hcm).1
  done := by
    intro X hP hw hK hc i pins s σ H E I hf st hg
    subst hP hw hK
    obtain ⟨⟨f0, f1, p0, p1, zz⟩, ti, ⟨x0, y0, to⟩, h1, h2⟩ := st
    obtain ⟨xs, ys, qx, qy, en⟩ := hg
    obtain ⟨its, rv, tp, _⟩ := I.tuple qx
    obtain ⟨its2, rv2, tp2, _⟩ := I.tuple qy
    have l1 := rv.length
    have l2 := rv2.length
    have no : its.toArray[i]? = none ∨ its2.toArray[i]? = none := by
      rcases en with q | q
      · exact .inl (by simp; omega)
      · exact .inr (by simp; omega)
    refine zp_end (I.ok.hd hc) D p0 p1 zz ti to h1 h2 tp tp2 no fun m ze => ⟨rfl, ?_⟩
    exact I.turnedL (t' := s.toks) (ch := [u, TI, TO, i1, i2]) (fun c o hb q => ze c o (fun e => hb (by simp [e])) (fun e => hb (by simp [e])) (fun e => hb (by simp [e])) (fun e => hb (by simp [e])) q) hf
  self := fun A i s Q E st h => by
    obtain ⟨⟨f0, f1, _, _, zz⟩, _⟩ := st
    exact z_iter zz h
/-- zip(t, u) of tuples -/
def iZn (K : PySem.W.Frag) (ta : TA) : TI := fun σ H R => ta σ H fun vs H1 => ∃ a b xs ys, vs = [.ref a, .ref b] ∧ SqT K H1 a xs ∧ SqT K H1 b ys ∧ R (RZ.ItzT K a b) H1
theorem i_zipN {X : Cx} {K : PySem.W.Frag} {e e2 : Expr} {ta : TA} {p pos npos : Pos} {nm : Str} (ek : X.K = K) (hg : Gl X "zip") (hm : X.mg "zip" = none) (ha : PA X [e, e2] ta)
    (hs : starEach [e, e2] X.env = (false, eval e X.env) :: starEach [e2] X.env := by rfl) (hp : (backTo pos (starEach [e2] X.env)).any (·.1) = false := by rfl) :
    PI X (.Name nm npos) (.Call (.Name "zip" p) [e, e2] [] pos) (iZn K ta) := by
  subst ek
  refine ⟨fun pins s σ H R I h => ?_⟩
  refine Call_ (ld_blt I hg hm PyProof.Rows.boot_zip (PyProof.Rows.callWith_type1 (thn (ha.run pos pins s σ H _ I h) fun us s1 ⟨vs, H1, I1, r1, q1⟩ => ?_) hs hp))
  obtain ⟨a, b, xs, ys, rfl, qx, qy, q⟩ := q1
  obtain ⟨ua, ub, rfl, ra, rb⟩ : ∃ ua ub, us = [ua, ub] ∧ RelV (.ref a) ua ∧ RelV (.ref b) ub := by
    cases r1 with
    | cons r rr =>
      cases rr with
      | cons r' rr =>
        cases rr
        exact ⟨_, _, rfl, r, r'⟩
  cases ra
  cases rb
  obtain ⟨its, rv, tp, _⟩ := I1.tuple qx
  obtain ⟨its2, rv2, tp2, _⟩ := I1.tuple qy
  have la : a < s1.heap.objs.size := tp.lt
  have lb : b < s1.heap.objs.size := tp2.lt
  refine RZ.call_zipT tp tp2 fun m hz hTI hTO n1 n2 hsz hk => z_iter (f0 := .none) (f1 := .bool false) hz ?_
  refine ⟨s1.heap.objs.size + 4, [s1.heap.objs.size + 4, s1.heap.objs.size + 2, s1.heap.objs.size + 3, s1.heap.objs.size, s1.heap.objs.size + 1], _, _, H1, rfl, I1.kept (t' := s1.toks) hk,
    turn_zipN (PySem.W.ktu_apart s1.heap.objs.size a b la lb), ⟨⟨.none, .bool false, .inl rfl, ⟨false, rfl⟩, hz⟩, hTI, ⟨_, _, hTO⟩, n1, n2⟩, fun c hcm => ?_, q⟩
  have le : s1.heap.objs.size ≤ c := by
    simp only [List.mem_cons, List.not_mem_nil, or_false] at hcm
    rcases hcm with e | e | e | e | e <;> subst e
    · exact Nat.le_add_right _ _
    · exact Nat.le_add_right _ _
    · exact Nat.le_add_right _ _
    · exact Nat.le_refl _
    · exact Nat.le_add_right _ _
  exact I1.fpOk le (I1.hok.fresh le)
/-- a walk of two tuples, pair by pair -/
theorem r_forZ {K : PySem.W.Frag} {g : TG} {tb : TS} {D : Ends} {σ : L2.St} {H : Hp} {a b : Addr} (xs ys : List V) (n : Nat) (hx : xs.length = n) (hy : ys.length = n) (Pv : Nat → L2.St → Hp → Prop) (h0 : Pv 0 σ H)
    (hl : ∀ i σ H, i ≤ n → Pv i σ H → SqT K H a xs ∧ SqT K H b ys)
    (hs : ∀ i x y σ H T, xs[i]? = some x → ys[i]? = some y → Pv i σ H → H T = none → g (.ref T) σ (upd H T (.tup [x, y])) fun σ2 H2 => tb { D with nx := Pv (i + 1), ct := Pv (i + 1), bk := D.nx } σ2 H2)
    (hd : ∀ σ H, Pv n σ H → D.nx σ H) : tFor (fun _ H2 R => R (RZ.ItzT K a b) H2) g tb D σ H := by
  refine ⟨fun i m σ H => m = n - i ∧ i ≤ n ∧ Pv i σ H, ⟨n, by omega, Nat.zero_le _, h0⟩, ?_⟩
  rintro i m σ H ⟨rfl, hi, p⟩
  obtain ⟨qx, qy⟩ := hl i σ H hi p
  by_cases lt : i < n
  · have ix : i < xs.length := by omega
    have iy : i < ys.length := by omega
    refine Or.inr ⟨⟨xs, ys, xs[i], ys[i], qx, qy, by simp [ix], by simp [iy]⟩, Pv (i + 1), fun σ' H' p' => ⟨n - (i + 1), by omega, rfl, lt, p'⟩, fun v H' yy => ?_⟩
    obtain ⟨T, x, y, rfl, nT, rfl, f1, f2⟩ := yy
    exact hs i x y σ H T (f1 xs qx) (f2 ys qy) p nT
  · have e : i = n := by omega
    subst e
    exact Or.inl ⟨⟨xs, ys, qx, qy, .inl (by omega)⟩, hd σ H p⟩
theorem r_forZn {K : PySem.W.Frag} {g : TG} {tb : TS} {D : Ends} {σ : L2.St} {H : Hp} {ta : TA} (h : ta σ H fun vs H1 => ∃ a b xs ys, vs = [.ref a, .ref b] ∧ SqT K H1 a xs ∧ SqT K H1 b ys ∧ tFor (fun _ H2 R => R (RZ.ItzT K a b) H2) g tb D σ H1) :
    tFor (iZn K ta) g tb D σ H := h
end Vf

namespace Vf
open PySem PySem.Spec PyProof.Rows L2
/-! ## *= and //= of ints -/
def ipC (C : Int → Int → Prop) (f : Int → Int → Int) : TIp := fun x y H Q => ∃ i j, x = .int i ∧ y = .int j ∧ C i j ∧ Q (.int (f i j)) H
theorem r_ipC {C : Int → Int → Prop} {f : Int → Int → Int} {i j : Int} {H : Hp} {Q : VK} (c : C i j) (q : Q (.int (f i j)) H) : ipC C f (.int i) (.int j) H Q := ⟨i, j, rfl, rfl, c, q⟩
section
variable {X : Cx}
theorem ip_mulX : PIp X .Mult (ipC CMulX fun i j => i * j) := by
  intro pins s σ H x y v u Q I rx ry h
  obtain ⟨i, j, rfl, rfl, c, q⟩ := h
  obtain ⟨t1, rfl⟩ := rx
  obtain ⟨t2, rfl⟩ := ry
  exact PySem.AutoIntOps.imul_0 ⟨.int _, H, I.tok _, ⟨_, rfl⟩, q⟩ c.ok
theorem ip_fdivW : PIp X .FloorDiv (ipC CDivW fun i j => i / j) := by
  intro pins s σ H x y v u Q I rx ry h
  obtain ⟨i, j, rfl, rfl, c, q⟩ := h
  obtain ⟨t1, rfl⟩ := rx
  obtain ⟨t2, rfl⟩ := ry
  have j0 : (0 : Int) < j := c.1
  refine PySem.AutoIntOps.ifloordiv_1 (by simp; omega) (by rw [PyProof.noPylong_of_log2 c.2]; decide) ?_
  rw [Int.fdiv_eq_ediv_of_nonneg i (by omega)]
  exact ⟨.int _, H, I.tok _, ⟨_, rfl⟩, q⟩
end
/-! ## zip under two names -/
theorem r_forZa {K : PySem.W.Frag} {g : TG} {tb : TS} {D : Ends} {σ : L2.St} {H : Hp} {ta : TA} (h : ta σ H fun vs H1 => ∃ a b xs ys, vs = [.ref a, .ref b] ∧ ((SqL K H1 a xs ∧ SqL K H1 b ys ∧ tFor (fun _ H2 R => R (Itz K a b) H2) g tb D σ H1) ∨
    (SqT K H1 a xs ∧ SqT K H1 b ys ∧ tFor (fun _ H2 R => R (RZ.ItzT K a b) H2) g tb D σ H1))) : tFor (RZ.iZipA K ta) g tb D σ H := h
end Vf

namespace Vf
open PySem PySem.Spec PyProof.Rows L2
/-! ## tuples of ints, compared and shown -/
section
variable {K : PySem.W.Frag} {H : Hp} {Q : VK}
def tupD (ns : List Int) : PyData := .tuple (ns.map PyData.int)
theorem Dp.tupD {a : Addr} {ns : List Int} (h : SqT K H a (ns.map V.int)) : Dp K H (.ref a) (tupD ns) := .tup h (DpAll.ints ns)
theorem shapedTup (ns : List Int) : SeqAt.shaped (tupD ns) = true := by
  unfold SeqAt.shaped
  rw [Bool.and_eq_true]
  refine ⟨canInts ns, decide_eq_true ?_⟩
  show PyData.depthAll (ns.map PyData.int) + 1 ≤ 64
  rw [depthInts]; decide
theorem r_neT {a b : Addr} (ns ms : List Int) (h1 : SqT K H a (ns.map V.int)) (h2 : SqT K H b (ms.map V.int)) (h : Q (.bl (!decide (ns = ms))) H) : rNeD K (.ref a) (.ref b) H Q := by
  refine r_neD (Dp.tupD h1) (Dp.tupD h2) (shapedTup ns) (shapedTup ms) ?_
  rw [show PyData.eqv (tupD ns) (tupD ms) = decide (ns = ms) from eqvInts ns ms]
  exact h
def twoD (ns ms : List Int) : PyData := .list [tupD ns, tupD ms]
theorem r_reprTT {a t1 t2 : Addr} (ns ms : List Int) (hs : SqL K H a [.ref t1, .ref t2]) (h1 : SqT K H t1 (ns.map V.int)) (h2 : SqT K H t2 (ms.map V.int)) (b1 : ∀ n ∈ ns, n.natAbs < 2 ^ 1900) (b2 : ∀ n ∈ ms, n.natAbs < 2 ^ 1900)
    (l1 : ns.length ≤ 20) (l2 : ms.length ≤ 20) (h : Q (.str (twoD ns ms).shown) H) : rRepr K [.ref a] H Q := by
  refine r_reprD (twoD ns ms) (Dp.lst hs (.cons (Dp.tupD h1) (.cons (Dp.tupD h2) .nil))) ?_ ?_ ?_ h
  · show (tameAll (ns.map PyData.int) && (tameAll (ms.map PyData.int) && true)) = true
    rw [tameInts ns b1, tameInts ms b2]
    rfl
  · show max (PyData.depthAll (ns.map PyData.int) + 1) (max (PyData.depthAll (ms.map PyData.int) + 1) 0) + 1 ≤ 40
    rw [depthInts, depthInts]
    decide
  · show 4 + ((4 + roomAll (ns.map PyData.int)) + 2 + ((4 + roomAll (ms.map PyData.int)) + 2 + 0)) ≤ 100000
    rw [roomInts, roomInts]
    omega
end
end Vf

namespace Vf
open PySem PySem.Spec PyProof.Rows L2
/-! ## zip of three tuples -/
/-- the tuples at a, b, c, item by item in new triples -/
def ItT3 (K : PySem.W.Frag) (a b c : Addr) : It :=
  ⟨fun i H => ∃ (xs ys zs : List V), (SqT K H a xs ∧ SqT K H b ys ∧ SqT K H c zs) ∧ i < xs.length ∧ i < ys.length ∧ i < zs.length,
   fun i H v H' => ∃ T x y z, v = .ref T ∧ H T = none ∧ H' = upd H T (.tup [x, y, z]) ∧ (∀ xs, SqT K H a xs → xs[i]? = some x) ∧ (∀ ys, SqT K H b ys → ys[i]? = some y) ∧ ∀ zs, SqT K H c zs → zs[i]? = some z,
   fun i H => ∃ (xs ys zs : List V), (SqT K H a xs ∧ SqT K H b ys ∧ SqT K H c zs) ∧ (i ≤ xs.length ∧ i ≤ ys.length ∧ i ≤ zs.length) ∧ (i = xs.length ∨ i = ys.length ∨ i = zs.length)⟩
/-- the cells of it -/
structure Six (u TI TO i1 i2 i3 a b c : Addr) : Prop where
  ap : u ≠ TI ∧ u ≠ TO ∧ u ≠ i1 ∧ u ≠ i2 ∧ u ≠ i3 ∧ TI ≠ TO ∧ TI ≠ i1 ∧ TI ≠ i2 ∧ TI ≠ i3 ∧ TO ≠ i1 ∧ TO ≠ i2 ∧ TO ≠ i3 ∧ i1 ≠ i2 ∧ i1 ≠ i3 ∧ i2 ≠ i3
  a0 : a ≠ u ∧ a ≠ TI ∧ a ≠ TO ∧ a ≠ i1 ∧ a ≠ i2 ∧ a ≠ i3
  b0 : b ≠ u ∧ b ≠ TI ∧ b ≠ TO ∧ b ≠ i1 ∧ b ≠ i2 ∧ b ≠ i3
  c0 : c ≠ u ∧ c ≠ TI ∧ c ≠ TO ∧ c ≠ i1 ∧ c ≠ i2 ∧ c ≠ i3
theorem Six.sep {u TI TO i1 i2 i3 a b c : Addr} (S : Six u TI TO i1 i2 i3 a b c) : ZipSep3 u TI TO i1 i2 i3 [i1, a] [i2, b] [i3, c] := by
  obtain ⟨⟨s1, s2, s3, s4, s5, s6, s7, s8, s9, s10, s11, s12, s13, s14, s15⟩, ⟨a1, a2, a3, a4, a5, a6⟩, ⟨b1, b2, b3, b4, b5, b6⟩, ⟨c1, c2, c3, c4, c5, c6⟩⟩ := S
  constructor <;> simp [*, Ne.symm s1, Ne.symm s2, Ne.symm s3, Ne.symm s6, Ne.symm a1, Ne.symm a3, Ne.symm a4, Ne.symm a5, Ne.symm a6, Ne.symm b1, Ne.symm b3, Ne.symm b4, Ne.symm b5, Ne.symm b6, Ne.symm c1, Ne.symm c3, Ne.symm c4, Ne.symm c5, Ne.symm c6, Ne.symm s13, Ne.symm s14, Ne.symm s15]
def Z3At (u TI TO i1 i2 i3 a b c : Addr) (i : Nat) (h : Heap) : Prop :=
  IsZip h u TI TO .none ∧ IsTupOf3 h TI (.ref i1) (.ref i2) (.ref i3) ∧ (∃ x y z, IsTupOf3 h TO x y z) ∧ h.IsTupleIter i1 a i ∧ h.IsTupleIter i2 b i ∧ h.IsTupleIter i3 c i
theorem turn_zip3 {P : Program} {w : World} {K : PySem.W.Frag} {elts : List Expr} {kk : Nat} {tpos : Pos} {u TI TO i1 i2 i3 a b c : Addr} (S : Six u TI TO i1 i2 i3 a b c) :
    Turn P w K (.Tuple elts kk tpos) (ItT3 K a b c) [u, TI, TO, i1, i2, i3] u (Z3At u TI TO i1 i2 i3 a b c) where
  mem := List.mem_cons_self
  obj := fun i h st d hd => by
    obtain ⟨zz, ti, ⟨x, y, z, to⟩, ⟨o1, e1, _, d1⟩, ⟨o2, e2, _, d2⟩, ⟨o3, e3, _, d3⟩⟩ := st
    simp only [List.mem_cons, List.not_mem_nil, or_false] at hd
    rcases hd with e | e | e | e | e | e
    · subst e; exact ⟨_, zz, fun v q => nomatch q⟩
    · subst e; exact ⟨_, ti, fun v q => nomatch q⟩
    · subst e; exact ⟨_, to, fun v q => nomatch q⟩
    · subst e; exact ⟨o1, e1, fun v q => by rw [d1] at q; cases q⟩
    · subst e; exact ⟨o2, e2, fun v q => by rw [d2] at q; cases q⟩
    · subst e; exact ⟨o3, e3, fun v q => by rw [d3] at q; cases q⟩
  keep := fun i h h' st k => by
    obtain ⟨zz, ti, ⟨x, y, z, to⟩, h1, h2, h3⟩ := st
    exact ⟨k u (by simp) _ zz, k TI (by simp) _ ti, ⟨x, y, z, k TO (by simp) _ to⟩, h1.at fun o q => k i1 (by simp) o q, h2.at fun o q => k i2 (by simp) o q, h3.at fun o q => k i3 (by simp) o q⟩
  item := by
    intro X hP hw hK hc i pins s σ H E I hf st hg
    subst hP hw hK
    obtain ⟨zz, ti, ⟨x0, y0, z0, to⟩, h1, h2, h3⟩ := st
    obtain ⟨xs, ys, zs, ⟨qx, qy, qz⟩, lx, ly, lz⟩ := hg
    obtain ⟨v1, r1, t1, _⟩ := I.tuple qx
    obtain ⟨v2, r2, t2, _⟩ := I.tuple qy
    obtain ⟨v3, r3, t3, _⟩ := I.tuple qz
    obtain ⟨y1, g1, w1⟩ := r1.get (List.getElem?_eq_getElem lx)
    obtain ⟨y2, g2, w2⟩ := r2.get (List.getElem?_eq_getElem ly)
    obtain ⟨y3, g3, w3⟩ := r3.get (List.getElem?_eq_getElem lz)
    have n1 := r1.length
    have n2 := r2.length
    have n3 := r3.length
    have hd := I.ok.hd hc
    have b0 : u < s.heap.objs.size := Heap.lt_size zz
    have bI : TI < s.heap.objs.size := Heap.lt_size ti
    have bO : TO < s.heap.objs.size := Heap.lt_size to
    have b1 : i1 < s.heap.objs.size := by
      obtain ⟨_, q, _⟩ := h1
      exact Heap.lt_size q
    have b2 : i2 < s.heap.objs.size := by
      obtain ⟨_, q, _⟩ := h2
      exact Heap.lt_size q
    have b3 : i3 < s.heap.objs.size := by
      obtain ⟨_, q, _⟩ := h3
      exact Heap.lt_size q
    refine wpAny_pyNext_zipD3_item S.sep (drawsT (A := X.A.in1) hd i1 a S.a0.2.2.2.1 v1.toArray) (drawsT (A := X.A.in1) hd i2 b S.b0.2.2.2.2.1 v2.toArray) (drawsT (A := X.A.in1) hd i3 c S.c0.2.2.2.2.2 v3.toArray)
      zz ti to ⟨h1, t1⟩ ⟨h2, t2⟩ ⟨h3, t3⟩ (by simp; omega) (by simp; omega) (by simp; omega) fun x1 x2 x3 m tk p1 p2 p3 zz' to' st1 st2 st3 np sz kp => ?_
    obtain rfl : y1 = x1 := by
      have : v1[i]? = some x1 := by simpa using p1
      rw [g1] at this
      exact Option.some.inj this
    obtain rfl : y2 = x2 := by
      have : v2[i]? = some x2 := by simpa using p2
      rw [g2] at this
      exact Option.some.inj this
    obtain rfl : y3 = x3 := by
      have : v3[i]? = some x3 := by simpa using p3
      rw [g3] at this
      exact Option.some.inj this
    refine ⟨_, rfl, wpAny_letOwnedTupleGo_zip (s := { s with heap := m, toks := tk }) zz' fun m2 zz2 sb => ?_⟩
    have np2 : IsTupOf3 m2 s.heap.objs.size y1 y2 y3 := (sb.2 _ (Nat.ne_of_gt b0)).trans np
    have fresh : ObjOk X.prog X.w (upd H s.heap.objs.size (.tup [xs[i], ys[i], zs[i]])) m2 s.heap.objs.size (.tup [xs[i], ys[i], zs[i]]) :=
      ⟨by show 3 ≤ sizeLine; decide, [y1, y2, y3], .cons w1 (.cons w2 (.cons w3 .nil)), ⟨_, np2, rfl, _, rfl⟩⟩
    have stay : ∀ d o, d ∉ [u, TI, TO, i1, i2, i3] → s.heap.get? d = some o → m2.get? d = some o := fun d o hb q =>
      (sb.2 d (fun e => hb (by simp [e]))).trans (kp d o (fun e => hb (by simp [e])) (fun e => hb (by simp [e])) (fun e => hb (by simp [e])) (fun e => hb (by simp [e])) (fun e => hb (by simp [e])) q)
    have I1 := I.turnedNew (t' := tk) (ch := [u, TI, TO, i1, i2, i3]) stay hf (Nat.le_refl _) fresh
    obtain ⟨⟨s1, s2, s3, s4, s5, s6, s7, s8, s9, s10, s11, s12, s13, s14, s15⟩, _, _, _⟩ := S
    refine ⟨.ref s.heap.objs.size, _, I1, rfl, ⟨_, xs[i], ys[i], zs[i], rfl, I.hok.fresh (Nat.le_refl _), rfl, fun l hl => by rw [I.tuple_inj hl qx]; exact List.getElem?_eq_getElem lx, fun l hl => by rw [I.tuple_inj hl qy]; exact List.getElem?_eq_getElem ly,
      fun l hl => by rw [I.tuple_inj hl qz]; exact List.getElem?_eq_getElem lz⟩, ⟨zz2, (sb.2 _ (Ne.symm s1)).trans (kp _ _ (Ne.symm s1) s6 s7 s8 s9 ti), ⟨_, _, _, (sb.2 _ (Ne.symm s2)).trans to'⟩, st1.1.at fun o q => (sb.2 _ (Ne.symm s3)).trans q, st2.1.at fun o q => (sb.2 _ (Ne.symm s4)).trans q,
      st3.1.at fun o q => (sb.2 _ (Ne.symm s5)).trans q⟩, fun d hdm => ?_⟩
    have lt : d < s.heap.objs.size := by
      have h2 := hdm
      simp only [List.mem_cons, List.not_mem_nil, or_false] at h2
      rcases h2 with e | e | e | e | e | e <;> (subst e; assumption)
    rw [upd_ne (Nat.ne_of_lt lt)]
    exact (hf d hdm).1
  done := by
    intro X hP hw hK hc i pins s σ H E I hf st hg
    subst hP hw hK
    obtain ⟨zz, ti, ⟨x0, y0, z0, to⟩, h1, h2, h3⟩ := st
    obtain ⟨xs, ys, zs, ⟨qx, qy, qz⟩, ⟨lx, ly, lz⟩, en⟩ := hg
    obtain ⟨v1, r1, t1, _⟩ := I.tuple qx
    obtain ⟨v2, r2, t2, _⟩ := I.tuple qy
    obtain ⟨v3, r3, t3, _⟩ := I.tuple qz
    have n1 := r1.length
    have n2 := r2.length
    have n3 := r3.length
    have hd := I.ok.hd hc
    refine wpAny_pyNext_zipD3_end S.sep (drawsT (A := X.A.in1) hd i1 a S.a0.2.2.2.1 v1.toArray) (drawsT (A := X.A.in1) hd i2 b S.b0.2.2.2.2.1 v2.toArray) (drawsT (A := X.A.in1) hd i3 c S.c0.2.2.2.2.2 v3.toArray)
      zz ti to ⟨h1, t1⟩ ⟨h2, t2⟩ ⟨h3, t3⟩ (by simp; omega) (by simp; omega) (by simp; omega) (by simp; omega) fun m tk kp => ⟨rfl, ?_⟩
    exact I.turnedL (t' := tk) (ch := [u, TI, TO, i1, i2, i3]) (fun d o hb q => kp d o (fun e => hb (by simp [e])) (fun e => hb (by simp [e])) (fun e => hb (by simp [e])) (fun e => hb (by simp [e])) (fun e => hb (by simp [e])) q) hf
  self := fun A i s Q E st h => wpAny_pyIter_zip st.1 h
end Vf

namespace Vf
open PySem PySem.Spec PyProof.Rows L2
/-! ## zip of three tuples: the rule, and a comprehension over it -/
def iZ3 (K : PySem.W.Frag) (ta : TA) : TI := fun σ H R => ta σ H fun vs H1 => ∃ a b c xs ys zs, vs = [.ref a, .ref b, .ref c] ∧ (SqT K H1 a xs ∧ SqT K H1 b ys ∧ SqT K H1 c zs) ∧ R (ItT3 K a b c) H1
theorem six_new (n a b c : Nat) (ha : a < n) (hb : b < n) (hc : c < n) : Six (n + 5) (n + 3) (n + 4) n (n + 1) (n + 2) a b c := by
  refine ⟨⟨?_, ?_, ?_, ?_, ?_, ?_, ?_, ?_, ?_, ?_, ?_, ?_, ?_, ?_, ?_⟩, ⟨?_, ?_, ?_, ?_, ?_, ?_⟩, ⟨?_, ?_, ?_, ?_, ?_, ?_⟩, ⟨?_, ?_, ?_, ?_, ?_, ?_⟩⟩ <;> (show _ ≠ _; intro e; have e2 : (_ : Nat) = _ := e; omega)
theorem i_zip3 {X : Cx} {K : PySem.W.Frag} {e1 e2 e3 : Expr} {ta : TA} {p pos tpos : Pos} {elts : List Expr} {kk : Nat} (ek : X.K = K) (hg : Gl X "zip") (hm : X.mg "zip" = none) (ha : PA X [e1, e2, e3] ta)
    (hs : starEach [e1, e2, e3] X.env = (false, eval e1 X.env) :: starEach [e2, e3] X.env := by rfl) (hp : (backTo pos (starEach [e2, e3] X.env)).any (·.1) = false := by rfl) :
    PI X (.Tuple elts kk tpos) (.Call (.Name "zip" p) [e1, e2, e3] [] pos) (iZ3 K ta) := by
  subst ek
  refine ⟨fun pins s σ H R I h => ?_⟩
  refine Call_ (ld_blt I hg hm PyProof.Rows.boot_zip (PyProof.Rows.callWith_type1 (thn (ha.run pos pins s σ H _ I h) fun us s1 ⟨vs, H1, I1, r1, q1⟩ => ?_) hs hp))
  obtain ⟨a, b, c, xs, ys, zs, rfl, ⟨qx, qy, qz⟩, q⟩ := q1
  obtain ⟨ua, ub, uc, rfl, ra, rb, rc⟩ : ∃ ua ub uc, us = [ua, ub, uc] ∧ RelV (.ref a) ua ∧ RelV (.ref b) ub ∧ RelV (.ref c) uc := by
    cases r1 with
    | cons r rr =>
      cases rr with
      | cons r' rr =>
        cases rr with
        | cons r'' rr =>
          cases rr
          exact ⟨_, _, _, rfl, r, r', r''⟩
  cases ra
  cases rb
  cases rc
  obtain ⟨v1, _, t1, _⟩ := I1.tuple qx
  obtain ⟨v2, _, t2, _⟩ := I1.tuple qy
  obtain ⟨v3, _, t3, _⟩ := I1.tuple qz
  have la : a < s1.heap.objs.size := t1.lt
  have lb : b < s1.heap.objs.size := t2.lt
  have lc : c < s1.heap.objs.size := t3.lt
  refine zip_begins3 (begins_tuple a v1.toArray) (begins_tuple b v2.toArray) (begins_tuple c v3.toArray) t1 t2 t3 fun m hz hTI hTO g1 g2 g3 hsz hk => wpAny_pyIter_zip hz ?_
  refine ⟨s1.heap.objs.size + 5, [s1.heap.objs.size + 5, s1.heap.objs.size + 3, s1.heap.objs.size + 4, s1.heap.objs.size, s1.heap.objs.size + 1, s1.heap.objs.size + 2], _, _, H1, rfl, I1.kept (t' := s1.toks) hk,
    turn_zip3 (six_new s1.heap.objs.size a b c la lb lc), ⟨hz, hTI, ⟨_, _, _, hTO⟩, ⟨_, g1, rfl, rfl⟩, ⟨_, g2, rfl, rfl⟩, ⟨_, g3, rfl, rfl⟩⟩, fun d hd => ?_, q⟩
  have le : s1.heap.objs.size ≤ d := by
    simp only [List.mem_cons, List.not_mem_nil, or_false] at hd
    rcases hd with e | e | e | e | e | e <;> subst e
    · exact Nat.le_add_right _ _
    · exact Nat.le_add_right _ _
    · exact Nat.le_add_right _ _
    · exact Nat.le_refl _
    · exact Nat.le_add_right _ _
    · exact Nat.le_add_right _ _
  exact I1.fpOk le (I1.hok.fresh le)
section
variable {K : PySem.W.Frag} {σ : L2.St} {H : Hp} {Q : VK} {g : TG} {tt : TT} {te : TE} {vs : List Nat}
theorem r_lcZ3i {ta : TA} (h : ta σ H fun ws H1 => ∃ a b c xs ys zs, ws = [.ref a, .ref b, .ref c] ∧ (SqT K H1 a xs ∧ SqT K H1 b ys ∧ SqT K H1 c zs) ∧ tLc (fun _ H2 R => R (ItT3 K a b c) H2) g tt te vs σ H1 Q) : tLc (iZ3 K ta) g tt te vs σ H Q := h
theorem r_lcZ3 {a b c : Addr} (xs ys zs : List V) (n : Nat) (nx : xs.length = n) (ny : ys.length = n) (nz : zs.length = n) (Pv : Addr → Nat → Hp → Prop) (h0 : ∀ D, H D = none → Pv D 0 (upd H D (.lst [])))
    (hl : ∀ D i H', H D = none → i ≤ n → Pv D i H' → SqT K H' a xs ∧ SqT K H' b ys ∧ SqT K H' c zs)
    (hs : ∀ D i x y z H' T, H D = none → xs[i]? = some x → ys[i]? = some y → zs[i]? = some z → Pv D i H' → H' T = none → g (.ref T) (wipe σ vs) (upd H' T (.tup [x, y, z])) fun σ2 H2 => wipe σ2 vs = wipe σ vs ∧ tt σ2 H2 fun b H3 =>
      if b = true then te σ2 H3 fun y H4 => ∃ acc, H4 D = some (.lst acc) ∧ acc.length < sizeLine ∧ Pv D (i + 1) (upd H4 D (.lst (acc ++ [y]))) else Pv D (i + 1) H3)
    (hd : ∀ D H', H D = none → Pv D n H' → Q (.ref D) H') : tLc (fun _ H2 R => R (ItT3 K a b c) H2) g tt te vs σ H Q := by
  refine fun D hD => ⟨fun i m H => m = n - i ∧ i ≤ n ∧ Pv D i H, ⟨n, by omega, Nat.zero_le _, h0 D hD⟩, ?_⟩
  rintro i m H' ⟨rfl, hi, p⟩
  obtain ⟨qx, qy, qz⟩ := hl D i H' hD hi p
  by_cases lt : i < n
  · refine Or.inr ⟨⟨xs, ys, zs, ⟨qx, qy, qz⟩, by omega, by omega, by omega⟩, Pv D (i + 1), fun H' p' => ⟨n - (i + 1), by omega, rfl, lt, p'⟩, fun v H'' yy => ?_⟩
    obtain ⟨T, x, y, z, rfl, nT, rfl, f1, f2, f3⟩ := yy
    exact hs D i x y z H' T hD (f1 xs qx) (f2 ys qy) (f3 zs qz) p nT
  · have e : i = n := by omega
    subst e
    exact Or.inl ⟨⟨xs, ys, zs, ⟨qx, qy, qz⟩, ⟨by omega, by omega, by omega⟩, .inl (by omega)⟩, hd D H' hD p⟩
end
end Vf

namespace Vf
open PySem PySem.Spec PyProof.Rows L2
/-! ## defs as values: named in a list, called by a name of the caller's -/
/-- a def at an address, with its promise -/
def OkL (P : Program) (w : World) (K : PySem.W.Frag) (mg : Str → Option Value) (base : Heap) (k : Nat) (f : Addr) (sp : Sp) : Prop :=
  ∃ (x : Str) (st : Stmt) (ps : List Str) (fd : FuncData), L2.Fun K x x st f fd ∧ L2.Binds K fd ps [] ∧
    (∀ (A : Around) (outer : List Env) (s : Shared) (H : Hp) (args : Args) (us : List Value) (vs : List V) (Q : VK) (E : XK),
      A.guards = some [] → Room k A → Env0 P w K mg base A outer s H → BindsTo s fd args (ps.zip us) → Vals vs us → sp vs H Q E →
        codeAny (model P w) A (.call (.ref f) args) (CR (CX P w) outer P w H s Q E) s) ∧
    ∀ vs H Q E, sp vs H Q E → vs.length = ps.length
section
variable {P : Program} {w : World} {K : PySem.W.Frag} {mg : Str → Option Value} {base : Heap} {k j : Nat} {x : Str} {st : Stmt} {ps : List Str} {sp : Sp}
theorem Ok.val (G : Ok P w K mg base k x st ps sp) (b : ∀ f fd, L2.Fun K x x st f fd → L2.Binds K fd ps []) : ∃ f, mg x = some (.ref f) ∧ OkL P w K mg base k f sp := by
  obtain ⟨⟨f, fd, F, hm, r⟩, l⟩ := G
  exact ⟨f, hm, x, st, ps, fd, F, b f fd F, r, l⟩
end
section
variable {X : Cx} {k i : Nat} {E : XK} {x : Str} {p pos : Pos} {e : Expr} {es : List Expr} {t : TA}
/-- the slot holds one of some defs -/
def tCallH (i : Nat) (S : Addr → Sp → Prop) (E : XK) (t : TA) : TE := fun σ H Q => ∃ f sp, σ[i]? = some (some (.ref f)) ∧ S f sp ∧ t σ H fun vs H1 => sp vs H1 Q E
theorem pe_gl {S : Addr → Sp → Prop} (A : ∀ f sp, S f sp → OkL X.prog X.w X.K X.mg X.base k f sp) (hg : X.A.guards = some []) (hr : Room k X.A) (hx : Passes (CX X.prog X.w) X E)
    (hN : X.N[i]? = some x) (hv : Vis X.env.scope x) (ha : PA X (e :: es) t)
    (hdb : (x == ("__debug__" : Str)) = false := by decide) (hcd : (x == ("__classdict__" : Str)) = false := by decide)
    (he : starEach (e :: es) X.env = (false, eval e X.env) :: starEach es X.env := by rfl)
    (hpl : (backTo pos (starEach es X.env)).any (·.1) = false := by rfl) :
    PE X (.Call (.Name x p) (e :: es) [] pos) (tCallH i S E t) := by
  refine ⟨fun pins s σ H Q I h => ?_⟩
  obtain ⟨f, sp, hs, hS, ht⟩ := h
  obtain ⟨_, _, ps, fd, F, hb, r, l⟩ := A f sp hS
  refine wpAny_Call_Name_kw (thn ((pe_var (pos := p) hN hv hdb hcd).run pins s σ H (fun v H1 => v = .ref f ∧ H1 = H) I ⟨.ref f, hs, rfl, rfl⟩) fun u s1 ⟨v, H1, I1, r1, q1⟩ => ?_)
  obtain ⟨rfl, rfl⟩ := q1
  cases r1
  refine PySem.W.callWith_K (h₀ := X.base) I.ok.mod.kin F.kp
    (thn (ha.run pos pins s1 σ _ _ I1 ht) fun us s2 ⟨vs, H2, I2, r2, q⟩ => ⟨I2.kIn, ?_⟩) he hpl
  have hl : us.length = ps.length := by rw [← r2.length]; exact l _ _ _ _ q
  have bb := hb s2 us I2.kIn (by rw [List.append_nil]; exact hl)
  rw [List.append_nil] at bb
  refine wpAny_call (codeAny_mono (run_g r hg hr hx I2 bb r2 q) fun z s' hz => ?_)
  cases z with
  | error e => exact hz
  | ok fl => cases fl <;> exact hz
/-- the name of a def, as a value -/
theorem pe_gd {f : Addr} {pos : Pos} (gl : Gl X x) (hm : X.mg x = some (.ref f)) (hd : (x == ("__debug__" : Str)) = false := by decide) : PE X (.Name x pos) (tC (.ref f)) :=
  pe_glob gl hm rfl hd
end
theorem r_callH {i : Nat} {S : Addr → Sp → Prop} {E : XK} {t : TA} {σ : L2.St} {H : Hp} {Q : VK} (f : Addr) (sp : Sp) (h1 : σ[i]? = some (some (.ref f))) (h2 : S f sp) (h : t σ H fun vs H1 => sp vs H1 Q E) : tCallH i S E t σ H Q := ⟨f, sp, h1, h2, h⟩
end Vf

namespace Vf
open PySem PySem.Spec PyProof.Rows L2
/-! ## lists of rows -/
section
variable {K : PySem.W.Frag} {H H' : Hp} {Q : VK}
/-- a list of refs to tuples of ints -/
def RowsAt (K : PySem.W.Frag) (H : Hp) (vs : List V) (nss : List (List Int)) : Prop := Paired (fun v ns => ∃ p, v = V.ref p ∧ SqT K H p (ns.map V.int)) vs nss
theorem RowsAt.mono {vs : List V} {nss : List (List Int)} (h : RowsAt K H vs nss) (s : ∀ p xs, SqT K H p xs → SqT K H' p xs) : RowsAt K H' vs nss := by
  induction h with
  | nil => exact .nil
  | cons h1 h2 ih =>
    obtain ⟨p, e, t⟩ := h1
    exact .cons ⟨p, e, s p _ t⟩ ih
theorem RowsAt.same {vs : List V} {nss : List (List Int)} (h : RowsAt K H vs nss) (s : Same H H') : RowsAt K H' vs nss := h.mono fun _ _ t => Same.tup s t
theorem RowsAt.snoc {vs : List V} {nss : List (List Int)} {p : Addr} {ns : List Int} (h : RowsAt K H vs nss) (t : SqT K H p (ns.map V.int)) : RowsAt K H (vs ++ [.ref p]) (nss ++ [ns]) := by
  induction h with
  | nil => exact .cons ⟨p, rfl, t⟩ .nil
  | cons h1 h2 ih => exact .cons h1 ih
theorem RowsAt.len {vs : List V} {nss : List (List Int)} (h : RowsAt K H vs nss) : vs.length = nss.length := Paired.length h
theorem RowsAt.dp {vs : List V} {nss : List (List Int)} (h : RowsAt K H vs nss) : DpAll K H vs (nss.map tupD) := by
  induction h with
  | nil => exact .nil
  | cons h1 h2 ih =>
    obtain ⟨p, e, t⟩ := h1
    rw [e]
    exact .cons (Dp.tupD t) ih
def linesD (nss : List (List Int)) : PyData := .list (nss.map tupD)
theorem tameLines : ∀ nss : List (List Int), (∀ ns ∈ nss, ∀ n ∈ ns, n.natAbs < 2 ^ 1900) → tameAll (nss.map tupD) = true
  | [], _ => rfl
  | ns :: nss, h => by
    show (tameAll (ns.map PyData.int) && tameAll (nss.map tupD)) = true
    rw [tameInts ns (h ns List.mem_cons_self), tameLines nss (fun m hm => h m (List.mem_cons_of_mem _ hm))]
    rfl
theorem roomLines : ∀ nss : List (List Int), (∀ ns ∈ nss, ns.length ≤ 12) → roomAll (nss.map tupD) ≤ 24030 * nss.length
  | [], _ => Nat.le_refl _
  | ns :: nss, h => by
    have h1 := h ns List.mem_cons_self
    have h2 := roomLines nss (fun m hm => h m (List.mem_cons_of_mem _ hm))
    show (4 + roomAll (ns.map PyData.int)) + 2 + roomAll (nss.map tupD) ≤ 24030 * (nss.length + 1)
    rw [roomInts]
    omega
theorem depthLines : ∀ nss : List (List Int), PyData.depthAll (nss.map tupD) ≤ 1
  | [] => Nat.zero_le _
  | ns :: nss => by
    have h2 := depthLines nss
    show max (PyData.depthAll (ns.map PyData.int) + 1) (PyData.depthAll (nss.map tupD)) ≤ 1
    rw [depthInts]
    omega
theorem r_reprTs {a : Addr} {vs : List V} (nss : List (List Int)) (hs : SqL K H a vs) (R : RowsAt K H vs nss) (b : ∀ ns ∈ nss, ∀ n ∈ ns, n.natAbs < 2 ^ 1900) (l1 : nss.length ≤ 4) (l2 : ∀ ns ∈ nss, ns.length ≤ 12)
    (h : Q (.str (linesD nss).shown) H) : rRepr K [.ref a] H Q := by
  refine r_reprD (linesD nss) (Dp.lst hs R.dp) ?_ ?_ ?_ h
  · exact tameLines nss b
  · have := depthLines nss
    show PyData.depthAll (nss.map tupD) + 1 ≤ 40
    omega
  · have := roomLines nss l2
    show 4 + roomAll (nss.map tupD) ≤ 100000
    omega
end
end Vf

namespace Vf
/-! ## sums of powers: lists of ints, lowest first -/
def pval : List Int → Int → Int
  | [], _ => 0
  | c :: t, x => c + x * pval t x
def l1 : List Int → Nat
  | [] => 0
  | c :: t => c.natAbs + l1 t
theorem pval_append : ∀ (p q : List Int) (x : Int), pval (p ++ q) x = pval p x + x ^ p.length * pval q x
  | [], q, x => by simp [pval]
  | c :: p, q, x => by
    have h := pval_append p q x
    simp only [List.cons_append, pval, List.length_cons, h, Int.pow_succ]
    grind
theorem l1_append : ∀ (p q : List Int), l1 (p ++ q) = l1 p + l1 q
  | [], q => by simp [l1]
  | c :: p, q => by
    have h := l1_append p q
    simp only [List.cons_append, l1, h]
    omega
theorem pval_zeros : ∀ (n : Nat) (x : Int), pval (List.replicate n 0) x = 0
  | 0, _ => rfl
  | n + 1, x => by
    rw [List.replicate_succ, pval, pval_zeros n x]
    simp
theorem l1_zeros : ∀ (n : Nat), l1 (List.replicate n 0) = 0
  | 0 => rfl
  | n + 1 => by
    rw [List.replicate_succ, l1, l1_zeros n]
    rfl
theorem pval_set : ∀ {p : List Int} {i : Nat} {c v x : Int}, p[i]? = some c → pval (p.set i (c + v)) x = pval p x + v * x ^ i
  | [], i, c, v, x, h => by simp at h
  | a :: p, 0, c, v, x, h => by
    have e : a = c := by simpa using h
    subst e
    simp only [List.set_cons_zero, pval, Int.pow_zero]
    grind
  | a :: p, i + 1, c, v, x, h => by
    have h2 : p[i]? = some c := by simpa using h
    have ih := pval_set (v := v) (x := x) h2
    simp only [List.set_cons_succ, pval, ih, Int.pow_succ]
    grind
theorem l1_set : ∀ {p : List Int} {i : Nat} {c v : Int}, p[i]? = some c → l1 (p.set i (c + v)) ≤ l1 p + v.natAbs
  | [], i, c, v, h => by simp at h
  | a :: p, 0, c, v, h => by
    have e : a = c := by simpa using h
    subst e
    simp only [List.set_cons_zero, l1]
    omega
  | a :: p, i + 1, c, v, h => by
    have h2 : p[i]? = some c := by simpa using h
    have ih := l1_set (v := v) h2
    simp only [List.set_cons_succ, l1]
    omega
theorem take_nx {α : Type} {p : List α} {i : Nat} {c : α} (h : p[i]? = some c) : p.take (i + 1) = p.take i ++ [c] := by
  rw [List.take_add_one, h]
  rfl
theorem len_tk {p : List Int} {i : Nat} {c : Int} (h : p[i]? = some c) : (p.take i).length = i := by
  have := (List.getElem?_eq_some_iff.mp h).1
  rw [List.length_take]
  omega
theorem pval_take {p : List Int} {i : Nat} {c x : Int} (h : p[i]? = some c) : pval (p.take (i + 1)) x = pval (p.take i) x + c * x ^ i := by
  rw [take_nx h, pval_append, len_tk h]
  simp only [pval]
  grind
theorem l1_take {p : List Int} {i : Nat} {c : Int} (h : p[i]? = some c) : l1 (p.take (i + 1)) = l1 (p.take i) + c.natAbs := by
  rw [take_nx h, l1_append]
  simp only [l1]
  omega
theorem l1_take_le : ∀ (p : List Int) (i : Nat), l1 (p.take i) ≤ l1 p
  | [], i => by simp [l1]
  | a :: p, 0 => by simp [l1]
  | a :: p, i + 1 => by
    have := l1_take_le p i
    simp only [List.take_succ_cons, l1]
    omega
theorem drop_at {α : Type} {p : List α} {i : Nat} {c : α} (h : p[i]? = some c) : p.drop i = c :: p.drop (i + 1) := by
  have hl := (List.getElem?_eq_some_iff.mp h)
  obtain ⟨h1, h2⟩ := hl
  rw [List.drop_eq_getElem_cons h1, h2]
theorem pval_drop {p : List Int} {i : Nat} {c x : Int} (h : p[i]? = some c) : pval (p.drop i) x = c + x * pval (p.drop (i + 1)) x := by
  rw [drop_at h]
  rfl
theorem l1_drop {p : List Int} {i : Nat} {c : Int} (h : p[i]? = some c) : l1 (p.drop i) = c.natAbs + l1 (p.drop (i + 1)) := by
  rw [drop_at h]
  rfl
theorem l1_drop_le : ∀ (p : List Int) (i : Nat), l1 (p.drop i) ≤ l1 p
  | [], i => by simp [l1]
  | a :: p, 0 => Nat.le_refl _
  | a :: p, i + 1 => by
    have := l1_drop_le p i
    simp only [List.drop_succ_cons, l1]
    omega
theorem l1_mem : ∀ {p : List Int} {c : Int}, c ∈ p → c.natAbs ≤ l1 p
  | a :: p, c, h => by
    simp only [l1]
    rcases List.mem_cons.mp h with e | e
    · subst e; omega
    · have := l1_mem e; omega
theorem pval_le : ∀ (p : List Int) (x : Int) (X : Nat), 1 ≤ X → x.natAbs ≤ X → (pval p x).natAbs ≤ l1 p * X ^ p.length
  | [], x, X, _, _ => by simp [pval, l1]
  | c :: p, x, X, h1, hx => by
    have ih := pval_le p x X h1 hx
    simp only [pval, l1, List.length_cons]
    have e1 : (c + x * pval p x).natAbs ≤ c.natAbs + x.natAbs * (pval p x).natAbs := by
      have := Int.natAbs_add_le c (x * pval p x)
      rw [Int.natAbs_mul] at this
      exact this
    have e2 : x.natAbs * (pval p x).natAbs ≤ X * (l1 p * X ^ p.length) := Nat.mul_le_mul hx ih
    have e3 : X * (l1 p * X ^ p.length) = l1 p * X ^ (p.length + 1) := by rw [Nat.pow_succ]; grind
    have e4 : c.natAbs ≤ c.natAbs * X ^ (p.length + 1) := Nat.le_mul_of_pos_right _ (Nat.pow_pos h1)
    rw [Nat.add_mul]
    omega
/-- no number but 0 is divided by all -/
theorem no_div {d : Int} (h : ∀ x : Int, x ≠ 0 → x ∣ d) : d = 0 := by
  rcases Int.lt_trichotomy d 0 with c | c | c
  · have h1 := h (d - 1) (by omega)
    have := Int.le_of_dvd (show 0 < -d by omega) (Int.dvd_neg.mpr ((Int.neg_dvd).mpr h1))
    omega
  · exact c
  · have := Int.le_of_dvd c (h (d + 1) (by omega))
    omega
theorem pval_none : ∀ {p : List Int}, (∀ x : Int, x ≠ 0 → pval p x = 0) → ∀ c ∈ p, c = 0
  | [], _, _, h => by simp at h
  | a :: p, h, c, hc => by
    have ha : a = 0 := no_div fun x hx => by
      have := h x hx
      rw [pval] at this
      exact ⟨-pval p x, by grind⟩
    subst ha
    rcases List.mem_cons.mp hc with e | e
    · exact e
    · refine pval_none (p := p) (fun x hx => ?_) c e
      have := h x hx
      rw [pval, Int.zero_add] at this
      rcases Int.mul_eq_zero.mp this with z | z
      · exact absurd z hx
      · exact z
def psub : List Int → List Int → List Int
  | [], q => q.map fun c => -c
  | p, [] => p
  | a :: p, b :: q => (a - b) :: psub p q
theorem pval_neg : ∀ (q : List Int) (x : Int), pval (q.map fun c => -c) x = -pval q x
  | [], _ => rfl
  | c :: q, x => by
    simp only [List.map_cons, pval, pval_neg q x]
    grind
theorem pval_sub : ∀ (p q : List Int) (x : Int), pval (psub p q) x = pval p x - pval q x
  | [], q, x => by
    have e : psub [] q = q.map fun c => -c := by cases q <;> rfl
    rw [e, pval_neg]
    simp [pval]
  | a :: p, [], x => by simp [psub, pval]
  | a :: p, b :: q, x => by
    simp only [psub, pval, pval_sub p q x]
    grind
theorem psub_all : ∀ (p q : List Int), (∀ c ∈ psub p q, c = 0) → ∀ i, p.getD i 0 = q.getD i 0
  | [], q, h, i => by
    have e : psub [] q = q.map fun c => -c := by cases q <;> rfl
    rw [e] at h
    rw [List.getD_eq_getElem?_getD, List.getD_eq_getElem?_getD]
    cases hq : q[i]? with
    | none => rfl
    | some c =>
      have := h (-c) (List.mem_map.mpr ⟨c, List.mem_of_getElem? hq, rfl⟩)
      have : c = 0 := by omega
      subst this
      rfl
  | a :: p, [], h, i => by
    have h : ∀ c ∈ a :: p, c = 0 := h
    rw [List.getD_eq_getElem?_getD, List.getD_eq_getElem?_getD]
    cases hq : (a :: p)[i]? with
    | none => rfl
    | some c =>
      have := h c (List.mem_of_getElem? hq)
      subst this
      rfl
  | a :: p, b :: q, h, i => by
    have h0 : a - b = 0 := h (a - b) List.mem_cons_self
    have h1 := psub_all p q (fun c hc => h c (List.mem_cons_of_mem _ hc))
    cases i with
    | zero =>
      show a = b
      omega
    | succ i => exact h1 i
/-- without needless 0s at its end -/
def Canon (p : List Int) : Prop := p ≠ [] ∧ (p.length = 1 ∨ p.getD (p.length - 1) 0 ≠ 0)
theorem Canon.len {p : List Int} (h : Canon p) : 1 ≤ p.length := by
  cases p with
  | nil => exact absurd rfl h.1
  | cons a p => simp
theorem getD_out {p : List Int} {i : Nat} (h : p.length ≤ i) : p.getD i 0 = 0 := by
  rw [List.getD_eq_getElem?_getD, List.getElem?_eq_none h]
  rfl
theorem Canon.eq {p q : List Int} (hp : Canon p) (hq : Canon q) (h : ∀ x, pval p x = pval q x) : p = q := by
  have e := psub_all p q (pval_none fun x _ => by rw [pval_sub, h x]; omega)
  have lp := hp.len
  have lq := hq.len
  have el : p.length = q.length := by
    rcases Nat.lt_trichotomy p.length q.length with c | c | c
    · rcases hq.2 with z | z
      · omega
      · exact absurd ((e (q.length - 1)).symm.trans (getD_out (by omega))) z
    · exact c
    · rcases hp.2 with z | z
      · omega
      · exact absurd ((e (p.length - 1)).trans (getD_out (by omega))) z
  refine List.ext_getElem el fun i h1 h2 => ?_
  have := e i
  rw [List.getD_eq_getElem?_getD, List.getD_eq_getElem?_getD, List.getElem?_eq_getElem h1, List.getElem?_eq_getElem h2] at this
  exact this
theorem Canon.one (c : Int) : Canon [c] := ⟨by simp, .inl rfl⟩
theorem Canon.zero {p : List Int} (hp : Canon p) (h : ∀ x, pval p x = 0) : p = [0] := hp.eq (Canon.one 0) fun x => by rw [h x]; simp [pval]
/-- a sum, as a function, with bounds of its size and its degree -/
structure IsP (p : List Int) (f : Int → Int) (B d : Nat) : Prop where
  cn : Canon p
  v : ∀ x, pval p x = f x
  b : l1 p ≤ B
  l : p.length ≤ d + 1
theorem IsP.mono {p : List Int} {f : Int → Int} {B B' d d' : Nat} (h : IsP p f B d) (hb : B ≤ B') (hd : d ≤ d') : IsP p f B' d' := ⟨h.cn, h.v, Nat.le_trans h.b hb, by have := h.l; omega⟩
theorem IsP.eq {p q : List Int} {f g : Int → Int} {B B' d d' : Nat} (h : IsP p f B d) (h' : IsP q g B' d') (e : ∀ x, f x = g x) : p = q := h.cn.eq h'.cn fun x => by rw [h.v, h'.v, e]
theorem IsP.as {p : List Int} {f g : Int → Int} {B d : Nat} (h : IsP p f B d) (e : ∀ x, f x = g x) : IsP p g B d := ⟨h.cn, fun x => by rw [h.v, e], h.b, h.l⟩
/-- how a sum leans -/
def Dv (f g : Int → Int) : Prop := ∀ x h : Int, ∃ k : Int, f (x + h) = f x + h * g x + h * h * k
theorem Dv.uniq {f g g' : Int → Int} (a : Dv f g) (b : Dv f g') (x : Int) : g x = g' x := by
  have : g x - g' x = 0 := no_div fun h hh => by
    obtain ⟨k, e⟩ := a x h
    obtain ⟨k', e'⟩ := b x h
    refine ⟨k' - k, ?_⟩
    have : h * (g x - g' x - h * (k' - k)) = 0 := by grind
    rcases Int.mul_eq_zero.mp this with z | z
    · exact absurd z hh
    · omega
  omega
theorem Dv.add {f g f' g' : Int → Int} (a : Dv f f') (b : Dv g g') : Dv (fun x => f x + g x) (fun x => f' x + g' x) := fun x h => by
  obtain ⟨k, e⟩ := a x h
  obtain ⟨k', e'⟩ := b x h
  exact ⟨k + k', by simp only [e, e']; grind⟩
theorem Dv.mul {f g f' g' : Int → Int} (a : Dv f f') (b : Dv g g') : Dv (fun x => f x * g x) (fun x => f' x * g x + f x * g' x) := fun x h => by
  obtain ⟨k, e⟩ := a x h
  obtain ⟨k', e'⟩ := b x h
  exact ⟨f' x * g' x + f x * k' + k * g x + h * (f' x * k' + k * g' x) + h * h * k * k', by simp only [e, e']; grind⟩
theorem Dv.comp {f g f' g' : Int → Int} (a : Dv f f') (b : Dv g g') : Dv (fun x => f (g x)) (fun x => f' (g x) * g' x) := fun x h => by
  obtain ⟨k', e'⟩ := b x h
  obtain ⟨k, e⟩ := a (g x) (h * g' x + h * h * k')
  refine ⟨k' * f' (g x) + (g' x + h * k') * (g' x + h * k') * k, ?_⟩
  show f (g (x + h)) = _
  rw [e', show g x + h * g' x + h * h * k' = g x + (h * g' x + h * h * k') by omega, e]
  grind
theorem Dv.const (c : Int) : Dv (fun _ => c) (fun _ => 0) := fun x h => ⟨0, by grind⟩
theorem Dv.pow : ∀ (c : Int) (n : Nat), Dv (fun x => c * x ^ (n + 1)) (fun x => ((n + 1 : Nat) : Int) * c * x ^ n)
  | c, 0 => fun x h => ⟨0, by grind⟩
  | c, n + 1 => fun x h => by
    obtain ⟨k, e⟩ := Dv.pow c n x h
    have e : c * (x + h) ^ (n + 1) = c * x ^ (n + 1) + h * (((n + 1 : Nat) : Int) * c * x ^ n) + h * h * k := e
    refine ⟨((n + 1 : Nat) : Int) * c * x ^ n + (x + h) * k, ?_⟩
    show c * (x + h) ^ (n + 1 + 1) = c * x ^ (n + 1 + 1) + h * (((n + 1 + 1 : Nat) : Int) * c * x ^ (n + 1)) + h * h * (((n + 1 : Nat) : Int) * c * x ^ n + (x + h) * k)
    rw [Int.pow_succ (x + h), ← Int.mul_assoc, e, Int.pow_succ x (n + 1)]
    have e2 : x ^ (n + 1) = x ^ n * x := Int.pow_succ ..
    rw [e2]
    have e3 : ((n + 1 + 1 : Nat) : Int) = ((n + 1 : Nat) : Int) + 1 := rfl
    rw [e3]
    grind
theorem Dv.as {f f' g g' : Int → Int} (a : Dv f g) (e : ∀ x, f x = f' x) (e' : ∀ x, g x = g' x) : Dv f' g' := fun x h => by
  obtain ⟨k, z⟩ := a x h
  exact ⟨k, by rw [← e, ← e, ← e', z]⟩
/-- the slope's coefficients -/
def psl (p : List Int) (n : Nat) : List Int := (List.range n).map fun i : Nat => ((i + 1 : Nat) : Int) * p.getD (i + 1) 0
theorem psl_len (p : List Int) (n : Nat) : (psl p n).length = n := by simp [psl]
theorem psl_succ (p : List Int) (n : Nat) : psl p (n + 1) = psl p n ++ [((n + 1 : Nat) : Int) * p.getD (n + 1) 0] := by
  unfold psl
  rw [List.range_succ, List.map_append]
  rfl
theorem psl_dv (p : List Int) : ∀ n, n + 1 ≤ p.length → Dv (pval (p.take (n + 1))) (pval (psl p n))
  | 0, h => by
    obtain ⟨c, hc⟩ : ∃ c, p[0]? = some c := ⟨_, List.getElem?_eq_getElem (by omega)⟩
    refine (Dv.const c).as (fun x => ?_) (fun x => rfl)
    rw [take_nx hc]
    simp [pval]
  | n + 1, h => by
    obtain ⟨c, hc⟩ : ∃ c, p[n + 1]? = some c := ⟨_, List.getElem?_eq_getElem (by omega)⟩
    have ih := psl_dv p n (by omega)
    refine (ih.add (Dv.pow c n)).as (fun x => (pval_take hc).symm) (fun x => ?_)
    rw [psl_succ, pval_append, psl_len, List.getD_eq_getElem?_getD, hc]
    simp only [pval, Option.getD_some]
    grind
theorem psl_l1 (p : List Int) : ∀ n, n + 1 ≤ p.length → l1 (psl p n) ≤ n * l1 (p.take (n + 1))
  | 0, h => by simp [psl, l1]
  | n + 1, h => by
    obtain ⟨c, hc⟩ : ∃ c, p[n + 1]? = some c := ⟨_, List.getElem?_eq_getElem (by omega)⟩
    have ih := psl_l1 p n (by omega)
    rw [psl_succ, l1_append, l1_take hc, List.getD_eq_getElem?_getD, hc]
    simp only [l1, Option.getD_some]
    rw [Int.natAbs_mul, Int.natAbs_natCast, Nat.mul_add]
    have : n * l1 (p.take (n + 1)) ≤ (n + 1) * l1 (p.take (n + 1)) := Nat.mul_le_mul_right _ (by omega)
    omega
theorem IsP.slope {p : List Int} {f : Int → Int} {B d : Nat} (h : IsP p f B d) (hl : 2 ≤ p.length) : ∃ f', Dv f f' ∧ IsP (psl p (p.length - 1)) f' (d * B) (d - 1) := by
  have hd := h.l
  have hv := psl_dv p (p.length - 1) (by omega)
  have hb := psl_l1 p (p.length - 1) (by omega)
  rw [show p.length - 1 + 1 = p.length by omega, List.take_length] at hv hb
  refine ⟨_, hv.as h.v (fun _ => rfl), ⟨⟨fun e => ?_, .inr ?_⟩, fun _ => rfl, ?_, ?_⟩⟩
  · have := psl_len p (p.length - 1)
    rw [e] at this
    simp at this
    omega
  · rw [psl_len]
    have e : p.length - 1 = (p.length - 1 - 1) + 1 := by omega
    rw [List.getD_eq_getElem?_getD]
    unfold psl
    rw [List.getElem?_map, List.getElem?_range (by omega)]
    show ((p.length - 1 - 1 + 1 : Nat) : Int) * p.getD (p.length - 1 - 1 + 1) 0 ≠ 0
    rw [← e]
    rcases h.cn.2 with z | z
    · omega
    · exact Int.mul_ne_zero (by omega) z
  · refine Nat.le_trans hb (Nat.mul_le_mul (by omega) h.b)
  · rw [psl_len]; omega
end Vf

namespace Vf
/-! ## sums by their steps -/
def nval : List Int → Int → Int → Int
  | [], _, _ => 0
  | s :: t, j, x => s + (x - j) * nval t (j + 1) x
def lb : List Int → Nat → Nat
  | [], _ => 0
  | s :: t, j => s.natAbs + (1 + j) * lb t (j + 1)
theorem lb_le (S : Nat) : ∀ (s : List Int) (j : Nat), (∀ c ∈ s, c.natAbs ≤ S) → j + s.length ≤ 19 → lb s j ≤ S * 20 ^ s.length
  | [], _, _, _ => Nat.zero_le _
  | c :: t, j, h, hl => by
    rw [List.length_cons] at hl
    have h1 := h c List.mem_cons_self
    have h2 := lb_le S t (j + 1) (fun d hd => h d (List.mem_cons_of_mem _ hd)) (by omega)
    have h3 : (1 + j) * lb t (j + 1) ≤ 19 * (S * 20 ^ t.length) := Nat.mul_le_mul (by omega) h2
    have h4 : S ≤ S * 20 ^ t.length := Nat.le_mul_of_pos_right _ (Nat.pow_pos (by decide))
    rw [lb, List.length_cons, Nat.pow_succ, ← Nat.mul_assoc]
    omega
theorem nval_zeros (n : Nat) : ∀ (s : List Int) (j x : Int), nval (s ++ List.replicate n 0) j x = nval s j x
  | [], j, x => by
    rw [List.nil_append]
    induction n generalizing j with
    | zero => rfl
    | succ n ih =>
      show 0 + (x - j) * nval (List.replicate n 0) (j + 1) x = 0
      rw [ih]
      simp [nval]
  | c :: s, j, x => by
    rw [List.cons_append, nval, nval, nval_zeros n s (j + 1) x]
theorem far_div {d : Int} (N : Int) (h : ∀ y : Int, N < y → 0 < y → y ∣ d) : d = 0 := by
  have h1 := h (max N 0 + d.natAbs + 1) (by omega) (by omega)
  rcases Int.lt_trichotomy d 0 with c | c | c
  · have := Int.le_of_dvd (show 0 < -d by omega) (Int.dvd_neg.mpr h1)
    omega
  · exact c
  · have := Int.le_of_dvd c h1
    omega
theorem nval_none : ∀ {s : List Int} {j : Int} (N : Int), (∀ x : Int, N < x → nval s j x = 0) → ∀ c ∈ s, c = 0
  | [], _, _, _, _, h => by simp at h
  | a :: s, j, N, h, c, hc => by
    have ha : a = 0 := far_div (N - j) fun y h1 h2 => by
      have := h (y + j) (by omega)
      rw [nval, show y + j - j = y by omega] at this
      exact ⟨-nval s (j + 1) (y + j), by rw [Int.mul_neg]; omega⟩
    subst ha
    rcases List.mem_cons.mp hc with e | e
    · exact e
    · refine nval_none (s := s) (j := j + 1) (max N j) (fun x hx => ?_) c e
      have := h x (by omega)
      rw [nval, Int.zero_add] at this
      rcases Int.mul_eq_zero.mp this with z | z
      · omega
      · exact z
def nsub : List Int → List Int → List Int
  | a :: p, b :: q => (a - b) :: nsub p q
  | _, _ => []
theorem nval_sub : ∀ (p q : List Int) (j x : Int), p.length = q.length → nval (nsub p q) j x = nval p j x - nval q j x
  | [], [], j, x, _ => by simp [nsub, nval]
  | [], b :: q, j, x, h => by simp at h
  | a :: p, [], j, x, h => by simp at h
  | a :: p, b :: q, j, x, h => by
    have h1 := nval_sub p q (j + 1) x (by simpa using h)
    simp only [nsub, nval, h1]
    grind
theorem nsub_all : ∀ (p q : List Int), p.length = q.length → (∀ c ∈ nsub p q, c = 0) → p = q
  | [], [], _, _ => rfl
  | [], b :: q, h, _ => by simp at h
  | a :: p, [], h, _ => by simp at h
  | a :: p, b :: q, h, hz => by
    have h1 := nsub_all p q (by simpa using h) (fun c hc => hz c (List.mem_cons_of_mem _ hc))
    have h2 := hz (a - b) List.mem_cons_self
    rw [h1, show a = b by omega]
theorem nval_inj {p q : List Int} (hl : p.length = q.length) (h : ∀ x, nval p 0 x = nval q 0 x) : p = q :=
  nsub_all p q hl (nval_none (j := 0) 0 fun x _ => by rw [nval_sub p q 0 x hl, h x]; omega)
/-- the first r of a list as steps, the rest as coefficients -/
def mval : Nat → List Int → Int → Int → Int
  | 0, l, _, x => pval l x
  | _ + 1, [], _, _ => 0
  | r + 1, s :: t, j, x => s + (x - j) * mval r t (j + 1) x
theorem mval_all : ∀ (r : Nat) (l : List Int) (j x : Int), l.length ≤ r → mval r l j x = nval l j x
  | 0, l, j, x, h => by
    have : l = [] := List.eq_nil_of_length_eq_zero (by omega)
    subst this
    rfl
  | r + 1, [], j, x, h => rfl
  | r + 1, s :: t, j, x, h => by
    rw [mval, nval, mval_all r t (j + 1) x (by simpa using h)]
/-- one stage: the rest divided by x less the next number -/
theorem mval_stage : ∀ (r : Nat) (l l' : List Int) (j : Int) (x : Int), l'.length = l.length → r < l.length → l'.take r = l.take r →
    pval (l.drop r) x = l'.getD r 0 + (x - (j + r)) * pval (l'.drop (r + 1)) x → mval r l j x = mval (r + 1) l' j x
  | 0, l, l', j, x, hl, hr, ht, h => by
    match l', hl, h with
    | [], hl, _ => simp at hl; omega
    | s :: t, _, h =>
      rw [mval, mval, mval]
      rw [List.drop_zero] at h
      rw [h]
      simp
  | r + 1, l, l', j, x, hl, hr, ht, h => by
    match l, l', hl, hr, ht, h with
    | [], _, _, hr, _, _ => simp at hr
    | a :: l, [], hl, _, _, _ => simp at hl
    | a :: l, b :: l', hl, hr, ht, h =>
      rw [List.take_succ_cons, List.take_succ_cons] at ht
      obtain ⟨e1, e2⟩ := List.cons.inj ht
      have ih := mval_stage r l l' (j + 1) x (by simpa using hl) (by simpa using hr) e2 (by
        have h2 : pval (l.drop r) x = l'.getD r 0 + (x - (j + ((r + 1 : Nat) : Int))) * pval (l'.drop (r + 1)) x := h
        rw [show (j + 1 + (r : Int)) = j + ((r + 1 : Nat) : Int) by omega]
        exact h2)
      rw [mval, ih, ← e1]
      rfl
theorem mval_one (l : List Int) (x : Int) (h : l ≠ []) : mval 1 l 0 x = pval l x := by
  match l, h with
  | s :: t, _ => rw [mval, mval, pval, Int.sub_zero]
/-- how great steps of seven coefficients can be -/
def row : Nat → List Nat
  | 0 => [1, 1, 1, 1, 1, 1, 1]
  | 1 => [1, 6, 5, 4, 3, 2, 1]
  | 2 => [1, 6, 57, 26, 11, 4, 1]
  | 3 => [1, 6, 57, 122, 32, 7, 1]
  | 4 => [1, 6, 57, 122, 76, 11, 1]
  | 5 => [1, 6, 57, 122, 76, 16, 1]
  | _ => [1, 6, 57, 122, 76, 16, 1]
theorem row_ok : ∀ n < 6, ∀ i < 7, (row (n + 1)).getD i 0 = if i < n + 1 then (row n).getD i 0 else (row n).getD i 0 + (n + 1) * (row (n + 1)).getD (i + 1) 0 := by decide
theorem row_top : ∀ n < 7, ∀ i < 7, (row n).getD i 0 ≤ 122 := by decide
theorem row_up : ∀ n < 6, ∀ i < 7, (row n).getD i 0 ≤ (row (n + 1)).getD i 0 := by decide
end Vf

namespace Vf
open PySem PySem.Spec PyProof.Rows L2
/-! ## t[::-1], t a tuple -/
section
variable {prog : Program} {w : World} {A : Around} {E : Value → Shared → Prop} {s : Shared}
theorem adj_rev (n : Nat) : Builtin.Slice.sliceAdjust none none (-1) (n : Int) = ((n : Int) - 1, -1) := rfl
theorem plc_rev (n : Nat) : Builtin.Slice.slicePlaces ((n : Int) - 1) (-1) (-1) = n := by
  show (if (-1 : Int) > 0 then _ else (if (n : Int) - 1 > -1 then ((n : Int) - 1 - (-1) - 1) / (-(-1)) + 1 else 0)).toNat = n
  rw [if_neg (by decide)]
  split
  · rw [show (-(-1) : Int) = 1 from rfl, Int.ediv_one]
    omega
  · show (0 : Int).toNat = n
    have : n = 0 := by omega
    rw [this]
    rfl
theorem fm_some {α β : Type} {f : α → Option β} {g : α → β} : ∀ (l : List α), (∀ a ∈ l, f a = some (g a)) → l.filterMap f = l.map g
  | [], _ => rfl
  | a :: l, h => by
    rw [List.filterMap_cons, h a List.mem_cons_self, List.map_cons, fm_some l fun b hb => h b (List.mem_cons_of_mem _ hb)]
theorem pick_rev (xs : List Value) : ((List.range xs.length).filterMap fun m : Nat => xs.toArray[(((xs.length : Nat) : Int) - 1 + (m : Int) * -1).toNat]?) = xs.reverse := by
  have e1 : ∀ m ∈ List.range xs.length, xs.toArray[(((xs.length : Nat) : Int) - 1 + (m : Int) * -1).toNat]? = some (xs.reverse.getD m .none) := fun m hm => by
    have lt := List.mem_range.mp hm
    rw [show (((xs.length : Nat) : Int) - 1 + (m : Int) * -1).toNat = xs.length - 1 - m by omega, List.getElem?_toArray, List.getD_eq_getElem?_getD, List.getElem?_reverse lt, List.getElem?_eq_getElem (by omega)]
    rfl
  have e2 : ((List.range xs.length).filterMap fun m : Nat => xs.toArray[(((xs.length : Nat) : Int) - 1 + (m : Int) * -1).toNat]?) = (List.range xs.length).map fun m => xs.reverse.getD m .none := by
    exact fm_some _ e1
  rw [e2]
  refine List.ext_getElem (by simp) fun i h1 h2 => ?_
  rw [List.getElem_map, List.getElem_range, List.getD_eq_getElem?_getD, List.getElem?_eq_getElem h2]
  rfl
theorem applied_rev {sl : Addr} {t : Tok} {n : Nat} {Q : Int × Int × Nat → Shared → Prop} (hs : s.heap.IsSliceOf sl .none .none (.int (-1) t))
    (h : Q ((n : Int) - 1, -1, n) s) : wpAny (model prog w) A (Builtin.Slice.sliceApplied (.ref sl) (pure (n : Int))) Q E s := by
  obtain ⟨o, ho, hc, hd⟩ := id hs
  unfold Builtin.Slice.sliceApplied Builtin.Slice.sliceFields
  refine wpAny_bind (wpAny_bind (wpAny_field ho hd (x := .none) rfl
    (wpAny_bind (wpAny_field ho hd (x := .none) rfl (wpAny_bind (wpAny_field ho hd (x := .int (-1) t) rfl (wpAny_pure ?_)))))))
  refine wpAny_bind (slicePart_int ?_)
  show wpAny _ _ (if ((-1 : Int) == 0) = true then _ else _) _ _ s
  rw [if_neg (by decide)]
  refine wpAny_bind (slicePart_none (wpAny_bind (slicePart_none (wpAny_bind (wpAny_pure ?_)))))
  show wpAny _ _ (match Builtin.Slice.sliceAdjust none none (-1) (n : Int) with | (lo, hi) => pure (lo, (-1 : Int), Builtin.Slice.slicePlaces lo hi (-1))) _ _ s
  rw [adj_rev]
  show wpAny _ _ (pure ((n : Int) - 1, (-1 : Int), Builtin.Slice.slicePlaces ((n : Int) - 1) (-1) (-1))) _ _ s
  rw [plc_rev]
  exact wpAny_pure h
theorem item_rev {t sl : Addr} {its : List Value} {tk : Tok} {Q : Value → Shared → Prop} (ht : IsTup s.heap t its.toArray) (hs : s.heap.IsSliceOf sl .none .none (.int (-1) tk))
    (h : Q (.ref s.heap.objs.size) { s with heap := s.heap.push { cls := .type "tuple", data := .seq its.reverse.toArray } })
    (hz : its.length ≤ sizeLine) : wpAny (model prog w) A (getItem (.ref t) (.ref sl)) Q E s := by
  have ok : sizeOk (.seq its.reverse.toArray) := by
    show its.reverse.toArray.size ≤ sizeLine
    rw [List.size_toArray, List.length_reverse]
    exact hz
  obtain ⟨os, hos, hcs, hds⟩ := id hs
  have ty : s.TypeIs (.ref sl) "slice" := ⟨os, hos, hcs⟩
  unfold getItem
  try with_reducible refine wpAny_holding ?_
  first | refine wpAny_bind (wpAny_pure ?_) | skip
  refine wpAny_bind (wpAny_sequenceKey ht.typeIs (by decide) ?_)
  refine wpAny_bind (wpAny_callSpecial?_slot (name := Str.ofString "__getitem__") ht.typeIs
    PyProof.Rows.slot_tuple_getitem (wpAny_call_entry PyProof.Rows.slot_tuple_getitem
      ht.typeIs entry_tuple_getitem ?_ (args_tuple_getitem _ _)))
  show wpAny _ _ (Builtin.Tuple.tupleItemsOf (.ref t) >>= _) _ _ s
  refine wpAny_bind (tupleItemsOf_ ht ?_)
  refine wpAny_bind (wpAny_typeOf ty ?_)
  rw [if_pos (by decide)]
  rw [List.size_toArray]
  refine wpAny_bind (applied_rev hs ?_)
  have no : ¬ (((((its.length : Nat) : Int) - 1 == 0) && ((-1 : Int) == 1) && (its.length == its.length)) = true) := by
    rw [Bool.and_eq_true, Bool.and_eq_true]
    exact fun q => absurd q.1.2 (by decide)
  show wpAny _ _ (if ((((its.length : Nat) : Int) - 1 == 0) && ((-1 : Int) == 1) && (its.length == its.length)) = true then _ else _) _ _ s
  rw [if_neg no, pick_rev]
  first
    | exact wpAny_bind (m := Builtin.Tuple.tupleExact _) (wpAny_newObj_type (wpAny_pure ⟨_, rfl, wpAny_pure h⟩) ok)
    | exact wpAny_bind (m := Builtin.Tuple.tupleExact _) (wpAny_newObj_type (wpAny_bind (wpAny_pure (wpAny_pure ⟨_, rfl, wpAny_pure h⟩))) ok)
    | exact wpAny_bind (wpAny_bind (m := Builtin.Tuple.tupleExact _) (wpAny_newObj_type (wpAny_pure (wpAny_pure ⟨_, rfl, wpAny_pure h⟩)) ok))
    | exact wpAny_bind (wpAny_bind (m := Builtin.Tuple.tupleExact _) (wpAny_newObj_type (wpAny_pure ⟨_, rfl, wpAny_pure h⟩) ok))
end
def tRevT (K : PySem.W.Frag) (te : TE) : TE := fun σ H Q => te σ H fun x H1 => ∃ a xs, x = .ref a ∧ SqT K H1 a xs ∧ ∀ p, H1 p = none → Q (.ref p) (upd H1 p (.tup xs.reverse))
theorem pe_revT {X : Cx} {K : PySem.W.Frag} {e : Expr} {te : TE} {k : Nat} {p1 p2 p3 pos : Pos} (ek : X.K = K) (he : PE X e te) :
    PE X (.Subscript e (.Slice none none (some (.UnaryOp .USub (.Constant (.int 1) k p1) p2)) p3) pos) (tRevT K te) := by
  subst ek
  refine ⟨fun pins s σ H Q I h => ?_⟩
  refine Subscript_ (thn (he.run pins s σ H _ I h) fun v s1 ⟨x, H1, I1, r1, q1⟩ => ?_)
  obtain ⟨a, xs, rfl, hx, q⟩ := q1
  cases r1
  have st : PO X (some (.UnaryOp .USub (.Constant (.int 1) k p1) p2))
      (tPart (tUn (rU fun i => .int (-i)) (tC (.int 1)))) := po_some (pe_un un_neg pe_int)
  refine wpAny_Slice (thn (po_none.run pins s1 σ H1
    (fun o H2 => o = none ∧ H2 = H1) I1 ⟨rfl, rfl⟩) fun vl s2 ⟨l, H2, I2, pl, el, e2⟩ => ?_)
  subst el e2
  refine thn (po_none.run pins s2 σ H2
    (fun o H3 => o = none ∧ H3 = H2) I2 ⟨rfl, rfl⟩) fun vu s3 ⟨u, H3, I3, pu, eu, e3⟩ => ?_
  subst eu e3
  refine thn (st.run pins s3 σ H3
    (fun o H4 => o = some (-1) ∧ H4 = H3) I3 ⟨1, rfl, -1, rfl, rfl, rfl⟩) fun vs s4 ⟨o, H4, I4, ps, eo, e4⟩ => ?_
  subst eo e4
  cases pl
  cases pu
  cases ps with
  | int _ tk =>
  have I5 : Inv X pins σ H4 { s4 with heap := s4.heap.push { cls := .type "slice", data := .fields #[.none, .none, .int (-1) tk] } } :=
    I4.kept (t' := s4.toks) fun b ob q => Heap.get?_push_of_some _ q
  obtain ⟨its, r, ht, hz⟩ := I5.tuple hx
  have hl := r.length
  show wpAny (model X.prog X.w) X.A (subscriptTail e _ (.ref a) (.ref s4.heap.objs.size)) (EP X pins σ Q) X.xe _
  refine tail_any (ops := [.ref a, .ref s4.heap.objs.size]) ht.typeIs PyProof.Rows.slot_tuple_getitem.lookup ?_ (by with_unfolding_all rfl)
  refine item_rev ht (Heap.IsSliceOf.new _ _ _ _) ?_ (by rw [← hl]; exact hz)
  refine ⟨.ref _, _, I5.laid (t' := s4.toks) (o := .tup xs.reverse)
    (fun b ob q => Heap.get?_push_of_some _ q) (Nat.le_refl _) ?_, rfl, q _ (I5.hok.fresh (Nat.le_refl _))⟩
  exact ⟨by rw [List.length_reverse]; exact hz, its.reverse, r.reverse, IsTup.new _ _⟩
theorem r_revT {K : PySem.W.Frag} {te : TE} {σ : L2.St} {H : Hp} {Q : VK} (h : te σ H fun x H1 => ∃ a xs, x = .ref a ∧ SqT K H1 a xs ∧ ∀ p, H1 p = none → Q (.ref p) (upd H1 p (.tup xs.reverse))) : tRevT K te σ H Q := h
/-! ## reversed(t) -/
theorem i_rev {X : Cx} {K : PySem.W.Frag} {tg e : Expr} {te : TE} {p pos : Pos} (ek : X.K = K) (hg : Gl X "reversed") (hm : X.mg "reversed" = none) (he : PE X e te)
    (hs : starEach [e] X.env = (false, eval e X.env) :: starEach [] X.env := by rfl) : PI X tg (.Call (.Name "reversed" p) [e] [] pos) (RT.iRevA K te) := by
  subst ek
  exact RT.pi_revA hg hm he hs
theorem r_forRv {K : PySem.W.Frag} {g : TG} {tb : TS} {D : Ends} {σ : L2.St} {H : Hp} {te : TE} (h : te σ H fun v H1 => ∃ (a : Addr) (xs : List V), v = .ref a ∧ SqT K H1 a xs ∧ tFor (fun _ H2 R => R (RT.ItvT K a xs.length) H2) g tb D σ H1)
    (mono : ∀ (R R' : VK), (∀ v H1, R v H1 → R' v H1) → te σ H R → te σ H R') : tFor (RT.iRevA K te) g tb D σ H :=
  mono _ _ (fun v H1 ⟨a, xs, e, sv, r⟩ => ⟨a, xs, e, .inr ⟨sv, r⟩⟩) h
theorem mono_var {i : Nat} {σ : L2.St} {H : Hp} (R R' : VK) (h : ∀ v H1, R v H1 → R' v H1) (q : tVar i σ H R) : tVar i σ H R' := by
  obtain ⟨v, e, r⟩ := q
  exact ⟨v, e, h _ _ r⟩
theorem r_forRvV {K : PySem.W.Frag} {g : TG} {tb : TS} {D : Ends} {σ : L2.St} {H : Hp} {i : Nat} {a : Addr} (xs : List V) (e : σ[i]? = some (some (.ref a))) (sv : SqT K H a xs) (Pv : Nat → L2.St → Hp → Prop) (h0 : Pv 0 σ H)
    (hl : ∀ i σ H, Pv i σ H → SqT K H a xs)
    (hs : ∀ (i : Nat) (x : V) (σ : L2.St) (H : Hp), i < xs.length → xs[xs.length - 1 - i]? = some x → Pv i σ H → g x σ H fun σ2 H2 => tb { D with nx := Pv (i + 1), ct := Pv (i + 1), bk := D.nx } σ2 H2)
    (hd : ∀ σ H, Pv xs.length σ H → D.nx σ H) : tFor (RT.iRevA K (tVar i)) g tb D σ H :=
  r_forRv ⟨.ref a, e, a, xs, rfl, sv, RT.for_ItvT Pv h0 hl hs hd⟩ mono_var
/-! ## xs[i] += e -/
def rGetL (K : PySem.W.Frag) : V → V → Hp → VK → Prop := fun o i H Q => ∃ (p : Addr) (xs : List V) (k : Nat) (z : V), o = .ref p ∧ i = .int (k : Int) ∧ SqL K H p xs ∧ xs[k]? = some z ∧ Q z H
theorem get_list {X : Cx} {K : PySem.W.Frag} (ek : X.K = K) : PGet X (rGetL K) := by
  subst ek
  intro pins s σ H o i ov iv Q I ro ri h
  obtain ⟨p, xs, k, z, rfl, rfl, hq, he, q⟩ := h
  cases ro
  obtain ⟨t, rfl⟩ := ri
  obtain ⟨its, r, pl, hz⟩ := I.list hq
  obtain ⟨w, ew, rw'⟩ := r.get he
  have hn := line63
  have hk := (List.getElem?_eq_some_iff.mp he).1
  have hl := r.length
  refine PySem.wpAny_getItem_list pl.isList (by omega) (by omega) ?_ ⟨z, H, I, rw', q⟩
  rw [Int.toNat_natCast]
  simpa using ew
theorem r_getL {K : PySem.W.Frag} {H : Hp} {Q : VK} {p : Addr} {k : Nat} {z : V} (xs : List V) (h1 : SqL K H p xs) (h2 : xs[k]? = some z) (h : Q z H) : rGetL K (.ref p) (.int (k : Int)) H Q := ⟨p, xs, k, z, rfl, rfl, h1, h2, h⟩
theorem r_augS {to ti te : TE} {tget : V → V → Hp → VK → Prop} {tip : TIp} {tset : TSet} {D : Ends} {σ : L2.St} {H : Hp}
    (h : to σ H fun o H1 => ti σ H1 fun i H2 => tget o i H2 fun x H3 => te σ H3 fun y H4 => tip x y H4 fun z H5 => tset o i z H5 fun H6 => D.nx σ H6) : tAugS to ti te tget tip tset D σ H := h
/-! ## xs.pop() -/
theorem r_popL {H : Hp} {Q : VK} {l : Addr} (xs : List V) (y : V) (h1 : H l = some (.lst (xs ++ [y]))) (h : Q y (upd H l (.lst xs))) : rPop (.ref l) [] H Q :=
  ⟨l, _, y, rfl, rfl, h1, by simp, by rw [List.dropLast_concat]; exact h⟩
end Vf

namespace Vf
open PySem PySem.Spec PyProof.Rows L2
/-! ## the law's cask -/
def Cask (n : Nat) (k : Addr) (H : Hp) : Prop := ∃ a b c : Int, H k = some (.lst [.int b, .int c, .int a]) ∧ KegOk a b c (17 + 11 * n)
theorem Cask.mono {n m : Nat} {k : Addr} {H : Hp} (h : Cask n k H) (l : n ≤ m) : Cask m k H := by
  obtain ⟨a, b, c, e, o⟩ := h
  exact ⟨a, b, c, e, o.a0, o.ab, o.b0, o.bM, o.c0, by have := o.cn; omega⟩
theorem Cask.same {n : Nat} {k : Addr} {H H' : Hp} (h : Cask n k H) (s : Same H H') : Cask n k H' := by
  obtain ⟨a, b, c, e, o⟩ := h
  exact ⟨a, b, c, s _ _ e, o⟩
theorem Cask.new {n : Nat} {k p : Addr} {H : Hp} {o : HO} (h : Cask n k H) (hp : H p = none) : Cask n k (upd H p o) := h.same (Same.new hp)
theorem Cask.ne {n : Nat} {k p : Addr} {H : Hp} (h : Cask n k H) (hp : H p = none) : p ≠ k := by
  obtain ⟨a, b, c, e, o⟩ := h
  exact (ne_of_none e hp).symm
theorem Cask.tt {n : Nat} {k : Addr} {H H' : Hp} (h : Cask n k H) (e : Kx k H H') : Tt H H' := by
  obtain ⟨a, b, c, z, o⟩ := h
  exact e.tt z
theorem Cask.kx {n m : Nat} {k j : Addr} {H H' : Hp} (h : Cask n k H) (e : Kx j H H') (ne : k ≠ j) : Cask n k H' := by
  obtain ⟨a, b, c, z, o⟩ := h
  exact ⟨a, b, c, e _ _ ne z, o⟩
def sp_ctap : Sp := fun vs H Q _ => ∃ (k : Addr) (u : Int) (n : Nat), vs = [.ref k, .int u] ∧ Cask n k H ∧ n ≤ 2 ^ 60 ∧ 0 < u ∧ u < 2 ^ 62 ∧
  ∀ f H', 0 ≤ f → f < u → Kx k H H' → Cask (n + 1) k H' → Q (.int f) H'
theorem i_ctap {k : Addr} {u : Int} {H : Hp} {Q : VK} {E : XK} (n : Nat) (hk : Cask n k H) (hn : n ≤ 2 ^ 60) (h0 : 0 < u) (h1 : u < 2 ^ 62)
    (q : ∀ f H', 0 ≤ f → f < u → Kx k H H' → Cask (n + 1) k H' → Q (.int f) H') : sp_ctap [.ref k, .int u] H Q E := ⟨k, u, n, rfl, hk, hn, h0, h1, q⟩
def sp_cof (K : PySem.W.Frag) : Sp := fun vs H Q _ => ∃ (k t : Addr) (xs : List V) (n : Nat), vs = [.ref k, .ref t] ∧ Cask n k H ∧ n ≤ 2 ^ 60 ∧ t ≠ k ∧ SqL K H t xs ∧ 0 < xs.length ∧ xs.length ≤ 100000 ∧
  ∀ (i : Nat) (x : V) H', xs[i]? = some x → Kx k H H' → Cask (n + 1) k H' → Q x H'
theorem i_cof {K : PySem.W.Frag} {k t : Addr} {H : Hp} {Q : VK} {E : XK} (n : Nat) (xs : List V) (hk : Cask n k H) (hn : n ≤ 2 ^ 60) (ht : t ≠ k) (hs : SqL K H t xs) (h0 : 0 < xs.length) (h1 : xs.length ≤ 100000)
    (q : ∀ (i : Nat) x H', xs[i]? = some x → Kx k H H' → Cask (n + 1) k H' → Q x H') : sp_cof K [.ref k, .ref t] H Q E := ⟨k, t, xs, n, rfl, hk, hn, ht, hs, h0, h1, q⟩
def sp_cask (K : PySem.W.Frag) : Sp := fun vs H Q _ => ∃ (c : Addr) (ns : List Int) (j : Nat), vs = [.ref c, .int (j : Int)] ∧ SqL K H c (ns.map V.int) ∧ Script ns ∧ j ≤ 1000 ∧
  ∀ p H', Same H H' → H p = none → Cask 0 p H' → Q (.ref p) H'
theorem i_cask {K : PySem.W.Frag} {c : Addr} {H : Hp} {Q : VK} {E : XK} (ns : List Int) (j : Nat) (hs : SqL K H c (ns.map V.int)) (hn : Script ns) (hj : j ≤ 1000)
    (q : ∀ p H', Same H H' → H p = none → Cask 0 p H' → Q (.ref p) H') : sp_cask K [.ref c, .int (j : Int)] H Q E := ⟨c, ns, j, rfl, hs, hn, hj, q⟩
theorem Cask.none {n : Nat} {k q : Addr} {H H' : Hp} (h : Cask n k H') (e : Kx k H H') (hq : H' q = Option.none) : H q = Option.none := by
  obtain ⟨a, b, c, z, o⟩ := h
  exact none_kx e z hq
theorem r_bm0 {K : PySem.W.Frag} {T : String} {r : V → List V → Hp → VK → Prop} {to : TE} {σ : L2.St} {H : Hp} {Q : VK} (h : to σ H fun x H1 => tyV K T x H1 ∧ r x [] H1 Q) : tBM0 K T r to σ H Q := h
end Vf

namespace Vf
open PySem PySem.Spec PyProof.Rows L2
/-! ## ranges downwards -/
section
variable {K : PySem.W.Frag} {g : TG} {tb : TS} {D : Ends} {σ : L2.St} {H : Hp}
theorem r_for3 {ta : TA} (h : ta σ H fun vs H1 => ∃ (i j c : Int) (n : Nat), vs = [.int i, .int j, .int c] ∧ RgC i j c n ∧ tFor (fun _ H2 R => R (Itc i c n) H2) g tb D σ H1) : tFor (iRng3 ta) g tb D σ H := h
theorem r_forC {lo c : Int} {n : Nat} (Pv : Nat → L2.St → Hp → Prop) (h0 : Pv 0 σ H)
    (hs : ∀ i σ H, i < n → Pv i σ H → g (.int (lo + (i : Nat) * c)) σ H fun σ2 H2 => tb { D with nx := Pv (i + 1), ct := Pv (i + 1), bk := D.nx } σ2 H2)
    (hd : ∀ σ H, Pv n σ H → D.nx σ H) : tFor (fun _ H2 R => R (Itc lo c n) H2) g tb D σ H := for_rangeC Pv h0 hs hd
end
end Vf

namespace Vf
open PySem PySem.Spec PyProof.Rows L2
/-! ## zip of a tuple and a list -/
def ItTL (K : PySem.W.Frag) (a b : Addr) : It :=
  ⟨fun i H => ∃ (xs ys : List V), (SqT K H a xs ∧ SqL K H b ys) ∧ i < xs.length ∧ i < ys.length,
   fun i H v H' => ∃ T x y, v = .ref T ∧ H T = none ∧ H' = upd H T (.tup [x, y]) ∧ (∀ xs, SqT K H a xs → xs[i]? = some x) ∧ ∀ ys, SqL K H b ys → ys[i]? = some y,
   fun i H => ∃ (xs ys : List V), (SqT K H a xs ∧ SqL K H b ys) ∧ (i ≤ xs.length ∧ i ≤ ys.length) ∧ (i = xs.length ∨ i = ys.length)⟩
structure Five (u TI TO i1 i2 a b : Addr) : Prop where
  ap : u ≠ TI ∧ u ≠ TO ∧ u ≠ i1 ∧ u ≠ i2 ∧ TI ≠ TO ∧ TI ≠ i1 ∧ TI ≠ i2 ∧ TO ≠ i1 ∧ TO ≠ i2 ∧ i1 ≠ i2
  a0 : a ≠ u ∧ a ≠ TI ∧ a ≠ TO ∧ a ≠ i1 ∧ a ≠ i2
  b0 : b ≠ u ∧ b ≠ TI ∧ b ≠ TO ∧ b ≠ i1 ∧ b ≠ i2
theorem Five.sep {u TI TO i1 i2 a b : Addr} (S : Five u TI TO i1 i2 a b) : ZipSep2 u TI TO i1 i2 [i1, a] [i2, b] := by
  obtain ⟨⟨s1, s2, s3, s4, s5, s6, s7, s8, s9, s10⟩, ⟨a1, a2, a3, a4, a5⟩, ⟨b1, b2, b3, b4, b5⟩⟩ := S
  constructor <;> simp [*, Ne.symm s1, Ne.symm s2, Ne.symm s3, Ne.symm s4, Ne.symm s5, Ne.symm s8, Ne.symm s9, Ne.symm s10, Ne.symm a1, Ne.symm a3, Ne.symm a4, Ne.symm a5, Ne.symm b1, Ne.symm b3, Ne.symm b4, Ne.symm b5]
def ZTL (u TI TO i1 i2 a b : Addr) (i : Nat) (h : Heap) : Prop :=
  IsZip h u TI TO .none ∧ IsTupOf2 h TI (.ref i1) (.ref i2) ∧ (∃ x y, IsTupOf2 h TO x y) ∧ h.IsTupleIter i1 a i ∧ h.IsListIter i2 b i
theorem turn_zipTL {P : Program} {w : World} {K : PySem.W.Frag} {elts : List Expr} {kk : Nat} {tpos : Pos} {u TI TO i1 i2 a b : Addr} (S : Five u TI TO i1 i2 a b) :
    Turn P w K (.Tuple elts kk tpos) (ItTL K a b) [u, TI, TO, i1, i2] u (ZTL u TI TO i1 i2 a b) where
  mem := List.mem_cons_self
  obj := fun i h st d hd => by
    obtain ⟨zz, ti, ⟨x, y, to⟩, ⟨o1, e1, _, d1⟩, ⟨o2, e2, _, d2⟩⟩ := st
    simp only [List.mem_cons, List.not_mem_nil, or_false] at hd
    rcases hd with e | e | e | e | e
    · subst e; exact ⟨_, zz, fun v q => nomatch q⟩
    · subst e; exact ⟨_, ti, fun v q => nomatch q⟩
    · subst e; exact ⟨_, to, fun v q => nomatch q⟩
    · subst e; exact ⟨o1, e1, fun v q => by rw [d1] at q; cases q⟩
    · subst e; exact ⟨o2, e2, fun v q => by rw [d2] at q; cases q⟩
  keep := fun i h h' st k => by
    obtain ⟨zz, ti, ⟨x, y, to⟩, h1, h2⟩ := st
    exact ⟨k u (by simp) _ zz, k TI (by simp) _ ti, ⟨x, y, k TO (by simp) _ to⟩, h1.at fun o q => k i1 (by simp) o q, h2.at fun o q => k i2 (by simp) o q⟩
  item := by
    intro X hP hw hK hc i pins s σ H E I hf st hg
    subst hP hw hK
    obtain ⟨zz, ti, ⟨x0, y0, to⟩, h1, h2⟩ := st
    obtain ⟨xs, ys, ⟨qx, qy⟩, lx, ly⟩ := hg
    obtain ⟨v1, r1, t1, _⟩ := I.tuple qx
    obtain ⟨v2, r2, t2, _⟩ := I.list qy
    obtain ⟨y1, g1, w1⟩ := r1.get (List.getElem?_eq_getElem lx)
    obtain ⟨y2, g2, w2⟩ := r2.get (List.getElem?_eq_getElem ly)
    have n1 := r1.length
    have n2 := r2.length
    have hd := I.ok.hd hc
    have b0 : u < s.heap.objs.size := Heap.lt_size zz
    have bI : TI < s.heap.objs.size := Heap.lt_size ti
    have bO : TO < s.heap.objs.size := Heap.lt_size to
    have b1 : i1 < s.heap.objs.size := by
      obtain ⟨_, q, _⟩ := h1
      exact Heap.lt_size q
    have b2 : i2 < s.heap.objs.size := by
      obtain ⟨_, q, _⟩ := h2
      exact Heap.lt_size q
    refine wpAny_pyNext_zipD2_item S.sep (drawsT (A := X.A.in1) hd i1 a S.a0.2.2.2.1 v1.toArray) (Draws.list (A := X.A.in1) hd i2 b S.b0.2.2.2.2 v2.toArray)
      zz ti to ⟨h1, t1⟩ ⟨h2, t2.isList⟩ (by simp; omega) (by simp; omega) fun x1 x2 m tk p1 p2 zz' to' st1 st2 np sz kp => ?_
    obtain rfl : y1 = x1 := by
      have : v1[i]? = some x1 := by simpa using p1
      rw [g1] at this
      exact Option.some.inj this
    obtain rfl : y2 = x2 := by
      have : v2[i]? = some x2 := by simpa using p2
      rw [g2] at this
      exact Option.some.inj this
    refine ⟨_, rfl, wpAny_letOwnedTupleGo_zip (s := { s with heap := m, toks := tk }) zz' fun m2 zz2 sb => ?_⟩
    have np2 : IsTupOf2 m2 s.heap.objs.size y1 y2 := (sb.2 _ (Nat.ne_of_gt b0)).trans np
    have fresh : ObjOk X.prog X.w (upd H s.heap.objs.size (.tup [xs[i], ys[i]])) m2 s.heap.objs.size (.tup [xs[i], ys[i]]) :=
      ⟨by show 2 ≤ sizeLine; decide, [y1, y2], .cons w1 (.cons w2 .nil), ⟨_, np2, rfl, _, rfl⟩⟩
    have stay : ∀ d o, d ∉ [u, TI, TO, i1, i2] → s.heap.get? d = some o → m2.get? d = some o := fun d o hb q =>
      (sb.2 d (fun e => hb (by simp [e]))).trans (kp d o (fun e => hb (by simp [e])) (fun e => hb (by simp [e])) (fun e => hb (by simp [e])) (fun e => hb (by simp [e])) q)
    have I1 := I.turnedNew (t' := tk) (ch := [u, TI, TO, i1, i2]) stay hf (Nat.le_refl _) fresh
    obtain ⟨⟨s1, s2, s3, s4, s5, s6, s7, s8, s9, s10⟩, _, _⟩ := S
    refine ⟨.ref s.heap.objs.size, _, I1, rfl, ⟨_, xs[i], ys[i], rfl, I.hok.fresh (Nat.le_refl _), rfl, fun l hl => by rw [I.tuple_inj hl qx]; exact List.getElem?_eq_getElem lx, fun l hl => by rw [I.list_inj hl qy]; exact List.getElem?_eq_getElem ly⟩,
      ⟨zz2, (sb.2 _ (Ne.symm s1)).trans (kp _ _ (Ne.symm s1) s5 s6 s7 ti), ⟨_, _, (sb.2 _ (Ne.symm s2)).trans to'⟩, st1.1.at fun o q => (sb.2 _ (Ne.symm s3)).trans q, st2.1.at fun o q => (sb.2 _ (Ne.symm s4)).trans q⟩, fun d hdm => ?_⟩
    have lt : d < s.heap.objs.size := by
      have h2 := hdm
      simp only [List.mem_cons, List.not_mem_nil, or_false] at h2
      rcases h2 with e | e | e | e | e <;> (subst e; assumption)
    rw [upd_ne (Nat.ne_of_lt lt)]
    exact (hf d hdm).1
  done := by
    intro X hP hw hK hc i pins s σ H E I hf st hg
    subst hP hw hK
    obtain ⟨zz, ti, ⟨x0, y0, to⟩, h1, h2⟩ := st
    obtain ⟨xs, ys, ⟨qx, qy⟩, ⟨lx, ly⟩, en⟩ := hg
    obtain ⟨v1, r1, t1, _⟩ := I.tuple qx
    obtain ⟨v2, r2, t2, _⟩ := I.list qy
    have n1 := r1.length
    have n2 := r2.length
    have hd := I.ok.hd hc
    refine wpAny_pyNext_zipD2_end S.sep (drawsT (A := X.A.in1) hd i1 a S.a0.2.2.2.1 v1.toArray) (Draws.list (A := X.A.in1) hd i2 b S.b0.2.2.2.2 v2.toArray)
      zz ti to ⟨h1, t1⟩ ⟨h2, t2.isList⟩ (by simp; omega) (by simp; omega) (by simp; omega) fun m tk kp => ⟨rfl, ?_⟩
    exact I.turnedL (t' := tk) (ch := [u, TI, TO, i1, i2]) (fun d o hb q => kp d o (fun e => hb (by simp [e])) (fun e => hb (by simp [e])) (fun e => hb (by simp [e])) (fun e => hb (by simp [e])) q) hf
  self := fun A i s Q E st h => wpAny_pyIter_zip st.1 h
def iZTL (K : PySem.W.Frag) (ta : TA) : TI := fun σ H R => ta σ H fun vs H1 => ∃ a b xs ys, vs = [.ref a, .ref b] ∧ (SqT K H1 a xs ∧ SqL K H1 b ys) ∧ R (ItTL K a b) H1
theorem five_new (n a b : Nat) (ha : a < n) (hb : b < n) : Five (n + 4) (n + 2) (n + 3) n (n + 1) a b := by
  refine ⟨⟨?_, ?_, ?_, ?_, ?_, ?_, ?_, ?_, ?_, ?_⟩, ⟨?_, ?_, ?_, ?_, ?_⟩, ⟨?_, ?_, ?_, ?_, ?_⟩⟩ <;> (show _ ≠ _; intro e; have e2 : (_ : Nat) = _ := e; omega)
theorem i_zipTL {X : Cx} {K : PySem.W.Frag} {e1 e2 : Expr} {ta : TA} {p pos tpos : Pos} {elts : List Expr} {kk : Nat} (ek : X.K = K) (hg : Gl X "zip") (hm : X.mg "zip" = none) (ha : PA X [e1, e2] ta)
    (hs : starEach [e1, e2] X.env = (false, eval e1 X.env) :: starEach [e2] X.env := by rfl) (hp : (backTo pos (starEach [e2] X.env)).any (·.1) = false := by rfl) :
    PI X (.Tuple elts kk tpos) (.Call (.Name "zip" p) [e1, e2] [] pos) (iZTL K ta) := by
  subst ek
  refine ⟨fun pins s σ H R I h => ?_⟩
  refine Call_ (ld_blt I hg hm PyProof.Rows.boot_zip (PyProof.Rows.callWith_type1 (thn (ha.run pos pins s σ H _ I h) fun us s1 ⟨vs, H1, I1, r1, q1⟩ => ?_) hs hp))
  obtain ⟨a, b, xs, ys, rfl, ⟨qx, qy⟩, q⟩ := q1
  obtain ⟨ua, ub, rfl, ra, rb⟩ : ∃ ua ub, us = [ua, ub] ∧ RelV (.ref a) ua ∧ RelV (.ref b) ub := by
    cases r1 with
    | cons r rr =>
      cases rr with
      | cons r' rr =>
        cases rr
        exact ⟨_, _, rfl, r, r'⟩
  cases ra
  cases rb
  obtain ⟨v1, _, t1, _⟩ := I1.tuple qx
  obtain ⟨v2, _, t2, _⟩ := I1.list qy
  have la : a < s1.heap.objs.size := t1.lt
  have lb : b < s1.heap.objs.size := by
    obtain ⟨o, ho, _⟩ := t2.isList
    exact Heap.lt_size ho
  refine zip_begins2 (begins_tuple a v1.toArray) (begins_list b v2.toArray) t1 t2.isList fun m hz hTI hTO g1 g2 hsz hk => wpAny_pyIter_zip hz ?_
  refine ⟨s1.heap.objs.size + 4, [s1.heap.objs.size + 4, s1.heap.objs.size + 2, s1.heap.objs.size + 3, s1.heap.objs.size, s1.heap.objs.size + 1], _, _, H1, rfl, I1.kept (t' := s1.toks) hk,
    turn_zipTL (five_new s1.heap.objs.size a b la lb), ⟨hz, hTI, ⟨_, _, hTO⟩, ⟨_, g1, rfl, rfl⟩, ⟨_, g2, rfl, rfl⟩⟩, fun d hd => ?_, q⟩
  have le : s1.heap.objs.size ≤ d := by
    simp only [List.mem_cons, List.not_mem_nil, or_false] at hd
    rcases hd with e | e | e | e | e <;> subst e
    · exact Nat.le_add_right _ _
    · exact Nat.le_add_right _ _
    · exact Nat.le_add_right _ _
    · exact Nat.le_refl _
    · exact Nat.le_add_right _ _
  exact I1.fpOk le (I1.hok.fresh le)
section
variable {K : PySem.W.Frag} {σ : L2.St} {H : Hp} {Q : VK} {g : TG} {tt : TT} {te : TE} {vs : List Nat}
theorem r_lcTLi {ta : TA} (h : ta σ H fun ws H1 => ∃ a b xs ys, ws = [.ref a, .ref b] ∧ (SqT K H1 a xs ∧ SqL K H1 b ys) ∧ tLc (fun _ H2 R => R (ItTL K a b) H2) g tt te vs σ H1 Q) : tLc (iZTL K ta) g tt te vs σ H Q := h
theorem r_lcTL {a b : Addr} (xs ys : List V) (n : Nat) (nx : xs.length = n) (ny : ys.length = n) (Pv : Addr → Nat → Hp → Prop) (h0 : ∀ D, H D = none → Pv D 0 (upd H D (.lst [])))
    (hl : ∀ D i H', H D = none → i ≤ n → Pv D i H' → SqT K H' a xs ∧ SqL K H' b ys)
    (hs : ∀ D i x y H' T, H D = none → xs[i]? = some x → ys[i]? = some y → Pv D i H' → H' T = none → g (.ref T) (wipe σ vs) (upd H' T (.tup [x, y])) fun σ2 H2 => wipe σ2 vs = wipe σ vs ∧ tt σ2 H2 fun b H3 =>
      if b = true then te σ2 H3 fun y H4 => ∃ acc, H4 D = some (.lst acc) ∧ acc.length < sizeLine ∧ Pv D (i + 1) (upd H4 D (.lst (acc ++ [y]))) else Pv D (i + 1) H3)
    (hd : ∀ D H', H D = none → Pv D n H' → Q (.ref D) H') : tLc (fun _ H2 R => R (ItTL K a b) H2) g tt te vs σ H Q := by
  refine fun D hD => ⟨fun i m H => m = n - i ∧ i ≤ n ∧ Pv D i H, ⟨n, by omega, Nat.zero_le _, h0 D hD⟩, ?_⟩
  rintro i m H' ⟨rfl, hi, p⟩
  obtain ⟨qx, qy⟩ := hl D i H' hD hi p
  by_cases lt : i < n
  · refine Or.inr ⟨⟨xs, ys, ⟨qx, qy⟩, by omega, by omega⟩, Pv D (i + 1), fun H' p' => ⟨n - (i + 1), by omega, rfl, lt, p'⟩, fun v H'' yy => ?_⟩
    obtain ⟨T, x, y, rfl, nT, rfl, f1, f2⟩ := yy
    exact hs D i x y H' T hD (f1 xs qx) (f2 ys qy) p nT
  · have e : i = n := by omega
    subst e
    exact Or.inl ⟨⟨xs, ys, ⟨qx, qy⟩, ⟨by omega, by omega⟩, .inl (by omega)⟩, hd D H' hD p⟩
end
/-- an item of a list or a tuple -/
theorem x_seq {X : Cx} {K : PySem.W.Frag} (e : X.K = K) : IxR X (rIx K) := by subst e; exact ix_seq
/-- a walk of a list with its places -/
theorem r_forEnL {K : PySem.W.Frag} {g : TG} {tb : TS} {D : Ends} {σ : L2.St} {H : Hp} {a : Addr} (xs : List V) (Pv : Nat → L2.St → Hp → Prop) (h0 : Pv 0 σ H) (hl : ∀ i σ H, i ≤ xs.length → Pv i σ H → SqL K H a xs)
    (hs : ∀ i x σ H T, xs[i]? = some x → Pv i σ H → H T = none → g (.ref T) σ (upd H T (.tup [.int (i : Nat), x])) fun σ2 H2 => tb { D with nx := Pv (i + 1), ct := Pv (i + 1), bk := D.nx } σ2 H2)
    (hd : ∀ σ H, Pv xs.length σ H → D.nx σ H) : tFor (fun _ H2 R => R (Ite K a) H2) g tb D σ H := by
  refine ⟨fun i m σ H => m = xs.length - i ∧ i ≤ xs.length ∧ Pv i σ H, ⟨xs.length, by omega, Nat.zero_le _, h0⟩, ?_⟩
  rintro i m σ H ⟨rfl, hi, p⟩
  have q := hl i σ H hi p
  by_cases lt : i < xs.length
  · refine Or.inr ⟨⟨xs, xs[i], q, by simp [lt]⟩, Pv (i + 1), fun σ' H' p' => ⟨xs.length - (i + 1), by omega, rfl, lt, p'⟩, fun x H' y => ?_⟩
    obtain ⟨T, z, rfl, nT, rfl, fz⟩ := y
    exact hs i z σ H T (fz xs q) p nT
  · have e : i = xs.length := by omega
    subst e
    exact Or.inl ⟨⟨xs, q, Nat.le_refl _⟩, hd σ H p⟩
theorem r_forEi {K : PySem.W.Frag} {g : TG} {tb : TS} {D : Ends} {σ : L2.St} {H : Hp} {ta : TA} (h : ta σ H fun vs H1 => ∃ a xs, vs = [.ref a] ∧ SqL K H1 a xs ∧ tFor (fun _ H2 R => R (Ite K a) H2) g tb D σ H1) : tFor (iEnum K ta) g tb D σ H := h
/-- a list or a tuple -/
def SqS (K : PySem.W.Frag) (H : Hp) (a : Addr) (xs : List V) : Prop := SqT K H a xs ∨ SqL K H a xs
theorem r_ixS {K : PySem.W.Frag} {H : Hp} {Q : VK} {a : Addr} {xs : List V} {k : Int} {v : V} (h1 : SqS K H a xs) (h2 : atI xs k = some v) (h : Q v H) : rIx K (.ref a) (.int k) H Q := by
  rcases h1 with h1 | h1
  · exact .inr (.inl (r_ixT h1 h2 h))
  · exact .inl (r_ixL h1 h2 h)
theorem tru_seq {K : PySem.W.Frag} {H : Hp} {a : Addr} {xs : List V} {R : Bool → Prop} (hs : SqS K H a xs) (h : R (!xs.isEmpty)) : ∃ k, TruV K (.ref a) H k ∧ R k := by
  rcases hs with h1 | h1
  · exact tru_tup h1 h
  · exact tru_list h1 h
theorem r_lenS {K : PySem.W.Frag} {H : Hp} {Q : VK} {a : Addr} {xs : List V} (hs : SqS K H a xs) (h : Q (.int xs.length) H) : rLenQ K [.ref a] H Q := by
  rcases hs with h1 | h1
  · exact r_lenT h1 h
  · exact r_lenL h1 h
end Vf

namespace Vf
/-! ## tables of rests, by their differences -/
/-- how many ways to choose k of x -/
def bin : Nat → Nat → Nat
  | _, 0 => 1
  | 0, _ + 1 => 0
  | x + 1, k + 1 => bin x k + bin x (k + 1)
def fac : Nat → Nat
  | 0 => 1
  | n + 1 => (n + 1) * fac n
theorem fac_pos : ∀ n, 0 < fac n
  | 0 => Nat.one_pos
  | n + 1 => Nat.mul_pos (Nat.succ_pos n) (fac_pos n)
theorem bin_zero (x : Nat) : bin x 0 = 1 := by cases x <;> rfl
theorem bin_step (x k : Nat) : bin (x + 1) (k + 1) = bin x k + bin x (k + 1) := rfl
theorem bin_next : ∀ (x k : Nat), ((k : Int) + 1) * (bin x (k + 1) : Int) = ((x : Int) - k) * (bin x k : Int)
  | 0, 0 => by simp [bin]
  | 0, k + 1 => by simp [bin]
  | x + 1, 0 => by
    have h := bin_next x 0
    rw [bin_zero] at h
    rw [bin_step, bin_zero, bin_zero]
    push_cast at *
    grind
  | x + 1, k + 1 => by
    have h1 := bin_next x k
    have h2 := bin_next x (k + 1)
    rw [bin_step, bin_step]
    push_cast at *
    grind
/-- x * (x - 1) * .., k of them, from x - j on -/
def ffj : Int → Nat → Int → Int
  | _, 0, _ => 1
  | j, k + 1, x => (x - j) * ffj (j + 1) k x
theorem ffj_last : ∀ (j : Int) (k : Nat) (x : Int), ffj j (k + 1) x = ffj j k x * (x - j - k)
  | j, 0, x => by simp [ffj]
  | j, k + 1, x => by
    rw [ffj, ffj_last (j + 1) k x, ffj]
    have : ((k + 1 : Nat) : Int) = (k : Int) + 1 := rfl
    rw [this]
    grind
theorem ff_bin (x : Nat) : ∀ k : Nat, ffj 0 k (x : Int) = (fac k : Int) * (bin x k : Int)
  | 0 => by rw [bin_zero]; rfl
  | k + 1 => by
    rw [ffj_last, ff_bin x k, Int.sub_zero]
    have h := bin_next x k
    have e : ((fac (k + 1) : Nat) : Int) = ((k : Int) + 1) * (fac k : Int) := by
      show (((k + 1) * fac k : Nat) : Int) = _
      push_cast
      rfl
    rw [e]
    grind
theorem nval_snoc : ∀ (p : List Int) (c j x : Int), nval (p ++ [c]) j x = nval p j x + c * ffj j p.length x
  | [], c, j, x => by simp [nval, ffj]
  | a :: p, c, j, x => by
    rw [List.cons_append, nval, nval_snoc p c (j + 1) x, nval, List.length_cons, ffj]
    grind
/-- a sum over the ways to choose -/
def nw (G : Nat → Int) : Nat → Nat → Int
  | 0, _ => 0
  | m + 1, x => nw G m x + G m * (bin x m : Int)
theorem nw_zero (G : Nat → Int) : ∀ m, 0 < m → nw G m 0 = G 0
  | 1, _ => by simp [nw, bin]
  | m + 2, _ => by
    rw [nw, nw_zero G (m + 1) (by omega)]
    simp [bin]
theorem nw_step (G : Nat → Int) (x : Nat) : ∀ m, nw G (m + 1) (x + 1) = nw G (m + 1) x + nw (fun k => G (k + 1)) m x
  | 0 => by simp [nw, bin_zero]
  | m + 1 => by
    rw [nw, nw_step G x m, nw.eq_def G (m + 1 + 1) x]
    simp only [nw]
    rw [bin_step]
    push_cast
    grind
theorem nw_sub (F G : Nat → Int) (x : Nat) : ∀ m, nw (fun k => F k - G k) m x = nw F m x - nw G m x
  | 0 => rfl
  | m + 1 => by
    simp only [nw, nw_sub F G x m]
    grind
theorem nw_dvd {n : Int} {G : Nat → Int} {x : Nat} : ∀ {m : Nat}, (∀ k < m, n ∣ G k) → n ∣ nw G m x
  | 0, _ => Int.dvd_zero n
  | m + 1, h => by
    rw [nw]
    exact Int.dvd_add (nw_dvd fun k hk => h k (by omega)) (Int.dvd_trans (h m (by omega)) (Int.dvd_mul_right ..))
/-- nothing but multiples of n -/
theorem nw_none {n : Int} : ∀ (m : Nat) (G : Nat → Int), (∀ x < m, n ∣ nw G m x) → ∀ k < m, n ∣ G k
  | 0, _, _, k, hk => absurd hk (by omega)
  | m + 1, G, h, k, hk => by
    cases k with
    | zero =>
      have := h 0 (by omega)
      rwa [nw_zero G (m + 1) (by omega)] at this
    | succ k =>
      refine nw_none m (fun k => G (k + 1)) (fun x hx => ?_) k (by omega)
      have h1 := h x (by omega)
      have h2 := h (x + 1) (by omega)
      rw [nw_step] at h2
      have := Int.dvd_sub h2 h1
      rwa [show nw G (m + 1) x + nw (fun k => G (k + 1)) m x - nw G (m + 1) x = nw (fun k => G (k + 1)) m x by omega] at this
theorem getD_at {s : List Int} {i : Nat} {c : Int} (h : s[i]? = some c) : s.getD i 0 = c := by
  rw [List.getD_eq_getElem?_getD, h]
  rfl
/-- a sum by its steps, at a number from 0 on -/
theorem nval_nw (s : List Int) (x : Nat) : ∀ m, nval (s.take m) 0 (x : Int) = nw (fun k => s.getD k 0 * (fac k : Int)) m x
  | 0 => rfl
  | m + 1 => by
    rw [nw, ← nval_nw s x m]
    by_cases h : m < s.length
    · have e := List.getElem?_eq_getElem h
      have el : (s.take m).length = m := by rw [List.length_take]; omega
      rw [take_nx e, nval_snoc, el, ff_bin, getD_at e, Int.mul_assoc]
    · rw [List.take_of_length_le (by omega), List.take_of_length_le (by omega), getD_out (by omega)]
      simp
theorem nval_nwl (s : List Int) (x m : Nat) (h : s.length ≤ m) : nval s 0 (x : Int) = nw (fun k => s.getD k 0 * (fac k : Int)) m x := by
  rw [← nval_nw, List.take_of_length_le h]
/-- the next row of differences, by n -/
def drow (n : Int) (r : List Int) : List Int := (List.range (r.length - 1)).map fun i => (r.getD (i + 1) 0 - r.getD i 0) % n
theorem drow_len (n : Int) (r : List Int) : (drow n r).length = r.length - 1 := by simp [drow]
theorem drow_at (n : Int) (r : List Int) {i : Nat} (h : i < r.length - 1) : (drow n r).getD i 0 = (r.getD (i + 1) 0 - r.getD i 0) % n := by
  rw [List.getD_eq_getElem?_getD]
  unfold drow
  rw [List.getElem?_map, List.getElem?_range h]
  rfl
/-- the firsts of a row, of its differences, and so on -/
def firsts (n : Int) : Nat → List Int → List Int
  | 0, _ => []
  | m + 1, r => r.getD 0 0 :: firsts n m (drow n r)
theorem firsts_len (n : Int) : ∀ (m : Nat) (r : List Int), (firsts n m r).length = m
  | 0, _ => rfl
  | m + 1, r => by rw [firsts, List.length_cons, firsts_len n m]
theorem sub_mod (n a : Int) : n ∣ a % n - a := ⟨-(a / n), by
  have := Int.mul_ediv_add_emod a n
  grind⟩
theorem firsts_nw (n : Int) : ∀ (m : Nat) (r : List Int), r.length = m → ∀ x < m, n ∣ nw (fun k => (firsts n m r).getD k 0) m x - r.getD x 0
  | 0, _, _, x, hx => absurd hx (by omega)
  | m + 1, r, hl, 0, hx => by
    rw [nw_zero _ (m + 1) (by omega)]
    show n ∣ r.getD 0 0 - r.getD 0 0
    rw [Int.sub_self]
    exact Int.dvd_zero n
  | m + 1, r, hl, x + 1, hx => by
    have h1 := firsts_nw n (m + 1) r hl x (by omega)
    have h2 := firsts_nw n m (drow n r) (by rw [drow_len]; omega) x (by omega)
    rw [drow_at n r (by omega)] at h2
    have h3 := sub_mod n (r.getD (x + 1) 0 - r.getD x 0)
    rw [nw_step]
    have h4 := Int.dvd_add (Int.dvd_add h1 h2) h3
    have e : nw (fun k => (firsts n (m + 1) r).getD (k + 1) 0) m x = nw (fun k => (firsts n m (drow n r)).getD k 0) m x := rfl
    rw [e]
    have e2 : nw (fun k => (firsts n (m + 1) r).getD k 0) (m + 1) x - r.getD x 0 + (nw (fun k => (firsts n m (drow n r)).getD k 0) m x - (r.getD (x + 1) 0 - r.getD x 0) % n) + ((r.getD (x + 1) 0 - r.getD x 0) % n - (r.getD (x + 1) 0 - r.getD x 0)) = nw (fun k => (firsts n (m + 1) r).getD k 0) (m + 1) x + nw (fun k => (firsts n m (drow n r)).getD k 0) m x - r.getD (x + 1) 0 := by omega
    rw [e2] at h4
    exact h4
def gk (n k : Nat) : Nat := Nat.gcd n (fac k)
def sz (n k : Nat) : Nat := n / gk n k
theorem gk_pos {n : Nat} (k : Nat) (hn : 0 < n) : 0 < gk n k := Nat.gcd_pos_of_pos_left _ hn
theorem sz_mul (n k : Nat) : sz n k * gk n k = n := Nat.div_mul_cancel (Nat.gcd_dvd_left _ _)
theorem sz_pos {n : Nat} (k : Nat) (hn : 0 < n) : 0 < sz n k := by
  have h := sz_mul n k
  rcases Nat.eq_zero_or_pos (sz n k) with z | z
  · rw [z, Nat.zero_mul] at h; omega
  · exact z
/-- the multiples: a step times its size is nothing by n -/
theorem sz_fac (n k : Nat) : (n : Int) ∣ (sz n k : Int) * (fac k : Int) := by
  obtain ⟨c, hc⟩ := Nat.gcd_dvd_right n (fac k)
  refine ⟨(c : Int), ?_⟩
  have h := sz_mul n k
  have e : fac k = gk n k * c := hc
  rw [e, ← Int.natCast_mul, ← Int.natCast_mul, ← Nat.mul_assoc, h]
theorem uniq_step {n k : Nat} (hn : 0 < n) {a b : Int} (ha : 0 ≤ a ∧ a < sz n k) (hb : 0 ≤ b ∧ b < sz n k) (h : (n : Int) ∣ (a - b) * (fac k : Int)) : a = b := by
  have hg := gk_pos k hn
  have h1 : n ∣ (a - b).natAbs * fac k := by
    have := Int.natAbs_dvd_natAbs.mpr h
    rwa [Int.natAbs_mul, Int.natAbs_natCast, Int.natAbs_natCast] at this
  obtain ⟨c, hc⟩ := Nat.gcd_dvd_right n (fac k)
  have e : fac k = gk n k * c := hc
  have h2 : sz n k ∣ (a - b).natAbs * c := by
    obtain ⟨d, hd⟩ := h1
    refine ⟨d, Nat.eq_of_mul_eq_mul_left hg ?_⟩
    have h3 := sz_mul n k
    calc gk n k * ((a - b).natAbs * c) = (a - b).natAbs * (gk n k * c) := by grind
      _ = (a - b).natAbs * fac k := by rw [e]
      _ = n * d := hd
      _ = gk n k * (sz n k * d) := by rw [← Nat.mul_assoc, Nat.mul_comm (gk n k), h3]
  have hco : Nat.Coprime (sz n k) c := by
    have := Nat.coprime_div_gcd_div_gcd (m := n) (n := fac k) hg
    have e2 : fac k / Nat.gcd n (fac k) = c := Nat.div_eq_of_eq_mul_right hg e
    rw [e2] at this
    exact this
  have h4 : sz n k ∣ (a - b).natAbs := hco.dvd_of_dvd_mul_right h2
  have h5 : (a - b).natAbs < sz n k := by omega
  have := Nat.eq_zero_of_dvd_of_lt h4 h5
  omega
/-- the steps of a table, within their sizes -/
structure Good (n : Nat) (v f : List Int) : Prop where
  len : f.length = n
  b : ∀ k < n, 0 ≤ f.getD k 0 ∧ f.getD k 0 < sz n k
  v : ∀ x < n, (n : Int) ∣ nval f 0 (x : Int) - v.getD x 0
theorem steps_firsts {n : Nat} {v s : List Int} (hv : v.length = n) (hs : ∀ x < n, (n : Int) ∣ nval s 0 (x : Int) - v.getD x 0) : ∀ k < n, (n : Int) ∣ s.getD k 0 * (fac k : Int) - (firsts n n v).getD k 0 := by
  refine nw_none (n := (n : Int)) n (fun k => s.getD k 0 * (fac k : Int) - (firsts n n v).getD k 0) fun x hx => ?_
  have h1 := hs x hx
  have h2 := firsts_nw n n v hv x hx
  have h3 : nval s 0 (x : Int) = nw (fun k => s.getD k 0 * (fac k : Int)) n x := by
    rcases Nat.le_total s.length n with c | c
    · exact nval_nwl s x n c
    · rw [nval_nwl s x s.length (Nat.le_refl _)]
      -- beyond x nothing is chosen
      have z : ∀ (G : Nat → Int) (m : Nat), x < m → ∀ d, nw G (m + d) x = nw G m x := by
        intro G m hm d
        induction d with
        | zero => rfl
        | succ d ih =>
          rw [← Nat.add_assoc, nw, ih]
          have : bin x (m + d) = 0 := by
            have zz : ∀ (y k : Nat), y < k → bin y k = 0 := by
              intro y
              induction y with
              | zero => intro k hk; cases k with
                | zero => omega
                | succ k => rfl
              | succ y ih => intro k hk; cases k with
                | zero => omega
                | succ k => rw [bin_step, ih k (by omega), ih (k + 1) (by omega)]
            exact zz x (m + d) (by omega)
          rw [this]
          simp
      have := z (fun k => s.getD k 0 * (fac k : Int)) n hx (s.length - n)
      rw [show n + (s.length - n) = s.length by omega] at this
      exact this
  rw [h3] at h1
  rw [nw_sub]
  have := Int.dvd_sub h1 h2
  rwa [show nw (fun k => s.getD k 0 * (fac k : Int)) n x - v.getD x 0 - (nw (fun k => (firsts n n v).getD k 0) n x - v.getD x 0) = nw (fun k => s.getD k 0 * (fac k : Int)) n x - nw (fun k => (firsts n n v).getD k 0) n x by omega] at this
theorem firsts_steps {n : Nat} {v f : List Int} (hv : v.length = n) (hl : f.length = n) (h : ∀ k < n, (n : Int) ∣ f.getD k 0 * (fac k : Int) - (firsts n n v).getD k 0) : ∀ x < n, (n : Int) ∣ nval f 0 (x : Int) - v.getD x 0 := by
  intro x hx
  have h2 := firsts_nw n n v hv x hx
  rw [nval_nwl f x n (by omega)]
  have h3 := nw_dvd (x := x) h
  rw [nw_sub] at h3
  have := Int.dvd_add h3 h2
  rwa [show nw (fun k => f.getD k 0 * (fac k : Int)) n x - nw (fun k => (firsts n n v).getD k 0) n x + (nw (fun k => (firsts n n v).getD k 0) n x - v.getD x 0) = nw (fun k => f.getD k 0 * (fac k : Int)) n x - v.getD x 0 by omega] at this
/-- a step is the one that the table's steps ask for -/
theorem Good.step {n : Nat} {v f : List Int} (g : Good n v f) (hv : v.length = n) {s : List Int} (hs : ∀ x < n, (n : Int) ∣ nval s 0 (x : Int) - v.getD x 0) {k : Nat} (hk : k < n) (hb : 0 ≤ s.getD k 0 ∧ s.getD k 0 < sz n k) : s.getD k 0 = f.getD k 0 := by
  have h1 := steps_firsts hv hs k hk
  have h2 := steps_firsts hv g.v k hk
  refine uniq_step (by omega) hb (g.b k hk) ?_
  have := Int.dvd_sub h1 h2
  rwa [show s.getD k 0 * (fac k : Int) - (firsts n n v).getD k 0 - (f.getD k 0 * (fac k : Int) - (firsts n n v).getD k 0) = (s.getD k 0 - f.getD k 0) * (fac k : Int) by grind] at this
/-- the product of 1, 2, .. by n, as the program takes it on -/
def pf (n : Nat) : Nat → Int
  | 0 => 1
  | i + 1 => (fac i : Int) % (n : Int)
theorem pf_next (n i : Nat) : pf n i * max (i : Int) 1 % (n : Int) = pf n (i + 1) := by
  cases i with
  | zero => rfl
  | succ i =>
    show (fac i : Int) % (n : Int) * max ((i + 1 : Nat) : Int) 1 % (n : Int) = ((fac (i + 1) : Nat) : Int) % (n : Int)
    have e : ((fac (i + 1) : Nat) : Int) = ((i + 1 : Nat) : Int) * (fac i : Int) := by
      show (((i + 1) * fac i : Nat) : Int) = _
      push_cast
      rfl
    rw [e, show max ((i + 1 : Nat) : Int) 1 = ((i + 1 : Nat) : Int) by omega, Int.mul_comm ((i + 1 : Nat) : Int), Int.mul_emod, Int.emod_emod, ← Int.mul_emod]
theorem gcd_pf (n i : Nat) : Nat.gcd (n : Int).natAbs (pf n (i + 1)).natAbs = gk n i := by
  show Nat.gcd n ((fac i : Int) % (n : Int)).natAbs = Nat.gcd n (fac i)
  rw [← Int.natCast_emod, Int.natAbs_natCast, Nat.gcd_comm, ← Nat.gcd_rec]
theorem pf_nat (n i : Nat) : pf n (i + 1) = ((fac i % n : Nat) : Int) := by
  show (fac i : Int) % (n : Int) = _
  rw [Int.natCast_emod]
theorem pf_small {n i : Nat} (hn : 0 < n) : 0 ≤ pf n (i + 1) ∧ pf n (i + 1) < n := by
  rw [pf_nat]
  have := Nat.mod_lt (fac i) hn
  omega
/-- the step that the program reckons -/
theorem step_ok {n i : Nat} (hn : 0 < n) {F u w : Int} (hF : F % (gk n i : Int) = 0) (hu : u * (pf n (i + 1) / (gk n i : Int)) = 1 + (sz n i : Int) * w) :
    (n : Int) ∣ (F / (gk n i : Int) * (u % (sz n i : Int)) % (sz n i : Int)) * (fac i : Int) - F := by
  have hg : (0 : Int) < (gk n i : Int) := by have := gk_pos i hn; omega
  obtain ⟨F', rfl⟩ := Int.dvd_of_emod_eq_zero hF
  rw [Int.mul_ediv_cancel_left _ (by omega)]
  have hpd : (gk n i : Int) ∣ pf n (i + 1) := by
    rw [← gcd_pf n i]
    have := Int.natCast_dvd_natCast.mpr (Nat.gcd_dvd_right (n : Int).natAbs (pf n (i + 1)).natAbs)
    exact Int.dvd_natAbs.mp this
  obtain ⟨p', hp⟩ := hpd
  rw [hp, Int.mul_ediv_cancel_left _ (by omega)] at hu
  have h1 : (n : Int) ∣ pf n (i + 1) - (fac i : Int) := sub_mod _ _
  have h2 : (sz n i : Int) * (gk n i : Int) = (n : Int) := by
    rw [← Int.natCast_mul, sz_mul]
  obtain ⟨z1, hz1⟩ : ∃ z, u % (sz n i : Int) = u + (sz n i : Int) * z := ⟨-(u / (sz n i : Int)), by have := Int.mul_ediv_add_emod u (sz n i : Int); grind⟩
  obtain ⟨z2, hz2⟩ : ∃ z, F' * (u % (sz n i : Int)) % (sz n i : Int) = F' * (u % (sz n i : Int)) + (sz n i : Int) * z := ⟨-(F' * (u % (sz n i : Int)) / (sz n i : Int)), by have := Int.mul_ediv_add_emod (F' * (u % (sz n i : Int))) (sz n i : Int); grind⟩
  obtain ⟨z3, hz3⟩ := h1
  rw [hz2, hz1]
  -- all by the product
  have hf : (fac i : Int) = (gk n i : Int) * p' - (n : Int) * z3 := by omega
  refine ⟨F' * w + (F' * z1 + z2) * p' - (F' * (u + (sz n i : Int) * z1) + (sz n i : Int) * z2) * z3, ?_⟩
  rw [hf, ← h2]
  have e1 : u * p' = 1 + (sz n i : Int) * w := hu
  have e2 : F' * u * (gk n i : Int) * p' = F' * (gk n i : Int) * (1 + (sz n i : Int) * w) := by rw [← e1]; grind
  grind
theorem cop_pf {n i : Nat} (hn : 0 < n) : Nat.gcd (pf n (i + 1) / (gk n i : Int)).natAbs (sz n i) = 1 := by
  rw [pf_nat, ← Int.natCast_ediv, Int.natAbs_natCast]
  have e : gk n i = Nat.gcd n (fac i % n) := by
    show Nat.gcd n (fac i) = _
    rw [Nat.gcd_comm n (fac i % n), ← Nat.gcd_rec]
  unfold sz
  rw [e, Nat.gcd_comm]
  exact Nat.coprime_div_gcd_div_gcd (Nat.gcd_pos_of_pos_left _ hn)
theorem fac_primes : ∀ n ∈ [2, 3, 5, 7, 11], ∀ k < n, gk n k = 1 := by decide
theorem bin_more : ∀ (y k : Nat), y < k → bin y k = 0
  | 0, 0, h => by omega
  | 0, _ + 1, _ => rfl
  | _ + 1, 0, h => by omega
  | y + 1, k + 1, h => by rw [bin_step, bin_more y k (by omega), bin_more y (k + 1) (by omega)]
theorem bin_self : ∀ k : Nat, bin k k = 1
  | 0 => rfl
  | k + 1 => by rw [bin_step, bin_self k, bin_more k (k + 1) (by omega)]
theorem nw_low (G : Nat → Int) {x m : Nat} (hm : x < m) : ∀ d, nw G (m + d) x = nw G m x
  | 0 => rfl
  | d + 1 => by
    rw [← Nat.add_assoc, nw, nw_low G hm d, bin_more x (m + d) (by omega)]
    simp
theorem nval_low (s : List Int) {x m : Nat} (h : x < m) : nval s 0 (x : Int) = nw (fun k => s.getD k 0 * (fac k : Int)) m x := by
  rcases Nat.le_total s.length m with c | c
  · exact nval_nwl s x m c
  · rw [nval_nwl s x s.length (Nat.le_refl _)]
    have := nw_low (fun k => s.getD k 0 * (fac k : Int)) h (s.length - m)
    rwa [show m + (s.length - m) = s.length by omega] at this
/-- at a number, steps beyond it tell nothing -/
theorem nval_upto (s : List Int) {x m : Nat} (h : x < m) : nval (s.take m) 0 (x : Int) = nval s 0 (x : Int) := by
  rw [nval_nw, nval_low s h]
theorem steps_same {n : Int} {i : Nat} {s t : List Int} (h : ∀ x < i, n ∣ nval s 0 ((x : Nat) : Int) - nval t 0 (x : Int)) : ∀ k < i, n ∣ (s.getD k 0 - t.getD k 0) * (fac k : Int) := by
  intro k hk
  have := nw_none i (fun k => s.getD k 0 * (fac k : Int) - t.getD k 0 * (fac k : Int)) (fun x hx => by
    rw [nw_sub, ← nval_low s hx, ← nval_low t hx]
    exact h x hx) k hk
  rwa [← Int.sub_mul] at this
theorem dvd_fac : ∀ {n : Nat}, 0 < n → n ∣ fac n
  | n + 1, _ => ⟨fac n, rfl⟩
theorem fac_dvd : ∀ {k m : Nat}, k ≤ m → fac k ∣ fac m
  | k, 0, h => by
    have : k = 0 := by omega
    subst this
    exact Nat.dvd_refl _
  | k, m + 1, h => by
    by_cases c : k = m + 1
    · subst c; exact Nat.dvd_refl _
    · exact Nat.dvd_trans (fac_dvd (show k ≤ m by omega)) (Nat.dvd_mul_left _ _)
theorem sz_one {n k : Nat} (hn : 0 < n) : sz n k = 1 ↔ n ∣ fac k := by
  constructor
  · intro h
    have := sz_mul n k
    rw [h, Nat.one_mul] at this
    rw [← this]
    exact Nat.gcd_dvd_right _ _
  · intro h
    unfold sz gk
    rw [Nat.gcd_eq_left h]
    exact Nat.div_self hn
theorem sz_self {n : Nat} (hn : 0 < n) : sz n n = 1 := (sz_one hn).mpr (dvd_fac hn)
theorem sz_up {n k m : Nat} (hn : 0 < n) (h : sz n k = 1) (hk : k ≤ m) : sz n m = 1 := (sz_one hn).mpr (Nat.dvd_trans ((sz_one hn).mp h) (fac_dvd hk))
theorem fac_le : ∀ i < 13, fac i ≤ 479001600 := by decide
theorem ff_self (i : Nat) : ffj 0 i (i : Int) = (fac i : Int) := by
  rw [ff_bin, bin_self]
  simp
theorem ff_more {x i : Nat} (h : x < i) : ffj 0 i (x : Int) = 0 := by
  rw [ff_bin, bin_more x i h]
  simp
/-- the table of a sum -/
def tabOf (p : List Int) (n : Nat) : List Int := (List.range n).map fun x : Nat => pval p (x : Int) % (n : Int)
theorem tabOf_len (p : List Int) (n : Nat) : (tabOf p n).length = n := by simp [tabOf]
theorem tabOf_at (p : List Int) {n x : Nat} (h : x < n) : (tabOf p n).getD x 0 = pval p (x : Int) % (n : Int) := by
  rw [List.getD_eq_getElem?_getD]
  unfold tabOf
  rw [List.getElem?_map, List.getElem?_range h]
  rfl
theorem tabOf_snoc (p : List Int) (n i : Nat) : (List.range (i + 1)).map (fun x => pval p ((x : Nat) : Int) % (n : Int)) = (List.range i).map (fun x => pval p ((x : Nat) : Int) % (n : Int)) ++ [pval p (i : Int) % (n : Int)] := by
  rw [List.range_succ, List.map_append]
  rfl
/-- the least form of a sum tells its table's steps -/
theorem form_good {n : Nat} (hn : 0 < n) {p t h f : List Int} (g : Good n (tabOf p n) f) (ht : ∀ x : Int, nval t 0 x = pval p x) (lt : h.length = t.length) (hh : ∀ k < t.length, h.getD k 0 = t.getD k 0 % (sz n k : Int)) : ∀ k, h.getD k 0 = f.getD k 0 := by
  have hs : ∀ x < n, (n : Int) ∣ nval h 0 (x : Int) - (tabOf p n).getD x 0 := by
    intro x hx
    rw [tabOf_at p hx, ← ht, nval_nwl h x t.length (by omega), nval_nwl t x t.length (Nat.le_refl _)]
    have h1 : (n : Int) ∣ nw (fun k => h.getD k 0 * (fac k : Int) - t.getD k 0 * (fac k : Int)) t.length x := nw_dvd fun k hk => by
      rw [hh k hk, ← Int.sub_mul]
      obtain ⟨z, hz⟩ := sub_mod (sz n k : Int) (t.getD k 0)
      rw [hz, Int.mul_assoc, Int.mul_left_comm]
      exact Int.dvd_mul_of_dvd_right (sz_fac n k)
    rw [nw_sub] at h1
    have h2 := sub_mod (n : Int) (nw (fun k => t.getD k 0 * (fac k : Int)) t.length x)
    have := Int.dvd_sub h1 h2
    rwa [show nw (fun k => h.getD k 0 * (fac k : Int)) t.length x - nw (fun k => t.getD k 0 * (fac k : Int)) t.length x - (nw (fun k => t.getD k 0 * (fac k : Int)) t.length x % (n : Int) - nw (fun k => t.getD k 0 * (fac k : Int)) t.length x) = nw (fun k => h.getD k 0 * (fac k : Int)) t.length x - nw (fun k => t.getD k 0 * (fac k : Int)) t.length x % (n : Int) by omega] at this
  have hb : ∀ k, 0 ≤ h.getD k 0 ∧ h.getD k 0 < sz n k := by
    intro k
    have zp := sz_pos k hn
    by_cases c : k < t.length
    · rw [hh k c]
      exact ⟨Int.emod_nonneg _ (by omega), Int.emod_lt_of_pos _ (by omega)⟩
    · rw [getD_out (by omega)]
      omega
  intro k
  by_cases c : k < n
  · exact g.step (tabOf_len p n) hs c (hb k)
  · have h1 := hb k
    rw [sz_up hn (sz_self hn) (by omega)] at h1
    rw [getD_out (p := f) (by rw [g.len]; omega)]
    omega
/-- equal but for 0s at the end -/
theorem pval_same : ∀ (a b : List Int), (∀ k, a.getD k 0 = b.getD k 0) → ∀ x, pval a x = pval b x
  | [], [], _, _ => rfl
  | [], b :: q, h, x => by
    have h0 : b = 0 := (h 0).symm
    have e : pval [] x = pval q x := pval_same [] q (fun k => h (k + 1)) x
    show 0 = b + x * pval q x
    rw [h0, ← e]
    simp [pval]
  | a :: p, [], h, x => by
    have h0 : a = 0 := h 0
    have e : pval p x = pval [] x := pval_same p [] (fun k => h (k + 1)) x
    show a + x * pval p x = 0
    rw [h0, e]
    simp [pval]
  | a :: p, b :: q, h, x => by
    have h0 : a = b := h 0
    rw [h0, pval, pval, pval_same p q (fun k => h (k + 1)) x]
theorem getD_take {s : List Int} {k i : Nat} (h : k < i) : (s.take i).getD k 0 = s.getD k 0 := by
  rw [List.getD_eq_getElem?_getD, List.getElem?_take_of_lt h, ← List.getD_eq_getElem?_getD]
end Vf

namespace Vf
open PySem PySem.Spec PyProof.Rows L2
/-! ## t + u and slices of tuples, of any length -/
section
variable {X : Cx} {K : PySem.W.Frag}
theorem o_catA (e : X.K = K) : OpR X (binaryOp .Add) (rCatA K) := by subst e; exact op_catA
theorem s_tupA (e : X.K = K) : SlR X (rSlA K) := by subst e; exact sl_tupA
end
section
variable {K : PySem.W.Frag} {H : Hp} {Q : VK}
theorem r_catA {a b : Addr} {xs ys : List V} (h1 : SqT K H a xs) (h2 : SqT K H b ys) (hl : xs.length + ys.length ≤ 1000) (h : ∀ p H', Same H H' → SqT K H' p (xs ++ ys) → Q (.ref p) H') : rCatA K (.ref a) (.ref b) H Q := by
  refine ⟨a, b, xs, ys, rfl, rfl, h1, h2, small (Nat.le_trans hl (by decide)), fun e => ?_, fun _ e => ?_, fun _ _ p hp => ?_⟩
  · subst e
    exact h b H (Same.refl _) h2
  · subst e
    exact h a H (Same.refl _) (by rw [List.append_nil]; exact h1)
  · exact h p _ (Same.new hp) (SqT.of upd_same)
theorem r_slA {a : Addr} {xs : List V} {lo hi : Option Int} (h1 : SqT K H a xs) (h : ∀ p H', Same H H' → SqT K H' p (cutV xs lo hi) → Q (.ref p) H') : rSlA K (.ref a) lo hi H Q := by
  refine ⟨a, xs, rfl, h1, fun e => ?_, fun _ p hp => ?_⟩
  · have : cutV xs lo hi = xs := by
      unfold cutV
      rw [e.1, e.2, Nat.sub_zero, List.drop_zero, List.take_length]
    exact h a H (Same.refl _) (by rw [this]; exact h1)
  · exact h p _ (Same.new hp) (SqT.of upd_same)
theorem r_eqT {a b : Addr} (ns ms : List Int) (h1 : SqT K H a (ns.map V.int)) (h2 : SqT K H b (ms.map V.int)) (h : Q (.bl (decide (ns = ms))) H) : rEqD K (.ref a) (.ref b) H Q := by
  refine r_eqD (Dp.tupD h1) (Dp.tupD h2) (shapedTup ns) (shapedTup ms) ?_
  rw [show PyData.eqv (tupD ns) (tupD ms) = decide (ns = ms) from eqvInts ns ms]
  exact h
end
end Vf

namespace K34
open PySem PySem.Spec PyProof.Rows L2 Vf
/-! ### the text -/
def topS (i : Nat) : Stmt := PySem.Challenge.pw_restworld_k34_whole_tables_of_sums.main.body.getD i (.Pass ⟨0, 0, 0, 0⟩)
abbrev s_bezout : Stmt := topS 2
theorem sc_bezout : FnScope ["one", "other", "u", "v", "next_u", "next_v", "left", "right", "times"] ["one", "other"] (defScope s_bezout) := ⟨rfl, rfl, rfl, by decide +kernel, rfl, by decide +kernel, by decide +kernel⟩
theorem bd_bezout {K : PySem.W.Frag} {f : Addr} {fd : FuncData} (F : L2.Fun K "bezout" "bezout" s_bezout f fd) : L2.Binds K fd ["one", "other"] [] := F.binds (ps := ["one", "other"]) fun _ _ _ _ _ _ us hl => match us, hl with | [_, _], _ => rfl
abbrev s_inverse : Stmt := topS 3
theorem sc_inverse : FnScope ["number", "base", "u", "_"] ["number", "base"] (defScope s_inverse) := ⟨rfl, rfl, rfl, by decide +kernel, rfl, by decide +kernel, by decide +kernel⟩
theorem bd_inverse {K : PySem.W.Frag} {f : Addr} {fd : FuncData} (F : L2.Fun K "inverse" "inverse" s_inverse f fd) : L2.Binds K fd ["number", "base"] [] := F.binds (ps := ["number", "base"]) fun _ _ _ _ _ _ us hl => match us, hl with | [_, _], _ => rfl
abbrev s_is_integer : Stmt := topS 15
theorem sc_is_integer : FnScope ["given"] ["given"] (defScope s_is_integer) := ⟨rfl, rfl, rfl, by decide +kernel, rfl, by decide +kernel, by decide +kernel⟩
theorem bd_is_integer {K : PySem.W.Frag} {f : Addr} {fd : FuncData} (F : L2.Fun K "is_integer" "is_integer" s_is_integer f fd) : L2.Binds K fd ["given"] [] := F.binds (ps := ["given"]) fun _ _ _ _ _ _ us hl => match us, hl with | [_], _ => rfl
abbrev s_is_within : Stmt := topS 16
theorem sc_is_within : FnScope ["given", "least", "most"] ["given", "least", "most"] (defScope s_is_within) := ⟨rfl, rfl, rfl, by decide +kernel, rfl, by decide +kernel, by decide +kernel⟩
theorem bd_is_within {K : PySem.W.Frag} {f : Addr} {fd : FuncData} (F : L2.Fun K "is_within" "is_within" s_is_within f fd) : L2.Binds K fd ["given", "least", "most"] [] := F.binds (ps := ["given", "least", "most"]) fun _ _ _ _ _ _ us hl => match us, hl with | [_, _, _], _ => rfl
abbrev s_check_within : Stmt := topS 17
theorem sc_check_within : FnScope ["given", "least", "most"] ["given", "least", "most"] (defScope s_check_within) := ⟨rfl, rfl, rfl, by decide +kernel, rfl, by decide +kernel, by decide +kernel⟩
theorem bd_check_within {K : PySem.W.Frag} {f : Addr} {fd : FuncData} (F : L2.Fun K "check_within" "check_within" s_check_within f fd) : L2.Binds K fd ["given", "least", "most"] [] := F.binds (ps := ["given", "least", "most"]) fun _ _ _ _ _ _ us hl => match us, hl with | [_, _, _], _ => rfl
abbrev s_check_base : Stmt := topS 18
theorem sc_check_base : FnScope ["given"] ["given"] (defScope s_check_base) := ⟨rfl, rfl, rfl, by decide +kernel, rfl, by decide +kernel, by decide +kernel⟩
theorem bd_check_base {K : PySem.W.Frag} {f : Addr} {fd : FuncData} (F : L2.Fun K "check_base" "check_base" s_check_base f fd) : L2.Binds K fd ["given"] [] := F.binds (ps := ["given"]) fun _ _ _ _ _ _ us hl => match us, hl with | [_], _ => rfl
abbrev s_is_sum : Stmt := topS 19
theorem sc_is_sum : FnScope ["given", "coefficient"] ["given"] (defScope s_is_sum) := ⟨rfl, rfl, rfl, by decide +kernel, rfl, by decide +kernel, by decide +kernel⟩
theorem bd_is_sum {K : PySem.W.Frag} {f : Addr} {fd : FuncData} (F : L2.Fun K "is_sum" "is_sum" s_is_sum f fd) : L2.Binds K fd ["given"] [] := F.binds (ps := ["given"]) fun _ _ _ _ _ _ us hl => match us, hl with | [_], _ => rfl
abbrev s_is_coefficient : Stmt := topS 20
theorem sc_is_coefficient : FnScope ["given"] ["given"] (defScope s_is_coefficient) := ⟨rfl, rfl, rfl, by decide +kernel, rfl, by decide +kernel, by decide +kernel⟩
theorem bd_is_coefficient {K : PySem.W.Frag} {f : Addr} {fd : FuncData} (F : L2.Fun K "is_coefficient" "is_coefficient" s_is_coefficient f fd) : L2.Binds K fd ["given"] [] := F.binds (ps := ["given"]) fun _ _ _ _ _ _ us hl => match us, hl with | [_], _ => rfl
abbrev s_check_sum : Stmt := topS 21
theorem sc_check_sum : FnScope ["given"] ["given"] (defScope s_check_sum) := ⟨rfl, rfl, rfl, by decide +kernel, rfl, by decide +kernel, by decide +kernel⟩
theorem bd_check_sum {K : PySem.W.Frag} {f : Addr} {fd : FuncData} (F : L2.Fun K "check_sum" "check_sum" s_check_sum f fd) : L2.Binds K fd ["given"] [] := F.binds (ps := ["given"]) fun _ _ _ _ _ _ us hl => match us, hl with | [_], _ => rfl
abbrev s_trimmed : Stmt := topS 23
theorem sc_trimmed : FnScope ["terms", "many"] ["terms"] (defScope s_trimmed) := ⟨rfl, rfl, rfl, by decide +kernel, rfl, by decide +kernel, by decide +kernel⟩
theorem bd_trimmed {K : PySem.W.Frag} {f : Addr} {fd : FuncData} (F : L2.Fun K "trimmed" "trimmed" s_trimmed f fd) : L2.Binds K fd ["terms"] [] := F.binds (ps := ["terms"]) fun _ _ _ _ _ _ us hl => match us, hl with | [_], _ => rfl
abbrev s_steps_of : Stmt := topS 24
theorem sc_steps_of : FnScope ["terms", "left", "number", "power"] ["terms"] (defScope s_steps_of) := ⟨rfl, rfl, rfl, by decide +kernel, rfl, by decide +kernel, by decide +kernel⟩
theorem bd_steps_of {K : PySem.W.Frag} {f : Addr} {fd : FuncData} (F : L2.Fun K "steps_of" "steps_of" s_steps_of f fd) : L2.Binds K fd ["terms"] [] := F.binds (ps := ["terms"]) fun _ _ _ _ _ _ us hl => match us, hl with | [_], _ => rfl
abbrev s_ranges_of : Stmt := topS 26
theorem sc_ranges_of : FnScope ["base", "many", "ranges", "product", "k"] ["base", "many"] (defScope s_ranges_of) := ⟨rfl, rfl, rfl, by decide +kernel, rfl, by decide +kernel, by decide +kernel⟩
theorem bd_ranges_of {K : PySem.W.Frag} {f : Addr} {fd : FuncData} (F : L2.Fun K "ranges_of" "ranges_of" s_ranges_of f fd) : L2.Binds K fd ["base", "many"] [] := F.binds (ps := ["base", "many"]) fun _ _ _ _ _ _ us hl => match us, hl with | [_, _], _ => rfl
abbrev s_form_of_sum : Stmt := topS 27
theorem sc_form_of_sum : FnScope ["terms", "base", "step", "most"] ["terms", "base"] (defScope s_form_of_sum) := ⟨rfl, rfl, rfl, by decide +kernel, rfl, by decide +kernel, by decide +kernel⟩
theorem bd_form_of_sum {K : PySem.W.Frag} {f : Addr} {fd : FuncData} (F : L2.Fun K "form_of_sum" "form_of_sum" s_form_of_sum f fd) : L2.Binds K fd ["terms", "base"] [] := F.binds (ps := ["terms", "base"]) fun _ _ _ _ _ _ us hl => match us, hl with | [_, _], _ => rfl
abbrev s_form_of_rests : Stmt := topS 28
theorem sc_form_of_rests : FnScope ["rests", "base", "form", "product", "k", "difference", "shared", "most"] ["rests", "base"] (defScope s_form_of_rests) := ⟨rfl, rfl, rfl, by decide +kernel, rfl, by decide +kernel, by decide +kernel⟩
theorem bd_form_of_rests {K : PySem.W.Frag} {f : Addr} {fd : FuncData} (F : L2.Fun K "form_of_rests" "form_of_rests" s_form_of_rests f fd) : L2.Binds K fd ["rests", "base"] [] := F.binds (ps := ["rests", "base"]) fun _ _ _ _ _ _ us hl => match us, hl with | [_, _], _ => rfl
abbrev s__differences : Stmt := topS 29
theorem sc__differences : FnScope ["rests", "base", "firsts", "row", "at"] ["rests", "base"] (defScope s__differences) := ⟨rfl, rfl, rfl, by decide +kernel, rfl, by decide +kernel, by decide +kernel⟩
theorem bd__differences {K : PySem.W.Frag} {f : Addr} {fd : FuncData} (F : L2.Fun K "_differences" "_differences" s__differences f fd) : L2.Binds K fd ["rests", "base"] [] := F.binds (ps := ["rests", "base"]) fun _ _ _ _ _ _ us hl => match us, hl with | [_, _], _ => rfl
abbrev s_least_form : Stmt := topS 32
theorem sc_least_form : FnScope ["terms", "base"] ["terms", "base"] (defScope s_least_form) := ⟨rfl, rfl, rfl, by decide +kernel, rfl, by decide +kernel, by decide +kernel⟩
theorem bd_least_form {K : PySem.W.Frag} {f : Addr} {fd : FuncData} (F : L2.Fun K "least_form" "least_form" s_least_form f fd) : L2.Binds K fd ["terms", "base"] [] := F.binds (ps := ["terms", "base"]) fun _ _ _ _ _ _ us hl => match us, hl with | [_, _], _ => rfl
abbrev s_is_table : Stmt := topS 33
theorem sc_is_table : FnScope ["values", "base"] ["values", "base"] (defScope s_is_table) := ⟨rfl, rfl, rfl, by decide +kernel, rfl, by decide +kernel, by decide +kernel⟩
theorem bd_is_table {K : PySem.W.Frag} {f : Addr} {fd : FuncData} (F : L2.Fun K "is_table" "is_table" s_is_table f fd) : L2.Binds K fd ["values", "base"] [] := F.binds (ps := ["values", "base"]) fun _ _ _ _ _ _ us hl => match us, hl with | [_, _], _ => rfl
abbrev s_form_of_table : Stmt := topS 34
theorem sc_form_of_table : FnScope ["values", "base"] ["values", "base"] (defScope s_form_of_table) := ⟨rfl, rfl, rfl, by decide +kernel, rfl, by decide +kernel, by decide +kernel⟩
theorem bd_form_of_table {K : PySem.W.Frag} {f : Addr} {fd : FuncData} (F : L2.Fun K "form_of_table" "form_of_table" s_form_of_table f fd) : L2.Binds K fd ["values", "base"] [] := F.binds (ps := ["values", "base"]) fun _ _ _ _ _ _ us hl => match us, hl with | [_, _], _ => rfl
abbrev s_check_table : Stmt := topS 35
theorem sc_check_table : FnScope ["values", "base", "with_gaps", "index", "rest"] ["values", "base", "with_gaps"] (defScope s_check_table) := ⟨rfl, rfl, rfl, by decide +kernel, rfl, by decide +kernel, by decide +kernel⟩
theorem bd_check_table {K : PySem.W.Frag} {f : Addr} {fd : FuncData} (F : L2.Fun K "check_table" "check_table" s_check_table f fd) : L2.Binds K fd ["values", "base", "with_gaps"] [] := F.binds (ps := ["values", "base", "with_gaps"]) fun _ _ _ _ _ _ us hl => match us, hl with | [_, _, _], _ => rfl
abbrev s__law_cask : Stmt := topS 37
theorem sc__law_cask : FnScope ["_law_script", "_law_k", "_law_own", "_law_stirred", "_law_entry"] ["_law_script", "_law_k"] (defScope s__law_cask) := ⟨rfl, rfl, rfl, by decide +kernel, rfl, by decide +kernel, by decide +kernel⟩
theorem bd__law_cask {K : PySem.W.Frag} {f : Addr} {fd : FuncData} (F : L2.Fun K "_law_cask" "_law_cask" s__law_cask f fd) : L2.Binds K fd ["_law_script", "_law_k"] [] := F.binds (ps := ["_law_script", "_law_k"]) fun _ _ _ _ _ _ us hl => match us, hl with | [_, _], _ => rfl
abbrev s__law_tap : Stmt := topS 38
theorem sc__law_tap : FnScope ["_law_cask_here", "_law_many", "_law_figure"] ["_law_cask_here", "_law_many"] (defScope s__law_tap) := ⟨rfl, rfl, rfl, by decide +kernel, rfl, by decide +kernel, by decide +kernel⟩
theorem bd__law_tap {K : PySem.W.Frag} {f : Addr} {fd : FuncData} (F : L2.Fun K "_law_tap" "_law_tap" s__law_tap f fd) : L2.Binds K fd ["_law_cask_here", "_law_many"] [] := F.binds (ps := ["_law_cask_here", "_law_many"]) fun _ _ _ _ _ _ us hl => match us, hl with | [_, _], _ => rfl
abbrev s__law_row : Stmt := topS 39
theorem sc__law_row : FnScope ["_law_cask_here", "_law_most", "_law_size", "_law_found", "_law_k"] ["_law_cask_here", "_law_most", "_law_size"] (defScope s__law_row) := ⟨rfl, rfl, rfl, by decide +kernel, rfl, by decide +kernel, by decide +kernel⟩
theorem bd__law_row {K : PySem.W.Frag} {f : Addr} {fd : FuncData} (F : L2.Fun K "_law_row" "_law_row" s__law_row f fd) : L2.Binds K fd ["_law_cask_here", "_law_most", "_law_size"] [] := F.binds (ps := ["_law_cask_here", "_law_most", "_law_size"]) fun _ _ _ _ _ _ us hl => match us, hl with | [_, _, _], _ => rfl
abbrev s__law_at : Stmt := topS 40
theorem sc__law_at : FnScope ["_law_row_here", "_law_number", "_law_found", "_law_part"] ["_law_row_here", "_law_number"] (defScope s__law_at) := ⟨rfl, rfl, rfl, by decide +kernel, rfl, by decide +kernel, by decide +kernel⟩
theorem bd__law_at {K : PySem.W.Frag} {f : Addr} {fd : FuncData} (F : L2.Fun K "_law_at" "_law_at" s__law_at f fd) : L2.Binds K fd ["_law_row_here", "_law_number"] [] := F.binds (ps := ["_law_row_here", "_law_number"]) fun _ _ _ _ _ _ us hl => match us, hl with | [_, _], _ => rfl
abbrev s__law_table : Stmt := topS 41
theorem sc__law_table : FnScope ["_law_row_here", "_law_base", "_law_number"] ["_law_row_here", "_law_base"] (defScope s__law_table) := ⟨rfl, rfl, rfl, by decide +kernel, rfl, by decide +kernel, by decide +kernel⟩
theorem bd__law_table {K : PySem.W.Frag} {f : Addr} {fd : FuncData} (F : L2.Fun K "_law_table" "_law_table" s__law_table f fd) : L2.Binds K fd ["_law_row_here", "_law_base"] [] := F.binds (ps := ["_law_row_here", "_law_base"]) fun _ _ _ _ _ _ us hl => match us, hl with | [_, _], _ => rfl
abbrev s__law_fall : Stmt := topS 42
theorem sc__law_fall : FnScope ["_law_marks", "_law_number", "_law_found", "_law_piece", "_law_k"] ["_law_marks", "_law_number"] (defScope s__law_fall) := ⟨rfl, rfl, rfl, by decide +kernel, rfl, by decide +kernel, by decide +kernel⟩
theorem bd__law_fall {K : PySem.W.Frag} {f : Addr} {fd : FuncData} (F : L2.Fun K "_law_fall" "_law_fall" s__law_fall f fd) : L2.Binds K fd ["_law_marks", "_law_number"] [] := F.binds (ps := ["_law_marks", "_law_number"]) fun _ _ _ _ _ _ us hl => match us, hl with | [_, _], _ => rfl
abbrev s__law_gcd : Stmt := topS 43
theorem sc__law_gcd : FnScope ["_law_one", "_law_last"] ["_law_one", "_law_last"] (defScope s__law_gcd) := ⟨rfl, rfl, rfl, by decide +kernel, rfl, by decide +kernel, by decide +kernel⟩
theorem bd__law_gcd {K : PySem.W.Frag} {f : Addr} {fd : FuncData} (F : L2.Fun K "_law_gcd" "_law_gcd" s__law_gcd f fd) : L2.Binds K fd ["_law_one", "_law_last"] [] := F.binds (ps := ["_law_one", "_law_last"]) fun _ _ _ _ _ _ us hl => match us, hl with | [_, _], _ => rfl
abbrev s__law_sizes : Stmt := topS 44
theorem sc__law_sizes : FnScope ["_law_base", "_law_found", "_law_piece", "_law_k", "_law_here"] ["_law_base"] (defScope s__law_sizes) := ⟨rfl, rfl, rfl, by decide +kernel, rfl, by decide +kernel, by decide +kernel⟩
theorem bd__law_sizes {K : PySem.W.Frag} {f : Addr} {fd : FuncData} (F : L2.Fun K "_law_sizes" "_law_sizes" s__law_sizes f fd) : L2.Binds K fd ["_law_base"] [] := F.binds (ps := ["_law_base"]) fun _ _ _ _ _ _ us hl => match us, hl with | [_], _ => rfl
abbrev s__law_steps_of : Stmt := topS 45
theorem sc__law_steps_of : FnScope ["_law_table_here", "_law_base", "_law_found", "_law_sizes_here", "_law_k", "_law_piece", "_law_left", "_law_j", "_law_some", "_law_told", "_law_number", "_law_mark"] ["_law_table_here", "_law_base"] (defScope s__law_steps_of) := ⟨rfl, rfl, rfl, by decide +kernel, rfl, by decide +kernel, by decide +kernel⟩
theorem bd__law_steps_of {K : PySem.W.Frag} {f : Addr} {fd : FuncData} (F : L2.Fun K "_law_steps_of" "_law_steps_of" s__law_steps_of f fd) : L2.Binds K fd ["_law_table_here", "_law_base"] [] := F.binds (ps := ["_law_table_here", "_law_base"]) fun _ _ _ _ _ _ us hl => match us, hl with | [_, _], _ => rfl
abbrev s__law_cut : Stmt := topS 46
theorem sc__law_cut : FnScope ["_law_marks", "_law_found"] ["_law_marks"] (defScope s__law_cut) := ⟨rfl, rfl, rfl, by decide +kernel, rfl, by decide +kernel, by decide +kernel⟩
theorem bd__law_cut {K : PySem.W.Frag} {f : Addr} {fd : FuncData} (F : L2.Fun K "_law_cut" "_law_cut" s__law_cut f fd) : L2.Binds K fd ["_law_marks"] [] := F.binds (ps := ["_law_marks"]) fun _ _ _ _ _ _ us hl => match us, hl with | [_], _ => rfl
abbrev s__law_right : Stmt := topS 47
theorem sc__law_right : FnScope ["_law_cask_here", "_law_turn", "_law_base", "_law_row_here", "_law_table_here", "_law_way", "_law_at_here", "_law_marks", "_law_due", "_law_k"] ["_law_cask_here"] (defScope s__law_right) := ⟨rfl, rfl, rfl, by decide +kernel, rfl, by decide +kernel, by decide +kernel⟩
theorem bd__law_right {K : PySem.W.Frag} {f : Addr} {fd : FuncData} (F : L2.Fun K "_law_right" "_law_right" s__law_right f fd) : L2.Binds K fd ["_law_cask_here"] [] := F.binds (ps := ["_law_cask_here"]) fun _ _ _ _ _ _ us hl => match us, hl with | [_], _ => rfl
abbrev s_law : Stmt := topS 48
theorem sc_law : FnScope ["_law_script", "_law_k"] ["_law_script"] (defScope s_law) := ⟨rfl, rfl, rfl, by decide +kernel, rfl, by decide +kernel, by decide +kernel⟩
theorem bd_law {K : PySem.W.Frag} {f : Addr} {fd : FuncData} (F : L2.Fun K "law" "law" s_law f fd) : L2.Binds K fd ["_law_script"] [] := F.binds (ps := ["_law_script"]) fun _ _ _ _ _ _ us hl => match us, hl with | [_], _ => rfl
def g_kb_is_table_0 {α : Type} (us ws : List α) : List α := match us, ws with | [], [w0, w1] => [w1, w0] | _, _ => []
theorem kb_is_table_0 {K : PySem.W.Frag} {f : Addr} {fd : FuncData} (F : L2.Fun K "is_table" "is_table" s_is_table f fd) : KBinds K fd ["values", "base"] [("base" : Str), ("values" : Str)] g_kb_is_table_0 g_kb_is_table_0 := by
  obtain ⟨⟨oc, od, kV, doc, pm, an, cdv, ct, osl, rfl, lk, hcd⟩, _⟩ := F
  refine ⟨fun s us ws _ hl => ?_, fun {vs us zs ws} hv hz => ?_⟩
  · match us, ws, hl with
    | [], [w0, w1], _ => exact .of_eq rfl
  ·
    cases hv with
    | nil =>
      cases hz with
      | nil => exact Paired.nil
      | cons q0 t_q0 =>
        cases t_q0 with
        | nil => exact Paired.nil
        | cons q1 t_q1 =>
          cases t_q1 with
          | nil =>
            exact (.cons q1 (.cons q0 .nil))
          | cons _ _ => exact Paired.nil
    | cons _ _ => exact Paired.nil

def g_kb_form_of_table_1 {α : Type} (us ws : List α) : List α := match us, ws with | [], [w0, w1] => [w1, w0] | _, _ => []
theorem kb_form_of_table_1 {K : PySem.W.Frag} {f : Addr} {fd : FuncData} (F : L2.Fun K "form_of_table" "form_of_table" s_form_of_table f fd) : KBinds K fd ["values", "base"] [("base" : Str), ("values" : Str)] g_kb_form_of_table_1 g_kb_form_of_table_1 := by
  obtain ⟨⟨oc, od, kV, doc, pm, an, cdv, ct, osl, rfl, lk, hcd⟩, _⟩ := F
  refine ⟨fun s us ws _ hl => ?_, fun {vs us zs ws} hv hz => ?_⟩
  · match us, ws, hl with
    | [], [w0, w1], _ => exact .of_eq rfl
  ·
    cases hv with
    | nil =>
      cases hz with
      | nil => exact Paired.nil
      | cons q0 t_q0 =>
        cases t_q0 with
        | nil => exact Paired.nil
        | cons q1 t_q1 =>
          cases t_q1 with
          | nil =>
            exact (.cons q1 (.cons q0 .nil))
          | cons _ _ => exact Paired.nil
    | cons _ _ => exact Paired.nil

/-! ### the top -/
structure Top (K : PySem.W.Frag) (mg : Str → Option Value) : Prop where
  d_bezout : At K mg "bezout" s_bezout
  d_inverse : At K mg "inverse" s_inverse
  d_is_integer : At K mg "is_integer" s_is_integer
  d_is_within : At K mg "is_within" s_is_within
  d_check_within : At K mg "check_within" s_check_within
  d_check_base : At K mg "check_base" s_check_base
  d_is_sum : At K mg "is_sum" s_is_sum
  d_is_coefficient : At K mg "is_coefficient" s_is_coefficient
  d_check_sum : At K mg "check_sum" s_check_sum
  d_trimmed : At K mg "trimmed" s_trimmed
  d_steps_of : At K mg "steps_of" s_steps_of
  d_ranges_of : At K mg "ranges_of" s_ranges_of
  d_form_of_sum : At K mg "form_of_sum" s_form_of_sum
  d_form_of_rests : At K mg "form_of_rests" s_form_of_rests
  d__differences : At K mg "_differences" s__differences
  d_least_form : At K mg "least_form" s_least_form
  d_is_table : At K mg "is_table" s_is_table
  d_form_of_table : At K mg "form_of_table" s_form_of_table
  d_check_table : At K mg "check_table" s_check_table
  d__law_cask : At K mg "_law_cask" s__law_cask
  d__law_tap : At K mg "_law_tap" s__law_tap
  d__law_row : At K mg "_law_row" s__law_row
  d__law_at : At K mg "_law_at" s__law_at
  d__law_table : At K mg "_law_table" s__law_table
  d__law_fall : At K mg "_law_fall" s__law_fall
  d__law_gcd : At K mg "_law_gcd" s__law_gcd
  d__law_sizes : At K mg "_law_sizes" s__law_sizes
  d__law_steps_of : At K mg "_law_steps_of" s__law_steps_of
  d__law_cut : At K mg "_law_cut" s__law_cut
  d__law_right : At K mg "_law_right" s__law_right
  d_law : At K mg "law" s_law
  m_gcd : mg "gcd" = some (.builtin "math.gcd")
  c_MOST_BASE : ∃ t, mg "MOST_BASE" = some (.int (1000000000000) t)
  c_MOST_DEGREE : ∃ t, mg "MOST_DEGREE" = some (.int (12) t)
  c_MOST_COEFFICIENT : ∃ t, mg "MOST_COEFFICIENT" = some (.int (1000000000000) t)
  c_MOST_TABLE : ∃ t, mg "MOST_TABLE" = some (.int (1000) t)
  b_abs : mg "abs" = none
  b_all : mg "all" = none
  b_bool : mg "bool" = none
  b_divmod : mg "divmod" = none
  b_enumerate : mg "enumerate" = none
  b_int : mg "int" = none
  b_isinstance : mg "isinstance" = none
  b_len : mg "len" = none
  b_list : mg "list" = none
  b_max : mg "max" = none
  b_min : mg "min" = none
  b_range : mg "range" = none
  b_tuple : mg "tuple" = none
  b_zip : mg "zip" = none
/-! ### the end -/
theorem top_mk {K : PySem.W.Frag} {h : Heap} {mg : Str → Option Value} (X : K.In h) (G : h.Ns mainGlobals mg)
    {f0 : Addr} {od0 an0 : Option Addr} {sl0 : Array (Option Value)} {oc0 kV0 dc0 pm0 cd0 ct0 : Value}
    {f1 : Addr} {od1 an1 : Option Addr} {sl1 : Array (Option Value)} {oc1 kV1 dc1 pm1 cd1 ct1 : Value}
    {f2 : Addr} {od2 an2 : Option Addr} {sl2 : Array (Option Value)} {oc2 kV2 dc2 pm2 cd2 ct2 : Value}
    {f3 : Addr} {od3 an3 : Option Addr} {sl3 : Array (Option Value)} {oc3 kV3 dc3 pm3 cd3 ct3 : Value}
    {f4 : Addr} {od4 an4 : Option Addr} {sl4 : Array (Option Value)} {oc4 kV4 dc4 pm4 cd4 ct4 : Value}
    {f5 : Addr} {od5 an5 : Option Addr} {sl5 : Array (Option Value)} {oc5 kV5 dc5 pm5 cd5 ct5 : Value}
    {f6 : Addr} {od6 an6 : Option Addr} {sl6 : Array (Option Value)} {oc6 kV6 dc6 pm6 cd6 ct6 : Value}
    {f7 : Addr} {od7 an7 : Option Addr} {sl7 : Array (Option Value)} {oc7 kV7 dc7 pm7 cd7 ct7 : Value}
    {f8 : Addr} {od8 an8 : Option Addr} {sl8 : Array (Option Value)} {oc8 kV8 dc8 pm8 cd8 ct8 : Value}
    {f9 : Addr} {od9 an9 : Option Addr} {sl9 : Array (Option Value)} {oc9 kV9 dc9 pm9 cd9 ct9 : Value}
    {f10 : Addr} {od10 an10 : Option Addr} {sl10 : Array (Option Value)} {oc10 kV10 dc10 pm10 cd10 ct10 : Value}
    {f11 : Addr} {od11 an11 : Option Addr} {sl11 : Array (Option Value)} {oc11 kV11 dc11 pm11 cd11 ct11 : Value}
    {f12 : Addr} {od12 an12 : Option Addr} {sl12 : Array (Option Value)} {oc12 kV12 dc12 pm12 cd12 ct12 : Value}
    {f13 : Addr} {od13 an13 : Option Addr} {sl13 : Array (Option Value)} {oc13 kV13 dc13 pm13 cd13 ct13 : Value}
    {f14 : Addr} {od14 an14 : Option Addr} {sl14 : Array (Option Value)} {oc14 kV14 dc14 pm14 cd14 ct14 : Value}
    {f15 : Addr} {od15 an15 : Option Addr} {sl15 : Array (Option Value)} {oc15 kV15 dc15 pm15 cd15 ct15 : Value}
    {f16 : Addr} {od16 an16 : Option Addr} {sl16 : Array (Option Value)} {oc16 kV16 dc16 pm16 cd16 ct16 : Value}
    {f17 : Addr} {od17 an17 : Option Addr} {sl17 : Array (Option Value)} {oc17 kV17 dc17 pm17 cd17 ct17 : Value}
    {f18 : Addr} {od18 an18 : Option Addr} {sl18 : Array (Option Value)} {oc18 kV18 dc18 pm18 cd18 ct18 : Value}
    {f19 : Addr} {od19 an19 : Option Addr} {sl19 : Array (Option Value)} {oc19 kV19 dc19 pm19 cd19 ct19 : Value}
    {f20 : Addr} {od20 an20 : Option Addr} {sl20 : Array (Option Value)} {oc20 kV20 dc20 pm20 cd20 ct20 : Value}
    {f21 : Addr} {od21 an21 : Option Addr} {sl21 : Array (Option Value)} {oc21 kV21 dc21 pm21 cd21 ct21 : Value}
    {f22 : Addr} {od22 an22 : Option Addr} {sl22 : Array (Option Value)} {oc22 kV22 dc22 pm22 cd22 ct22 : Value}
    {f23 : Addr} {od23 an23 : Option Addr} {sl23 : Array (Option Value)} {oc23 kV23 dc23 pm23 cd23 ct23 : Value}
    {f24 : Addr} {od24 an24 : Option Addr} {sl24 : Array (Option Value)} {oc24 kV24 dc24 pm24 cd24 ct24 : Value}
    {f25 : Addr} {od25 an25 : Option Addr} {sl25 : Array (Option Value)} {oc25 kV25 dc25 pm25 cd25 ct25 : Value}
    {f26 : Addr} {od26 an26 : Option Addr} {sl26 : Array (Option Value)} {oc26 kV26 dc26 pm26 cd26 ct26 : Value}
    {f27 : Addr} {od27 an27 : Option Addr} {sl27 : Array (Option Value)} {oc27 kV27 dc27 pm27 cd27 ct27 : Value}
    {f28 : Addr} {od28 an28 : Option Addr} {sl28 : Array (Option Value)} {oc28 kV28 dc28 pm28 cd28 ct28 : Value}
    {f29 : Addr} {od29 an29 : Option Addr} {sl29 : Array (Option Value)} {oc29 kV29 dc29 pm29 cd29 ct29 : Value}
    {f30 : Addr} {od30 an30 : Option Addr} {sl30 : Array (Option Value)} {oc30 kV30 dc30 pm30 cd30 ct30 : Value}
    {t_MOST_BASE : Tok}
    {t_MOST_DEGREE : Tok}
    {t_MOST_COEFFICIENT : Tok}
    {t_MOST_TABLE : Tok}
    (a0 : PySem.W.nsIn K mainGlobals "bezout" = some (some (.ref f0))) (l0 : K.lookup f0 = some ⟨oc0, od0, .func (PySem.W.fnOf "bezout" "bezout" (defArgs s_bezout) (defBody s_bezout) (defScope s_bezout) .none kV0 dc0 pm0 an0 cd0 ct0), sl0⟩) (c0 : PySem.W.codeIn K cd0 "bezout" = true) (k0 : PySem.W.keepIn K (.ref f0) = true)
    (a1 : PySem.W.nsIn K mainGlobals "inverse" = some (some (.ref f1))) (l1 : K.lookup f1 = some ⟨oc1, od1, .func (PySem.W.fnOf "inverse" "inverse" (defArgs s_inverse) (defBody s_inverse) (defScope s_inverse) .none kV1 dc1 pm1 an1 cd1 ct1), sl1⟩) (c1 : PySem.W.codeIn K cd1 "inverse" = true) (k1 : PySem.W.keepIn K (.ref f1) = true)
    (a2 : PySem.W.nsIn K mainGlobals "is_integer" = some (some (.ref f2))) (l2 : K.lookup f2 = some ⟨oc2, od2, .func (PySem.W.fnOf "is_integer" "is_integer" (defArgs s_is_integer) (defBody s_is_integer) (defScope s_is_integer) .none kV2 dc2 pm2 an2 cd2 ct2), sl2⟩) (c2 : PySem.W.codeIn K cd2 "is_integer" = true) (k2 : PySem.W.keepIn K (.ref f2) = true)
    (a3 : PySem.W.nsIn K mainGlobals "is_within" = some (some (.ref f3))) (l3 : K.lookup f3 = some ⟨oc3, od3, .func (PySem.W.fnOf "is_within" "is_within" (defArgs s_is_within) (defBody s_is_within) (defScope s_is_within) .none kV3 dc3 pm3 an3 cd3 ct3), sl3⟩) (c3 : PySem.W.codeIn K cd3 "is_within" = true) (k3 : PySem.W.keepIn K (.ref f3) = true)
    (a4 : PySem.W.nsIn K mainGlobals "check_within" = some (some (.ref f4))) (l4 : K.lookup f4 = some ⟨oc4, od4, .func (PySem.W.fnOf "check_within" "check_within" (defArgs s_check_within) (defBody s_check_within) (defScope s_check_within) .none kV4 dc4 pm4 an4 cd4 ct4), sl4⟩) (c4 : PySem.W.codeIn K cd4 "check_within" = true) (k4 : PySem.W.keepIn K (.ref f4) = true)
    (a5 : PySem.W.nsIn K mainGlobals "check_base" = some (some (.ref f5))) (l5 : K.lookup f5 = some ⟨oc5, od5, .func (PySem.W.fnOf "check_base" "check_base" (defArgs s_check_base) (defBody s_check_base) (defScope s_check_base) .none kV5 dc5 pm5 an5 cd5 ct5), sl5⟩) (c5 : PySem.W.codeIn K cd5 "check_base" = true) (k5 : PySem.W.keepIn K (.ref f5) = true)
    (a6 : PySem.W.nsIn K mainGlobals "is_sum" = some (some (.ref f6))) (l6 : K.lookup f6 = some ⟨oc6, od6, .func (PySem.W.fnOf "is_sum" "is_sum" (defArgs s_is_sum) (defBody s_is_sum) (defScope s_is_sum) .none kV6 dc6 pm6 an6 cd6 ct6), sl6⟩) (c6 : PySem.W.codeIn K cd6 "is_sum" = true) (k6 : PySem.W.keepIn K (.ref f6) = true)
    (a7 : PySem.W.nsIn K mainGlobals "is_coefficient" = some (some (.ref f7))) (l7 : K.lookup f7 = some ⟨oc7, od7, .func (PySem.W.fnOf "is_coefficient" "is_coefficient" (defArgs s_is_coefficient) (defBody s_is_coefficient) (defScope s_is_coefficient) .none kV7 dc7 pm7 an7 cd7 ct7), sl7⟩) (c7 : PySem.W.codeIn K cd7 "is_coefficient" = true) (k7 : PySem.W.keepIn K (.ref f7) = true)
    (a8 : PySem.W.nsIn K mainGlobals "check_sum" = some (some (.ref f8))) (l8 : K.lookup f8 = some ⟨oc8, od8, .func (PySem.W.fnOf "check_sum" "check_sum" (defArgs s_check_sum) (defBody s_check_sum) (defScope s_check_sum) .none kV8 dc8 pm8 an8 cd8 ct8), sl8⟩) (c8 : PySem.W.codeIn K cd8 "check_sum" = true) (k8 : PySem.W.keepIn K (.ref f8) = true)
    (a9 : PySem.W.nsIn K mainGlobals "trimmed" = some (some (.ref f9))) (l9 : K.lookup f9 = some ⟨oc9, od9, .func (PySem.W.fnOf "trimmed" "trimmed" (defArgs s_trimmed) (defBody s_trimmed) (defScope s_trimmed) .none kV9 dc9 pm9 an9 cd9 ct9), sl9⟩) (c9 : PySem.W.codeIn K cd9 "trimmed" = true) (k9 : PySem.W.keepIn K (.ref f9) = true)
    (a10 : PySem.W.nsIn K mainGlobals "steps_of" = some (some (.ref f10))) (l10 : K.lookup f10 = some ⟨oc10, od10, .func (PySem.W.fnOf "steps_of" "steps_of" (defArgs s_steps_of) (defBody s_steps_of) (defScope s_steps_of) .none kV10 dc10 pm10 an10 cd10 ct10), sl10⟩) (c10 : PySem.W.codeIn K cd10 "steps_of" = true) (k10 : PySem.W.keepIn K (.ref f10) = true)
    (a11 : PySem.W.nsIn K mainGlobals "ranges_of" = some (some (.ref f11))) (l11 : K.lookup f11 = some ⟨oc11, od11, .func (PySem.W.fnOf "ranges_of" "ranges_of" (defArgs s_ranges_of) (defBody s_ranges_of) (defScope s_ranges_of) .none kV11 dc11 pm11 an11 cd11 ct11), sl11⟩) (c11 : PySem.W.codeIn K cd11 "ranges_of" = true) (k11 : PySem.W.keepIn K (.ref f11) = true)
    (a12 : PySem.W.nsIn K mainGlobals "form_of_sum" = some (some (.ref f12))) (l12 : K.lookup f12 = some ⟨oc12, od12, .func (PySem.W.fnOf "form_of_sum" "form_of_sum" (defArgs s_form_of_sum) (defBody s_form_of_sum) (defScope s_form_of_sum) .none kV12 dc12 pm12 an12 cd12 ct12), sl12⟩) (c12 : PySem.W.codeIn K cd12 "form_of_sum" = true) (k12 : PySem.W.keepIn K (.ref f12) = true)
    (a13 : PySem.W.nsIn K mainGlobals "form_of_rests" = some (some (.ref f13))) (l13 : K.lookup f13 = some ⟨oc13, od13, .func (PySem.W.fnOf "form_of_rests" "form_of_rests" (defArgs s_form_of_rests) (defBody s_form_of_rests) (defScope s_form_of_rests) .none kV13 dc13 pm13 an13 cd13 ct13), sl13⟩) (c13 : PySem.W.codeIn K cd13 "form_of_rests" = true) (k13 : PySem.W.keepIn K (.ref f13) = true)
    (a14 : PySem.W.nsIn K mainGlobals "_differences" = some (some (.ref f14))) (l14 : K.lookup f14 = some ⟨oc14, od14, .func (PySem.W.fnOf "_differences" "_differences" (defArgs s__differences) (defBody s__differences) (defScope s__differences) .none kV14 dc14 pm14 an14 cd14 ct14), sl14⟩) (c14 : PySem.W.codeIn K cd14 "_differences" = true) (k14 : PySem.W.keepIn K (.ref f14) = true)
    (a15 : PySem.W.nsIn K mainGlobals "least_form" = some (some (.ref f15))) (l15 : K.lookup f15 = some ⟨oc15, od15, .func (PySem.W.fnOf "least_form" "least_form" (defArgs s_least_form) (defBody s_least_form) (defScope s_least_form) .none kV15 dc15 pm15 an15 cd15 ct15), sl15⟩) (c15 : PySem.W.codeIn K cd15 "least_form" = true) (k15 : PySem.W.keepIn K (.ref f15) = true)
    (a16 : PySem.W.nsIn K mainGlobals "is_table" = some (some (.ref f16))) (l16 : K.lookup f16 = some ⟨oc16, od16, .func (PySem.W.fnOf "is_table" "is_table" (defArgs s_is_table) (defBody s_is_table) (defScope s_is_table) .none kV16 dc16 pm16 an16 cd16 ct16), sl16⟩) (c16 : PySem.W.codeIn K cd16 "is_table" = true) (k16 : PySem.W.keepIn K (.ref f16) = true)
    (a17 : PySem.W.nsIn K mainGlobals "form_of_table" = some (some (.ref f17))) (l17 : K.lookup f17 = some ⟨oc17, od17, .func (PySem.W.fnOf "form_of_table" "form_of_table" (defArgs s_form_of_table) (defBody s_form_of_table) (defScope s_form_of_table) .none kV17 dc17 pm17 an17 cd17 ct17), sl17⟩) (c17 : PySem.W.codeIn K cd17 "form_of_table" = true) (k17 : PySem.W.keepIn K (.ref f17) = true)
    (a18 : PySem.W.nsIn K mainGlobals "check_table" = some (some (.ref f18))) (l18 : K.lookup f18 = some ⟨oc18, od18, .func (PySem.W.fnOf "check_table" "check_table" (defArgs s_check_table) (defBody s_check_table) (defScope s_check_table) .none kV18 dc18 pm18 an18 cd18 ct18), sl18⟩) (c18 : PySem.W.codeIn K cd18 "check_table" = true) (k18 : PySem.W.keepIn K (.ref f18) = true)
    (a19 : PySem.W.nsIn K mainGlobals "_law_cask" = some (some (.ref f19))) (l19 : K.lookup f19 = some ⟨oc19, od19, .func (PySem.W.fnOf "_law_cask" "_law_cask" (defArgs s__law_cask) (defBody s__law_cask) (defScope s__law_cask) .none kV19 dc19 pm19 an19 cd19 ct19), sl19⟩) (c19 : PySem.W.codeIn K cd19 "_law_cask" = true) (k19 : PySem.W.keepIn K (.ref f19) = true)
    (a20 : PySem.W.nsIn K mainGlobals "_law_tap" = some (some (.ref f20))) (l20 : K.lookup f20 = some ⟨oc20, od20, .func (PySem.W.fnOf "_law_tap" "_law_tap" (defArgs s__law_tap) (defBody s__law_tap) (defScope s__law_tap) .none kV20 dc20 pm20 an20 cd20 ct20), sl20⟩) (c20 : PySem.W.codeIn K cd20 "_law_tap" = true) (k20 : PySem.W.keepIn K (.ref f20) = true)
    (a21 : PySem.W.nsIn K mainGlobals "_law_row" = some (some (.ref f21))) (l21 : K.lookup f21 = some ⟨oc21, od21, .func (PySem.W.fnOf "_law_row" "_law_row" (defArgs s__law_row) (defBody s__law_row) (defScope s__law_row) .none kV21 dc21 pm21 an21 cd21 ct21), sl21⟩) (c21 : PySem.W.codeIn K cd21 "_law_row" = true) (k21 : PySem.W.keepIn K (.ref f21) = true)
    (a22 : PySem.W.nsIn K mainGlobals "_law_at" = some (some (.ref f22))) (l22 : K.lookup f22 = some ⟨oc22, od22, .func (PySem.W.fnOf "_law_at" "_law_at" (defArgs s__law_at) (defBody s__law_at) (defScope s__law_at) .none kV22 dc22 pm22 an22 cd22 ct22), sl22⟩) (c22 : PySem.W.codeIn K cd22 "_law_at" = true) (k22 : PySem.W.keepIn K (.ref f22) = true)
    (a23 : PySem.W.nsIn K mainGlobals "_law_table" = some (some (.ref f23))) (l23 : K.lookup f23 = some ⟨oc23, od23, .func (PySem.W.fnOf "_law_table" "_law_table" (defArgs s__law_table) (defBody s__law_table) (defScope s__law_table) .none kV23 dc23 pm23 an23 cd23 ct23), sl23⟩) (c23 : PySem.W.codeIn K cd23 "_law_table" = true) (k23 : PySem.W.keepIn K (.ref f23) = true)
    (a24 : PySem.W.nsIn K mainGlobals "_law_fall" = some (some (.ref f24))) (l24 : K.lookup f24 = some ⟨oc24, od24, .func (PySem.W.fnOf "_law_fall" "_law_fall" (defArgs s__law_fall) (defBody s__law_fall) (defScope s__law_fall) .none kV24 dc24 pm24 an24 cd24 ct24), sl24⟩) (c24 : PySem.W.codeIn K cd24 "_law_fall" = true) (k24 : PySem.W.keepIn K (.ref f24) = true)
    (a25 : PySem.W.nsIn K mainGlobals "_law_gcd" = some (some (.ref f25))) (l25 : K.lookup f25 = some ⟨oc25, od25, .func (PySem.W.fnOf "_law_gcd" "_law_gcd" (defArgs s__law_gcd) (defBody s__law_gcd) (defScope s__law_gcd) .none kV25 dc25 pm25 an25 cd25 ct25), sl25⟩) (c25 : PySem.W.codeIn K cd25 "_law_gcd" = true) (k25 : PySem.W.keepIn K (.ref f25) = true)
    (a26 : PySem.W.nsIn K mainGlobals "_law_sizes" = some (some (.ref f26))) (l26 : K.lookup f26 = some ⟨oc26, od26, .func (PySem.W.fnOf "_law_sizes" "_law_sizes" (defArgs s__law_sizes) (defBody s__law_sizes) (defScope s__law_sizes) .none kV26 dc26 pm26 an26 cd26 ct26), sl26⟩) (c26 : PySem.W.codeIn K cd26 "_law_sizes" = true) (k26 : PySem.W.keepIn K (.ref f26) = true)
    (a27 : PySem.W.nsIn K mainGlobals "_law_steps_of" = some (some (.ref f27))) (l27 : K.lookup f27 = some ⟨oc27, od27, .func (PySem.W.fnOf "_law_steps_of" "_law_steps_of" (defArgs s__law_steps_of) (defBody s__law_steps_of) (defScope s__law_steps_of) .none kV27 dc27 pm27 an27 cd27 ct27), sl27⟩) (c27 : PySem.W.codeIn K cd27 "_law_steps_of" = true) (k27 : PySem.W.keepIn K (.ref f27) = true)
    (a28 : PySem.W.nsIn K mainGlobals "_law_cut" = some (some (.ref f28))) (l28 : K.lookup f28 = some ⟨oc28, od28, .func (PySem.W.fnOf "_law_cut" "_law_cut" (defArgs s__law_cut) (defBody s__law_cut) (defScope s__law_cut) .none kV28 dc28 pm28 an28 cd28 ct28), sl28⟩) (c28 : PySem.W.codeIn K cd28 "_law_cut" = true) (k28 : PySem.W.keepIn K (.ref f28) = true)
    (a29 : PySem.W.nsIn K mainGlobals "_law_right" = some (some (.ref f29))) (l29 : K.lookup f29 = some ⟨oc29, od29, .func (PySem.W.fnOf "_law_right" "_law_right" (defArgs s__law_right) (defBody s__law_right) (defScope s__law_right) .none kV29 dc29 pm29 an29 cd29 ct29), sl29⟩) (c29 : PySem.W.codeIn K cd29 "_law_right" = true) (k29 : PySem.W.keepIn K (.ref f29) = true)
    (a30 : PySem.W.nsIn K mainGlobals "law" = some (some (.ref f30))) (l30 : K.lookup f30 = some ⟨oc30, od30, .func (PySem.W.fnOf "law" "law" (defArgs s_law) (defBody s_law) (defScope s_law) .none kV30 dc30 pm30 an30 cd30 ct30), sl30⟩) (c30 : PySem.W.codeIn K cd30 "law" = true) (k30 : PySem.W.keepIn K (.ref f30) = true)
    (m_gcd : PySem.W.nsIn K mainGlobals "gcd" = some (some (.builtin "math.gcd")))
    (q_MOST_BASE : PySem.W.nsIn K mainGlobals "MOST_BASE" = some (some (.int (1000000000000) t_MOST_BASE)))
    (q_MOST_DEGREE : PySem.W.nsIn K mainGlobals "MOST_DEGREE" = some (some (.int (12) t_MOST_DEGREE)))
    (q_MOST_COEFFICIENT : PySem.W.nsIn K mainGlobals "MOST_COEFFICIENT" = some (some (.int (1000000000000) t_MOST_COEFFICIENT)))
    (q_MOST_TABLE : PySem.W.nsIn K mainGlobals "MOST_TABLE" = some (some (.int (1000) t_MOST_TABLE)))
    (b_abs : PySem.W.nsIn K mainGlobals "abs" = some none)
    (b_all : PySem.W.nsIn K mainGlobals "all" = some none)
    (b_bool : PySem.W.nsIn K mainGlobals "bool" = some none)
    (b_divmod : PySem.W.nsIn K mainGlobals "divmod" = some none)
    (b_enumerate : PySem.W.nsIn K mainGlobals "enumerate" = some none)
    (b_int : PySem.W.nsIn K mainGlobals "int" = some none)
    (b_isinstance : PySem.W.nsIn K mainGlobals "isinstance" = some none)
    (b_len : PySem.W.nsIn K mainGlobals "len" = some none)
    (b_list : PySem.W.nsIn K mainGlobals "list" = some none)
    (b_max : PySem.W.nsIn K mainGlobals "max" = some none)
    (b_min : PySem.W.nsIn K mainGlobals "min" = some none)
    (b_range : PySem.W.nsIn K mainGlobals "range" = some none)
    (b_tuple : PySem.W.nsIn K mainGlobals "tuple" = some none)
    (b_zip : PySem.W.nsIn K mainGlobals "zip" = some none) : Top K mg where
  d_bezout := ⟨_, _, fun_mk (st := s_bezout) l0 c0 k0, PySem.W.mg_of X G a0⟩
  d_inverse := ⟨_, _, fun_mk (st := s_inverse) l1 c1 k1, PySem.W.mg_of X G a1⟩
  d_is_integer := ⟨_, _, fun_mk (st := s_is_integer) l2 c2 k2, PySem.W.mg_of X G a2⟩
  d_is_within := ⟨_, _, fun_mk (st := s_is_within) l3 c3 k3, PySem.W.mg_of X G a3⟩
  d_check_within := ⟨_, _, fun_mk (st := s_check_within) l4 c4 k4, PySem.W.mg_of X G a4⟩
  d_check_base := ⟨_, _, fun_mk (st := s_check_base) l5 c5 k5, PySem.W.mg_of X G a5⟩
  d_is_sum := ⟨_, _, fun_mk (st := s_is_sum) l6 c6 k6, PySem.W.mg_of X G a6⟩
  d_is_coefficient := ⟨_, _, fun_mk (st := s_is_coefficient) l7 c7 k7, PySem.W.mg_of X G a7⟩
  d_check_sum := ⟨_, _, fun_mk (st := s_check_sum) l8 c8 k8, PySem.W.mg_of X G a8⟩
  d_trimmed := ⟨_, _, fun_mk (st := s_trimmed) l9 c9 k9, PySem.W.mg_of X G a9⟩
  d_steps_of := ⟨_, _, fun_mk (st := s_steps_of) l10 c10 k10, PySem.W.mg_of X G a10⟩
  d_ranges_of := ⟨_, _, fun_mk (st := s_ranges_of) l11 c11 k11, PySem.W.mg_of X G a11⟩
  d_form_of_sum := ⟨_, _, fun_mk (st := s_form_of_sum) l12 c12 k12, PySem.W.mg_of X G a12⟩
  d_form_of_rests := ⟨_, _, fun_mk (st := s_form_of_rests) l13 c13 k13, PySem.W.mg_of X G a13⟩
  d__differences := ⟨_, _, fun_mk (st := s__differences) l14 c14 k14, PySem.W.mg_of X G a14⟩
  d_least_form := ⟨_, _, fun_mk (st := s_least_form) l15 c15 k15, PySem.W.mg_of X G a15⟩
  d_is_table := ⟨_, _, fun_mk (st := s_is_table) l16 c16 k16, PySem.W.mg_of X G a16⟩
  d_form_of_table := ⟨_, _, fun_mk (st := s_form_of_table) l17 c17 k17, PySem.W.mg_of X G a17⟩
  d_check_table := ⟨_, _, fun_mk (st := s_check_table) l18 c18 k18, PySem.W.mg_of X G a18⟩
  d__law_cask := ⟨_, _, fun_mk (st := s__law_cask) l19 c19 k19, PySem.W.mg_of X G a19⟩
  d__law_tap := ⟨_, _, fun_mk (st := s__law_tap) l20 c20 k20, PySem.W.mg_of X G a20⟩
  d__law_row := ⟨_, _, fun_mk (st := s__law_row) l21 c21 k21, PySem.W.mg_of X G a21⟩
  d__law_at := ⟨_, _, fun_mk (st := s__law_at) l22 c22 k22, PySem.W.mg_of X G a22⟩
  d__law_table := ⟨_, _, fun_mk (st := s__law_table) l23 c23 k23, PySem.W.mg_of X G a23⟩
  d__law_fall := ⟨_, _, fun_mk (st := s__law_fall) l24 c24 k24, PySem.W.mg_of X G a24⟩
  d__law_gcd := ⟨_, _, fun_mk (st := s__law_gcd) l25 c25 k25, PySem.W.mg_of X G a25⟩
  d__law_sizes := ⟨_, _, fun_mk (st := s__law_sizes) l26 c26 k26, PySem.W.mg_of X G a26⟩
  d__law_steps_of := ⟨_, _, fun_mk (st := s__law_steps_of) l27 c27 k27, PySem.W.mg_of X G a27⟩
  d__law_cut := ⟨_, _, fun_mk (st := s__law_cut) l28 c28 k28, PySem.W.mg_of X G a28⟩
  d__law_right := ⟨_, _, fun_mk (st := s__law_right) l29 c29 k29, PySem.W.mg_of X G a29⟩
  d_law := ⟨_, _, fun_mk (st := s_law) l30 c30 k30, PySem.W.mg_of X G a30⟩
  m_gcd := PySem.W.mg_of X G m_gcd
  c_MOST_BASE := ⟨_, PySem.W.mg_of X G q_MOST_BASE⟩
  c_MOST_DEGREE := ⟨_, PySem.W.mg_of X G q_MOST_DEGREE⟩
  c_MOST_COEFFICIENT := ⟨_, PySem.W.mg_of X G q_MOST_COEFFICIENT⟩
  c_MOST_TABLE := ⟨_, PySem.W.mg_of X G q_MOST_TABLE⟩
  b_abs := PySem.W.mg_none_of X G b_abs
  b_all := PySem.W.mg_none_of X G b_all
  b_bool := PySem.W.mg_none_of X G b_bool
  b_divmod := PySem.W.mg_none_of X G b_divmod
  b_enumerate := PySem.W.mg_none_of X G b_enumerate
  b_int := PySem.W.mg_none_of X G b_int
  b_isinstance := PySem.W.mg_none_of X G b_isinstance
  b_len := PySem.W.mg_none_of X G b_len
  b_list := PySem.W.mg_none_of X G b_list
  b_max := PySem.W.mg_none_of X G b_max
  b_min := PySem.W.mg_none_of X G b_min
  b_range := PySem.W.mg_none_of X G b_range
  b_tuple := PySem.W.mg_none_of X G b_tuple
  b_zip := PySem.W.mg_none_of X G b_zip
local macro_rules | `(tactic| walk_at "vat") => `(tactic| first
  | assumption
  | exact upd_same
  | (refine at_new (by assumption) ?_; walk_at "vat")
  | (refine at_same (by assumption) ?_; walk_at "vat")
  | (refine at_ne (by first | assumption | exact Ne.symm (by assumption)) ?_; walk_at "vat")
  | (refine at_kx (by assumption) (by first | assumption | exact Ne.symm (by assumption)) ?_; walk_at "vat"))
local macro_rules | `(tactic| walk_at "vsq") => `(tactic| first
  | assumption
  | (exact SqL.of (by walk_at "vat"))
  | (exact SqT.of (by walk_at "vat"))
  | (refine new_list (by assumption) ?_; walk_at "vsq")
  | (refine new_tup (by assumption) ?_; walk_at "vsq")
  | (refine Same.list (by assumption) ?_; walk_at "vsq")
  | (refine Same.tup (by assumption) ?_; walk_at "vsq")
  | (refine ne_list (by first | assumption | exact Ne.symm (by assumption)) ?_; walk_at "vsq")
  | (refine ne_tup (by first | assumption | exact Ne.symm (by assumption)) ?_; walk_at "vsq")
  | (refine Kx.list (by assumption) (by first | assumption | exact Ne.symm (by assumption)) ?_; walk_at "vsq")
  | (refine Kx.tup (by assumption) (by first | assumption | exact Ne.symm (by assumption)) ?_; walk_at "vsq"))
local macro_rules | `(tactic| walk_at "vsame") => `(tactic| first
  | exact Same.refl _
  | assumption
  | (refine Same.trans ?_ (Same.new (by assumption)); walk_at "vsame")
  | (refine Same.trans ?_ (by assumption); walk_at "vsame"))
local macro_rules | `(tactic| walk_at "vnone") => `(tactic| first
  | assumption
  | (refine none_up (by assumption))
  | (refine none_same (by assumption) ?_; walk_at "vnone"))
local macro_rules | `(tactic| walk_at "s") => `(tactic| first
  | (with_reducible refine r_seq ?_)
  | (with_reducible refine r_asg ?_)
  | (with_reducible refine r_name ?_)
  | ((with_reducible refine r_var (v := ?kv) ?k1 ?_); (case k1 => exact rfl))
  | (with_reducible refine r_c ?_)
  | (with_reducible refine r_yes ?_)
  | (with_reducible refine r_op ?_)
  | (with_reducible refine r_un ?_)
  | (with_reducible refine r_rI0 ?_)
  | (with_reducible refine r_rU ?_)
  | (with_reducible refine r_test ?_)
  | (with_reducible refine r_B ?_)
  | (with_reducible refine r_ret ?_)
  | (with_reducible refine r_drop ?_)
  | (with_reducible refine r_cons ?_)
  | (with_reducible refine r_nil ?_)
  | (with_reducible refine r_call ?_)
  | (with_reducible refine r_callK ?_)
  | (with_reducible refine r_cb ?_)
  | (with_reducible refine r_tup ?_)
  | (with_reducible refine r_lst ?_)
  | (with_reducible refine r_and ?_)
  | (with_reducible refine r_or ?_)
  | (with_reducible refine r_not ?_)
  | (with_reducible refine r_andV ?_)
  | (with_reducible refine r_orV ?_)
  | (with_reducible refine r_notV ?_)
  | (with_reducible refine r_chain ?_)
  | (with_reducible refine r_gcd ?_)
  | (with_reducible refine r_abs ?_)
  | (with_reducible refine r_max2 ?_)
  | (with_reducible refine r_min2 ?_)
  | (with_reducible refine r_int1 ?_)
  | ((with_reducible refine r_lenL (xs := ?kx) ?k1 ?_); (case k1 => walk_at "vsq"))
  | ((with_reducible refine r_lenT (xs := ?kx) ?k1 ?_); (case k1 => walk_at "vsq"))
  | (with_reducible refine is_int_int ?_)
  | (with_reducible refine is_int_bool ?_)
  | (with_reducible refine is_int_tuple ?_)
  | (with_reducible refine is_int_list ?_)
  | (with_reducible refine is_int_str ?_)
  | (with_reducible refine is_bool_int ?_)
  | (with_reducible refine is_bool_bool ?_)
  | (with_reducible refine is_bool_tuple ?_)
  | (with_reducible refine is_bool_list ?_)
  | (with_reducible refine is_bool_str ?_)
  | (with_reducible refine is_NoneType_int ?_)
  | (with_reducible refine is_NoneType_bool ?_)
  | (with_reducible refine is_NoneType_tuple ?_)
  | (with_reducible refine is_NoneType_list ?_)
  | (with_reducible refine is_NoneType_str ?_)
  | (with_reducible refine is_str_int ?_)
  | (with_reducible refine is_str_bool ?_)
  | (with_reducible refine is_str_tuple ?_)
  | (with_reducible refine is_str_list ?_)
  | (with_reducible refine is_str_str ?_)
  | ((with_reducible refine is_tuple_int (xs := ?kx) ?k1 ?_); (case k1 => walk_at "vat"))
  | ((with_reducible refine is_tuple_bool (xs := ?kx) ?k1 ?_); (case k1 => walk_at "vat"))
  | ((with_reducible refine is_tuple_tuple (xs := ?kx) ?k1 ?_); (case k1 => walk_at "vat"))
  | ((with_reducible refine is_tuple_list (xs := ?kx) ?k1 ?_); (case k1 => walk_at "vat"))
  | ((with_reducible refine is_tuple_str (xs := ?kx) ?k1 ?_); (case k1 => walk_at "vat"))
  | ((with_reducible refine is_list_int (xs := ?kx) ?k1 ?_); (case k1 => walk_at "vat"))
  | ((with_reducible refine is_list_bool (xs := ?kx) ?k1 ?_); (case k1 => walk_at "vat"))
  | ((with_reducible refine is_list_tuple (xs := ?kx) ?k1 ?_); (case k1 => walk_at "vat"))
  | ((with_reducible refine is_list_list (xs := ?kx) ?k1 ?_); (case k1 => walk_at "vat"))
  | ((with_reducible refine is_list_str (xs := ?kx) ?k1 ?_); (case k1 => walk_at "vat"))
  | (with_reducible refine r_par ?_)
  | (with_reducible refine r_par3 ?_)
  | ((with_reducible refine r_aug (x := ?kv) ?k1 ?_); (case k1 => exact rfl))
  | (with_reducible refine r_ip ?_)
  | (with_reducible refine r_gsub ?_)
  | ((with_reducible refine r_gtup (xs := ?kx) ?k1 ?k2 ?_); (case k1 => walk_at "vsq"); (case k2 => exact rfl))
  | (with_reducible refine r_gcons ?_)
  | (with_reducible refine And.intro (small (Nat.le_of_ble_eq_true rfl)) (fun _ _ => ?_))
  | (with_reducible refine r_gnil ?_)
  | (with_reducible refine And.intro (Exists.intro _ (by walk_at "vsq")) ?_)
  | (with_reducible refine r_wb ?_)
  | (with_reducible refine r_for1 ?_)
  | (with_reducible refine r_for2 ?_)
  | (with_reducible refine r_forL ?_)
  | (with_reducible refine r_forT ?_)
  | (with_reducible refine r_lcR1 ?_)
  | (with_reducible refine r_lcR2 ?_)
  | (with_reducible refine r_lcL ?_)
  | (with_reducible refine r_lcT ?_)
  | (with_reducible refine r_lcZ3i ?_)
  | (with_reducible refine r_sl ?_)
  | (with_reducible refine r_noPart ?_)
  | (with_reducible refine r_part ?_)
  | (with_reducible refine r_forE ?_)
  | (with_reducible refine r_forZn ?_)
  | (with_reducible refine r_forZa ?_)
  | (with_reducible refine tru_int ?_)
  | (with_reducible refine r_bm ?_)
  | (with_reducible refine r_lc2R1 ?_)
  | (with_reducible refine r_next ?_)
  | (with_reducible refine r_break ?_)
  | (with_reducible refine r_cont ?_)
  | (with_reducible refine r_retN ?_)
  | (with_reducible refine Exists.intro _ (And.intro rfl ?_))
  | (with_reducible refine Exists.intro _ (Exists.intro _ (And.intro rfl ?_)))
  | (with_reducible refine Exists.intro _ (Exists.intro _ (And.intro rfl (And.intro rfl ?_))))
  | (with_reducible refine Exists.intro _ (Exists.intro _ (Exists.intro _ (And.intro rfl ?_))))
  | (with_reducible refine ifTT ?_)
  | (with_reducible refine ifFF ?_)
  | (with_reducible refine ifNT ?_)
  | (with_reducible refine ifNF ?_)
  | dsimp only)
local macro_rules | `(tactic| walk_at "go") => `(tactic| repeat walk_at "s")
local macro_rules | `(tactic| walk_at "gi") => `(tactic| repeat first | walk_at "s" | (with_reducible refine r_if ?_) | (with_reducible refine r_ifE ?_))
local macro_rules | `(tactic| walk_at "sti") => `(tactic| ((try dsimp only [cxOf]); walk_at "gi"))
local macro_rules | `(tactic| walk_at "st") => `(tactic| ((try dsimp only [cxOf]); walk_at "go"))
section
variable {P : Program} {w : World} {K : PySem.W.Frag} {mg : Str → Option Value} {base : Heap}
def sp_is_integer : Sp := fun vs H Q _ => ∃ i : Int, vs = [.int i] ∧ Q (.bl true) H
theorem ok_is_integer (T : Top K mg) : Ok P w K mg base 1 "is_integer" s_is_integer ["given"] sp_is_integer := by
  refine T.d_is_integer.ok sc_is_integer (fun vs H Q E h => ?_) (fun f cdv A outer s H vs Q E hg hr h => ?_)
  · obtain ⟨i, rfl, _⟩ := h
    rfl
  · obtain ⟨i, rfl, q⟩ := h
    refine ⟨_, (pss_one (ps_ret (pe_and (pe_callB (id := "isinstance") (c_isi rfl) (by rfl) T.b_isinstance (by decide +kernel) (pa_cons (pv 0) (pa_cons (pe_bltn (v := .ty "int") (by rfl) T.b_int (by decide +kernel) rfl) pa_nil))) (pe_one (pe_not (pe_callB (id := "isinstance") (c_isi rfl) (by rfl) T.b_isinstance (by decide +kernel) (pa_cons (pv 0) (pa_cons (pe_bltn (v := .ty "bool") (by rfl) T.b_bool (by decide +kernel) rfl) pa_nil)))))))), ?_⟩
    walk_at "sti"
    exact q
def sp_is_within : Sp := fun vs H Q _ => ∃ i a b : Int, vs = [.int i, .int a, .int b] ∧ Q (.bl (decide (a ≤ i ∧ i ≤ b))) H
theorem ok_is_within (T : Top K mg) : Ok P w K mg base 2 "is_within" s_is_within ["given", "least", "most"] sp_is_within := by
  have G_is_integer := ok_is_integer (P := P) (w := w) (base := base) T
  refine T.d_is_within.ok sc_is_within (fun vs H Q E h => ?_) (fun f cdv A outer s H vs Q E hg hr h => ?_)
  · obtain ⟨i, a, b, rfl, _⟩ := h
    rfl
  · obtain ⟨i, a, b, rfl, q⟩ := h
    refine ⟨_, (pss_one (ps_ret (pe_and (pe_g G_is_integer (fun _ _ F => bd_is_integer F) hg (hr.mono (by decide)) passL (by rfl) (pa_cons (pv 0) pa_nil)) (pe_one (pe_chain op_le op_le (pv 1) (pv 0) (pv 2)))))), ?_⟩
    walk_at "sti"
    refine ⟨i, rfl, ?_⟩
    walk_at "gi"
    refine ifd (fun c => ?_) (fun c => ?_)
    · walk_at "gi"
      rw [show decide (i ≤ b) = decide (a ≤ i ∧ i ≤ b) by simp [c]]
      exact q
    · rw [show decide (a ≤ i ∧ i ≤ b) = false by simp [c]] at q
      exact q
def sp_check_within : Sp := fun vs H Q _ => ∃ i a b : Int, vs = [.int i, .int a, .int b] ∧ a ≤ i ∧ i ≤ b ∧ Q .non H
theorem ok_check_within (T : Top K mg) : Ok P w K mg base 3 "check_within" s_check_within ["given", "least", "most"] sp_check_within := by
  have G_is_within := ok_is_within (P := P) (w := w) (base := base) T
  refine T.d_check_within.ok sc_check_within (fun vs H Q E h => ?_) (fun f cdv A outer s H vs Q E hg hr h => ?_)
  · obtain ⟨i, a, b, rfl, _⟩ := h
    rfl
  · obtain ⟨i, a, b, rfl, h1, h2, q⟩ := h
    refine ⟨_, (pss_one (ps_if (pt_not (pt_val (pe_g G_is_within (fun _ _ F => bd_is_within F) hg (hr.mono (by decide)) passL (by rfl) (pa_cons (pv 0) (pa_cons (pv 1) (pa_cons (pv 2) pa_nil)))))) (pss_one ps_never) pss_nil)), ?_⟩
    walk_at "sti"
    refine ⟨i, a, b, rfl, ?_⟩
    rw [decide_eq_true (show a ≤ i ∧ i ≤ b from ⟨h1, h2⟩)]
    walk_at "gi"
    exact q
def sp_check_base : Sp := fun vs H Q _ => ∃ i : Int, vs = [.int i] ∧ 1 ≤ i ∧ i ≤ 10 ^ 12 ∧ Q .non H
theorem ok_check_base (T : Top K mg) : Ok P w K mg base 4 "check_base" s_check_base ["given"] sp_check_base := by
  have G_check_within := ok_check_within (P := P) (w := w) (base := base) T
  refine T.d_check_base.ok sc_check_base (fun vs H Q E h => ?_) (fun f cdv A outer s H vs Q E hg hr h => ?_)
  · obtain ⟨i, rfl, _⟩ := h
    rfl
  · obtain ⟨i, rfl, h1, h2, q⟩ := h
    refine ⟨_, (pss_one (ps_expr (pe_g G_check_within (fun _ _ F => bd_check_within F) hg (hr.mono (by decide)) passL (by rfl) (pa_cons (pv 0) (pa_cons pe_int (pa_cons (pe_gi T.c_MOST_BASE (by rfl)) pa_nil)))))), ?_⟩
    walk_at "sti"
    exact ⟨i, _, _, rfl, h1, h2, q⟩
end
section
variable {P : Program} {w : World} {K : PySem.W.Frag} {mg : Str → Option Value} {base : Heap}
/-! ### sums -/
def NewS (f : Int → Int) (B d : Nat) (H : Hp) (Q : VK) : Prop := ∀ r p H', Same H H' → H r = none → H' r = some (.tup (p.map V.int)) → IsP p f B d → Q (.ref r) H'
def SumAt (K : PySem.W.Frag) (H : Hp) (a : Addr) (f : Int → Int) (B d : Nat) : Prop := ∃ p : List Int, SqT K H a (p.map V.int) ∧ IsP p f B d
theorem SumAt.same {H H' : Hp} {a : Addr} {f : Int → Int} {B d : Nat} (h : SumAt K H a f B d) (s : Same H H') : SumAt K H' a f B d := by
  obtain ⟨p, sv, hp⟩ := h
  exact ⟨p, Same.tup s sv, hp⟩
theorem SumAt.tt {H H' : Hp} {a : Addr} {f : Int → Int} {B d : Nat} (h : SumAt K H a f B d) (s : Tt H H') : SumAt K H' a f B d := by
  obtain ⟨p, sv, hp⟩ := h
  exact ⟨p, s K _ _ sv, hp⟩
theorem SumAt.mono {H : Hp} {a : Addr} {f : Int → Int} {B B' d d' : Nat} (h : SumAt K H a f B d) (hb : B ≤ B') (hd : d ≤ d') : SumAt K H a f B' d' := by
  obtain ⟨p, sv, hp⟩ := h
  exact ⟨p, sv, hp.mono hb hd⟩
theorem ints_at {p : List Int} {i : Nat} {v : V} (h : (p.map V.int)[i]? = some v) : ∃ c, p[i]? = some c ∧ v = V.int c := by
  rw [List.getElem?_map, Option.map_eq_some_iff] at h
  obtain ⟨c, e, h⟩ := h
  exact ⟨c, e, h.symm⟩
theorem ints_get {p : List Int} {i : Nat} {c : Int} (h : p[i]? = some c) : (p.map V.int)[i]? = some (V.int c) := by
  rw [List.getElem?_map, h]
  rfl
theorem ints_len (p : List Int) : (p.map V.int).length = p.length := List.length_map ..
theorem at_last {p : List Int} (h : p ≠ []) : atI (p.map V.int) (-1) = some (V.int (p.getD (p.length - 1) 0)) := by
  rcases List.eq_nil_or_concat p with e | ⟨r, c, e⟩
  · exact absurd e h
  · subst e
    rw [List.concat_eq_append, List.map_append]
    show atI (r.map V.int ++ [V.int c]) (-1) = _
    rw [atI_last, List.getD_eq_getElem?_getD]
    simp
def sp_is_coef : Sp := fun vs H Q _ => ∃ i : Int, vs = [.int i] ∧ i.natAbs ≤ 1000000000000 ∧ Q (.bl true) H
theorem ok_is_coefficient (T : Top K mg) : Ok P w K mg base 3 "is_coefficient" s_is_coefficient ["given"] sp_is_coef := by
  have G_is_within := ok_is_within (P := P) (w := w) (base := base) T
  refine T.d_is_coefficient.ok sc_is_coefficient (fun vs H Q E h => ?_) (fun f cdv A outer s H vs Q E hg hr h => ?_)
  · obtain ⟨i, rfl, _⟩ := h
    rfl
  · obtain ⟨i, rfl, h1, q⟩ := h
    refine ⟨_, (pss_one (ps_ret (pe_g G_is_within (fun _ _ F => bd_is_within F) hg (hr.mono (by decide)) passL (by rfl) (pa_cons (pv 0) (pa_cons (pe_un un_neg (pe_gi T.c_MOST_COEFFICIENT (by rfl))) (pa_cons (pe_gi T.c_MOST_COEFFICIENT (by rfl)) pa_nil)))))), ?_⟩
    walk_at "sti"
    refine ⟨i, _, _, rfl, ?_⟩
    rw [decide_eq_true (show -1000000000000 ≤ i ∧ i ≤ 1000000000000 from ⟨by omega, by omega⟩)]
    exact q
def Right (p : List Int) : Prop := Canon p ∧ p.length ≤ 13 ∧ l1 p ≤ 1000000000000
def sp_is_sum (K : PySem.W.Frag) : Sp := fun vs H Q _ => ∃ (a : Addr) (p : List Int), vs = [.ref a] ∧ SqT K H a (p.map V.int) ∧ Right p ∧ Q (.bl true) H
theorem ok_is_sum (T : Top K mg) : Ok P w K mg base 4 "is_sum" s_is_sum ["given"] (sp_is_sum K) := by
  have G_is_coefficient := ok_is_coefficient (P := P) (w := w) (base := base) T
  refine T.d_is_sum.ok sc_is_sum (fun vs H Q E h => ?_) (fun f cdv A outer s H vs Q E hg hr h => ?_)
  · obtain ⟨a, p, rfl, _⟩ := h
    rfl
  · obtain ⟨a, p, rfl, sv, ⟨hc, hl, hb⟩, q⟩ := h
    have h1 := hc.len
    refine ⟨_, (pss_cons (ps_if (PW.pt (pw_or (pt_not (pt_val (pe_callB (id := "isinstance") (c_isi rfl) (by rfl) T.b_isinstance (by decide +kernel) (pa_cons (pv 0) (pa_cons (pe_bltn (v := .ty "tuple") (by rfl) T.b_tuple (by decide +kernel) rfl) pa_nil))))) (pw_or1 (pt_not (pt_chain op_le op_le pe_int (pe_callB (id := "len") (c_len rfl) (by rfl) T.b_len (by decide +kernel) (pa_cons (pv 0) pa_nil)) (pe_op op_add (pe_gi T.c_MOST_DEGREE (by rfl)) pe_int)))))) (pss_one (ps_ret pe_bl)) pss_nil)
    (pss_cons (ps_for (passes_of rfl) rfl (i_tup' rfl (pv 0)) (pg_name (i := 1) sc_is_sum.nd rfl (.inl rfl)) (pss_one (ps_if (pt_not (pt_val (pe_g G_is_coefficient (fun _ _ F => bd_is_coefficient F) hg (hr.mono (by decide)) passL (by rfl) (pa_cons (pv 1) pa_nil)))) (pss_one (ps_ret pe_bl)) pss_nil)))
    (pss_one (ps_ret (pe_or (pe_cmpR op_neZ (pe_ix (x_tup rfl) (pv 0) (pe_un un_neg pe_int) (fun _ _ => rfl)) pe_int (nomark _)) (pe_one (pe_cmpR op_eqZ (pe_callB (id := "len") (c_len rfl) (by rfl) T.b_len (by decide +kernel) (pa_cons (pv 0) pa_nil)) pe_int (nomark _)))))))), ?_⟩
    walk_at "sti"
    refine is_T_T sv ?_
    walk_at "gi"
    rw [ints_len, decide_eq_true (show (1 : Int) ≤ (p.length : Int) by omega)]
    walk_at "gi"
    rw [decide_eq_true (show (p.length : Int) ≤ 12 + 1 by omega)]
    walk_at "gi"
    refine r_forTs (p.map V.int) (fun i σ H' => ∃ x1, σ = [some (.ref a), x1] ∧ H' = H) ⟨_, rfl, rfl⟩ (fun i σ H' hi hP => ?_) (fun i v σ H' hi hP => ?_) (fun σ H' hP => ?_)
    · obtain ⟨x1, rfl, rfl⟩ := hP
      exact sv
    · obtain ⟨x1, rfl, rfl⟩ := hP
      obtain ⟨c, ec, rfl⟩ := ints_at hi
      have := l1_mem (List.mem_of_getElem? ec)
      walk_at "gi"
      refine ⟨c, rfl, by omega, ?_⟩
      walk_at "gi"
    · obtain ⟨x1, rfl, rfl⟩ := hP
      walk_at "gi"
      refine r_ixT sv (at_last hc.1) ?_
      walk_at "gi"
      by_cases z : p.getD (p.length - 1) 0 = 0
      · rw [z, decide_eq_true (show (0 : Int) = 0 from rfl)]
        walk_at "gi"
        rw [ints_len, decide_eq_true (show (p.length : Int) = 1 by rcases hc.2 with k | k; omega; exact absurd z k)]
        exact q
      · rw [decide_eq_false z]
        walk_at "gi"
        exact q
def sp_check_sum (K : PySem.W.Frag) : Sp := fun vs H Q _ => ∃ (a : Addr) (p : List Int), vs = [.ref a] ∧ SqT K H a (p.map V.int) ∧ Right p ∧ Q .non H
theorem ok_check_sum (T : Top K mg) : Ok P w K mg base 5 "check_sum" s_check_sum ["given"] (sp_check_sum K) := by
  have G_is_sum := ok_is_sum (P := P) (w := w) (base := base) T
  refine T.d_check_sum.ok sc_check_sum (fun vs H Q E h => ?_) (fun f cdv A outer s H vs Q E hg hr h => ?_)
  · obtain ⟨a, p, rfl, _⟩ := h
    rfl
  · obtain ⟨a, p, rfl, sv, hR, q⟩ := h
    refine ⟨_, (pss_one (ps_if (pt_not (pt_val (pe_g G_is_sum (fun _ _ F => bd_is_sum F) hg (hr.mono (by decide)) passL (by rfl) (pa_cons (pv 0) pa_nil)))) (pss_one ps_never) pss_nil)), ?_⟩
    walk_at "sti"
    refine ⟨a, p, rfl, sv, hR, ?_⟩
    walk_at "gi"
    exact q
/-! ### coefficients -/
def sp_trimmed (K : PySem.W.Frag) : Sp := fun vs H Q _ => ∃ (l : Addr) (p : List Int), vs = [.ref l] ∧ SqL K H l (p.map V.int) ∧ p ≠ [] ∧ p.length ≤ 1000 ∧
  ∀ r a H', Same H H' → H a = none → H' a = some (.tup (r.map V.int)) → Canon r → (∀ x, pval r x = pval p x) → l1 r ≤ l1 p → r.length ≤ p.length → Q (.ref a) H'
theorem ok_trimmed (T : Top K mg) : Ok P w K mg base 1 "trimmed" s_trimmed ["terms"] (sp_trimmed K) := by
  refine T.d_trimmed.ok sc_trimmed (fun vs H Q E h => ?_) (fun f cdv A outer s H vs Q E hg hr h => ?_)
  · obtain ⟨l, p, rfl, _⟩ := h
    rfl
  · obtain ⟨l, p, rfl, sv, ne, hl, q⟩ := h
    have h1 : 1 ≤ p.length := by
      cases p with
      | nil => exact absurd rfl ne
      | cons c p => simp
    refine ⟨_, (pss_cons (ps_set (i := 1) sc_trimmed.nd rfl (.inl rfl) (pe_callB (id := "len") (c_len rfl) (by rfl) T.b_len (by decide +kernel) (pa_cons (pv 0) pa_nil)))
    (pss_cons (ps_while (passes_of rfl) (PW.pt (pw_and (pt_cmpR op_gt (pv 1) pe_int (nomark _)) (pw_and1 (pt_cmpR op_eqZ (pe_ix (x_list rfl) (pv 0) (pe_op op_sub (pv 1) pe_int) (fun _ _ => rfl)) pe_int (nomark _))))) (pss_one (ps_aug (i := 1) sc_trimmed.nd rfl (.inl rfl) pe_int ip_sub)))
    (pss_one (ps_ret (pe_callTy (T := "tuple") (c_tuple rfl) (by rfl) T.b_tuple (by decide +kernel) (pa_cons (pe_slice (s_list rfl) (pv 0) po_none (po_some (pv 1))) pa_nil)))))), ?_⟩
    walk_at "sti"
    rw [ints_len]
    refine r_while (fun m σ H' => σ = [some (.ref l), some (.int (m : Int))] ∧ H' = H ∧ 1 ≤ m ∧ m ≤ p.length ∧ ∀ x, pval (p.take m) x = pval p x) p.length ⟨rfl, rfl, h1, Nat.le_refl _, fun x => by rw [List.take_length]⟩ fun m σ H' hW => ?_
    obtain ⟨rfl, rfl, m1, ml, hv⟩ := hW
    walk_at "gi"
    have stop : (m = 1 ∨ p.getD (m - 1) 0 ≠ 0) → Canon (p.take m) := fun hs => by
      have el : (p.take m).length = m := by rw [List.length_take]; omega
      refine ⟨fun e => by rw [e] at el; simp at el; omega, ?_⟩
      rw [el]
      rcases hs with k | k
      · exact .inl k
      · refine .inr ?_
        rw [List.getD_eq_getElem?_getD, List.getElem?_take_of_lt (by omega), ← List.getD_eq_getElem?_getD]
        exact k
    have fin : Canon (p.take m) → ∀ Q' : VK, (∀ r a H'', Same H' H'' → H' a = none → H'' a = some (.tup (r.map V.int)) → Canon r → (∀ x, pval r x = pval p x) → l1 r ≤ l1 p → r.length ≤ p.length → Q' (.ref a) H'') →
        ∀ b, H' b = none → ∀ a, upd H' b (.lst ((p.take m).map V.int)) a = none → Q' (.ref a) (upd (upd H' b (.lst ((p.take m).map V.int))) a (.tup ((p.take m).map V.int))) := fun hc Q' q' b hb a ha => by
      refine q' (p.take m) a _ ((Same.new hb).trans (Same.new ha)) (none_up ha) upd_same hc hv (l1_take_le p m) (by rw [List.length_take]; omega)
    have done : Canon (p.take m) → rSlL K (V.ref l) none (some (m : Int)) H' (fun x H1 => tNil [some (V.ref l), some (V.int (m : Int))] H1 fun xs H2 => rTupQ K (x :: xs) H2 Q) := fun hc => by
      refine r_slL sv fun b hb => ?_
      walk_at "gi"
      rw [cut_to, ← List.map_take]
      refine r_tupL (SqL.of upd_same) fun a ha => ?_
      exact fin hc Q q b hb a ha
    refine ifd (fun c => ?_) (fun c => ?_)
    · walk_at "gi"
      have hm : (m : Int) - 1 = ((m - 1 : Nat) : Int) := by omega
      rw [hm]
      obtain ⟨z, ez⟩ : ∃ z, p[m - 1]? = some z := ⟨_, List.getElem?_eq_getElem (by omega)⟩
      refine r_ixL sv (atI_nat (ints_get ez)) ?_
      walk_at "gi"
      refine ifd (fun c2 => ?_) (fun c2 => ?_)
      · walk_at "gi"
        refine ⟨m - 1, by omega, ?_, rfl, by omega, by omega, fun x => ?_⟩
        · rw [← hm]
          rfl
        · rw [← hv x]
          have := pval_take (x := x) ez
          rw [show m - 1 + 1 = m by omega, c2] at this
          rw [this]
          simp
      · walk_at "gi"
        refine done (stop (.inr ?_))
        rw [List.getD_eq_getElem?_getD, ez]
        exact c2
    · walk_at "gi"
      exact done (stop (.inl (by omega)))
end
section
variable {P : Program} {w : World} {K : PySem.W.Frag} {mg : Str → Option Value} {base : Heap}
theorem two_le {m n : Nat} (h : m ≤ n) : (2 : Nat) ^ m ≤ 2 ^ n := Nat.pow_le_pow_right (by decide) h
theorem two_lt {m n : Nat} (h : m < n) : (2 : Nat) ^ m < 2 ^ n := Nat.pow_lt_pow_right (by decide) h
theorem ixN_nat {n i : Nat} (h : i < n) : ixN n (i : Int) = some i := by
  unfold ixN
  rw [if_pos (by omega), if_pos (by omega)]
  simp
theorem set_ints {t : List Int} {i : Nat} {z : Int} : (t.map V.int).set i (V.int z) = (t.set i z).map V.int := by rw [List.map_set]
theorem lenle {α : Type} {l : List α} {n : Nat} (h : l.length ≤ n) (hn : n < 100000) : l.length < sizeLine := Nat.lt_of_lt_of_le (Nat.lt_of_le_of_lt h hn) (by decide)
theorem len_pos {p : List Int} (h : p ≠ []) : 1 ≤ p.length := by
  cases p with
  | nil => exact absurd rfl h
  | cons c p => simp
theorem rgd {i j : Int} (h : j ≤ i) (hi : i < 1000) (hj : -1000 < j) : RgC i j (-1) (i - j).toNat := RgC.neg (by omega) (by omega) (by omega) (by omega)
def sp_steps_of (K : PySem.W.Frag) : Sp := fun vs H Q _ => ∃ (a : Addr) (p : List Int), vs = [.ref a] ∧ SqT K H a (p.map V.int) ∧ p ≠ [] ∧ p.length ≤ 7 ∧ (∀ c ∈ p, c.natAbs ≤ 1000000000) ∧
  ∀ r t H', Same H H' → H r = none → H' r = some (.tup (t.map V.int)) → t.length = p.length → (∀ x, nval t 0 x = pval p x) → (∀ c ∈ t, c.natAbs ≤ 1000000000 * 122) → Q (.ref r) H'
theorem ok_steps_of (T : Top K mg) : Ok P w K mg base 1 "steps_of" s_steps_of ["terms"] (sp_steps_of K) := by
  refine T.d_steps_of.ok sc_steps_of (fun vs H Q E h => ?_) (fun f cdv A outer s H vs Q E hg hr h => ?_)
  · obtain ⟨a, p, rfl, _⟩ := h
    rfl
  · obtain ⟨a, p, rfl, sv, ne, hl, hb, q⟩ := h
    have h1 := len_pos ne
    refine ⟨_, (pss_cons (ps_set (i := 1) sc_steps_of.nd rfl (.inl rfl) (pe_callTy (T := "list") (c_list rfl) (by rfl) T.b_list (by decide +kernel) (pa_cons (pv 0) pa_nil)))
    (pss_cons (ps_for (passes_of rfl) rfl (pi_range2 (by rfl) T.b_range (pa_cons pe_int (pa_cons (pe_callB (id := "len") (c_len rfl) (by rfl) T.b_len (by decide +kernel) (pa_cons (pv 1) pa_nil)) pa_nil))) (pg_name (i := 2) sc_steps_of.nd rfl (.inl rfl)) (pss_one (ps_for (passes_of rfl) rfl (pi_range3 (by rfl) T.b_range (pa_cons (pe_op op_sub (pe_callB (id := "len") (c_len rfl) (by rfl) T.b_len (by decide +kernel) (pa_cons (pv 1) pa_nil)) pe_int) (pa_cons (pe_op op_sub (pv 2) pe_int) (pa_cons (pe_un un_neg pe_int) pa_nil)))) (pg_name (i := 3) sc_steps_of.nd rfl (.inl rfl)) (pss_one (ps_augS (pv 1) (pv 3) (get_list rfl) (pe_op op_mulX (pv 2) (pe_ix (x_list rfl) (pv 1) (pe_op op_add (pv 3) pe_int) (fun _ _ => rfl))) ip_add set_list)))))
    (pss_one (ps_ret (pe_callTy (T := "tuple") (c_tuple rfl) (by rfl) T.b_tuple (by decide +kernel) (pa_cons (pv 1) pa_nil)))))), ?_⟩
    walk_at "sti"
    refine r_listT sv fun l hl0 => ?_
    walk_at "gi"
    rw [ints_len]
    refine ⟨⟨by omega, by omega, by omega, by omega⟩, ?_⟩
    rw [show ((p.length : Int) - 1).toNat = p.length - 1 by omega]
    refine r_forR (fun i σ H' => ∃ t x2 x3, σ = [some (.ref a), some (.ref l), x2, x3] ∧ Same H H' ∧ H' l = some (.lst (t.map V.int)) ∧ t.length = p.length ∧ (∀ x, mval (i + 1) t 0 x = pval p x) ∧ ∀ j < 7, (t.getD j 0).natAbs ≤ 1000000000 * (row i).getD j 0)
      ⟨p, _, _, rfl, Same.new hl0, upd_same, rfl, fun x => mval_one p x ne, fun j hj => ?_⟩ (fun i σ H' hi hP => ?_) (fun σ H' hP => ?_)
    · have r0 : (row 0).getD j 0 = 1 := (by decide : ∀ j < 7, (row 0).getD j 0 = 1) j hj
      rw [r0]
      by_cases c : j < p.length
      · have e := List.getElem?_eq_getElem c
        rw [List.getD_eq_getElem?_getD, e]
        exact hb _ (List.mem_of_getElem? e)
      · rw [getD_out (by omega)]
        decide
    · obtain ⟨t, x2, x3, rfl, s1, e1, lt, hv, hB⟩ := hP
      walk_at "gi"
      refine r_for3 ?_
      walk_at "gi"
      rw [ints_len, lt]
      refine ⟨_, _, _, p.length - 2 - i, rfl, ?_, ?_⟩
      · have := RgC.neg (i := (p.length : Int) - 2) (j := 1 + (i : Int) - 1) (by omega) (by omega) (by omega) (by omega)
        rw [show ((p.length : Int) - 2 - (1 + (i : Int) - 1)).toNat = p.length - 2 - i by omega] at this
        exact this
      refine r_forC (fun k σ H'' => ∃ t' x3, σ = [some (.ref a), some (.ref l), some (.int (1 + (i : Int))), x3] ∧ Same H H'' ∧ H'' l = some (.lst (t'.map V.int)) ∧ t'.length = p.length ∧ t'.take (p.length - 1 - k) = t.take (p.length - 1 - k) ∧
        (∀ x, pval (t.drop (p.length - 1 - k)) x = t'.getD (p.length - 1 - k) 0 + (x - (1 + (i : Int))) * pval (t'.drop (p.length - k)) x) ∧ ∀ j < 7, (t'.getD j 0).natAbs ≤ 1000000000 * (if j < p.length - 1 - k then (row i).getD j 0 else (row (i + 1)).getD j 0))
        ⟨t, _, rfl, s1, e1, lt, rfl, fun x => ?_, fun j hj => ?_⟩ (fun k σ H'' hk hP => ?_) (fun σ H'' hP => ?_)
      · obtain ⟨z, ez⟩ : ∃ z, t[p.length - 1]? = some z := ⟨_, List.getElem?_eq_getElem (by omega)⟩
        rw [Nat.sub_zero, Nat.sub_zero, pval_drop ez, List.getD_eq_getElem?_getD, ez, show p.length - 1 + 1 = p.length by omega, List.drop_eq_nil_of_le (by omega)]
        simp [pval]
      · have h1 := hB j hj
        have h2 := row_up i (by omega) j hj
        split
        · exact h1
        · omega
      · obtain ⟨t', x3, rfl, s2, e2, lt', ht, hw, hC⟩ := hP
        have ek : ((p.length : Int) - 2 + (k : Int) * -1) = ((p.length - 2 - k : Nat) : Int) := by omega
        obtain ⟨z, ez⟩ : ∃ z, t'[p.length - 2 - k]? = some z := ⟨_, List.getElem?_eq_getElem (by omega)⟩
        obtain ⟨y, ey⟩ : ∃ y, t'[p.length - 1 - k]? = some y := ⟨_, List.getElem?_eq_getElem (by omega)⟩
        have gz : t'.getD (p.length - 2 - k) 0 = z := by rw [List.getD_eq_getElem?_getD, ez]; rfl
        have gy : t'.getD (p.length - 1 - k) 0 = y := by rw [List.getD_eq_getElem?_getD, ey]; rfl
        have tz : t[p.length - 2 - k]? = some z := by
          have := congrArg (fun l : List Int => l[p.length - 2 - k]?) ht
          simp only [List.getElem?_take] at this
          rw [if_pos (by omega), if_pos (by omega)] at this
          rw [← this]
          exact ez
        have bz := hC (p.length - 2 - k) (by omega)
        have by_ := hC (p.length - 1 - k) (by omega)
        rw [gz, if_pos (by omega)] at bz
        rw [gy, if_neg (by omega)] at by_
        have rk := row_ok i (by omega) (p.length - 2 - k) (by omega)
        rw [if_neg (by omega), show p.length - 2 - k + 1 = p.length - 1 - k by omega] at rk
        walk_at "gi"
        rw [ek]
        refine r_augS ?_
        walk_at "gi"
        refine r_getL _ (SqL.of e2) (ints_get ez) ?_
        walk_at "gi"
        rw [show ((p.length - 2 - k : Nat) : Int) + 1 = ((p.length - 1 - k : Nat) : Int) by omega]
        refine r_ixL (SqL.of e2) (atI_nat (ints_get ey)) ?_
        walk_at "gi"
        have t1 := row_top (i + 1) (by omega) (p.length - 1 - k) (by omega)
        refine r_rI (bit_mul (a := 64) (b := 64) (bit_of (by omega)) (bit_of (by omega)) (by decide)) ?_
        walk_at "gi"
        refine r_setL (j := p.length - 2 - k) e2 (by rw [ints_len]; exact ixN_nat (by omega)) ?_
        rw [set_ints]
        refine ⟨t'.set (p.length - 2 - k) (z + (1 + (i : Int)) * y), _, rfl, fun b' o e => ?_, upd_same, by rw [List.length_set]; exact lt', ?_, fun x => ?_, fun j hj => ?_⟩
        · rw [upd_ne (ne_of_none e hl0)]
          exact s2 _ _ e
        · rw [List.take_set_of_le (by omega)]
          have := congrArg (fun l : List Int => l.take (p.length - 1 - (k + 1))) ht
          simp only [List.take_take] at this
          rw [Nat.min_eq_left (by omega)] at this
          exact this
        · rw [show p.length - 1 - (k + 1) = p.length - 2 - k by omega, show p.length - (k + 1) = p.length - 1 - k by omega, pval_drop tz, show p.length - 2 - k + 1 = p.length - 1 - k by omega, hw, gy]
          rw [List.drop_set_of_lt (by omega), pval_drop ey, show p.length - 1 - k + 1 = p.length - k by omega, List.getD_eq_getElem?_getD, List.getElem?_set_self (by omega)]
          show _ = (z + (1 + (i : Int)) * y) + _
          grind
        · rw [show p.length - 1 - (k + 1) = p.length - 2 - k by omega, List.getD_eq_getElem?_getD, List.getElem?_set]
          by_cases c : p.length - 2 - k = j
          · subst c
            rw [if_pos rfl, if_pos (by omega), if_neg (by omega), rk]
            show (z + (1 + (i : Int)) * y).natAbs ≤ _
            have h1 := Int.natAbs_add_le z ((1 + (i : Int)) * y)
            have h2 : ((1 + (i : Int)) * y).natAbs = (i + 1) * y.natAbs := by
              rw [Int.natAbs_mul]
              congr 1
              omega
            have h3 := Nat.mul_le_mul_left (i + 1) by_
            have h4 : (i + 1) * (1000000000 * (row (i + 1)).getD (p.length - 1 - k) 0) = 1000000000 * ((i + 1) * (row (i + 1)).getD (p.length - 1 - k) 0) := by grind
            rw [Nat.mul_add]
            omega
          · rw [if_neg c, ← List.getD_eq_getElem?_getD]
            have := hC j hj
            by_cases c2 : j < p.length - 2 - k
            · rw [if_pos c2]
              rw [if_pos (by omega)] at this
              exact this
            · rw [if_neg c2]
              rw [if_neg (by omega)] at this
              exact this
      · obtain ⟨t', x3, rfl, s2, e2, lt', ht, hw, hC⟩ := hP
        rw [show p.length - 1 - (p.length - 2 - i) = i + 1 by omega] at ht hw hC
        refine ⟨t', _, _, rfl, s2, e2, lt', fun x => ?_, fun j hj => ?_⟩
        · rw [← hv x]
          refine (mval_stage (i + 1) t t' 0 x (by omega) (by omega) ht ?_).symm
          have := hw x
          rw [show p.length - (p.length - 2 - i) = i + 1 + 1 by omega] at this
          rw [this, show (0 : Int) + ((i + 1 : Nat) : Int) = 1 + (i : Int) by omega]
        · have h1 := hC j hj
          have rk := row_ok i (by omega) j hj
          by_cases c : j < i + 1
          · rw [if_pos c] at h1 rk
            rw [rk]
            exact h1
          · rw [if_neg c] at h1
            exact h1
    · obtain ⟨t, x2, x3, rfl, s1, e1, lt, hv, hB⟩ := hP
      walk_at "gi"
      refine r_tupL (SqL.of e1) fun r hr' => ?_
      refine q r t _ (s1.trans (Same.new hr')) (none_same s1 hr') upd_same lt (fun x => ?_) (fun c hc => ?_)
      · rw [← hv x, mval_all _ _ _ _ (by omega)]
      · obtain ⟨j, hj, ej⟩ := List.getElem_of_mem hc
        have h1 := hB j (by omega)
        have h2 := row_top (p.length - 1) (by omega) j (by omega)
        rw [List.getD_eq_getElem?_getD, List.getElem?_eq_getElem hj, ej] at h1
        exact Nat.le_trans h1 (Nat.mul_le_mul_left _ h2)
/-! ### bezout, inverse -/
def sp_bezout : Sp := fun vs H Q _ => ∃ a b : Int, vs = [.int a, .int b] ∧ a.natAbs ≤ Bq ∧ b.natAbs ≤ Bq ∧
  ∀ u v : Int, u * a + v * b = (Nat.gcd a.natAbs b.natAbs : Nat) → u.natAbs ≤ Bq → NewT [.int u, .int v] H Q
theorem ok_bezout (T : Top K mg) : Ok P w K mg base 1 "bezout" s_bezout ["one", "other"] sp_bezout := by
  refine T.d_bezout.ok sc_bezout (fun vs H Q E h => ?_) (fun f cdv A outer s H vs Q E hg hr h => ?_)
  · obtain ⟨a, b, rfl, _⟩ := h
    rfl
  · obtain ⟨x, y, rfl, hx, hy, q⟩ := h
    refine ⟨_, (pss_cons (ps_asg (pe_tup (pa_cons pe_int (pa_cons pe_int (pa_cons pe_int (pa_cons pe_int pa_nil))))) (g_tup rfl rfl (pgs_cons (pg_name (i := 2) sc_bezout.nd rfl (.inl rfl)) (pgs_cons (pg_name (i := 3) sc_bezout.nd rfl (.inl rfl)) (pgs_cons (pg_name (i := 4) sc_bezout.nd rfl (.inl rfl)) (pgs_cons (pg_name (i := 5) sc_bezout.nd rfl (.inl rfl)) pgs_nil)))) rfl rfl))
    (pss_cons (ps_par (i := 6) (j := 7) (by rfl) sc_bezout.nd rfl rfl (by decide) rfl rfl (pa_cons (pv 0) (pa_cons (pv 1) pa_nil)) (by rfl))
    (pss_cons (ps_while (passes_of rfl) (pt_truth (pv 7) (by intro _; rfl)) (pss_cons (ps_set (i := 8) sc_bezout.nd rfl (.inl rfl) (pe_op op_fdivG (pv 6) (pv 7)))
    (pss_cons (ps_par (i := 6) (j := 7) (by rfl) sc_bezout.nd rfl rfl (by decide) rfl rfl (pa_cons (pv 7) (pa_cons (pe_op op_sub (pv 6) (pe_op op_mulX (pv 8) (pv 7))) pa_nil)) (by rfl))
    (pss_cons (ps_par (i := 2) (j := 4) (by rfl) sc_bezout.nd rfl rfl (by decide) rfl rfl (pa_cons (pv 4) (pa_cons (pe_op op_sub (pv 2) (pe_op op_mulX (pv 8) (pv 4))) pa_nil)) (by rfl))
    (pss_one (ps_par (i := 3) (j := 5) (by rfl) sc_bezout.nd rfl rfl (by decide) rfl rfl (pa_cons (pv 5) (pa_cons (pe_op op_sub (pv 3) (pe_op op_mulX (pv 8) (pv 5))) pa_nil)) (by rfl)))))))
    (pss_cons (ps_if (pt_cmpR op_lt (pv 6) pe_int (nomark _)) (pss_one (ps_ret (pe_tup (pa_cons (pe_un un_neg (pv 2)) (pa_cons (pe_un un_neg (pv 3)) pa_nil))))) pss_nil)
    (pss_one (ps_ret (pe_tup (pa_cons (pv 2) (pa_cons (pv 3) pa_nil))))))))), ?_⟩
    walk_at "sti"
    refine r_while (fun m σ H' => ∃ u v nu nv l r tm, σ = [some (.int x), some (.int y), some (.int u), some (.int v), some (.int nu), some (.int nv), some (.int l), some (.int r), tm] ∧
      Bz x y u v nu nv l r ∧ m = r.natAbs ∧ Same H H') y.natAbs ⟨1, 0, 0, 1, x, y, none, rfl, Bz.first x y, rfl, by walk_at "vsame"⟩ fun m σ H1 hW => ?_
    obtain ⟨u, v, nu, nv, l, r, tm, rfl, B, rfl, s1⟩ := hW
    have bd := B.bounds (B := Bq) hx hy Bq_one
    obtain ⟨b1, b2, b3, b4, b5, b6⟩ := bd
    walk_at "gi"
    refine ifb (fun c => ?_) (fun c => ?_)
    · have hr0 : r ≠ 0 := by simpa using c
      have st := B.step hr0
      have bt : Builtin.Int.intBits (l.fdiv r) ≤ 4003 := by
        refine bit_of (Nat.lt_of_le_of_lt (m := 2 * Bq) (abs_of_mul hr0 ?_) Bq_two)
        have := st.2
        omega
      walk_at "gi"
      refine r_rI ⟨hr0, Nat.lt_of_le_of_lt b4 Bq_90⟩ ?_
      walk_at "gi"
      refine r_rI (bit_mul bt (Bq_bits b4) (by decide)) ?_
      walk_at "gi"
      refine r_rI (bit_mul bt (Bq_bits b2) (by decide)) ?_
      walk_at "gi"
      refine r_rI (bit_mul bt (bit_of (Nat.lt_of_le_of_lt b6 Bq_sq)) (by decide)) ?_
      walk_at "gi"
      exact ⟨_, st.2, _, _, _, _, _, _, _, rfl, st.1, rfl, s1⟩
    · have hr0 : r = 0 := by simpa using c
      have g := B.g
      have e1 := B.e1
      rw [hr0] at g
      have g2 : l.natAbs = Nat.gcd x.natAbs y.natAbs := by rw [← g]; simp
      walk_at "gi"
      refine ifd (fun c => ?_) (fun c => ?_)
      · walk_at "gi"
        refine q (-u) (-v) ?_ (by omega) _ _ (by walk_at "vsame") (by walk_at "vnone") upd_same
        rw [← g2]
        have : -u * x + -v * y = -(u * x + v * y) := by grind
        omega
      · walk_at "gi"
        refine q u v ?_ (by omega) _ _ (by walk_at "vsame") (by walk_at "vnone") upd_same
        omega
def sp_inverse : Sp := fun vs H Q _ => ∃ (n : Int) (b : Nat), vs = [.int n, .int (b : Int)] ∧ 0 ≤ n ∧ 0 < b ∧ b ≤ Bq ∧
  ∀ (u w : Int) H', u * n = (Nat.gcd n.natAbs b : Nat) + b * w → Same H H' → Q (.int (u % b)) H'
theorem ok_inverse (T : Top K mg) : Ok P w K mg base 2 "inverse" s_inverse ["number", "base"] sp_inverse := by
  have G_bezout := ok_bezout (P := P) (w := w) (base := base) T
  refine T.d_inverse.ok sc_inverse (fun vs H Q E h => ?_) (fun f cdv A outer s H vs Q E hg hr h => ?_)
  · obtain ⟨a, b, rfl, _⟩ := h
    rfl
  · obtain ⟨n, b, rfl, n0, b0, hb, q⟩ := h
    have m0 := Int.emod_nonneg n (show (b : Int) ≠ 0 by omega)
    have m1 := Int.emod_lt_of_pos n (show (0 : Int) < b by omega)
    refine ⟨_, (pss_cons (ps_asg (pe_g G_bezout (fun _ _ F => bd_bezout F) hg (hr.mono (by decide)) passL (by rfl) (pa_cons (pe_op op_mod (pv 0) (pv 1)) (pa_cons (pv 1) pa_nil))) (g_tup rfl rfl (pgs_cons (pg_name (i := 2) sc_inverse.nd rfl (.inl rfl)) (pgs_cons (pg_name (i := 3) sc_inverse.nd rfl (.inl rfl)) pgs_nil)) rfl rfl))
    (pss_one (ps_ret (pe_op op_mod (pv 2) (pv 1))))), ?_⟩
    walk_at "sti"
    refine r_rI (by omega) ?_
    walk_at "gi"
    refine ⟨_, _, rfl, by omega, by omega, fun u v e ub p H' sH pn pa => ?_⟩
    walk_at "gi"
    refine r_rI (by omega) ?_
    refine q u (u * (n / b) - v) _ ?_ sH
    obtain ⟨k, rfl⟩ := Int.eq_ofNat_of_zero_le n0
    have e2 : Nat.gcd (((k : Nat) : Int) % (b : Int)).natAbs ((b : Nat) : Int).natAbs = Nat.gcd ((k : Nat) : Int).natAbs b := by
      have : (((k : Nat) : Int) % (b : Int)).natAbs = k % b := by omega
      rw [this]
      show Nat.gcd (k % b) b = Nat.gcd k b
      rw [Nat.gcd_comm k b, Nat.gcd_rec b k]
    rw [e2] at e
    have d := Int.emod_add_mul_ediv (k : Int) b
    generalize (k : Int) % b = m at *
    generalize (k : Int) / b = z at *
    rw [← e]
    have : u * (k : Int) = u * m + b * (u * z) := by rw [← d]; grind
    rw [this]
    grind
theorem no_quarrel (x : Int) (b c : Nat) : (x % b - x % c) % ((Nat.gcd b c : Nat) : Int) = 0 := by
  refine Int.emod_eq_emod_iff_emod_sub_eq_zero.mp ?_
  rw [Int.emod_emod_of_dvd x (Int.natCast_dvd_natCast.mpr (Nat.gcd_dvd_left b c)), Int.emod_emod_of_dvd x (Int.natCast_dvd_natCast.mpr (Nat.gcd_dvd_right b c))]
end
section
variable {P : Program} {w : World} {K : PySem.W.Frag} {mg : Str → Option Value} {base : Heap}
/-! ### tables -/
def szs (n m : Nat) : List Int := (List.range m).map fun k => (sz n k : Int)
theorem szs_len (n m : Nat) : (szs n m).length = m := by simp [szs]
theorem szs_snoc (n m : Nat) : szs n (m + 1) = szs n m ++ [(sz n m : Int)] := by
  unfold szs
  rw [List.range_succ, List.map_append]
  rfl
theorem szs_at {n m k : Nat} (h : k < m) : (szs n m)[k]? = some (sz n k : Int) := by
  unfold szs
  rw [List.getElem?_map, List.getElem?_range h]
  rfl
theorem pf_step {n i : Nat} : (if i = 0 then (1 : Int) else pf n i) = pf n i := by
  cases i with
  | zero => rfl
  | succ i => rfl
theorem pf_bits {n i : Nat} (hn : 0 < n) (h : n ≤ 1000) : (pf n i).natAbs < 2 ^ 20 := by
  cases i with
  | zero =>
    show (1 : Int).natAbs < 2 ^ 20
    decide
  | succ i =>
    have := pf_small (i := i) hn
    have e : (2 : Nat) ^ 20 = 1048576 := by decide
    omega
def sp_ranges : Sp := fun vs H Q _ => ∃ n m : Nat, vs = [.int (n : Int), .int (m : Int)] ∧ 0 < n ∧ n ≤ 1000 ∧ m ≤ 20 ∧ ∀ l H', Same H H' → H l = none → H' l = some (.lst ((szs n m).map V.int)) → Q (.ref l) H'
theorem ok_ranges_of (T : Top K mg) : Ok P w K mg base 1 "ranges_of" s_ranges_of ["base", "many"] sp_ranges := by
  refine T.d_ranges_of.ok sc_ranges_of (fun vs H Q E h => ?_) (fun f cdv A outer s H vs Q E hg hr h => ?_)
  · obtain ⟨n, m, rfl, _⟩ := h
    rfl
  · obtain ⟨n, m, rfl, n0, n1, hm, q⟩ := h
    refine ⟨_, (pss_cons (ps_set (i := 2) sc_ranges_of.nd rfl (.inl rfl) (pe_lst pa_nil))
    (pss_cons (ps_set (i := 3) sc_ranges_of.nd rfl (.inl rfl) pe_int)
    (pss_cons (ps_for (passes_of rfl) rfl (pi_range1 (by rfl) T.b_range (pa_cons (pv 1) pa_nil)) (pg_name (i := 4) sc_ranges_of.nd rfl (.inl rfl)) (pss_cons (ps_set (i := 3) sc_ranges_of.nd rfl (.inl rfl) (pe_op op_mod (pe_op op_mulX (pv 3) (pe_callB (id := "max") (c_max2 rfl) (by rfl) T.b_max (by decide +kernel) (pa_cons (pv 4) (pa_cons pe_int pa_nil)))) (pv 0)))
    (pss_one (ps_expr (pe_bm PySem.F.plainAttrs_list PySem.F.slot_list_append PySem.F.type_list_append mt_append (pv 2) (pa_cons (pe_op op_fdivW (pv 0) (pe_callBfun (id := "math.gcd") cr_gcd (by rfl) T.m_gcd (pa_cons (pv 0) (pa_cons (pv 3) pa_nil)))) pa_nil))))))
    (pss_one (ps_ret (pv 2)))))), ?_⟩
    walk_at "sti"
    rename_i F hF
    refine ⟨by omega, by omega, ?_⟩
    rw [Int.toNat_natCast]
    refine r_forR (fun i σ H' => ∃ x4, σ = [some (.int (n : Int)), some (.int (m : Int)), some (.ref F), some (.int (pf n i)), x4] ∧ Same H H' ∧ H' F = some (.lst ((szs n i).map V.int)))
      ⟨_, rfl, Same.new hF, upd_same⟩ (fun i σ H' hi hP => ?_) (fun σ H' hP => ?_)
    · obtain ⟨x4, rfl, s1, e1⟩ := hP
      walk_at "gi"
      rw [Int.zero_add]
      refine r_rI (bit_mul (a := 20) (b := 20) (bit_of (pf_bits n0 n1)) (bit_of (by have : (2 : Nat) ^ 20 = 1048576 := by decide
                                                                                    omega)) (by decide)) ?_
      walk_at "gi"
      refine r_rI (by omega) ?_
      walk_at "gi"
      rw [pf_next]
      refine ⟨.inl ⟨rfl, _, SqL.of e1⟩, ?_⟩
      walk_at "gi"
      rw [gcd_pf]
      have hg := gk_pos i n0
      have hgn : gk n i ≤ n := Nat.gcd_le_left _ n0
      refine r_rI (divw_of (by omega) (by omega)) ?_
      walk_at "gi"
      refine r_app e1 (by rw [List.length_map, szs_len]; omega) ?_
      walk_at "gi"
      refine ⟨fun b o e => ?_, ?_⟩
      · rw [upd_ne (ne_of_none e hF)]
        exact s1 _ _ e
      · rw [szs_snoc, List.map_append]
        exact upd_same
    · obtain ⟨x4, rfl, s1, e1⟩ := hP
      walk_at "gi"
      exact q F H' s1 hF e1
def sp_fos (K : PySem.W.Frag) : Sp := fun vs H Q _ => ∃ (a : Addr) (p : List Int) (n : Nat), vs = [.ref a, .int (n : Int)] ∧ SqT K H a (p.map V.int) ∧ p ≠ [] ∧ p.length ≤ 7 ∧ (∀ c ∈ p, c.natAbs ≤ 1000000000) ∧ 0 < n ∧ n ≤ 1000 ∧
  ∀ r b H' t h, Same H H' → H b = none → H' b = some (.tup (r.map V.int)) → Canon r → (∀ x, pval r x = pval h x) → t.length = p.length → (∀ x, nval t 0 x = pval p x) → h.length = p.length → (∀ k < p.length, h.getD k 0 = t.getD k 0 % (sz n k : Int)) → Q (.ref b) H'
theorem ok_form_of_sum (T : Top K mg) : Ok P w K mg base 2 "form_of_sum" s_form_of_sum ["terms", "base"] (sp_fos K) := by
  have G_trimmed := ok_trimmed (P := P) (w := w) (base := base) T
  have G_ranges_of := ok_ranges_of (P := P) (w := w) (base := base) T
  have G_steps_of := ok_steps_of (P := P) (w := w) (base := base) T
  refine T.d_form_of_sum.ok sc_form_of_sum (fun vs H Q E h => ?_) (fun f cdv A outer s H vs Q E hg hr h => ?_)
  · obtain ⟨a, p, n, rfl, _⟩ := h
    rfl
  · obtain ⟨a, p, n, rfl, sv, ne, hl, hb, n0, n1, q⟩ := h
    refine ⟨_, (pss_one (ps_ret (pe_g G_trimmed (fun _ _ F => bd_trimmed F) hg (hr.mono (by decide)) passL (by rfl) (pa_cons (pe_lc (own := [("step", 2), ("most", 3)]) (by rfl) sc_form_of_sum.nd (i_zipTL rfl (by rfl) T.b_zip (pa_cons (pe_g G_steps_of (fun _ _ F => bd_steps_of F) hg (hr.mono (by decide)) passL (by rfl) (pa_cons (pv 0) pa_nil)) (pa_cons (pe_g G_ranges_of (fun _ _ F => bd_ranges_of F) hg (hr.mono (by decide)) passL (by rfl) (pa_cons (pv 1) (pa_cons (pe_callB (id := "len") (c_len rfl) (by rfl) T.b_len (by decide +kernel) (pa_cons (pv 0) pa_nil)) pa_nil))) pa_nil))) (blkOk_by (own := [("step", 2), ("most", 3)]) (N := ["terms", "base", "step", "most"]) (sc := defScope s_form_of_sum) (by decide +kernel)) (fun _ _ _ _ _ => (g_tup (n := 2) rfl rfl (pgs_cons (pg_name (i := 2) sc_form_of_sum.nd rfl (Or.inl rfl)) (pgs_cons (pg_name (i := 3) sc_form_of_sum.nd rfl (Or.inl rfl)) pgs_nil)) rfl rfl)) (fun _ _ _ _ _ => pts_nil) (fun _ _ _ _ _ => (pe_op op_mod (pv 2) (pv 3)))) pa_nil)))), ?_⟩
    walk_at "sti"
    refine r_lcTLi ?_
    walk_at "gi"
    refine ⟨a, p, rfl, sv, ne, hl, hb, fun u t H1 s1 n1' e1 lt ht bt => ?_⟩
    walk_at "gi"
    rw [ints_len]
    refine ⟨n, p.length, rfl, n0, n1, by omega, fun l H2 s2 n2 e2 => ?_⟩
    walk_at "gi"
    refine ⟨u, l, t.map V.int, (szs n p.length).map V.int, rfl, ⟨SqT.of (s2 _ _ e1), SqL.of e2⟩, ?_⟩
    refine r_lcTL (t.map V.int) ((szs n p.length).map V.int) p.length (by rw [ints_len, lt]) (by rw [ints_len, szs_len]) (fun D i H' => Same H2 H' ∧ ∃ h : List Int, h.length = i ∧ H' D = some (.lst (h.map V.int)) ∧ ∀ k < i, h.getD k 0 = t.getD k 0 % (sz n k : Int)) (fun D hD => ⟨Same.new hD, [], rfl, upd_same, fun k hk => by omega⟩) (fun D i H' hD hi hP => ?_) (fun D i v1 v2 H' T' hD h1 h2 hP hT => ?_) (fun D H' hD hP => ?_)
    · exact ⟨Same.tup hP.1 (SqT.of (s2 _ _ e1)), SqL.of (hP.1 _ _ e2)⟩
    · obtain ⟨s3, h, lh, dh, hh⟩ := hP
      obtain ⟨c, ec, rfl⟩ := ints_at h1
      obtain ⟨d, ed, rfl⟩ := ints_at h2
      have il : i < p.length := by
        have := (List.getElem?_eq_some_iff.mp ec).1
        omega
      rw [szs_at il] at ed
      obtain rfl := Option.some.inj ed
      have zp := sz_pos i n0
      refine r_gtup (SqT.of upd_same) rfl ?_
      walk_at "go"
      refine ⟨rfl, ?_⟩
      walk_at "go"
      refine r_rI (by omega) ?_
      refine ⟨_, at_new hT dh, lenle (n := 20) (by rw [ints_len]; omega) (by decide), fun b o e => ?_, h ++ [c % (sz n i : Int)], by rw [List.length_append, lh]; rfl, ?_, fun k hk => ?_⟩
      · rw [upd_ne (ne_of_none e hD)]
        exact Same.new hT _ _ (s3 _ _ e)
      · rw [List.map_append]
        exact upd_same
      · rw [List.getD_eq_getElem?_getD]
        rcases Nat.lt_or_ge k i with c1 | c1
        · rw [List.getElem?_append_left (by omega), ← List.getD_eq_getElem?_getD]
          exact hh k c1
        · have : k = i := by omega
          subst this
          rw [List.getElem?_append_right (by omega), lh, Nat.sub_self, getD_at ec]
          rfl
    · obtain ⟨s3, h, lh, dh, hh⟩ := hP
      walk_at "gi"
      have hne : h ≠ [] := fun e => by
        rw [e] at lh
        have := len_pos ne
        simp at lh
        omega
      refine ⟨D, h, rfl, SqL.of dh, hne, by omega, fun r b H4 s4 n4 e4 hc hv _ _ => ?_⟩
      exact q r b H4 t h (((s1.trans s2).trans s3).trans s4) (none_same ((s1.trans s2).trans s3) n4) e4 hc hv lt ht lh hh
end
section
variable {P : Program} {w : World} {K : PySem.W.Frag} {mg : Str → Option Value} {base : Heap}
def sp_diff (K : PySem.W.Frag) : Sp := fun vs H Q _ => ∃ (a : Addr) (v : List Int) (n : Nat), vs = [.ref a, .int (n : Int)] ∧ SqT K H a (v.map V.int) ∧ v.length ≤ 1000 ∧ 0 < n ∧ n ≤ 1000 ∧
  ∀ l H', Same H H' → H l = none → H' l = some (.lst ((firsts n v.length v).map V.int)) → Q (.ref l) H'
theorem ok__differences (T : Top K mg) : Ok P w K mg base 1 "_differences" s__differences ["rests", "base"] (sp_diff K) := by
  refine T.d__differences.ok sc__differences (fun vs H Q E h => ?_) (fun f cdv A outer s H vs Q E hg hr h => ?_)
  · obtain ⟨a, v, n, rfl, _⟩ := h
    rfl
  · obtain ⟨a, v, n, rfl, sv, hl, n0, n1, q⟩ := h
    refine ⟨_, (pss_cons (ps_set (i := 2) sc__differences.nd rfl (.inl rfl) (pe_lst pa_nil))
    (pss_cons (ps_set (i := 3) sc__differences.nd rfl (.inr rfl) (pv 0))
    (pss_cons (ps_while (passes_of rfl) (pt_truth (pv 3) (by intro _; rfl)) (pss_cons (ps_expr (pe_bm PySem.F.plainAttrs_list PySem.F.slot_list_append PySem.F.type_list_append mt_append (pv 2) (pa_cons (pe_ix (x_seq rfl) (pv 3) pe_int (fun _ _ => rfl)) pa_nil)))
    (pss_one (ps_set (i := 3) sc__differences.nd rfl (.inr rfl) (pe_lc (own := [("at", 4)]) (by rfl) sc__differences.nd (pi_range1 (by rfl) T.b_range (pa_cons (pe_op op_sub (pe_callB (id := "len") (c_len rfl) (by rfl) T.b_len (by decide +kernel) (pa_cons (pv 3) pa_nil)) pe_int) pa_nil)) (blkOk_by (own := [("at", 4)]) (N := ["rests", "base", "firsts", "row", "at"]) (sc := defScope s__differences) (by decide +kernel)) (fun _ _ _ _ _ => (pg_name (i := 4) sc__differences.nd rfl (Or.inl rfl))) (fun _ _ _ _ _ => pts_nil) (fun _ _ _ _ _ => (pe_op op_mod (pe_op op_sub (pe_ix (x_seq rfl) (pv 3) (pe_op op_add (pv 4) pe_int) (fun _ _ => rfl)) (pe_ix (x_seq rfl) (pv 3) (pv 4) (fun _ _ => rfl))) (pv 1))))))))
    (pss_one (ps_ret (pv 2)))))), ?_⟩
    walk_at "sti"
    rename_i F hF
    refine r_while (fun m σ H' => ∃ (ρ : Addr) (row fs : List Int), σ = [some (.ref a), some (.int (n : Int)), some (.ref F), some (.ref ρ), none] ∧ Same H H' ∧ row.length = m ∧ m ≤ v.length ∧ (SqT K H' ρ (row.map V.int) ∨ (H' ρ = some (.lst (row.map V.int)) ∧ ρ ≠ F)) ∧ H' F = some (.lst (fs.map V.int)) ∧ fs.length + m = v.length ∧ fs ++ firsts n m row = firsts n v.length v) v.length
      ⟨a, v, [], rfl, Same.new hF, rfl, Nat.le_refl _, .inl (new_tup hF sv), upd_same, by simp, rfl⟩ fun m σ H' hW => ?_
    obtain ⟨ρ, row, fs, rfl, s1, lr, ml, hrow, eF, lf, hfs⟩ := hW
    have hS : SqS K H' ρ (row.map V.int) := hrow.imp id fun h => SqL.of h.1
    walk_at "gi"
    refine tru_seq hS ?_
    by_cases c : m = 0
    · subst c
      have : row = [] := List.eq_nil_of_length_eq_zero lr
      subst this
      rw [show (([] : List Int).map V.int).isEmpty = true from rfl, Bool.not_true]
      walk_at "gi"
      rw [firsts, List.append_nil] at hfs
      refine q F H' s1 hF ?_
      rw [← hfs]
      exact eF
    · have ne : (row.map V.int).isEmpty = false := by
        cases row with
        | nil => simp at lr; omega
        | cons _ _ => rfl
      rw [ne, Bool.not_false]
      obtain ⟨z, ez⟩ : ∃ z, row[0]? = some z := ⟨_, List.getElem?_eq_getElem (by omega)⟩
      walk_at "gi"
      refine ⟨.inl ⟨rfl, _, SqL.of eF⟩, ?_⟩
      walk_at "gi"
      refine r_ixS hS (atI_nat (j := 0) (ints_get ez)) ?_
      walk_at "gi"
      refine r_app eF (by rw [ints_len]; omega) ?_
      have e2 : fs.map V.int ++ [V.int z] = (fs ++ [z]).map V.int := by rw [List.map_append]; rfl
      rw [e2]
      have hS2 : SqS K (upd H' F (.lst ((fs ++ [z]).map V.int))) ρ (row.map V.int) := by
        rcases hrow with h | ⟨h, hn⟩
        · exact .inl (upd_tt eF K _ _ h)
        · exact .inr (SqL.of (by rw [upd_ne hn]; exact h))
      have s2 : Same H (upd H' F (.lst ((fs ++ [z]).map V.int))) := fun b o e => by
        rw [upd_ne (ne_of_none e hF)]
        exact s1 _ _ e
      have eF2 : upd H' F (.lst ((fs ++ [z]).map V.int)) F = some (.lst ((fs ++ [z]).map V.int)) := upd_same
      generalize upd H' F (.lst ((fs ++ [z]).map V.int)) = H2 at *
      walk_at "gi"
      refine r_lenS hS2 ?_
      walk_at "gi"
      rw [ints_len, lr]
      refine ⟨by omega, by omega, ?_⟩
      rw [show ((m : Int) - 1).toNat = m - 1 by omega]
      refine r_lcR (fun D i H'' => Same H2 H'' ∧ ∃ t : List Int, t.length = i ∧ H'' D = some (.lst (t.map V.int)) ∧ ∀ k < i, t.getD k 0 = (row.getD (k + 1) 0 - row.getD k 0) % (n : Int)) (fun D hD => ⟨Same.new hD, [], rfl, upd_same, fun k hk => by omega⟩) (fun D i H'' hD hi hP => ?_) (fun D H'' hD hP => ?_)
      · obtain ⟨s3, t, lt, dt, ht⟩ := hP
        have hS3 : SqS K H'' ρ (row.map V.int) := hS2.imp (fun h => Same.tup s3 h) (fun h => Same.list s3 h)
        obtain ⟨y, ey⟩ : ∃ y, row[i + 1]? = some y := ⟨_, List.getElem?_eq_getElem (by omega)⟩
        obtain ⟨x, ex⟩ : ∃ x, row[i]? = some x := ⟨_, List.getElem?_eq_getElem (by omega)⟩
        walk_at "go"
        refine ⟨rfl, ?_⟩
        walk_at "go"
        rw [Int.zero_add]
        refine r_ixS hS3 (by rw [show (i : Int) + 1 = ((i + 1 : Nat) : Int) from rfl]; exact atI_nat (ints_get ey)) ?_
        walk_at "go"
        refine r_ixS hS3 (atI_nat (ints_get ex)) ?_
        walk_at "go"
        refine r_rI (by omega) ?_
        refine ⟨_, dt, Nat.lt_of_lt_of_le (show (t.map V.int).length < 100000 by rw [ints_len]; omega) (by decide), fun b o e => ?_, t ++ [(y - x) % (n : Int)], by rw [List.length_append, lt]; rfl, ?_, fun k hk => ?_⟩
        · rw [upd_ne (ne_of_none e hD)]
          exact s3 _ _ e
        · rw [List.map_append]
          exact upd_same
        · rw [List.getD_eq_getElem?_getD]
          rcases Nat.lt_or_ge k i with c1 | c1
          · rw [List.getElem?_append_left (by omega), ← List.getD_eq_getElem?_getD]
            exact ht k c1
          · have : k = i := by omega
            subst this
            rw [List.getElem?_append_right (by omega), lt, Nat.sub_self, getD_at ex, getD_at ey]
            rfl
      · obtain ⟨s3, t, lt, dt, ht⟩ := hP
        walk_at "gi"
        have et : t = drow n row := by
          refine List.ext_getElem (by rw [drow_len]; omega) fun i h1 h2 => ?_
          have h3 := ht i (by omega)
          have h4 := drow_at n row (i := i) (by omega)
          rw [← h4] at h3
          rw [List.getD_eq_getElem?_getD, List.getD_eq_getElem?_getD, List.getElem?_eq_getElem h1, List.getElem?_eq_getElem h2] at h3
          exact h3
        refine ⟨m - 1, by omega, D, t, fs ++ [z], rfl, s2.trans s3, by omega, by omega, .inr ⟨dt, fun e => ?_⟩, s3 _ _ eF2, by rw [List.length_append, List.length_singleton]; omega, ?_⟩
        · rw [← e, hD] at eF2
          cases eF2
        · rw [et, List.append_assoc]
          rw [← hfs]
          obtain ⟨m', rfl⟩ : ∃ m', m = m' + 1 := ⟨m - 1, by omega⟩
          rw [firsts, getD_at ez]
          rfl
theorem thou_Bq : 1000 ≤ Bq := by decide +kernel
theorem le_Bq {x : Nat} (h : x ≤ 1000) : x ≤ Bq := Nat.le_trans h thou_Bq
theorem firsts_small_go {n : Nat} (n0 : 0 < n) : ∀ (m : Nat) (r : List Int), r.length = m → (∀ k < m, 0 ≤ r.getD k 0 ∧ r.getD k 0 < n) → ∀ k < m, 0 ≤ (firsts n m r).getD k 0 ∧ (firsts n m r).getD k 0 < n
  | 0, _, _, _, k, hk => absurd hk (by omega)
  | m + 1, r, hl, h, 0, hk => h 0 (by omega)
  | m + 1, r, hl, h, k + 1, hk => by
    refine firsts_small_go n0 m (drow n r) (by rw [drow_len]; omega) (fun j hj => ?_) k (by omega)
    rw [drow_at n r (by omega)]
    exact ⟨Int.emod_nonneg _ (by omega), Int.emod_lt_of_pos _ (by omega)⟩
theorem firsts_small {n : Nat} (n0 : 0 < n) {v : List Int} (hl : v.length = n) (hv : ∀ k < n, 0 ≤ v.getD k 0 ∧ v.getD k 0 < n) (k : Nat) (hk : k < n) : 0 ≤ (firsts n n v).getD k 0 ∧ (firsts n n v).getD k 0 < n := firsts_small_go n0 n v hl hv k hk
/-- whether the table is one of a sum: its steps, or none -/
def Told (n : Nat) (v : List Int) (H : Hp) (Q : VK) : Prop :=
  (∀ H', Same H H' → (∀ f, ¬ Good n v f) → (∃ k, k < n ∧ gk n k ≠ 1) → Q .non H') ∧
  ∀ r f b H', Same H H' → H b = none → H' b = some (.tup (r.map V.int)) → Good n v f → Canon r → (∀ x, pval r x = pval f x) → Q (.ref b) H'
def sp_for (K : PySem.W.Frag) : Sp := fun vs H Q _ => ∃ (a : Addr) (v : List Int) (n : Nat), vs = [.ref a, .int (n : Int)] ∧ SqT K H a (v.map V.int) ∧ v.length = n ∧ 0 < n ∧ n ≤ 1000 ∧ (∀ k < n, 0 ≤ v.getD k 0 ∧ v.getD k 0 < n) ∧ Told n v H Q
theorem ok_form_of_rests (T : Top K mg) : Ok P w K mg base 3 "form_of_rests" s_form_of_rests ["rests", "base"] (sp_for K) := by
  have G__differences := ok__differences (P := P) (w := w) (base := base) T
  have G_inverse := ok_inverse (P := P) (w := w) (base := base) T
  have G_trimmed := ok_trimmed (P := P) (w := w) (base := base) T
  refine T.d_form_of_rests.ok sc_form_of_rests (fun vs H Q E h => ?_) (fun f cdv A outer s H vs Q E hg hr h => ?_)
  · obtain ⟨a, v, n, rfl, _⟩ := h
    rfl
  · obtain ⟨a, v, n, rfl, sv, hl, n0, n1, hv, qn, qt⟩ := h
    refine ⟨_, (pss_cons (ps_set (i := 2) sc_form_of_rests.nd rfl (.inl rfl) (pe_lst pa_nil))
    (pss_cons (ps_set (i := 3) sc_form_of_rests.nd rfl (.inl rfl) pe_int)
    (pss_cons (ps_for (passes_of rfl) rfl (pi_enum (by rfl) T.b_enumerate (pa_cons (pe_g G__differences (fun _ _ F => bd__differences F) hg (hr.mono (by decide)) passL (by rfl) (pa_cons (pv 0) (pa_cons (pv 1) pa_nil))) pa_nil)) (g_tup rfl rfl (pgs_cons (pg_name (i := 4) sc_form_of_rests.nd rfl (.inl rfl)) (pgs_cons (pg_name (i := 5) sc_form_of_rests.nd rfl (.inl rfl)) pgs_nil)) rfl rfl) (pss_cons (ps_set (i := 3) sc_form_of_rests.nd rfl (.inl rfl) (pe_op op_mod (pe_op op_mulX (pv 3) (pe_callB (id := "max") (c_max2 rfl) (by rfl) T.b_max (by decide +kernel) (pa_cons (pv 4) (pa_cons pe_int pa_nil)))) (pv 1)))
    (pss_cons (ps_set (i := 6) sc_form_of_rests.nd rfl (.inl rfl) (pe_callBfun (id := "math.gcd") cr_gcd (by rfl) T.m_gcd (pa_cons (pv 1) (pa_cons (pv 3) pa_nil))))
    (pss_cons (ps_if (pt_truth (pe_op op_mod (pv 5) (pv 6)) (by intro _; rfl)) (pss_one (ps_ret pe_non)) pss_nil)
    (pss_cons (ps_set (i := 7) sc_form_of_rests.nd rfl (.inl rfl) (pe_op op_fdivW (pv 1) (pv 6)))
    (pss_one (ps_expr (pe_bm PySem.F.plainAttrs_list PySem.F.slot_list_append PySem.F.type_list_append mt_append (pv 2) (pa_cons (pe_op op_mod (pe_op op_mulX (pe_op op_fdivW (pv 5) (pv 6)) (pe_g G_inverse (fun _ _ F => bd_inverse F) hg (hr.mono (by decide)) passL (by rfl) (pa_cons (pe_op op_fdivW (pv 3) (pv 6)) (pa_cons (pv 7) pa_nil)))) (pv 7)) pa_nil)))))))))
    (pss_one (ps_ret (pe_g G_trimmed (fun _ _ F => bd_trimmed F) hg (hr.mono (by decide)) passL (by rfl) (pa_cons (pv 2) pa_nil))))))), ?_⟩
    walk_at "sti"
    rename_i F hF
    refine r_forEi ?_
    walk_at "gi"
    refine ⟨a, v, n, rfl, new_tup hF sv, by omega, n0, n1, fun l H1 s1 nl1 e1 => ?_⟩
    rw [hl] at e1
    walk_at "gi"
    refine ⟨l, _, rfl, SqL.of e1, ?_⟩
    have s01 := (Same.new (o := .lst []) hF).trans s1
    have eF : H1 F = some (.lst (([] : List Int).map V.int)) := s1 _ _ upd_same
    have nlF : l ≠ F := fun e => by
      rw [e, upd_same] at nl1
      cases nl1
    have fl : ((firsts n n v).map V.int).length = n := by rw [ints_len, firsts_len]
    refine r_forEnL ((firsts n n v).map V.int) (fun i σ H' => ∃ x4 x5 x6 x7, ∃ fs : List Int, σ = [some (.ref a), some (.int (n : Int)), some (.ref F), some (.int (pf n i)), x4, x5, x6, x7] ∧ Same H H' ∧ H' l = some (.lst ((firsts n n v).map V.int)) ∧ H' F = some (.lst (fs.map V.int)) ∧ fs.length = i ∧ ∀ k < i, (0 ≤ fs.getD k 0 ∧ fs.getD k 0 < sz n k) ∧ (n : Int) ∣ fs.getD k 0 * (fac k : Int) - (firsts n n v).getD k 0)
      ⟨_, _, _, _, [], rfl, s01, e1, eF, rfl, fun k hk => by omega⟩ (fun i σ H' hi hP => ?_) (fun i w σ H' T' hi hP hT => ?_) (fun σ H' hP => ?_)
    · obtain ⟨x4, x5, x6, x7, fs, rfl, s2, el, eF2, lf, hk⟩ := hP
      exact SqL.of el
    · obtain ⟨x4, x5, x6, x7, fs, rfl, s2, el, eF2, lf, hk⟩ := hP
      obtain ⟨c, ec, rfl⟩ := ints_at hi
      have il : i < n := by
        have := (List.getElem?_eq_some_iff.mp hi).1
        omega
      have hg := gk_pos i n0
      have hgn : gk n i ≤ n := Nat.gcd_le_left _ n0
      have ps := pf_small (i := i) n0
      refine r_gtup (SqT.of upd_same) rfl ?_
      have s3 : Same H (upd H' T' (.tup [.int (i : Nat), .int c])) := s2.trans (Same.new hT)
      have el3 := at_new (o := .tup [.int (i : Nat), .int c]) hT el
      have eF3 := at_new (o := .tup [.int (i : Nat), .int c]) hT eF2
      generalize upd H' T' (.tup [.int (i : Nat), .int c]) = H3 at *
      walk_at "gi"
      refine r_rI (bit_mul (a := 20) (b := 20) (bit_of (pf_bits n0 n1)) (bit_of (by have : (2 : Nat) ^ 20 = 1048576 := by decide
                                                                                    omega)) (by decide)) ?_
      walk_at "gi"
      refine r_rI (by omega) ?_
      walk_at "gi"
      rw [pf_next, gcd_pf]
      refine r_rI (by omega) ?_
      walk_at "gi"
      by_cases cz : c % (gk n i : Int) = 0
      case neg =>
        rw [show (c % (gk n i : Int) != 0) = true from bne_iff_ne.mpr cz]
        walk_at "gi"
        refine qn H3 s3 (fun f g => cz ?_) ⟨i, il, fun e => cz ?_⟩
        · have h1 := steps_firsts hl g.v i il
          have d1 : (gk n i : Int) ∣ (n : Int) := Int.natCast_dvd_natCast.mpr (Nat.gcd_dvd_left _ _)
          have d2 : (gk n i : Int) ∣ (fac i : Int) := Int.natCast_dvd_natCast.mpr (Nat.gcd_dvd_right _ _)
          have h2 := Int.dvd_sub (Int.dvd_trans d2 (Int.dvd_mul_left (f.getD i 0) (fac i : Int))) (Int.dvd_trans d1 h1)
          rw [show f.getD i 0 * (fac i : Int) - (f.getD i 0 * (fac i : Int) - (firsts n n v).getD i 0) = (firsts n n v).getD i 0 by omega, getD_at ec] at h2
          exact Int.emod_eq_zero_of_dvd h2
        · rw [e]
          exact Int.emod_one c
      rw [show (c % (gk n i : Int) != 0) = false by rw [cz]; rfl]
      walk_at "gi"
      refine r_rI (divw_of (by omega) (by omega)) ?_
      walk_at "gi"
      have zp := sz_pos i n0
      have zn : sz n i ≤ n := Nat.div_le_self _ _
      rw [show (n : Int) / (gk n i : Int) = ((sz n i : Nat) : Int) from rfl]
      refine ⟨.inl ⟨rfl, _, SqL.of eF3⟩, ?_⟩
      walk_at "gi"
      refine r_rI (divw_of (by omega) (by omega)) ?_
      walk_at "gi"
      refine r_rI (divw_of (by omega) (by omega)) ?_
      walk_at "gi"
      have q0 := Int.ediv_nonneg ps.1 (show (0 : Int) ≤ (gk n i : Int) by omega)
      refine ⟨_, sz n i, rfl, q0, zp, le_Bq (by omega), fun u w H4 e4 s4 => ?_⟩
      walk_at "gi"
      rw [cop_pf n0] at e4
      have st := step_ok (i := i) n0 cz e4
      rw [← getD_at ec] at st
      have cb := (firsts_small n0 (hl := hl) hv i il)
      rw [getD_at ec] at cb
      have c1 := Int.ediv_nonneg cb.1 (show (0 : Int) ≤ (gk n i : Int) by omega)
      have c2 := Int.ediv_le_self (gk n i : Int) cb.1
      have m1 := Int.emod_nonneg u (show ((sz n i : Nat) : Int) ≠ 0 by omega)
      have m2 := Int.emod_lt_of_pos u (show (0 : Int) < ((sz n i : Nat) : Int) by omega)
      refine r_rI (bit_mul (a := 20) (b := 20) (bit_of (by have : (2 : Nat) ^ 20 = 1048576 := by decide
                                                           omega)) (bit_of (by have : (2 : Nat) ^ 20 = 1048576 := by decide
                                                                               omega)) (by decide)) ?_
      walk_at "gi"
      refine r_rI (by omega) ?_
      walk_at "gi"
      rw [getD_at ec] at st
      obtain ⟨y, hy⟩ : ∃ y, c / (gk n i : Int) * (u % ((sz n i : Nat) : Int)) % ((sz n i : Nat) : Int) = y := ⟨_, rfl⟩
      rw [hy] at st ⊢
      have y0 : 0 ≤ y := by rw [← hy]; exact Int.emod_nonneg _ (by omega)
      have y1 : y < (sz n i : Int) := by rw [← hy]; exact Int.emod_lt_of_pos _ (by omega)
      refine r_app (s4 _ _ eF3) (by rw [ints_len]; omega) ?_
      have e2 : fs.map V.int ++ [V.int y] = (fs ++ [y]).map V.int := by rw [List.map_append]; rfl
      rw [e2]
      walk_at "gi"
      refine ⟨_, _, _, _, fs ++ [y], rfl, fun b o e => ?_, ?_, upd_same, by rw [List.length_append, lf]; rfl, fun k hk' => ?_⟩
      · rw [upd_ne (ne_of_none e hF)]
        exact s4 _ _ (s3 _ _ e)
      · rw [upd_ne nlF]
        exact s4 _ _ el3
      · rw [List.getD_eq_getElem?_getD]
        rcases Nat.lt_or_ge k i with c1 | c1
        · rw [List.getElem?_append_left (by omega), ← List.getD_eq_getElem?_getD]
          exact hk k c1
        · have : k = i := by omega
          subst this
          rw [List.getElem?_append_right (by omega), lf, Nat.sub_self, getD_at ec]
          exact ⟨⟨y0, y1⟩, st⟩
    · rw [fl] at hP
      obtain ⟨x4, x5, x6, x7, fs, rfl, s2, el, eF2, lf, hk⟩ := hP
      walk_at "gi"
      have hne : fs ≠ [] := fun e => by
        rw [e] at lf
        simp at lf
        omega
      have good : Good n v fs := ⟨lf, fun k h => (hk k h).1, firsts_steps hl lf fun k h => (hk k h).2⟩
      refine ⟨F, fs, rfl, SqL.of eF2, hne, by omega, fun r b H4 s4 n4 e4 hc hv' _ _ => ?_⟩
      exact qt r fs b H4 (s2.trans s4) (none_same s2 n4) e4 good hc hv'
end
section
variable {P : Program} {w : World} {K : PySem.W.Frag} {mg : Str → Option Value} {base : Heap}
structure Tbl (n : Nat) (v : List Int) : Prop where
  len : v.length = n
  n0 : 0 < n
  n1 : n ≤ 1000
  b : ∀ k < n, 0 ≤ v.getD k 0 ∧ v.getD k 0 < n
def sp_chk (K : PySem.W.Frag) : Sp := fun vs H Q _ => ∃ (a : Addr) (v : List Int) (n : Nat), vs = [.ref a, .int (n : Int), .bl false] ∧ SqT K H a (v.map V.int) ∧ Tbl n v ∧ ∀ H', Same H H' → Q .non H'
theorem ok_check_table (T : Top K mg) : Ok P w K mg base 5 "check_table" s_check_table ["values", "base", "with_gaps"] (sp_chk K) := by
  have G_check_base := ok_check_base (P := P) (w := w) (base := base) T
  have G_is_within := ok_is_within (P := P) (w := w) (base := base) T
  refine T.d_check_table.ok sc_check_table (fun vs H Q E h => ?_) (fun f cdv A outer s H vs Q E hg hr h => ?_)
  · obtain ⟨a, v, n, rfl, _⟩ := h
    rfl
  · obtain ⟨a, v, n, rfl, sv, ⟨hl, n0, n1, hv⟩, q⟩ := h
    refine ⟨_, (pss_cons (ps_expr (pe_g G_check_base (fun _ _ F => bd_check_base F) hg (hr.mono (by decide)) passL (by rfl) (pa_cons (pv 1) pa_nil)))
    (pss_cons (ps_if (pt_cmpR op_gt (pv 1) (pe_gi T.c_MOST_TABLE (by rfl)) (nomark _)) (pss_one ps_never) pss_nil)
    (pss_cons (ps_if (PW.pt (pw_or (pt_not (pt_val (pe_callB (id := "isinstance") (c_isi rfl) (by rfl) T.b_isinstance (by decide +kernel) (pa_cons (pv 0) (pa_cons (pe_bltn (v := .ty "tuple") (by rfl) T.b_tuple (by decide +kernel) rfl) pa_nil))))) (pw_or1 (pt_cmpR op_neZ (pe_callB (id := "len") (c_len rfl) (by rfl) T.b_len (by decide +kernel) (pa_cons (pv 0) pa_nil)) (pv 1) (nomark _))))) (pss_one ps_never) pss_nil)
    (pss_one (ps_for (passes_of rfl) rfl (i_enT rfl (by rfl) T.b_enumerate (pa_cons (pv 0) pa_nil)) (g_tup rfl rfl (pgs_cons (pg_name (i := 3) sc_check_table.nd rfl (.inl rfl)) (pgs_cons (pg_name (i := 4) sc_check_table.nd rfl (.inl rfl)) pgs_nil)) rfl rfl) (pss_one (ps_if (PW.pt (pw_and (pt_not (pt_val (pe_g G_is_within (fun _ _ F => bd_is_within F) hg (hr.mono (by decide)) passL (by rfl) (pa_cons (pv 4) (pa_cons pe_int (pa_cons (pe_op op_sub (pv 1) pe_int) pa_nil)))))) (pw_and1 (pt_not (PW.pt (pw_and (pt_truth (pv 2) (by intro _; rfl)) (pw_and1 (pt_cmpR op_isN (pv 4) pe_non (nomark _))))))))) (pss_one ps_never) pss_nil))))))), ?_⟩
    walk_at "sti"
    refine ⟨(n : Int), rfl, by omega, by omega, ?_⟩
    walk_at "gi"
    rw [decide_eq_false (show ¬ (1000 : Int) < (n : Int) by omega)]
    walk_at "gi"
    refine is_T_T sv ?_
    walk_at "gi"
    rw [ints_len, decide_eq_true (show (v.length : Int) = (n : Int) by omega)]
    walk_at "gi"
    refine ⟨a, _, rfl, sv, ?_⟩
    refine r_forEn (v.map V.int) (fun i σ H' => ∃ x2 x3, σ = [some (.ref a), some (.int (n : Int)), some (.bl false), x2, x3] ∧ Same H H') ⟨_, _, rfl, Same.refl _⟩ (fun i σ H' hi hP => ?_) (fun i x σ H' T' hi hP hT => ?_) (fun σ H' hP => ?_)
    · obtain ⟨x2, x3, rfl, s1⟩ := hP
      exact Same.tup s1 sv
    · obtain ⟨x2, x3, rfl, s1⟩ := hP
      obtain ⟨c, ec, rfl⟩ := ints_at hi
      have il : i < n := by
        have := (List.getElem?_eq_some_iff.mp ec).1
        omega
      have cb := hv i il
      rw [getD_at ec] at cb
      refine r_gtup (SqT.of upd_same) rfl ?_
      walk_at "gi"
      refine ⟨c, 0, (n : Int) - 1, rfl, ?_⟩
      rw [decide_eq_true (show 0 ≤ c ∧ c ≤ (n : Int) - 1 from ⟨cb.1, by omega⟩)]
      walk_at "gi"
      exact s1.trans (Same.new hT)
    · obtain ⟨x2, x3, rfl, s1⟩ := hP
      walk_at "gi"
      exact q _ s1
def sp_fot (K : PySem.W.Frag) : Sp := fun vs H Q _ => ∃ (a : Addr) (v : List Int) (n : Nat), vs = [.ref a, .int (n : Int)] ∧ SqT K H a (v.map V.int) ∧ Tbl n v ∧ Told n v H Q
theorem ok_form_of_table (T : Top K mg) : Ok P w K mg base 6 "form_of_table" s_form_of_table ["values", "base"] (sp_fot K) := by
  have G_check_table := ok_check_table (P := P) (w := w) (base := base) T
  have G_form_of_rests := ok_form_of_rests (P := P) (w := w) (base := base) T
  refine T.d_form_of_table.ok sc_form_of_table (fun vs H Q E h => ?_) (fun f cdv A outer s H vs Q E hg hr h => ?_)
  · obtain ⟨a, v, n, rfl, _⟩ := h
    rfl
  · obtain ⟨a, v, n, rfl, sv, hT, qn, qt⟩ := h
    refine ⟨_, (pss_cons (ps_expr (pe_g G_check_table (fun _ _ F => bd_check_table F) hg (hr.mono (by decide)) passL (by rfl) (pa_cons (pv 0) (pa_cons (pv 1) (pa_cons pe_bl pa_nil)))))
    (pss_one (ps_ret (pe_g G_form_of_rests (fun _ _ F => bd_form_of_rests F) hg (hr.mono (by decide)) passL (by rfl) (pa_cons (pv 0) (pa_cons (pv 1) pa_nil)))))), ?_⟩
    walk_at "sti"
    refine ⟨a, v, n, rfl, sv, hT, fun H1 s1 => ?_⟩
    walk_at "gi"
    exact ⟨a, v, n, rfl, Same.tup s1 sv, hT.len, hT.n0, hT.n1, hT.b, fun H2 s2 h1 h2 => qn H2 (s1.trans s2) h1 h2, fun r f b H2 s2 n2 e2 g hc hv => qt r f b H2 (s1.trans s2) (none_same s1 n2) e2 g hc hv⟩
def sp_ist (K : PySem.W.Frag) : Sp := fun vs H Q _ => ∃ (a : Addr) (v : List Int) (n : Nat), vs = [.ref a, .int (n : Int)] ∧ SqT K H a (v.map V.int) ∧ Tbl n v ∧ (∀ H', Same H H' → (∀ f, ¬ Good n v f) → Q (.bl false) H') ∧ ∀ f H', Same H H' → Good n v f → Q (.bl true) H'
theorem ok_is_table (T : Top K mg) : Ok P w K mg base 7 "is_table" s_is_table ["values", "base"] (sp_ist K) := by
  have G_form_of_table := ok_form_of_table (P := P) (w := w) (base := base) T
  refine T.d_is_table.ok sc_is_table (fun vs H Q E h => ?_) (fun f cdv A outer s H vs Q E hg hr h => ?_)
  · obtain ⟨a, v, n, rfl, _⟩ := h
    rfl
  · obtain ⟨a, v, n, rfl, sv, hT, qn, qt⟩ := h
    refine ⟨_, (pss_one (ps_ret (pe_cmpR op_notN (pe_g G_form_of_table (fun _ _ F => bd_form_of_table F) hg (hr.mono (by decide)) passL (by rfl) (pa_cons (pv 0) (pa_cons (pv 1) pa_nil))) pe_non (nomark _)))), ?_⟩
    walk_at "sti"
    refine ⟨a, v, n, rfl, sv, hT, fun H1 s1 h1 h2 => ?_, fun r f b H1 s1 n1 e1 g hc hv => ?_⟩
    · walk_at "gi"
      refine ⟨rfl, ?_⟩
      rw [decide_eq_true (show V.non = V.non from rfl)]
      exact qn H1 s1 h1
    · walk_at "gi"
      refine ⟨rfl, ?_⟩
      rw [decide_eq_false (show ¬ V.ref b = V.non from fun e => nomatch e)]
      exact qt f H1 s1 g
def sp_lf (K : PySem.W.Frag) : Sp := fun vs H Q _ => ∃ (a : Addr) (p : List Int) (n : Nat), vs = [.ref a, .int (n : Int)] ∧ SqT K H a (p.map V.int) ∧ Right p ∧ p.length ≤ 7 ∧ (∀ c ∈ p, c.natAbs ≤ 1000000000) ∧ 0 < n ∧ n ≤ 1000 ∧
  ∀ r b H' t h, Same H H' → H b = none → H' b = some (.tup (r.map V.int)) → Canon r → (∀ x, pval r x = pval h x) → t.length = p.length → (∀ x, nval t 0 x = pval p x) → h.length = p.length → (∀ k < p.length, h.getD k 0 = t.getD k 0 % (sz n k : Int)) → Q (.ref b) H'
theorem ok_least_form (T : Top K mg) : Ok P w K mg base 6 "least_form" s_least_form ["terms", "base"] (sp_lf K) := by
  have G_check_sum := ok_check_sum (P := P) (w := w) (base := base) T
  have G_check_base := ok_check_base (P := P) (w := w) (base := base) T
  have G_form_of_sum := ok_form_of_sum (P := P) (w := w) (base := base) T
  refine T.d_least_form.ok sc_least_form (fun vs H Q E h => ?_) (fun f cdv A outer s H vs Q E hg hr h => ?_)
  · obtain ⟨a, p, n, rfl, _⟩ := h
    rfl
  · obtain ⟨a, p, n, rfl, sv, R, hl, hb, n0, n1, q⟩ := h
    refine ⟨_, (pss_cons (ps_expr (pe_g G_check_sum (fun _ _ F => bd_check_sum F) hg (hr.mono (by decide)) passL (by rfl) (pa_cons (pv 0) pa_nil)))
    (pss_cons (ps_expr (pe_g G_check_base (fun _ _ F => bd_check_base F) hg (hr.mono (by decide)) passL (by rfl) (pa_cons (pv 1) pa_nil)))
    (pss_one (ps_ret (pe_g G_form_of_sum (fun _ _ F => bd_form_of_sum F) hg (hr.mono (by decide)) passL (by rfl) (pa_cons (pv 0) (pa_cons (pv 1) pa_nil))))))), ?_⟩
    walk_at "sti"
    refine ⟨a, p, rfl, sv, R, ?_⟩
    walk_at "gi"
    refine ⟨(n : Int), rfl, by omega, by omega, ?_⟩
    walk_at "gi"
    exact ⟨a, p, n, rfl, sv, R.1.1, hl, hb, n0, n1, q⟩
end
section
variable {P : Program} {w : World} {K : PySem.W.Frag} {mg : Str → Option Value} {base : Heap}
theorem e60 : (2 : Nat) ^ 60 = 1152921504606846976 := by decide
theorem e59 : (2 : Nat) ^ 59 = 576460752303423488 := by decide
theorem e62 : (2 : Int) ^ 62 = 4611686018427387904 := by decide
theorem ok__law_tap (T : Top K mg) : Ok P w K mg base 1 "_law_tap" s__law_tap ["_law_cask_here", "_law_many"] sp_ctap := by
  refine T.d__law_tap.ok sc__law_tap (fun vs H Q E h => ?_) (fun f cdv A outer s H vs Q E hg hr h => ?_)
  · obtain ⟨k, u, n, rfl, _⟩ := h
    rfl
  · obtain ⟨k, u, n, rfl, ⟨a, b, c, hk, o⟩, hn, h0, h1, q⟩ := h
    obtain ⟨oa, oab, ob, obM, oc, ocn⟩ := o
    have E60 := e60
    refine ⟨_, (pss_cons (ps_asg (pe_op op_add (pe_ix (x_list rfl) (pv 0) pe_int (fun _ _ => rfl)) pe_int) (pg_sub (pv 0) pe_int set_list))
    (pss_cons (ps_if (pt_cmpR op_gt (pe_ix (x_list rfl) (pv 0) pe_int (fun _ _ => rfl)) pe_int (nomark _)) (pss_cons (ps_asg (pe_callB (id := "divmod") c_divmod (by rfl) T.b_divmod (by decide +kernel) (pa_cons (pe_callTy (T := "int") c_int (by rfl) T.b_int (by decide +kernel) (pa_cons (pe_ix (x_list rfl) (pv 0) pe_int (fun _ _ => rfl)) pa_nil)) (pa_cons (pv 1) pa_nil))) (g_tup rfl rfl (pgs_cons (pg_sub (pv 0) pe_int set_list) (pgs_cons (pg_name (i := 2) sc__law_tap.nd rfl (.inl rfl)) pgs_nil)) rfl rfl))
    (pss_one (ps_ret (pv 2)))) pss_nil)
    (pss_cons (ps_asg (pe_op op_mod (pe_callTy (T := "int") c_int (by rfl) T.b_int (by decide +kernel) (pa_cons (pe_op op_add (pe_op op_add (pe_op op_mulX (pe_ix (x_list rfl) (pv 0) pe_int (fun _ _ => rfl)) pe_int) (pe_op op_mulX (pe_ix (x_list rfl) (pv 0) pe_int (fun _ _ => rfl)) pe_int)) (pe_op op_mulX (pe_op op_fdivW (pe_ix (x_list rfl) (pv 0) pe_int (fun _ _ => rfl)) pe_int) pe_int)) pa_nil)) pe_int) (pg_sub (pv 0) pe_int set_list))
    (pss_one (ps_ret (pe_op op_mod (pe_callTy (T := "int") c_int (by rfl) T.b_int (by decide +kernel) (pa_cons (pe_op op_fdivW (pe_ix (x_list rfl) (pv 0) pe_int (fun _ _ => rfl)) pe_int) pa_nil)) (pv 1))))))), ?_⟩
    walk_at "st"
    refine r_ixL (SqL.of hk) (atI_nat (j := 1) rfl) ?_
    walk_at "go"
    refine r_setL (j := 1) hk rfl ?_
    walk_at "gi"
    have hk1 : upd H k (.lst ([V.int b, V.int c, V.int a].set 1 (V.int (c + 11)))) k = some (.lst [.int b, .int (c + 11), .int a]) := upd_same
    have x1 : Kx k H (upd H k (.lst ([V.int b, V.int c, V.int a].set 1 (V.int (c + 11))))) := Kx.upd
    generalize upd H k (.lst ([V.int b, V.int c, V.int a].set 1 (V.int (c + 11)))) = H1 at *
    have L : SqL K H1 k [.int b, .int (c + 11), .int a] := SqL.of hk1
    refine r_ixL L (atI_nat (j := 2) rfl) ?_
    walk_at "gi"
    refine ifd (fun ca => ?_) (fun ca => ?_)
    · walk_at "gi"
      refine r_ixL L (atI_nat (j := 2) rfl) ?_
      walk_at "gi"
      refine r_divmod (divp_of h0 h1) fun p hp => ?_
      walk_at "gi"
      refine r_setL (j := 2) (at_new hp hk1) rfl ?_
      walk_at "gi"
      refine q _ _ (Int.emod_nonneg _ (by omega)) (Int.emod_lt_of_pos _ h0) (x1.trans (Kx.trans (Same.toKx (Same.new hp)) Kx.upd)) ⟨a / u, b, c + 11, upd_same, ⟨Int.ediv_nonneg oa (by omega), ?_, ob, obM, by omega, by omega⟩⟩
      refine Nat.le_trans (bits_mono ?_) oab
      have := Int.ediv_le_self u oa
      have := Int.ediv_nonneg oa (show 0 ≤ u by omega)
      omega
    · walk_at "go"
      refine r_ixL L (atI_nat (j := 0) rfl) ?_
      walk_at "go"
      refine r_rI (bit_mul (a := 64) (b := 64) (bit_of (by omega)) (bit_of (by decide)) (by decide)) ?_
      walk_at "go"
      refine r_ixL L (atI_nat (j := 1) rfl) ?_
      walk_at "go"
      refine r_rI (bit_mul (a := 70) (b := 64) (bit_of (by omega)) (bit_of (by decide)) (by decide)) ?_
      walk_at "go"
      refine r_ixL L (atI_nat (j := 0) rfl) ?_
      walk_at "go"
      refine r_rI (divw_of (by decide) (by decide)) ?_
      walk_at "go"
      have d1 := Int.ediv_nonneg ob (show (0 : Int) ≤ 19013 by decide)
      have d2 := Int.ediv_le_self 19013 ob
      refine r_rI (bit_mul (a := 64) (b := 64) (bit_of (by omega)) (bit_of (by decide)) (by decide)) ?_
      walk_at "go"
      refine r_rI (by decide) ?_
      walk_at "go"
      generalize hz : (b * 58099 + (c + 11) * 70051 + b / 19013 * 107) % 1999999267 = z
      have z1 : 0 ≤ z := by rw [← hz]; exact Int.emod_nonneg _ (by decide)
      have z2 : z < 1999999267 := by rw [← hz]; exact Int.emod_lt_of_pos _ (by decide)
      refine r_setL (j := 0) hk1 rfl ?_
      walk_at "go"
      refine r_ixL (SqL.of upd_same) (atI_nat (j := 0) rfl) ?_
      walk_at "go"
      refine r_rI (divw_of (by decide) (by decide)) ?_
      walk_at "go"
      refine r_rI h0 ?_
      refine q _ _ (Int.emod_nonneg _ (by omega)) (Int.emod_lt_of_pos _ h0) (x1.trans Kx.upd) ⟨a, z, c + 11, upd_same, ⟨oa, oab, z1, by omega, by omega, by omega⟩⟩
theorem ok__law_cask (T : Top K mg) : Ok P w K mg base 1 "_law_cask" s__law_cask ["_law_script", "_law_k"] (sp_cask K) := by
  refine T.d__law_cask.ok sc__law_cask (fun vs H Q E h => ?_) (fun f cdv A outer s H vs Q E hg hr h => ?_)
  · obtain ⟨c, ns, j, rfl, _⟩ := h
    rfl
  · obtain ⟨c, ns, j, rfl, hs, ⟨hl, hb⟩, hj, q⟩ := h
    have cell : ∀ i : Nat, i < ns.length → ∃ z, (ns.map V.int)[i]? = some (V.int z) ∧ Builtin.Int.intBits z ≤ 1048576 := fun i hi =>
      ⟨ns[i], by rw [List.getElem?_map, List.getElem?_eq_getElem hi]; rfl, hb _ (List.getElem_mem hi)⟩
    refine ⟨_, (pss_cons (ps_set (i := 2) sc__law_cask.nd rfl (.inl rfl) (pe_ifExp (pt_cmpR op_lt (pv 1) (pe_callB (id := "len") (c_len rfl) (by rfl) T.b_len (by decide +kernel) (pa_cons (pv 0) pa_nil)) (nomark _)) (pe_callTy (T := "int") c_int (by rfl) T.b_int (by decide +kernel) (pa_cons (pe_ix (x_list rfl) (pv 0) (pv 1) (fun _ _ => rfl)) pa_nil)) (pe_op op_add (pe_op op_mulX pe_int (pv 1)) pe_int)))
    (pss_cons (ps_set (i := 3) sc__law_cask.nd rfl (.inl rfl) (pe_op op_add pe_int (pe_op op_mulX pe_int (pv 1))))
    (pss_cons (ps_for (passes_of rfl) rfl (i_list rfl (pe_slice (s_list rfl) (pv 0) po_none (po_some pe_int))) (pg_name (i := 4) sc__law_cask.nd rfl (.inl rfl)) (pss_one (ps_set (i := 3) sc__law_cask.nd rfl (.inl rfl) (pe_op op_mod (pe_callTy (T := "int") c_int (by rfl) T.b_int (by decide +kernel) (pa_cons (pe_op op_add (pe_op op_mulX (pv 3) pe_int) (pe_op op_mod (pe_callTy (T := "int") c_int (by rfl) T.b_int (by decide +kernel) (pa_cons (pv 4) pa_nil)) pe_int)) pa_nil)) pe_int))))
    (pss_one (ps_ret (pe_lst (pa_cons (pe_op op_mod (pe_callTy (T := "int") c_int (by rfl) T.b_int (by decide +kernel) (pa_cons (pe_op op_add (pe_op op_mulX (pv 3) pe_int) (pe_op op_mod (pv 2) pe_int)) pa_nil)) pe_int) (pa_cons pe_int (pa_cons (pe_ifExp (PW.pt (pw_or (pt_cmpR op_lt (pv 2) pe_int (nomark _)) (pw_or1 (pt_cmpR op_ge (pv 2) (pe_op op_pow pe_int pe_int) (nomark _))))) (pe_callB (id := "abs") c_abs (by rfl) T.b_abs (by decide +kernel) (pa_cons (pv 2) pa_nil)) pe_int) pa_nil))))))))), ?_⟩
    walk_at "st"
    refine j_if (fun v H' => H' = H ∧ ∃ own : Int, v = .int own ∧ Builtin.Int.intBits own ≤ 1048576) (fun Q' q' => ?_) (fun v H' hv => ?_)
    · walk_at "gi"
      refine ifd (fun cc => ?_) (fun cc => ?_)
      · walk_at "gi"
        have hj2 : j < ns.length := by
          rw [List.length_map] at cc
          omega
        obtain ⟨z, e, hz⟩ := cell j hj2
        refine r_ixL hs (atI_nat e) ?_
        walk_at "gi"
        exact q' _ _ ⟨rfl, z, rfl, hz⟩
      · walk_at "gi"
        refine r_rI (bit_mul (a := 64) (b := 64) (bit_of (by decide)) (bit_of (by omega)) (by decide)) ?_
        walk_at "gi"
        exact q' _ _ ⟨rfl, _, rfl, Nat.le_trans (bit_of (a := 64) (by omega)) (by decide)⟩
    obtain ⟨rfl, own, rfl, ho⟩ := hv
    walk_at "go"
    refine r_rI (bit_mul (a := 64) (b := 64) (bit_of (by decide)) (bit_of (by omega)) (by decide)) ?_
    walk_at "go"
    refine r_slL hs fun p hp => ?_
    walk_at "go"
    have cut : cutV (ns.map V.int) none (some 10) = (ns.take 10).map V.int := by
      exact (cut_to (ns.map V.int) 10).trans (List.map_take ..).symm
    rw [cut]
    have hcut : ∀ z ∈ ns.take 10, Builtin.Int.intBits z ≤ 1048576 := fun z hz => hb z (List.mem_of_mem_take hz)
    generalize ns.take 10 = ms at *
    refine r_forLs (ms.map V.int) (fun i σ H1 => H1 = upd H' p (.lst (ms.map V.int)) ∧ ∃ (bl : Int) (x4 : Option V), σ = [some (.ref c), some (.int (j : Int)), some (.int own), some (.int bl), x4] ∧ 0 ≤ bl ∧ bl < 2 ^ 40)
      ⟨rfl, 160073 + 2801 * (j : Int), none, rfl, by omega, by omega⟩ (fun i σ H1 _ hP => ?_) (fun i x σ H1 hi hP => ?_) (fun σ H1 hP => ?_)
    · obtain ⟨rfl, _⟩ := hP
      exact SqL.of upd_same
    · obtain ⟨rfl, bl, x4, rfl, b0, b1⟩ := hP
      have hx : ∃ z, x = V.int z ∧ Builtin.Int.intBits z ≤ 1048576 := by
        rw [List.getElem?_map] at hi
        cases e : ms[i]? with
        | none => rw [e] at hi; cases hi
        | some z =>
          rw [e] at hi
          exact ⟨z, (Option.some.inj hi).symm, hcut z (List.mem_of_getElem? e)⟩
      obtain ⟨z, rfl, hz⟩ := hx
      walk_at "go"
      refine r_rI (bit_mul (a := 64) (b := 64) (bit_of (by omega)) (bit_of (by decide)) (by decide)) ?_
      walk_at "go"
      refine r_rI (by decide) ?_
      walk_at "go"
      refine r_rI (by decide) ?_
      walk_at "go"
      exact ⟨rfl, _, _, rfl, Int.emod_nonneg _ (by decide), Int.lt_trans (Int.emod_lt_of_pos _ (by decide)) (by decide)⟩
    obtain ⟨rfl, bl, x4, rfl, b0, b1⟩ := hP
    walk_at "go"
    refine r_rI (bit_mul (a := 64) (b := 64) (bit_of (by omega)) (bit_of (by decide)) (by decide)) ?_
    walk_at "go"
    refine r_rI (by decide) ?_
    walk_at "go"
    refine r_rI (by decide) ?_
    walk_at "go"
    refine j_if (fun v H1 => H1 = upd H' p (.lst (ms.map V.int)) ∧ ∃ a : Int, v = .int a ∧ 0 ≤ a ∧ Builtin.Int.intBits a ≤ 1048600) (fun Q' q' => ?_) (fun v H1 hv => ?_)
    · walk_at "gi"
      refine ifd (fun cc => ?_) (fun cc => ?_)
      · walk_at "gi"
        refine q' _ _ ⟨rfl, _, rfl, by omega, Nat.le_trans (bits_mono ?_) (Nat.le_trans ho (by decide))⟩
        omega
      · walk_at "gi"
        refine r_rI ⟨by decide, by decide, by decide⟩ ?_
        walk_at "gi"
        refine ifd (fun c2 => ?_) (fun c2 => ?_)
        · walk_at "gi"
          refine q' _ _ ⟨rfl, _, rfl, by omega, Nat.le_trans (bits_mono ?_) (Nat.le_trans ho (by decide))⟩
          omega
        · walk_at "gi"
          exact q' _ _ ⟨rfl, 0, rfl, by decide, by decide⟩
    obtain ⟨rfl, a, rfl, a0, ab⟩ := hv
    walk_at "go"
    exact q _ _ (by walk_at "vsame") (none_up (by assumption)) ⟨a, _, 17, upd_same, ⟨a0, ab, Int.emod_nonneg _ (by decide), Int.lt_trans (Int.emod_lt_of_pos _ (by decide)) (by decide), by decide, by decide⟩⟩
end
section
variable {P : Program} {w : World} {K : PySem.W.Frag} {mg : Str → Option Value} {base : Heap}
theorem pv_bits {p : List Int} {x : Int} (hl : p.length ≤ 13) (hb : l1 p ≤ 2 ^ 50) (hx : x.natAbs ≤ 2 ^ 140) : (pval p x).natAbs < 2 ^ 1880 := by
  have h1 := pval_le p x (2 ^ 140) Nat.one_le_two_pow hx
  have h2 : (2 ^ 140) ^ p.length ≤ (2 : Nat) ^ 1820 := by
    rw [← Nat.pow_mul]
    exact two_le (by omega)
  have h3 : l1 p * (2 ^ 140) ^ p.length ≤ 2 ^ 50 * 2 ^ 1820 := Nat.mul_le_mul hb h2
  have h4 : (2 : Nat) ^ 50 * 2 ^ 1820 < 2 ^ 1880 := by
    rw [← Nat.pow_add]
    exact two_lt (by decide)
  exact Nat.lt_of_le_of_lt h1 (Nat.lt_of_le_of_lt h3 h4)
end
section
variable {P : Program} {w : World} {K : PySem.W.Frag} {mg : Str → Option Value} {base : Heap}
/-! ### drawn sums, their values -/
theorem l1_le (s : Nat) : ∀ (t : List Int), (∀ c ∈ t, c.natAbs ≤ s) → l1 t ≤ t.length * s
  | [], _ => Nat.zero_le _
  | c :: t, h => by
    have h1 := h c List.mem_cons_self
    have h2 := l1_le s t fun d hd => h d (List.mem_cons_of_mem _ hd)
    rw [l1, List.length_cons, Nat.add_mul]
    omega
def sp_row (K : PySem.W.Frag) : Sp := fun vs H Q _ => ∃ (k : Addr) (most size n : Nat), vs = [.ref k, .int (most : Int), .int (size : Int)] ∧ Cask n k H ∧ n ≤ 2 ^ 59 ∧ most ≤ 12 ∧ size ≤ 2 ^ 40 ∧
  ∀ a p H', Kx k H H' → H a = none → Cask (n + 20) k H' → H' a = some (.tup (p.map V.int)) → Canon p → l1 p ≤ (most + 1) * size → p.length ≤ most + 1 → (∀ c ∈ p, c.natAbs ≤ size) → Q (.ref a) H'
theorem dropLast_canon {p : List Int} (ne : p ≠ []) (h : p.length = 1 ∨ p.getD (p.length - 1) 0 ≠ 0) : Canon p := ⟨ne, h⟩
theorem ok__law_row (T : Top K mg) : Ok P w K mg base 2 "_law_row" s__law_row ["_law_cask_here", "_law_most", "_law_size"] (sp_row K) := by
  have G__law_tap := ok__law_tap (P := P) (w := w) (base := base) T
  refine T.d__law_row.ok sc__law_row (fun vs H Q E h => ?_) (fun f cdv A outer s H vs Q E hg hr h => ?_)
  · obtain ⟨k, most, size, n, rfl, _⟩ := h
    rfl
  · obtain ⟨k, most, size, n, rfl, hk, hn, hm, hs, q⟩ := h
    have E60 := e60
    have E59 := e59
    have E62 := e62
    have E40 : (2 : Nat) ^ 40 = 1099511627776 := by decide
    refine ⟨_, (pss_cons (ps_setLc (i := 3) (own := [("_law_k", 4)]) (by rfl) sc__law_row.nd rfl rfl (sw_true rfl rfl rfl (by decide +kernel)) (pi_range1 (by rfl) T.b_range (pa_cons (pe_op op_add pe_int (pe_g G__law_tap (fun _ _ F => bd__law_tap F) hg (hr.mono (by decide)) passL (by rfl) (pa_cons (pv 0) (pa_cons (pe_op op_add (pv 1) pe_int) pa_nil)))) pa_nil)) (blkOk_by (own := [("_law_k", 4)]) (N := ["_law_cask_here", "_law_most", "_law_size", "_law_found", "_law_k"]) (sc := defScope s__law_row) (by decide +kernel)) (fun _ _ _ _ _ => (pg_name (i := 4) sc__law_row.nd rfl (Or.inl rfl))) (fun _ _ _ _ _ => pts_nil) (fun _ _ _ _ _ => (pe_op op_sub (pe_g G__law_tap (fun _ _ F => bd__law_tap F) hg (hr.mono (by decide)) passL (by rfl) (pa_cons (pv 0) (pa_cons (pe_op op_add (pe_op op_mulX pe_int (pv 2)) pe_int) pa_nil))) (pv 2))))
    (pss_cons (ps_while (passes_of rfl) (PW.pt (pw_and (pt_cmpR op_gt (pe_callB (id := "len") (c_len rfl) (by rfl) T.b_len (by decide +kernel) (pa_cons (pv 3) pa_nil)) pe_int (nomark _)) (pw_and1 (pt_cmpR op_eqZ (pe_ix (x_list rfl) (pv 3) (pe_un un_neg pe_int) (fun _ _ => rfl)) pe_int (nomark _))))) (pss_one (ps_expr (pe_bm0 PySem.F.plainAttrs_list PySem.F.slot_list_pop PySem.F.type_list_pop mt_pop (pv 3)))))
    (pss_one (ps_ret (pe_callTy (T := "tuple") (c_tuple rfl) (by rfl) T.b_tuple (by decide +kernel) (pa_cons (pv 3) pa_nil)))))), ?_⟩
    walk_at "st"
    refine i_ctap n hk (by omega) (by omega) (by omega) fun z H1 z0 z1 x1 k1 => ?_
    walk_at "go"
    refine ⟨by omega, by omega, ?_⟩
    obtain ⟨m, hmz⟩ : ∃ m : Nat, (1 + z).toNat = m := ⟨_, rfl⟩
    rw [hmz]
    have m1 : 1 ≤ m := by omega
    have m2 : m ≤ most + 1 := by omega
    refine r_lcR (fun D i H' => Kx k H1 H' ∧ Cask (n + 1 + i) k H' ∧ ∃ t : List Int, t.length = i ∧ H' D = some (.lst (t.map V.int)) ∧ ∀ c ∈ t, c.natAbs ≤ size) (fun D hD => ⟨Same.toKx (Same.new hD), (k1.new hD).mono (by omega), [], rfl, upd_same, fun _ h => by simp at h⟩) (fun D i H' hD hi hP => ?_) (fun D H' hD hP => ?_)
    · obtain ⟨x2, k2, t, lt, dt, bt⟩ := hP
      have nD := k1.ne hD
      walk_at "go"
      refine ⟨rfl, ?_⟩
      walk_at "go"
      refine r_rI (bit_mul (a := 64) (b := 64) (bit_of (by decide)) (bit_of (by omega)) (by decide)) ?_
      walk_at "go"
      refine i_ctap (n + 1 + i) k2 (by omega) (by omega) (by omega) fun y H3 y0 y1 x3 k3 => ?_
      walk_at "go"
      refine ⟨_, x3 _ _ nD dt, lenle (n := 20) (by rw [List.length_map]; omega) (by decide), fun c o nc e => ?_, ?_, t ++ [y - (size : Int)], by rw [List.length_append, lt]; rfl, ?_, fun c hc => ?_⟩
      · rw [upd_ne (ne_of_none e hD)]
        exact x3 _ _ nc (x2 _ _ nc e)
      · obtain ⟨q1, q2, q3, q4, q5⟩ := k3
        exact ⟨q1, q2, q3, by rw [upd_ne (Ne.symm nD)]; exact q4, ⟨q5.a0, q5.ab, q5.b0, q5.bM, q5.c0, by have := q5.cn; omega⟩⟩
      · rw [List.map_append]
        exact upd_same
      · rcases List.mem_append.mp hc with h | h
        · exact bt c h
        · rw [List.mem_singleton.mp h]
          omega
    · obtain ⟨x2, k2, t, lt, dt, bt⟩ := hP
      have nD := k1.ne hD
      have hDn : H D = none := k1.none x1 hD
      have x02 : Kx k H H' := x1.trans x2
      walk_at "gi"
      refine r_while (fun u σ H2 => ∃ t : List Int, t.length = u ∧ 1 ≤ u ∧ u ≤ m ∧ σ = [some (.ref k), some (.int (most : Int)), some (.int (size : Int)), some (.ref D), none] ∧ Kx k H H2 ∧ Cask (n + 1 + m) k H2 ∧ H2 D = some (.lst (t.map V.int)) ∧ ∀ c ∈ t, c.natAbs ≤ size) m ⟨t, lt, m1, Nat.le_refl _, rfl, x02, k2, dt, bt⟩ fun u σ H2 hW => ?_
      obtain ⟨t, lt, u1, um, rfl, x2, k2, dt, bt⟩ := hW
      have ne : t ≠ [] := fun e => by rw [e] at lt; simp at lt; omega
      have fin : Canon t → ∀ a, H2 a = none → Q (.ref a) (upd H2 a (.tup (t.map V.int))) := fun hc a ha => by
        refine q a t _ (x2.same (Same.new ha)) ?_ ((k2.new ha).mono (by omega)) upd_same hc ?_ (by omega) bt
        · exact k2.none x2 ha
        · refine Nat.le_trans (l1_le size t bt) (Nat.mul_le_mul_right _ (by omega))
      walk_at "gi"
      rw [ints_len]
      refine ifd (fun c => ?_) (fun c => ?_)
      · walk_at "gi"
        refine r_ixL (SqL.of dt) (at_last ne) ?_
        walk_at "gi"
        refine ifd (fun c2 => ?_) (fun c2 => ?_)
        · walk_at "gi"
          rcases List.eq_nil_or_concat t with e | ⟨v, y, e⟩
          · exact absurd e ne
          · rw [List.concat_eq_append] at e
            subst e
            rw [List.map_append] at dt
            refine r_bm0 ?_
            walk_at "gi"
            refine ⟨.inl ⟨rfl, _, SqL.of dt⟩, ?_⟩
            refine r_popL _ _ dt ?_
            walk_at "gi"
            rw [List.length_append] at lt c
            simp only [List.length_singleton] at lt c
            refine ⟨u - 1, by omega, v, by omega, by omega, by omega, rfl, ?_, ?_, upd_same, fun c hc => bt c (List.mem_append_left _ hc)⟩
            · intro c o nc e
              rw [upd_ne (ne_of_none e hDn)]
              exact x2 _ _ nc e
            · obtain ⟨q1, q2, q3, q4, q5⟩ := k2
              exact ⟨q1, q2, q3, by rw [upd_ne (Ne.symm nD)]; exact q4, q5⟩
        · walk_at "gi"
          refine r_tupL (SqL.of dt) fun a ha => ?_
          exact fin ⟨ne, .inr c2⟩ a ha
      · walk_at "gi"
        refine r_tupL (SqL.of dt) fun a ha => ?_
        exact fin ⟨ne, .inl (by omega)⟩ a ha
def sp_law_at (K : PySem.W.Frag) : Sp := fun vs H Q _ => ∃ (a : Addr) (p : List Int) (x : Int), vs = [.ref a, .int x] ∧ SqT K H a (p.map V.int) ∧ p.length ≤ 13 ∧ l1 p ≤ 2 ^ 50 ∧ x.natAbs ≤ 2 ^ 140 ∧ ∀ H', Same H H' → Q (.int (pval p x)) H'
theorem ok__law_at (T : Top K mg) : Ok P w K mg base 1 "_law_at" s__law_at ["_law_row_here", "_law_number"] (sp_law_at K) := by
  refine T.d__law_at.ok sc__law_at (fun vs H Q E h => ?_) (fun f cdv A outer s H vs Q E hg hr h => ?_)
  · obtain ⟨a, p, x, rfl, _⟩ := h
    rfl
  · obtain ⟨a, p, x, rfl, sv, hl, hb, hx, q⟩ := h
    refine ⟨_, (pss_cons (ps_set (i := 2) sc__law_at.nd rfl (.inl rfl) pe_int)
    (pss_cons (ps_for (passes_of rfl) rfl (i_tup' rfl (pe_revT rfl (pv 0))) (pg_name (i := 3) sc__law_at.nd rfl (.inl rfl)) (pss_one (ps_set (i := 2) sc__law_at.nd rfl (.inl rfl) (pe_op op_add (pe_op op_mulX (pv 2) (pv 1)) (pv 3)))))
    (pss_one (ps_ret (pv 2))))), ?_⟩
    walk_at "sti"
    refine r_revT ?_
    walk_at "gi"
    refine ⟨a, _, rfl, sv, fun r hr' => ?_⟩
    refine ⟨r, rfl, ⟨_, SqT.of upd_same⟩, ?_⟩
    refine r_forTs (p.map V.int).reverse (fun i σ H' => ∃ x3, σ = [some (.ref a), some (.int x), some (.int (pval (p.drop (p.length - i)) x)), x3] ∧ H' = upd H r (.tup (p.map V.int).reverse)) ⟨_, by rw [Nat.sub_zero, List.drop_length]; rfl, rfl⟩ (fun i σ H' hi hP => ?_) (fun i v σ H' he hP => ?_) (fun σ H' hP => ?_)
    · obtain ⟨x3, rfl, rfl⟩ := hP
      exact SqT.of upd_same
    · obtain ⟨x3, rfl, rfl⟩ := hP
      have hi := (List.getElem?_eq_some_iff.mp he).1
      rw [List.length_reverse, ints_len] at hi
      rw [List.getElem?_reverse (by rw [ints_len]; exact hi), ints_len] at he
      obtain ⟨c, ec, rfl⟩ := ints_at he
      walk_at "gi"
      have hpv := pv_bits (p := p.drop (p.length - i)) (x := x) (by rw [List.length_drop]; omega) (Nat.le_trans (l1_drop_le p _) hb) hx
      refine r_rI (bit_mul (a := 1880) (b := 141) (bit_of hpv) (bit_of (Nat.lt_of_le_of_lt hx (two_lt (by decide)))) (by decide)) ?_
      walk_at "gi"
      refine ⟨some (.int c), ?_, rfl⟩
      have e := pval_drop (x := x) ec
      rw [show p.length - 1 - i + 1 = p.length - i by omega] at e
      rw [show p.length - (i + 1) = p.length - 1 - i by omega, e, Int.mul_comm x, Int.add_comm c]
      rfl
    · obtain ⟨x3, rfl, rfl⟩ := hP
      rw [List.length_reverse, ints_len, Nat.sub_self, List.drop_zero]
      walk_at "gi"
      exact q _ (Same.new hr')
end
section
variable {P : Program} {w : World} {K : PySem.W.Frag} {mg : Str → Option Value} {base : Heap}
theorem nval_drop {s : List Int} {i : Nat} {c x : Int} (h : s[i]? = some c) : nval (s.drop i) (i : Int) x = c + (x - (i : Int)) * nval (s.drop (i + 1)) ((i + 1 : Nat) : Int) x := by
  rw [drop_at h]
  rfl
def sp_fallL (K : PySem.W.Frag) : Sp := fun vs H Q _ => ∃ (a : Addr) (st : List Int) (x : Int), vs = [.ref a, .int x] ∧ SqL K H a (st.map V.int) ∧ st.length ≤ 13 ∧ (∀ c ∈ st, c.natAbs ≤ 1000000000000) ∧ x.natAbs ≤ 2 ^ 45 ∧ ∀ H', Same H H' → Q (.int (nval st 0 x)) H'
theorem ok__law_fall (T : Top K mg) : Ok P w K mg base 1 "_law_fall" s__law_fall ["_law_marks", "_law_number"] (sp_fallL K) := by
  refine T.d__law_fall.ok sc__law_fall (fun vs H Q E h => ?_) (fun f cdv A outer s H vs Q E hg hr h => ?_)
  · obtain ⟨a, st, x, rfl, _⟩ := h
    rfl
  · obtain ⟨a, st, x, rfl, sv, hl, hb, hx, q⟩ := h
    have E45 : (2 : Nat) ^ 45 = 35184372088832 := by decide
    refine ⟨_, (pss_cons (ps_asg (pe_tup (pa_cons pe_int (pa_cons pe_int pa_nil))) (g_tup rfl rfl (pgs_cons (pg_name (i := 2) sc__law_fall.nd rfl (.inl rfl)) (pgs_cons (pg_name (i := 3) sc__law_fall.nd rfl (.inl rfl)) pgs_nil)) rfl rfl))
    (pss_cons (ps_for (passes_of rfl) rfl (pi_range1 (by rfl) T.b_range (pa_cons (pe_callB (id := "len") (c_len rfl) (by rfl) T.b_len (by decide +kernel) (pa_cons (pv 0) pa_nil)) pa_nil)) (pg_name (i := 4) sc__law_fall.nd rfl (.inl rfl)) (pss_cons (ps_set (i := 2) sc__law_fall.nd rfl (.inl rfl) (pe_op op_add (pv 2) (pe_op op_mulX (pe_ix (x_list rfl) (pv 0) (pv 4) (fun _ _ => rfl)) (pv 3))))
    (pss_one (ps_set (i := 3) sc__law_fall.nd rfl (.inl rfl) (pe_op op_mulX (pv 3) (pe_op op_sub (pv 1) (pv 4)))))))
    (pss_one (ps_ret (pv 2))))), ?_⟩
    walk_at "sti"
    rename_i t0 ht0
    rw [ints_len]
    refine ⟨by omega, by omega, ?_⟩
    rw [Int.toNat_natCast]
    refine r_forR (fun i σ H' => ∃ (fd pc : Int) (x4 : Option V), σ = [some (.ref a), some (.int x), some (.int fd), some (.int pc), x4] ∧ Same H H' ∧ fd + pc * nval (st.drop i) (i : Int) x = nval st 0 x ∧ pc.natAbs ≤ (2 ^ 46) ^ i)
      ⟨0, 1, _, rfl, Same.new ht0, by rw [List.drop_zero]; simp, by simp⟩ (fun i σ H' hi hP => ?_) (fun σ H' hP => ?_)
    · obtain ⟨fd, pc, x4, rfl, s1, hv, hp⟩ := hP
      obtain ⟨c, ec⟩ : ∃ c, st[i]? = some c := ⟨_, List.getElem?_eq_getElem hi⟩
      have bc := hb c (List.mem_of_getElem? ec)
      have bp : pc.natAbs < 2 ^ 600 := by
        refine Nat.lt_of_le_of_lt hp ?_
        rw [← Nat.pow_mul]
        exact two_lt (by omega)
      walk_at "gi"
      rw [show (0 : Int) + (i : Int) = ((i : Nat) : Int) by omega]
      refine r_ixL (Same.list s1 sv) (atI_nat (ints_get ec)) ?_
      walk_at "gi"
      refine r_rI (bit_mul (a := 41) (b := 600) (bit_of (by omega)) (bit_of bp) (by decide)) ?_
      walk_at "gi"
      refine r_rI (bit_mul (a := 600) (b := 64) (bit_of bp) (bit_of (by omega)) (by decide)) ?_
      walk_at "gi"
      refine ⟨s1, ?_, ?_⟩
      · rw [← hv, nval_drop ec]
        grind
      · rw [Int.natAbs_mul, Nat.pow_succ]
        refine Nat.mul_le_mul hp ?_
        have : (2 : Nat) ^ 46 = 70368744177664 := by decide
        omega
    obtain ⟨fd, pc, x4, rfl, s1, hv, hp⟩ := hP
    rw [List.drop_length] at hv
    simp only [nval, Int.mul_zero, Int.add_zero] at hv
    walk_at "gi"
    rw [hv]
    exact q _ s1
def sp_gcd : Sp := fun vs H Q _ => ∃ a b : Int, vs = [.int a, .int b] ∧ Q (.int ((Nat.gcd a.natAbs b.natAbs : Nat) : Int)) H
theorem ok__law_gcd (T : Top K mg) : Ok P w K mg base 1 "_law_gcd" s__law_gcd ["_law_one", "_law_last"] sp_gcd := by
  refine T.d__law_gcd.ok sc__law_gcd (fun vs H Q E h => ?_) (fun f cdv A outer s H vs Q E hg hr h => ?_)
  · obtain ⟨a, b, rfl, _⟩ := h
    rfl
  · obtain ⟨a, b, rfl, q⟩ := h
    refine ⟨_, (pss_cons (ps_par (i := 0) (j := 1) (by rfl) sc__law_gcd.nd rfl rfl (by decide) rfl rfl (pa_cons (pe_callB (id := "abs") c_abs (by rfl) T.b_abs (by decide +kernel) (pa_cons (pv 0) pa_nil)) (pa_cons (pe_callB (id := "abs") c_abs (by rfl) T.b_abs (by decide +kernel) (pa_cons (pv 1) pa_nil)) pa_nil)) (by rfl))
    (pss_cons (ps_while (passes_of rfl) (pt_cmpR op_gt (pv 1) pe_int (nomark _)) (pss_one (ps_par (i := 0) (j := 1) (by rfl) sc__law_gcd.nd rfl rfl (by decide) rfl rfl (pa_cons (pv 1) (pa_cons (pe_op op_mod (pe_callTy (T := "int") c_int (by rfl) T.b_int (by decide +kernel) (pa_cons (pv 0) pa_nil)) (pv 1)) pa_nil)) (by rfl))))
    (pss_one (ps_ret (pv 0))))), ?_⟩
    walk_at "sti"
    generalize hg0 : Nat.gcd a.natAbs b.natAbs = g at *
    refine r_while (fun m σ H' => ∃ l r : Nat, σ = [some (.int (l : Int)), some (.int (r : Int))] ∧ Nat.gcd l r = g ∧ m = r ∧ H' = H) b.natAbs ⟨a.natAbs, b.natAbs, rfl, hg0, rfl, rfl⟩ fun m σ H1 hW => ?_
    obtain ⟨l, r, rfl, e, rfl, rfl⟩ := hW
    walk_at "gi"
    refine ifd (fun c => ?_) (fun c => ?_)
    · walk_at "gi"
      refine r_rI c ?_
      walk_at "gi"
      refine ⟨l % m, Nat.mod_lt _ (by omega), m, l % m, ?_, ?_, rfl, rfl⟩
      · rw [Int.natCast_emod]
        rfl
      · rw [← e, Nat.gcd_comm l m, Nat.gcd_rec m l, Nat.gcd_comm]
    · have r0 : m = 0 := by omega
      rw [r0, Nat.gcd_zero_right] at e
      walk_at "gi"
      rw [e]
      exact q
end
section
variable {P : Program} {w : World} {K : PySem.W.Frag} {mg : Str → Option Value} {base : Heap}
def sp_ltab (K : PySem.W.Frag) : Sp := fun vs H Q _ => ∃ (a : Addr) (p : List Int) (n : Nat), vs = [.ref a, .int (n : Int)] ∧ SqT K H a (p.map V.int) ∧ p.length ≤ 13 ∧ l1 p ≤ 2 ^ 50 ∧ 0 < n ∧ n ≤ 1000 ∧ ∀ b H', Same H H' → H b = none → H' b = some (.tup ((tabOf p n).map V.int)) → Q (.ref b) H'
theorem ok__law_table (T : Top K mg) : Ok P w K mg base 2 "_law_table" s__law_table ["_law_row_here", "_law_base"] (sp_ltab K) := by
  have G__law_at := ok__law_at (P := P) (w := w) (base := base) T
  refine T.d__law_table.ok sc__law_table (fun vs H Q E h => ?_) (fun f cdv A outer s H vs Q E hg hr h => ?_)
  · obtain ⟨a, p, n, rfl, _⟩ := h
    rfl
  · obtain ⟨a, p, n, rfl, sv, hl, hb, n0, n1, q⟩ := h
    refine ⟨_, (pss_one (ps_ret (pe_callTy (T := "tuple") (c_tuple rfl) (by rfl) T.b_tuple (by decide +kernel) (pa_cons (pe_lc (own := [("_law_number", 2)]) (by rfl) sc__law_table.nd (pi_range1 (by rfl) T.b_range (pa_cons (pv 1) pa_nil)) (blkOk_by (own := [("_law_number", 2)]) (N := ["_law_row_here", "_law_base", "_law_number"]) (sc := defScope s__law_table) (by decide +kernel)) (fun _ _ _ _ _ => (pg_name (i := 2) sc__law_table.nd rfl (Or.inl rfl))) (fun _ _ _ _ _ => pts_nil) (fun _ _ _ _ _ => (pe_op op_mod (pe_callTy (T := "int") c_int (by rfl) T.b_int (by decide +kernel) (pa_cons (pe_g G__law_at (fun _ _ F => bd__law_at F) hg (hr.mono (by decide)) passL (by rfl) (pa_cons (pv 0) (pa_cons (pv 2) pa_nil))) pa_nil)) (pv 1)))) pa_nil)))), ?_⟩
    walk_at "sti"
    refine ⟨by omega, by omega, ?_⟩
    rw [Int.toNat_natCast]
    refine r_lcR (fun D i H' => Same H H' ∧ H' D = some (.lst (((List.range i).map fun x : Nat => pval p (x : Int) % (n : Int)).map V.int))) (fun D hD => ⟨Same.new hD, upd_same⟩) (fun D i H' hD hi hP => ?_) (fun D H' hD hP => ?_)
    · obtain ⟨s1, d1⟩ := hP
      walk_at "go"
      refine ⟨rfl, ?_⟩
      walk_at "go"
      rw [Int.zero_add]
      refine ⟨a, p, (i : Int), rfl, Same.tup s1 sv, hl, hb, Nat.le_trans (show (i : Int).natAbs ≤ 2 ^ 10 by have : (2 : Nat) ^ 10 = 1024 := rfl
                                                                                                            omega) (Nat.pow_le_pow_right (by decide) (by decide)), fun H2 s2 => ?_⟩
      walk_at "go"
      refine r_rI (by omega) ?_
      refine ⟨_, s2 _ _ d1, Nat.lt_of_lt_of_le (show _ < 100000 by rw [List.length_map, List.length_map, List.length_range]; omega) (by decide), fun b o e => ?_, ?_⟩
      · rw [upd_ne (ne_of_none e hD)]
        exact s2 _ _ (s1 _ _ e)
      · rw [tabOf_snoc, List.map_append]
        exact upd_same
    · obtain ⟨s1, d1⟩ := hP
      walk_at "gi"
      refine r_tupL (SqL.of d1) fun b hb' => ?_
      exact q b _ (s1.trans (Same.new hb')) (none_same s1 hb') upd_same
def sp_sizes : Sp := fun vs H Q _ => ∃ n : Nat, vs = [.int (n : Int)] ∧ 0 < n ∧ n ≤ 12 ∧ ∀ l m H', Same H H' → H l = none → H' l = some (.lst ((szs n m).map V.int)) → m ≤ n → (∀ k < m, sz n k ≠ 1) → sz n m = 1 → Q (.ref l) H'
theorem ok__law_sizes (T : Top K mg) : Ok P w K mg base 2 "_law_sizes" s__law_sizes ["_law_base"] sp_sizes := by
  have G__law_gcd := ok__law_gcd (P := P) (w := w) (base := base) T
  refine T.d__law_sizes.ok sc__law_sizes (fun vs H Q E h => ?_) (fun f cdv A outer s H vs Q E hg hr h => ?_)
  · obtain ⟨n, rfl, _⟩ := h
    rfl
  · obtain ⟨n, rfl, n0, n1, q⟩ := h
    have stop : ∀ i : Nat, (∀ k < i, sz n k ≠ 1) → i ≤ n := fun i h => by
      rcases Nat.lt_or_ge n i with c | c
      · exact absurd (sz_self n0) (h n c)
      · exact c
    refine ⟨_, (pss_cons (ps_par (i := 1) (j := 2) (by rfl) sc__law_sizes.nd rfl rfl (by decide) rfl rfl (pa_cons (pe_lst pa_nil) (pa_cons pe_int pa_nil)) (by rfl))
    (pss_cons (ps_for (passes_of rfl) rfl (pi_range2 (by rfl) T.b_range (pa_cons pe_int (pa_cons pe_int pa_nil))) (pg_name (i := 3) sc__law_sizes.nd rfl (.inl rfl)) (pss_cons (ps_set (i := 4) sc__law_sizes.nd rfl (.inl rfl) (pe_op op_fdivW (pv 0) (pe_g G__law_gcd (fun _ _ F => bd__law_gcd F) hg (hr.mono (by decide)) passL (by rfl) (pa_cons (pv 0) (pa_cons (pv 2) pa_nil)))))
    (pss_cons (ps_if (pt_cmpR op_eqZ (pv 4) pe_int (nomark _)) (pss_one (ps_ret (pv 1))) pss_nil)
    (pss_cons (ps_expr (pe_bm PySem.F.plainAttrs_list PySem.F.slot_list_append PySem.F.type_list_append mt_append (pv 1) (pa_cons (pv 4) pa_nil)))
    (pss_one (ps_set (i := 2) sc__law_sizes.nd rfl (.inl rfl) (pe_op op_mulX (pv 2) (pv 3))))))))
    (pss_one (ps_ret (pv 1))))), ?_⟩
    walk_at "sti"
    rename_i F hF
    refine ⟨⟨by omega, by omega, by omega, by omega⟩, ?_⟩
    rw [show ((40 : Int) - 1).toNat = 39 from rfl]
    refine r_forR (fun i σ H' => ∃ x3 x4, σ = [some (.int (n : Int)), some (.ref F), some (.int (fac i : Int)), x3, x4] ∧ Same H H' ∧ H' F = some (.lst ((szs n i).map V.int)) ∧ ∀ k < i, sz n k ≠ 1)
      ⟨_, _, rfl, Same.new hF, upd_same, fun k hk => by omega⟩ (fun i σ H' hi hP => ?_) (fun σ H' hP => ?_)
    · obtain ⟨x3, x4, rfl, s1, e1, hk⟩ := hP
      have il := stop i hk
      have fb := fac_le i (by omega)
      have hg := gk_pos i n0
      have hgn : gk n i ≤ n := Nat.gcd_le_left _ n0
      walk_at "gi"
      refine ⟨(n : Int), (fac i : Int), rfl, ?_⟩
      rw [show Nat.gcd (n : Int).natAbs (fac i : Int).natAbs = gk n i from rfl]
      walk_at "gi"
      refine r_rI (divw_of (by omega) (by omega)) ?_
      walk_at "gi"
      rw [show (n : Int) / (gk n i : Int) = ((sz n i : Nat) : Int) from rfl]
      refine ifd (fun c => ?_) (fun c => ?_)
      · walk_at "gi"
        exact q F i H' s1 hF e1 il hk (by omega)
      · walk_at "gi"
        refine ⟨.inl ⟨rfl, _, SqL.of e1⟩, ?_⟩
        walk_at "gi"
        refine r_app e1 (by rw [List.length_map, szs_len]; omega) ?_
        walk_at "gi"
        refine r_rI (bit_mul (a := 64) (b := 64) (bit_of (by omega)) (bit_of (by omega)) (by decide)) ?_
        walk_at "gi"
        have ef : (fac i : Int) * (1 + (i : Int)) = ((fac (i + 1) : Nat) : Int) := by
          show _ = (((i + 1) * fac i : Nat) : Int)
          push_cast
          grind
        rw [ef]
        refine ⟨_, _, rfl, fun b o e => ?_, ?_, fun k hk' => ?_⟩
        · rw [upd_ne (ne_of_none e hF)]
          exact s1 _ _ e
        · rw [szs_snoc, List.map_append]
          exact upd_same
        · rcases Nat.lt_or_ge k i with c1 | c1
          · exact hk k c1
          · have : k = i := by omega
            subst this
            omega
    · obtain ⟨x3, x4, rfl, s1, e1, hk⟩ := hP
      have := stop 39 hk
      omega
def sp_cut (K : PySem.W.Frag) : Sp := fun vs H Q _ => ∃ (l : Addr) (p : List Int), vs = [.ref l] ∧ SqL K H l (p.map V.int) ∧ p ≠ [] ∧ p.length ≤ 1000 ∧ ∀ r a H', Same H H' → H a = none → H' a = some (.tup (r.map V.int)) → Canon r → (∀ x, pval r x = pval p x) → Q (.ref a) H'
theorem pval_drop0 (u : List Int) (x : Int) : pval (u ++ [0]) x = pval u x := by
  rw [pval_append]
  simp [pval]
theorem ok__law_cut (T : Top K mg) : Ok P w K mg base 1 "_law_cut" s__law_cut ["_law_marks"] (sp_cut K) := by
  refine T.d__law_cut.ok sc__law_cut (fun vs H Q E h => ?_) (fun f cdv A outer s H vs Q E hg hr h => ?_)
  · obtain ⟨l, p, rfl, _⟩ := h
    rfl
  · obtain ⟨l, p, rfl, sv, ne, hl, q⟩ := h
    refine ⟨_, (pss_cons (ps_set (i := 1) sc__law_cut.nd rfl (.inl rfl) (pe_callTy (T := "list") (c_list rfl) (by rfl) T.b_list (by decide +kernel) (pa_cons (pv 0) pa_nil)))
    (pss_cons (ps_while (passes_of rfl) (PW.pt (pw_and (pt_cmpR op_gt (pe_callB (id := "len") (c_len rfl) (by rfl) T.b_len (by decide +kernel) (pa_cons (pv 1) pa_nil)) pe_int (nomark _)) (pw_and1 (pt_cmpR op_eqZ (pe_ix (x_list rfl) (pv 1) (pe_un un_neg pe_int) (fun _ _ => rfl)) pe_int (nomark _))))) (pss_one (ps_expr (pe_bm0 PySem.F.plainAttrs_list PySem.F.slot_list_pop PySem.F.type_list_pop mt_pop (pv 1)))))
    (pss_one (ps_ret (pe_callTy (T := "tuple") (c_tuple rfl) (by rfl) T.b_tuple (by decide +kernel) (pa_cons (pv 1) pa_nil)))))), ?_⟩
    walk_at "sti"
    refine r_listL sv fun D hD => ?_
    walk_at "gi"
    refine r_while (fun u σ H2 => ∃ t : List Int, t.length = u ∧ t ≠ [] ∧ σ = [some (.ref l), some (.ref D)] ∧ Same H H2 ∧ H2 D = some (.lst (t.map V.int)) ∧ ∀ x, pval t x = pval p x) p.length ⟨p, rfl, ne, rfl, Same.new hD, upd_same, fun _ => rfl⟩ fun u σ H2 hW => ?_
    obtain ⟨t, lt, tne, rfl, s2, dt, hv⟩ := hW
    have fin : Canon t → ∀ a, H2 a = none → Q (.ref a) (upd H2 a (.tup (t.map V.int))) := fun hc a ha => q t a _ (s2.trans (Same.new ha)) (none_same s2 ha) upd_same hc hv
    walk_at "gi"
    rw [ints_len]
    refine ifd (fun c => ?_) (fun c => ?_)
    · walk_at "gi"
      refine r_ixL (SqL.of dt) (at_last tne) ?_
      walk_at "gi"
      refine ifd (fun c2 => ?_) (fun c2 => ?_)
      · walk_at "gi"
        rcases List.eq_nil_or_concat t with e | ⟨v, y, e⟩
        · exact absurd e tne
        · rw [List.concat_eq_append] at e
          subst e
          have hy : y = 0 := by
            rw [List.length_append, List.length_singleton, Nat.add_sub_cancel, List.getD_eq_getElem?_getD, List.getElem?_append_right (Nat.le_refl _), Nat.sub_self] at c2
            exact c2
          rw [List.map_append] at dt
          refine r_bm0 ?_
          walk_at "gi"
          refine ⟨.inl ⟨rfl, _, SqL.of dt⟩, ?_⟩
          refine r_popL _ _ dt ?_
          walk_at "gi"
          rw [List.length_append] at lt c
          simp only [List.length_singleton] at lt c
          refine ⟨u - 1, by omega, v, by omega, fun e => by rw [e] at c; simp at c, rfl, fun b o e => ?_, upd_same, fun x => by rw [← hv x, hy, pval_drop0]⟩
          rw [upd_ne (ne_of_none e hD)]
          exact s2 _ _ e
      · walk_at "gi"
        refine r_tupL (SqL.of dt) fun a ha => ?_
        exact fin ⟨tne, .inr c2⟩ a ha
    · walk_at "gi"
      refine r_tupL (SqL.of dt) fun a ha => ?_
      have := len_pos tne
      exact fin ⟨tne, .inl (by omega)⟩ a ha
end
section
variable {P : Program} {w : World} {K : PySem.W.Frag} {mg : Str → Option Value} {base : Heap}
theorem nw_congr {F G : Nat → Int} {x : Nat} : ∀ {m : Nat}, (∀ k < m, F k = G k) → nw F m x = nw G m x
  | 0, _ => rfl
  | m + 1, h => by rw [nw, nw, nw_congr fun k hk => h k (by omega), h m (by omega)]
theorem step_same {n i : Nat} {v fs f : List Int} (n0 : 0 < n) (il : i ≤ n) (hb : ∀ k < i, 0 ≤ fs.getD k 0 ∧ fs.getD k 0 < sz n k) (hv : ∀ x < i, (n : Int) ∣ nval fs 0 (x : Int) - v.getD x 0) (g : Good n v f) : ∀ k < i, f.getD k 0 = fs.getD k 0 := by
  intro k hk
  refine uniq_step n0 (g.b k (by omega)) (hb k hk) (steps_same (i := i) (fun x hx => ?_) k hk)
  have h1 := g.v x (by omega)
  have h2 := hv x hx
  have := Int.dvd_sub h1 h2
  rwa [show nval f 0 (x : Int) - v.getD x 0 - (nval fs 0 (x : Int) - v.getD x 0) = nval f 0 (x : Int) - nval fs 0 (x : Int) by omega] at this
theorem nval_next {i : Nat} {f fs : List Int} (lf : fs.length = i) (h : ∀ k < i, f.getD k 0 = fs.getD k 0) : nval f 0 (i : Int) = nval fs 0 (i : Int) + f.getD i 0 * (fac i : Int) := by
  rw [← nval_upto f (Nat.lt_succ_self i), nval_nw, nw, bin_self, nw_congr (G := fun k => fs.getD k 0 * (fac k : Int)) (fun k hk => by rw [h k hk]), ← nval_nwl fs i i (by omega)]
  simp
theorem step_left {n i : Nat} {v fs f : List Int} (n0 : 0 < n) (il : i < n) (lf : fs.length = i) (hb : ∀ k < i, 0 ≤ fs.getD k 0 ∧ fs.getD k 0 < sz n k) (hv : ∀ x < i, (n : Int) ∣ nval fs 0 (x : Int) - v.getD x 0) (g : Good n v f) :
    (n : Int) ∣ f.getD i 0 * (fac i : Int) - (v.getD i 0 - nval fs 0 (i : Int)) := by
  have h1 := g.v i il
  rw [nval_next lf (step_same n0 (by omega) hb hv g)] at h1
  rwa [show nval fs 0 (i : Int) + f.getD i 0 * (fac i : Int) - v.getD i 0 = f.getD i 0 * (fac i : Int) - (v.getD i 0 - nval fs 0 (i : Int)) by omega] at h1
theorem gd_left {s : List Int} {k : Nat} (t : List Int) (h : k < s.length) : (s ++ t).getD k 0 = s.getD k 0 := by
  rw [List.getD_eq_getElem?_getD, List.getElem?_append_left h, ← List.getD_eq_getElem?_getD]
theorem gd_last (s : List Int) (c : Int) : (s ++ [c]).getD s.length 0 = c := by
  rw [List.getD_eq_getElem?_getD, List.getElem?_append_right (Nat.le_refl _), Nat.sub_self]
  rfl
theorem gd_zeros (s : List Int) (d k : Nat) : (s ++ List.replicate d 0).getD k 0 = s.getD k 0 := by
  by_cases h : k < s.length
  · exact gd_left _ h
  · rw [getD_out (p := s) (by omega), List.getD_eq_getElem?_getD, List.getElem?_append_right (by omega), List.getElem?_replicate]
    split <;> rfl
theorem step_b {n : Nat} {fs : List Int} {c : Int} (hb : ∀ k < fs.length, 0 ≤ fs.getD k 0 ∧ fs.getD k 0 < sz n k) (hc : 0 ≤ c ∧ c < sz n fs.length) : ∀ k < fs.length + 1, 0 ≤ (fs ++ [c]).getD k 0 ∧ (fs ++ [c]).getD k 0 < sz n k := by
  intro k hk
  by_cases h : k < fs.length
  · rw [gd_left _ h]
    exact hb k h
  · obtain rfl : k = fs.length := by omega
    rw [gd_last]
    exact hc
theorem step_v {n : Nat} {v fs : List Int} {c : Int} (hv : ∀ x < fs.length, (n : Int) ∣ nval fs 0 (x : Int) - v.getD x 0) (hc : (n : Int) ∣ c * (fac fs.length : Int) - (v.getD fs.length 0 - nval fs 0 (fs.length : Int))) :
    ∀ x < fs.length + 1, (n : Int) ∣ nval (fs ++ [c]) 0 (x : Int) - v.getD x 0 := by
  intro x hx
  rw [nval_snoc]
  by_cases h : x < fs.length
  · rw [ff_more h, Int.mul_zero, Int.add_zero]
    exact hv x h
  · obtain rfl : x = fs.length := by omega
    rw [ff_self]
    rwa [show nval fs 0 (fs.length : Int) + c * (fac fs.length : Int) - v.getD fs.length 0 = c * (fac fs.length : Int) - (v.getD fs.length 0 - nval fs 0 (fs.length : Int)) by omega]
theorem good_of {n m : Nat} {v fs : List Int} (n0 : 0 < n) (mn : m ≤ n) (lf : fs.length = m) (hb : ∀ k < m, 0 ≤ fs.getD k 0 ∧ fs.getD k 0 < sz n k) (ht : ∀ x < n, (n : Int) ∣ nval fs 0 (x : Int) - v.getD x 0) : Good n v (fs ++ List.replicate (n - m) 0) := by
  refine ⟨?_, fun k hk => ?_, fun x hx => ?_⟩
  · rw [List.length_append, List.length_replicate]
    omega
  · rw [gd_zeros]
    by_cases h : k < m
    · exact hb k h
    · rw [getD_out (by omega)]
      have := sz_pos k n0
      omega
  · rw [nval_zeros]
    exact ht x hx
theorem good_told {n m : Nat} {v fs f : List Int} (n0 : 0 < n) (mn : m ≤ n) (lf : fs.length = m) (hone : sz n m = 1) (hb : ∀ k < m, 0 ≤ fs.getD k 0 ∧ fs.getD k 0 < sz n k) (hv : ∀ x < m, (n : Int) ∣ nval fs 0 (x : Int) - v.getD x 0) (g : Good n v f) :
    ∀ x < n, (n : Int) ∣ nval fs 0 (x : Int) - v.getD x 0 := by
  have h1 := step_same n0 mn hb hv g
  have h2 : ∀ k, f.getD k 0 = fs.getD k 0 := fun k => by
    by_cases c : k < m
    · exact h1 k c
    · rw [getD_out (p := fs) (by omega)]
      by_cases d : k < n
      · have h3 := g.b k d
        rw [sz_up n0 hone (by omega)] at h3
        omega
      · rw [getD_out (by rw [g.len]; omega)]
  intro x hx
  have h4 := g.v x hx
  have e : nval f 0 (x : Int) = nval fs 0 (x : Int) := by
    rw [nval_nwl f x (max f.length fs.length) (by omega), nval_nwl fs x (max f.length fs.length) (by omega)]
    exact nw_congr fun k _ => by rw [h2 k]
  rwa [e] at h4
theorem list_of_told {n : Nat} {v fs : List Int} (hl : v.length = n) (hb : ∀ k < n, 0 ≤ v.getD k 0 ∧ v.getD k 0 < n) : ((List.range n).map fun x : Nat => nval fs 0 (x : Int) % (n : Int)) = v ↔ ∀ x < n, (n : Int) ∣ nval fs 0 (x : Int) - v.getD x 0 := by
  constructor
  · intro h x hx
    have h1 : v.getD x 0 = nval fs 0 (x : Int) % (n : Int) := by
      rw [← h, List.getD_eq_getElem?_getD, List.getElem?_map, List.getElem?_range hx]
      rfl
    rw [h1]
    have := sub_mod (n : Int) (nval fs 0 (x : Int))
    have := Int.dvd_neg.mpr this
    rwa [show -(nval fs 0 (x : Int) % (n : Int) - nval fs 0 (x : Int)) = nval fs 0 (x : Int) - nval fs 0 (x : Int) % (n : Int) by omega] at this
  · intro h
    refine List.ext_getElem (by simp [hl]) fun x h1 h2 => ?_
    have hx : x < n := by omega
    have h3 := h x hx
    have h4 := hb x hx
    have e : v.getD x 0 = v[x] := by
      rw [List.getD_eq_getElem?_getD, List.getElem?_eq_getElem h2]
      rfl
    rw [List.getElem_map, List.getElem_range, ← e]
    have h5 := Int.emod_emod_of_dvd (nval fs 0 (x : Int)) (Int.dvd_refl (n : Int))
    have h6 := Int.emod_eq_emod_iff_emod_sub_eq_zero.mpr (Int.emod_eq_zero_of_dvd h3)
    rw [h6, Int.emod_eq_of_lt h4.1 h4.2]
def sp_stp (K : PySem.W.Frag) : Sp := fun vs H Q _ => ∃ (a : Addr) (v : List Int) (n : Nat), vs = [.ref a, .int (n : Int)] ∧ SqT K H a (v.map V.int) ∧ Tbl n v ∧ 2 ≤ n ∧ n ≤ 12 ∧
  (∀ l H', Same H H' → H l = none → H' l = some (.lst []) → (∀ f, ¬ Good n v f) → Q (.ref l) H') ∧
  ∀ l fs f H', Same H H' → H l = none → H' l = some (.lst (fs.map V.int)) → fs ≠ [] → fs.length ≤ 12 → Good n v f → (∀ k, f.getD k 0 = fs.getD k 0) → Q (.ref l) H'
theorem ok__law_steps_of (T : Top K mg) : Ok P w K mg base 3 "_law_steps_of" s__law_steps_of ["_law_table_here", "_law_base"] (sp_stp K) := by
  have G__law_sizes := ok__law_sizes (P := P) (w := w) (base := base) T
  have G__law_fall := ok__law_fall (P := P) (w := w) (base := base) T
  refine T.d__law_steps_of.ok sc__law_steps_of (fun vs H Q E h => ?_) (fun f cdv A outer s H vs Q E hg hr h => ?_)
  · obtain ⟨a, v, n, rfl, _⟩ := h
    rfl
  · obtain ⟨a, v, n, rfl, sv, ⟨hl, n0, n1, hv⟩, n2, n12, qn, qt⟩ := h
    refine ⟨_, (pss_cons (ps_asg (pe_tup (pa_cons (pe_lst pa_nil) (pa_cons (pe_g G__law_sizes (fun _ _ F => bd__law_sizes F) hg (hr.mono (by decide)) passL (by rfl) (pa_cons (pv 1) pa_nil)) pa_nil))) (g_tup rfl rfl (pgs_cons (pg_name (i := 2) sc__law_steps_of.nd rfl (.inr rfl)) (pgs_cons (pg_name (i := 3) sc__law_steps_of.nd rfl (.inl rfl)) pgs_nil)) rfl rfl))
    (pss_cons (ps_for (passes_of rfl) rfl (pi_range1 (by rfl) T.b_range (pa_cons (pe_callB (id := "len") (c_len rfl) (by rfl) T.b_len (by decide +kernel) (pa_cons (pv 3) pa_nil)) pa_nil)) (pg_name (i := 4) sc__law_steps_of.nd rfl (.inl rfl)) (pss_cons (ps_asg (pe_tup (pa_cons pe_int (pa_cons (pe_ifExp (pt_cmpR op_lt (pv 4) (pv 1) (nomark _)) (pe_ix (x_tup rfl) (pv 0) (pv 4) (fun _ _ => rfl)) pe_int) pa_nil))) (g_tup rfl rfl (pgs_cons (pg_name (i := 5) sc__law_steps_of.nd rfl (.inr rfl)) (pgs_cons (pg_name (i := 6) sc__law_steps_of.nd rfl (.inr rfl)) pgs_nil)) rfl rfl))
    (pss_cons (ps_for (passes_of rfl) rfl (pi_range1 (by rfl) T.b_range (pa_cons (pv 4) pa_nil)) (pg_name (i := 7) sc__law_steps_of.nd rfl (.inl rfl)) (pss_cons (ps_set (i := 6) sc__law_steps_of.nd rfl (.inr rfl) (pe_op op_sub (pv 6) (pe_op op_mulX (pe_ix (x_list rfl) (pv 2) (pv 7) (fun _ _ => rfl)) (pv 5))))
    (pss_one (ps_set (i := 5) sc__law_steps_of.nd rfl (.inr rfl) (pe_op op_mulX (pv 5) (pe_op op_sub (pv 4) (pv 7)))))))
    (pss_cons (ps_setLc (i := 8) (own := [("_law_mark", 11)]) (by rfl) sc__law_steps_of.nd rfl rfl (sw_true rfl rfl rfl (by decide +kernel)) (pi_range1 (by rfl) T.b_range (pa_cons (pe_ix (x_list rfl) (pv 3) (pv 4) (fun _ _ => rfl)) pa_nil)) (blkOk_by (own := [("_law_mark", 11)]) (N := ["_law_table_here", "_law_base", "_law_found", "_law_sizes_here", "_law_k", "_law_piece", "_law_left", "_law_j", "_law_some", "_law_told", "_law_number", "_law_mark"]) (sc := defScope s__law_steps_of) (by decide +kernel)) (fun _ _ _ _ _ => (pg_name (i := 11) sc__law_steps_of.nd rfl (Or.inl rfl))) (fun _ _ _ _ _ => (pts_one (pt_cmpR op_eqZ (pe_op op_mod (pe_callTy (T := "int") c_int (by rfl) T.b_int (by decide +kernel) (pa_cons (pe_op op_sub (pe_op op_mulX (pv 11) (pv 5)) (pv 6)) pa_nil)) (pv 1)) pe_int (nomark _)))) (fun _ _ _ _ _ => (pv 11)))
    (pss_cons (ps_if (pt_cmpR (o_eqD rfl hr.units) (pv 8) (pe_lst pa_nil) (nomark _)) (pss_one (ps_ret (pe_lst pa_nil))) pss_nil)
    (pss_one (ps_expr (pe_bm PySem.F.plainAttrs_list PySem.F.slot_list_append PySem.F.type_list_append mt_append (pv 2) (pa_cons (pe_ix (x_list rfl) (pv 8) pe_int (fun _ _ => rfl)) pa_nil)))))))))
    (pss_cons (ps_setLc (i := 9) (own := [("_law_number", 10)]) (by rfl) sc__law_steps_of.nd rfl rfl (sw_true rfl rfl rfl (by decide +kernel)) (pi_range1 (by rfl) T.b_range (pa_cons (pv 1) pa_nil)) (blkOk_by (own := [("_law_number", 10)]) (N := ["_law_table_here", "_law_base", "_law_found", "_law_sizes_here", "_law_k", "_law_piece", "_law_left", "_law_j", "_law_some", "_law_told", "_law_number", "_law_mark"]) (sc := defScope s__law_steps_of) (by decide +kernel)) (fun _ _ _ _ _ => (pg_name (i := 10) sc__law_steps_of.nd rfl (Or.inl rfl))) (fun _ _ _ _ _ => pts_nil) (fun _ _ _ _ _ => (pe_op op_mod (pe_callTy (T := "int") c_int (by rfl) T.b_int (by decide +kernel) (pa_cons (pe_g G__law_fall (fun _ _ F => bd__law_fall F) hg (hr.mono (by decide)) passL (by rfl) (pa_cons (pv 2) (pa_cons (pv 10) pa_nil))) pa_nil)) (pv 1))))
    (pss_one (ps_ret (pe_ifExp (pt_cmpR (o_eqD rfl hr.units) (pv 9) (pe_callTy (T := "list") (c_list rfl) (by rfl) T.b_list (by decide +kernel) (pa_cons (pv 0) pa_nil)) (nomark _)) (pv 2) (pe_lst pa_nil))))))), ?_⟩
    walk_at "sti"
    rename_i F hF
    refine ⟨n, rfl, n0, n12, fun L m H1 s1 nL eL mn hne hone => ?_⟩
    walk_at "gi"
    rename_i t0 ht0
    have m1 : 1 ≤ m := by
      rcases Nat.eq_zero_or_pos m with z | z
      · subst z
        have : sz n 0 = n := by
          show n / Nat.gcd n 1 = n
          rw [Nat.gcd_one_right, Nat.div_one]
        omega
      · exact z
    have s0 : Same H (upd H1 t0 (.tup [.ref F, .ref L])) := ((Same.new hF).trans s1).trans (Same.new ht0)
    have eF : upd H1 t0 (.tup [.ref F, .ref L]) F = some (.lst (([] : List Int).map V.int)) := (Same.new ht0) _ _ (s1 _ _ upd_same)
    have eL : upd H1 t0 (.tup [.ref F, .ref L]) L = some (.lst ((szs n m).map V.int)) := (Same.new ht0) _ _ eL
    have nFL : L ≠ F := fun e => by
      rw [e, upd_same] at nL
      exact nomatch nL
    have hLn : H L = none := none_same (Same.new hF) nL
    generalize upd H1 t0 (.tup [.ref F, .ref L]) = H2 at *
    rw [ints_len, szs_len]
    refine ⟨by omega, by omega, ?_⟩
    rw [Int.toNat_natCast]
    refine r_forR (fun i σ H' => ∃ (fs : List Int) (x4 x5 x6 x7 x8 : Option V), σ = [some (.ref a), some (.int (n : Int)), some (.ref F), some (.ref L), x4, x5, x6, x7, x8, none, none, none] ∧ Same H H' ∧ H' L = some (.lst ((szs n m).map V.int)) ∧ H' F = some (.lst (fs.map V.int)) ∧ fs.length = i ∧ (∀ k < i, 0 ≤ fs.getD k 0 ∧ fs.getD k 0 < sz n k) ∧ ∀ x < i, (n : Int) ∣ nval fs 0 (x : Int) - v.getD x 0)
      ⟨[], _, _, _, _, _, rfl, s0, eL, eF, rfl, fun k hk => absurd hk (by omega), fun k hk => absurd hk (by omega)⟩ (fun i σ H' hi hP => ?_) (fun σ H' hP => ?_)
    · obtain ⟨fs, x4, x5, x6, x7, x8, rfl, s2, e2, f2, rfl, hb, hw⟩ := hP
      rw [Int.zero_add]
      have ln : fs.length < n := by omega
      walk_at "gi"
      rw [decide_eq_true (show (fs.length : Int) < (n : Int) by omega), if_pos rfl]
      walk_at "gi"
      obtain ⟨vi, ei⟩ : ∃ c, v[fs.length]? = some c := ⟨_, List.getElem?_eq_getElem (by omega)⟩
      have evi := getD_at ei
      refine r_ixT (Same.tup s2 sv) (atI_nat (ints_get ei)) ?_
      walk_at "sti"
      rename_i t1 ht1
      have s3 : Same H (upd H' t1 (.tup [.int 1, .int vi])) := s2.trans (Same.new ht1)
      have e3 : upd H' t1 (.tup [.int 1, .int vi]) L = some (.lst ((szs n m).map V.int)) := (Same.new ht1) _ _ e2
      have f3 : upd H' t1 (.tup [.int 1, .int vi]) F = some (.lst (fs.map V.int)) := (Same.new ht1) _ _ f2
      generalize upd H' t1 (.tup [.int 1, .int vi]) = H3 at *
      refine ⟨by omega, by omega, ?_⟩
      rw [Int.toNat_natCast]
      refine r_forR (fun j σ H' => ∃ x7, σ = [some (.ref a), some (.int (n : Int)), some (.ref F), some (.ref L), some (.int (fs.length : Int)), some (.int (ffj 0 j (fs.length : Int))), some (.int (v.getD fs.length 0 - nval (fs.take j) 0 (fs.length : Int))), x7, x8, none, none, none] ∧ H' = H3 ∧ (ffj 0 j (fs.length : Int)).natAbs ≤ 12 ^ j)
        ⟨x7, by rw [evi]; simp [ffj, nval], rfl, by simp [ffj]⟩ (fun j σ H' hj hP => ?_) (fun σ H3 hP => ?_)
      · obtain ⟨x7, rfl, rfl, hp⟩ := hP
        rw [Int.zero_add]
        obtain ⟨c, ec⟩ : ∃ c, fs[j]? = some c := ⟨_, List.getElem?_eq_getElem hj⟩
        have bc := hb j hj
        rw [getD_at ec] at bc
        have zs : sz n j ≤ n := Nat.div_le_self _ _
        have bp : (ffj 0 j (fs.length : Int)).natAbs < 2 ^ 44 := Nat.lt_of_le_of_lt (Nat.le_trans hp (Nat.pow_le_pow_right (by decide) (show j ≤ 12 by omega))) (by decide)
        walk_at "gi"
        refine r_ixL (SqL.of f3) (atI_nat (ints_get ec)) ?_
        walk_at "gi"
        refine r_rI (bit_mul (a := 41) (b := 44) (bit_of (by omega)) (bit_of bp) (by decide)) ?_
        walk_at "gi"
        refine r_rI (bit_mul (a := 44) (b := 44) (bit_of bp) (bit_of (by omega)) (by decide)) ?_
        walk_at "gi"
        have e1 : ffj 0 (j + 1) (fs.length : Int) = ffj 0 j (fs.length : Int) * ((fs.length : Int) - (j : Int)) := by rw [ffj_last, Int.sub_zero]
        have e4 : nval (fs.take (j + 1)) 0 (fs.length : Int) = nval (fs.take j) 0 (fs.length : Int) + c * ffj 0 j (fs.length : Int) := by
          rw [take_nx ec, nval_snoc, show (fs.take j).length = j by rw [List.length_take]; omega]
        rw [e1, e4, ← Int.sub_sub]
        refine ⟨_, rfl, rfl, ?_⟩
        rw [Int.natAbs_mul, Nat.pow_succ]
        exact Nat.mul_le_mul hp (by omega)
      · obtain ⟨x7, rfl, rfl, _⟩ := hP
        rw [List.take_length, ff_self]
        generalize hL : v.getD fs.length 0 - nval fs 0 (fs.length : Int) = lft at *
        have fb := fac_le fs.length (by omega)
        walk_at "gi"
        refine r_ixL (SqL.of e3) (atI_nat (ints_get (szs_at hi))) ?_
        walk_at "gi"
        have zs : sz n fs.length ≤ n := Nat.div_le_self _ _
        refine ⟨by omega, by omega, ?_⟩
        rw [Int.toNat_natCast]
        refine r_lcR (fun D j H' => Same H3 H' ∧ ∃ t : List Int, H' D = some (.lst (t.map V.int)) ∧ t.length ≤ j ∧ (∀ c ∈ t, 0 ≤ c ∧ c < (j : Int) ∧ (n : Int) ∣ c * (fac fs.length : Int) - lft) ∧ (t = [] → ∀ c : Nat, c < j → ¬ (n : Int) ∣ (c : Int) * (fac fs.length : Int) - lft)) (fun D hD => ⟨Same.new hD, [], upd_same, Nat.le_refl _, fun c hc => by simp at hc, fun _ c hc => absurd hc (by omega)⟩) (fun D j H' hD hj hP => ?_) (fun D H' hD hP => ?_)
        · obtain ⟨s4, t, dt, lt, ht, h0⟩ := hP
          walk_at "go"
          refine ⟨rfl, ?_⟩
          walk_at "go"
          rw [Int.zero_add]
          refine r_rI (bit_mul (a := 64) (b := 64) (bit_of (by omega)) (bit_of (by omega)) (by decide)) ?_
          walk_at "go"
          refine r_rI (by omega) ?_
          walk_at "go"
          refine ifd (fun c => ?_) (fun c => ?_)
          · walk_at "go"
            refine ⟨_, dt, Nat.lt_of_lt_of_le (show _ < 100000 by rw [List.length_map]; omega) (by decide), fun b o e => ?_, t ++ [(j : Int)], ?_, by rw [List.length_append, List.length_singleton]; omega, fun c hc => ?_, fun e => absurd e (by simp)⟩
            · rw [upd_ne (ne_of_none e hD)]
              exact s4 _ _ e
            · rw [List.map_append]
              exact upd_same
            · rcases List.mem_append.mp hc with h | h
              · have := ht c h
                exact ⟨this.1, by omega, this.2.2⟩
              · rw [List.mem_singleton.mp h]
                exact ⟨by omega, by omega, Int.dvd_of_emod_eq_zero (by assumption)⟩
          · refine ⟨s4, t, dt, by omega, fun d hd => ?_, fun e d hd => ?_⟩
            · have := ht d hd
              exact ⟨this.1, by omega, this.2.2⟩
            · by_cases hdj : d < j
              · exact h0 e d hdj
              · obtain rfl : d = j := by omega
                exact fun h => c (Int.emod_eq_zero_of_dvd h)
        · obtain ⟨s4, t, dt, lt, ht, h0⟩ := hP
          walk_at "gi"
          rename_i l0 hl0
          have s5 : Same H (upd H' l0 (.lst [])) := (s3.trans s4).trans (Same.new hl0)
          have d5 : upd H' l0 (.lst []) D = some (.lst (t.map V.int)) := (Same.new hl0) _ _ dt
          have e5 : upd H' l0 (.lst []) L = some (.lst ((szs n m).map V.int)) := (Same.new hl0) _ _ (s4 _ _ e3)
          have f5 : upd H' l0 (.lst []) F = some (.lst (fs.map V.int)) := (Same.new hl0) _ _ (s4 _ _ f3)
          refine r_eqI t [] (SqL.of d5) (SqL.of (show _ = some (.lst (([] : List Int).map V.int)) from upd_same)) ?_
          generalize upd H' l0 (.lst []) = H5 at *
          walk_at "gi"
          refine ifd (fun c => ?_) (fun c => ?_)
          · walk_at "gi"
            rename_i l1 hl1
            refine qn l1 _ (s5.trans (Same.new hl1)) (none_same s5 hl1) upd_same fun g hg => ?_
            have h6 := step_left n0 ln rfl hb hw hg
            rw [hL] at h6
            have h7 := hg.b fs.length ln
            obtain ⟨d, hd⟩ : ∃ d : Nat, g.getD fs.length 0 = (d : Int) := ⟨_, (Int.toNat_of_nonneg h7.1).symm⟩
            rw [hd] at h6 h7
            exact h0 c d (by omega) h6
          · obtain ⟨c0, t', rfl⟩ : ∃ c0 t', t = c0 :: t' := by
              cases t with
              | nil => exact absurd rfl c
              | cons c0 t' => exact ⟨c0, t', rfl⟩
            have hc0 := ht c0 List.mem_cons_self
            walk_at "gi"
            refine ⟨.inl ⟨rfl, _, SqL.of f5⟩, ?_⟩
            walk_at "gi"
            refine r_ixL (SqL.of d5) (atI_nat (xs := (c0 :: t').map V.int) (j := 0) rfl) ?_
            walk_at "gi"
            refine r_app f5 (by rw [List.length_map]; omega) ?_
            walk_at "gi"
            refine ⟨fs ++ [c0], _, _, _, _, _, rfl, fun b o e => ?_, ?_, ?_, by simp, step_b hb ⟨hc0.1, hc0.2.1⟩, step_v hw (by rw [hL]; exact hc0.2.2)⟩
            · rw [upd_ne (ne_of_none e hF)]
              exact s5 _ _ e
            · rw [upd_ne nFL]
              exact e5
            · rw [List.map_append]
              exact upd_same
    · obtain ⟨fs, x4, x5, x6, x7, x8, rfl, s2, e2, f2, lf, hb, hw⟩ := hP
      walk_at "gi"
      refine ⟨by omega, by omega, ?_⟩
      rw [Int.toNat_natCast]
      refine r_lcR (fun D i H2 => Same H' H2 ∧ H2 D = some (.lst (((List.range i).map fun x : Nat => nval fs 0 (x : Int) % (n : Int)).map V.int))) (fun D hD => ⟨Same.new hD, upd_same⟩) (fun D i H2 hD hi hP => ?_) (fun D H2 hD hP => ?_)
      · obtain ⟨s3, d3⟩ := hP
        walk_at "go"
        refine ⟨rfl, ?_⟩
        walk_at "go"
        rw [Int.zero_add]
        refine ⟨F, fs, (i : Int), rfl, SqL.of (s3 _ _ f2), by omega, fun c hc => ?_, by omega, fun H4 s4 => ?_⟩
        · obtain ⟨k, hk, rfl⟩ := List.mem_iff_getElem.mp hc
          have h6 := hb k (by omega)
          have zs : sz n k ≤ n := Nat.div_le_self _ _
          rw [getD_at (List.getElem?_eq_getElem hk)] at h6
          omega
        · walk_at "go"
          refine r_rI (by omega) ?_
          refine ⟨_, s4 _ _ d3, Nat.lt_of_lt_of_le (show _ < 100000 by rw [List.length_map, List.length_map, List.length_range]; omega) (by decide), fun b o e => ?_, ?_⟩
          · rw [upd_ne (ne_of_none e hD)]
            exact s4 _ _ (s3 _ _ e)
          · rw [List.range_succ, List.map_append, List.map_append]
            exact upd_same
      · obtain ⟨s3, d3⟩ := hP
        walk_at "gi"
        refine r_listT (Same.tup (s2.trans s3) sv) fun l hl' => ?_
        walk_at "gi"
        refine r_eqI _ v (SqL.of ((Same.new hl') _ _ d3)) (SqL.of upd_same) ?_
        walk_at "gi"
        have hg1 := list_of_told (fs := fs) hl hv
        refine ifd (fun c => ?_) (fun c => ?_)
        · walk_at "gi"
          refine qt F fs (fs ++ List.replicate (n - m) 0) _ ((s2.trans s3).trans (Same.new hl')) hF ((Same.new hl') _ _ (s3 _ _ f2)) (fun e => by rw [e] at lf; simp at lf; omega) (by omega) (good_of n0 mn lf hb (hg1.mp c)) fun k => gd_zeros _ _ _
        · walk_at "gi"
          rename_i l1 hl1
          refine qn l1 _ (((s2.trans s3).trans (Same.new hl')).trans (Same.new hl1)) (none_same ((s2.trans s3).trans (Same.new hl')) hl1) upd_same fun g hg => c (hg1.mpr (good_told n0 mn lf hone hb hw hg))
end
section
variable {P : Program} {w : World} {K : PySem.W.Frag} {mg : Str → Option Value} {base : Heap}
theorem r_neIT {H : Hp} {Q : VK} {a b : Addr} {p r : List Int} (h1 : SqT K H a (p.map V.int)) (h2 : SqT K H b (r.map V.int)) (e : p = r) (h : Q (.bl false) H) : rNeD K (.ref a) (.ref b) H Q := by
  subst e
  refine r_neT p p h1 h2 ?_
  rw [decide_eq_true rfl]
  exact h
theorem good_same {n : Nat} {v f g : List Int} (lv : v.length = n) (hf : Good n v f) (hg : Good n v g) : ∀ k, f.getD k 0 = g.getD k 0 := by
  intro k
  by_cases c : k < n
  · exact (hf.step lv hg.v c (hg.b k c)).symm
  · rw [getD_out (by rw [hf.len]; omega), getD_out (by rw [hg.len]; omega)]
theorem form_at {n : Nat} {p t h : List Int} (ht : ∀ x : Int, nval t 0 x = pval p x) (lt : h.length = t.length) (hh : ∀ k < t.length, h.getD k 0 = t.getD k 0 % (sz n k : Int)) : ∀ x < n, (n : Int) ∣ nval h 0 (x : Int) - (tabOf p n).getD x 0 := by
  intro x hx
  rw [tabOf_at p hx, ← ht, nval_nwl h x t.length (by omega), nval_nwl t x t.length (Nat.le_refl _)]
  have h1 : (n : Int) ∣ nw (fun k => h.getD k 0 * (fac k : Int) - t.getD k 0 * (fac k : Int)) t.length x := nw_dvd fun k hk => by
    rw [hh k hk, ← Int.sub_mul]
    obtain ⟨z, hz⟩ := sub_mod (sz n k : Int) (t.getD k 0)
    rw [hz, Int.mul_assoc, Int.mul_left_comm]
    exact Int.dvd_mul_of_dvd_right (sz_fac n k)
  rw [nw_sub] at h1
  have h2 := sub_mod (n : Int) (nw (fun k => t.getD k 0 * (fac k : Int)) t.length x)
  have := Int.dvd_sub h1 h2
  rwa [show nw (fun k => h.getD k 0 * (fac k : Int)) t.length x - nw (fun k => t.getD k 0 * (fac k : Int)) t.length x - (nw (fun k => t.getD k 0 * (fac k : Int)) t.length x % (n : Int) - nw (fun k => t.getD k 0 * (fac k : Int)) t.length x) = nw (fun k => h.getD k 0 * (fac k : Int)) t.length x - nw (fun k => t.getD k 0 * (fac k : Int)) t.length x % (n : Int) by omega] at this
/-- the table of a sum has steps -/
theorem form_has {n : Nat} (hn : 0 < n) {p t h : List Int} (ht : ∀ x : Int, nval t 0 x = pval p x) (lt : h.length = t.length) (hh : ∀ k < t.length, h.getD k 0 = t.getD k 0 % (sz n k : Int)) : ∃ f, Good n (tabOf p n) f := by
  have hb : ∀ k, 0 ≤ h.getD k 0 ∧ h.getD k 0 < sz n k := by
    intro k
    have zp := sz_pos k hn
    by_cases c : k < t.length
    · rw [hh k c]
      exact ⟨Int.emod_nonneg _ (by omega), Int.emod_lt_of_pos _ (by omega)⟩
    · rw [getD_out (by omega)]
      omega
  have e : ∀ k, k < n → ((List.range n).map fun k => h.getD k 0).getD k 0 = h.getD k 0 := fun k hk => by
    rw [List.getD_eq_getElem?_getD, List.getElem?_map, List.getElem?_range hk]
    rfl
  refine ⟨(List.range n).map fun k => h.getD k 0, by simp, fun k hk => by rw [e k hk]; exact hb k, fun x hx => ?_⟩
  rw [nval_nwl _ x n (by simp), nw_congr (G := fun k => h.getD k 0 * (fac k : Int)) (fun k hk => by rw [e k hk]), ← nval_low h hx]
  exact form_at ht lt hh x hx
theorem good_one : Good 1 [0] [0] := by
  refine ⟨rfl, fun k hk => ?_, fun x hx => ⟨_, (Int.one_mul _).symm⟩⟩
  obtain rfl : k = 0 := by omega
  exact ⟨Int.le_refl _, by decide⟩
theorem tbl_tab {p : List Int} {n : Nat} (n0 : 0 < n) (n1 : n ≤ 1000) : Tbl n (tabOf p n) := by
  refine ⟨tabOf_len p n, n0, n1, fun k hk => ?_⟩
  rw [tabOf_at p hk]
  exact ⟨Int.emod_nonneg _ (by omega), Int.emod_lt_of_pos _ (by omega)⟩
theorem tbl_set {v : List Int} {n i : Nat} {z : Int} (h : Tbl n v) (hi : i < n) (z0 : 0 ≤ z) (z1 : z < n) : Tbl n (v.take i ++ [z] ++ v.drop (i + 1)) := by
  obtain ⟨hl, n0, n1, hb⟩ := h
  have lt : (v.take i).length = i := by rw [List.length_take]; omega
  refine ⟨?_, n0, n1, fun k hk => ?_⟩
  · rw [List.length_append, List.length_append, List.length_drop, lt, List.length_singleton]
    omega
  · have e : (v.take i ++ [z] ++ v.drop (i + 1)).getD k 0 = if k = i then z else v.getD k 0 := by
      rw [List.getD_eq_getElem?_getD, List.getD_eq_getElem?_getD, List.append_assoc]
      by_cases c : k < i
      · rw [if_neg (by omega), List.getElem?_append_left (by omega), List.getElem?_take_of_lt c]
      · rw [List.getElem?_append_right (by omega), lt]
        by_cases d : k = i
        · rw [if_pos d, d, Nat.sub_self]
          rfl
        · rw [if_neg d, List.getElem?_append_right (by simp; omega), List.getElem?_drop]
          congr 2
          simp
          omega
    rw [e]
    split
    · exact ⟨z0, z1⟩
    · exact hb k hk
theorem cut_lo {xs : List V} {i : Nat} (h : i ≤ xs.length) : cutV xs none (some (i : Int)) = xs.take i := by
  unfold cutV
  rw [HT.sIx_none, HT.sIx_nat, Nat.sub_zero, List.drop_zero]
  congr 1
  omega
theorem cut_hi {xs : List V} {i : Nat} (h : i ≤ xs.length) : cutV xs (some (i : Int)) none = xs.drop i := by
  unfold cutV
  rw [HT.sIx_none, HT.sIx_nat, show min i xs.length = i by omega]
  exact List.take_of_length_le (by rw [List.length_drop]; omega)
theorem r_neBB {H : Hp} {Q : VK} {x y : Bool} (e : x = y) (h : Q (.bl false) H) : rNe (.bl x) (.bl y) H Q := by
  subst e
  refine ⟨rfl, ?_⟩
  rw [decide_eq_true rfl]
  exact h
theorem r_neNN {K : PySem.W.Frag} {H : Hp} {Q : VK} (h : Q (.bl false) H) : rNeD K .non .non H Q := r_neD .non .non rfl rfl h
def lowP : List V := [.int 2, .int 3, .int 5, .int 7, .int 11]
theorem r_inP {K : PySem.W.Frag} {H : Hp} {Q : VK} {n : Nat} {a : Addr} (h : SqL K H a lowP) (q : Q (.bl (inV (.int (n : Int)) lowP)) H) : rIn K false (.int (n : Int)) (.ref a) H Q :=
  ⟨a, lowP, rfl, .inl h, rfl, rfl, q⟩
theorem not_low {n : Nat} (n2 : 2 ≤ n) (n12 : n ≤ 12) (h : ∃ k, k < n ∧ gk n k ≠ 1) : inV (.int (n : Int)) lowP = false := by
  obtain ⟨k, hk, hg⟩ := h
  have hn : n = 2 ∨ n = 3 ∨ n = 4 ∨ n = 5 ∨ n = 6 ∨ n = 7 ∨ n = 8 ∨ n = 9 ∨ n = 10 ∨ n = 11 ∨ n = 12 := by omega
  rcases hn with rfl | rfl | rfl | rfl | rfl | rfl | rfl | rfl | rfl | rfl | rfl
  · exact absurd (fac_primes 2 (by decide) k hk) hg
  · exact absurd (fac_primes 3 (by decide) k hk) hg
  · rfl
  · exact absurd (fac_primes 5 (by decide) k hk) hg
  · rfl
  · exact absurd (fac_primes 7 (by decide) k hk) hg
  · rfl
  · rfl
  · rfl
  · exact absurd (fac_primes 11 (by decide) k hk) hg
  · rfl
def sp_right : Sp := fun vs H Q _ => ∃ k : Addr, vs = [.ref k] ∧ Cask 0 k H ∧ ∀ H', Kx k H H' → Q (.bl true) H'
theorem ok__law_right (T : Top K mg) : Ok P w K mg base 9 "_law_right" s__law_right ["_law_cask_here"] sp_right := by
  have G__law_row := ok__law_row (P := P) (w := w) (base := base) T
  have G__law_tap := ok__law_tap (P := P) (w := w) (base := base) T
  have G__law_table := ok__law_table (P := P) (w := w) (base := base) T
  have G__law_steps_of := ok__law_steps_of (P := P) (w := w) (base := base) T
  have G_is_table := ok_is_table (P := P) (w := w) (base := base) T
  have G__law_cut := ok__law_cut (P := P) (w := w) (base := base) T
  have G_form_of_table := ok_form_of_table (P := P) (w := w) (base := base) T
  have G_least_form := ok_least_form (P := P) (w := w) (base := base) T
  refine T.d__law_right.ok sc__law_right (fun vs H Q E h => ?_) (fun f cdv A outer s H vs Q E hg hr h => ?_)
  · obtain ⟨k, rfl, _⟩ := h
    rfl
  · obtain ⟨k, rfl, hk, q⟩ := h
    have E60 := e60
    have E59 := e59
    have E62 := e62
    refine ⟨_, (pss_cons (ps_for (passes_of rfl) rfl (pi_range1 (by rfl) T.b_range (pa_cons pe_int pa_nil)) (pg_name (i := 1) sc__law_right.nd rfl (.inl rfl)) (pss_cons (ps_asg (pe_tup (pa_cons (pe_op op_add pe_int (pe_g G__law_tap (fun _ _ F => bd__law_tap F) hg (hr.mono (by decide)) passL (by rfl) (pa_cons (pv 0) (pa_cons pe_int pa_nil)))) (pa_cons (pe_g G__law_row (fun _ _ F => bd__law_row F) hg (hr.mono (by decide)) passL (by rfl) (pa_cons (pv 0) (pa_cons pe_int (pa_cons pe_int pa_nil)))) pa_nil))) (g_tup rfl rfl (pgs_cons (pg_name (i := 2) sc__law_right.nd rfl (.inr rfl)) (pgs_cons (pg_name (i := 3) sc__law_right.nd rfl (.inl rfl)) pgs_nil)) rfl rfl))
    (pss_cons (ps_par (i := 4) (j := 5) (by rfl) sc__law_right.nd rfl rfl (by decide) rfl rfl (pa_cons (pe_g G__law_table (fun _ _ F => bd__law_table F) hg (hr.mono (by decide)) passL (by rfl) (pa_cons (pv 3) (pa_cons (pv 2) pa_nil))) (pa_cons (pe_g G__law_tap (fun _ _ F => bd__law_tap F) hg (hr.mono (by decide)) passL (by rfl) (pa_cons (pv 0) (pa_cons pe_int pa_nil))) pa_nil)) (by rfl))
    (pss_cons (ps_if (pt_cmpR op_eqZ (pv 5) pe_int (nomark _)) (pss_cons (ps_set (i := 6) sc__law_right.nd rfl (.inl rfl) (pe_g G__law_tap (fun _ _ F => bd__law_tap F) hg (hr.mono (by decide)) passL (by rfl) (pa_cons (pv 0) (pa_cons (pv 2) pa_nil))))
    (pss_one (ps_set (i := 4) sc__law_right.nd rfl (.inl rfl) (pe_op (o_catA rfl) (pe_op (o_catA rfl) (pe_slice (s_tupA rfl) (pv 4) po_none (po_some (pv 6))) (pe_tup (pa_cons (pe_g G__law_tap (fun _ _ F => bd__law_tap F) hg (hr.mono (by decide)) passL (by rfl) (pa_cons (pv 0) (pa_cons (pv 2) pa_nil))) pa_nil))) (pe_slice (s_tupA rfl) (pv 4) (po_some (pe_op op_add (pv 6) pe_int)) po_none))))) pss_nil)
    (pss_cons (ps_if (PW.pt (pw_and (pt_cmpR op_eqZ (pv 5) pe_int (nomark _)) (pw_and1 (pt_cmpR op_lt (pv 2) pe_int (nomark _))))) (pss_one (ps_set (i := 4) sc__law_right.nd rfl (.inl rfl) (pe_callTy (T := "tuple") (c_tuple rfl) (by rfl) T.b_tuple (by decide +kernel) (pa_cons (pe_lc (own := [("_law_k", 9)]) (by rfl) sc__law_right.nd (pi_range1 (by rfl) T.b_range (pa_cons (pv 2) pa_nil)) (blkOk_by (own := [("_law_k", 9)]) (N := ["_law_cask_here", "_law_turn", "_law_base", "_law_row_here", "_law_table_here", "_law_way", "_law_at_here", "_law_marks", "_law_due", "_law_k"]) (sc := defScope s__law_right) (by decide +kernel)) (fun _ _ _ _ _ => (pg_name (i := 9) sc__law_right.nd rfl (Or.inl rfl))) (fun _ _ _ _ _ => pts_nil) (fun _ _ _ _ _ => (pe_g G__law_tap (fun _ _ F => bd__law_tap F) hg (hr.mono (by decide)) passL (by rfl) (pa_cons (pv 0) (pa_cons (pv 2) pa_nil))))) pa_nil)))) pss_nil)
    (pss_cons (ps_set (i := 7) sc__law_right.nd rfl (.inl rfl) (pe_g G__law_steps_of (fun _ _ F => bd__law_steps_of F) hg (hr.mono (by decide)) passL (by rfl) (pa_cons (pv 4) (pa_cons (pv 2) pa_nil))))
    (pss_cons (ps_if (PW.pt (pw_or (pt_cmpR op_ne (pe_g G_is_table (fun _ _ F => bd_is_table F) hg (hr.mono (by decide)) passL (by rfl) (pa_cons (pv 4) (pa_cons (pv 2) pa_nil))) (pe_cmpR (o_neD rfl hr.units) (pv 7) (pe_lst pa_nil) (nomark _)) (nomark _)) (pw_or1 (pt_cmpR op_ne (pe_gk0 G_is_table (fun _ _ F => kb_is_table_0 F) hg (hr.mono (by decide)) passL (by rfl) (pk_cons (pv 2) (pk_cons (pv 4) pk_nil))) (pe_cmpR (o_neD rfl hr.units) (pv 7) (pe_lst pa_nil) (nomark _)) (nomark _))))) (pss_one (ps_ret pe_bl)) pss_nil)
    (pss_cons (ps_set (i := 8) sc__law_right.nd rfl (.inl rfl) (pe_ifExp (pt_cmpR (o_neD rfl hr.units) (pv 7) (pe_lst pa_nil) (nomark _)) (pe_g G__law_cut (fun _ _ F => bd__law_cut F) hg (hr.mono (by decide)) passL (by rfl) (pa_cons (pv 7) pa_nil)) pe_non))
    (pss_cons (ps_if (PW.pt (pw_or (pt_cmpR (o_neD rfl hr.units) (pe_g G_form_of_table (fun _ _ F => bd_form_of_table F) hg (hr.mono (by decide)) passL (by rfl) (pa_cons (pv 4) (pa_cons (pv 2) pa_nil))) (pv 8) (nomark _)) (pw_or1 (pt_cmpR (o_neD rfl hr.units) (pe_gk0 G_form_of_table (fun _ _ F => kb_form_of_table_1 F) hg (hr.mono (by decide)) passL (by rfl) (pk_cons (pv 2) (pk_cons (pv 4) pk_nil))) (pv 8) (nomark _))))) (pss_one (ps_ret pe_bl)) pss_nil)
    (pss_cons (ps_if (PW.pt (pw_and (pt_cmpR (o_eqD rfl hr.units) (pv 4) (pe_g G__law_table (fun _ _ F => bd__law_table F) hg (hr.mono (by decide)) passL (by rfl) (pa_cons (pv 3) (pa_cons (pv 2) pa_nil))) (nomark _)) (pw_and1 (pt_cmpR (o_neD rfl hr.units) (pe_g G_least_form (fun _ _ F => bd_least_form F) hg (hr.mono (by decide)) passL (by rfl) (pa_cons (pv 3) (pa_cons (pv 2) pa_nil))) (pv 8) (nomark _))))) (pss_one (ps_ret pe_bl)) pss_nil)
    (pss_one (ps_if (PW.pt (pw_and (pt_cmpR (o_in rfl) (pv 2) (pe_lst (pa_cons pe_int (pa_cons pe_int (pa_cons pe_int (pa_cons pe_int (pa_cons pe_int pa_nil)))))) (by rfl)) (pw_and1 (pt_cmpR op_isN (pv 8) pe_non (nomark _))))) (pss_one (ps_ret pe_bl)) pss_nil))))))))))))
    (pss_one (ps_ret (pe_and (pe_g G_is_table (fun _ _ F => bd_is_table F) hg (hr.mono (by decide)) passL (by rfl) (pa_cons (pe_tup (pa_cons pe_int pa_nil)) (pa_cons pe_int pa_nil))) (pe_one (pe_cmpR (o_eqD rfl hr.units) (pe_g G_form_of_table (fun _ _ F => bd_form_of_table F) hg (hr.mono (by decide)) passL (by rfl) (pa_cons (pe_tup (pa_cons pe_int pa_nil)) (pa_cons pe_int pa_nil))) (pe_tup (pa_cons pe_int pa_nil)) (nomark _))))))), ?_⟩
    walk_at "st"
    refine ⟨by omega, by omega, ?_⟩
    rw [show (3 : Int).toNat = 3 from rfl]
    refine r_forR (fun i σ H' => ∃ x1 x2 x3 x4 x5 x6 x7 x8, σ = [some (.ref k), x1, x2, x3, x4, x5, x6, x7, x8, none] ∧ Kx k H H' ∧ Cask (60 * i) k H') ⟨_, _, _, _, _, _, _, _, rfl, Kx.refl _, hk⟩ (fun i σ H' hi hP => ?_) (fun σ H' hP => ?_)
    · obtain ⟨x1, x2, x3, x4, x5, x6, x7, x8, rfl, y0, k0⟩ := hP
      walk_at "go"
      refine i_ctap _ k0 (by omega) (by decide) (by decide) fun z H1 z0 z1 y1 k1 => ?_
      walk_at "go"
      obtain ⟨n, hn⟩ : ∃ n : Nat, 2 + z = (n : Int) := ⟨(2 + z).toNat, by omega⟩
      rw [hn]
      have n2 : 2 ≤ n := by omega
      have n12 : n ≤ 12 := by omega
      refine ⟨k, 5, 20, _, rfl, k1, by omega, by decide, by decide, fun a p H2 y2 na k2 ea cp lp dp bp => ?_⟩
      walk_at "go"
      rename_i t0 ht0
      have y3 : Kx k H (upd H2 t0 (.tup [.int (n : Int), .ref a])) := ((y0.trans y1).trans y2).same (Same.new ht0)
      have k3 := k2.new (o := .tup [.int (n : Int), .ref a]) ht0
      have ea3 : upd H2 t0 (.tup [.int (n : Int), .ref a]) a = some (.tup (p.map V.int)) := (Same.new ht0) _ _ ea
      generalize upd H2 t0 (.tup [.int (n : Int), .ref a]) = H3 at *
      refine ⟨a, p, n, rfl, SqT.of ea3, by omega, Nat.le_trans lp (by decide), by omega, by omega, fun b H4 s4 nb eb => ?_⟩
      walk_at "go"
      refine i_ctap _ (k3.same s4) (by omega) (by decide) (by decide) fun wy H5 w0 w1 y5 k5 => ?_
      have y35 : Kx k H H5 := (y3.same s4).trans y5
      have sa : SqT K H5 a (p.map V.int) := ((k3.same s4).tt y5) K _ _ (Same.tup s4 (SqT.of ea3))
      have sb : SqT K H5 b ((tabOf p n).map V.int) := ((k3.same s4).tt y5) K _ _ (SqT.of eb)
      have hT0 := tbl_tab (p := p) (show 0 < n by omega) (show n ≤ 1000 by omega)
      walk_at "go"
      refine j_s (fun σ' H' => ∃ tb v y6, σ' = [some (.ref k), some (.int (0 + (i : Int))), some (.int (n : Int)), some (.ref a), some (.ref tb), some (.int wy), y6, x7, x8, none] ∧ Kx k H5 H' ∧ Cask (60 * i + 24) k H' ∧ SqT K H' tb (v.map V.int) ∧ Tbl n v) (fun nx' hnx => ?_) (fun σ' H6 hM => ?_)
      · walk_at "gi"
        refine ifd (fun c => ?_) (fun c => ?_)
        · walk_at "gi"
          refine i_ctap _ k5 (by omega) (by omega) (by omega) fun ti H6 t0 t1 y6 k6 => ?_
          obtain ⟨j, rfl⟩ : ∃ j : Nat, ti = (j : Int) := ⟨ti.toNat, by omega⟩
          have sb6 : SqT K H6 b ((tabOf p n).map V.int) := (k5.tt y6) K _ _ sb
          have lv := tabOf_len p n
          generalize tabOf p n = v at *
          walk_at "gi"
          refine r_slA sb6 fun a1 H7 s7 e7 => ?_
          walk_at "gi"
          refine i_ctap _ (k6.same s7) (by omega) (by omega) (by omega) fun tz H8 u0 u1 y8 k8 => ?_
          walk_at "gi"
          rename_i t2 ht2
          rw [cut_lo (by rw [List.length_map]; omega), ← List.map_take] at e7
          refine r_catA (Same.tup (Same.new ht2) (((k6.same s7).tt y8) K _ _ e7)) (SqT.of (show _ = some (.tup (([tz] : List Int).map V.int)) from upd_same)) (by rw [List.length_map, List.length_take]; simp; omega) fun a2 H9 s9 e9 => ?_
          walk_at "gi"
          refine r_slA (xs := v.map V.int) (Same.tup s9 (Same.tup (Same.new ht2) (((k6.same s7).tt y8) K _ _ (Same.tup s7 sb6)))) fun a3 H10 s10 e10 => ?_
          walk_at "gi"
          rw [show (j : Int) + 1 = ((j + 1 : Nat) : Int) from rfl, cut_hi (by rw [List.length_map]; omega), ← List.map_drop] at e10
          refine r_catA (Same.tup s10 e9) e10 (by simp; omega) fun a4 H11 s11 e11 => ?_
          walk_at "gi"
          rw [← List.map_append, ← List.map_append] at e11
          refine hnx _ _ ⟨a4, _, _, rfl, ?_, ?_, e11, tbl_set hT0 (by omega) u0 (by omega)⟩
          · exact ((y6.same s7).trans y8).same (((Same.new ht2).trans s9).trans (s10.trans s11))
          · exact (k8.same (((Same.new ht2).trans s9).trans (s10.trans s11))).mono (by omega)
        · walk_at "gi"
          exact hnx _ _ ⟨b, _, _, rfl, Kx.refl _, k5.mono (by omega), sb, hT0⟩
      obtain ⟨tb, v, y6, rfl, z6, k6, st6, hT6⟩ := hM
      walk_at "go"
      refine j_s (fun σ' H' => ∃ tb v, σ' = [some (.ref k), some (.int (0 + (i : Int))), some (.int (n : Int)), some (.ref a), some (.ref tb), some (.int wy), y6, x7, x8, none] ∧ Kx k H5 H' ∧ Cask (60 * i + 60) k H' ∧ SqT K H' tb (v.map V.int) ∧ Tbl n v) (fun nx' hnx => ?_) (fun σ' H7 hM => ?_)
      · walk_at "gi"
        refine ifd (fun c => ?_) (fun c => ?_)
        · walk_at "gi"
          refine ifd (fun c2 => ?_) (fun c2 => ?_)
          · walk_at "gi"
            refine ⟨by omega, by omega, ?_⟩
            rw [Int.toNat_natCast]
            refine r_lcR (fun D j H' => Kx k H6 H' ∧ Cask (60 * i + 24 + j) k H' ∧ ∃ t : List Int, t.length = j ∧ H' D = some (.lst (t.map V.int)) ∧ ∀ m < j, 0 ≤ t.getD m 0 ∧ t.getD m 0 < n) (fun D hD => ⟨Same.toKx (Same.new hD), (k6.new hD).mono (by omega), [], rfl, upd_same, fun _ h => absurd h (by omega)⟩) (fun D j H' hD hj hP => ?_) (fun D H' hD hP => ?_)
            · obtain ⟨x7', k7, t, lt, dt, bt⟩ := hP
              have nD := k6.ne hD
              walk_at "go"
              refine ⟨rfl, ?_⟩
              walk_at "go"
              refine i_ctap _ k7 (by omega) (by omega) (by omega) fun y H8 u0 u1 x8' k8 => ?_
              refine ⟨_, x8' _ _ nD dt, lenle (n := 20) (by rw [List.length_map]; omega) (by decide), fun c o nc e => ?_, ?_, t ++ [y], by rw [List.length_append, lt]; rfl, ?_, fun m hm => ?_⟩
              · rw [upd_ne (ne_of_none e hD)]
                exact x8' _ _ nc (x7' _ _ nc e)
              · obtain ⟨q1, q2, q3, q4, q5⟩ := k8
                exact ⟨q1, q2, q3, by rw [upd_ne (Ne.symm nD)]; exact q4, ⟨q5.a0, q5.ab, q5.b0, q5.bM, q5.c0, by have := q5.cn; omega⟩⟩
              · rw [List.map_append]
                exact upd_same
              · by_cases c : m < j
                · rw [gd_left _ (by omega)]
                  exact bt m c
                · obtain rfl : m = t.length := by omega
                  rw [gd_last]
                  exact ⟨u0, by omega⟩
            · obtain ⟨x7', k7, t, lt, dt, bt⟩ := hP
              walk_at "gi"
              refine r_tupL (SqL.of dt) fun l hl => ?_
              walk_at "gi"
              exact hnx _ _ ⟨l, t, rfl, (z6.trans x7').same (Same.new hl), (k7.new hl).mono (by omega), SqT.of upd_same, lt, by omega, by omega, bt⟩
          · walk_at "gi"
            exact hnx _ _ ⟨tb, v, rfl, z6, k6.mono (by omega), st6, hT6⟩
        · walk_at "gi"
          exact hnx _ _ ⟨tb, v, rfl, z6, k6.mono (by omega), st6, hT6⟩
      obtain ⟨tb, v, rfl, z7, k7, st7, hT7⟩ := hM
      have sa7 : SqT K H7 a (p.map V.int) := (k5.tt z7) K _ _ sa
      have y7 : Kx k H H7 := y35.trans z7
      clear st6 hT6 z6 k6 sb hT0
      have Rp : Right p := ⟨cp, by omega, Nat.le_trans lp (by decide)⟩
      walk_at "gi"
      refine ⟨tb, v, n, rfl, st7, hT7, n2, n12, fun l H8 s8 nl el hno => ?_, fun l fs g H8 s8 nl el fne fl hg hfs => ?_⟩
      · walk_at "gi"
        refine ⟨tb, v, n, rfl, Same.tup s8 st7, hT7, fun H9 s9 _ => ?_, fun f _ _ hg => absurd hg (hno f)⟩
        walk_at "gi"
        rename_i l1 hl1
        have el2 := (Same.new (o := .lst []) hl1) _ _ (s9 _ _ el)
        refine r_neI [] [] (SqL.of el2) (SqL.of upd_same) ?_
        refine r_neBB rfl ?_
        have t10 : Same H7 (upd H9 l1 (.lst [])) := (s8.trans s9).trans (Same.new hl1)
        generalize upd H9 l1 (.lst []) = H10 at *
        walk_at "gi"
        refine ⟨tb, v, n, rfl, Same.tup t10 st7, hT7, fun H11 s11 _ => ?_, fun f _ _ hg => absurd hg (hno f)⟩
        walk_at "gi"
        rename_i l2 hl2
        have el3 := (Same.new (o := .lst []) hl2) _ _ (s11 _ _ el2)
        refine r_neI [] [] (SqL.of el3) (SqL.of upd_same) ?_
        refine r_neBB rfl ?_
        have t12 : Same H7 (upd H11 l2 (.lst [])) := (t10.trans s11).trans (Same.new hl2)
        generalize upd H11 l2 (.lst []) = H12 at *
        walk_at "gi"
        rename_i l3 hl3
        have el4 := (Same.new (o := .lst []) hl3) _ _ el3
        refine r_neI [] [] (SqL.of el4) (SqL.of upd_same) ?_
        rw [show (!decide (([] : List Int) = [])) = false from rfl]
        have t13 : Same H7 (upd H12 l3 (.lst [])) := t12.trans (Same.new hl3)
        generalize upd H12 l3 (.lst []) = H13 at *
        walk_at "gi"
        refine ⟨tb, v, n, rfl, Same.tup t13 st7, hT7, fun H14 s14 _ hgk => ?_, fun r f _ _ _ _ _ hg => absurd hg (hno f)⟩
        walk_at "gi"
        refine r_neNN ?_
        walk_at "gi"
        refine ⟨tb, v, n, rfl, Same.tup (t13.trans s14) st7, hT7, fun H15 s15 _ _ => ?_, fun r f _ _ _ _ _ hg => absurd hg (hno f)⟩
        walk_at "gi"
        refine r_neNN ?_
        walk_at "gi"
        have t15 := (t13.trans s14).trans s15
        refine ⟨a, p, n, rfl, Same.tup t15 sa7, by omega, Nat.le_trans lp (by decide), by omega, by omega, fun b2 H16 s16 nb2 eb2 => ?_⟩
        walk_at "gi"
        refine r_eqT v (tabOf p n) (Same.tup (t15.trans s16) st7) (SqT.of eb2) ?_
        walk_at "gi"
        refine ifd (fun c => ?_) (fun c => ?_)
        · walk_at "gi"
          refine ⟨a, p, n, rfl, Same.tup (t15.trans s16) sa7, Rp, by omega, fun c hc => Nat.le_trans (bp c hc) (by decide), by omega, by omega, fun r b3 H17 t h s17 _ _ _ _ lt ht lh hh => ?_⟩
          obtain ⟨f, hf⟩ := form_has (n := n) (by omega) ht (by omega) (fun k hk => hh k (by omega))
          rw [← c] at hf
          exact absurd hf (hno f)
        · walk_at "gi"
          rename_i l4 hl4
          refine r_inP (SqL.of (show _ = some (.lst lowP) from upd_same)) ?_
          rw [not_low n2 n12 hgk]
          walk_at "gi"
          have t17 := (t15.trans s16).trans (Same.new (o := .lst lowP) hl4)
          exact ⟨_, _, _, _, _, _, _, _, rfl, y7.same t17, (k7.same t17).mono (by omega)⟩
      · walk_at "gi"
        refine ⟨tb, v, n, rfl, Same.tup s8 st7, hT7, fun _ _ hno => absurd hg (hno g), fun f H9 s9 _ => ?_⟩
        walk_at "gi"
        rename_i l1 hl1
        have efs : (!decide (fs = [])) = true := by rw [decide_eq_false fne]; rfl
        have el2 := (Same.new (o := .lst []) hl1) _ _ (s9 _ _ el)
        refine r_neI fs [] (SqL.of el2) (SqL.of upd_same) ?_
        refine r_neBB efs.symm ?_
        have t10 : Same H7 (upd H9 l1 (.lst [])) := (s8.trans s9).trans (Same.new hl1)
        generalize upd H9 l1 (.lst []) = H10 at *
        walk_at "gi"
        refine ⟨tb, v, n, rfl, Same.tup t10 st7, hT7, fun _ _ hno => absurd hg (hno g), fun f H11 s11 _ => ?_⟩
        walk_at "gi"
        rename_i l2 hl2
        have el3 := (Same.new (o := .lst []) hl2) _ _ (s11 _ _ el2)
        refine r_neI fs [] (SqL.of el3) (SqL.of upd_same) ?_
        refine r_neBB efs.symm ?_
        have t12 : Same H7 (upd H11 l2 (.lst [])) := (t10.trans s11).trans (Same.new hl2)
        generalize upd H11 l2 (.lst []) = H12 at *
        walk_at "gi"
        rename_i l3 hl3
        have el4 := (Same.new (o := .lst []) hl3) _ _ el3
        refine r_neI fs [] (SqL.of el4) (SqL.of upd_same) ?_
        rw [efs]
        have t13 : Same H7 (upd H12 l3 (.lst [])) := t12.trans (Same.new hl3)
        generalize upd H12 l3 (.lst []) = H13 at *
        walk_at "gi"
        refine ⟨l, fs, rfl, SqL.of el4, fne, by omega, fun r d H14 s14 nd ed hcr hvr => ?_⟩
        have t14 := t13.trans s14
        have hrg : ∀ x, pval r x = pval g x := fun x => by rw [hvr x, pval_same g fs hfs x]
        have sd : SqT K H14 d (r.map V.int) := SqT.of ed
        walk_at "gi"
        refine ⟨tb, v, n, rfl, Same.tup t14 st7, hT7, fun _ _ hno => absurd hg (hno g), fun r2 f2 b2 H15 s15 _ e15 hg2 hc2 hv2 => ?_⟩
        walk_at "gi"
        refine r_neIT (SqT.of e15) (Same.tup s15 sd) (hc2.eq hcr fun x => by rw [hv2 x, hrg x]; exact pval_same f2 g (good_same hT7.len hg2 hg) x) ?_
        walk_at "gi"
        refine ⟨tb, v, n, rfl, Same.tup (t14.trans s15) st7, hT7, fun _ _ hno => absurd hg (hno g), fun r3 f3 b3 H16 s16 _ e16 hg3 hc3 hv3 => ?_⟩
        walk_at "gi"
        refine r_neIT (SqT.of e16) (Same.tup (s15.trans s16) sd) (hc3.eq hcr fun x => by rw [hv3 x, hrg x]; exact pval_same f3 g (good_same hT7.len hg3 hg) x) ?_
        walk_at "gi"
        have t16 := (t14.trans s15).trans s16
        have u16 := s15.trans s16
        refine ⟨a, p, n, rfl, Same.tup t16 sa7, by omega, Nat.le_trans lp (by decide), by omega, by omega, fun b4 H17 s17 _ e17 => ?_⟩
        walk_at "gi"
        refine r_eqT v (tabOf p n) (Same.tup (t16.trans s17) st7) (SqT.of e17) ?_
        walk_at "gi"
        refine ifd (fun c => ?_) (fun c => ?_)
        · walk_at "gi"
          refine ⟨a, p, n, rfl, Same.tup (t16.trans s17) sa7, Rp, by omega, fun c hc => Nat.le_trans (bp c hc) (by decide), by omega, by omega, fun r5 b5 H18 t h s18 _ e18 hc5 hv5 lt ht lh hh => ?_⟩
          rw [c] at hg
          have h5 := form_good (by omega) hg ht (by omega) (fun k hk => hh k (by omega))
          walk_at "gi"
          refine r_neIT (SqT.of e18) (Same.tup ((u16.trans s17).trans s18) sd) (hc5.eq hcr fun x => by rw [hv5 x, hrg x]; exact pval_same h g h5 x) ?_
          walk_at "gi"
          rename_i l4 hl4
          refine r_inP (SqL.of (show _ = some (.lst lowP) from upd_same)) ?_
          have t17 := ((t16.trans s17).trans s18).trans (Same.new (o := .lst lowP) hl4)
          cases inV (.int (n : Int)) lowP
          · walk_at "gi"
            exact ⟨_, _, _, _, _, _, _, _, rfl, y7.same t17, (k7.same t17).mono (by omega)⟩
          · walk_at "gi"
            refine ⟨rfl, ?_⟩
            rw [decide_eq_false (show ¬ V.ref d = V.non from fun e => nomatch e)]
            walk_at "gi"
            exact ⟨_, _, _, _, _, _, _, _, rfl, y7.same t17, (k7.same t17).mono (by omega)⟩
        · walk_at "gi"
          rename_i l4 hl4
          refine r_inP (SqL.of (show _ = some (.lst lowP) from upd_same)) ?_
          have t17 := (t16.trans s17).trans (Same.new (o := .lst lowP) hl4)
          cases inV (.int (n : Int)) lowP
          · walk_at "gi"
            exact ⟨_, _, _, _, _, _, _, _, rfl, y7.same t17, (k7.same t17).mono (by omega)⟩
          · walk_at "gi"
            refine ⟨rfl, ?_⟩
            rw [decide_eq_false (show ¬ V.ref d = V.non from fun e => nomatch e)]
            walk_at "gi"
            exact ⟨_, _, _, _, _, _, _, _, rfl, y7.same t17, (k7.same t17).mono (by omega)⟩
    · obtain ⟨x1, x2, x3, x4, x5, x6, x7, x8, rfl, y0, k0⟩ := hP
      walk_at "gi"
      rename_i u0 hu0
      have s1 := Same.new (o := .tup [.int 0]) hu0
      have e1 : upd H' u0 (.tup [.int 0]) u0 = some (.tup (([0] : List Int).map V.int)) := upd_same
      have T1 : Tbl 1 [0] := ⟨rfl, by decide, by decide, fun k hk => by obtain rfl : k = 0 := by omega
                                                                        exact ⟨Int.le_refl _, by decide⟩⟩
      refine ⟨u0, [0], 1, rfl, SqT.of e1, T1, fun H2 s2 hno => absurd good_one (hno _), fun f H2 s2 _ => ?_⟩
      walk_at "gi"
      rename_i u1 hu1
      refine ⟨u1, [0], 1, rfl, SqT.of upd_same, T1, fun H3 s3 hno _ => absurd good_one (hno _), fun r f b H3 s3 nb eb hg hc hv => ?_⟩
      walk_at "gi"
      rename_i u2 hu2
      have er : r = [0] := hc.eq (Canon.one 0) fun x => by
        rw [hv x]
        exact pval_same f [0] (good_same (n := 1) (v := [0]) rfl hg good_one) x
      refine r_eqT r [0] (Same.tup (Same.new hu2) (SqT.of eb)) (SqT.of upd_same) ?_
      rw [decide_eq_true er]
      exact q _ (y0.same ((((s1.trans s2).trans (Same.new hu1)).trans s3).trans (Same.new hu2)))
/-! ### the law -/
def sp_law (K : PySem.W.Frag) : Sp := fun vs H Q _ => ∃ (c : Addr) (ns : List Int), vs = [.ref c] ∧ SqL K H c (ns.map V.int) ∧ Script ns ∧ ∀ H', Q (.bl true) H'
theorem ok_law (T : Top K mg) : Ok P w K mg base 10 "law" s_law ["_law_script"] (sp_law K) := by
  have G__law_right := ok__law_right (P := P) (w := w) (base := base) T
  have G__law_cask := ok__law_cask (P := P) (w := w) (base := base) T
  refine T.d_law.ok sc_law (fun vs H Q E h => ?_) (fun f cdv A outer s H vs Q E hg hr h => ?_)
  · obtain ⟨c, ns, rfl, _⟩ := h
    rfl
  · obtain ⟨c, ns, rfl, hs, hn, q⟩ := h
    refine ⟨_, (pss_one (ps_ret (pe_callB (id := "all") (c_all rfl rfl) (by rfl) T.b_all (by decide +kernel) (pa_cons (pe_lc (own := [("_law_k", 1)]) (by rfl) sc_law.nd (pi_range1 (by rfl) T.b_range (pa_cons (pe_callB (id := "max") (c_max2 rfl) (by rfl) T.b_max (by decide +kernel) (pa_cons pe_int (pa_cons (pe_callB (id := "min") (c_min2 rfl) (by rfl) T.b_min (by decide +kernel) (pa_cons (pe_callB (id := "len") (c_len rfl) (by rfl) T.b_len (by decide +kernel) (pa_cons (pv 0) pa_nil)) (pa_cons pe_int pa_nil))) pa_nil))) pa_nil)) (blkOk_by (own := [("_law_k", 1)]) (N := ["_law_script", "_law_k"]) (sc := defScope s_law) (by decide +kernel)) (fun _ _ _ _ _ => (pg_name (i := 1) sc_law.nd rfl (Or.inl rfl))) (fun _ _ _ _ _ => pts_nil) (fun _ _ _ _ _ => (pe_g G__law_right (fun _ _ F => bd__law_right F) hg (hr.mono (by decide)) passL (by rfl) (pa_cons (pe_g G__law_cask (fun _ _ F => bd__law_cask F) hg (hr.mono (by decide)) passL (by rfl) (pa_cons (pv 0) (pa_cons (pv 1) pa_nil))) pa_nil)))) pa_nil)))), ?_⟩
    walk_at "st"
    have E62 := e62
    rw [List.length_map]
    refine ⟨by omega, by omega, ?_⟩
    have hm : (max 2 (min (ns.length : Int) 3)).toNat ≤ 3 := by omega
    generalize (max 2 (min (ns.length : Int) 3)).toNat = m at *
    refine r_lcR (fun D i H' => Same H H' ∧ H' D = some (.lst ((List.replicate i true).map V.bl))) (fun D hD => ⟨Same.new hD, upd_same⟩) (fun D i H' hD hi hP => ?_) (fun D H' hD hP => ?_)
    · obtain ⟨s1, d1⟩ := hP
      walk_at "go"
      refine ⟨rfl, ?_⟩
      walk_at "go"
      rw [Int.zero_add]
      refine i_cask ns i (Same.list s1 hs) hn (by omega) fun p H2 s2 n2 k2 => ?_
      have npD : D ≠ p := ne_of_none d1 n2
      walk_at "go"
      refine ⟨p, rfl, k2, fun H3 x3 => ?_⟩
      have d3 : H3 D = some (.lst ((List.replicate i true).map V.bl)) := x3 _ _ npD (s2 _ _ d1)
      refine ⟨_, d3, ?_, fun b o e => ?_, ?_⟩
      · rw [List.length_map, List.length_replicate]
        exact Nat.lt_of_le_of_lt (show i ≤ 3 by omega) (by decide)
      · have nb : b ≠ D := ne_of_none e hD
        have e1 := s1 _ _ e
        rw [upd_ne nb]
        exact x3 _ _ (ne_of_none e1 n2) (s2 _ _ e1)
      · rw [upd_same, List.replicate_succ', List.map_append]
        rfl
    obtain ⟨s1, d1⟩ := hP
    refine r_all (SqL.of d1) ?_
    rw [show (List.replicate m true).all id = true by simp]
    exact q _
end
end K34
open PySem PySem.W PyProof.Rows
set_option maxHeartbeats 0 in
theorem PySem.Challenge.cw_restworld_k34_whole_tables_of_sums_holds : PySem.Challenge.rw_restworld_k34_whole_tables_of_sums.Holds := by
  w_on; o_law; k_head; (case hw => w_witness2)
  k_fill
  refine Vf.walk_g (l := PySem.Challenge.rw_restworld_k34_whole_tables_of_sums) (n := 63) (k := 10) (y := "_law_script") (st := K34.s_law) (sp := K34.sp_law) rfl (by decide) rfl ⟨rfl, by decide, by decide⟩ (fun w h Y => PySem.W.kIn_of Y) ?F (fun w f fd G => K34.bd_law G) (fun w H a ns hl hb hS => ⟨a, ns, rfl, hS, ⟨hl, hb⟩, fun _ => rfl⟩)
  case F =>
    intro w mg h KX G base kb gb
    refine' K34.ok_law (K34.top_mk KX G ?a0 ?l0 ?c0 ?k0 ?a1 ?l1 ?c1 ?k1 ?a2 ?l2 ?c2 ?k2 ?a3 ?l3 ?c3 ?k3 ?a4 ?l4 ?c4 ?k4 ?a5 ?l5 ?c5 ?k5 ?a6 ?l6 ?c6 ?k6 ?a7 ?l7 ?c7 ?k7 ?a8 ?l8 ?c8 ?k8 ?a9 ?l9 ?c9 ?k9 ?a10 ?l10 ?c10 ?k10 ?a11 ?l11 ?c11 ?k11 ?a12 ?l12 ?c12 ?k12 ?a13 ?l13 ?c13 ?k13 ?a14 ?l14 ?c14 ?k14 ?a15 ?l15 ?c15 ?k15 ?a16 ?l16 ?c16 ?k16 ?a17 ?l17 ?c17 ?k17 ?a18 ?l18 ?c18 ?k18 ?a19 ?l19 ?c19 ?k19 ?a20 ?l20 ?c20 ?k20 ?a21 ?l21 ?c21 ?k21 ?a22 ?l22 ?c22 ?k22 ?a23 ?l23 ?c23 ?k23 ?a24 ?l24 ?c24 ?k24 ?a25 ?l25 ?c25 ?k25 ?a26 ?l26 ?c26 ?k26 ?a27 ?l27 ?c27 ?k27 ?a28 ?l28 ?c28 ?k28 ?a29 ?l29 ?c29 ?k29 ?a30 ?l30 ?c30 ?k30 ?m_gcd ?q_MOST_BASE ?q_MOST_DEGREE ?q_MOST_COEFFICIENT ?q_MOST_TABLE ?b_abs ?b_all ?b_bool ?b_divmod ?b_enumerate ?b_int ?b_isinstance ?b_len ?b_list ?b_max ?b_min ?b_range ?b_tuple ?b_zip)
    (case a0 => k_is)
    (case l0 => k_is)
    (case c0 => k_is)
    (case k0 => k_is)
    (case a1 => k_is)
    (case l1 => k_is)
    (case c1 => k_is)
    (case k1 => k_is)
    (case a2 => k_is)
    (case l2 => k_is)
    (case c2 => k_is)
    (case k2 => k_is)
    (case a3 => k_is)
    (case l3 => k_is)
    (case c3 => k_is)
    (case k3 => k_is)
    (case a4 => k_is)
    (case l4 => k_is)
    (case c4 => k_is)
    (case k4 => k_is)
    (case a5 => k_is)
    (case l5 => k_is)
    (case c5 => k_is)
    (case k5 => k_is)
    (case a6 => k_is)
    (case l6 => k_is)
    (case c6 => k_is)
    (case k6 => k_is)
    (case a7 => k_is)
    (case l7 => k_is)
    (case c7 => k_is)
    (case k7 => k_is)
    (case a8 => k_is)
    (case l8 => k_is)
    (case c8 => k_is)
    (case k8 => k_is)
    (case a9 => k_is)
    (case l9 => k_is)
    (case c9 => k_is)
    (case k9 => k_is)
    (case a10 => k_is)
    (case l10 => k_is)
    (case c10 => k_is)
    (case k10 => k_is)
    (case a11 => k_is)
    (case l11 => k_is)
    (case c11 => k_is)
    (case k11 => k_is)
    (case a12 => k_is)
    (case l12 => k_is)
    (case c12 => k_is)
    (case k12 => k_is)
    (case a13 => k_is)
    (case l13 => k_is)
    (case c13 => k_is)
    (case k13 => k_is)
    (case a14 => k_is)
    (case l14 => k_is)
    (case c14 => k_is)
    (case k14 => k_is)
    (case a15 => k_is)
    (case l15 => k_is)
    (case c15 => k_is)
    (case k15 => k_is)
    (case a16 => k_is)
    (case l16 => k_is)
    (case c16 => k_is)
    (case k16 => k_is)
    (case a17 => k_is)
    (case l17 => k_is)
    (case c17 => k_is)
    (case k17 => k_is)
    (case a18 => k_is)
    (case l18 => k_is)
    (case c18 => k_is)
    (case k18 => k_is)
    (case a19 => k_is)
    (case l19 => k_is)
    (case c19 => k_is)
    (case k19 => k_is)
    (case a20 => k_is)
    (case l20 => k_is)
    (case c20 => k_is)
    (case k20 => k_is)
    (case a21 => k_is)
    (case l21 => k_is)
    (case c21 => k_is)
    (case k21 => k_is)
    (case a22 => k_is)
    (case l22 => k_is)
    (case c22 => k_is)
    (case k22 => k_is)
    (case a23 => k_is)
    (case l23 => k_is)
    (case c23 => k_is)
    (case k23 => k_is)
    (case a24 => k_is)
    (case l24 => k_is)
    (case c24 => k_is)
    (case k24 => k_is)
    (case a25 => k_is)
    (case l25 => k_is)
    (case c25 => k_is)
    (case k25 => k_is)
    (case a26 => k_is)
    (case l26 => k_is)
    (case c26 => k_is)
    (case k26 => k_is)
    (case a27 => k_is)
    (case l27 => k_is)
    (case c27 => k_is)
    (case k27 => k_is)
    (case a28 => k_is)
    (case l28 => k_is)
    (case c28 => k_is)
    (case k28 => k_is)
    (case a29 => k_is)
    (case l29 => k_is)
    (case c29 => k_is)
    (case k29 => k_is)
    (case a30 => k_is)
    (case l30 => k_is)
    (case c30 => k_is)
    (case k30 => k_is)
    (case m_gcd => k_is)
    (case q_MOST_BASE => k_is)
    (case q_MOST_DEGREE => k_is)
    (case q_MOST_COEFFICIENT => k_is)
    (case q_MOST_TABLE => k_is)
    (case b_abs => k_is)
    (case b_all => k_is)
    (case b_bool => k_is)
    (case b_divmod => k_is)
    (case b_enumerate => k_is)
    (case b_int => k_is)
    (case b_isinstance => k_is)
    (case b_len => k_is)
    (case b_list => k_is)
    (case b_max => k_is)
    (case b_min => k_is)
    (case b_range => k_is)
    (case b_tuple => k_is)
    (case b_zip => k_is)

