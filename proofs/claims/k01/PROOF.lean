import PyProof.Rows.All
import Wide.All
import OpenK.AllK
import Wide.FinOn
import HandS.ForMost
import HandS.Wide
import HandS.Defaults
import HandS.Flow
import HandS.Style
import HandS.IsInst
import HandS.MakeKw
import HandS.Walk
import PySem.Challenge.RW_tablebills_k01_kinds
set_option Elab.async false
set_option linter.all false
set_option maxRecDepth 100000
namespace TB
open PySem PySem.Spec PyProof.Rows L2

/-! A def's promise, where no repr is under way around it. -/
section
variable (P : Program) (w : World) (K : PySem.W.Frag) (mg : Str → Option Value) (base : Heap)
structure FnG (CX : CXT) (k : Nat) (f : Addr) (fd : FuncData) (ps : List Str) (sp : Sp) : Prop where
  len : ∀ xs G R Z, sp xs G R Z → xs.length = ps.length
  run : ∀ (A : Around), A.guards = some [] → Room k A →
    ∀ (outer : List Env) (s : Shared) (H : Hp), Env0 P w K mg base A outer s H →
    ∀ (args : Args) (us : List Value) (vs : List V), BindsTo s fd args (ps.zip us) → Vals vs us →
    ∀ (Q : VK) (E : XK), sp vs H Q E →
      codeAny (model P w) A (Code.call (Value.ref f) args)
        (CR CX outer P w H s Q E) s
end

section
variable {P : Program} {w : World} {K : PySem.W.Frag} {mg : Str → Option Value} {base : Heap} {CX : CXT}
theorem FnG.of {k : Nat} {f : Addr} {fd : FuncData} {ps : List Str} {sp : Sp}
    (F : FnOk P w K mg base CX k f fd ps sp) : FnG P w K mg base CX k f fd ps sp :=
  ⟨F.len, fun A _ hr outer s H e0 args us vs hb r Q E h => F.run A outer s H args us vs Q E hr e0 hb r h⟩

/-- the body's walk gives the promise -/
theorem gfn {k : Nat} {f : Addr} {nm qual : Str} {prm : Arguments} {bd : List Stmt} {sc : Scope} {dV kV doc pm cdv ct oc : Value} {an od : Option Addr}
    {osl : Array (Option Value)} {N : List Str} {ps : List Str} {sp : Sp}
    (lk : K.lookup f = some ⟨oc, od, .func (PySem.W.fnOf nm qual prm bd sc dV kV doc pm an cdv ct), osl⟩)
    (hcd : PySem.W.codeIn K cdv qual = true) (S : FnScope N ps sc) (len : ∀ vs H Q E, sp vs H Q E → vs.length = ps.length)
    (walk : ∀ (A : Around), A.guards = some [] → ∀ (outer : List Env) (s : Shared) (H : Hp) (vs : List V) (Q : VK) (E : XK),
      Room k (A.deeper (envOfC qual sc s.heap.objs.size f cdv)) → sp vs H Q E →
      ∃ t, PSs (cxOf CX P w K mg base N qual sc f cdv A outer s H E) bd t ∧ t ⟨fun _ H' => Q .non H', Q, fun _ _ => False, fun _ _ => False⟩ (start N vs) H) :
    FnG P w K mg base CX (k + 1) f (PySem.W.fnOf nm qual prm bd sc dV kV doc pm an cdv ct) ps sp := by
  constructor
  · exact len
  intro A hg hr outer s H e0 args us vs hb r Q E hsp
  have keeps : ∀ b o, base.get? b = some o → s.heap.get? b = some o := fun b o e => (e0.bs b o e).1
  have KX : K.In s.heap := e0.mod.kin.keeps keeps
  have lim : s.heap.NoLimit := e0.mod.nolimit.keeps keeps
  obtain ⟨t, ht, hq⟩ := walk A hg outer s H vs Q E (hr.deeper _) hsp
  have crec := PySem.W.codeRec_of KX hcd
  refine codeAny_call_function hr.depth (KX _ _ lk) rfl S.co S.gen rfl crec (hb _ _ _ _ ?_)
  refine wpAny_newFunctionEnv_cells S.kind ?_ ?_
  · rintro ⟨n, v⟩ hy
    have q := S.par n (List.of_mem_zip hy).1
    cases q with
    | inl q => exact Or.inl q
    | inr q => exact Or.inr ⟨q, PySem.W.cellsFrom_some _ _ _ (Or.inl q)⟩
  · intro env he s1 x
    cases he
    have I := inv_start (CX := CX) (P := P) (w := w) (mg := mg) (N := N) (qual := qual) (f := f) (cd := cdv) (E := E) S hr.hd e0 (len _ _ _ _ hsp) r x
    refine ⟨lim.keeps x.toInCall.keep, codeAny_func (wpAny_mono (ht.run [] s1 (start N vs) H _ I hq) ?_ (fun e s' hs => hs))⟩
    intro fl s' hs
    match fl, hs with
    | .ret u, ⟨v, _, H', J, rv, q⟩ => exact ⟨v, H', J.os, J.bare, J.base, J.hok, rv, q⟩
    | .next, ⟨_, H', J, q⟩ => exact ⟨V.non, H', J.os, J.bare, J.base, J.hok, rfl, q⟩
    | .brk, ⟨_, _, _, q⟩ => exact q.elim
    | .cont, ⟨_, _, _, q⟩ => exact q.elim

theorem gok {x qual : Str} {st : Stmt} {f : Addr} {fd : FuncData} {N ps : List Str} {k : Nat} {sp : Sp} (F : Fun K x qual st f fd)
    (S : FnScope N ps (defScope st)) (len : ∀ vs H Q E, sp vs H Q E → vs.length = ps.length)
    (walk : ∀ (cdv : Value) (A : Around), A.guards = some [] → ∀ (outer : List Env) (s : Shared) (H : Hp) (vs : List V) (Q : VK) (E : XK),
      Room k (A.deeper (envOfC qual (defScope st) s.heap.objs.size f cdv)) → sp vs H Q E →
      ∃ t, PSs (cxOf CX0 P w K mg base N qual (defScope st) f cdv A outer s H E).nox (defBody st) t ∧
        t ⟨fun _ H' => Q .non H', Q, fun _ _ => False, fun _ _ => False⟩ (start N vs) H) :
    FnG P w K mg base CX0 (k + 1) f fd ps sp := by
  obtain ⟨_, _, _, _, _, _, cdv, _, _, rfl, lk, hcd⟩ := F.ex
  refine gfn lk hcd S len fun A hg outer s H vs Q E hr hsp => ?_
  obtain ⟨t, a, b⟩ := walk cdv A hg outer s H vs Q E hr hsp
  exact ⟨t, a.nox, b⟩
end

section
variable {X : Cx} {CX : CXT} {k : Nat} {f : Addr} {fd : FuncData} {ps : List Str} {sp : Sp} {dvs : List V} {ds : List Value} {E : XK} {x : Str} {p pos : Pos} {e : Expr} {es : List Expr} {t : TA}
/-- f(e, ..) of such a def -/
theorem pe_callG (F : FnG X.prog X.w X.K X.mg X.base CX k f fd ps sp) (gd : X.A.guards = some []) (hr : Room k X.A) (hg : Gl X x) (hm : X.mg x = some (.ref f))
    (hk : PySem.W.keepIn X.K (.ref f) = true) (hb : Binds X.K fd ps ds) (hd : Vals dvs ds) (hx : Passes CX X E) (ha : PA X (e :: es) t)
    (he : starEach (e :: es) X.env = (false, eval e X.env) :: starEach es X.env := by rfl) (hdb : (x == ("__debug__" : Str)) = false := by decide)
    (hpl : (backTo pos (starEach es X.env)).any (·.1) = false := by rfl) : PE X (.Call (.Name x p) (e :: es) [] pos) (tCall sp dvs E t) := by
  constructor
  intro pins s σ H Q I h
  refine wpAny_Call_Name_kw (ld_glob I hg hm (PySem.W.callWith_K (h₀ := X.base) I.ok.mod.kin hk (thn (ha.run pos pins s σ H _ I h) ?_) he hpl) hdb)
  rintro us s1 ⟨vs, H1, I1, r, q⟩
  have r2 := r.append hd
  have hl : (us ++ ds).length = ps.length := r2.length.symm.trans (F.len _ _ _ _ q)
  refine ⟨I1.kIn, wpAny_call (codeAny_mono (F.run X.A gd hr X.stack s1 H1 I1.env0 ⟨us, []⟩ _ _ (hb s1 us I1.kIn hl) r2 Q E q) ?_)⟩
  intro res s' hq
  match res, hq with
  | .error e, hq => exact hx pins σ H1 s1 e s' I1 hq
  | .ok (.ret u), hq => exact I1.after hq
  | .ok .next, hq => exact hq.elim
  | .ok .brk, hq => exact hq.elim
  | .ok .cont, hq => exact hq.elim
end

/-! repr of plain data -/
section
variable {X : Cx}
def rRepr (K : PySem.W.Frag) : List V → Hp → VK → Prop := fun xs H Q => ∃ a d, xs = [.ref a] ∧ Dp K H (.ref a) d ∧ d.showable = true ∧ d.hasDict = false ∧ d.depth ≤ 60 ∧ d.shown.length ≤ sizeLine ∧ Q (.str d.shown) H
theorem call_reprD (gd : X.A.guards = some []) (hu : X.A.units + 64 < cLine) : CallR X (.builtin "repr") (rRepr X.K) := by
  intro pins s σ H args us Q I r h
  obtain ⟨a, d, rfl, hd, hs, hn, hp, hz, q⟩ := h
  cases r with
  | cons r1 r2 =>
    cases r2
    have e := r1
    obtain rfl := show _ = Value.ref a from e
    obtain ⟨as, rd⟩ := Dp.reads I d _ _ hd rfl
    refine repr_of_reads' rd hs (PyData.noDict_hsm hn) gd (by omega) (fun _ _ z => z) (fun h' u tk k => ?_) hz
    exact ⟨.str d.shown, H, I.kept k, ⟨u, rfl⟩, q⟩

/-- xs[i] read, i no less than 0, by values -/
def rGetN (K : PySem.W.Frag) : V → V → Hp → VK → Prop := fun o i H Q => ∃ (p : Addr) (xs : List V) (j : Nat) (v : V), o = .ref p ∧ i = .int (j : Int) ∧ SqL K H p xs ∧ xs[j]? = some v ∧ Q v H
theorem get_list : PGet X (rGetN X.K) := by
  intro pins s σ H o i ov iv Q I ro ri h
  obtain ⟨p, xs, j, z, rfl, rfl, hq, he, q⟩ := h
  cases ro
  obtain ⟨t, rfl⟩ := ri
  obtain ⟨its, rl, pl, hz⟩ := I.list hq
  obtain ⟨v, ev, rv⟩ := rl.get he
  have hl := rl.length
  have hj : j < xs.length := (List.getElem?_eq_some_iff.mp he).1
  have hn := line63
  exact wpAny_getItem_list pl.isList (by omega) (by omega) (by rw [Int.toNat_natCast]; simpa using ev) ⟨z, H, I, rv, q⟩
end

/-! the law's own call, at the top's end -/
section
variable {P : Program} {w : World} {K : PySem.W.Frag} {mg mb : Str → Option Value} {k : Nat} {fa a : Addr} {fd : FuncData} {x : Str} {sp : Sp} {s1 : Shared} {vs : List Value} {ns : List Int}
/-- the abstract heap that tracks the script alone, or nothing -/
theorem lawG0 {H : Hp} (KX : K.In s1.heap) (hns : s1.heap.Ns mainGlobals mg) (hb : s1.heap.Ns builtinsNs mb)
    (hbb : ∀ y : Str, y ≠ "__name__" → mb y = bootBuiltins y) (hlim : s1.heap.NoLimit) (hg : s1.gens = #[])
    (ha : s1.heap.get? a = some { cls := .type "list", data := .seq vs.toArray }) (hr : Room k callerA)
    (F : ∀ base : Heap, K.In base → base.Ns mainGlobals mg → FnG P w K mg base CX0 k fa fd [x] sp)
    (hbind : ∀ (s : Shared) (u : Value), BindsTo s fd ⟨[u], []⟩ [(x, u)])
    (hO : Only H) (hok : HOk P w H s1.heap) (onlyA : ∀ b, H b ≠ none → b = a) (notK : H a ≠ none → K.lookup a = none)
    (hsp : sp [.ref a] H (fun v _ => v = .bl true) fun _ _ _ => False) :
    codeAny (model P w) callerA (.call (.ref fa) ⟨[.ref a], []⟩)
      (fun r s' => r = .ok (.ret (.bool true)) ∧ OldK s1.heap s'.heap ∧ s'.os = s1.os ∧ AllBare s'.gens) s1 := by
  have free : ∀ (b : Addr), (b = a → H b = none) → H b = none := by
    intro b hb
    by_cases e : H b = none
    · exact e
    · exact hb (onlyA b e)
  have nsB : ∀ {b : Addr} {m : Str → Option Value}, s1.heap.Ns b m → (hidT s1.heap H).Ns b m := by
    rintro b m ⟨o, es, ep, e, d, r⟩
    refine ⟨o, es, ep, hidT_get e (free b ?_), d, r⟩
    rintro rfl
    have q := Option.some.inj (e.symm.trans ha)
    rw [q] at d
    exact nomatch d
  have kinB : K.In (hidT s1.heap H) := by
    intro b o e
    refine hidT_get (KX b o e) (free b ?_)
    rintro rfl
    by_cases z : H b = none
    · exact z
    · exact absurd ((notK z).symm.trans e) (fun q => nomatch q)
  obtain ⟨mc, hl1, hl2⟩ := hlim
  have M : Mod K mg (hidT s1.heap H) := ⟨kinB, nsB hns, ⟨mb, nsB hb, hbb⟩, ⟨mc, nsB hl1, hl2⟩⟩
  have e0 : Env0 P w K mg (hidT s1.heap H) callerA [] s1 H :=
    { frames := rfl, mod := M, bs := fun b o e => of_hidT e, bsz := Nat.le_of_eq (hidT_size _ _), funs := trivial,
      frf := fun b hb => (nomatch (show b ∈ ([] : List Addr) from hb)), hok := hok, bare := .of_eq hg }
  have run := (F _ kinB (nsB hns)).run callerA rfl hr [] s1 H e0 ⟨[.ref a], []⟩ [.ref a] [.ref a] (hbind s1 _) (.cons rfl .nil) _ _ hsp
  refine codeAny_mono run ?_
  intro r s' h
  match r, h with
  | .ok (.ret u), ⟨v, H', os, bare, un, hok', rv, q⟩ =>
    have q' : v = V.bl true := q
    subst q'
    have eu : u = Value.bool true := rv
    subst eu
    refine ⟨rfl, OldK.of_keep ?_, os, bare⟩
    intro b o e
    by_cases z : H b = none
    · exact un.keep b o e z (fun q => nomatch (show b ∈ ([] : List Addr) from q)) (fun q => nomatch q)
    · rcases hO b with z1 | ⟨ob, xs, z1⟩
      · exact absurd z1 z
      · have e1 := (hok b _ z1).1
        have e2 := (hok' b _ (un.frzs b ob _ z1)).1
        rw [Option.some.inj (e.symm.trans e1)]
        exact e2

theorem lawG (KX : K.In s1.heap) (hns : s1.heap.Ns mainGlobals mg) (hb : s1.heap.Ns builtinsNs mb)
    (hbb : ∀ y : Str, y ≠ "__name__" → mb y = bootBuiltins y) (hlim : s1.heap.NoLimit) (hg : s1.gens = #[])
    (ha : s1.heap.get? a = some { cls := .type "list", data := .seq vs.toArray }) (hi : IntsAre vs ns) (hl : ns.length ≤ sizeLine) (hr : Room k callerA)
    (F : ∀ base : Heap, K.In base → base.Ns mainGlobals mg → FnG P w K mg base CX0 k fa fd [x] sp)
    (hbind : ∀ (s : Shared) (u : Value), BindsTo s fd ⟨[u], []⟩ [(x, u)])
    (hsp : ∀ H : Hp, SqL K H a (ns.map V.int) → sp [.ref a] H (fun v _ => v = .bl true) fun _ _ _ => False) :
    codeAny (model P w) callerA (.call (.ref fa) ⟨[.ref a], []⟩)
      (fun r s' => r = .ok (.ret (.bool true)) ∧ OldK s1.heap s'.heap ∧ s'.os = s1.os ∧ AllBare s'.gens) s1 := by
  have rv := vals_ints hi
  by_cases hk : K.lookup a = none
  · let ob : Obj := { cls := .type "list", data := .seq vs.toArray }
    let H : Hp := upd (fun _ => none) a (.frz ob (.lst (ns.map V.int)))
    have hA : H a = some (.frz ob (.lst (ns.map V.int))) := upd_same
    have hN : ∀ b, b ≠ a → H b = none := fun b ne => upd_ne ne
    refine lawG0 (H := H) KX hns hb hbb hlim hg ha hr F hbind ?_ ?_ ?_ (fun _ => hk) (hsp H (.inl (.inr ⟨ob, hA⟩)))
    · intro b
      by_cases e : b = a
      · exact .inr ⟨ob, _, e ▸ hA⟩
      · exact .inl (hN b e)
    · intro b u q
      by_cases e : b = a
      · subst e
        cases Option.some.inj (q.symm.trans hA)
        exact ⟨ha, Nat.le_trans (Nat.le_of_eq (List.length_map V.int)) hl, vs, _, rv, ha⟩
      · exact nomatch (hN b e).symm.trans q
    · intro b q
      by_cases e : b = a
      · exact e
      · exact absurd (hN b e) q
  · obtain ⟨o, ho⟩ := Option.ne_none_iff_exists'.mp hk
    have eo := Option.some.inj ((KX a o ho).symm.trans ha)
    subst eo
    refine lawG0 (H := fun _ => none) KX hns hb hbb hlim hg ha hr F hbind (fun _ => .inl rfl) (fun b u q => nomatch q) (fun b q => absurd rfl q) (fun q => absurd rfl q) (hsp _ (.inr ?_))
    exact ⟨_, vs.toArray, _, ho, rfl, rfl, rfl, by rw [List.size_toArray, hi.length]; exact hl, rv⟩
end

theorem walkG {l : PySem.W.OpenLaw} {n k : Nat} {q : Program} {loose : List Str} {XP : (Str → Option Value) → Heap → Prop} {YP : World → Heap → Prop} {d : DefRec} {K : Params → PySem.W.Frag} {sp : World → Sp} {x : Str}
    (hn : l.most = some n) (hn2 : n ≤ sizeLine) (hdf : d.params.defaults = [])
    (hY : ∀ (w : World) (h : Heap), YP w h → (K w.params).In h) (hr : Room k callerA)
    (F : ∀ (w : World) (mg : Str → Option Value) (fa : Addr) (g : Heap), (K w.params).In g → g.Ns mainGlobals mg → mg d.name = some (.ref fa) →
      ∃ fd : FuncData, (∀ (s : Shared) (v : Value), BindsTo s fd ⟨[v], []⟩ [(x, v)]) ∧
        ∀ base : Heap, (K w.params).In base → base.Ns mainGlobals mg → FnG l.prog w (K w.params) mg base CX0 k fa fd [x] (sp w))
    (hsp : ∀ (w : World) (H : Hp) (a : Addr) (ns : List Int), ns.length ≤ n → SqL (K w.params) H a (ns.map V.int) → sp w [.ref a] H (fun v _ => v = .bl true) fun _ _ _ => False) :
    PySem.W.WalkO q loose XP YP l.row.toRowW d [] fun f us => PySem.call f us := by
  refine Att.attach_call hn hdf ?_
  intro w s₀ s₁ mg mb fa o pm cd doc a vs ns G Y ho hd hcd hmg hobj hints hlen hg
  have KX := hY w _ Y
  obtain ⟨fd, bnd, prom⟩ := F w mg fa _ KX G.T.g hmg
  exact lawG KX G.T.g G.T.b G.T.builtins G.T.nolimit hg hobj hints (Nat.le_trans hlen hn2) hr prom bnd (fun H hS => hsp w H a ns hlen hS)
end TB

set_option Elab.async false
set_option linter.all false
set_option maxRecDepth 100000
namespace TB
open PySem PySem.Spec PyProof.Rows L2

/-! ### what is shown -/
structure Sh (k n : Nat) (d : PyData) : Prop where
  sh : d.showable = true
  nd : d.hasDict = false
  dp : d.depth ≤ k
  ln : d.shown.length ≤ n
theorem sh_int {i : Int} (h : i.natAbs < 2 ^ 100) : Sh 0 1921 (.int i) := by
  have hl : i.natAbs.log2 < 1920 := by
    by_cases h0 : i.natAbs = 0
    · rw [h0]; decide
    · exact (Nat.log2_lt h0).2 (Nat.lt_of_lt_of_le h (Nat.pow_le_pow_right (by decide) (by decide)))
  refine ⟨by simp only [PyData.showable, decide_eq_true_eq]; exact hl, by simp only [PyData.hasDict], by simp [PyData.depth], ?_⟩
  simp only [PyData.shown]
  exact int_text_len_1921 hl
theorem all_len {ds : List PyData} {k n : Nat} (h : ∀ d ∈ ds, Sh k n d) : PyData.showableAll ds = true ∧ PyData.hasDictAll ds = false ∧ PyData.depthAll ds ≤ k ∧ ((PyData.shownAll ds).map (·.length)).sum ≤ ds.length * n ∧ (PyData.shownAll ds).length = ds.length := by
  induction ds with
  | nil => simp [PyData.showableAll, PyData.hasDictAll, PyData.depthAll, PyData.shownAll]
  | cons d ds ih =>
    obtain ⟨a, b, c, e, f⟩ := ih fun x hx => h x (List.mem_cons_of_mem _ hx)
    have g := h d List.mem_cons_self
    refine ⟨by simp only [PyData.showableAll, g.sh, a, Bool.and_self], by simp only [PyData.hasDictAll, g.nd, b, Bool.or_self], ?_, ?_, ?_⟩
    · simp only [PyData.depthAll]
      have := g.dp
      omega
    · simp only [PyData.shownAll, List.map_cons, List.sum_cons, List.length_cons]
      have := g.ln
      rw [Nat.add_mul]
      omega
    · simp only [PyData.shownAll, List.length_cons, f]
theorem sh_tup {ds : List PyData} {k n : Nat} (h : ∀ d ∈ ds, Sh k n d) : Sh (k + 1) (ds.length * n + 2 * ds.length + 3) (.tuple ds) := by
  obtain ⟨a, b, c, e, f⟩ := all_len h
  refine ⟨by simp only [PyData.showable, a], by simp only [PyData.hasDict, b], by simp only [PyData.depth]; omega, ?_⟩
  simp only [PyData.shown]
  refine Nat.le_trans (tupleText_len_le _) ?_
  rw [f]
  omega
theorem sh_lst {ds : List PyData} {k n : Nat} (h : ∀ d ∈ ds, Sh k n d) : Sh (k + 1) (ds.length * n + 2 * ds.length + 3) (.list ds) := by
  obtain ⟨a, b, c, e, f⟩ := all_len h
  refine ⟨by simp only [PyData.showable, a], by simp only [PyData.hasDict, b], by simp only [PyData.depth]; omega, ?_⟩
  simp only [PyData.shown]
  refine Nat.le_trans (listText_len_le _) ?_
  rw [f]
  omega
theorem Sh.mono {k k' n n' : Nat} {d : PyData} (h : Sh k n d) (a : k ≤ k') (b : n ≤ n') : Sh k' n' d :=
  ⟨h.sh, h.nd, Nat.le_trans h.dp a, Nat.le_trans h.ln b⟩
def dInts (ns : List Int) : List PyData := ns.map PyData.int
theorem sh_ints {ns : List Int} (h : ∀ v ∈ ns, v.natAbs < 2 ^ 100) (hl : ns.length ≤ 100) : Sh 1 200000 (.tuple (dInts ns)) := by
  refine (sh_tup (k := 0) (n := 1921) fun d hd => ?_).mono (by omega) ?_
  · obtain ⟨v, hv, rfl⟩ := List.mem_map.mp hd
    exact sh_int (h v hv)
  · unfold dInts
    rw [List.length_map]
    omega
theorem dp_ints {K : PySem.W.Frag} {H : Hp} : ∀ ns : List Int, DpAll K H (ns.map V.int) (dInts ns)
  | [] => DpAll.nil
  | n :: ns => DpAll.cons (Dp.int n) (dp_ints ns)

/-- a comprehension without an if -/
theorem yes {σ : L2.St} {H : Hp} {R : Bool → Hp → Prop} (h : R true H) : tYes σ H R := h
theorem iteS {c A B : Prop} [Decidable c] (hc : c) (h : A) : if decide c = true then A else B := by
  rw [if_pos (decide_eq_true hc)]
  exact h
theorem ixN_nat {n k : Nat} (h : k < n) : ixN n (k : Int) = some k := by
  unfold ixN
  rw [if_pos (by omega), if_pos (by omega)]
  simp
theorem take_more {α : Type} {xs : List α} {i : Nat} {x : α} (h : xs[i]? = some x) : xs.take (i + 1) = xs.take i ++ [x] := by
  rw [List.take_add_one, h]
  rfl

theorem map_get {α β : Type} {f : α → β} {xs : List α} {i : Nat} {d : β} (h : (xs.map f)[i]? = some d) : ∃ p, xs[i]? = some p ∧ d = f p := by
  rw [List.getElem?_map] at h
  cases e : xs[i]? with
  | none => rw [e] at h; cases h
  | some p => rw [e] at h; exact ⟨p, rfl, (Option.some.inj h).symm⟩
theorem map_take_more {α β : Type} {f : α → β} {xs : List α} {i : Nat} {x : α} (h : xs[i]? = some x) : (xs.take (i + 1)).map f = (xs.take i).map f ++ [f x] := by
  rw [take_more h, List.map_append]
  rfl

/-! ### heaps -/
theorem same_upd {H : Hp} {p : Addr} {o : HO} (h : H p = none) : Same H (upd H p o) := fun b x e => by
  rw [upd_ne (ne_of_none e h)]
  exact e
theorem Same.tup {K : PySem.W.Frag} {H H' : Hp} {a : Addr} {xs : List V} (e : Same H H') (h : SqT K H a xs) : SqT K H' a xs := by
  rcases h with (h | ⟨o, h⟩) | h
  · exact .inl (.inl (e _ _ h))
  · exact .inl (.inr ⟨o, e _ _ h⟩)
  · exact .inr h
/-- all that was tracked is as it was, but what stands at f -/
def But (f : Addr) (H H' : Hp) : Prop := ∀ b o, b ≠ f → H b = some o → H' b = some o
theorem But.refl (f : Addr) (H : Hp) : But f H H := fun _ _ _ h => h
theorem But.trans {f : Addr} {H H1 H2 : Hp} (a : But f H H1) (b : But f H1 H2) : But f H H2 := fun c o n h => b c o n (a c o n h)
theorem But.same {f : Addr} {H H1 H2 : Hp} (a : But f H H1) (b : Same H1 H2) : But f H H2 := fun c o n h => b c o (a c o n h)
theorem But.of {f : Addr} {H H' : Hp} (a : Same H H') : But f H H' := fun c o _ h => a c o h
theorem But.upd {f : Addr} {H : Hp} {o : HO} : But f H (upd H f o) := fun b x n e => by
  rw [upd_ne n]
  exact e
theorem But.free {f : Addr} {H H' : Hp} {zs : List V} (e : But f H H') (hf : H' f = some (.lst zs)) {l : Addr} (h : H' l = none) : H l = none := by
  cases q : H l with
  | none => rfl
  | some o =>
    have n : l ≠ f := fun z => by
      rw [z, hf] at h
      cases h
    rw [e l o n q] at h
    cases h
mutual
theorem Dp.same {K : PySem.W.Frag} {H H' : Hp} (e : Same H H') : ∀ (d : PyData) (v : V), Dp K H v d → Dp K H' v d
  | .none, _, .non => .non
  | .bool _, _, .bl b => .bl b
  | .int _, _, .int i => .int i
  | .str _, _, .str x => .str x
  | .list ds, _, .lst h a => .lst (e.seq h) (DpAll.same e ds _ a)
  | .tuple ds, _, .tup h a => .tup (TB.Same.tup e h) (DpAll.same e ds _ a)
theorem DpAll.same {K : PySem.W.Frag} {H H' : Hp} (e : Same H H') : ∀ (ds : List PyData) (vs : List V), DpAll K H vs ds → DpAll K H' vs ds
  | [], _, .nil => .nil
  | d :: ds, _, .cons h t => .cons (Dp.same e d _ h) (DpAll.same e ds _ t)
end
theorem DpAll.snoc {K : PySem.W.Frag} {H : Hp} {v : V} {d : PyData} (h : Dp K H v d) : ∀ {vs : List V} {ds : List PyData}, DpAll K H vs ds → DpAll K H (vs ++ [v]) (ds ++ [d])
  | _, _, .nil => .cons h .nil
  | _, _, .cons a t => .cons a (DpAll.snoc h t)
theorem DpAll.len {K : PySem.W.Frag} {H : Hp} : ∀ {vs : List V} {ds : List PyData}, DpAll K H vs ds → vs.length = ds.length
  | _, _, .nil => rfl
  | _, _, .cons _ t => congrArg Nat.succ (DpAll.len t)
theorem DpAll.get {K : PySem.W.Frag} {H : Hp} : ∀ {vs : List V} {ds : List PyData} {i : Nat} {v : V}, DpAll K H vs ds → vs[i]? = some v → ∃ d, ds[i]? = some d ∧ Dp K H v d
  | _, _, _, _, .nil, h => by simp at h
  | _, _, 0, _, .cons a _, h => ⟨_, rfl, by simp at h; subst h; exact a⟩
  | _, _, i + 1, _, .cons _ t, h => by
    obtain ⟨d, e, q⟩ := DpAll.get t (i := i) (by simpa using h)
    exact ⟨d, by simpa using e, q⟩
theorem Dp.tup_inv {K : PySem.W.Frag} {H : Hp} {v : V} {ds : List PyData} (h : Dp K H v (.tuple ds)) : ∃ a xs, v = .ref a ∧ SqT K H a xs ∧ DpAll K H xs ds := by
  cases h with
  | tup h a => exact ⟨_, _, rfl, h, a⟩
theorem Dp.lst_inv {K : PySem.W.Frag} {H : Hp} {v : V} {ds : List PyData} (h : Dp K H v (.list ds)) : ∃ a xs, v = .ref a ∧ SqL K H a xs ∧ DpAll K H xs ds := by
  cases h with
  | lst h a => exact ⟨_, _, rfl, h, a⟩
theorem DpAll.cons_inv {K : PySem.W.Frag} {H : Hp} {xs : List V} {d : PyData} {ds : List PyData} (h : DpAll K H xs (d :: ds)) : ∃ v vs, xs = v :: vs ∧ Dp K H v d ∧ DpAll K H vs ds := by
  cases h with
  | cons a t => exact ⟨_, _, rfl, a, t⟩
theorem DpAll.nil_inv {K : PySem.W.Frag} {H : Hp} {xs : List V} (h : DpAll K H xs []) : xs = [] := by
  cases h
  rfl
theorem Dp.int_inv {K : PySem.W.Frag} {H : Hp} {v : V} {i : Int} (h : Dp K H v (.int i)) : v = .int i := by
  cases h
  rfl
theorem Dp.str_inv {K : PySem.W.Frag} {H : Hp} {v : V} {i : Str} (h : Dp K H v (.str i)) : v = .str i := by
  cases h
  rfl
theorem dp_strs {K : PySem.W.Frag} {H : Hp} : ∀ ns : List Str, DpAll K H (ns.map V.str) (ns.map PyData.str)
  | [] => DpAll.nil
  | n :: ns => DpAll.cons (Dp.str n) (dp_strs ns)

/-! no list stands in it -/
mutual
def noL : PyData → Bool
  | .list _ => false
  | .tuple xs => noLs xs
  | .dict _ => false
  | _ => true
def noLs : List PyData → Bool
  | [] => true
  | x :: xs => noL x && noLs xs
end
theorem SqT.but {K : PySem.W.Frag} {H H' : Hp} {o a : Addr} {xs zs : List V} (e : But o H H') (ho : H o = some (.lst zs)) (h : SqT K H a xs) : SqT K H' a xs := by
  rcases h with (h | ⟨u, h⟩) | h
  · exact .inl (.inl (e _ _ (ne_of h ho (fun z => nomatch z)) h))
  · exact .inl (.inr ⟨u, e _ _ (ne_of h ho (fun z => nomatch z)) h⟩)
  · exact .inr h
mutual
theorem Dp.but {K : PySem.W.Frag} {H H' : Hp} {o : Addr} {zs : List V} (e : But o H H') (ho : H o = some (.lst zs)) : ∀ (d : PyData) (v : V), noL d = true → Dp K H v d → Dp K H' v d
  | .none, _, _, .non => .non
  | .bool _, _, _, .bl b => .bl b
  | .int _, _, _, .int i => .int i
  | .str _, _, _, .str x => .str x
  | .list ds, _, n, _ => by simp [noL] at n
  | .tuple ds, _, n, .tup h a => .tup (TB.SqT.but e ho h) (DpAll.but e ho ds _ (by simpa only [noL] using n) a)
theorem DpAll.but {K : PySem.W.Frag} {H H' : Hp} {o : Addr} {zs : List V} (e : But o H H') (ho : H o = some (.lst zs)) : ∀ (ds : List PyData) (vs : List V), noLs ds = true → DpAll K H vs ds → DpAll K H' vs ds
  | [], _, _, .nil => .nil
  | d :: ds, _, n, .cons h t => by
    simp only [noLs, Bool.and_eq_true] at n
    exact .cons (Dp.but e ho d _ n.1 h) (DpAll.but e ho ds _ n.2 t)
end
theorem noLs_of {ds : List PyData} (h : ∀ d ∈ ds, noL d = true) : noLs ds = true := by
  induction ds with
  | nil => rfl
  | cons d ds ih => simp only [noLs, h d List.mem_cons_self, ih fun x hx => h x (List.mem_cons_of_mem _ hx), Bool.and_self]
theorem noLs_snoc {ds : List PyData} {d : PyData} (h : noLs ds = true) (n : noL d = true) : noLs (ds ++ [d]) = true := by
  induction ds with
  | nil => simp only [List.nil_append, noLs, n, Bool.and_true]
  | cons x ds ih =>
    simp only [noLs, Bool.and_eq_true] at h
    simp only [List.cons_append, noLs, h.1, ih h.2, Bool.and_self]

/-! ### a list that is being filled: at D, with these data -/
structure Acc (K : PySem.W.Frag) (H : Hp) (D : Addr) (ds : List PyData) : Prop where
  ex : ∃ us, H D = some (.lst us) ∧ DpAll K H us ds
  nl : noLs ds = true
theorem Acc.start {K : PySem.W.Frag} {H : Hp} {D : Addr} : Acc K (upd H D (.lst [])) D [] := ⟨⟨[], upd_same, .nil⟩, rfl⟩
theorem Acc.same {K : PySem.W.Frag} {H H' : Hp} {D : Addr} {ds : List PyData} (h : Acc K H D ds) (e : Same H H') : Acc K H' D ds := by
  obtain ⟨us, a, b⟩ := h.ex
  exact ⟨⟨us, e _ _ a, DpAll.same e _ _ b⟩, h.nl⟩
theorem Acc.but {K : PySem.W.Frag} {H H' : Hp} {D F : Addr} {ds : List PyData} {zs : List V} (h : Acc K H D ds) (e : But F H H') (hF : H F = some (.lst zs)) (n : D ≠ F) : Acc K H' D ds := by
  obtain ⟨us, a, b⟩ := h.ex
  exact ⟨⟨us, e _ _ n a, DpAll.but e hF _ _ h.nl b⟩, h.nl⟩
/-- one more -/
theorem Acc.more {K : PySem.W.Frag} {H : Hp} {D : Addr} {ds : List PyData} {v : V} {d : PyData} (h : Acc K H D ds) (dv : Dp K H v d) (n : noL d = true) (hl : ds.length ≤ 900) :
    ∃ us, H D = some (.lst us) ∧ us.length < sizeLine ∧ Acc K (upd H D (.lst (us ++ [v]))) D (ds ++ [d]) := by
  obtain ⟨us, a, b⟩ := h.ex
  have bu : But D H (upd H D (.lst (us ++ [v]))) := But.upd
  exact ⟨us, a, by rw [DpAll.len b]; exact small1000 (by omega), ⟨us ++ [v], upd_same, DpAll.snoc (Dp.but bu a _ _ n dv) (DpAll.but bu a _ _ h.nl b)⟩, noLs_snoc h.nl n⟩

theorem same_new {H H2 : Hp} {D : Addr} {o : HO} (nD : H D = none) (sm : Same H H2) : Same H (upd H2 D o) := fun c x e => by
  rw [upd_ne (ne_of_none e nD)]
  exact sm c x e
/-- a turn of a comprehension that changes nothing else -/
theorem Acc.turn {K : PySem.W.Frag} {H H1 H2 : Hp} {D : Addr} {ds ds' : List PyData} {v : V} {d : PyData} (nD : H D = none) (sm : Same H H1) (ac : Acc K H1 D ds) (s2 : Same H1 H2) (dv : Dp K H2 v d) (n : noL d = true) (hl : ds.length ≤ 900) (he : ds' = ds ++ [d]) :
    ∃ acc, H2 D = some (.lst acc) ∧ acc.length < sizeLine ∧ (Same H (upd H2 D (.lst (acc ++ [v]))) ∧ Acc K (upd H2 D (.lst (acc ++ [v]))) D ds') := by
  obtain ⟨us, a, b, c⟩ := (ac.same s2).more dv n hl
  exact ⟨us, a, b, same_new nD (sm.trans s2), he ▸ c⟩
/-- the tuple of all that was filled in -/
theorem Acc.tuple {K : PySem.W.Frag} {H : Hp} {D t : Addr} {us : List V} {ds : List PyData} (dv : DpAll K H us ds) (nt : H t = none) : Dp K (upd H t (.tup us)) (.ref t) (.tuple ds) :=
  .tup (.inl (.inl upd_same)) (DpAll.same (same_upd nt) _ _ dv)

/-! ### repr, its text kept shut -/
@[irreducible] def txt (d : PyData) : Str := d.shown
theorem txt_eq (d : PyData) : txt d = d.shown := by
  unfold txt
  rfl
section
variable {X : Cx}
def rReprT (K : PySem.W.Frag) : List V → Hp → VK → Prop := fun xs H Q => ∃ a d, xs = [.ref a] ∧ Dp K H (.ref a) d ∧ d.showable = true ∧ d.hasDict = false ∧ d.depth ≤ 60 ∧ d.shown.length ≤ sizeLine ∧ Q (.str (txt d)) H
theorem call_reprT (gd : X.A.guards = some []) (hu : X.A.units + 64 < cLine) : CallR X (.builtin "repr") (rReprT X.K) := by
  intro pins s σ H args us Q I r h
  obtain ⟨a, d, e, hd, hs, hn, hp, hz, q⟩ := h
  refine call_reprD gd hu pins s σ H args us Q I r ⟨a, d, e, hd, hs, hn, hp, hz, ?_⟩
  rw [← txt_eq]
  exact q
end

/-! ### a call by names alone -/
section
variable {X : Cx} {CX : CXT} {k : Nat} {f : Addr} {fd : FuncData} {ps ks : List Str} {sp : Sp} {E : XK} {x : Str} {p pos : Pos} {kws : List Keyword} {tk : TA} {g : List Value → List Value → List Value} {gV : List V → List V → List V}
theorem pe_callN0 (F : FnOk X.prog X.w X.K X.mg X.base CX k f fd ps sp) (hr : Room k X.A) (hg : Gl X x) (hm : X.mg x = some (.ref f)) (hk : PySem.W.keepIn X.K (.ref f) = true) (hb : KBn X.K fd ps 0 ks g gV) (hx : Passes CX X E) (hkw : PK X kws tk)
    (hks : (backToKw pos (keywordEach kws X.env)).filterMap (·.1) = ks := by rfl) (hall : (backToKw pos (keywordEach kws X.env)).all (·.1.isSome) = true := by rfl)
    (hpl : ((backTo pos (starEach [] X.env)).any (·.1) || (backToKw pos (keywordEach kws X.env)).any (·.1.isNone)) = false := by rfl) (hdb : (x == ("__debug__" : Str)) = false := by decide) :
    PE X (.Call (.Name x p) [] kws pos) (tCallN 0 ks.length sp gV E tNil tk) := by
  constructor
  intro pins s σ H Q I h
  refine wpAny_Call_Name_kw (ld_glob I hg hm (PySem.W.callWith_KW0 (h₀ := X.base) I.ok.mod.kin hk hall (thn (hkw.run pos pins s σ H _ I h) ?_) hpl) hdb)
  rintro ws s2 ⟨zs, H2, I2, rz, l1, l2, q2⟩
  rw [hks]
  exact ⟨I2.kIn, run_fnN (us := []) (vs := []) F hr hb hx I2 .nil rz l1 l2 q2⟩
end
end TB

set_option Elab.async false
set_option linter.all false
set_option maxRecDepth 100000
set_option maxHeartbeats 1000000
namespace K01
open PySem PySem.Spec PyProof.Rows L2 TB

/-! ### the text -/
def topS (i : Nat) : Stmt := PySem.Challenge.pw_tablebills_k01_kinds.main.body.getD i (.Pass ⟨0, 0, 0, 0⟩)
abbrev sN : Stmt := topS 2
abbrev sW : Stmt := topS 3
abbrev sFeed : Stmt := topS 5
abbrev sDraw : Stmt := topS 6
abbrev sWord : Stmt := topS 8
abbrev sBend : Stmt := topS 9
abbrev sOdd : Stmt := topS 10
abbrev sSame : Stmt := topS 11
abbrev sNumber : Stmt := topS 12
abbrev sWorded : Stmt := topS 13
abbrev sGreat : Stmt := topS 14
abbrev sSpoilt : Stmt := topS 15
abbrev sFixed : Stmt := topS 16
abbrev sLaw : Stmt := topS 17
theorem scN : FnScope ["thing"] ["thing"] (defScope sN) := ⟨rfl, rfl, rfl, by decide +kernel, rfl, by decide +kernel, by decide +kernel⟩
theorem scW : FnScope ["thing", "sign"] ["thing"] (defScope sW) := ⟨rfl, rfl, rfl, by decide +kernel, rfl, by decide +kernel, by decide +kernel⟩
theorem scSame : FnScope ["_law_told", "_law_wanted"] ["_law_told", "_law_wanted"] (defScope sSame) := ⟨rfl, rfl, rfl, by decide +kernel, rfl, by decide +kernel, by decide +kernel⟩
theorem scNumber : FnScope ["_law_thing"] ["_law_thing"] (defScope sNumber) := ⟨rfl, rfl, rfl, by decide +kernel, rfl, by decide +kernel, by decide +kernel⟩
theorem scWorded : FnScope ["_law_thing", "_law_sign"] ["_law_thing"] (defScope sWorded) := ⟨rfl, rfl, rfl, by decide +kernel, rfl, by decide +kernel, by decide +kernel⟩

/-! ### kinds of things -/
def isNum : PyData → Bool
  | .int _ => true
  | _ => false
def inAz (c : Nat) : Bool := decide (97 ≤ c ∧ c ≤ 122)
def isWrd : PyData → Bool
  | .str z => decide (1 ≤ z.length ∧ z.length ≤ 8) && z.cps.toList.all inAz
  | _ => false
def fitS : PyData → Prop
  | .str z => z.length ≤ 3000
  | _ => True
section
variable {K : PySem.W.Frag} {H : Hp}
theorem ty_lst {a : Addr} {xs : List V} (h : SqL K H a xs) : TyX K H (.ref a) (.type "list") := by
  rcases h with (h | ⟨o, h⟩) | ⟨o, its, n, e, c, _⟩
  · exact .base (.lst h)
  · exact .base (.frz h)
  · exact .kList e c
theorem ty_tup {a : Addr} {xs : List V} (h : SqT K H a xs) : TyX K H (.ref a) (.type "tuple") := by
  rcases h with (h | ⟨o, h⟩) | ⟨o, its, n, e, c, _⟩
  · exact .base (.tup h)
  · exact .fTuple h
  · exact .kTuple e c
end
/-- x is not b, x a number or a truth -/
def rNotT : R2 := fun x y H Q => ∃ b : Bool, y = .bl b ∧ ((∃ a : Bool, x = .bl a ∧ Q (.bl (!decide (a = b))) H) ∨ ∃ i : Int, x = .int i ∧ Q (.bl true) H)
theorem op_notT {X : Cx} : OpR X (compareOp .IsNot) rNotT := by
  intro pins s σ H x y v u Q I rx ry h
  obtain ⟨b, rfl, ⟨a, rfl, q⟩ | ⟨i, rfl, q⟩⟩ := h
  · exact op_notBl pins s σ H _ _ v u Q I rx ry ⟨a, b, rfl, rfl, q⟩
  · obtain ⟨t, rfl⟩ := rx
    cases (show u = Value.bool b from ry)
    exact wpAny_isNot_other rfl (fun z => nomatch z) ⟨.bl true, H, I, rfl, q⟩

section
variable {P : Program} {w : World} {K : PySem.W.Frag} {mg : Str → Option Value} {base : Heap}
def spKind (K : PySem.W.Frag) (f : PyData → Bool) : Sp := fun vs H Q _ => ∃ (v : V) (d : PyData), vs = [v] ∧ Dp K H v d ∧ fitS d ∧ ∀ H', Same H H' → Q (.bl (f d)) H'
theorem ok_n {f : Addr} {fd : FuncData} {k : Nat} (F : Fun K "is_number" "is_number" sN f fd) (m_isinstance : mg "isinstance" = none) (m_int : mg "int" = none) (m_bool : mg "bool" = none) :
    FnOk P w K mg base CX0 (k + 1) f fd ["thing"] (spKind K isNum) := by
  refine F.ok scN (fun vs H Q E h => ?_) (fun cdv A outer s H vs Q E hr h => ?_)
  · obtain ⟨v, d, rfl, _⟩ := h
    rfl
  · obtain ⟨v, d, rfl, hd, hz, q⟩ := h
    have q := q H (Same.refl H)
    refine ⟨_, (pss_one (ps_ret (pe_and (pe_callB call_isi (by rfl) m_isinstance (by decide +kernel) (pa_cons (pv 0) (pa_cons (pe_bltn (v := .ty "int") (u := .type "int") (by rfl) m_int (by decide +kernel) rfl) pa_nil))) (pe_one (pe_not (pe_callB call_isi (by rfl) m_isinstance (by decide +kernel) (pa_cons (pv 0) (pa_cons (pe_bltn (v := .ty "bool") (u := .type "bool") (by rfl) m_bool (by decide +kernel) rfl) pa_nil)))))))), ?_⟩
    cases hd with
    | non => exact ⟨_, rfl, _, .ty "int", _, .type "int", false, rfl, .ty _, .base .non, kit_ty (by decide +kernel), false, rfl, iteF q⟩
    | bl b => exact ⟨_, rfl, _, .ty "int", _, .type "int", true, rfl, .ty _, .base (.bl b), kit_ty (by decide +kernel), true, rfl, iteT ⟨_, rfl, _, .ty "bool", _, .type "bool", true, rfl, .ty _, .base (.bl b), kit_ty (by decide +kernel), true, rfl, q⟩⟩
    | int i => exact ⟨_, rfl, _, .ty "int", _, .type "int", true, rfl, .ty _, .base (.int i), kit_ty (by decide +kernel), true, rfl, iteT ⟨_, rfl, _, .ty "bool", _, .type "bool", false, rfl, .ty _, .base (.int i), kit_ty (by decide +kernel), false, rfl, q⟩⟩
    | str x => exact ⟨_, rfl, _, .ty "int", _, .type "int", false, rfl, .ty _, .base (.str x), kit_ty (by decide +kernel), false, rfl, iteF q⟩
    | lst h _ => exact ⟨_, rfl, _, .ty "int", _, .type "int", false, rfl, .ty _, ty_lst h, kit_ty (by decide +kernel), false, rfl, iteF q⟩
    | tup h _ => exact ⟨_, rfl, _, .ty "int", _, .type "int", false, rfl, .ty _, ty_tup h, kit_ty (by decide +kernel), false, rfl, iteF q⟩
theorem ok_number {f : Addr} {fd : FuncData} {k : Nat} (F : Fun K "_law_number" "_law_number" sNumber f fd) (m_isinstance : mg "isinstance" = none) (m_int : mg "int" = none) :
    FnOk P w K mg base CX0 (k + 1) f fd ["_law_thing"] (spKind K isNum) := by
  refine F.ok scNumber (fun vs H Q E h => ?_) (fun cdv A outer s H vs Q E hr h => ?_)
  · obtain ⟨v, d, rfl, _⟩ := h
    rfl
  · obtain ⟨v, d, rfl, hd, hz, q⟩ := h
    have q := q H (Same.refl H)
    refine ⟨_, (pss_one (ps_ret (pe_and (pe_callB call_isi (by rfl) m_isinstance (by decide +kernel) (pa_cons (pv 0) (pa_cons (pe_bltn (v := .ty "int") (u := .type "int") (by rfl) m_int (by decide +kernel) rfl) pa_nil))) (pe_and (pe_cmpR op_notT (pv 0) pe_bl (nomark _)) (pe_one (pe_cmpR op_notT (pv 0) pe_bl (nomark _))))))), ?_⟩
    cases hd with
    | non => exact ⟨_, rfl, _, .ty "int", _, .type "int", false, rfl, .ty _, .base .non, kit_ty (by decide +kernel), false, rfl, iteF q⟩
    | bl b =>
      refine ⟨_, rfl, _, .ty "int", _, .type "int", true, rfl, .ty _, .base (.bl b), kit_ty (by decide +kernel), true, rfl, iteT ?_⟩
      cases b with
      | true => exact ⟨_, rfl, true, rfl, .inl ⟨true, rfl, false, rfl, iteF q⟩⟩
      | false => exact ⟨_, rfl, true, rfl, .inl ⟨false, rfl, true, rfl, iteT ⟨_, rfl, false, rfl, .inl ⟨false, rfl, q⟩⟩⟩⟩
    | int i => exact ⟨_, rfl, _, .ty "int", _, .type "int", true, rfl, .ty _, .base (.int i), kit_ty (by decide +kernel), true, rfl, iteT ⟨_, rfl, true, rfl, .inr ⟨i, rfl, true, rfl, iteT ⟨_, rfl, false, rfl, .inr ⟨i, rfl, q⟩⟩⟩⟩⟩
    | str x => exact ⟨_, rfl, _, .ty "int", _, .type "int", false, rfl, .ty _, .base (.str x), kit_ty (by decide +kernel), false, rfl, iteF q⟩
    | lst h _ => exact ⟨_, rfl, _, .ty "int", _, .type "int", false, rfl, .ty _, ty_lst h, kit_ty (by decide +kernel), false, rfl, iteF q⟩
    | tup h _ => exact ⟨_, rfl, _, .ty "int", _, .type "int", false, rfl, .ty _, ty_tup h, kit_ty (by decide +kernel), false, rfl, iteF q⟩
def spSame : Sp := fun vs H Q _ => ∃ a b : Bool, vs = [.bl a, .bl b] ∧ Q (.bl (a == b)) H
theorem ok_same {f : Addr} {fd : FuncData} {k : Nat} (F : Fun K "_law_same" "_law_same" sSame f fd) : FnOk P w K mg base CX0 (k + 1) f fd ["_law_told", "_law_wanted"] spSame := by
  refine F.ok scSame (fun vs H Q E h => ?_) (fun cdv A outer s H vs Q E hr h => ?_)
  · obtain ⟨a, b, rfl, _⟩ := h
    rfl
  · obtain ⟨a, b, rfl, q⟩ := h
    refine ⟨_, (pss_one (ps_ret (pe_or (pe_and (pe_cmpR op_isBl (pv 0) pe_bl (nomark _)) (pe_one (pv 1))) (pe_one (pe_and (pe_cmpR op_isBl (pv 0) pe_bl (nomark _)) (pe_one (pe_not (pv 1)))))))), ?_⟩
    cases a with
    | true =>
      refine ⟨_, rfl, true, true, rfl, rfl, true, rfl, iteT ⟨_, rfl, b, rfl, ?_⟩⟩
      cases b with
      | true => exact iteT q
      | false => exact iteF ⟨_, rfl, true, false, rfl, rfl, false, rfl, iteF q⟩
    | false =>
      refine ⟨_, rfl, false, true, rfl, rfl, false, rfl, iteF ⟨false, rfl, iteF ?_⟩⟩
      refine ⟨_, rfl, false, false, rfl, rfl, true, rfl, iteT ⟨_, rfl, b, rfl, ?_⟩⟩
      cases b with
      | true => exact q
      | false => exact q
end
end K01

set_option Elab.async false
set_option linter.all false
set_option maxRecDepth 100000
set_option maxHeartbeats 1000000
namespace K01
open PySem PySem.Spec PyProof.Rows L2 TB

theorem lt_one (a b : Nat) : decide ([a] < [b]) = decide (a < b) := by
  by_cases h : a < b
  · rw [decide_eq_true h]
    exact decide_eq_true (List.cons_lt_cons_iff.mpr (.inl h))
  · rw [decide_eq_false h]
    refine decide_eq_false fun z => ?_
    rcases List.cons_lt_cons_iff.mp z with q | ⟨_, q⟩
    · exact h q
    · cases q
theorem az_of (c : Nat) : (if (!decide ([c] < [97])) = true then (!decide ([122] < [c])) else false) = inAz c := by
  rw [lt_one, lt_one]
  unfold inAz
  by_cases h1 : c < 97
  · have : ¬ (97 ≤ c ∧ c ≤ 122) := by omega
    simp [h1, this]
  · by_cases h2 : 122 < c
    · have : ¬ (97 ≤ c ∧ c ≤ 122) := by omega
      simp [h1, h2, this]
    · have : 97 ≤ c ∧ c ≤ 122 := by omega
      simp [h1, h2, this]
theorem at_take {z : Str} {i c : Nat} (h : z.cps[i]? = some c) : z.cps.toList[i]? = some c := by
  rw [Array.getElem?_toList]
  exact h
theorem wrd_str (z : Str) : isWrd (.str z) = (decide (1 ≤ z.length ∧ z.length ≤ 8) && z.cps.toList.all inAz) := rfl
def asc (z : Str) : Prop := ∀ c ∈ z.cps.toList, c < 128
section
variable {P : Program} {w : World} {K : PySem.W.Frag} {mg : Str → Option Value} {base : Heap}
def fitT : PyData → Prop
  | .str z => z.length ≤ 3000 ∧ asc z
  | _ => True
def spKindT (K : PySem.W.Frag) (f : PyData → Bool) : Sp := fun vs H Q _ => ∃ (v : V) (d : PyData), vs = [v] ∧ Dp K H v d ∧ fitT d ∧ ∀ H', Same H H' → Q (.bl (f d)) H'
theorem ok_w {f : Addr} {fd : FuncData} {k : Nat} {tL : Value} (F : Fun K "is_word" "is_word" sW f fd) (m_isinstance : mg "isinstance" = none) (m_str : mg "str" = none) (m_len : mg "len" = none) (m_all : mg "all" = none) (mgL : mg "LONGEST_WORD" = some tL) (rL : RelV (.int 8) tL) :
    FnOk P w K mg base CX0 (k + 1) f fd ["thing"] (spKindT K isWrd) := by
  refine F.ok scW (fun vs H Q E h => ?_) (fun cdv A outer s H vs Q E hr h => ?_)
  · obtain ⟨v, d, rfl, _⟩ := h
    rfl
  · obtain ⟨v, d, rfl, hd, hz, q⟩ := h
    refine ⟨_, (pss_one (ps_ret (pe_and (pe_callB call_isi (by rfl) m_isinstance (by decide +kernel) (pa_cons (pv 0) (pa_cons (pe_bltn (v := .ty "str") (u := .type "str") (by rfl) m_str (by decide +kernel) rfl) pa_nil))) (pe_and (pe_chain op_le op_le pe_int (pe_callB call_len_str (by rfl) m_len (by decide +kernel) (pa_cons (pv 0) pa_nil)) (pe_glob (v := .int 8) rfl mgL rL)) (pe_one (pe_callB (cr_all rfl) (by rfl) m_all (by decide +kernel) (pa_cons (pe_lc (own := [("sign", 1)]) (g := gName 1) (tt := tYes) rfl scW.nd (pi_str (pv 0)) (blkOk_by (own := [("sign", 1)]) (N := ["thing", "sign"]) (sc := defScope sW) (by decide +kernel)) (fun _ _ _ _ _ => (pg_name (i := 1) scW.nd rfl (.inl rfl))) (fun _ _ _ _ _ => pts_nil) (fun _ _ _ _ _ => (pe_chain op_le_str op_le_str pe_str (pv 1) pe_str))) pa_nil))))))), ?_⟩
    have q0 := q H (Same.refl H)
    cases hd with
    | non => exact ⟨_, rfl, _, .ty "str", _, .type "str", false, rfl, .ty _, .base .non, kit_ty (by decide +kernel), false, rfl, iteF q0⟩
    | bl b => exact ⟨_, rfl, _, .ty "str", _, .type "str", false, rfl, .ty _, .base (.bl b), kit_ty (by decide +kernel), false, rfl, iteF q0⟩
    | int i => exact ⟨_, rfl, _, .ty "str", _, .type "str", false, rfl, .ty _, .base (.int i), kit_ty (by decide +kernel), false, rfl, iteF q0⟩
    | lst h _ => exact ⟨_, rfl, _, .ty "str", _, .type "str", false, rfl, .ty _, ty_lst h, kit_ty (by decide +kernel), false, rfl, iteF q0⟩
    | tup h _ => exact ⟨_, rfl, _, .ty "str", _, .type "str", false, rfl, .ty _, ty_tup h, kit_ty (by decide +kernel), false, rfl, iteF q0⟩
    | str z =>
      have hzl : z.length ≤ 3000 := hz.1
      have hsz : z.length ≤ sizeLine := Nat.le_trans hzl (by rw [sizeLine_eq]; decide)
      refine ⟨_, rfl, _, .ty "str", _, .type "str", true, rfl, .ty _, .base (.str z), kit_ty (by decide +kernel), true, rfl, iteT ?_⟩
      refine ⟨_, rfl, z, rfl, hsz, _, _, rfl, rfl, _, rfl, ite2 (fun c => ?_) (fun c => ?_)⟩
      · have c1 : (1 : Int) ≤ (z.length : Int) := of_decide_eq_true c
        refine ⟨_, _, rfl, rfl, _, rfl, ite2 (fun c => ?_) (fun c => ?_)⟩
        · have c2 : (z.length : Int) ≤ 8 := of_decide_eq_true c
          refine ⟨_, rfl, z, rfl, fun D nD => ?_⟩
          refine lc_it walk_str (fun i H1 => Same H H1 ∧ H1 D = some (.lst (((z.cps.toList.take i).map inAz).map V.bl))) ⟨same_upd nD, upd_same⟩ (fun _ _ _ _ => trivial) ?_ ?_
          · rintro i x H1 H1' hi ⟨sm, eD⟩ ⟨rfl, c, hc, rfl⟩
            refine ⟨rfl, yes (iteT ?_)⟩
            have fin : ∀ b : Bool, b = inAz c → ∃ acc, H1' D = some (.lst acc) ∧ acc.length < sizeLine ∧ (Same H (upd H1' D (.lst (acc ++ [.bl b]))) ∧ (upd H1' D (.lst (acc ++ [.bl b]))) D = some (.lst (((z.cps.toList.take (i + 1)).map inAz).map V.bl))) := by
              rintro b rfl
              refine ⟨_, eD, ?_, same_new nD sm, ?_⟩
              · rw [List.length_map, List.length_map, List.length_take]
                have : z.cps.toList.length ≤ 3000 := by rw [Array.length_toList]; exact hzl
                rw [sizeLine_eq]
                omega
              · rw [upd_same, map_take_more (at_take hc), List.map_append]
                rfl
            refine ⟨_, rfl, _, _, rfl, rfl, _, rfl, ite2 (fun c3 => ?_) (fun c3 => ?_)⟩
            · refine ⟨_, _, rfl, rfl, fin _ ?_⟩
              have c4 : (!decide ([c] < [97])) = true := c3
              show (!decide ([122] < [c])) = inAz c
              rw [← az_of c, if_pos c4]
            · refine fin _ ?_
              have c4 : ¬ (!decide ([c] < [97])) = true := c3
              rw [← az_of c, if_neg c4]
          · rintro H1 ⟨sm, eD⟩
            rw [List.take_of_length_le (by rw [Array.length_toList]; exact Nat.le_refl _)] at eD
            refine ⟨D, _, rfl, .inl (.inl eD), ?_⟩
            have := q H1 sm
            rw [wrd_str, decide_eq_true (by omega), Bool.true_and] at this
            rw [List.all_map]
            exact this
        · have c2 : ¬ (z.length : Int) ≤ 8 := fun w => c (decide_eq_true w)
          rw [wrd_str, decide_eq_false (by omega), Bool.false_and] at q0
          exact q0
      · have c1 : ¬ (1 : Int) ≤ (z.length : Int) := fun w => c (decide_eq_true w)
        rw [wrd_str, decide_eq_false (by omega), Bool.false_and] at q0
        exact ⟨false, rfl, iteF q0⟩

/-- the signs of a text that are none from a to z -/
def bad (z : List Nat) : List Nat := z.filter fun c => !inAz c
theorem bad_nil : ∀ z : List Nat, decide (bad z = []) = z.all inAz
  | [] => rfl
  | c :: z => by
    have ih := bad_nil z
    by_cases h : inAz c = true
    · have e : bad (c :: z) = bad z := by
        unfold bad
        rw [List.filter_cons, if_neg (by rw [h]; decide)]
      rw [e, ih, List.all_cons, h, Bool.true_and]
    · have h' : inAz c = false := by
        cases e : inAz c with
        | true => exact absurd e h
        | false => rfl
      have e : bad (c :: z) = c :: bad z := by
        unfold bad
        rw [List.filter_cons, if_pos (by rw [h']; decide)]
      rw [e, List.all_cons, h', Bool.false_and]
      exact decide_eq_false (fun q => nomatch q)
def sgn (c : Nat) : PyData := .str ⟨#[c]⟩
theorem eqv_sgn : ∀ cs : List Nat, PyData.eqv (.list (cs.map sgn)) (.list []) = decide (cs = [])
  | [] => by simp [PyData.eqv, PyData.eqvAll]
  | n :: ns => by simp [PyData.eqv, PyData.eqvAll]
theorem shaped_sgn {cs : List Nat} (h : ∀ c ∈ cs, c < 128) : SeqAt.shaped (.list (cs.map sgn)) = true := by
  have h : ∀ ms : List Nat, (∀ c ∈ ms, c < 128) → PyData.canLayAll0 (ms.map sgn) = true ∧ PyData.depthAll (ms.map sgn) = 0 := by
    intro ms
    induction ms with
    | nil => exact fun _ => ⟨rfl, rfl⟩
    | cons m ms ih =>
      intro hm
      obtain ⟨a, b⟩ := ih fun c hc => hm c (List.mem_cons_of_mem _ hc)
      have hmm := hm m List.mem_cons_self
      refine ⟨?_, ?_⟩
      · show (PyData.canLay0 (sgn m) && PyData.canLayAll0 (ms.map sgn)) = true
        rw [a, Bool.and_true]
        show PyData.strOk ⟨#[m]⟩ = true
        simp [PyData.strOk]
        omega
      · show max (PyData.depth (sgn m)) (PyData.depthAll (ms.map sgn)) = 0
        rw [b]
        rfl
  obtain ⟨a, b⟩ := h cs ‹_›
  unfold SeqAt.shaped
  simp only [PyData.canLay0, PyData.depth, a, b]
  decide
theorem len_in (n : Nat) : inV (.int (n : Int)) [.int 1, .int 2, .int 3, .int 4, .int 5, .int 6, .int 7, .int 8] = decide (1 ≤ n ∧ n ≤ 8) := by
  have e : inV (.int (n : Int)) [.int 1, .int 2, .int 3, .int 4, .int 5, .int 6, .int 7, .int 8] = ((1 == (n : Int)) || ((2 == (n : Int)) || ((3 == (n : Int)) || ((4 == (n : Int)) || ((5 == (n : Int)) || ((6 == (n : Int)) || ((7 == (n : Int)) || ((8 == (n : Int)) || false)))))))) := rfl
  rw [e]
  by_cases h : 1 ≤ n ∧ n ≤ 8
  · rw [decide_eq_true h]
    have : n = 1 ∨ n = 2 ∨ n = 3 ∨ n = 4 ∨ n = 5 ∨ n = 6 ∨ n = 7 ∨ n = 8 := by omega
    rcases this with rfl | rfl | rfl | rfl | rfl | rfl | rfl | rfl <;> decide
  · rw [decide_eq_false h]
    simp only [Bool.or_eq_false_iff, beq_eq_false_iff_ne, ne_eq, and_true]
    omega
theorem ok_worded {f : Addr} {fd : FuncData} {k : Nat} (F : Fun K "_law_worded" "_law_worded" sWorded f fd) (m_isinstance : mg "isinstance" = none) (m_str : mg "str" = none) (m_len : mg "len" = none) (m_ord : mg "ord" = none) :
    FnOk P w K mg base CX0 (k + 1) f fd ["_law_thing"] (spKindT K isWrd) := by
  refine F.ok scWorded (fun vs H Q E h => ?_) (fun cdv A outer s H vs Q E hr h => ?_)
  · obtain ⟨v, d, rfl, _⟩ := h
    rfl
  · obtain ⟨v, d, rfl, hd, hz, q⟩ := h
    refine ⟨_, (pss_cons (ps_if (PW.pt (pw_or (pt_not (pt_val (pe_callB call_isi (by rfl) m_isinstance (by decide +kernel) (pa_cons (pv 0) (pa_cons (pe_bltn (v := .ty "str") (u := .type "str") (by rfl) m_str (by decide +kernel) rfl) pa_nil))))) (pw_or1 (pt_cmpR op_notIn_seq (pe_callB call_len_str (by rfl) m_len (by decide +kernel) (pa_cons (pv 0) pa_nil)) (pe_tup (pa_cons pe_int (pa_cons pe_int (pa_cons pe_int (pa_cons pe_int (pa_cons pe_int (pa_cons pe_int (pa_cons pe_int (pa_cons pe_int pa_nil))))))))) (by rfl))))) (pss_one (ps_ret pe_bl)) pss_nil)
      (pss_one (ps_ret (pe_cmpR (op_eqD hr.units) (pe_lc (own := [("_law_sign", 1)]) (g := gName 1) rfl scWorded.nd (pi_str (pv 0)) (blkOk_by (own := [("_law_sign", 1)]) (N := ["_law_thing", "_law_sign"]) (sc := defScope sWorded) (by decide +kernel)) (fun _ _ _ _ _ => (pg_name (i := 1) scWorded.nd rfl (.inl rfl))) (fun _ _ _ _ _ => (pts_one (PW.pt (pw_or (pt_cmpR op_lt (pe_callB call_ord (by rfl) m_ord (by decide +kernel) (pa_cons (pv 1) pa_nil)) pe_int (nomark _)) (pw_or1 (pt_cmpR op_gt (pe_callB call_ord (by rfl) m_ord (by decide +kernel) (pa_cons (pv 1) pa_nil)) pe_int (nomark _))))))) (fun _ _ _ _ _ => (pv 1))) (pe_lst pa_nil) (nomark _))))), ?_⟩
    have q0 := q H (Same.refl H)
    cases hd with
    | non => exact ⟨_, rfl, _, .ty "str", _, .type "str", false, rfl, .ty _, .base .non, kit_ty (by decide +kernel), false, rfl, iteT (iteT q0)⟩
    | bl b => exact ⟨_, rfl, _, .ty "str", _, .type "str", false, rfl, .ty _, .base (.bl b), kit_ty (by decide +kernel), false, rfl, iteT (iteT q0)⟩
    | int i => exact ⟨_, rfl, _, .ty "str", _, .type "str", false, rfl, .ty _, .base (.int i), kit_ty (by decide +kernel), false, rfl, iteT (iteT q0)⟩
    | lst h _ => exact ⟨_, rfl, _, .ty "str", _, .type "str", false, rfl, .ty _, ty_lst h, kit_ty (by decide +kernel), false, rfl, iteT (iteT q0)⟩
    | tup h _ => exact ⟨_, rfl, _, .ty "str", _, .type "str", false, rfl, .ty _, ty_tup h, kit_ty (by decide +kernel), false, rfl, iteT (iteT q0)⟩
    | str z =>
      have hzl : z.length ≤ 3000 := hz.1
      have hsz : z.length ≤ sizeLine := Nat.le_trans hzl (by rw [sizeLine_eq]; decide)
      refine ⟨_, rfl, _, .ty "str", _, .type "str", true, rfl, .ty _, .base (.str z), kit_ty (by decide +kernel), true, rfl, iteF ?_⟩
      refine ⟨_, rfl, z, rfl, hsz, by show (8 : Nat) ≤ sizeLine; decide, fun tq nq => ?_⟩
      have sq := same_upd (o := .tup [.int 1, .int 2, .int 3, .int 4, .int 5, .int 6, .int 7, .int 8]) nq
      refine ⟨tq, _, rfl, .inr (.inl (.inl upd_same)), rfl, rfl, _, rfl, ?_⟩
      change ite _ _ _
      by_cases hw : 1 ≤ z.length ∧ z.length ≤ 8
      · refine ite2 (fun c => ?_) (fun c => ?_)
        · have c' : (!inV (.int (z.length : Int)) [.int 1, .int 2, .int 3, .int 4, .int 5, .int 6, .int 7, .int 8]) = true := c
          rw [len_in, decide_eq_true hw] at c'
          cases c'
        · generalize upd H tq (.tup [.int 1, .int 2, .int 3, .int 4, .int 5, .int 6, .int 7, .int 8]) = H2 at sq
          refine ⟨_, rfl, z, rfl, fun D nD => ?_⟩
          refine lc_it walk_str (fun i H3 => Same H2 H3 ∧ Acc K H3 D ((bad (z.cps.toList.take i)).map sgn)) ⟨same_upd nD, Acc.start⟩ (fun _ _ _ _ => trivial) ?_ ?_
          · rintro i x H3 H3' hi ⟨sm, ac⟩ ⟨rfl, c, hc, rfl⟩
            have et := take_more (at_take hc)
            have hca : c < 128 := hz.2 c (List.mem_of_getElem? (at_take hc))
            have hl : ((bad (z.cps.toList.take i)).map sgn).length ≤ 900 := by
              rw [List.length_map]
              have h1 : (bad (z.cps.toList.take i)).length ≤ (z.cps.toList.take i).length := List.length_filter_le _ _
              rw [List.length_take] at h1
              have h2 : z.cps.toList.length = z.length := Array.length_toList
              omega
            have more : inAz c = false → ∃ acc, H3' D = some (.lst acc) ∧ acc.length < sizeLine ∧ (Same H2 (upd H3' D (.lst (acc ++ [.str ⟨#[c]⟩]))) ∧ Acc K (upd H3' D (.lst (acc ++ [.str ⟨#[c]⟩]))) D ((bad (z.cps.toList.take (i + 1))).map sgn)) := fun e => by
              refine Acc.turn nD sm ac (Same.refl _) (d := sgn c) (.str _) rfl hl ?_
              rw [et]
              unfold bad
              rw [List.filter_append, List.map_append, List.filter_cons, if_pos (by rw [e]; decide)]
              rfl
            refine ⟨rfl, ?_⟩
            refine ⟨_, rfl, _, rfl, rfl, _, _, rfl, rfl, _, rfl, ite2 (fun c1 => ?_) (fun c1 => ?_)⟩
            · have c1' : (c : Int) < 97 := of_decide_eq_true c1
              refine iteT ⟨_, rfl, more ?_⟩
              unfold inAz
              exact decide_eq_false (by omega)
            · have c1' : ¬ (c : Int) < 97 := fun z => c1 (decide_eq_true z)
              refine ⟨_, rfl, _, rfl, rfl, _, _, rfl, rfl, _, rfl, ?_⟩
              change ite _ _ _
              refine ite2 (fun c2 => ?_) (fun c2 => ?_)
              · have c2' : (122 : Int) < (c : Int) := of_decide_eq_true c2
                refine ⟨_, rfl, more ?_⟩
                unfold inAz
                exact decide_eq_false (by omega)
              · have c2' : ¬ (122 : Int) < (c : Int) := fun z => c2 (decide_eq_true z)
                have e : inAz c = true := by
                  unfold inAz
                  exact decide_eq_true (by omega)
                refine ⟨sm, ?_⟩
                rw [et]
                unfold bad
                rw [List.filter_append, List.filter_cons, if_neg (by rw [e]; decide), List.filter_nil, List.append_nil]
                exact ac
          · rintro H3 ⟨sm, ac⟩
            rw [List.take_of_length_le (by rw [Array.length_toList]; exact Nat.le_refl _)] at ac
            obtain ⟨us, eD, dv⟩ := ac.ex
            refine ⟨Nat.zero_le _, fun z2 nz2 => ?_⟩
            have s4 := same_upd (o := .lst []) nz2
            refine ⟨.list ((bad z.cps.toList).map sgn), .list [], .lst (.inl (.inl (s4 _ _ eD))) (DpAll.same s4 _ _ dv), .lst (.inl (.inl upd_same)) .nil, shaped_sgn fun c hc => hz.2 c (List.mem_filter.mp hc).1, rfl, ?_⟩
            have := q _ (sq.trans (sm.trans s4))
            rw [wrd_str, decide_eq_true hw, Bool.true_and, ← bad_nil] at this
            rw [eqv_sgn]
            exact this
      · refine ite2 (fun c => ?_) (fun c => ?_)
        · have := q _ sq
          rw [wrd_str, decide_eq_false hw, Bool.false_and] at this
          exact this
        · refine absurd (?_ : (!inV (.int (z.length : Int)) [.int 1, .int 2, .int 3, .int 4, .int 5, .int 6, .int 7, .int 8]) = true) c
          rw [len_in, decide_eq_false hw]
          rfl
end
end K01

set_option Elab.async false
set_option linter.all false
set_option maxRecDepth 100000
set_option maxHeartbeats 1000000
namespace K01
open PySem PySem.Spec PyProof.Rows L2 TB

theorem scFeed : FnScope ["_law_script"] ["_law_script"] (defScope sFeed) := ⟨rfl, rfl, rfl, by decide +kernel, rfl, by decide +kernel, by decide +kernel⟩
theorem scDraw : FnScope ["_law_feed_here", "_law_many", "_law_told", "_law_cell", "_law_turn", "_law_mixed"] ["_law_feed_here", "_law_many"] (defScope sDraw) := ⟨rfl, rfl, rfl, by decide +kernel, rfl, by decide +kernel, by decide +kernel⟩

/-! ### the feed: the script's numbers, a place, a rest, how many draws -/
structure Feed (H : Hp) (F S : Addr) (T : Int) : Prop where
  ex : ∃ (ns : List Int) (p r t : Int), H F = some (.lst [.ref S, .int p, .int r, .int t]) ∧ S ≠ F ∧ H S = some (.lst (ns.map V.int)) ∧ ns.length ≤ 1000 ∧ 0 ≤ p ∧ 0 ≤ r ∧ 0 ≤ t ∧ t ≤ T
theorem Feed.same {H H' : Hp} {F S : Addr} {T : Int} (e : Same H H') (h : Feed H F S T) : Feed H' F S T := by
  obtain ⟨ns, p, r, t, a, n, b, c⟩ := h.ex
  exact ⟨⟨ns, p, r, t, e _ _ a, n, e _ _ b, c⟩⟩
theorem Feed.there {H : Hp} {F S : Addr} {T : Int} (h : Feed H F S T) : ∃ zs, H F = some (.lst zs) := by
  obtain ⟨ns, p, r, t, a, _⟩ := h.ex
  exact ⟨_, a⟩
/-- a new place is neither the feed nor its numbers -/
theorem Feed.ne {H : Hp} {F S D : Addr} {T : Int} (h : Feed H F S T) (n : H D = none) : D ≠ F ∧ D ≠ S := by
  obtain ⟨ns, p, r, t, a, _, b, _⟩ := h.ex
  exact ⟨(ne_of_none a n).symm, (ne_of_none b n).symm⟩
theorem Feed.upd {H : Hp} {F S D : Addr} {T : Int} {o : HO} (h : Feed H F S T) (n : D ≠ F ∧ D ≠ S) : Feed (upd H D o) F S T := by
  obtain ⟨ns, p, r, t, a, k, b, c⟩ := h.ex
  exact ⟨⟨ns, p, r, t, by rw [upd_ne n.1.symm]; exact a, k, by rw [upd_ne n.2.symm]; exact b, c⟩⟩
theorem Feed.mono {H : Hp} {F S : Addr} {T T' : Int} (h : Feed H F S T) (l : T ≤ T') : Feed H F S T' := by
  obtain ⟨ns, p, r, t, a, n, b, c, d, e, f, g⟩ := h.ex
  exact ⟨⟨ns, p, r, t, a, n, b, c, d, e, f, by omega⟩⟩
section
variable {P : Program} {w : World} {K : PySem.W.Frag} {mg : Str → Option Value} {base : Heap}
/-! ### _law_feed -/
def spFeed (K : PySem.W.Frag) : Sp := fun vs H Q _ => ∃ (a : Addr) (ns : List Int), vs = [.ref a] ∧ SqL K H a (ns.map V.int) ∧ ns.length ≤ 1000 ∧
  ∀ H' F S, Same H H' → H F = none → Feed H' F S 0 → Q (.ref F) H'
theorem cutV_ints (ns : List Int) (lo hi : Option Int) : ∃ ms : List Int, cutV (ns.map V.int) lo hi = ms.map V.int ∧ ms.length ≤ ns.length := by
  unfold cutV
  refine ⟨(ns.drop (HT.sIx (ns.map V.int).length 0 lo)).take (HT.sIx (ns.map V.int).length (ns.map V.int).length hi - HT.sIx (ns.map V.int).length 0 lo), ?_, ?_⟩
  · rw [List.map_take, List.map_drop]
  · rw [List.length_take, List.length_drop]
    omega
theorem ok_feed {f : Addr} {fd : FuncData} {k : Nat} (F : Fun K "_law_feed" "_law_feed" sFeed f fd) : FnOk P w K mg base CX0 (k + 1) f fd ["_law_script"] (spFeed K) := by
  refine F.ok scFeed (fun vs H Q E h => ?_) (fun cdv A outer s H vs Q E hr h => ?_)
  · obtain ⟨a, ns, rfl, _⟩ := h
    rfl
  · obtain ⟨a, ns, rfl, hS, hl, q⟩ := h
    refine ⟨_, pss_one (ps_ret (pe_lst (pa_cons (pe_slice sl_list (pv 0) po_none (po_some pe_int)) (pa_cons pe_int (pa_cons pe_int (pa_cons pe_int pa_nil)))))), ?_⟩
    obtain ⟨ms, em, hm⟩ := cutV_ints ns none (some 63)
    refine ⟨.ref a, rfl, 63, rfl, a, _, rfl, hS, fun S nS => ⟨by show (4 : Nat) ≤ sizeLine; decide, fun L nL => ?_⟩⟩
    have s1 : Same H (upd H S (.lst (cutV (ns.map V.int) none (some 63)))) := same_upd nS
    have nSL : S ≠ L := fun e => by
      rw [← e, upd_same] at nL
      cases nL
    refine q _ L S (s1.trans (same_upd nL)) (s1.free nL) ⟨⟨ms, 0, 0, 0, upd_same, nSL, ?_, by omega, by omega, by omega, by omega, by omega⟩⟩
    rw [upd_ne nSL, upd_same, em]

/-! ### _law_draw -/
def spDraw : Sp := fun vs H Q _ => ∃ (F S : Addr) (m T : Int), vs = [.ref F, .int m] ∧ 0 < m ∧ m < 2 ^ 50 ∧ Feed H F S T ∧ T < 2 ^ 40 ∧
  ∀ H' v, But F H H' → Feed H' F S (T + 1) → 0 ≤ v → v < m → Q (.int v) H'
theorem eqv_nil : ∀ ns : List Int, PyData.eqv (.list (dInts ns)) (.list []) = decide (ns = [])
  | [] => by simp [dInts, PyData.eqv, PyData.eqvAll]
  | n :: ns => by simp [dInts, PyData.eqv, PyData.eqvAll]
theorem shaped_ints (ns : List Int) : SeqAt.shaped (.list (dInts ns)) = true := by
  have h : ∀ ms : List Int, PyData.canLayAll0 (dInts ms) = true ∧ PyData.depthAll (dInts ms) = 0 := by
    intro ms
    induction ms with
    | nil => exact ⟨rfl, rfl⟩
    | cons m ms ih => exact ⟨by simpa [dInts, PyData.canLayAll0, PyData.canLay0] using ih.1, by simpa [dInts, PyData.depthAll, PyData.depth] using ih.2⟩
  unfold SeqAt.shaped
  simp only [PyData.canLay0, PyData.depth, (h ns).1, (h ns).2]
  decide
theorem ok_draw {f : Addr} {fd : FuncData} {k : Nat} (F : Fun K "_law_draw" "_law_draw" sDraw f fd) (m_len : mg "len" = none) : FnOk P w K mg base CX0 (k + 1) f fd ["_law_feed_here", "_law_many"] spDraw := by
  refine F.ok scDraw (fun vs H Q E h => ?_) (fun cdv A outer s H vs Q E hr h => ?_)
  · obtain ⟨a, S, m, T, rfl, _⟩ := h
    rfl
  · obtain ⟨L, S, m, T, rfl, m0, m1, hF, hT, q⟩ := h
    refine ⟨_, (pss_cons (ps_augS (pv 0) pe_int get_list pe_int ip_add set_list)
      (pss_cons (ps_if (pt_cmpR op_gt (pe_ix ix_list (pv 0) pe_int (fun _ _ => rfl)) pe_int (nomark _)) (pss_cons (ps_set (i := 2) scDraw.nd rfl (.inl rfl) (pe_op op_mod (pe_ix ix_list (pv 0) pe_int (fun _ _ => rfl)) (pv 1)))
      (pss_cons (ps_asg (pe_op op_fdivW (pe_ix ix_list (pv 0) pe_int (fun _ _ => rfl)) (pv 1)) (pg_sub (pv 0) pe_int set_list))
      (pss_one (ps_ret (pv 2))))) pss_nil)
      (pss_cons (ps_set (i := 3) scDraw.nd rfl (.inl rfl) (pe_ifExp (pt_cmpR (op_eqD hr.units) (pe_ix ix_list (pv 0) pe_int (fun _ _ => rfl)) (pe_lst pa_nil) (nomark _)) pe_int (pe_ix ix_list (pe_ix ix_list (pv 0) pe_int (fun _ _ => rfl)) (pe_op op_mod (pe_ix ix_list (pv 0) pe_int (fun _ _ => rfl)) (pe_callB call_len_seq (by rfl) m_len (by decide +kernel) (pa_cons (pe_ix ix_list (pv 0) pe_int (fun _ _ => rfl)) pa_nil))) (fun _ _ => rfl))))
      (pss_cons (ps_augS (pv 0) pe_int get_list pe_int ip_add set_list)
      (pss_cons (ps_if (PW.pt (pw_and (pt_cmpR op_ge (pv 3) (pe_op op_pow pe_int pe_int) (nomark _)) (pw_and1 (pt_cmpR op_le (pe_ix ix_list (pv 0) pe_int (fun _ _ => rfl)) (pe_callB call_len_seq (by rfl) m_len (by decide +kernel) (pa_cons (pe_ix ix_list (pv 0) pe_int (fun _ _ => rfl)) pa_nil)) (nomark _))))) (pss_cons (ps_asg (pe_op op_fdivW (pv 3) (pv 1)) (pg_sub (pv 0) pe_int set_list))
      (pss_one (ps_ret (pe_op op_mod (pv 3) (pv 1))))) pss_nil)
      (pss_cons (ps_set (i := 4) scDraw.nd rfl (.inl rfl) (pe_ix ix_list (pv 0) pe_int (fun _ _ => rfl)))
      (pss_cons (ps_set (i := 5) scDraw.nd rfl (.inl rfl) (pe_op op_mod (pe_op op_add (pe_op op_add (pe_op op_mod (pv 3) pe_int) (pe_op op_mul (pe_op op_mul pe_int (pv 4)) (pv 4))) (pe_op op_mul pe_int (pv 4))) pe_int))
      (pss_cons (ps_set (i := 5) scDraw.nd rfl (.inl rfl) (pe_op op_mod (pe_op op_add (pe_op op_mul (pv 5) (pv 5)) (pe_op op_mul pe_int (pv 4))) pe_int))
      (pss_cons (ps_set (i := 5) scDraw.nd rfl (.inl rfl) (pe_op op_mod (pe_op op_add (pe_op op_mul (pv 5) (pv 5)) (pe_op op_mul pe_int (pv 4))) pe_int))
      (pss_one (ps_ret (pe_op op_mod (pe_op op_fdivW (pe_op op_mod (pe_op op_add (pe_op op_mul (pv 5) (pv 5)) (pv 4)) pe_int) pe_int) (pv 1))))))))))))), ?_⟩
    obtain ⟨ns, p, r, t, eF, nSF, hS, hn, p0, r0, t0, tT⟩ := hF.ex
    -- feed[3] += 1
    refine ⟨.ref L, rfl, L, _, 3, _, rfl, rfl, .inl (.inl eF), rfl, _, _, rfl, rfl, L, _, 3, 3, rfl, rfl, eF, rfl, ?_⟩
    generalize hH1 : upd H L (.lst (List.set [V.ref S, V.int p, V.int r, V.int t] 3 (V.int ((fun i j => i + j) t 1)))) = H1
    have e1 : H1 L = some (.lst [.ref S, .int p, .int r, .int (t + 1)]) := by
      rw [← hH1]
      exact upd_same
    have b1 : But L H H1 := by
      rw [← hH1]
      exact But.upd
    clear hH1
    have hS1 := b1 _ _ nSF hS
    have back : ∀ (H2 : Hp) (p' r' : Int) (v : Int), But L H H2 → H2 S = some (.lst (ns.map V.int)) → H2 L = some (.lst [.ref S, .int p', .int r', .int (t + 1)]) → 0 ≤ p' → 0 ≤ r' → 0 ≤ v → v < m → Q (.int v) H2 :=
      fun H2 p' r' v a hs b c d x y => q H2 v a ⟨⟨ns, p', r', t + 1, b, nSF, hs, hn, c, d, by omega, by omega⟩⟩ x y
    -- if feed[2] > 0
    refine ⟨.ref L, rfl, L, _, 2, _, rfl, rfl, .inl (.inl e1), atI_nat (j := 2) rfl, _, _, rfl, rfl, _, rfl, ite2 (fun c => ?_) (fun c => ?_)⟩
    · refine ⟨.ref L, rfl, L, _, 2, _, rfl, rfl, .inl (.inl e1), atI_nat (j := 2) rfl, _, rfl, r, m, rfl, rfl, m0, ?_⟩
      refine ⟨.ref L, rfl, L, _, 2, _, rfl, rfl, .inl (.inl e1), atI_nat (j := 2) rfl, _, rfl, r, m, rfl, rfl, wide_div (b := 60) m0 (by omega) (by omega) (by omega), ?_⟩
      refine ⟨.ref L, rfl, L, _, 2, 2, rfl, rfl, e1, rfl, ?_⟩
      have b2 : But L H1 (upd H1 L (.lst [.ref S, .int p, .int (r / m), .int (t + 1)])) := But.upd
      refine ⟨_, rfl, ?_⟩
      exact back _ p (r / m) (r % m) (b1.trans b2) (b2 _ _ nSF hS1) upd_same p0 (Int.ediv_nonneg r0 (by omega)) (Int.emod_nonneg _ (by omega)) (Int.emod_lt_of_pos _ m0)
    · -- the cell
      refine ⟨.ref L, rfl, L, _, 0, _, rfl, rfl, .inl (.inl e1), atI_nat (j := 0) rfl, Nat.zero_le _, fun z nz => ?_⟩
      have sz : Same H1 (upd H1 z (.lst [])) := same_upd nz
      generalize hH2 : upd H1 z (.lst []) = H2 at sz
      have ez : H2 z = some (.lst []) := by
        rw [← hH2]
        exact upd_same
      have b2 : But L H H2 := b1.same sz
      have e2 := sz _ _ e1
      have hS2 := sz _ _ hS1
      clear hH2
      refine ⟨.list (dInts ns), .list [], .lst (.inl (.inl hS2)) (dp_ints ns), .lst (.inl (.inl ez)) .nil, shaped_ints ns, rfl, _, rfl, ?_⟩
      rw [eqv_nil]
      refine ite2 (fun c => ?_) (fun c => ?_)
      rotate_left
      have hne : 0 < (ns.map V.int).length := by
        cases ns with
        | nil => exact absurd rfl c
        | cons x xs => simp
      have i0 := Int.emod_nonneg p (show ((ns.map V.int).length : Int) ≠ 0 by omega)
      have i1 := Int.emod_lt_of_pos p (show (0 : Int) < (ns.map V.int).length by omega)
      obtain ⟨j, hj⟩ : ∃ j : Nat, p % ((ns.map V.int).length : Int) = (j : Int) := ⟨_, (Int.toNat_of_nonneg i0).symm⟩
      have hjl : j < ns.length := by
        rw [hj, List.length_map] at i1
        omega
      have gj : (ns.map V.int)[j]? = some (.int ns[j]) := by
        rw [List.getElem?_map, List.getElem?_eq_getElem hjl]
        rfl
      refine ⟨.ref L, rfl, L, _, 0, _, rfl, rfl, .inl (.inl e2), atI_nat (j := 0) rfl, .ref L, rfl, L, _, 1, _, rfl, rfl, .inl (.inl e2), atI_nat (j := 1) rfl, .ref L, rfl, L, _, 0, _, rfl, rfl, .inl (.inl e2), atI_nat (j := 0) rfl, S, _, rfl, .inl (.inl (.inl hS2)), p, _, rfl, rfl, by omega, S, _, _, _, rfl, rfl, .inl (.inl hS2), (by rw [hj]; exact atI_nat gj), ?_⟩
      all_goals
        -- feed[1] += 1
        refine ⟨.ref L, rfl, L, _, 1, _, rfl, rfl, .inl (.inl e2), rfl, _, _, rfl, rfl, L, _, 1, 1, rfl, rfl, e2, rfl, ?_⟩
        generalize hH3 : upd H2 L (.lst (List.set [V.ref S, V.int p, V.int r, V.int (t + 1)] 1 (V.int ((fun i j => i + j) p 1)))) = H3
        have e3 : H3 L = some (.lst [.ref S, .int (p + 1), .int r, .int (t + 1)]) := by
          rw [← hH3]
          exact upd_same
        have b23 : But L H2 H3 := by
          rw [← hH3]
          exact But.upd
        have b3 := b2.trans b23
        have hS3 := b23 _ _ nSF hS2
        clear hH3
        have back3 : ∀ r' v : Int, 0 ≤ r' → 0 ≤ v → v < m → Q (.int v) (upd H3 L (.lst [.ref S, .int (p + 1), .int r', .int (t + 1)])) := fun r' v x y z =>
          have b34 : But L H3 (upd H3 L (.lst [.ref S, .int (p + 1), .int r', .int (t + 1)])) := But.upd
          back _ (p + 1) r' v (b3.trans b34) (b34 _ _ nSF hS3) upd_same (by omega) x y z
        -- if cell >= 10 ** 18 and ..
        refine ⟨_, rfl, _, _, rfl, rfl, ⟨by decide, by decide, by decide⟩, _, _, rfl, rfl, _, rfl, ite2 (fun c1 => ?_) (fun c1 => ?_)⟩
        · refine ⟨.ref L, rfl, L, _, 1, _, rfl, rfl, .inl (.inl e3), atI_nat (j := 1) rfl, .ref L, rfl, L, _, 0, _, rfl, rfl, .inl (.inl e3), atI_nat (j := 0) rfl, S, _, rfl, .inl (.inl (.inl hS3)), _, _, rfl, rfl, _, rfl, ite2 (fun c2 => ?_) (fun c2 => ?_)⟩
          · refine ⟨_, rfl, _, rfl, _, _, rfl, rfl, wide_div (b := 60) m0 (by omega) (by omega) (by omega), .ref L, rfl, L, _, 2, 2, rfl, rfl, e3, rfl, ?_⟩
            refine ⟨_, rfl, _, rfl, _, _, rfl, rfl, m0, ?_⟩
            exact back3 _ _ (Int.ediv_nonneg (Int.le_trans (by decide) (of_decide_eq_true c1)) (by omega)) (Int.emod_nonneg _ (by omega)) (Int.emod_lt_of_pos _ m0)
          · refine ⟨.ref L, rfl, L, _, 3, _, rfl, rfl, .inl (.inl e3), atI_nat (j := 3) rfl, ?_⟩
            refine ⟨_, rfl, _, _, rfl, rfl, (by show (0 : Int) < _; decide), _, rfl, _, _, rfl, rfl, .inl ⟨by decide, by decide⟩, _, rfl, _, _, rfl, rfl, .inr ⟨by omega, by omega⟩, _, _, rfl, rfl, _, rfl, _, _, rfl, rfl, .inl ⟨by decide, by decide⟩, _, _, rfl, rfl, _, _, rfl, rfl, (by show (0 : Int) < _; decide), ?_⟩
            refine ⟨_, rfl, _, rfl, _, _, rfl, rfl, .inl ⟨by omega, by omega⟩, _, rfl, _, _, rfl, rfl, .inl ⟨by decide, by decide⟩, _, _, rfl, rfl, _, _, rfl, rfl, (by show (0 : Int) < _; decide), ?_⟩
            refine ⟨_, rfl, _, rfl, _, _, rfl, rfl, .inl ⟨by omega, by omega⟩, _, rfl, _, _, rfl, rfl, .inl ⟨by decide, by decide⟩, _, _, rfl, rfl, _, _, rfl, rfl, (by show (0 : Int) < _; decide), ?_⟩
            refine ⟨_, rfl, _, rfl, _, _, rfl, rfl, .inl ⟨by omega, by omega⟩, _, rfl, _, _, rfl, rfl, _, _, rfl, rfl, (by show (0 : Int) < _; decide), _, _, rfl, rfl, wide_div (b := 60) (by decide) (by decide) (by omega) (by omega), _, rfl, _, _, rfl, rfl, m0, ?_⟩
            exact back H3 (p + 1) r _ b3 hS3 e3 (by omega) r0 (Int.emod_nonneg _ (by omega)) (Int.emod_lt_of_pos _ m0)
        · refine ⟨.ref L, rfl, L, _, 3, _, rfl, rfl, .inl (.inl e3), atI_nat (j := 3) rfl, ?_⟩
          refine ⟨_, rfl, _, _, rfl, rfl, (by show (0 : Int) < _; decide), _, rfl, _, _, rfl, rfl, .inl ⟨by decide, by decide⟩, _, rfl, _, _, rfl, rfl, .inr ⟨by omega, by omega⟩, _, _, rfl, rfl, _, rfl, _, _, rfl, rfl, .inl ⟨by decide, by decide⟩, _, _, rfl, rfl, _, _, rfl, rfl, (by show (0 : Int) < _; decide), ?_⟩
          refine ⟨_, rfl, _, rfl, _, _, rfl, rfl, .inl ⟨by omega, by omega⟩, _, rfl, _, _, rfl, rfl, .inl ⟨by decide, by decide⟩, _, _, rfl, rfl, _, _, rfl, rfl, (by show (0 : Int) < _; decide), ?_⟩
          refine ⟨_, rfl, _, rfl, _, _, rfl, rfl, .inl ⟨by omega, by omega⟩, _, rfl, _, _, rfl, rfl, .inl ⟨by decide, by decide⟩, _, _, rfl, rfl, _, _, rfl, rfl, (by show (0 : Int) < _; decide), ?_⟩
          refine ⟨_, rfl, _, rfl, _, _, rfl, rfl, .inl ⟨by omega, by omega⟩, _, rfl, _, _, rfl, rfl, _, _, rfl, rfl, (by show (0 : Int) < _; decide), _, _, rfl, rfl, wide_div (b := 60) (by decide) (by decide) (by omega) (by omega), _, rfl, _, _, rfl, rfl, m0, ?_⟩
          exact back H3 (p + 1) r _ b3 hS3 e3 (by omega) r0 (Int.emod_nonneg _ (by omega)) (Int.emod_lt_of_pos _ m0)
end

/-! ### texts -/
theorem asc_app {x y : Str} (hx : asc x) (hy : asc y) : asc (x ++ y) := fun c hc => by
  have e : (x ++ y).cps.toList = x.cps.toList ++ y.cps.toList := Array.toList_append
  rw [e] at hc
  rcases List.mem_append.mp hc with h | h
  · exact hx c h
  · exact hy c h
theorem asc_one {z : Str} {i : Int} {c : Nat} (hz : asc z) (h : atI z.cps.toList i = some c) : asc ⟨#[c]⟩ := fun d hd => by
  have : c ∈ z.cps.toList := by
    unfold atI at h
    cases e : ixN z.cps.toList.length i with
    | none => rw [e] at h; cases h
    | some j => rw [e] at h; exact List.mem_of_getElem? h
  rw [List.mem_singleton.mp hd]
  exact hz c this
theorem asc_cut {z : Str} (hz : asc z) (lo hi : Option Int) : asc (cutS z lo hi) := fun c hc => hz c (List.mem_of_mem_drop (List.mem_of_mem_take hc))
theorem cut_len (z : Str) (lo hi : Option Int) : (cutS z lo hi).length ≤ z.length := by
  show (List.toArray _).size ≤ _
  rw [List.size_toArray, List.length_take, List.length_drop]
  have : z.cps.toList.length = z.length := Array.length_toList
  omega
theorem app_len (x y : Str) : (x ++ y).length = x.length + y.length := Str.length_append x y
theorem at_some {z : Str} {v : Int} (h0 : 0 ≤ v) (h1 : v < z.length) : ∃ c, atI z.cps.toList v = some c := by
  have hl : z.cps.toList.length = z.length := Array.length_toList
  obtain ⟨j, rfl⟩ : ∃ j : Nat, v = (j : Int) := ⟨v.toNat, by omega⟩
  have hj : j < z.cps.toList.length := by omega
  exact ⟨_, atI_nat (List.getElem?_eq_getElem hj)⟩
theorem scWord : FnScope ["_law_feed_here", "_law_found", "_law_letters", "_law_way", "_law_word_here", "_law_k", "_law_own"] ["_law_feed_here", "_law_found"] (defScope sWord) := ⟨rfl, rfl, rfl, by decide +kernel, rfl, by decide +kernel, by decide +kernel⟩
theorem scGreat : FnScope ["_law_feed_here", "_law_told", "_law_k"] ["_law_feed_here"] (defScope sGreat) := ⟨rfl, rfl, rfl, by decide +kernel, rfl, by decide +kernel, by decide +kernel⟩
theorem scSpoilt : FnScope ["_law_feed_here", "_law_word_here", "_law_signs", "_law_at", "_law_sign", "_law_way"] ["_law_feed_here", "_law_word_here"] (defScope sSpoilt) := ⟨rfl, rfl, rfl, by decide +kernel, rfl, by decide +kernel, by decide +kernel⟩
def abc : Str := "abcdefghijklmnopqrstuvwxyz"
theorem abc_asc : asc abc := by
  have : ∀ c ∈ abc.cps.toList, c < 128 := by decide +kernel
  exact this
theorem abc_len : abc.length = 26 := by decide +kernel
def signs : Str := " !\"#$&'()*+,-./0123456789:;<=>?@ABCDEFGHIJKLMNOPQRSTUVWXYZ[\\]^_`abcdefghijklmnopqrstuvwxyz{|}~"
theorem signs_asc : asc signs := by
  have : ∀ c ∈ signs.cps.toList, c < 128 := by decide +kernel
  exact this
theorem signs_len : 0 < signs.length ∧ signs.length < 200 := by decide +kernel
section
variable {P : Program} {w : World} {K : PySem.W.Frag} {mg : Str → Option Value} {base : Heap}
/-! ### _law_word -/
def spWord (K : PySem.W.Frag) : Sp := fun vs H Q _ => ∃ (L S X : Addr) (T : Int), vs = [.ref L, .ref X] ∧ Feed H L S T ∧ T < 2 ^ 39 ∧ H X = some (.lst []) ∧ X ≠ L ∧
  ∀ (H' : Hp) (z : Str), But L H H' → Feed H' L S (T + 20) → asc z → 1 ≤ z.length → z.length ≤ 8 → Q (.str z) H'
theorem ok_word {f fR : Addr} {fd fdR : FuncData} (F : Fun K "_law_word" "_law_word" sWord f fd) (GR : FnOk P w K mg base CX0 1 fR fdR ["_law_feed_here", "_law_many"] spDraw) (kR : PySem.W.keepIn K (.ref fR) = true)
    (bR : Binds K fdR ["_law_feed_here", "_law_many"] []) (gR : mg "_law_draw" = some (.ref fR)) (m_range : mg "range" = none) (m_len : mg "len" = none) : FnOk P w K mg base CX0 2 f fd ["_law_feed_here", "_law_found"] (spWord K) := by
  refine F.ok scWord (fun vs H Q E h => ?_) (fun cdv A outer s H vs Q E hr h => ?_)
  · obtain ⟨L, S, X, T, rfl, _⟩ := h
    rfl
  · obtain ⟨L, S, X, T, rfl, hF, hT, eX, nX, q⟩ := h
    refine ⟨_, (pss_cons (ps_set (i := 2) scWord.nd rfl (.inl rfl) pe_str)
      (pss_cons (ps_set (i := 3) scWord.nd rfl (.inl rfl) (pe_call GR (hr.mono (by decide)) (by rfl) gR kR bR .nil pass0 (pa_cons (pv 0) (pa_cons pe_int pa_nil))))
      (pss_cons (ps_set (i := 4) scWord.nd rfl (.inl rfl) (pe_ix ix_str (pv 2) (pe_call GR (hr.mono (by decide)) (by rfl) gR kR bR .nil pass0 (pa_cons (pv 0) (pa_cons pe_int pa_nil))) (fun _ _ => rfl)))
      (pss_cons (ps_if (PW.pt (pw_or (pt_cmpR op_gt (pv 3) pe_int (nomark _)) (pw_or1 (pt_cmpR (op_eqD hr.units) (pv 1) (pe_lst pa_nil) (nomark _))))) (pss_one (ps_for PassesOwn.never rfl (pi_range1 (by rfl) m_range (pa_cons (pe_call GR (hr.mono (by decide)) (by rfl) gR kR bR .nil pass0 (pa_cons (pv 0) (pa_cons pe_int pa_nil))) pa_nil)) (pg_name (i := 5) scWord.nd rfl (.inl rfl)) (pss_one (ps_set (i := 4) scWord.nd rfl (.inl rfl) (pe_op op_add_str (pv 4) (pe_ix ix_str (pv 2) (pe_call GR (hr.mono (by decide)) (by rfl) gR kR bR .nil pass0 (pa_cons (pv 0) (pa_cons pe_int pa_nil))) (fun _ _ => rfl))))))) (pss_cons ps_never
      (pss_one ps_never)))
      (pss_cons (ps_for PassesOwn.never rfl (pi_range1 (by rfl) m_range (pa_cons pe_int pa_nil)) (pg_name (i := 5) scWord.nd rfl (.inl rfl)) (pss_cons (ps_if (pt_cmpR op_notIn_seq (pv 4) (pv 1) (by rfl)) (pss_one ps_break) pss_nil)
      (pss_one ps_never)))
      (pss_one (ps_ret (pv 4)))))))), ?_⟩
    refine ⟨_, rfl, L, S, 5, T, rfl, by decide, by decide, hF, by omega, fun H1 v1 k1 f1 l1 u1 => ?_⟩
    refine ⟨.str abc, rfl, _, rfl, L, S, 26, _, rfl, by decide, by decide, f1, by omega, fun H2 v2 k2 f2 l2 u2 => ?_⟩
    obtain ⟨c2, hc2⟩ := at_some (z := abc) l2 (by rw [abc_len]; exact u2)
    refine ⟨abc, v2, c2, rfl, rfl, by rw [abc_len, sizeLine_eq]; decide, hc2, ?_⟩
    show tSeq _ _ _ [some (.ref L), some (.ref X), some (.str abc), some (.int v1), some (.str ⟨#[c2]⟩), none, none] _
    have a2 := asc_one abc_asc hc2
    have eX2 := k2 _ _ nX (k1 _ _ nX eX)
    have kk2 := k1.trans k2
    refine ⟨_, rfl, _, _, rfl, rfl, _, rfl, ite2 (fun c => ?_) (fun c => ?_)⟩
    · change ite _ _ _
      refine iteT ?_
      have s3 := Same.refl H2
      have f3 := f2.same s3
      have eX3 := s3 _ _ eX2
      refine ⟨_, rfl, L, S, 8, _, rfl, by decide, by decide, f3, by omega, fun H4 n k4 f4 l4 u4 => ⟨n, rfl, by omega, by omega, ?_⟩⟩
      refine for_range (lo := 0) (n := n.toNat) (fun i σ H5 => ∃ (y : Option V) (z : Str), σ = [some (.ref L), some (.ref X), some (.str abc), some (.int v1), some (.str z), y, none] ∧ But L H H5 ∧ Feed H5 L S (T + 3 + i) ∧ H5 X = some (.lst []) ∧ asc z ∧ z.length = 1 + i)
        ⟨_, _, rfl, (kk2.same s3).trans k4, f4.mono (by omega), k4 _ _ nX eX3, a2, rfl⟩ ?_ ?_
      · rintro i σ H5 hi ⟨y, z, rfl, k5, f5, eX5, az, lz⟩
        refine ⟨_, rfl, .str abc, rfl, _, rfl, L, S, 26, _, rfl, by decide, by decide, f5, by omega, fun H6 v6 k6 f6 l6 u6 => ?_⟩
        obtain ⟨c6, hc6⟩ := at_some (z := abc) l6 (by rw [abc_len]; exact u6)
        refine ⟨abc, v6, c6, rfl, rfl, by rw [abc_len, sizeLine_eq]; decide, hc6, z, _, rfl, rfl, ?_, ?_⟩
        · show z.length + 1 ≤ sizeLine
          rw [sizeLine_eq]
          omega
        · refine ⟨_, _, rfl, k5.trans k6, f6.mono (by omega), k6 _ _ nX eX5, asc_app az (asc_one abc_asc hc6), ?_⟩
          rw [app_len, lz]
          rfl
      · rintro σ H5 ⟨y, z, rfl, k5, f5, eX5, az, lz⟩
        -- the first turn leaves the loop
        refine ⟨60, rfl, by decide, by decide, ?_⟩
        refine ⟨fun i m σ H6 => i = 0 ∧ m = 1 ∧ σ = [some (.ref L), some (.ref X), some (.str abc), some (.int v1), some (.str z), y, none] ∧ H6 = H5, ⟨1, rfl, rfl, rfl, rfl⟩, ?_⟩
        rintro i m σ H6 ⟨rfl, rfl, rfl, rfl⟩
        refine .inr ⟨by show (0 : Nat) < 60; decide, fun _ _ => False, fun _ _ h => h.elim, ?_⟩
        rintro x H7 ⟨rfl, rfl⟩
        refine ⟨_, rfl, _, rfl, X, [], rfl, .inl (.inl (.inl eX5)), rfl, rfl, _, rfl, ?_⟩
        refine iteT ?_
        refine ⟨_, rfl, ?_⟩
        exact q _ z k5 (f5.mono (by omega)) az (by omega) (by omega)
    · refine ⟨_, rfl, Nat.zero_le _, fun z3 nz3 => ?_⟩
      have s3 := same_upd (o := .lst []) nz3
      refine ⟨.list [], .list [], .lst (.inl (.inl (s3 _ _ eX2))) .nil, .lst (.inl (.inl upd_same)) .nil, rfl, rfl, _, rfl, ?_⟩
      change ite _ _ _
      refine iteT ?_
      have f3 := f2.same s3
      have eX3 := s3 _ _ eX2
      refine ⟨_, rfl, L, S, 8, _, rfl, by decide, by decide, f3, by omega, fun H4 n k4 f4 l4 u4 => ⟨n, rfl, by omega, by omega, ?_⟩⟩
      refine for_range (lo := 0) (n := n.toNat) (fun i σ H5 => ∃ (y : Option V) (z : Str), σ = [some (.ref L), some (.ref X), some (.str abc), some (.int v1), some (.str z), y, none] ∧ But L H H5 ∧ Feed H5 L S (T + 3 + i) ∧ H5 X = some (.lst []) ∧ asc z ∧ z.length = 1 + i)
        ⟨_, _, rfl, (kk2.same s3).trans k4, f4.mono (by omega), k4 _ _ nX eX3, a2, rfl⟩ ?_ ?_
      · rintro i σ H5 hi ⟨y, z, rfl, k5, f5, eX5, az, lz⟩
        refine ⟨_, rfl, .str abc, rfl, _, rfl, L, S, 26, _, rfl, by decide, by decide, f5, by omega, fun H6 v6 k6 f6 l6 u6 => ?_⟩
        obtain ⟨c6, hc6⟩ := at_some (z := abc) l6 (by rw [abc_len]; exact u6)
        refine ⟨abc, v6, c6, rfl, rfl, by rw [abc_len, sizeLine_eq]; decide, hc6, z, _, rfl, rfl, ?_, ?_⟩
        · show z.length + 1 ≤ sizeLine
          rw [sizeLine_eq]
          omega
        · refine ⟨_, _, rfl, k5.trans k6, f6.mono (by omega), k6 _ _ nX eX5, asc_app az (asc_one abc_asc hc6), ?_⟩
          rw [app_len, lz]
          rfl
      · rintro σ H5 ⟨y, z, rfl, k5, f5, eX5, az, lz⟩
        -- the first turn leaves the loop
        refine ⟨60, rfl, by decide, by decide, ?_⟩
        refine ⟨fun i m σ H6 => i = 0 ∧ m = 1 ∧ σ = [some (.ref L), some (.ref X), some (.str abc), some (.int v1), some (.str z), y, none] ∧ H6 = H5, ⟨1, rfl, rfl, rfl, rfl⟩, ?_⟩
        rintro i m σ H6 ⟨rfl, rfl, rfl, rfl⟩
        refine .inr ⟨by show (0 : Nat) < 60; decide, fun _ _ => False, fun _ _ h => h.elim, ?_⟩
        rintro x H7 ⟨rfl, rfl⟩
        refine ⟨_, rfl, _, rfl, X, [], rfl, .inl (.inl (.inl eX5)), rfl, rfl, _, rfl, ?_⟩
        refine iteT ?_
        refine ⟨_, rfl, ?_⟩
        exact q _ z k5 (f5.mono (by omega)) az (by omega) (by omega)
end
end K01

set_option Elab.async false
set_option linter.all false
set_option maxRecDepth 100000
set_option maxHeartbeats 1000000
namespace K01
open PySem PySem.Spec PyProof.Rows L2 TB

theorem cut_hi (z : Str) (j : Nat) : (cutS z none (some (j : Int))).length ≤ j := by
  show (List.toArray _).size ≤ _
  rw [List.size_toArray, List.length_take, HT.sIx_nat]
  omega
theorem cut_lo (z : Str) (j : Nat) : (cutS z (some (j : Int)) none).length ≤ z.length - j := by
  show (List.toArray _).size ≤ _
  rw [List.size_toArray, List.length_take, List.length_drop, HT.sIx_nat]
  have : z.cps.toList.length = z.length := Array.length_toList
  omega
section
variable {P : Program} {w : World} {K : PySem.W.Frag} {mg : Str → Option Value} {base : Heap}
/-! ### _law_great -/
def spGreat : Sp := fun vs H Q _ => ∃ (L S : Addr) (T : Int), vs = [.ref L] ∧ Feed H L S T ∧ T < 2 ^ 39 ∧
  ∀ (H' : Hp) (v : Int), But L H H' → Feed H' L S (T + 50) → v.natAbs < 2 ^ 700 → Q (.int v) H'
theorem ok_great {f fR : Addr} {fd fdR : FuncData} (F : Fun K "_law_great" "_law_great" sGreat f fd) (GR : FnOk P w K mg base CX0 1 fR fdR ["_law_feed_here", "_law_many"] spDraw) (kR : PySem.W.keepIn K (.ref fR) = true)
    (bR : Binds K fdR ["_law_feed_here", "_law_many"] []) (gR : mg "_law_draw" = some (.ref fR)) (m_range : mg "range" = none) : FnOk P w K mg base CX0 2 f fd ["_law_feed_here"] spGreat := by
  refine F.ok scGreat (fun vs H Q E h => ?_) (fun cdv A outer s H vs Q E hr h => ?_)
  · obtain ⟨L, S, T, rfl, _⟩ := h
    rfl
  · obtain ⟨L, S, T, rfl, hF, hT, q⟩ := h
    refine ⟨_, (pss_cons (ps_set (i := 1) scGreat.nd rfl (.inl rfl) (pe_call GR (hr.mono (by decide)) (by rfl) gR kR bR .nil pass0 (pa_cons (pv 0) (pa_cons pe_int pa_nil))))
      (pss_cons (ps_for PassesOwn.never rfl (pi_range1 (by rfl) m_range (pa_cons (pe_ifExp (pt_cmpR op_eq (pe_call GR (hr.mono (by decide)) (by rfl) gR kR bR .nil pass0 (pa_cons (pv 0) (pa_cons pe_int pa_nil))) pe_int (nomark _)) (pe_call GR (hr.mono (by decide)) (by rfl) gR kR bR .nil pass0 (pa_cons (pv 0) (pa_cons pe_int pa_nil))) pe_int) pa_nil)) (pg_name (i := 2) scGreat.nd rfl (.inl rfl)) (pss_one (ps_set (i := 1) scGreat.nd rfl (.inl rfl) (pe_op op_add (pe_op op_mul (pv 1) (pe_op op_pow pe_int pe_int)) (pe_call GR (hr.mono (by decide)) (by rfl) gR kR bR .nil pass0 (pa_cons (pv 0) (pa_cons (pe_op op_pow pe_int pe_int) pa_nil)))))))
      (pss_one (ps_ret (pe_ifExp (pt_cmpR op_eq (pe_call GR (hr.mono (by decide)) (by rfl) gR kR bR .nil pass0 (pa_cons (pv 0) (pa_cons pe_int pa_nil))) pe_int (nomark _)) (pe_un un_neg (pv 1)) (pv 1)))))), ?_⟩
    refine ⟨_, rfl, L, S, 100, T, rfl, by decide, by decide, hF, by omega, fun H1 v1 k1 f1 l1 u1 => ?_⟩
    refine ⟨_, rfl, L, S, 3, _, rfl, by decide, by decide, f1, by omega, fun H2 v2 k2 f2 l2 u2 => ⟨rfl, _, rfl, ite2 (fun c => ?_) (fun c => ?_)⟩⟩
    · refine ⟨_, rfl, L, S, 33, _, rfl, by decide, by decide, f2, by omega, fun H3 n k3 f3 l3 u3 => ⟨n, rfl, by omega, by omega, ?_⟩⟩
      refine for_range (lo := 0) (n := n.toNat) (fun i σ H4 => ∃ (y : Option V) (t : Int), σ = [some (.ref L), some (.int t), y] ∧ But L H H4 ∧ Feed H4 L S (T + 3 + i) ∧ 0 ≤ t ∧ t < 2 ^ (7 + 20 * i))
        ⟨_, _, rfl, (k1.trans k2).trans k3, f3.mono (by omega), l1, by show v1 < 128; omega⟩ ?_ ?_
      · rintro i σ H4 hi ⟨y, t, rfl, k4, f4, t0, t1⟩
        refine ⟨_, rfl, _, _, rfl, rfl, ⟨by decide, by decide, by decide⟩, _, _, rfl, rfl, .inr ⟨by decide, by decide⟩, ?_⟩
        refine ⟨_, rfl, _, _, rfl, rfl, ⟨by decide, by decide, by decide⟩, L, S, _, _, rfl, by decide, by decide, f4, by omega, fun H5 v5 k5 f5 l5 u5 => ⟨_, _, rfl, rfl, ?_⟩⟩
        have e6 : (10 : Int) ^ Int.toNat 6 = 1000000 := by decide
        rw [e6] at u5
        refine ⟨_, t * 10 ^ Int.toNat 6 + v5, rfl, k4.trans k5, f5.mono (by omega), ?_, ?_⟩
        · rw [e6]
          omega
        · rw [e6]
          have e : (2 : Int) ^ (7 + 20 * (i + 1)) = 2 ^ (7 + 20 * i) * 1048576 := by
            rw [show 7 + 20 * (i + 1) = (7 + 20 * i) + 20 by omega, Int.pow_add]
            rfl
          rw [e]
          omega
      · rintro σ H4 ⟨y, t, rfl, k4, f4, t0, t1⟩
        have hb : t.natAbs < 2 ^ 700 := by
          have h1 : t.toNat < 2 ^ (7 + 20 * n.toNat) := by
            have h2 : ((t.toNat : Nat) : Int) < ((2 ^ (7 + 20 * n.toNat) : Nat) : Int) := by
              rw [Int.toNat_of_nonneg t0]
              push_cast
              exact t1
            omega
          have h3 : 2 ^ (7 + 20 * n.toNat) ≤ 2 ^ 700 := Nat.pow_le_pow_right (by decide) (by omega)
          have h4 : t.natAbs = t.toNat := by omega
          rw [h4]
          exact Nat.lt_of_lt_of_le h1 h3
        refine ⟨_, rfl, L, S, 2, _, rfl, by decide, by decide, f4, by omega, fun H5 v5 k5 f5 l5 u5 => ⟨rfl, _, rfl, ite2 (fun c => ?_) (fun c => ?_)⟩⟩
        · refine ⟨_, rfl, t, rfl, q H5 _ (k4.trans k5) (f5.mono (by omega)) ?_⟩
          rw [Int.natAbs_neg]
          exact hb
        · exact ⟨_, rfl, q H5 _ (k4.trans k5) (f5.mono (by omega)) hb⟩
    · have k3 := But.refl L H2
      have f3 := f2.mono (show T + 1 + 1 ≤ T + 1 + 1 + 1 by omega)
      refine ⟨0, rfl, by omega, by omega, ?_⟩
      refine for_range (lo := 0) (n := (0 : Int).toNat) (fun i σ H4 => ∃ (y : Option V) (t : Int), σ = [some (.ref L), some (.int t), y] ∧ But L H H4 ∧ Feed H4 L S (T + 3 + i) ∧ 0 ≤ t ∧ t < 2 ^ (7 + 20 * i))
        ⟨_, _, rfl, (k1.trans k2).trans k3, f3.mono (by omega), l1, by show v1 < 128; omega⟩ ?_ ?_
      · rintro i σ H4 hi ⟨y, t, rfl, k4, f4, t0, t1⟩
        refine ⟨_, rfl, _, _, rfl, rfl, ⟨by decide, by decide, by decide⟩, _, _, rfl, rfl, .inr ⟨by decide, by decide⟩, ?_⟩
        refine ⟨_, rfl, _, _, rfl, rfl, ⟨by decide, by decide, by decide⟩, L, S, _, _, rfl, by decide, by decide, f4, by omega, fun H5 v5 k5 f5 l5 u5 => ⟨_, _, rfl, rfl, ?_⟩⟩
        have e6 : (10 : Int) ^ Int.toNat 6 = 1000000 := by decide
        rw [e6] at u5
        refine ⟨_, t * 10 ^ Int.toNat 6 + v5, rfl, k4.trans k5, f5.mono (by omega), ?_, ?_⟩
        · rw [e6]
          omega
        · rw [e6]
          have e : (2 : Int) ^ (7 + 20 * (i + 1)) = 2 ^ (7 + 20 * i) * 1048576 := by
            rw [show 7 + 20 * (i + 1) = (7 + 20 * i) + 20 by omega, Int.pow_add]
            rfl
          rw [e]
          omega
      · rintro σ H4 ⟨y, t, rfl, k4, f4, t0, t1⟩
        have hb : t.natAbs < 2 ^ 700 := by
          have h1 : t.toNat < 2 ^ (7 + 20 * (0 : Int).toNat) := by
            have h2 : ((t.toNat : Nat) : Int) < ((2 ^ (7 + 20 * (0 : Int).toNat) : Nat) : Int) := by
              rw [Int.toNat_of_nonneg t0]
              push_cast
              exact t1
            omega
          have h3 : 2 ^ (7 + 20 * (0 : Int).toNat) ≤ 2 ^ 700 := Nat.pow_le_pow_right (by decide) (by omega)
          have h4 : t.natAbs = t.toNat := by omega
          rw [h4]
          exact Nat.lt_of_lt_of_le h1 h3
        refine ⟨_, rfl, L, S, 2, _, rfl, by decide, by decide, f4, by omega, fun H5 v5 k5 f5 l5 u5 => ⟨rfl, _, rfl, ite2 (fun c => ?_) (fun c => ?_)⟩⟩
        · refine ⟨_, rfl, t, rfl, q H5 _ (k4.trans k5) (f5.mono (by omega)) ?_⟩
          rw [Int.natAbs_neg]
          exact hb
        · exact ⟨_, rfl, q H5 _ (k4.trans k5) (f5.mono (by omega)) hb⟩

/-! ### _law_spoilt -/
def spSpoilt : Sp := fun vs H Q _ => ∃ (L S : Addr) (T : Int) (z : Str), vs = [.ref L, .str z] ∧ Feed H L S T ∧ T < 2 ^ 39 ∧ asc z ∧ 1 ≤ z.length ∧ z.length ≤ 1000 ∧
  ∀ (H' : Hp) (y : Str), But L H H' → Feed H' L S (T + 3) → asc y → y.length ≤ z.length + 1 → Q (.str y) H'
theorem ok_spoilt {f fR : Addr} {fd fdR : FuncData} (F : Fun K "_law_spoilt" "_law_spoilt" sSpoilt f fd) (GR : FnOk P w K mg base CX0 1 fR fdR ["_law_feed_here", "_law_many"] spDraw) (kR : PySem.W.keepIn K (.ref fR) = true)
    (bR : Binds K fdR ["_law_feed_here", "_law_many"] []) (gR : mg "_law_draw" = some (.ref fR)) (m_len : mg "len" = none) : FnOk P w K mg base CX0 2 f fd ["_law_feed_here", "_law_word_here"] spSpoilt := by
  refine F.ok scSpoilt (fun vs H Q E h => ?_) (fun cdv A outer s H vs Q E hr h => ?_)
  · obtain ⟨L, S, T, z, rfl, _⟩ := h
    rfl
  · obtain ⟨L, S, T, z, rfl, hF, hT, az, z1, z2, q⟩ := h
    have zs : z.length ≤ sizeLine := by rw [sizeLine_eq]; omega
    have sg1 := signs_len.1
    have sg2 := signs_len.2
    refine ⟨_, (pss_cons (ps_set (i := 2) scSpoilt.nd rfl (.inl rfl) pe_str)
      (pss_cons (ps_set (i := 3) scSpoilt.nd rfl (.inl rfl) (pe_call GR (hr.mono (by decide)) (by rfl) gR kR bR .nil pass0 (pa_cons (pv 0) (pa_cons (pe_callB call_len_str (by rfl) m_len (by decide +kernel) (pa_cons (pv 1) pa_nil)) pa_nil))))
      (pss_cons (ps_set (i := 4) scSpoilt.nd rfl (.inl rfl) (pe_ix ix_str (pv 2) (pe_call GR (hr.mono (by decide)) (by rfl) gR kR bR .nil pass0 (pa_cons (pv 0) (pa_cons (pe_callB call_len_str (by rfl) m_len (by decide +kernel) (pa_cons (pv 2) pa_nil)) pa_nil))) (fun _ _ => rfl)))
      (pss_cons (ps_set (i := 5) scSpoilt.nd rfl (.inl rfl) (pe_call GR (hr.mono (by decide)) (by rfl) gR kR bR .nil pass0 (pa_cons (pv 0) (pa_cons pe_int pa_nil))))
      (pss_one (ps_ret (pe_op op_add_str (pe_op op_add_str (pe_slice sl_str (pv 1) po_none (po_some (pv 3))) (pe_ifExp (pt_cmpR op_eq (pv 5) pe_int (nomark _)) pe_str (pv 4))) (pe_slice sl_str (pv 1) (po_some (pe_op op_add (pv 3) (pe_ifExp (pt_cmpR op_eq (pv 5) pe_int (nomark _)) pe_int pe_int))) po_none)))))))), ?_⟩
    refine ⟨_, rfl, _, rfl, z, rfl, zs, L, S, _, T, rfl, by omega, by omega, hF, by omega, fun H1 v1 k1 f1 l1 u1 => ?_⟩
    refine ⟨.str signs, rfl, _, rfl, .str signs, rfl, signs, rfl, by rw [sizeLine_eq]; omega, L, S, _, _, rfl, by omega, by omega, f1, by omega, fun H2 v2 k2 f2 l2 u2 => ?_⟩
    obtain ⟨c2, hc2⟩ := at_some (z := signs) l2 u2
    refine ⟨signs, v2, c2, rfl, rfl, by rw [sizeLine_eq]; omega, hc2, ?_⟩
    have a2 := asc_one signs_asc hc2
    refine ⟨_, rfl, L, S, 3, _, rfl, by decide, by decide, f2, by omega, fun H3 v3 k3 f3 l3 u3 => ?_⟩
    obtain ⟨j, rfl⟩ : ∃ j : Nat, v1 = (j : Int) := ⟨v1.toNat, by omega⟩
    refine ⟨_, rfl, _, rfl, (j : Int), rfl, z, rfl, zs, ?_⟩
    have h1 := cut_hi z j
    have fin : ∀ (m : Str) (k : Nat), asc m → m.length ≤ 1 → j ≤ k → k ≤ j + 1 → ∃ i j', V.str (cutS z none (some (j : Int)) ++ m) = .str i ∧ V.str (cutS z (some (k : Int)) none) = .str j' ∧ i.length + j'.length ≤ sizeLine ∧ Q (.str (i ++ j')) H3 := fun m k am lm k1' k2' => by
      have h2 := cut_lo z k
      refine ⟨_, _, rfl, rfl, ?_, ?_⟩
      · rw [app_len, sizeLine_eq]
        omega
      · refine q H3 _ ((k1.trans k2).trans k3) (f3.mono (by omega)) (asc_app (asc_app (asc_cut az _ _) am) (asc_cut az _ _)) ?_
        rw [app_len, app_len]
        omega
    have ms : ∀ m : Str, m.length ≤ 1 → (cutS z none (some (j : Int))).length + m.length ≤ sizeLine := fun m lm => by
      rw [sizeLine_eq]
      omega
    have ka : ((j : Int) + 0) = ((j : Nat) : Int) := by omega
    have kb : ((j : Int) + 1) = ((j + 1 : Nat) : Int) := by omega
    refine ⟨_, rfl, rfl, _, rfl, ite2 (fun c => ?_) (fun c => ?_)⟩
    · refine ⟨_, _, rfl, rfl, ms _ (by decide), ?_⟩
      refine ⟨_, rfl, _, rfl, _, rfl, rfl, _, rfl, ite2 (fun c => ?_) (fun c => ?_)⟩
      · refine ⟨_, _, rfl, rfl, _, rfl, z, rfl, zs, ?_⟩
        have := fin "" j (fun _ h => by cases h) (by decide) (by omega) (by omega)
        rw [← ka] at this
        exact this
      · refine ⟨_, _, rfl, rfl, _, rfl, z, rfl, zs, ?_⟩
        have := fin "" (j + 1) (fun _ h => by cases h) (by decide) (by omega) (by omega)
        rw [← kb] at this
        exact this
    · refine ⟨_, rfl, _, _, rfl, rfl, ms _ (Nat.le_refl _), ?_⟩
      refine ⟨_, rfl, _, rfl, _, rfl, rfl, _, rfl, ite2 (fun c => ?_) (fun c => ?_)⟩
      · refine ⟨_, _, rfl, rfl, _, rfl, z, rfl, zs, ?_⟩
        have := fin ⟨#[c2]⟩ j a2 (Nat.le_refl _) (by omega) (by omega)
        rw [← ka] at this
        exact this
      · refine ⟨_, _, rfl, rfl, _, rfl, z, rfl, zs, ?_⟩
        have := fin ⟨#[c2]⟩ (j + 1) a2 (Nat.le_refl _) (by omega) (by omega)
        rw [← kb] at this
        exact this
end
end K01

set_option Elab.async false
set_option linter.all false
set_option maxRecDepth 100000
set_option maxHeartbeats 2000000
namespace K01
open PySem PySem.Spec PyProof.Rows L2 TB

theorem scOdd : FnScope ["_law_small"] [] (defScope sOdd) := ⟨rfl, rfl, rfl, by decide +kernel, rfl, by decide +kernel, by decide +kernel⟩
theorem scFixed : FnScope ["_law_great_here"] [] (defScope sFixed) := ⟨rfl, rfl, rfl, by decide +kernel, rfl, by decide +kernel, by decide +kernel⟩
/-! ### heaps without some places; what is new -/
def hid (F : List Addr) (H : Hp) : Hp := fun b => if b ∈ F then none else H b
theorem hid_at {F : List Addr} {H : Hp} {b : Addr} (n : b ∉ F) : hid F H b = H b := if_neg n
theorem hid_sub {F : List Addr} {H : Hp} : Same (hid F H) H := fun b o e => by
  unfold hid at e
  by_cases h : b ∈ F
  · rw [if_pos h] at e
    cases e
  · rw [if_neg h] at e
    exact e
theorem hid_mono {F : List Addr} {H H' : Hp} (k : ∀ b o, b ∉ F → H b = some o → H' b = some o) : Same (hid F H) (hid F H') := fun b o e => by
  unfold hid at e
  by_cases h : b ∈ F
  · rw [if_pos h] at e
    cases e
  · rw [if_neg h] at e
    rw [hid_at h]
    exact k b o h e
def newer (H H' : Hp) : Hp := fun b => if H b = none then H' b else none
theorem newer_at {H H' : Hp} {b : Addr} {o : HO} (n : H b = none) (e : H' b = some o) : newer H H' b = some o := by
  unfold newer
  rw [if_pos n]
  exact e
theorem newer_hid {F : List Addr} {H H' H2 : Hp} (hF : ∀ f ∈ F, H f ≠ none ∨ H' f = none) (k : Same H' H2) : Same (newer H H') (hid F H2) := fun b o e => by
  unfold newer at e
  by_cases h : H b = none
  · rw [if_pos h] at e
    have nF : b ∉ F := fun z => by
      rcases hF b z with q | q
      · exact q h
      · rw [q] at e
        cases e
    rw [hid_at nF]
    exact k b o e
  · rw [if_neg h] at e
    cases e

/-! ### things that may be shown -/
theorem sh_big {i : Int} (h : i.natAbs < 2 ^ 1900) : Sh 0 1921 (.int i) := by
  have hl : i.natAbs.log2 < 1920 := by
    by_cases h0 : i.natAbs = 0
    · rw [h0]; decide
    · exact (Nat.log2_lt h0).2 (Nat.lt_of_lt_of_le h (Nat.pow_le_pow_right (by decide) (by decide)))
  refine ⟨by simp only [PyData.showable, decide_eq_true_eq]; exact hl, by simp only [PyData.hasDict], by simp [PyData.depth], ?_⟩
  simp only [PyData.shown]
  exact int_text_len_1921 hl
theorem sh_txt {z : Str} (a : asc z) : Sh 0 (10 * z.length + 2) (.str z) := by
  refine ⟨rfl, rfl, by simp [PyData.depth], ?_⟩
  simp only [PyData.shown]
  exact StrLaws.reprText_len z fun c hc => Nat.lt_of_lt_of_le (a c hc) (by decide)
structure OkD (d : PyData) : Prop where
  ft : fitT d
  sh : Sh 4 40000 d
theorem okInt {i : Int} (h : i.natAbs < 2 ^ 1900) : OkD (.int i) := ⟨trivial, (sh_big h).mono (by omega) (by omega)⟩
theorem okStr {z : Str} (a : asc z) (h : z.length ≤ 3000) : OkD (.str z) := ⟨⟨h, a⟩, (sh_txt a).mono (by omega) (by omega)⟩
theorem okSmall {d : PyData} (ft : fitT d) (h : (d.showable && !d.hasDict && decide (d.depth ≤ 4) && decide (d.shown.length ≤ 40000)) = true) : OkD d := by
  simp only [Bool.and_eq_true, decide_eq_true_eq, Bool.not_eq_true'] at h
  exact ⟨ft, ⟨h.1.1.1, h.1.1.2, h.1.2, h.2⟩⟩
def big1 : Int := 10 ^ Int.toNat 64 * 10 ^ Int.toNat 64 * 10 ^ Int.toNat 64
def big2 : Int := 10 ^ Int.toNat 64 * 10 ^ Int.toNat 64 * 10 ^ Int.toNat 64 * 10 ^ Int.toNat 7
def dOdd : List PyData := [.none, .bool true, .bool false, .str "", .str "a", .str "A", .int 0, .int 1, .int 2, .int 4, .int (-1), .tuple [], .list [], .tuple [.list [.int 1], .str "a"], .tuple [.str "a", .int 1], .tuple [.str "a"],
  .int big2, .str "abcdefgh", .str "abcdefghi", .str "a b", .tuple [.int 0], .tuple [.int 1, .int 1]]
section
variable {P : Program} {w : World} {K : PySem.W.Frag} {mg : Str → Option Value} {base : Heap}
def spOdd (K : PySem.W.Frag) : Sp := fun vs H Q _ => vs = [] ∧ ∀ (H' : Hp) (v : V), Same H H' → Dp K (newer H H') v (.tuple dOdd) → Q v H'
theorem ok_odd {f : Addr} {fd : FuncData} {k : Nat} (F : Fun K "_law_odd" "_law_odd" sOdd f fd) : FnOk P w K mg base CX0 (k + 1) f fd [] (spOdd K) := by
  refine F.ok scOdd (fun vs H Q E h => ?_) (fun cdv A outer s H vs Q E hr h => ?_)
  · obtain ⟨rfl, _⟩ := h
    rfl
  · obtain ⟨rfl, q⟩ := h
    refine ⟨_, (pss_cons (ps_set (i := 0) scOdd.nd rfl (.inl rfl) (pe_tup (pa_cons pe_non (pa_cons pe_bl (pa_cons pe_bl (pa_cons pe_str (pa_cons pe_str (pa_cons pe_str (pa_cons pe_int (pa_cons pe_int (pa_cons pe_int (pa_cons pe_int (pa_cons (pe_un un_neg pe_int) (pa_cons (pe_tup pa_nil) (pa_cons (pe_lst pa_nil) (pa_cons (pe_tup (pa_cons (pe_lst (pa_cons pe_int pa_nil)) (pa_cons pe_str pa_nil))) (pa_cons (pe_tup (pa_cons pe_str (pa_cons pe_int pa_nil))) (pa_cons (pe_tup (pa_cons pe_str pa_nil)) pa_nil))))))))))))))))))
      (pss_one (ps_ret (pe_op op_catT (pv 0) (pe_tup (pa_cons (pe_op op_mulW (pe_op op_mulW (pe_op op_mulW (pe_op op_pow pe_int pe_int) (pe_op op_pow pe_int pe_int)) (pe_op op_pow pe_int pe_int)) (pe_op op_pow pe_int pe_int)) (pa_cons pe_str (pa_cons pe_str (pa_cons pe_str (pa_cons (pe_tup (pa_cons pe_int pa_nil)) (pa_cons (pe_tup (pa_cons pe_int (pa_cons pe_int pa_nil))) pa_nil))))))))))), ?_⟩
    refine ⟨1, rfl, Nat.zero_le _, fun p1 n1 => ⟨Nat.zero_le _, fun p2 n2 => ⟨by show (1 : Nat) ≤ sizeLine; decide, fun p3 n3 => ⟨by show (2 : Nat) ≤ sizeLine; decide, fun p4 n4 => ⟨by show (2 : Nat) ≤ sizeLine; decide, fun p5 n5 => ⟨by show (1 : Nat) ≤ sizeLine; decide, fun p6 n6 => ⟨by show (16 : Nat) ≤ sizeLine; decide, fun p7 n7 => ?_⟩⟩⟩⟩⟩⟩⟩
    refine ⟨_, rfl, _, _, rfl, rfl, ⟨by decide, by decide, by decide⟩, _, _, rfl, rfl, ⟨by decide, by decide, by decide⟩, _, _, rfl, rfl, (by unfold CMulW; decide +kernel), _, _, rfl, rfl, ⟨by decide, by decide, by decide⟩, _, _, rfl, rfl, (by unfold CMulW; decide +kernel), _, _, rfl, rfl, ⟨by decide, by decide, by decide⟩, _, _, rfl, rfl, (by unfold CMulW; decide +kernel), ?_⟩
    refine ⟨by show (1 : Nat) ≤ sizeLine; decide, fun p8 n8 => ⟨by show (2 : Nat) ≤ sizeLine; decide, fun p9 n9 => ⟨by show (6 : Nat) ≤ sizeLine; decide, fun p10 n10 => ?_⟩⟩⟩
    have s1 := same_upd (o := .tup []) n1
    have s2 := same_upd (o := .lst []) n2
    have s3 := same_upd (o := .lst [.int 1]) n3
    have s4 := same_upd (o := .tup [.ref p3, .str "a"]) n4
    have s5 := same_upd (o := .tup [.str "a", .int 1]) n5
    have s6 := same_upd (o := .tup [.str "a"]) n6
    have s7 := same_upd (o := .tup [.non, .bl true, .bl false, .str "", .str "a", .str "A", .int 0, .int 1, .int 2, .int 4, .int (-1), .ref p1, .ref p2, .ref p4, .ref p5, .ref p6]) n7
    have s8 := same_upd (o := .tup [.int 0]) n8
    have s9 := same_upd (o := .tup [.int 1, .int 1]) n9
    have s10 := same_upd (o := .tup [.int big2, .str "abcdefgh", .str "abcdefghi", .str "a b", .ref p8, .ref p9]) n10
    have z2 := s1.free n2
    have z3 := (s1.trans s2).free n3
    have z4 := (s1.trans (s2.trans s3)).free n4
    have z5 := (s1.trans (s2.trans (s3.trans s4))).free n5
    have z6 := (s1.trans (s2.trans (s3.trans (s4.trans s5)))).free n6
    have t7 := s1.trans (s2.trans (s3.trans (s4.trans (s5.trans s6))))
    have t8 := t7.trans s7
    have z8 := t8.free n8
    have z9 := (t8.trans s8).free n9
    have t10 := t8.trans (s8.trans s9)
    refine ⟨p7, p10, _, _, rfl, rfl, .inl (.inl ((s8.trans (s9.trans s10)) _ _ upd_same)), .inl (.inl upd_same), (fun z => nomatch z), by show (22 : Nat) ≤ sizeLine; decide, (fun z => nomatch z), fun _ p np => ?_⟩
    have s11 := same_upd (o := .tup ([.non, .bl true, .bl false, .str "", .str "a", .str "A", .int 0, .int 1, .int 2, .int 4, .int (-1), .ref p1, .ref p2, .ref p4, .ref p5, .ref p6] ++ [.int big2, .str "abcdefgh", .str "abcdefghi", .str "a b", .ref p8, .ref p9])) np
    have t11 := t10.trans s10
    refine q _ _ (t11.trans s11) ?_
    have r9 := s10.trans s11
    have r8 := s9.trans r9
    have r6 := s7.trans (s8.trans r8)
    have r5 := s6.trans r6
    have r4 := s5.trans r5
    have r3 := s4.trans r4
    have r2 := s3.trans r3
    have r1 := s2.trans r2
    refine .tup (.inl (.inl (newer_at (t11.free np) upd_same))) ?_
    refine .cons .non (.cons (.bl _) (.cons (.bl _) (.cons (.str _) (.cons (.str _) (.cons (.str _) (.cons (.int _) (.cons (.int _) (.cons (.int _) (.cons (.int _) (.cons (.int _) ?_))))))))))
    refine .cons (.tup (.inl (.inl (newer_at n1 (r1 _ _ upd_same)))) .nil) (.cons (.lst (.inl (.inl (newer_at z2 (r2 _ _ upd_same)))) .nil) ?_)
    refine .cons (.tup (.inl (.inl (newer_at z4 (r4 _ _ upd_same)))) (.cons (.lst (.inl (.inl (newer_at z3 (r3 _ _ upd_same)))) (.cons (.int _) .nil)) (.cons (.str _) .nil))) ?_
    refine .cons (.tup (.inl (.inl (newer_at z5 (r5 _ _ upd_same)))) (.cons (.str _) (.cons (.int _) .nil))) (.cons (.tup (.inl (.inl (newer_at z6 (r6 _ _ upd_same)))) (.cons (.str _) .nil)) ?_)
    refine .cons (.int _) (.cons (.str _) (.cons (.str _) (.cons (.str _) ?_)))
    exact .cons (.tup (.inl (.inl (newer_at z8 (r8 _ _ upd_same)))) (.cons (.int _) .nil)) (.cons (.tup (.inl (.inl (newer_at z9 (r9 _ _ upd_same)))) (.cons (.int _) (.cons (.int _) .nil))) .nil)
end
end K01

set_option Elab.async false
set_option linter.all false
set_option maxRecDepth 100000
set_option maxHeartbeats 2000000
namespace K01
open PySem PySem.Spec PyProof.Rows L2 TB

theorem scBend : FnScope ["_law_feed_here", "_law_thing", "_law_odd_here", "_law_at", "_law_way"] ["_law_feed_here", "_law_thing", "_law_odd_here"] (defScope sBend) := ⟨rfl, rfl, rfl, by decide +kernel, rfl, by decide +kernel, by decide +kernel⟩
def chk : PyData → Bool
  | .str z => z.cps.toList.all (fun c => decide (c < 128)) && decide (z.length ≤ 3000)
  | .int i => decide (i.natAbs < 2 ^ 1900)
  | d => d.showable && !d.hasDict && decide (d.depth ≤ 4) && decide (d.shown.length ≤ 40000)
theorem chk_ok : ∀ d : PyData, chk d = true → OkD d
  | .str z, h => by
    have h' : (z.cps.toList.all (fun c => decide (c < 128)) && decide (z.length ≤ 3000)) = true := h
    rw [Bool.and_eq_true] at h'
    exact okStr (fun c hc => of_decide_eq_true (List.all_eq_true.mp h'.1 c hc)) (of_decide_eq_true h'.2)
  | .int i, h => okInt (of_decide_eq_true h)
  | .none, h => okSmall trivial h
  | .bool _, h => okSmall trivial h
  | .list _, h => okSmall trivial h
  | .tuple _, h => okSmall trivial h
  | .dict _, h => okSmall trivial h
theorem odd_ok : ∀ d ∈ dOdd, OkD d := fun d hd => chk_ok d (List.all_eq_true.mp (show dOdd.all chk = true by decide +kernel) d hd)
def dFixed : List PyData := [.int 0, .int 1, .int (-1), .int 4, .int big1, .int (-big1), .bool true, .bool false, .none, .str "", .str "a", .str "z", .str "0", .str "a0", .str "A", .str "aB", .str "`", .str "{", .str "a{", .str "`a", .str " ", .str "a b", .str " a", .str "a ", .str "a-", .str "abcdefgh", .str "abcdefghi", .str "zzzzzzzz", .str "zzzzzzzzz",
  .tuple [], .list [], .tuple [.str "a"], .list [.str "a"], .tuple [.int 1], .list [.int 1], .tuple [.tuple []], .str "None", .str "1", .tuple [.str "a", .int 1], .list [.list []]]
theorem fixed_ok : ∀ d ∈ dFixed, OkD d := fun d hd => chk_ok d (List.all_eq_true.mp (show dFixed.all chk = true by decide +kernel) d hd)
section
variable {P : Program} {w : World} {K : PySem.W.Frag} {mg : Str → Option Value} {base : Heap}
def spFixed (K : PySem.W.Frag) : Sp := fun vs H Q _ => vs = [] ∧ ∀ (H0 : Hp) (W : Addr) (us : List V), Same H H0 → H0 W = none → DpAll K (newer H H0) us dFixed → Q (.ref W) (upd H0 W (.lst us))
theorem ok_fixed {f : Addr} {fd : FuncData} {k : Nat} (F : Fun K "_law_fixed" "_law_fixed" sFixed f fd) : FnOk P w K mg base CX0 (k + 1) f fd [] (spFixed K) := by
  refine F.ok scFixed (fun vs H Q E h => ?_) (fun cdv A outer s H vs Q E hr h => ?_)
  · obtain ⟨rfl, _⟩ := h
    rfl
  · obtain ⟨rfl, q⟩ := h
    refine ⟨_, (pss_cons (ps_set (i := 0) scFixed.nd rfl (.inl rfl) (pe_op op_mulW (pe_op op_mulW (pe_op op_pow pe_int pe_int) (pe_op op_pow pe_int pe_int)) (pe_op op_pow pe_int pe_int)))
      (pss_one (ps_ret (pe_lst (pa_cons pe_int (pa_cons pe_int (pa_cons (pe_un un_neg pe_int) (pa_cons pe_int (pa_cons (pv 0) (pa_cons (pe_un un_neg (pv 0)) (pa_cons pe_bl (pa_cons pe_bl (pa_cons pe_non (pa_cons pe_str (pa_cons pe_str (pa_cons pe_str (pa_cons pe_str (pa_cons pe_str (pa_cons pe_str (pa_cons pe_str (pa_cons pe_str (pa_cons pe_str (pa_cons pe_str (pa_cons pe_str (pa_cons pe_str (pa_cons pe_str (pa_cons pe_str (pa_cons pe_str (pa_cons pe_str (pa_cons pe_str (pa_cons pe_str (pa_cons pe_str (pa_cons pe_str (pa_cons (pe_tup pa_nil) (pa_cons (pe_lst pa_nil) (pa_cons (pe_tup (pa_cons pe_str pa_nil)) (pa_cons (pe_lst (pa_cons pe_str pa_nil)) (pa_cons (pe_tup (pa_cons pe_int pa_nil)) (pa_cons (pe_lst (pa_cons pe_int pa_nil)) (pa_cons (pe_tup (pa_cons (pe_tup pa_nil) pa_nil)) (pa_cons pe_str (pa_cons pe_str (pa_cons (pe_tup (pa_cons pe_str (pa_cons pe_int pa_nil))) (pa_cons (pe_lst (pa_cons (pe_lst pa_nil) pa_nil)) pa_nil)))))))))))))))))))))))))))))))))))))))))))), ?_⟩
    refine ⟨_, _, rfl, rfl, ⟨by decide, by decide, by decide⟩, _, _, rfl, rfl, ⟨by decide, by decide, by decide⟩, _, _, rfl, rfl, (by unfold CMulW; decide +kernel), _, _, rfl, rfl, ⟨by decide, by decide, by decide⟩, _, _, rfl, rfl, (by unfold CMulW; decide +kernel), ?_⟩
    refine ⟨1, rfl, .int big1, rfl, .int big1, rfl, big1, rfl, ?_⟩
    refine ⟨Nat.zero_le _, fun p1 n1 => ⟨Nat.zero_le _, fun p2 n2 => ⟨by show (1 : Nat) ≤ sizeLine; decide, fun p3 n3 => ⟨by show (1 : Nat) ≤ sizeLine; decide, fun p4 n4 => ⟨by show (1 : Nat) ≤ sizeLine; decide, fun p5 n5 => ⟨by show (1 : Nat) ≤ sizeLine; decide, fun p6 n6 => ⟨Nat.zero_le _, fun p7 n7 => ⟨by show (1 : Nat) ≤ sizeLine; decide, fun p8 n8 => ⟨by show (2 : Nat) ≤ sizeLine; decide, fun p9 n9 => ⟨Nat.zero_le _, fun p10 n10 => ⟨by show (1 : Nat) ≤ sizeLine; decide, fun p11 n11 => ⟨by show (40 : Nat) ≤ sizeLine; decide, fun W nW => ?_⟩⟩⟩⟩⟩⟩⟩⟩⟩⟩⟩⟩
    have s1 := same_upd (o := .tup []) n1
    have s2 := same_upd (o := .lst []) n2
    have s3 := same_upd (o := .tup [.str "a"]) n3
    have s4 := same_upd (o := .lst [.str "a"]) n4
    have s5 := same_upd (o := .tup [.int 1]) n5
    have s6 := same_upd (o := .lst [.int 1]) n6
    have s7 := same_upd (o := .tup []) n7
    have s8 := same_upd (o := .tup [.ref p7]) n8
    have s9 := same_upd (o := .tup [.str "a", .int 1]) n9
    have s10 := same_upd (o := .lst []) n10
    have s11 := same_upd (o := .lst [.ref p10]) n11
    have t2 := s1.trans s2
    have t3 := t2.trans s3
    have t4 := t3.trans s4
    have t5 := t4.trans s5
    have t6 := t5.trans s6
    have t7 := t6.trans s7
    have t8 := t7.trans s8
    have t9 := t8.trans s9
    have t10 := t9.trans s10
    have r10 := s11
    have r9 := s10.trans r10
    have r8 := s9.trans r9
    have r7 := s8.trans r8
    have r6 := s7.trans r7
    have r5 := s6.trans r6
    have r4 := s5.trans r5
    have r3 := s4.trans r4
    have r2 := s3.trans r3
    have r1 := s2.trans r2
    refine q _ W _ (t10.trans s11) nW ?_
    refine .cons (.int _) (.cons (.int _) (.cons (.int _) (.cons (.int _) (.cons (.int _) (.cons (.int _) (.cons (.bl _) (.cons (.bl _) (.cons .non ?_))))))))
    refine .cons (.str _) (.cons (.str _) (.cons (.str _) (.cons (.str _) (.cons (.str _) (.cons (.str _) (.cons (.str _) (.cons (.str _) (.cons (.str _) (.cons (.str _) ?_)))))))))
    refine .cons (.str _) (.cons (.str _) (.cons (.str _) (.cons (.str _) (.cons (.str _) (.cons (.str _) (.cons (.str _) (.cons (.str _) (.cons (.str _) (.cons (.str _) ?_)))))))))
    refine .cons (.tup (.inl (.inl (newer_at n1 (r1 _ _ upd_same)))) .nil) (.cons (.lst (.inl (.inl (newer_at (s1.free n2) (r2 _ _ upd_same)))) .nil) ?_)
    refine .cons (.tup (.inl (.inl (newer_at (t2.free n3) (r3 _ _ upd_same)))) (.cons (.str _) .nil)) (.cons (.lst (.inl (.inl (newer_at (t3.free n4) (r4 _ _ upd_same)))) (.cons (.str _) .nil)) ?_)
    refine .cons (.tup (.inl (.inl (newer_at (t4.free n5) (r5 _ _ upd_same)))) (.cons (.int _) .nil)) (.cons (.lst (.inl (.inl (newer_at (t5.free n6) (r6 _ _ upd_same)))) (.cons (.int _) .nil)) ?_)
    refine .cons (.tup (.inl (.inl (newer_at (t7.free n8) (r8 _ _ upd_same)))) (.cons (.tup (.inl (.inl (newer_at (t6.free n7) (r7 _ _ upd_same)))) .nil) .nil)) ?_
    refine .cons (.str _) (.cons (.str _) ?_)
    exact .cons (.tup (.inl (.inl (newer_at (t8.free n9) (r9 _ _ upd_same)))) (.cons (.str _) (.cons (.int _) .nil))) (.cons (.lst (.inl (.inl (newer_at (t10.free n11) upd_same))) (.cons (.lst (.inl (.inl (newer_at (t9.free n10) (r10 _ _ upd_same)))) .nil) .nil)) .nil)
/-! ### _law_bend -/
def Plain (v : V) : Prop := (∃ i : Int, v = .int i ∧ i.natAbs < 2 ^ 1000) ∨ ∃ z : Str, v = .str z ∧ asc z ∧ z.length ≤ 1000
def spBend (K : PySem.W.Frag) : Sp := fun vs H Q _ => ∃ (L S : Addr) (T : Int) (v ov : V) (F : List Addr), vs = [.ref L, v, ov] ∧ Feed H L S T ∧ T < 2 ^ 39 ∧ Plain v ∧ L ∈ F ∧ (∀ f ∈ F, H f ≠ none) ∧ Dp K (hid F H) ov (.tuple dOdd) ∧
  ∀ (H' : Hp) (r : V) (d : PyData), But L H H' → Feed H' L S (T + 3) → Dp K (hid F H') r d → OkD d → Q r H'
theorem ok_bend {f fR : Addr} {fd fdR : FuncData} (F : Fun K "_law_bend" "_law_bend" sBend f fd) (GR : FnOk P w K mg base CX0 1 fR fdR ["_law_feed_here", "_law_many"] spDraw) (kR : PySem.W.keepIn K (.ref fR) = true)
    (bR : Binds K fdR ["_law_feed_here", "_law_many"] []) (gR : mg "_law_draw" = some (.ref fR)) (m_isinstance : mg "isinstance" = none) (m_tuple : mg "tuple" = none) (m_int : mg "int" = none) (m_str : mg "str" = none) (m_len : mg "len" = none) :
    FnOk P w K mg base CX0 2 f fd ["_law_feed_here", "_law_thing", "_law_odd_here"] (spBend K) := by
  refine F.ok scBend (fun vs H Q E h => ?_) (fun cdv A outer s H vs Q E hr h => ?_)
  · obtain ⟨L, S, T, v, ov, F', rfl, _⟩ := h
    rfl
  · obtain ⟨L, S, T, v, ov, F', rfl, hF, hT, pl, hLF, hFn, dO, q⟩ := h
    refine ⟨_, (pss_cons (ps_if (PW.pt (pw_and (pt_val (pe_callB call_isi (by rfl) m_isinstance (by decide +kernel) (pa_cons (pv 1) (pa_cons (pe_bltn (v := .ty "tuple") (u := .type "tuple") (by rfl) m_tuple (by decide +kernel) rfl) pa_nil)))) (pw_and (pt_cmpR (op_neD hr.units) (pv 1) (pe_tup pa_nil) (nomark _)) (pw_and1 (pt_cmpR op_gt (pe_call GR (hr.mono (by decide)) (by rfl) gR kR bR .nil pass0 (pa_cons (pv 0) (pa_cons pe_int pa_nil))) pe_int (nomark _)))))) (pss_cons ps_never
      (pss_one ps_never)) pss_nil)
      (pss_cons (ps_set (i := 4) scBend.nd rfl (.inl rfl) (pe_call GR (hr.mono (by decide)) (by rfl) gR kR bR .nil pass0 (pa_cons (pv 0) (pa_cons pe_int pa_nil))))
      (pss_cons (ps_if (PW.pt (pw_and (pt_val (pe_callB call_isi (by rfl) m_isinstance (by decide +kernel) (pa_cons (pv 1) (pa_cons (pe_bltn (v := .ty "tuple") (u := .type "tuple") (by rfl) m_tuple (by decide +kernel) rfl) pa_nil)))) (pw_and1 (pt_cmpR op_lt (pv 4) pe_int (nomark _))))) (pss_cons ps_never
      (pss_cons ps_never
      (pss_one ps_never))) pss_nil)
      (pss_cons (ps_if (PW.pt (pw_and (pt_val (pe_callB call_isi (by rfl) m_isinstance (by decide +kernel) (pa_cons (pv 1) (pa_cons (pe_bltn (v := .ty "int") (u := .type "int") (by rfl) m_int (by decide +kernel) rfl) pa_nil)))) (pw_and1 (pt_cmpR op_lt (pv 4) pe_int (nomark _))))) (pss_one (ps_ret (pe_ix ix_tup (pe_tup (pa_cons (pe_op op_add (pv 1) pe_int) (pa_cons (pe_op op_sub (pv 1) pe_int) (pa_cons (pe_un un_neg (pv 1)) (pa_cons (pe_tup (pa_cons (pv 1) pa_nil)) pa_nil))))) (pv 4) (fun _ _ => rfl)))) pss_nil)
      (pss_cons (ps_if (PW.pt (pw_and (pt_val (pe_callB call_isi (by rfl) m_isinstance (by decide +kernel) (pa_cons (pv 1) (pa_cons (pe_bltn (v := .ty "str") (u := .type "str") (by rfl) m_str (by decide +kernel) rfl) pa_nil)))) (pw_and1 (pt_cmpR op_lt (pv 4) pe_int (nomark _))))) (pss_one (ps_ret (pe_ix ix_tup (pe_tup (pa_cons (pe_op op_add_str (pv 1) pe_str) (pa_cons (pe_slice sl_str (pv 1) (po_some pe_int) po_none) (pa_cons (pe_lst (pa_cons (pv 1) pa_nil)) pa_nil)))) (pv 4) (fun _ _ => rfl)))) pss_nil)
      (pss_one (ps_ret (pe_ix ix_tup (pv 2) (pe_call GR (hr.mono (by decide)) (by rfl) gR kR bR .nil pass0 (pa_cons (pv 0) (pa_cons (pe_callB call_len_seq (by rfl) m_len (by decide +kernel) (pa_cons (pv 2) pa_nil)) pa_nil))) (fun _ _ => rfl))))))))), ?_⟩
    obtain ⟨a, xs, rfl, hA, dA⟩ := Dp.tup_inv dO
    have lx : xs.length = 22 := DpAll.len dA
    -- the end: an odd one
    have fresh : ∀ {H1 : Hp} {p : Addr}, But L H H1 → (∃ zs, H1 L = some (.lst zs)) → H1 p = none → p ∉ F' := fun {H1 p} k e n z => by
      obtain ⟨zs, e⟩ := e
      exact hFn p z (k.free e n)
    have hm : ∀ {H1 : Hp}, But L H H1 → Same (hid F' H) (hid F' H1) := fun k => hid_mono fun b o nb e => k b o (fun z => nb (z ▸ hLF)) e
    rcases pl with ⟨i, rfl, hi⟩ | ⟨z, rfl, az, lz⟩
    · refine ⟨_, rfl, .int i, .ty "tuple", _, .type "tuple", false, rfl, .ty _, .base (.int i), kit_ty (by decide +kernel), false, rfl, iteF ?_⟩
      change ite _ _ _
      refine iteF ?_
      refine ⟨_, rfl, L, S, 6, T, rfl, by decide, by decide, hF, by omega, fun H1 w1 k1 f1 l1 u1 => ?_⟩
      show tSeq _ _ _ [some (.ref L), some (.int i), some (.ref a), none, some (.int w1)] _
      refine ⟨_, rfl, .int i, .ty "tuple", _, .type "tuple", false, rfl, .ty _, .base (.int i), kit_ty (by decide +kernel), false, rfl, iteF ?_⟩
      change ite _ _ _
      refine iteF ?_
      refine ⟨_, rfl, .int i, .ty "int", _, .type "int", true, rfl, .ty _, .base (.int i), kit_ty (by decide +kernel), true, rfl, iteT ?_⟩
      refine ⟨_, rfl, _, _, rfl, rfl, _, rfl, ?_⟩
      change ite _ _ _
      refine ite2 (fun c => ?_) (fun c => ?_)
      · have c' : w1 < 4 := of_decide_eq_true c
        refine ⟨_, rfl, _, _, rfl, rfl, _, rfl, _, _, rfl, rfl, _, rfl, i, rfl, _, rfl, by show (1 : Nat) ≤ sizeLine; decide, fun p1 n1 => ⟨by show (4 : Nat) ≤ sizeLine; decide, fun p2 n2 => ?_⟩⟩
        have s1 := same_upd (o := .tup [.int i]) n1
        have s2 := same_upd (o := .tup [.int (i + 1), .int (i - 1), .int (-i), .ref p1]) n2
        have tT : SqT K _ p2 [.int (i + 1), .int (i - 1), .int (-i), .ref p1] := .inl (.inl (upd_same (H := upd H1 p1 (.tup [.int i])) (a := p2)))
        have k3 := k1.same (s1.trans s2)
        have f3 := (f1.same (s1.trans s2)).mono (show T + 1 ≤ T + 3 by omega)
        have b1 : (i + 1).natAbs < 2 ^ 1900 := Nat.lt_of_le_of_lt (show (i + 1).natAbs ≤ 2 ^ 1000 by omega) (Nat.pow_lt_pow_right (by decide) (by decide))
        have b2 : (i - 1).natAbs < 2 ^ 1900 := Nat.lt_of_le_of_lt (show (i - 1).natAbs ≤ 2 ^ 1000 by omega) (Nat.pow_lt_pow_right (by decide) (by decide))
        have b3 : i.natAbs < 2 ^ 1900 := Nat.lt_of_lt_of_le hi (Nat.pow_le_pow_right (by decide) (by decide))
        have c4 : w1 = 0 ∨ w1 = 1 ∨ w1 = 2 ∨ w1 = 3 := by omega
        rcases c4 with rfl | rfl | rfl | rfl
        · exact ⟨_, rfl, p2, _, 0, _, rfl, rfl, tT, atI_nat (j := 0) rfl, q _ _ _ k3 f3 (.int _) (okInt b1)⟩
        · exact ⟨_, rfl, p2, _, 1, _, rfl, rfl, tT, atI_nat (j := 1) rfl, q _ _ _ k3 f3 (.int _) (okInt b2)⟩
        · exact ⟨_, rfl, p2, _, 2, _, rfl, rfl, tT, atI_nat (j := 2) rfl, q _ _ _ k3 f3 (.int _) (okInt (by rw [Int.natAbs_neg]; exact b3))⟩
        · refine ⟨_, rfl, p2, _, 3, _, rfl, rfl, tT, atI_nat (j := 3) rfl, q _ _ (.tuple [.int i]) k3 f3 (.tup (.inl (.inl ?_)) (.cons (.int _) .nil)) ⟨trivial, ?_⟩⟩
          · rw [hid_at (fresh k1 f1.there n1)]
            exact s2 _ _ upd_same
          · refine (sh_tup (k := 0) (n := 1921) fun d hd => ?_).mono (by omega) (by show 1 * 1921 + 2 * 1 + 3 ≤ 40000; decide)
            rw [List.mem_singleton.mp hd]
            exact sh_big b3
      · refine ⟨_, rfl, .int i, .ty "str", _, .type "str", false, rfl, .ty _, .base (.int i), kit_ty (by decide +kernel), false, rfl, iteF ?_⟩
        change ite _ _ _
        refine iteF ?_
        refine ⟨_, rfl, _, rfl, _, rfl, a, _, rfl, .inr (TB.Same.tup ((hm k1).trans hid_sub) hA), L, S, _, _, rfl, by omega, by omega, f1, by omega, fun H2 v2 k2 f2 l2 u2 => ?_⟩
        obtain ⟨j, rfl⟩ : ∃ j : Nat, v2 = (j : Int) := ⟨v2.toNat, by omega⟩
        have hj : j < xs.length := by omega
        have k12 := k1.trans k2
        obtain ⟨d, hd, dx⟩ := DpAll.get dA (List.getElem?_eq_getElem hj)
        refine ⟨a, _, _, _, rfl, rfl, TB.Same.tup ((hm k12).trans hid_sub) hA, atI_nat (List.getElem?_eq_getElem hj), ?_⟩
        exact q H2 _ d k12 (f2.mono (by omega)) (Dp.same (hm k12) _ _ dx) (odd_ok d (List.mem_of_getElem? hd))
    · refine ⟨_, rfl, .str z, .ty "tuple", _, .type "tuple", false, rfl, .ty _, .base (.str z), kit_ty (by decide +kernel), false, rfl, iteF ?_⟩
      change ite _ _ _
      refine iteF ?_
      refine ⟨_, rfl, L, S, 6, T, rfl, by decide, by decide, hF, by omega, fun H1 w1 k1 f1 l1 u1 => ?_⟩
      show tSeq _ _ _ [some (.ref L), some (.str z), some (.ref a), none, some (.int w1)] _
      refine ⟨_, rfl, .str z, .ty "tuple", _, .type "tuple", false, rfl, .ty _, .base (.str z), kit_ty (by decide +kernel), false, rfl, iteF ?_⟩
      change ite _ _ _
      refine iteF ?_
      refine ⟨_, rfl, .str z, .ty "int", _, .type "int", false, rfl, .ty _, .base (.str z), kit_ty (by decide +kernel), false, rfl, iteF ?_⟩
      change ite _ _ _
      refine iteF ?_
      refine ⟨_, rfl, .str z, .ty "str", _, .type "str", true, rfl, .ty _, .base (.str z), kit_ty (by decide +kernel), true, rfl, iteT ?_⟩
      refine ⟨_, rfl, _, _, rfl, rfl, _, rfl, ?_⟩
      change ite _ _ _
      have zs : z.length ≤ sizeLine := by rw [sizeLine_eq]; omega
      refine ite2 (fun c => ?_) (fun c => ?_)
      · have c' : w1 < 3 := of_decide_eq_true c
        refine ⟨_, rfl, z, "a", rfl, rfl, (by show z.length + 1 ≤ sizeLine; rw [sizeLine_eq]; omega), _, rfl, 1, rfl, z, rfl, zs, _, rfl, by show (1 : Nat) ≤ sizeLine; decide, fun p1 n1 => ⟨by show (3 : Nat) ≤ sizeLine; decide, fun p2 n2 => ?_⟩⟩
        have s1 := same_upd (o := .lst [.str z]) n1
        have s2 := same_upd (o := .tup [.str (z ++ "a"), .str (cutS z (some 1) none), .ref p1]) n2
        have tT : SqT K _ p2 [.str (z ++ "a"), .str (cutS z (some 1) none), .ref p1] := .inl (.inl (upd_same (H := upd H1 p1 (.lst [.str z])) (a := p2)))
        have k3 := k1.same (s1.trans s2)
        have f3 := (f1.same (s1.trans s2)).mono (show T + 1 ≤ T + 3 by omega)
        have aa : asc ("a" : Str) := by
          have : ∀ c ∈ ("a" : Str).cps.toList, c < 128 := by decide +kernel
          exact this
        have c4 : w1 = 0 ∨ w1 = 1 ∨ w1 = 2 := by omega
        rcases c4 with rfl | rfl | rfl
        · refine ⟨_, rfl, p2, _, 0, _, rfl, rfl, tT, atI_nat (j := 0) rfl, q _ _ _ k3 f3 (.str _) (okStr (asc_app az aa) ?_)⟩
          rw [app_len]
          show z.length + 1 ≤ 3000
          omega
        · refine ⟨_, rfl, p2, _, 1, _, rfl, rfl, tT, atI_nat (j := 1) rfl, q _ _ _ k3 f3 (.str _) (okStr (asc_cut az _ _) ?_)⟩
          have := cut_len z (some 1) none
          omega
        · refine ⟨_, rfl, p2, _, 2, _, rfl, rfl, tT, atI_nat (j := 2) rfl, q _ _ (.list [.str z]) k3 f3 (.lst (.inl (.inl ?_)) (.cons (.str _) .nil)) ⟨trivial, ?_⟩⟩
          · rw [hid_at (fresh k1 f1.there n1)]
            exact s2 _ _ upd_same
          · refine (sh_lst (k := 0) (n := 10 * z.length + 2) fun d hd => ?_).mono (by omega) (by show 1 * (10 * z.length + 2) + 2 * 1 + 3 ≤ 40000; omega)
            rw [List.mem_singleton.mp hd]
            exact sh_txt az
      · refine ⟨_, rfl, _, rfl, _, rfl, a, _, rfl, .inr (TB.Same.tup ((hm k1).trans hid_sub) hA), L, S, _, _, rfl, by omega, by omega, f1, by omega, fun H2 v2 k2 f2 l2 u2 => ?_⟩
        obtain ⟨j, rfl⟩ : ∃ j : Nat, v2 = (j : Int) := ⟨v2.toNat, by omega⟩
        have hj : j < xs.length := by omega
        have k12 := k1.trans k2
        obtain ⟨d, hd, dx⟩ := DpAll.get dA (List.getElem?_eq_getElem hj)
        refine ⟨a, _, _, _, rfl, rfl, TB.Same.tup ((hm k12).trans hid_sub) hA, atI_nat (List.getElem?_eq_getElem hj), ?_⟩
        exact q H2 _ d k12 (f2.mono (by omega)) (Dp.same (hm k12) _ _ dx) (odd_ok d (List.mem_of_getElem? hd))
end
end K01

set_option Elab.async false
set_option linter.all false
set_option maxRecDepth 100000
set_option maxHeartbeats 2000000
namespace K01
open PySem PySem.Spec PyProof.Rows L2 TB

theorem scLaw : FnScope ["_law_script", "_law_feed_here", "_law_odd_here", "_law_things", "_law_k", "_law_word_here", "_law_long", "_law_wild", "_law_j", "_law_number_here", "_law_kept", "_law_thing"] ["_law_script"] (defScope sLaw) := ⟨rfl, rfl, rfl, by decide +kernel, rfl, by decide +kernel, by decide +kernel⟩
theorem hid_upd {F : List Addr} {H : Hp} {W : Addr} {o : HO} (h : W ∈ F) : hid F (upd H W o) = hid F H := by
  funext b
  unfold hid
  by_cases e : b ∈ F
  · rw [if_pos e, if_pos e]
  · rw [if_neg e, if_neg e, upd_ne (show b ≠ W from fun z => e (by rw [z]; exact h))]
theorem cut_ge (z : Str) (j : Nat) (h : j ≤ z.length) : j ≤ (cutS z none (some (j : Int))).length := by
  show _ ≤ (List.toArray _).size
  have e : HT.sIx z.length 0 none = 0 := rfl
  rw [List.size_toArray, List.length_take, HT.sIx_nat, e, List.length_drop]
  have : z.cps.toList.length = z.length := Array.length_toList
  omega
theorem iteB {b : Bool} {A B : Prop} (e : b = false) (h : B) : if b = true then A else B := by
  rw [e]
  exact iteF h
theorem int_asc (i : Int) : asc (Str.ofString (toString i)) := fun c hc => by
  rw [signs_ofString] at hc
  obtain ⟨ch, hch, rfl⟩ := List.mem_map.mp hc
  exact int_ascii i ch hch
theorem dp_app {K : PySem.W.Frag} {H : Hp} : ∀ {us vs : List V} {ds es : List PyData}, DpAll K H us ds → DpAll K H vs es → DpAll K H (us ++ vs) (ds ++ es)
  | _, _, _, _, .nil, h => h
  | _, _, _, _, .cons a t, h => .cons a (dp_app t h)
theorem dp_mem {K : PySem.W.Frag} {H : Hp} : ∀ {vs : List V} {ds : List PyData} {v : V}, DpAll K H vs ds → v ∈ vs → ∃ d ∈ ds, Dp K H v d
  | _, _, _, .nil, h => by cases h
  | _, _, _, .cons a t, h => by
    rcases List.mem_cons.mp h with rfl | h
    · exact ⟨_, List.mem_cons_self, a⟩
    · obtain ⟨d, hd, q⟩ := dp_mem t h
      exact ⟨d, List.mem_cons_of_mem _ hd, q⟩
section
variable {P : Program} {w : World} {K : PySem.W.Frag} {mg : Str → Option Value} {base : Heap}
/-- the things so far, at W, and the odd ones -/
structure Th (K : PySem.W.Frag) (H : Hp) (L W : Addr) (ov : V) (n : Nat) : Prop where
  ex : ∃ us ds, H W = some (.lst us) ∧ DpAll K (hid [L, W] H) us ds ∧ (∀ d ∈ ds, OkD d) ∧ ds.length = n
  od : Dp K (hid [L, W] H) ov (.tuple dOdd)
theorem hid2 {L W : Addr} {H H' : Hp} (k : But L H H') : Same (hid [L, W] H) (hid [L, W] H') :=
  hid_mono fun b o nb e => k b o (fun z => nb (z ▸ List.mem_cons_self)) e
theorem Th.but {H H' : Hp} {L W : Addr} {ov : V} {n : Nat} (t : Th K H L W ov n) (k : But L H H') (nW : W ≠ L) : Th K H' L W ov n := by
  obtain ⟨us, ds, a, b, c⟩ := t.ex
  exact ⟨⟨us, ds, k _ _ nW a, DpAll.same (hid2 k) _ _ b, c⟩, Dp.same (hid2 k) _ _ t.od⟩
/-- some more at the end -/
theorem Th.more {H : Hp} {L W : Addr} {ov : V} {n : Nat} {us zs : List V} {es : List PyData} (t : Th K H L W ov n) (e : H W = some (.lst us)) (dz : DpAll K (hid [L, W] H) zs es) (oz : ∀ d ∈ es, OkD d) :
    Th K (upd H W (.lst (us ++ zs))) L W ov (n + es.length) := by
  obtain ⟨us', ds, a, b, c, l⟩ := t.ex
  have eu : us' = us := by
    rw [a] at e
    cases e
    rfl
  subst eu
  have hm : W ∈ [L, W] := List.mem_cons_of_mem _ List.mem_cons_self
  refine ⟨⟨us' ++ zs, ds ++ es, upd_same, ?_, ?_, by rw [List.length_append, l]⟩, ?_⟩
  · rw [hid_upd hm]
    exact dp_app b dz
  · intro d hd
    rcases List.mem_append.mp hd with q | q
    · exact c d q
    · exact oz d q
  · rw [hid_upd hm]
    exact t.od
/-! ### the law -/
def spLaw (K : PySem.W.Frag) : Sp := fun vs H Q _ => ∃ (a : Addr) (ns : List Int), vs = [.ref a] ∧ SqL K H a (ns.map V.int) ∧ ns.length ≤ 63 ∧ ∀ H', Q (.bl true) H'
theorem ok_law {f fFd fR fWd fBe fOd fSm fNu fWo fGr fSp fFx fN fW : Addr} {fd fdFd fdR fdWd fdBe fdOd fdSm fdNu fdWo fdGr fdSp fdFx fdN fdW : FuncData} (F : Fun K "law" "law" sLaw f fd)
    (GFd : FnOk P w K mg base CX0 1 fFd fdFd ["_law_script"] (spFeed K)) (kFd : PySem.W.keepIn K (.ref fFd) = true) (bFd : Binds K fdFd ["_law_script"] []) (gFd : mg "_law_feed" = some (.ref fFd))
    (GR : FnOk P w K mg base CX0 1 fR fdR ["_law_feed_here", "_law_many"] spDraw) (kR : PySem.W.keepIn K (.ref fR) = true) (bR : Binds K fdR ["_law_feed_here", "_law_many"] []) (gR : mg "_law_draw" = some (.ref fR))
    (GWd : FnOk P w K mg base CX0 2 fWd fdWd ["_law_feed_here", "_law_found"] (spWord K)) (kWd : PySem.W.keepIn K (.ref fWd) = true) (bWd : Binds K fdWd ["_law_feed_here", "_law_found"] []) (gWd : mg "_law_word" = some (.ref fWd))
    (GBe : FnOk P w K mg base CX0 2 fBe fdBe ["_law_feed_here", "_law_thing", "_law_odd_here"] (spBend K)) (kBe : PySem.W.keepIn K (.ref fBe) = true) (bBe : Binds K fdBe ["_law_feed_here", "_law_thing", "_law_odd_here"] []) (gBe : mg "_law_bend" = some (.ref fBe))
    (GOd : FnOk P w K mg base CX0 1 fOd fdOd [] (spOdd K)) (kOd : PySem.W.keepIn K (.ref fOd) = true) (bOd : Binds K fdOd [] []) (gOd : mg "_law_odd" = some (.ref fOd))
    (GSm : FnOk P w K mg base CX0 1 fSm fdSm ["_law_told", "_law_wanted"] spSame) (kSm : PySem.W.keepIn K (.ref fSm) = true) (bSm : Binds K fdSm ["_law_told", "_law_wanted"] []) (gSm : mg "_law_same" = some (.ref fSm))
    (GNu : FnOk P w K mg base CX0 1 fNu fdNu ["_law_thing"] (spKindT K isNum)) (kNu : PySem.W.keepIn K (.ref fNu) = true) (bNu : Binds K fdNu ["_law_thing"] []) (gNu : mg "_law_number" = some (.ref fNu))
    (GWo : FnOk P w K mg base CX0 1 fWo fdWo ["_law_thing"] (spKindT K isWrd)) (kWo : PySem.W.keepIn K (.ref fWo) = true) (bWo : Binds K fdWo ["_law_thing"] []) (gWo : mg "_law_worded" = some (.ref fWo))
    (GGr : FnOk P w K mg base CX0 2 fGr fdGr ["_law_feed_here"] spGreat) (kGr : PySem.W.keepIn K (.ref fGr) = true) (bGr : Binds K fdGr ["_law_feed_here"] []) (gGr : mg "_law_great" = some (.ref fGr))
    (GSp : FnOk P w K mg base CX0 2 fSp fdSp ["_law_feed_here", "_law_word_here"] spSpoilt) (kSp : PySem.W.keepIn K (.ref fSp) = true) (bSp : Binds K fdSp ["_law_feed_here", "_law_word_here"] []) (gSp : mg "_law_spoilt" = some (.ref fSp))
    (GFx : FnOk P w K mg base CX0 1 fFx fdFx [] (spFixed K)) (kFx : PySem.W.keepIn K (.ref fFx) = true) (bFx : Binds K fdFx [] []) (gFx : mg "_law_fixed" = some (.ref fFx))
    (GN : FnOk P w K mg base CX0 1 fN fdN ["thing"] (spKindT K isNum)) (kN : PySem.W.keepIn K (.ref fN) = true) (bN : Binds K fdN ["thing"] []) (gN : mg "is_number" = some (.ref fN))
    (GW : FnOk P w K mg base CX0 1 fW fdW ["thing"] (spKindT K isWrd)) (kW : PySem.W.keepIn K (.ref fW) = true) (bW : Binds K fdW ["thing"] []) (gW : mg "is_word" = some (.ref fW))
    (m_range : mg "range" = none) (m_repr : mg "repr" = none) (m_str : mg "str" = none) : FnG P w K mg base CX0 3 f fd ["_law_script"] (spLaw K) := by
  refine gok F scLaw (fun vs H Q E h => ?_) (fun cdv A gd outer s H vs Q E hr h => ?_)
  · obtain ⟨a, ns, rfl, _⟩ := h
    rfl
  · obtain ⟨a, ns, rfl, hS, hlen, q⟩ := h
    refine ⟨_, (pss_cons (ps_set (i := 1) scLaw.nd rfl (.inl rfl) (pe_call GFd (hr.mono (by decide)) (by rfl) gFd kFd bFd .nil pass0 (pa_cons (pv 0) pa_nil)))
      (pss_cons (ps_set (i := 2) scLaw.nd rfl (.inl rfl) (pe_call0 GOd (hr.mono (by decide)) (by rfl) gOd kOd bOd .nil pass0))
      (pss_cons (ps_set (i := 3) scLaw.nd rfl (.inl rfl) (pe_call0 GFx (hr.mono (by decide)) (by rfl) gFx kFx bFx .nil pass0))
      (pss_cons (ps_for PassesOwn.never rfl (pi_range1 (by rfl) m_range (pa_cons pe_int pa_nil)) (pg_name (i := 4) scLaw.nd rfl (.inl rfl)) (pss_cons (ps_set (i := 5) scLaw.nd rfl (.inl rfl) (pe_call GWd (hr.mono (by decide)) (by rfl) gWd kWd bWd .nil pass0 (pa_cons (pv 1) (pa_cons (pe_lst pa_nil) pa_nil))))
      (pss_cons (ps_set (i := 6) scLaw.nd rfl (.inl rfl) (pe_slice sl_str (pe_op op_add_str (pv 5) pe_str) po_none (po_some pe_int)))
      (pss_cons (ps_set (i := 7) scLaw.nd rfl (.inl rfl) pe_str)
      (pss_cons (ps_for PassesOwn.never rfl (pi_range1 (by rfl) m_range (pa_cons (pe_call GR (hr.mono (by decide)) (by rfl) gR kR bR .nil pass0 (pa_cons (pv 1) (pa_cons pe_int pa_nil))) pa_nil)) (pg_name (i := 8) scLaw.nd rfl (.inl rfl)) (pss_one (ps_set (i := 7) scLaw.nd rfl (.inl rfl) (pe_call GSp (hr.mono (by decide)) (by rfl) gSp kSp bSp .nil pass0 (pa_cons (pv 1) (pa_cons (pe_op op_add_str (pv 7) pe_str) pa_nil))))))
      (pss_cons (ps_set (i := 9) scLaw.nd rfl (.inl rfl) (pe_call GGr (hr.mono (by decide)) (by rfl) gGr kGr bGr .nil pass0 (pa_cons (pv 1) pa_nil)))
      (pss_cons (ps_expr (pe_bm PySem.F.plainAttrs_list PySem.F.slot_list_extend PySem.F.type_list_extend mt_extend (pv 3) (pa_cons (pe_lst (pa_cons (pv 5) (pa_cons (pe_call GSp (hr.mono (by decide)) (by rfl) gSp kSp bSp .nil pass0 (pa_cons (pv 1) (pa_cons (pv 5) pa_nil))) (pa_cons (pv 6) (pa_cons (pe_op op_add_str (pv 6) pe_str) (pa_cons (pe_call GSp (hr.mono (by decide)) (by rfl) gSp kSp bSp .nil pass0 (pa_cons (pv 1) (pa_cons (pv 6) pa_nil))) (pa_cons (pv 7) (pa_cons (pv 9) pa_nil)))))))) pa_nil)))
      (pss_one (ps_expr (pe_bm PySem.F.plainAttrs_list PySem.F.slot_list_extend PySem.F.type_list_extend mt_extend (pv 3) (pa_cons (pe_lst (pa_cons (pe_callTy call_str_int (by rfl) m_str (by decide +kernel) (pa_cons (pv 9) pa_nil)) (pa_cons (pe_call GBe (hr.mono (by decide)) (by rfl) gBe kBe bBe .nil pass0 (pa_cons (pv 1) (pa_cons (pv 9) (pa_cons (pv 2) pa_nil)))) (pa_cons (pe_call GBe (hr.mono (by decide)) (by rfl) gBe kBe bBe .nil pass0 (pa_cons (pv 1) (pa_cons (pv 5) (pa_cons (pv 2) pa_nil)))) pa_nil)))) pa_nil)))))))))))
      (pss_cons (ps_set (i := 10) scLaw.nd rfl (.inl rfl) (pe_callB (call_reprT gd hr.units) (by rfl) m_repr (by decide +kernel) (pa_cons (pv 3) pa_nil)))
      (pss_cons (ps_for PassesOwn.never rfl (pi_list (pe_op op_cat (pv 3) (pe_revL (pv 3)))) (pg_name (i := 11) scLaw.nd rfl (.inl rfl)) (pss_one (ps_if (PW.pt (pw_or (pt_not (pt_val (pe_call GSm (hr.mono (by decide)) (by rfl) gSm kSm bSm .nil pass0 (pa_cons (pe_call GN (hr.mono (by decide)) (by rfl) gN kN bN .nil pass0 (pa_cons (pv 11) pa_nil)) (pa_cons (pe_call GNu (hr.mono (by decide)) (by rfl) gNu kNu bNu .nil pass0 (pa_cons (pv 11) pa_nil)) pa_nil))))) (pw_or1 (pt_not (pt_val (pe_call GSm (hr.mono (by decide)) (by rfl) gSm kSm bSm .nil pass0 (pa_cons (pe_call GW (hr.mono (by decide)) (by rfl) gW kW bW .nil pass0 (pa_cons (pv 11) pa_nil)) (pa_cons (pe_call GWo (hr.mono (by decide)) (by rfl) gWo kWo bWo .nil pass0 (pa_cons (pv 11) pa_nil)) pa_nil)))))))) (pss_one (ps_ret pe_bl)) pss_nil)))
      (pss_one (ps_ret (pe_cmpR op_eq (pe_callB (call_reprT gd hr.units) (by rfl) m_repr (by decide +kernel) (pa_cons (pv 3) pa_nil)) (pv 10) (nomark _)))))))))), ?_⟩
    refine ⟨_, rfl, a, ns, rfl, hS, by omega, fun H1 L S s1 nL f1 => ?_⟩
    refine ⟨rfl, fun H2 ov s2 dO => ?_⟩
    refine ⟨rfl, fun H0 W us s0 nW dF => ?_⟩
    obtain ⟨zL, eL⟩ := f1.there
    have eL2 := s2 _ _ eL
    have nW2 : H2 W = none := s0.free nW
    have nWF := (f1.same (s2.trans s0)).ne nW
    have sW := same_upd (o := .lst us) nW
    have th0 : Th K (upd H0 W (.lst us)) L W ov 40 := by
      refine ⟨⟨us, dFixed, upd_same, DpAll.same (newer_hid ?_ sW) _ _ dF, fixed_ok, rfl⟩, Dp.same (newer_hid ?_ (s0.trans sW)) _ _ dO⟩
      · intro f hf
        simp only [List.mem_cons, List.not_mem_nil, or_false] at hf
        rcases hf with rfl | rfl
        · exact .inl (by rw [eL2]; exact fun z => nomatch z)
        · exact .inr nW
      · intro f hf
        simp only [List.mem_cons, List.not_mem_nil, or_false] at hf
        rcases hf with rfl | rfl
        · exact .inl (by rw [eL]; exact fun z => nomatch z)
        · exact .inr nW2
    have f0 := f1.same (s2.trans (s0.trans sW))
    generalize upd H0 W (.lst us) = H3 at th0 f0
    obtain ⟨oA, _, rfl, _⟩ := Dp.tup_inv th0.od
    show tSeq _ _ _ [some (.ref a), some (.ref L), some (.ref oA), some (.ref W), none, none, none, none, none, none, none, none] _
    refine ⟨6, rfl, by decide, by decide, ?_⟩
    refine for_range (lo := 0) (n := (6 : Int).toNat) (fun i σ H4 => ∃ y4 y5 y6 y7 y8 y9, σ = [some (.ref a), some (.ref L), some (.ref oA), some (.ref W), y4, y5, y6, y7, y8, y9, none, none] ∧ Feed H4 L S (200 * i) ∧ Th K H4 L W (.ref oA) (40 + 10 * i))
      ⟨_, _, _, _, _, _, rfl, f0.mono (by omega), th0⟩ ?_ ?_
    · rintro i σ H4 hi ⟨y4, y5, y6, y7, y8, y9, rfl, f4, t4⟩
      have hi' : i < 6 := hi
      -- the word
      refine ⟨_, rfl, Nat.zero_le _, fun X nX => ?_⟩
      have sX := same_upd (o := .lst []) nX
      have nXF := f4.ne nX
      refine ⟨L, S, X, _, rfl, f4.same sX, by omega, upd_same, nXF.1, fun H5 z k5 f5 az z1 z2 => ?_⟩
      have k5' : But L H4 H5 := (But.of sX).trans k5
      have abc8 : asc ("abcdefgh" : Str) := by
        have : ∀ c ∈ ("abcdefgh" : Str).cps.toList, c < 128 := by decide +kernel
        exact this
      have aB : asc ("b" : Str) := by
        have : ∀ c ∈ ("b" : Str).cps.toList, c < 128 := by decide +kernel
        exact this
      have aA : asc ("a" : Str) := by
        have : ∀ c ∈ ("a" : Str).cps.toList, c < 128 := by decide +kernel
        exact this
      have l8 : ("abcdefgh" : Str).length = 8 := by decide +kernel
      have lb : ("b" : Str).length = 1 := by decide +kernel
      have la : ("a" : Str).length = 1 := by decide +kernel
      have zl : (z ++ ("abcdefgh" : Str)).length = z.length + 8 := by rw [app_len, l8]
      obtain ⟨lg, elg⟩ : ∃ lg, lg = cutS (z ++ ("abcdefgh" : Str)) none (some 8) := ⟨_, rfl⟩
      have alg : asc lg := by
        rw [elg]
        exact asc_cut (asc_app az abc8) _ _
      have lg1 : 8 ≤ lg.length := by
        rw [elg]
        exact cut_ge _ 8 (by omega)
      have lg2 : lg.length ≤ 8 := by
        rw [elg]
        exact cut_hi _ 8
      -- the longer one
      refine ⟨_, rfl, z, "abcdefgh", rfl, rfl, (by rw [l8, sizeLine_eq]; omega), 8, rfl, z ++ "abcdefgh", rfl, (by rw [zl, sizeLine_eq]; omega), ?_⟩
      rw [← elg]
      show tSeq _ _ _ [some (.ref a), some (.ref L), some (.ref oA), some (.ref W), some (.int (0 + (i : Int))), some (.str z), some (.str lg), y7, y8, y9, none, none] _
      -- the wild one
      refine ⟨_, rfl, L, S, 11, _, rfl, by decide, by decide, f5, by omega, fun H6 n k6 f6 l6 u6 => ⟨n, rfl, by omega, by omega, ?_⟩⟩
      refine for_range (lo := 0) (n := n.toNat) (fun j σ H7 => ∃ (y8 : Option V) (wz : Str), σ = [some (.ref a), some (.ref L), some (.ref oA), some (.ref W), some (.int (0 + (i : Int))), some (.str z), some (.str lg), some (.str wz), y8, y9, none, none] ∧ But L H4 H7 ∧ Feed H7 L S (200 * i + 21 + 3 * j) ∧ asc wz ∧ wz.length ≤ 2 * j)
        ⟨_, "", rfl, k5'.trans k6, f6.mono (by omega), (fun _ h => by cases h), Nat.le_refl _⟩ ?_ ?_
      · rintro j σ H7 hj ⟨y8, wz, rfl, k7, f7, aw, lw⟩
        have wl : (wz ++ ("b" : Str)).length = wz.length + 1 := by rw [app_len, lb]
        refine ⟨_, rfl, _, rfl, wz, "b", rfl, rfl, (by rw [lb, sizeLine_eq]; omega), L, S, _, wz ++ "b", rfl, f7, by omega, asc_app aw aB, by omega, by omega, fun H8 y k8 f8 ay ly => ?_⟩
        exact ⟨_, y, rfl, k7.trans k8, f8.mono (by omega), ay, by omega⟩
      · rintro σ H7 ⟨y8, wz, rfl, k7, f7, aw, lw⟩
        have f7' : Feed H7 L S (200 * i + 60) := f7.mono (by omega)
        -- the number
        refine ⟨_, rfl, L, S, _, rfl, f7', by omega, fun H8 nu k8 f8 bn => ?_⟩
        show tSeq _ _ _ [some (.ref a), some (.ref L), some (.ref oA), some (.ref W), some (.int (0 + (i : Int))), some (.str z), some (.str lg), some (.str wz), y8, some (.int nu), none, none] _
        have k8' := k7.trans k8
        have t8 := t4.but k8' nWF.1
        obtain ⟨us8, ds8, e8, dp8, ok8, l8'⟩ := t8.ex
        -- seven more
        refine ⟨.ref W, rfl, .inl ⟨rfl, _, .inl (.inl e8)⟩, ?_⟩
        refine ⟨_, rfl, _, rfl, _, rfl, L, S, _, z, rfl, f8, by omega, az, z1, by omega, fun H9 s9 k9 f9 as9 ls9 => ?_⟩
        refine ⟨_, rfl, _, rfl, lg, "a", rfl, rfl, (by rw [la, sizeLine_eq]; omega), ?_⟩
        refine ⟨_, rfl, _, rfl, L, S, _, lg, rfl, f9, by omega, alg, by omega, by omega, fun H10 s10 k10 f10 as10 ls10 => ?_⟩
        refine ⟨_, rfl, _, rfl, by show (7 : Nat) ≤ sizeLine; decide, fun B nB => ?_⟩
        have sB := same_upd (o := .lst [.str z, .str s9, .str lg, .str (lg ++ "a"), .str s10, .str wz, .int nu]) nB
        have t10 := (t8.but (k9.trans k10) nWF.1).but (But.of sB) nWF.1
        have e10 := sB _ _ (k10 _ _ nWF.1 (k9 _ _ nWF.1 e8))
        have lus : us8.length = 40 + 10 * i := (DpAll.len dp8).trans l8'
        refine ⟨W, B, us8, _, rfl, rfl, e10, upd_same, (by show us8.length + 7 ≤ sizeLine; rw [sizeLine_eq, lus]; omega), ?_⟩
        have lga : (lg ++ ("a" : Str)).length = lg.length + 1 := by rw [app_len, la]
        have t11 := t10.more (zs := [.str z, .str s9, .str lg, .str (lg ++ "a"), .str s10, .str wz, .int nu]) (es := [.str z, .str s9, .str lg, .str (lg ++ "a"), .str s10, .str wz, .int nu]) e10
          (.cons (.str _) (.cons (.str _) (.cons (.str _) (.cons (.str _) (.cons (.str _) (.cons (.str _) (.cons (.int _) .nil))))))) (by
            intro d hd
            simp only [List.mem_cons, List.not_mem_nil, or_false] at hd
            rcases hd with rfl | rfl | rfl | rfl | rfl | rfl | rfl
            · exact okStr az (by omega)
            · exact okStr as9 (by omega)
            · exact okStr alg (by omega)
            · exact okStr (asc_app alg aA) (by omega)
            · exact okStr as10 (by omega)
            · exact okStr aw (by omega)
            · exact okInt (Nat.lt_of_lt_of_le bn (Nat.pow_le_pow_right (by decide) (by decide))))
        have f11 : Feed (upd (upd H10 B (.lst [.str z, .str s9, .str lg, .str (lg ++ "a"), .str s10, .str wz, .int nu])) W (.lst (us8 ++ [.str z, .str s9, .str lg, .str (lg ++ "a"), .str s10, .str wz, .int nu]))) L S (200 * i + 150) :=
          ((f10.same sB).upd nWF).mono (by omega)
        generalize upd (upd H10 B (.lst [.str z, .str s9, .str lg, .str (lg ++ "a"), .str s10, .str wz, .int nu])) W (.lst (us8 ++ [.str z, .str s9, .str lg, .str (lg ++ "a"), .str s10, .str wz, .int nu])) = H11 at t11 f11
        -- three more
        obtain ⟨us11, ds11, e11, dp11, ok11, l11⟩ := t11.ex
        obtain ⟨zL11, eL11⟩ := f11.there
        have lgn : nu.natAbs.log2 < 1920 := by
          by_cases h0 : nu.natAbs = 0
          · rw [h0]; decide
          · exact (Nat.log2_lt h0).2 (Nat.lt_of_lt_of_le bn (Nat.pow_le_pow_right (by decide) (by decide)))
        refine ⟨.ref W, rfl, .inl ⟨rfl, _, .inl (.inl e11)⟩, ?_⟩
        refine ⟨_, rfl, nu, rfl, lgn, ?_⟩
        have hF : ∀ f ∈ [L, W], H11 f ≠ none := by
          intro f hf
          simp only [List.mem_cons, List.not_mem_nil, or_false] at hf
          rcases hf with rfl | rfl
          · rw [eL11]; exact fun z => nomatch z
          · rw [e11]; exact fun z => nomatch z
        refine ⟨_, rfl, _, rfl, _, rfl, L, S, _, .int nu, .ref oA, [L, W], rfl, f11, by omega, .inl ⟨nu, rfl, Nat.lt_of_lt_of_le bn (Nat.pow_le_pow_right (by decide) (by decide))⟩, List.mem_cons_self, hF, t11.od, fun H12 r12 d12 k12 f12 dp12 ok12 => ?_⟩
        have t12 := t11.but k12 nWF.1
        obtain ⟨zL12, eL12⟩ := f12.there
        have e12 := k12 _ _ nWF.1 e11
        have hF2 : ∀ f ∈ [L, W], H12 f ≠ none := by
          intro f hf
          simp only [List.mem_cons, List.not_mem_nil, or_false] at hf
          rcases hf with rfl | rfl
          · rw [eL12]; exact fun z => nomatch z
          · rw [e12]; exact fun z => nomatch z
        refine ⟨_, rfl, _, rfl, _, rfl, L, S, _, .str z, .ref oA, [L, W], rfl, f12, by omega, .inr ⟨z, rfl, az, by omega⟩, List.mem_cons_self, hF2, t12.od, fun H13 r13 d13 k13 f13 dp13 ok13 => ?_⟩
        refine ⟨by show (3 : Nat) ≤ sizeLine; decide, fun B2 nB2 => ?_⟩
        have sB2 := same_upd (o := .lst [.str (toString nu), r12, r13]) nB2
        have t13 := (t12.but k13 nWF.1).but (But.of sB2) nWF.1
        have e13 := sB2 _ _ (k13 _ _ nWF.1 e12)
        have lus11 : us11.length = 40 + 10 * i + 7 := (DpAll.len dp11).trans l11
        refine ⟨W, B2, us11, _, rfl, rfl, e13, upd_same, (by show us11.length + 3 ≤ sizeLine; rw [sizeLine_eq, lus11]; omega), ?_⟩
        have t14 := t13.more (zs := [.str (toString nu), r12, r13]) (es := [.str (toString nu), d12, d13]) e13
          (.cons (.str _) (.cons (Dp.same ((hid2 k13).trans (hid2 (But.of sB2))) _ _ dp12) (.cons (Dp.same (hid2 (But.of sB2)) _ _ dp13) .nil))) (by
            intro d hd
            simp only [List.mem_cons, List.not_mem_nil, or_false] at hd
            rcases hd with rfl | rfl | rfl
            · exact okStr (int_asc nu) (Nat.le_trans (int_text_len_1921 lgn) (by omega))
            · exact ok12
            · exact ok13)
        exact ⟨_, _, _, _, _, _, rfl, ((f13.same sB2).upd nWF).mono (by omega), t14⟩
    · rintro σ H4 ⟨y4, y5, y6, y7, y8, y9, rfl, f4, t4⟩
      obtain ⟨us4, ds4, e4, dp4, ok4, l4⟩ := t4.ex
      have l4' : ds4.length = 100 := l4
      have dW : ∀ {H' : Hp}, Same H4 H' → Dp K H' (.ref W) (.list ds4) := fun s => .lst (.inl (.inl (s _ _ e4))) (DpAll.same (hid_sub.trans s) _ _ dp4)
      have sh : Sh 5 sizeLine (.list ds4) := (sh_lst (k := 4) (n := 40000) fun d hd => (ok4 d hd).sh).mono (by omega) (by rw [l4', sizeLine_eq]; decide)
      refine ⟨_, rfl, W, _, rfl, dW (Same.refl _), sh.sh, sh.nd, Nat.le_trans sh.dp (by decide), sh.ln, ?_⟩
      show tSeq _ _ _ [some (.ref a), some (.ref L), some (.ref oA), some (.ref W), y4, y5, y6, y7, y8, y9, some (.str (txt (.list ds4))), none] _
      have lu : us4.length = 100 := (DpAll.len dp4).trans l4
      refine ⟨_, rfl, _, rfl, W, us4, rfl, .inl (.inl e4), fun R nR => ?_⟩
      have sR := same_upd (o := .lst us4.reverse) nR
      refine ⟨W, R, us4, us4.reverse, rfl, rfl, sR _ _ e4, upd_same, (by rw [List.length_reverse, lu, sizeLine_eq]; decide), fun C nC => ?_⟩
      have sC := same_upd (o := .lst (us4 ++ us4.reverse)) nC
      have eC : (upd (upd H4 R (.lst us4.reverse)) C (.lst (us4 ++ us4.reverse))) C = some (.lst (us4 ++ us4.reverse)) := upd_same
      have s5 := sR.trans sC
      generalize upd (upd H4 R (.lst us4.reverse)) C (.lst (us4 ++ us4.reverse)) = H5 at s5 eC
      refine ⟨C, rfl, ⟨_, .inl (.inl eC)⟩, ?_⟩
      refine for_list (xs := us4 ++ us4.reverse) (fun i σ H6 => ∃ y11, σ = [some (.ref a), some (.ref L), some (.ref oA), some (.ref W), y4, y5, y6, y7, y8, y9, some (.str (txt (.list ds4))), y11] ∧ Same H5 H6) ⟨_, rfl, Same.refl _⟩ ?_ ?_ ?_
      · rintro i σ H6 _ ⟨_, _, s6⟩
        exact .inl (.inl (s6 _ _ eC))
      · rintro i x σ H6 hx ⟨y11, rfl, s6⟩
        have hm : x ∈ us4 := by
          rcases List.mem_append.mp (List.mem_of_getElem? hx) with h | h
          · exact h
          · exact List.mem_reverse.mp h
        obtain ⟨d, hd, dx⟩ := dp_mem dp4 hm
        have okd := ok4 d hd
        have dx6 : Dp K H6 x d := Dp.same (hid_sub.trans (s5.trans s6)) _ _ dx
        refine ⟨_, rfl, x, d, rfl, dx6, okd.ft, fun H7 s7 => ?_⟩
        refine ⟨_, rfl, x, d, rfl, Dp.same s7 _ _ dx6, okd.ft, fun H8 s8 => ?_⟩
        refine ⟨isNum d, isNum d, rfl, _, rfl, ?_⟩
        change ite _ _ _
        refine iteB (by rw [beq_self_eq_true]; rfl) ?_
        have s68 := s7.trans s8
        refine ⟨_, rfl, x, d, rfl, Dp.same s68 _ _ dx6, okd.ft, fun H9 s9 => ?_⟩
        refine ⟨_, rfl, x, d, rfl, Dp.same (s68.trans s9) _ _ dx6, okd.ft, fun H10 s10 => ?_⟩
        refine ⟨isWrd d, isWrd d, rfl, _, rfl, ?_⟩
        change ite _ _ _
        refine iteB (by rw [beq_self_eq_true]; rfl) ?_
        exact ⟨_, rfl, s6.trans (s68.trans (s9.trans s10))⟩
      · rintro σ H6 ⟨y11, rfl, s6⟩
        refine ⟨_, rfl, W, _, rfl, dW (s5.trans s6), sh.sh, sh.nd, Nat.le_trans sh.dp (by decide), sh.ln, _, rfl, rfl, ?_⟩
        show Q (.bl (decide _)) _
        rw [decide_eq_true rfl]
        exact q _
end
end K01

set_option Elab.async false
set_option linter.all false
set_option maxRecDepth 100000
namespace K01
open PySem PySem.Spec PyProof.Rows L2 TB
theorem all_mk {l : PySem.W.OpenLaw} {w : World} {K : PySem.W.Frag} {h : Heap} {mg : Str → Option Value} {fa : Addr} (X : K.In h) (G : h.Ns mainGlobals mg) (hfa : mg "law" = some (.ref fa))
    {f1 : Addr} {od1 an1 : Option Addr} {sl1 : Array (Option Value)} {oc1 kV1 dc1 pm1 cd1 ct1 : Value}
    {f2 : Addr} {od2 an2 : Option Addr} {sl2 : Array (Option Value)} {oc2 kV2 dc2 pm2 cd2 ct2 : Value}
    {f3 : Addr} {od3 an3 : Option Addr} {sl3 : Array (Option Value)} {oc3 kV3 dc3 pm3 cd3 ct3 : Value}
    {f4 : Addr} {od4 an4 : Option Addr} {sl4 : Array (Option Value)} {oc4 kV4 dc4 pm4 cd4 ct4 : Value}
    {f5 : Addr} {od5 an5 : Option Addr} {sl5 : Array (Option Value)} {oc5 kV5 dc5 pm5 cd5 ct5 : Value}
    {f6 : Addr} {od6 an6 : Option Addr} {sl6 : Array (Option Value)} {oc6 kV6 dc6 pm6 cd6 ct6 : Value}
    {f7 : Addr} {od7 an7 : Option Addr} {sl7 : Array (Option Value)} {oc7 kV7 dc7 pm7 cd7 ct7 : Value}
    {f8 : Addr} {od8 an8 : Option Addr} {sl8 : Array (Option Value)} {oc8 kV8 dc8 pm8 cd8 ct8 : Value}
    {f9 : Addr} {od9 an9 : Option Addr} {sl9 : Array (Option Value)} {oc9 kV9 dc9 pm9 cd9 ct9 : Value}
    {f10 : Addr} {od10 an10 : Option Addr} {sl10 : Array (Option Value)} {oc10 kV10 dc10 pm10 cd10 ct10 : Value}
    {f11 : Addr} {od11 an11 : Option Addr} {sl11 : Array (Option Value)} {oc11 kV11 dc11 pm11 cd11 ct11 : Value}
    {f12 : Addr} {od12 an12 : Option Addr} {sl12 : Array (Option Value)} {oc12 kV12 dc12 pm12 cd12 ct12 : Value}
    {f13 : Addr} {od13 an13 : Option Addr} {sl13 : Array (Option Value)} {oc13 kV13 dc13 pm13 cd13 ct13 : Value}
    {f14 : Addr} {od14 an14 : Option Addr} {sl14 : Array (Option Value)} {oc14 kV14 dc14 pm14 cd14 ct14 : Value}
    {tk_LONGEST_WORD : Tok}
    (a1 : PySem.W.nsIn K mainGlobals "is_number" = some (some (.ref f1)))
    (l1 : K.lookup f1 = some ⟨oc1, od1, .func (PySem.W.fnOf "is_number" "is_number" (defArgs sN) (defBody sN) (defScope sN) .none kV1 dc1 pm1 an1 cd1 ct1), sl1⟩)
    (c1 : PySem.W.codeIn K cd1 "is_number" = true) (k1 : PySem.W.keepIn K (.ref f1) = true)
    (a2 : PySem.W.nsIn K mainGlobals "is_word" = some (some (.ref f2)))
    (l2 : K.lookup f2 = some ⟨oc2, od2, .func (PySem.W.fnOf "is_word" "is_word" (defArgs sW) (defBody sW) (defScope sW) .none kV2 dc2 pm2 an2 cd2 ct2), sl2⟩)
    (c2 : PySem.W.codeIn K cd2 "is_word" = true) (k2 : PySem.W.keepIn K (.ref f2) = true)
    (a3 : PySem.W.nsIn K mainGlobals "_law_feed" = some (some (.ref f3)))
    (l3 : K.lookup f3 = some ⟨oc3, od3, .func (PySem.W.fnOf "_law_feed" "_law_feed" (defArgs sFeed) (defBody sFeed) (defScope sFeed) .none kV3 dc3 pm3 an3 cd3 ct3), sl3⟩)
    (c3 : PySem.W.codeIn K cd3 "_law_feed" = true) (k3 : PySem.W.keepIn K (.ref f3) = true)
    (a4 : PySem.W.nsIn K mainGlobals "_law_draw" = some (some (.ref f4)))
    (l4 : K.lookup f4 = some ⟨oc4, od4, .func (PySem.W.fnOf "_law_draw" "_law_draw" (defArgs sDraw) (defBody sDraw) (defScope sDraw) .none kV4 dc4 pm4 an4 cd4 ct4), sl4⟩)
    (c4 : PySem.W.codeIn K cd4 "_law_draw" = true) (k4 : PySem.W.keepIn K (.ref f4) = true)
    (a5 : PySem.W.nsIn K mainGlobals "_law_word" = some (some (.ref f5)))
    (l5 : K.lookup f5 = some ⟨oc5, od5, .func (PySem.W.fnOf "_law_word" "_law_word" (defArgs sWord) (defBody sWord) (defScope sWord) .none kV5 dc5 pm5 an5 cd5 ct5), sl5⟩)
    (c5 : PySem.W.codeIn K cd5 "_law_word" = true) (k5 : PySem.W.keepIn K (.ref f5) = true)
    (a6 : PySem.W.nsIn K mainGlobals "_law_bend" = some (some (.ref f6)))
    (l6 : K.lookup f6 = some ⟨oc6, od6, .func (PySem.W.fnOf "_law_bend" "_law_bend" (defArgs sBend) (defBody sBend) (defScope sBend) .none kV6 dc6 pm6 an6 cd6 ct6), sl6⟩)
    (c6 : PySem.W.codeIn K cd6 "_law_bend" = true) (k6 : PySem.W.keepIn K (.ref f6) = true)
    (a7 : PySem.W.nsIn K mainGlobals "_law_odd" = some (some (.ref f7)))
    (l7 : K.lookup f7 = some ⟨oc7, od7, .func (PySem.W.fnOf "_law_odd" "_law_odd" (defArgs sOdd) (defBody sOdd) (defScope sOdd) .none kV7 dc7 pm7 an7 cd7 ct7), sl7⟩)
    (c7 : PySem.W.codeIn K cd7 "_law_odd" = true) (k7 : PySem.W.keepIn K (.ref f7) = true)
    (a8 : PySem.W.nsIn K mainGlobals "_law_same" = some (some (.ref f8)))
    (l8 : K.lookup f8 = some ⟨oc8, od8, .func (PySem.W.fnOf "_law_same" "_law_same" (defArgs sSame) (defBody sSame) (defScope sSame) .none kV8 dc8 pm8 an8 cd8 ct8), sl8⟩)
    (c8 : PySem.W.codeIn K cd8 "_law_same" = true) (k8 : PySem.W.keepIn K (.ref f8) = true)
    (a9 : PySem.W.nsIn K mainGlobals "_law_number" = some (some (.ref f9)))
    (l9 : K.lookup f9 = some ⟨oc9, od9, .func (PySem.W.fnOf "_law_number" "_law_number" (defArgs sNumber) (defBody sNumber) (defScope sNumber) .none kV9 dc9 pm9 an9 cd9 ct9), sl9⟩)
    (c9 : PySem.W.codeIn K cd9 "_law_number" = true) (k9 : PySem.W.keepIn K (.ref f9) = true)
    (a10 : PySem.W.nsIn K mainGlobals "_law_worded" = some (some (.ref f10)))
    (l10 : K.lookup f10 = some ⟨oc10, od10, .func (PySem.W.fnOf "_law_worded" "_law_worded" (defArgs sWorded) (defBody sWorded) (defScope sWorded) .none kV10 dc10 pm10 an10 cd10 ct10), sl10⟩)
    (c10 : PySem.W.codeIn K cd10 "_law_worded" = true) (k10 : PySem.W.keepIn K (.ref f10) = true)
    (a11 : PySem.W.nsIn K mainGlobals "_law_great" = some (some (.ref f11)))
    (l11 : K.lookup f11 = some ⟨oc11, od11, .func (PySem.W.fnOf "_law_great" "_law_great" (defArgs sGreat) (defBody sGreat) (defScope sGreat) .none kV11 dc11 pm11 an11 cd11 ct11), sl11⟩)
    (c11 : PySem.W.codeIn K cd11 "_law_great" = true) (k11 : PySem.W.keepIn K (.ref f11) = true)
    (a12 : PySem.W.nsIn K mainGlobals "_law_spoilt" = some (some (.ref f12)))
    (l12 : K.lookup f12 = some ⟨oc12, od12, .func (PySem.W.fnOf "_law_spoilt" "_law_spoilt" (defArgs sSpoilt) (defBody sSpoilt) (defScope sSpoilt) .none kV12 dc12 pm12 an12 cd12 ct12), sl12⟩)
    (c12 : PySem.W.codeIn K cd12 "_law_spoilt" = true) (k12 : PySem.W.keepIn K (.ref f12) = true)
    (a13 : PySem.W.nsIn K mainGlobals "_law_fixed" = some (some (.ref f13)))
    (l13 : K.lookup f13 = some ⟨oc13, od13, .func (PySem.W.fnOf "_law_fixed" "_law_fixed" (defArgs sFixed) (defBody sFixed) (defScope sFixed) .none kV13 dc13 pm13 an13 cd13 ct13), sl13⟩)
    (c13 : PySem.W.codeIn K cd13 "_law_fixed" = true) (k13 : PySem.W.keepIn K (.ref f13) = true)
    (a14 : PySem.W.nsIn K mainGlobals "law" = some (some (.ref f14)))
    (l14 : K.lookup f14 = some ⟨oc14, od14, .func (PySem.W.fnOf "law" "law" (defArgs sLaw) (defBody sLaw) (defScope sLaw) .none kV14 dc14 pm14 an14 cd14 ct14), sl14⟩)
    (c14 : PySem.W.codeIn K cd14 "law" = true) (k14 : PySem.W.keepIn K (.ref f14) = true)
    (z_len : PySem.W.nsIn K mainGlobals "len" = some none)
    (z_range : PySem.W.nsIn K mainGlobals "range" = some none)
    (z_tuple : PySem.W.nsIn K mainGlobals "tuple" = some none)
    (z_repr : PySem.W.nsIn K mainGlobals "repr" = some none)
    (z_isinstance : PySem.W.nsIn K mainGlobals "isinstance" = some none)
    (z_int : PySem.W.nsIn K mainGlobals "int" = some none)
    (z_bool : PySem.W.nsIn K mainGlobals "bool" = some none)
    (z_str : PySem.W.nsIn K mainGlobals "str" = some none)
    (z_all : PySem.W.nsIn K mainGlobals "all" = some none)
    (z_ord : PySem.W.nsIn K mainGlobals "ord" = some none)
    (a_LONGEST_WORD : PySem.W.nsIn K mainGlobals "LONGEST_WORD" = some (some (.int 8 tk_LONGEST_WORD))) :
    ∃ fd : FuncData, (∀ (s : Shared) (v : Value), BindsTo s fd ⟨[v], []⟩ [("_law_script", v)]) ∧ ∀ base : Heap, K.In base → base.Ns mainGlobals mg → FnG l.prog w K mg base CX0 3 fa fd ["_law_script"] (spLaw K) := by
  have e := hfa.symm.trans (PySem.W.mg_of X G a14)
  cases e
  have F1 := fun_mk (st := sN) l1 c1 k1
  have b1 := F1.binds (ps := ["thing"]) fun _ _ _ _ _ _ us hl => match us, hl with | [_], _ => rfl
  have g1 := PySem.W.mg_of X G a1
  have F2 := fun_mk (st := sW) l2 c2 k2
  have b2 := F2.binds (ps := ["thing"]) fun _ _ _ _ _ _ us hl => match us, hl with | [_], _ => rfl
  have g2 := PySem.W.mg_of X G a2
  have F3 := fun_mk (st := sFeed) l3 c3 k3
  have b3 := F3.binds (ps := ["_law_script"]) fun _ _ _ _ _ _ us hl => match us, hl with | [_], _ => rfl
  have g3 := PySem.W.mg_of X G a3
  have F4 := fun_mk (st := sDraw) l4 c4 k4
  have b4 := F4.binds (ps := ["_law_feed_here", "_law_many"]) fun _ _ _ _ _ _ us hl => match us, hl with | [_, _], _ => rfl
  have g4 := PySem.W.mg_of X G a4
  have F5 := fun_mk (st := sWord) l5 c5 k5
  have b5 := F5.binds (ps := ["_law_feed_here", "_law_found"]) fun _ _ _ _ _ _ us hl => match us, hl with | [_, _], _ => rfl
  have g5 := PySem.W.mg_of X G a5
  have F6 := fun_mk (st := sBend) l6 c6 k6
  have b6 := F6.binds (ps := ["_law_feed_here", "_law_thing", "_law_odd_here"]) fun _ _ _ _ _ _ us hl => match us, hl with | [_, _, _], _ => rfl
  have g6 := PySem.W.mg_of X G a6
  have F7 := fun_mk (st := sOdd) l7 c7 k7
  have b7 := F7.binds (ps := []) fun _ _ _ _ _ _ us hl => match us, hl with | [], _ => rfl
  have g7 := PySem.W.mg_of X G a7
  have F8 := fun_mk (st := sSame) l8 c8 k8
  have b8 := F8.binds (ps := ["_law_told", "_law_wanted"]) fun _ _ _ _ _ _ us hl => match us, hl with | [_, _], _ => rfl
  have g8 := PySem.W.mg_of X G a8
  have F9 := fun_mk (st := sNumber) l9 c9 k9
  have b9 := F9.binds (ps := ["_law_thing"]) fun _ _ _ _ _ _ us hl => match us, hl with | [_], _ => rfl
  have g9 := PySem.W.mg_of X G a9
  have F10 := fun_mk (st := sWorded) l10 c10 k10
  have b10 := F10.binds (ps := ["_law_thing"]) fun _ _ _ _ _ _ us hl => match us, hl with | [_], _ => rfl
  have g10 := PySem.W.mg_of X G a10
  have F11 := fun_mk (st := sGreat) l11 c11 k11
  have b11 := F11.binds (ps := ["_law_feed_here"]) fun _ _ _ _ _ _ us hl => match us, hl with | [_], _ => rfl
  have g11 := PySem.W.mg_of X G a11
  have F12 := fun_mk (st := sSpoilt) l12 c12 k12
  have b12 := F12.binds (ps := ["_law_feed_here", "_law_word_here"]) fun _ _ _ _ _ _ us hl => match us, hl with | [_, _], _ => rfl
  have g12 := PySem.W.mg_of X G a12
  have F13 := fun_mk (st := sFixed) l13 c13 k13
  have b13 := F13.binds (ps := []) fun _ _ _ _ _ _ us hl => match us, hl with | [], _ => rfl
  have g13 := PySem.W.mg_of X G a13
  have F14 := fun_mk (st := sLaw) l14 c14 k14
  have b14 := F14.binds (ps := ["_law_script"]) fun _ _ _ _ _ _ us hl => match us, hl with | [_], _ => rfl
  have g14 := PySem.W.mg_of X G a14
  have mg_LONGEST_WORD := PySem.W.mg_of X G a_LONGEST_WORD
  have m_len := PySem.W.mg_none_of X G z_len
  have m_range := PySem.W.mg_none_of X G z_range
  have m_tuple := PySem.W.mg_none_of X G z_tuple
  have m_repr := PySem.W.mg_none_of X G z_repr
  have m_isinstance := PySem.W.mg_none_of X G z_isinstance
  have m_int := PySem.W.mg_none_of X G z_int
  have m_bool := PySem.W.mg_none_of X G z_bool
  have m_str := PySem.W.mg_none_of X G z_str
  have m_all := PySem.W.mg_none_of X G z_all
  have m_ord := PySem.W.mg_none_of X G z_ord
  refine ⟨PySem.W.fnOf "law" "law" (defArgs sLaw) (defBody sLaw) (defScope sLaw) .none kV14 dc14 pm14 an14 cd14 ct14, fun s v => .of_eq rfl, fun base _ _ => ?_⟩
  have wk : ∀ vs H Q E, spKindT K isNum vs H Q E → spKind K isNum vs H Q E := by
    rintro vs H Q E ⟨v, d, e, hd, ft, q⟩
    refine ⟨v, d, e, hd, ?_, q⟩
    cases d with
    | str z => exact ft.1
    | _ => trivial
  have GN := (ok_n (P := l.prog) (w := w) (base := base) (k := 0) F1 m_isinstance m_int m_bool).imp wk
  have GW := ok_w (P := l.prog) (w := w) (base := base) (k := 0) F2 m_isinstance m_str m_len m_all mg_LONGEST_WORD ⟨_, rfl⟩
  have GFd := ok_feed (P := l.prog) (w := w) (mg := mg) (base := base) (k := 0) F3
  have GR := ok_draw (P := l.prog) (w := w) (base := base) (k := 0) F4 m_len
  have GWd := ok_word (P := l.prog) (w := w) (base := base) F5 GR k4 b4 g4 m_range m_len
  have GBe := ok_bend (P := l.prog) (w := w) (base := base) F6 GR k4 b4 g4 m_isinstance m_tuple m_int m_str m_len
  have GOd := ok_odd (P := l.prog) (w := w) (mg := mg) (base := base) (k := 0) F7
  have GSm := ok_same (P := l.prog) (w := w) (mg := mg) (base := base) (k := 0) F8
  have GNu := (ok_number (P := l.prog) (w := w) (base := base) (k := 0) F9 m_isinstance m_int).imp wk
  have GWo := ok_worded (P := l.prog) (w := w) (base := base) (k := 0) F10 m_isinstance m_str m_len m_ord
  have GGr := ok_great (P := l.prog) (w := w) (base := base) F11 GR k4 b4 g4 m_range
  have GSp := ok_spoilt (P := l.prog) (w := w) (base := base) F12 GR k4 b4 g4 m_len
  have GFx := ok_fixed (P := l.prog) (w := w) (mg := mg) (base := base) (k := 0) F13
  exact ok_law F14 GFd k3 b3 g3 GR k4 b4 g4 GWd k5 b5 g5 GBe k6 b6 g6 GOd k7 b7 g7 GSm k8 b8 g8 GNu k9 b9 g9 GWo k10 b10 g10 GGr k11 b11 g11 GSp k12 b12 g12 GFx k13 b13 g13 GN k1 b1 g1 GW k2 b2 g2 m_range m_repr m_str
end K01
open PySem PySem.W PyProof.Rows
set_option maxHeartbeats 0 in
theorem PySem.Challenge.cw_tablebills_k01_kinds_holds : PySem.Challenge.rw_tablebills_k01_kinds.Holds := by
  w_on; o_law; k_head; (case hw => w_witness2)
  k_fill
  refine TB.walkG (l := PySem.Challenge.rw_tablebills_k01_kinds) (n := 63) (k := 3) (x := "_law_script") (sp := fun w => K01.spLaw _) rfl (by decide) rfl (fun w h Y => PySem.W.kIn_of Y) ⟨rfl, by decide, by decide⟩ ?F (fun _ _ a ns hl hS => ⟨a, ns, rfl, hS, hl, fun _ => rfl⟩)
  case F =>
    intro w mg fa h KX G hmg
    refine' K01.all_mk KX G hmg ?a1 ?l1 ?c1 ?k1 ?a2 ?l2 ?c2 ?k2 ?a3 ?l3 ?c3 ?k3 ?a4 ?l4 ?c4 ?k4 ?a5 ?l5 ?c5 ?k5 ?a6 ?l6 ?c6 ?k6 ?a7 ?l7 ?c7 ?k7 ?a8 ?l8 ?c8 ?k8 ?a9 ?l9 ?c9 ?k9 ?a10 ?l10 ?c10 ?k10 ?a11 ?l11 ?c11 ?k11 ?a12 ?l12 ?c12 ?k12 ?a13 ?l13 ?c13 ?k13 ?a14 ?l14 ?c14 ?k14 ?z_len ?z_range ?z_tuple ?z_repr ?z_isinstance ?z_int ?z_bool ?z_str ?z_all ?z_ord ?a_LONGEST_WORD
    (case a1 => k_is); (case l1 => k_is); (case c1 => k_is); (case k1 => k_is); (case a2 => k_is); (case l2 => k_is); (case c2 => k_is); (case k2 => k_is); (case a3 => k_is); (case l3 => k_is); (case c3 => k_is); (case k3 => k_is); (case a4 => k_is); (case l4 => k_is); (case c4 => k_is); (case k4 => k_is); (case a5 => k_is); (case l5 => k_is); (case c5 => k_is); (case k5 => k_is); (case a6 => k_is); (case l6 => k_is); (case c6 => k_is); (case k6 => k_is); (case a7 => k_is); (case l7 => k_is); (case c7 => k_is); (case k7 => k_is); (case a8 => k_is); (case l8 => k_is); (case c8 => k_is); (case k8 => k_is); (case a9 => k_is); (case l9 => k_is); (case c9 => k_is); (case k9 => k_is); (case a10 => k_is); (case l10 => k_is); (case c10 => k_is); (case k10 => k_is); (case a11 => k_is); (case l11 => k_is); (case c11 => k_is); (case k11 => k_is); (case a12 => k_is); (case l12 => k_is); (case c12 => k_is); (case k12 => k_is); (case a13 => k_is); (case l13 => k_is); (case c13 => k_is); (case k13 => k_is); (case a14 => k_is); (case l14 => k_is); (case c14 => k_is); (case k14 => k_is); (case z_len => k_is); (case z_range => k_is); (case z_tuple => k_is); (case z_repr => k_is); (case z_isinstance => k_is); (case z_int => k_is); (case z_bool => k_is); (case z_str => k_is); (case z_all => k_is); (case z_ord => k_is); (case a_LONGEST_WORD => k_is)
