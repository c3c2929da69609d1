import PyProof.Rows.All
import Wide.All
import OpenK.AllK
import Wide.FinOn
import HandS.ForMost
import HandS.Wide
import HandS.Defaults
import HandS.Flow
import HandS.Style
import HandS.IsInst
import HandS.MakeKw
import PySem.Challenge.RW_tablebills_k80_minutes_moved
set_option Elab.async false
set_option linter.all false
set_option maxRecDepth 100000
namespace TB
open PySem PySem.Spec PyProof.Rows L2

/-! A def's promise, where no repr is under way around it. -/
section
variable (P : Program) (w : World) (K : PySem.W.Frag) (mg : Str → Option Value) (base : Heap)
structure FnG (CX : CXT) (k : Nat) (f : Addr) (fd : FuncData) (ps : List Str) (sp : Sp) : Prop where
  len : ∀ xs G R Z, sp xs G R Z → xs.length = ps.length
  run : ∀ (A : Around), A.guards = some [] → Room k A →
    ∀ (outer : List Env) (s : Shared) (H : Hp), Env0 P w K mg base A outer s H →
    ∀ (args : Args) (us : List Value) (vs : List V), BindsTo s fd args (ps.zip us) → Vals vs us →
    ∀ (Q : VK) (E : XK), sp vs H Q E →
      codeAny (model P w) A (Code.call (Value.ref f) args)
        (CR CX outer P w H s Q E) s
end

section
variable {P : Program} {w : World} {K : PySem.W.Frag} {mg : Str → Option Value} {base : Heap} {CX : CXT}
theorem FnG.of {k : Nat} {f : Addr} {fd : FuncData} {ps : List Str} {sp : Sp}
    (F : FnOk P w K mg base CX k f fd ps sp) : FnG P w K mg base CX k f fd ps sp :=
  ⟨F.len, fun A _ hr outer s H e0 args us vs hb r Q E h => F.run A outer s H args us vs Q E hr e0 hb r h⟩

/-- the body's walk gives the promise -/
theorem gfn {k : Nat} {f : Addr} {nm qual : Str} {prm : Arguments} {bd : List Stmt} {sc : Scope} {dV kV doc pm cdv ct oc : Value} {an od : Option Addr}
    {osl : Array (Option Value)} {N : List Str} {ps : List Str} {sp : Sp}
    (lk : K.lookup f = some ⟨oc, od, .func (PySem.W.fnOf nm qual prm bd sc dV kV doc pm an cdv ct), osl⟩)
    (hcd : PySem.W.codeIn K cdv qual = true) (S : FnScope N ps sc) (len : ∀ vs H Q E, sp vs H Q E → vs.length = ps.length)
    (walk : ∀ (A : Around), A.guards = some [] → ∀ (outer : List Env) (s : Shared) (H : Hp) (vs : List V) (Q : VK) (E : XK),
      Room k (A.deeper (envOfC qual sc s.heap.objs.size f cdv)) → sp vs H Q E →
      ∃ t, PSs (cxOf CX P w K mg base N qual sc f cdv A outer s H E) bd t ∧ t ⟨fun _ H' => Q .non H', Q, fun _ _ => False, fun _ _ => False⟩ (start N vs) H) :
    FnG P w K mg base CX (k + 1) f (PySem.W.fnOf nm qual prm bd sc dV kV doc pm an cdv ct) ps sp := by
  constructor
  · exact len
  intro A hg hr outer s H e0 args us vs hb r Q E hsp
  have keeps : ∀ b o, base.get? b = some o → s.heap.get? b = some o := fun b o e => (e0.bs b o e).1
  have KX : K.In s.heap := e0.mod.kin.keeps keeps
  have lim : s.heap.NoLimit := e0.mod.nolimit.keeps keeps
  obtain ⟨t, ht, hq⟩ := walk A hg outer s H vs Q E (hr.deeper _) hsp
  have crec := PySem.W.codeRec_of KX hcd
  refine codeAny_call_function hr.depth (KX _ _ lk) rfl S.co S.gen rfl crec (hb _ _ _ _ ?_)
  refine wpAny_newFunctionEnv_cells S.kind ?_ ?_
  · rintro ⟨n, v⟩ hy
    have q := S.par n (List.of_mem_zip hy).1
    cases q with
    | inl q => exact Or.inl q
    | inr q => exact Or.inr ⟨q, PySem.W.cellsFrom_some _ _ _ (Or.inl q)⟩
  · intro env he s1 x
    cases he
    have I := inv_start (CX := CX) (P := P) (w := w) (mg := mg) (N := N) (qual := qual) (f := f) (cd := cdv) (E := E) S hr.hd e0 (len _ _ _ _ hsp) r x
    refine ⟨lim.keeps x.toInCall.keep, codeAny_func (wpAny_mono (ht.run [] s1 (start N vs) H _ I hq) ?_ (fun e s' hs => hs))⟩
    intro fl s' hs
    match fl, hs with
    | .ret u, ⟨v, _, H', J, rv, q⟩ => exact ⟨v, H', J.os, J.bare, J.base, J.hok, rv, q⟩
    | .next, ⟨_, H', J, q⟩ => exact ⟨V.non, H', J.os, J.bare, J.base, J.hok, rfl, q⟩
    | .brk, ⟨_, _, _, q⟩ => exact q.elim
    | .cont, ⟨_, _, _, q⟩ => exact q.elim

theorem gok {x qual : Str} {st : Stmt} {f : Addr} {fd : FuncData} {N ps : List Str} {k : Nat} {sp : Sp} (F : Fun K x qual st f fd)
    (S : FnScope N ps (defScope st)) (len : ∀ vs H Q E, sp vs H Q E → vs.length = ps.length)
    (walk : ∀ (cdv : Value) (A : Around), A.guards = some [] → ∀ (outer : List Env) (s : Shared) (H : Hp) (vs : List V) (Q : VK) (E : XK),
      Room k (A.deeper (envOfC qual (defScope st) s.heap.objs.size f cdv)) → sp vs H Q E →
      ∃ t, PSs (cxOf CX0 P w K mg base N qual (defScope st) f cdv A outer s H E).nox (defBody st) t ∧
        t ⟨fun _ H' => Q .non H', Q, fun _ _ => False, fun _ _ => False⟩ (start N vs) H) :
    FnG P w K mg base CX0 (k + 1) f fd ps sp := by
  obtain ⟨_, _, _, _, _, _, cdv, _, _, rfl, lk, hcd⟩ := F.ex
  refine gfn lk hcd S len fun A hg outer s H vs Q E hr hsp => ?_
  obtain ⟨t, a, b⟩ := walk cdv A hg outer s H vs Q E hr hsp
  exact ⟨t, a.nox, b⟩
end

section
variable {X : Cx} {CX : CXT} {k : Nat} {f : Addr} {fd : FuncData} {ps : List Str} {sp : Sp} {dvs : List V} {ds : List Value} {E : XK} {x : Str} {p pos : Pos} {e : Expr} {es : List Expr} {t : TA}
/-- f(e, ..) of such a def -/
theorem pe_callG (F : FnG X.prog X.w X.K X.mg X.base CX k f fd ps sp) (gd : X.A.guards = some []) (hr : Room k X.A) (hg : Gl X x) (hm : X.mg x = some (.ref f))
    (hk : PySem.W.keepIn X.K (.ref f) = true) (hb : Binds X.K fd ps ds) (hd : Vals dvs ds) (hx : Passes CX X E) (ha : PA X (e :: es) t)
    (he : starEach (e :: es) X.env = (false, eval e X.env) :: starEach es X.env := by rfl) (hdb : (x == ("__debug__" : Str)) = false := by decide)
    (hpl : (backTo pos (starEach es X.env)).any (·.1) = false := by rfl) : PE X (.Call (.Name x p) (e :: es) [] pos) (tCall sp dvs E t) := by
  constructor
  intro pins s σ H Q I h
  refine wpAny_Call_Name_kw (ld_glob I hg hm (PySem.W.callWith_K (h₀ := X.base) I.ok.mod.kin hk (thn (ha.run pos pins s σ H _ I h) ?_) he hpl) hdb)
  rintro us s1 ⟨vs, H1, I1, r, q⟩
  have r2 := r.append hd
  have hl : (us ++ ds).length = ps.length := r2.length.symm.trans (F.len _ _ _ _ q)
  refine ⟨I1.kIn, wpAny_call (codeAny_mono (F.run X.A gd hr X.stack s1 H1 I1.env0 ⟨us, []⟩ _ _ (hb s1 us I1.kIn hl) r2 Q E q) ?_)⟩
  intro res s' hq
  match res, hq with
  | .error e, hq => exact hx pins σ H1 s1 e s' I1 hq
  | .ok (.ret u), hq => exact I1.after hq
  | .ok .next, hq => exact hq.elim
  | .ok .brk, hq => exact hq.elim
  | .ok .cont, hq => exact hq.elim
end

/-! repr of plain data -/
section
variable {X : Cx}
def rRepr (K : PySem.W.Frag) : List V → Hp → VK → Prop := fun xs H Q => ∃ a d, xs = [.ref a] ∧ Dp K H (.ref a) d ∧ d.showable = true ∧ d.hasDict = false ∧ d.depth ≤ 60 ∧ d.shown.length ≤ sizeLine ∧ Q (.str d.shown) H
theorem call_reprD (gd : X.A.guards = some []) (hu : X.A.units + 64 < cLine) : CallR X (.builtin "repr") (rRepr X.K) := by
  intro pins s σ H args us Q I r h
  obtain ⟨a, d, rfl, hd, hs, hn, hp, hz, q⟩ := h
  cases r with
  | cons r1 r2 =>
    cases r2
    have e := r1
    obtain rfl := show _ = Value.ref a from e
    obtain ⟨as, rd⟩ := Dp.reads I d _ _ hd rfl
    refine repr_of_reads' rd hs (PyData.noDict_hsm hn) gd (by omega) (fun _ _ z => z) (fun h' u tk k => ?_) hz
    exact ⟨.str d.shown, H, I.kept k, ⟨u, rfl⟩, q⟩

/-- xs[i] read, i no less than 0, by values -/
def rGetN (K : PySem.W.Frag) : V → V → Hp → VK → Prop := fun o i H Q => ∃ (p : Addr) (xs : List V) (j : Nat) (v : V), o = .ref p ∧ i = .int (j : Int) ∧ SqL K H p xs ∧ xs[j]? = some v ∧ Q v H
theorem get_list : PGet X (rGetN X.K) := by
  intro pins s σ H o i ov iv Q I ro ri h
  obtain ⟨p, xs, j, z, rfl, rfl, hq, he, q⟩ := h
  cases ro
  obtain ⟨t, rfl⟩ := ri
  obtain ⟨its, rl, pl, hz⟩ := I.list hq
  obtain ⟨v, ev, rv⟩ := rl.get he
  have hl := rl.length
  have hj : j < xs.length := (List.getElem?_eq_some_iff.mp he).1
  have hn := line63
  exact wpAny_getItem_list pl.isList (by omega) (by omega) (by rw [Int.toNat_natCast]; simpa using ev) ⟨z, H, I, rv, q⟩
end

/-! the law's own call, at the top's end -/
section
variable {P : Program} {w : World} {K : PySem.W.Frag} {mg mb : Str → Option Value} {k : Nat} {fa a : Addr} {fd : FuncData} {x : Str} {sp : Sp} {s1 : Shared} {vs : List Value} {ns : List Int}
/-- the abstract heap that tracks the script alone, or nothing -/
theorem lawG0 {H : Hp} (KX : K.In s1.heap) (hns : s1.heap.Ns mainGlobals mg) (hb : s1.heap.Ns builtinsNs mb)
    (hbb : ∀ y : Str, y ≠ "__name__" → mb y = bootBuiltins y) (hlim : s1.heap.NoLimit) (hg : s1.gens = #[])
    (ha : s1.heap.get? a = some { cls := .type "list", data := .seq vs.toArray }) (hr : Room k callerA)
    (F : ∀ base : Heap, K.In base → base.Ns mainGlobals mg → FnG P w K mg base CX0 k fa fd [x] sp)
    (hbind : ∀ (s : Shared) (u : Value), BindsTo s fd ⟨[u], []⟩ [(x, u)])
    (hO : Only H) (hok : HOk P w H s1.heap) (onlyA : ∀ b, H b ≠ none → b = a) (notK : H a ≠ none → K.lookup a = none)
    (hsp : sp [.ref a] H (fun v _ => v = .bl true) fun _ _ _ => False) :
    codeAny (model P w) callerA (.call (.ref fa) ⟨[.ref a], []⟩)
      (fun r s' => r = .ok (.ret (.bool true)) ∧ OldK s1.heap s'.heap ∧ s'.os = s1.os ∧ AllBare s'.gens) s1 := by
  have free : ∀ (b : Addr), (b = a → H b = none) → H b = none := by
    intro b hb
    by_cases e : H b = none
    · exact e
    · exact hb (onlyA b e)
  have nsB : ∀ {b : Addr} {m : Str → Option Value}, s1.heap.Ns b m → (hidT s1.heap H).Ns b m := by
    rintro b m ⟨o, es, ep, e, d, r⟩
    refine ⟨o, es, ep, hidT_get e (free b ?_), d, r⟩
    rintro rfl
    have q := Option.some.inj (e.symm.trans ha)
    rw [q] at d
    exact nomatch d
  have kinB : K.In (hidT s1.heap H) := by
    intro b o e
    refine hidT_get (KX b o e) (free b ?_)
    rintro rfl
    by_cases z : H b = none
    · exact z
    · exact absurd ((notK z).symm.trans e) (fun q => nomatch q)
  obtain ⟨mc, hl1, hl2⟩ := hlim
  have M : Mod K mg (hidT s1.heap H) := ⟨kinB, nsB hns, ⟨mb, nsB hb, hbb⟩, ⟨mc, nsB hl1, hl2⟩⟩
  have e0 : Env0 P w K mg (hidT s1.heap H) callerA [] s1 H :=
    { frames := rfl, mod := M, bs := fun b o e => of_hidT e, bsz := Nat.le_of_eq (hidT_size _ _), funs := trivial,
      frf := fun b hb => (nomatch (show b ∈ ([] : List Addr) from hb)), hok := hok, bare := .of_eq hg }
  have run := (F _ kinB (nsB hns)).run callerA rfl hr [] s1 H e0 ⟨[.ref a], []⟩ [.ref a] [.ref a] (hbind s1 _) (.cons rfl .nil) _ _ hsp
  refine codeAny_mono run ?_
  intro r s' h
  match r, h with
  | .ok (.ret u), ⟨v, H', os, bare, un, hok', rv, q⟩ =>
    have q' : v = V.bl true := q
    subst q'
    have eu : u = Value.bool true := rv
    subst eu
    refine ⟨rfl, OldK.of_keep ?_, os, bare⟩
    intro b o e
    by_cases z : H b = none
    · exact un.keep b o e z (fun q => nomatch (show b ∈ ([] : List Addr) from q)) (fun q => nomatch q)
    · rcases hO b with z1 | ⟨ob, xs, z1⟩
      · exact absurd z1 z
      · have e1 := (hok b _ z1).1
        have e2 := (hok' b _ (un.frzs b ob _ z1)).1
        rw [Option.some.inj (e.symm.trans e1)]
        exact e2

theorem lawG (KX : K.In s1.heap) (hns : s1.heap.Ns mainGlobals mg) (hb : s1.heap.Ns builtinsNs mb)
    (hbb : ∀ y : Str, y ≠ "__name__" → mb y = bootBuiltins y) (hlim : s1.heap.NoLimit) (hg : s1.gens = #[])
    (ha : s1.heap.get? a = some { cls := .type "list", data := .seq vs.toArray }) (hi : IntsAre vs ns) (hl : ns.length ≤ sizeLine) (hr : Room k callerA)
    (F : ∀ base : Heap, K.In base → base.Ns mainGlobals mg → FnG P w K mg base CX0 k fa fd [x] sp)
    (hbind : ∀ (s : Shared) (u : Value), BindsTo s fd ⟨[u], []⟩ [(x, u)])
    (hsp : ∀ H : Hp, SqL K H a (ns.map V.int) → sp [.ref a] H (fun v _ => v = .bl true) fun _ _ _ => False) :
    codeAny (model P w) callerA (.call (.ref fa) ⟨[.ref a], []⟩)
      (fun r s' => r = .ok (.ret (.bool true)) ∧ OldK s1.heap s'.heap ∧ s'.os = s1.os ∧ AllBare s'.gens) s1 := by
  have rv := vals_ints hi
  by_cases hk : K.lookup a = none
  · let ob : Obj := { cls := .type "list", data := .seq vs.toArray }
    let H : Hp := upd (fun _ => none) a (.frz ob (.lst (ns.map V.int)))
    have hA : H a = some (.frz ob (.lst (ns.map V.int))) := upd_same
    have hN : ∀ b, b ≠ a → H b = none := fun b ne => upd_ne ne
    refine lawG0 (H := H) KX hns hb hbb hlim hg ha hr F hbind ?_ ?_ ?_ (fun _ => hk) (hsp H (.inl (.inr ⟨ob, hA⟩)))
    · intro b
      by_cases e : b = a
      · exact .inr ⟨ob, _, e ▸ hA⟩
      · exact .inl (hN b e)
    · intro b u q
      by_cases e : b = a
      · subst e
        cases Option.some.inj (q.symm.trans hA)
        exact ⟨ha, Nat.le_trans (Nat.le_of_eq (List.length_map V.int)) hl, vs, _, rv, ha⟩
      · exact nomatch (hN b e).symm.trans q
    · intro b q
      by_cases e : b = a
      · exact e
      · exact absurd (hN b e) q
  · obtain ⟨o, ho⟩ := Option.ne_none_iff_exists'.mp hk
    have eo := Option.some.inj ((KX a o ho).symm.trans ha)
    subst eo
    refine lawG0 (H := fun _ => none) KX hns hb hbb hlim hg ha hr F hbind (fun _ => .inl rfl) (fun b u q => nomatch q) (fun b q => absurd rfl q) (fun q => absurd rfl q) (hsp _ (.inr ?_))
    exact ⟨_, vs.toArray, _, ho, rfl, rfl, rfl, by rw [List.size_toArray, hi.length]; exact hl, rv⟩
end

theorem walkG {l : PySem.W.OpenLaw} {n k : Nat} {q : Program} {loose : List Str} {XP : (Str → Option Value) → Heap → Prop} {YP : World → Heap → Prop} {d : DefRec} {K : Params → PySem.W.Frag} {sp : World → Sp} {x : Str}
    (hn : l.most = some n) (hn2 : n ≤ sizeLine) (hdf : d.params.defaults = [])
    (hY : ∀ (w : World) (h : Heap), YP w h → (K w.params).In h) (hr : Room k callerA)
    (F : ∀ (w : World) (mg : Str → Option Value) (fa : Addr) (g : Heap), (K w.params).In g → g.Ns mainGlobals mg → mg d.name = some (.ref fa) →
      ∃ fd : FuncData, (∀ (s : Shared) (v : Value), BindsTo s fd ⟨[v], []⟩ [(x, v)]) ∧
        ∀ base : Heap, (K w.params).In base → base.Ns mainGlobals mg → FnG l.prog w (K w.params) mg base CX0 k fa fd [x] (sp w))
    (hsp : ∀ (w : World) (H : Hp) (a : Addr) (ns : List Int), ns.length ≤ n → SqL (K w.params) H a (ns.map V.int) → sp w [.ref a] H (fun v _ => v = .bl true) fun _ _ _ => False) :
    PySem.W.WalkO q loose XP YP l.row.toRowW d [] fun f us => PySem.call f us := by
  refine Att.attach_call hn hdf ?_
  intro w s₀ s₁ mg mb fa o pm cd doc a vs ns G Y ho hd hcd hmg hobj hints hlen hg
  have KX := hY w _ Y
  obtain ⟨fd, bnd, prom⟩ := F w mg fa _ KX G.T.g hmg
  exact lawG KX G.T.g G.T.b G.T.builtins G.T.nolimit hg hobj hints (Nat.le_trans hlen hn2) hr prom bnd (fun H hS => hsp w H a ns hlen hS)
end TB

set_option Elab.async false
set_option linter.all false
set_option maxRecDepth 100000
namespace TB
open PySem PySem.Spec PyProof.Rows L2

/-! ### what is shown -/
structure Sh (k n : Nat) (d : PyData) : Prop where
  sh : d.showable = true
  nd : d.hasDict = false
  dp : d.depth ≤ k
  ln : d.shown.length ≤ n
theorem sh_int {i : Int} (h : i.natAbs < 2 ^ 100) : Sh 0 1921 (.int i) := by
  have hl : i.natAbs.log2 < 1920 := by
    by_cases h0 : i.natAbs = 0
    · rw [h0]; decide
    · exact (Nat.log2_lt h0).2 (Nat.lt_of_lt_of_le h (Nat.pow_le_pow_right (by decide) (by decide)))
  refine ⟨by simp only [PyData.showable, decide_eq_true_eq]; exact hl, by simp only [PyData.hasDict], by simp [PyData.depth], ?_⟩
  simp only [PyData.shown]
  exact int_text_len_1921 hl
theorem all_len {ds : List PyData} {k n : Nat} (h : ∀ d ∈ ds, Sh k n d) : PyData.showableAll ds = true ∧ PyData.hasDictAll ds = false ∧ PyData.depthAll ds ≤ k ∧ ((PyData.shownAll ds).map (·.length)).sum ≤ ds.length * n ∧ (PyData.shownAll ds).length = ds.length := by
  induction ds with
  | nil => simp [PyData.showableAll, PyData.hasDictAll, PyData.depthAll, PyData.shownAll]
  | cons d ds ih =>
    obtain ⟨a, b, c, e, f⟩ := ih fun x hx => h x (List.mem_cons_of_mem _ hx)
    have g := h d List.mem_cons_self
    refine ⟨by simp only [PyData.showableAll, g.sh, a, Bool.and_self], by simp only [PyData.hasDictAll, g.nd, b, Bool.or_self], ?_, ?_, ?_⟩
    · simp only [PyData.depthAll]
      have := g.dp
      omega
    · simp only [PyData.shownAll, List.map_cons, List.sum_cons, List.length_cons]
      have := g.ln
      rw [Nat.add_mul]
      omega
    · simp only [PyData.shownAll, List.length_cons, f]
theorem sh_tup {ds : List PyData} {k n : Nat} (h : ∀ d ∈ ds, Sh k n d) : Sh (k + 1) (ds.length * n + 2 * ds.length + 3) (.tuple ds) := by
  obtain ⟨a, b, c, e, f⟩ := all_len h
  refine ⟨by simp only [PyData.showable, a], by simp only [PyData.hasDict, b], by simp only [PyData.depth]; omega, ?_⟩
  simp only [PyData.shown]
  refine Nat.le_trans (tupleText_len_le _) ?_
  rw [f]
  omega
theorem sh_lst {ds : List PyData} {k n : Nat} (h : ∀ d ∈ ds, Sh k n d) : Sh (k + 1) (ds.length * n + 2 * ds.length + 3) (.list ds) := by
  obtain ⟨a, b, c, e, f⟩ := all_len h
  refine ⟨by simp only [PyData.showable, a], by simp only [PyData.hasDict, b], by simp only [PyData.depth]; omega, ?_⟩
  simp only [PyData.shown]
  refine Nat.le_trans (listText_len_le _) ?_
  rw [f]
  omega
theorem Sh.mono {k k' n n' : Nat} {d : PyData} (h : Sh k n d) (a : k ≤ k') (b : n ≤ n') : Sh k' n' d :=
  ⟨h.sh, h.nd, Nat.le_trans h.dp a, Nat.le_trans h.ln b⟩
def dInts (ns : List Int) : List PyData := ns.map PyData.int
theorem sh_ints {ns : List Int} (h : ∀ v ∈ ns, v.natAbs < 2 ^ 100) (hl : ns.length ≤ 100) : Sh 1 200000 (.tuple (dInts ns)) := by
  refine (sh_tup (k := 0) (n := 1921) fun d hd => ?_).mono (by omega) ?_
  · obtain ⟨v, hv, rfl⟩ := List.mem_map.mp hd
    exact sh_int (h v hv)
  · unfold dInts
    rw [List.length_map]
    omega
theorem dp_ints {K : PySem.W.Frag} {H : Hp} : ∀ ns : List Int, DpAll K H (ns.map V.int) (dInts ns)
  | [] => DpAll.nil
  | n :: ns => DpAll.cons (Dp.int n) (dp_ints ns)

/-- a comprehension without an if -/
theorem yes {σ : L2.St} {H : Hp} {R : Bool → Hp → Prop} (h : R true H) : tYes σ H R := h
theorem iteS {c A B : Prop} [Decidable c] (hc : c) (h : A) : if decide c = true then A else B := by
  rw [if_pos (decide_eq_true hc)]
  exact h
theorem ixN_nat {n k : Nat} (h : k < n) : ixN n (k : Int) = some k := by
  unfold ixN
  rw [if_pos (by omega), if_pos (by omega)]
  simp
theorem take_more {α : Type} {xs : List α} {i : Nat} {x : α} (h : xs[i]? = some x) : xs.take (i + 1) = xs.take i ++ [x] := by
  rw [List.take_add_one, h]
  rfl

theorem map_get {α β : Type} {f : α → β} {xs : List α} {i : Nat} {d : β} (h : (xs.map f)[i]? = some d) : ∃ p, xs[i]? = some p ∧ d = f p := by
  rw [List.getElem?_map] at h
  cases e : xs[i]? with
  | none => rw [e] at h; cases h
  | some p => rw [e] at h; exact ⟨p, rfl, (Option.some.inj h).symm⟩
theorem map_take_more {α β : Type} {f : α → β} {xs : List α} {i : Nat} {x : α} (h : xs[i]? = some x) : (xs.take (i + 1)).map f = (xs.take i).map f ++ [f x] := by
  rw [take_more h, List.map_append]
  rfl

/-! ### heaps -/
theorem same_upd {H : Hp} {p : Addr} {o : HO} (h : H p = none) : Same H (upd H p o) := fun b x e => by
  rw [upd_ne (ne_of_none e h)]
  exact e
theorem Same.tup {K : PySem.W.Frag} {H H' : Hp} {a : Addr} {xs : List V} (e : Same H H') (h : SqT K H a xs) : SqT K H' a xs := by
  rcases h with (h | ⟨o, h⟩) | h
  · exact .inl (.inl (e _ _ h))
  · exact .inl (.inr ⟨o, e _ _ h⟩)
  · exact .inr h
/-- all that was tracked is as it was, but what stands at f -/
def But (f : Addr) (H H' : Hp) : Prop := ∀ b o, b ≠ f → H b = some o → H' b = some o
theorem But.refl (f : Addr) (H : Hp) : But f H H := fun _ _ _ h => h
theorem But.trans {f : Addr} {H H1 H2 : Hp} (a : But f H H1) (b : But f H1 H2) : But f H H2 := fun c o n h => b c o n (a c o n h)
theorem But.same {f : Addr} {H H1 H2 : Hp} (a : But f H H1) (b : Same H1 H2) : But f H H2 := fun c o n h => b c o (a c o n h)
theorem But.of {f : Addr} {H H' : Hp} (a : Same H H') : But f H H' := fun c o _ h => a c o h
theorem But.upd {f : Addr} {H : Hp} {o : HO} : But f H (upd H f o) := fun b x n e => by
  rw [upd_ne n]
  exact e
theorem But.free {f : Addr} {H H' : Hp} {zs : List V} (e : But f H H') (hf : H' f = some (.lst zs)) {l : Addr} (h : H' l = none) : H l = none := by
  cases q : H l with
  | none => rfl
  | some o =>
    have n : l ≠ f := fun z => by
      rw [z, hf] at h
      cases h
    rw [e l o n q] at h
    cases h
mutual
theorem Dp.same {K : PySem.W.Frag} {H H' : Hp} (e : Same H H') : ∀ (d : PyData) (v : V), Dp K H v d → Dp K H' v d
  | .none, _, .non => .non
  | .bool _, _, .bl b => .bl b
  | .int _, _, .int i => .int i
  | .str _, _, .str x => .str x
  | .list ds, _, .lst h a => .lst (e.seq h) (DpAll.same e ds _ a)
  | .tuple ds, _, .tup h a => .tup (TB.Same.tup e h) (DpAll.same e ds _ a)
theorem DpAll.same {K : PySem.W.Frag} {H H' : Hp} (e : Same H H') : ∀ (ds : List PyData) (vs : List V), DpAll K H vs ds → DpAll K H' vs ds
  | [], _, .nil => .nil
  | d :: ds, _, .cons h t => .cons (Dp.same e d _ h) (DpAll.same e ds _ t)
end
theorem DpAll.snoc {K : PySem.W.Frag} {H : Hp} {v : V} {d : PyData} (h : Dp K H v d) : ∀ {vs : List V} {ds : List PyData}, DpAll K H vs ds → DpAll K H (vs ++ [v]) (ds ++ [d])
  | _, _, .nil => .cons h .nil
  | _, _, .cons a t => .cons a (DpAll.snoc h t)
theorem DpAll.len {K : PySem.W.Frag} {H : Hp} : ∀ {vs : List V} {ds : List PyData}, DpAll K H vs ds → vs.length = ds.length
  | _, _, .nil => rfl
  | _, _, .cons _ t => congrArg Nat.succ (DpAll.len t)
theorem DpAll.get {K : PySem.W.Frag} {H : Hp} : ∀ {vs : List V} {ds : List PyData} {i : Nat} {v : V}, DpAll K H vs ds → vs[i]? = some v → ∃ d, ds[i]? = some d ∧ Dp K H v d
  | _, _, _, _, .nil, h => by simp at h
  | _, _, 0, _, .cons a _, h => ⟨_, rfl, by simp at h; subst h; exact a⟩
  | _, _, i + 1, _, .cons _ t, h => by
    obtain ⟨d, e, q⟩ := DpAll.get t (i := i) (by simpa using h)
    exact ⟨d, by simpa using e, q⟩
theorem Dp.tup_inv {K : PySem.W.Frag} {H : Hp} {v : V} {ds : List PyData} (h : Dp K H v (.tuple ds)) : ∃ a xs, v = .ref a ∧ SqT K H a xs ∧ DpAll K H xs ds := by
  cases h with
  | tup h a => exact ⟨_, _, rfl, h, a⟩
theorem Dp.lst_inv {K : PySem.W.Frag} {H : Hp} {v : V} {ds : List PyData} (h : Dp K H v (.list ds)) : ∃ a xs, v = .ref a ∧ SqL K H a xs ∧ DpAll K H xs ds := by
  cases h with
  | lst h a => exact ⟨_, _, rfl, h, a⟩
theorem DpAll.cons_inv {K : PySem.W.Frag} {H : Hp} {xs : List V} {d : PyData} {ds : List PyData} (h : DpAll K H xs (d :: ds)) : ∃ v vs, xs = v :: vs ∧ Dp K H v d ∧ DpAll K H vs ds := by
  cases h with
  | cons a t => exact ⟨_, _, rfl, a, t⟩
theorem DpAll.nil_inv {K : PySem.W.Frag} {H : Hp} {xs : List V} (h : DpAll K H xs []) : xs = [] := by
  cases h
  rfl
theorem Dp.int_inv {K : PySem.W.Frag} {H : Hp} {v : V} {i : Int} (h : Dp K H v (.int i)) : v = .int i := by
  cases h
  rfl
theorem Dp.str_inv {K : PySem.W.Frag} {H : Hp} {v : V} {i : Str} (h : Dp K H v (.str i)) : v = .str i := by
  cases h
  rfl
theorem dp_strs {K : PySem.W.Frag} {H : Hp} : ∀ ns : List Str, DpAll K H (ns.map V.str) (ns.map PyData.str)
  | [] => DpAll.nil
  | n :: ns => DpAll.cons (Dp.str n) (dp_strs ns)

/-! no list stands in it -/
mutual
def noL : PyData → Bool
  | .list _ => false
  | .tuple xs => noLs xs
  | .dict _ => false
  | _ => true
def noLs : List PyData → Bool
  | [] => true
  | x :: xs => noL x && noLs xs
end
theorem SqT.but {K : PySem.W.Frag} {H H' : Hp} {o a : Addr} {xs zs : List V} (e : But o H H') (ho : H o = some (.lst zs)) (h : SqT K H a xs) : SqT K H' a xs := by
  rcases h with (h | ⟨u, h⟩) | h
  · exact .inl (.inl (e _ _ (ne_of h ho (fun z => nomatch z)) h))
  · exact .inl (.inr ⟨u, e _ _ (ne_of h ho (fun z => nomatch z)) h⟩)
  · exact .inr h
mutual
theorem Dp.but {K : PySem.W.Frag} {H H' : Hp} {o : Addr} {zs : List V} (e : But o H H') (ho : H o = some (.lst zs)) : ∀ (d : PyData) (v : V), noL d = true → Dp K H v d → Dp K H' v d
  | .none, _, _, .non => .non
  | .bool _, _, _, .bl b => .bl b
  | .int _, _, _, .int i => .int i
  | .str _, _, _, .str x => .str x
  | .list ds, _, n, _ => by simp [noL] at n
  | .tuple ds, _, n, .tup h a => .tup (TB.SqT.but e ho h) (DpAll.but e ho ds _ (by simpa only [noL] using n) a)
theorem DpAll.but {K : PySem.W.Frag} {H H' : Hp} {o : Addr} {zs : List V} (e : But o H H') (ho : H o = some (.lst zs)) : ∀ (ds : List PyData) (vs : List V), noLs ds = true → DpAll K H vs ds → DpAll K H' vs ds
  | [], _, _, .nil => .nil
  | d :: ds, _, n, .cons h t => by
    simp only [noLs, Bool.and_eq_true] at n
    exact .cons (Dp.but e ho d _ n.1 h) (DpAll.but e ho ds _ n.2 t)
end
theorem noLs_of {ds : List PyData} (h : ∀ d ∈ ds, noL d = true) : noLs ds = true := by
  induction ds with
  | nil => rfl
  | cons d ds ih => simp only [noLs, h d List.mem_cons_self, ih fun x hx => h x (List.mem_cons_of_mem _ hx), Bool.and_self]
theorem noLs_snoc {ds : List PyData} {d : PyData} (h : noLs ds = true) (n : noL d = true) : noLs (ds ++ [d]) = true := by
  induction ds with
  | nil => simp only [List.nil_append, noLs, n, Bool.and_true]
  | cons x ds ih =>
    simp only [noLs, Bool.and_eq_true] at h
    simp only [List.cons_append, noLs, h.1, ih h.2, Bool.and_self]

/-! ### a list that is being filled: at D, with these data -/
structure Acc (K : PySem.W.Frag) (H : Hp) (D : Addr) (ds : List PyData) : Prop where
  ex : ∃ us, H D = some (.lst us) ∧ DpAll K H us ds
  nl : noLs ds = true
theorem Acc.start {K : PySem.W.Frag} {H : Hp} {D : Addr} : Acc K (upd H D (.lst [])) D [] := ⟨⟨[], upd_same, .nil⟩, rfl⟩
theorem Acc.same {K : PySem.W.Frag} {H H' : Hp} {D : Addr} {ds : List PyData} (h : Acc K H D ds) (e : Same H H') : Acc K H' D ds := by
  obtain ⟨us, a, b⟩ := h.ex
  exact ⟨⟨us, e _ _ a, DpAll.same e _ _ b⟩, h.nl⟩
theorem Acc.but {K : PySem.W.Frag} {H H' : Hp} {D F : Addr} {ds : List PyData} {zs : List V} (h : Acc K H D ds) (e : But F H H') (hF : H F = some (.lst zs)) (n : D ≠ F) : Acc K H' D ds := by
  obtain ⟨us, a, b⟩ := h.ex
  exact ⟨⟨us, e _ _ n a, DpAll.but e hF _ _ h.nl b⟩, h.nl⟩
/-- one more -/
theorem Acc.more {K : PySem.W.Frag} {H : Hp} {D : Addr} {ds : List PyData} {v : V} {d : PyData} (h : Acc K H D ds) (dv : Dp K H v d) (n : noL d = true) (hl : ds.length ≤ 900) :
    ∃ us, H D = some (.lst us) ∧ us.length < sizeLine ∧ Acc K (upd H D (.lst (us ++ [v]))) D (ds ++ [d]) := by
  obtain ⟨us, a, b⟩ := h.ex
  have bu : But D H (upd H D (.lst (us ++ [v]))) := But.upd
  exact ⟨us, a, by rw [DpAll.len b]; exact small1000 (by omega), ⟨us ++ [v], upd_same, DpAll.snoc (Dp.but bu a _ _ n dv) (DpAll.but bu a _ _ h.nl b)⟩, noLs_snoc h.nl n⟩

theorem same_new {H H2 : Hp} {D : Addr} {o : HO} (nD : H D = none) (sm : Same H H2) : Same H (upd H2 D o) := fun c x e => by
  rw [upd_ne (ne_of_none e nD)]
  exact sm c x e
/-- a turn of a comprehension that changes nothing else -/
theorem Acc.turn {K : PySem.W.Frag} {H H1 H2 : Hp} {D : Addr} {ds ds' : List PyData} {v : V} {d : PyData} (nD : H D = none) (sm : Same H H1) (ac : Acc K H1 D ds) (s2 : Same H1 H2) (dv : Dp K H2 v d) (n : noL d = true) (hl : ds.length ≤ 900) (he : ds' = ds ++ [d]) :
    ∃ acc, H2 D = some (.lst acc) ∧ acc.length < sizeLine ∧ (Same H (upd H2 D (.lst (acc ++ [v]))) ∧ Acc K (upd H2 D (.lst (acc ++ [v]))) D ds') := by
  obtain ⟨us, a, b, c⟩ := (ac.same s2).more dv n hl
  exact ⟨us, a, b, same_new nD (sm.trans s2), he ▸ c⟩
/-- the tuple of all that was filled in -/
theorem Acc.tuple {K : PySem.W.Frag} {H : Hp} {D t : Addr} {us : List V} {ds : List PyData} (dv : DpAll K H us ds) (nt : H t = none) : Dp K (upd H t (.tup us)) (.ref t) (.tuple ds) :=
  .tup (.inl (.inl upd_same)) (DpAll.same (same_upd nt) _ _ dv)

/-! ### repr, its text kept shut -/
@[irreducible] def txt (d : PyData) : Str := d.shown
theorem txt_eq (d : PyData) : txt d = d.shown := by
  unfold txt
  rfl
section
variable {X : Cx}
def rReprT (K : PySem.W.Frag) : List V → Hp → VK → Prop := fun xs H Q => ∃ a d, xs = [.ref a] ∧ Dp K H (.ref a) d ∧ d.showable = true ∧ d.hasDict = false ∧ d.depth ≤ 60 ∧ d.shown.length ≤ sizeLine ∧ Q (.str (txt d)) H
theorem call_reprT (gd : X.A.guards = some []) (hu : X.A.units + 64 < cLine) : CallR X (.builtin "repr") (rReprT X.K) := by
  intro pins s σ H args us Q I r h
  obtain ⟨a, d, e, hd, hs, hn, hp, hz, q⟩ := h
  refine call_reprD gd hu pins s σ H args us Q I r ⟨a, d, e, hd, hs, hn, hp, hz, ?_⟩
  rw [← txt_eq]
  exact q
end

/-! ### a call by names alone -/
section
variable {X : Cx} {CX : CXT} {k : Nat} {f : Addr} {fd : FuncData} {ps ks : List Str} {sp : Sp} {E : XK} {x : Str} {p pos : Pos} {kws : List Keyword} {tk : TA} {g : List Value → List Value → List Value} {gV : List V → List V → List V}
theorem pe_callN0 (F : FnOk X.prog X.w X.K X.mg X.base CX k f fd ps sp) (hr : Room k X.A) (hg : Gl X x) (hm : X.mg x = some (.ref f)) (hk : PySem.W.keepIn X.K (.ref f) = true) (hb : KBn X.K fd ps 0 ks g gV) (hx : Passes CX X E) (hkw : PK X kws tk)
    (hks : (backToKw pos (keywordEach kws X.env)).filterMap (·.1) = ks := by rfl) (hall : (backToKw pos (keywordEach kws X.env)).all (·.1.isSome) = true := by rfl)
    (hpl : ((backTo pos (starEach [] X.env)).any (·.1) || (backToKw pos (keywordEach kws X.env)).any (·.1.isNone)) = false := by rfl) (hdb : (x == ("__debug__" : Str)) = false := by decide) :
    PE X (.Call (.Name x p) [] kws pos) (tCallN 0 ks.length sp gV E tNil tk) := by
  constructor
  intro pins s σ H Q I h
  refine wpAny_Call_Name_kw (ld_glob I hg hm (PySem.W.callWith_KW0 (h₀ := X.base) I.ok.mod.kin hk hall (thn (hkw.run pos pins s σ H _ I h) ?_) hpl) hdb)
  rintro ws s2 ⟨zs, H2, I2, rz, l1, l2, q2⟩
  rw [hks]
  exact ⟨I2.kIn, run_fnN (us := []) (vs := []) F hr hb hx I2 .nil rz l1 l2 q2⟩
end
end TB

set_option Elab.async false
set_option linter.all false
set_option maxRecDepth 100000
set_option maxHeartbeats 400000
namespace K80
open PySem PySem.Spec PyProof.Rows L2 TB

/-! ### the text -/
def topS (i : Nat) : Stmt := PySem.Challenge.pw_tablebills_k80_minutes_moved.main.body.getD i (.Pass ⟨0, 0, 0, 0⟩)
abbrev sHL : Stmt := topS 1
abbrev sLP : Stmt := topS 2
abbrev sFeed : Stmt := topS 4
abbrev sNext : Stmt := topS 5
abbrev sWords : Stmt := topS 6
abbrev sPrices : Stmt := topS 7
abbrev sHouse : Stmt := topS 8
abbrev sPR : Stmt := topS 9
abbrev sWant : Stmt := topS 10
abbrev sLaw : Stmt := topS 11
theorem scLP : FnScope ["prices", "later", "start", "pence"] ["prices", "later"] (defScope sLP) := ⟨rfl, rfl, rfl, by decide +kernel, rfl, by decide +kernel, by decide +kernel⟩
theorem scHL : FnScope ["house", "later", "menu", "offs", "wait", "fires", "rows", "cheaper", "item", "minutes", "prices", "items", "start", "until", "percent"] ["house", "later"] (defScope sHL) := ⟨rfl, rfl, rfl, by decide +kernel, rfl, by decide +kernel, by decide +kernel⟩

/-! ### houses -/
structure MRow where
  item : Str
  mins : Int
  prs : List (Int × Int)
structure MOff where
  its : List Str
  a : Int
  b : Int
  c : Int
structure MHouse where
  menu : List MRow
  offs : List MOff
  wait : Int
  fires : Int
def dPr (p : Int × Int) : PyData := .tuple [.int p.1, .int p.2]
def dPrs (ps : List (Int × Int)) : PyData := .tuple (ps.map dPr)
def dMRow (r : MRow) : PyData := .tuple [.str r.item, .int r.mins, dPrs r.prs]
def dMOff (o : MOff) : PyData := .tuple [.tuple (o.its.map PyData.str), .int o.a, .int o.b, .int o.c]
def dHouse (h : MHouse) : PyData := .tuple [.tuple (h.menu.map dMRow), .tuple (h.offs.map dMOff), .int h.wait, .int h.fires]
def ltPr (l : Int) (p : Int × Int) : Int × Int := (if 0 < p.1 then p.1 + l else p.1, p.2)
def ltRow (l : Int) (r : MRow) : MRow := ⟨r.item, r.mins, r.prs.map (ltPr l)⟩
def ltOff (l : Int) (o : MOff) : MOff := ⟨o.its, o.a + l, o.b + l, o.c⟩
def ltHouse (l : Int) (h : MHouse) : MHouse := ⟨h.menu.map (ltRow l), h.offs.map (ltOff l), h.wait, h.fires⟩
theorem noL_prs (ps : List (Int × Int)) : noL (dPrs ps) = true := by
  show noLs (ps.map dPr) = true
  exact noLs_of fun d hd => by
    obtain ⟨p, _, rfl⟩ := List.mem_map.mp hd
    rfl
theorem noL_row (r : MRow) : noL (dMRow r) = true := by
  show (true && (true && (noL (dPrs r.prs) && true))) = true
  rw [noL_prs]
  rfl
theorem noL_strs (xs : List Str) : noLs (xs.map PyData.str) = true := noLs_of fun d hd => by
  obtain ⟨p, _, rfl⟩ := List.mem_map.mp hd
  rfl
theorem noL_off (o : MOff) : noL (dMOff o) = true := by
  show (noLs (o.its.map PyData.str) && _) = true
  rw [noL_strs]
  rfl
section
variable {P : Program} {w : World} {K : PySem.W.Frag} {mg : Str → Option Value} {base : Heap}
theorem pair_inv {H : Hp} {v : V} {p : Int × Int} (h : Dp K H v (dPr p)) : ∃ t, v = .ref t ∧ SqT K H t [.int p.1, .int p.2] := by
  obtain ⟨t, ys, rfl, hT, dT⟩ := Dp.tup_inv h
  obtain ⟨v1, r1, rfl, d1, dT⟩ := DpAll.cons_inv dT
  obtain ⟨v2, r2, rfl, d2, dT⟩ := DpAll.cons_inv dT
  cases DpAll.nil_inv dT
  cases Dp.int_inv d1
  cases Dp.int_inv d2
  exact ⟨t, rfl, hT⟩
theorem row_inv {H : Hp} {v : V} {r : MRow} (h : Dp K H v (dMRow r)) : ∃ t v3, v = .ref t ∧ SqT K H t [.str r.item, .int r.mins, v3] ∧ Dp K H v3 (dPrs r.prs) := by
  obtain ⟨t, ys, rfl, hT, dT⟩ := Dp.tup_inv h
  obtain ⟨v1, r1, rfl, d1, dT⟩ := DpAll.cons_inv dT
  obtain ⟨v2, r2, rfl, d2, dT⟩ := DpAll.cons_inv dT
  obtain ⟨v3, r3, rfl, d3, dT⟩ := DpAll.cons_inv dT
  cases DpAll.nil_inv dT
  cases Dp.str_inv d1
  cases Dp.int_inv d2
  exact ⟨t, v3, rfl, hT, d3⟩
theorem off_inv {H : Hp} {v : V} {o : MOff} (h : Dp K H v (dMOff o)) : ∃ t v1, v = .ref t ∧ SqT K H t [v1, .int o.a, .int o.b, .int o.c] ∧ Dp K H v1 (.tuple (o.its.map PyData.str)) := by
  obtain ⟨t, ys, rfl, hT, dT⟩ := Dp.tup_inv h
  obtain ⟨v1, r1, rfl, d1, dT⟩ := DpAll.cons_inv dT
  obtain ⟨v2, r2, rfl, d2, dT⟩ := DpAll.cons_inv dT
  obtain ⟨v3, r3, rfl, d3, dT⟩ := DpAll.cons_inv dT
  obtain ⟨v4, r4, rfl, d4, dT⟩ := DpAll.cons_inv dT
  cases DpAll.nil_inv dT
  cases Dp.int_inv d2
  cases Dp.int_inv d3
  cases Dp.int_inv d4
  exact ⟨t, v1, rfl, hT, d1⟩
theorem house_inv {H : Hp} {v : V} {h : MHouse} (hh : Dp K H v (dHouse h)) : ∃ t a b xs ys, v = .ref t ∧ SqT K H t [.ref a, .ref b, .int h.wait, .int h.fires] ∧ SqT K H a xs ∧ DpAll K H xs (h.menu.map dMRow) ∧ SqT K H b ys ∧ DpAll K H ys (h.offs.map dMOff) := by
  obtain ⟨t, zs, rfl, hT, dT⟩ := Dp.tup_inv hh
  obtain ⟨v1, r1, rfl, d1, dT⟩ := DpAll.cons_inv dT
  obtain ⟨v2, r2, rfl, d2, dT⟩ := DpAll.cons_inv dT
  obtain ⟨v3, r3, rfl, d3, dT⟩ := DpAll.cons_inv dT
  obtain ⟨v4, r4, rfl, d4, dT⟩ := DpAll.cons_inv dT
  cases DpAll.nil_inv dT
  cases Dp.int_inv d3
  cases Dp.int_inv d4
  obtain ⟨a, xs, rfl, hA, dA⟩ := Dp.tup_inv d1
  obtain ⟨b, ys, rfl, hB, dB⟩ := Dp.tup_inv d2
  exact ⟨t, a, b, xs, ys, rfl, hT, hA, dA, hB, dB⟩

/-! ### later_prices -/
def spLP (K : PySem.W.Frag) : Sp := fun vs H Q _ => ∃ (v : V) (ps : List (Int × Int)) (l : Int), vs = [v, .int l] ∧ Dp K H v (dPrs ps) ∧ ps.length ≤ 500 ∧
  ∀ H' r, Same H H' → Dp K H' r (dPrs (ps.map (ltPr l))) → Q r H'
theorem ok_lp {f : Addr} {fd : FuncData} {k : Nat} (F : Fun K "later_prices" "later_prices" sLP f fd) (m_tuple : mg "tuple" = none) : FnOk P w K mg base CX0 (k + 1) f fd ["prices", "later"] (spLP K) := by
  refine F.ok scLP (fun vs H Q E h => ?_) (fun cdv A outer s H vs Q E hr h => ?_)
  · obtain ⟨v, ps, l, rfl, _⟩ := h
    rfl
  · obtain ⟨v, ps, l, rfl, hd, hl, q⟩ := h
    refine ⟨_, (pss_one (ps_ret (pe_callTy call_tuple_of (by rfl) m_tuple (by decide +kernel) (pa_cons (pe_lc (own := [("start", 2), ("pence", 3)]) (g := gTup K 2 (gCons (gName 2) (gCons (gName 3) gNil))) (tt := tYes) rfl scLP.nd (pi_tup (pv 0)) (blkOk_by (own := [("start", 2), ("pence", 3)]) (N := ["prices", "later", "start", "pence"]) (sc := defScope sLP) (by decide +kernel)) (fun _ _ _ _ _ => (pg_tup rfl (pgs_cons (pg_name (i := 2) scLP.nd rfl (.inl rfl)) (pgs_cons (pg_name (i := 3) scLP.nd rfl (.inl rfl)) pgs_nil)))) (fun _ _ _ _ _ => pts_nil) (fun _ _ _ _ _ => (pe_tup (pa_cons (pe_ifExp (pt_cmpR op_gt (pv 2) pe_int (nomark _)) (pe_op op_add (pv 2) (pv 1)) (pv 2)) (pa_cons (pv 3) pa_nil))))) pa_nil)))), ?_⟩
    obtain ⟨a, xs, rfl, hA, dA⟩ := Dp.tup_inv hd
    have hxl := DpAll.len dA
    rw [List.length_map] at hxl
    refine ⟨_, rfl, a, rfl, ⟨_, hA⟩, fun D nD => ?_⟩
    refine lc_tup (xs := xs) (fun i H1 => Same H H1 ∧ Acc K H1 D ((ps.take i).map fun p => dPr (ltPr l p))) ⟨same_upd nD, Acc.start⟩ ?_ ?_ ?_
    · rintro i H1 _ ⟨sm, _⟩
      exact TB.Same.tup sm hA
    · rintro i x H1 hx ⟨sm, ac⟩
      obtain ⟨d, hd, dx⟩ := DpAll.get dA hx
      obtain ⟨p, hp, rfl⟩ := map_get hd
      obtain ⟨t, rfl, hT⟩ := pair_inv dx
      refine ⟨t, _, rfl, TB.Same.tup sm hT, rfl, _, _, rfl, _, _, rfl, rfl, rfl, yes (iteT ?_)⟩
      have hil : ((ps.take i).map fun p => dPr (ltPr l p)).length ≤ 900 := by
        rw [List.length_map, List.length_take]
        omega
      refine ⟨_, rfl, _, _, rfl, rfl, _, rfl, ite2 (fun c => ?_) (fun c => ?_)⟩
      · refine ⟨_, rfl, _, rfl, _, _, rfl, rfl, _, rfl, by show (2 : Nat) ≤ sizeLine; decide, fun t2 n2 => ?_⟩
        refine Acc.turn nD sm ac (same_upd n2) (d := dPr (ltPr l p)) ?_ rfl hil (map_take_more hp)
        rw [show ltPr l p = (p.1 + l, p.2) by unfold ltPr; rw [if_pos (of_decide_eq_true c)]]
        exact .tup (.inl (.inl upd_same)) (.cons (.int _) (.cons (.int _) .nil))
      · refine ⟨_, rfl, _, rfl, by show (2 : Nat) ≤ sizeLine; decide, fun t2 n2 => ?_⟩
        refine Acc.turn nD sm ac (same_upd n2) (d := dPr (ltPr l p)) ?_ rfl hil (map_take_more hp)
        rw [show ltPr l p = (p.1, p.2) by unfold ltPr; rw [if_neg (fun z => c (decide_eq_true z))]]
        exact .tup (.inl (.inl upd_same)) (.cons (.int _) (.cons (.int _) .nil))
    · rintro H1 ⟨sm, ac⟩
      rw [hxl, List.take_length] at ac
      obtain ⟨us, eD, dv⟩ := ac.ex
      refine ⟨D, _, rfl, .inl ⟨.inl (.inl eD), fun t nt => ?_⟩⟩
      refine q _ _ (sm.trans (same_upd nt)) ?_
      show Dp K _ (.ref t) (.tuple ((ps.map (ltPr l)).map dPr))
      rw [List.map_map]
      exact .tup (.inl (.inl upd_same)) (DpAll.same (same_upd nt) _ _ dv)

/-! ### house_later -/
def spHL (K : PySem.W.Frag) : Sp := fun vs H Q _ => ∃ (v : V) (h : MHouse) (l : Int), vs = [v, .int l] ∧ Dp K H v (dHouse h) ∧ h.menu.length ≤ 500 ∧ h.offs.length ≤ 500 ∧ (∀ r ∈ h.menu, r.prs.length ≤ 500) ∧
  ∀ H' r, Same H H' → Dp K H' r (dHouse (ltHouse l h)) → Q r H'
theorem ok_hl {f fLP : Addr} {fd fdLP : FuncData} {dvs : List V} (F : FunD K "house_later" "house_later" (defArgs sHL) (defBody sHL) (defScope sHL) dvs [] f fd)
    (GLP : FnOk P w K mg base CX0 1 fLP fdLP ["prices", "later"] (spLP K)) (kLP : PySem.W.keepIn K (.ref fLP) = true) (bLP : Binds K fdLP ["prices", "later"] []) (gLP : mg "later_prices" = some (.ref fLP)) (m_tuple : mg "tuple" = none) :
    FnOk P w K mg base CX0 2 f fd ["house", "later"] (spHL K) := by
  refine F.ok scHL (fun vs H Q E h => ?_) (fun cdv A outer s H vs Q E hr h => ?_)
  · obtain ⟨v, ps, l, rfl, _⟩ := h
    rfl
  · obtain ⟨v, h, l, rfl, hd, hm, ho, hp, q⟩ := h
    refine ⟨_, (pss_cons (ps_asg (pv 0) (pg_tup rfl (pgs_cons (pg_name (i := 2) scHL.nd rfl (.inl rfl)) (pgs_cons (pg_name (i := 3) scHL.nd rfl (.inl rfl)) (pgs_cons (pg_name (i := 4) scHL.nd rfl (.inl rfl)) (pgs_cons (pg_name (i := 5) scHL.nd rfl (.inl rfl)) pgs_nil))))))
      (pss_cons (ps_setLc (i := 6) (own := [("item", 8), ("minutes", 9), ("prices", 10)]) (g := gTup K 3 (gCons (gName 8) (gCons (gName 9) (gCons (gName 10) gNil)))) (tt := tYes) rfl scHL.nd rfl rfl (sw_true rfl rfl rfl (by decide +kernel)) (pi_tup (pv 2)) (blkOk_by (own := [("item", 8), ("minutes", 9), ("prices", 10)]) (N := ["house", "later", "menu", "offs", "wait", "fires", "rows", "cheaper", "item", "minutes", "prices", "items", "start", "until", "percent"]) (sc := defScope sHL) (by decide +kernel)) (fun _ _ _ _ _ => (pg_tup rfl (pgs_cons (pg_name (i := 8) scHL.nd rfl (.inl rfl)) (pgs_cons (pg_name (i := 9) scHL.nd rfl (.inl rfl)) (pgs_cons (pg_name (i := 10) scHL.nd rfl (.inl rfl)) pgs_nil))))) (fun _ _ _ _ _ => pts_nil) (fun _ _ _ _ _ => (pe_tup (pa_cons (pv 8) (pa_cons (pv 9) (pa_cons (pe_call GLP (hr.mono (by decide)) (by rfl) gLP kLP bLP .nil pass0 (pa_cons (pv 10) (pa_cons (pv 1) pa_nil))) pa_nil))))))
      (pss_cons (ps_setLc (i := 7) (own := [("items", 11), ("start", 12), ("until", 13), ("percent", 14)]) (g := gTup K 4 (gCons (gName 11) (gCons (gName 12) (gCons (gName 13) (gCons (gName 14) gNil))))) (tt := tYes) rfl scHL.nd rfl rfl (sw_true rfl rfl rfl (by decide +kernel)) (pi_tup (pv 3)) (blkOk_by (own := [("items", 11), ("start", 12), ("until", 13), ("percent", 14)]) (N := ["house", "later", "menu", "offs", "wait", "fires", "rows", "cheaper", "item", "minutes", "prices", "items", "start", "until", "percent"]) (sc := defScope sHL) (by decide +kernel)) (fun _ _ _ _ _ => (pg_tup rfl (pgs_cons (pg_name (i := 11) scHL.nd rfl (.inl rfl)) (pgs_cons (pg_name (i := 12) scHL.nd rfl (.inl rfl)) (pgs_cons (pg_name (i := 13) scHL.nd rfl (.inl rfl)) (pgs_cons (pg_name (i := 14) scHL.nd rfl (.inl rfl)) pgs_nil)))))) (fun _ _ _ _ _ => pts_nil) (fun _ _ _ _ _ => (pe_tup (pa_cons (pv 11) (pa_cons (pe_op op_add (pv 12) (pv 1)) (pa_cons (pe_op op_add (pv 13) (pv 1)) (pa_cons (pv 14) pa_nil)))))))
      (pss_one (ps_ret (pe_tup (pa_cons (pe_callTy call_tuple_of (by rfl) m_tuple (by decide +kernel) (pa_cons (pv 6) pa_nil)) (pa_cons (pe_callTy call_tuple_of (by rfl) m_tuple (by decide +kernel) (pa_cons (pv 7) pa_nil)) (pa_cons (pv 4) (pa_cons (pv 5) pa_nil)))))))))), ?_⟩
    obtain ⟨t, a, b, xs, ys, rfl, hT, hA, dA, hB, dB⟩ := house_inv hd
    have lx := DpAll.len dA
    have ly := DpAll.len dB
    rw [List.length_map] at lx ly
    refine ⟨_, rfl, t, _, rfl, hT, rfl, _, _, rfl, _, _, rfl, _, _, rfl, _, _, rfl, rfl, ?_⟩
    -- rows
    show tSeq _ _ _ [some (.ref t), some (.int l), some (.ref a), some (.ref b), some (.int h.wait), some (.int h.fires), none, none, none, none, none, none, none, none, none] _
    refine ⟨_, rfl, a, rfl, ⟨_, hA⟩, fun D nD => ?_⟩
    refine lc_tup (xs := xs) (fun i H1 => Same H H1 ∧ Acc K H1 D ((h.menu.take i).map fun r => dMRow (ltRow l r))) ⟨same_upd nD, Acc.start⟩ ?_ ?_ ?_
    · rintro i H1 _ ⟨sm, _⟩
      exact TB.Same.tup sm hA
    · rintro i x H1 hx ⟨sm, ac⟩
      obtain ⟨d, hd, dx⟩ := DpAll.get dA hx
      obtain ⟨r, hr', rfl⟩ := map_get hd
      obtain ⟨t1, v3, rfl, h1, d3⟩ := row_inv dx
      refine ⟨t1, _, rfl, TB.Same.tup sm h1, rfl, _, _, rfl, _, _, rfl, _, _, rfl, rfl, rfl, yes (iteT ?_)⟩
      refine ⟨_, rfl, _, rfl, _, rfl, _, rfl, v3, r.prs, l, rfl, Dp.same sm _ _ d3, hp r (List.mem_of_getElem? hr'), fun H2 v' s2 dv' => ?_⟩
      refine ⟨by show (3 : Nat) ≤ sizeLine; decide, fun t2 n2 => ?_⟩
      refine Acc.turn nD sm ac (s2.trans (same_upd n2)) (d := dMRow (ltRow l r)) ?_ (noL_row _) ?_ (map_take_more hr')
      · exact .tup (.inl (.inl upd_same)) (.cons (.str _) (.cons (.int _) (.cons (Dp.same (same_upd n2) _ _ dv') .nil)))
      · rw [List.length_map, List.length_take]
        omega
    · rintro H1 ⟨sm, ac⟩
      rw [lx, List.take_length] at ac
      -- cheaper
      show tSeq _ _ _ [some (.ref t), some (.int l), some (.ref a), some (.ref b), some (.int h.wait), some (.int h.fires), some (.ref D), none, none, none, none, none, none, none, none] _
      refine ⟨_, rfl, b, rfl, ⟨_, TB.Same.tup sm hB⟩, fun D2 nD2 => ?_⟩
      refine lc_tup (xs := ys) (fun i H2 => Same H1 H2 ∧ Acc K H2 D2 ((h.offs.take i).map fun o => dMOff (ltOff l o))) ⟨same_upd nD2, Acc.start⟩ ?_ ?_ ?_
      · rintro i H2 _ ⟨sm2, _⟩
        exact TB.Same.tup (sm.trans sm2) hB
      · rintro i x H2 hx ⟨sm2, ac2⟩
        obtain ⟨d, hd, dx⟩ := DpAll.get dB hx
        obtain ⟨o, ho', rfl⟩ := map_get hd
        obtain ⟨t1, v1, rfl, h1, d1⟩ := off_inv dx
        refine ⟨t1, _, rfl, TB.Same.tup (sm.trans sm2) h1, rfl, _, _, rfl, _, _, rfl, _, _, rfl, _, _, rfl, rfl, rfl, yes (iteT ?_)⟩
        refine ⟨_, rfl, _, rfl, _, rfl, _, _, rfl, rfl, _, rfl, _, rfl, _, _, rfl, rfl, _, rfl, by show (4 : Nat) ≤ sizeLine; decide, fun t2 n2 => ?_⟩
        refine Acc.turn nD2 sm2 ac2 (same_upd n2) (d := dMOff (ltOff l o)) ?_ (noL_off _) ?_ (map_take_more ho')
        · exact .tup (.inl (.inl upd_same)) (.cons (Dp.same ((sm.trans sm2).trans (same_upd n2)) _ _ d1) (.cons (.int _) (.cons (.int _) (.cons (.int _) .nil))))
        · rw [List.length_map, List.length_take]
          omega
      · rintro H2 ⟨sm2, ac2⟩
        rw [ly, List.take_length] at ac2
        have ac1 := ac.same sm2
        obtain ⟨us1, e1, dv1⟩ := ac1.ex
        obtain ⟨us2, e2, dv2⟩ := ac2.ex
        refine ⟨_, rfl, D, _, rfl, .inl ⟨.inl (.inl e1), fun t1 n1 => ?_⟩⟩
        have s3 : Same H2 (upd H2 t1 (.tup us1)) := same_upd n1
        refine ⟨_, rfl, D2, _, rfl, .inl ⟨.inl (.inl (s3 _ _ e2)), fun t2 n2 => ?_⟩⟩
        have s4 : Same (upd H2 t1 (.tup us1)) (upd (upd H2 t1 (.tup us1)) t2 (.tup us2)) := same_upd n2
        refine ⟨_, rfl, _, rfl, by show (4 : Nat) ≤ sizeLine; decide, fun t3 n3 => ?_⟩
        have s5 := same_upd (o := .tup [.ref t1, .ref t2, .int h.wait, .int h.fires]) n3
        refine q _ _ ((sm.trans sm2).trans (s3.trans (s4.trans s5))) ?_
        have w1 : Dp K (upd H2 t1 (.tup us1)) (.ref t1) (.tuple ((ltHouse l h).menu.map dMRow)) := by
          show Dp K _ _ (.tuple ((h.menu.map (ltRow l)).map dMRow))
          rw [List.map_map]
          exact Acc.tuple (D := D) dv1 n1
        have w2 : Dp K (upd (upd H2 t1 (.tup us1)) t2 (.tup us2)) (.ref t2) (.tuple ((ltHouse l h).offs.map dMOff)) := by
          show Dp K _ _ (.tuple ((h.offs.map (ltOff l)).map dMOff))
          rw [List.map_map]
          exact Acc.tuple (D := D) (DpAll.same s3 _ _ dv2) n2
        exact .tup (.inl (.inl upd_same)) (.cons (Dp.same (s4.trans s5) _ _ w1) (.cons (Dp.same s5 _ _ w2) (.cons (.int _) (.cons (.int _) .nil))))
end
end K80

set_option Elab.async false
set_option linter.all false
set_option maxRecDepth 100000
set_option maxHeartbeats 400000
namespace K80
open PySem PySem.Spec PyProof.Rows L2 TB

theorem scFeed : FnScope ["_law_script"] ["_law_script"] (defScope sFeed) := ⟨rfl, rfl, rfl, by decide +kernel, rfl, by decide +kernel, by decide +kernel⟩
theorem scNext : FnScope ["_law_feed_here", "_law_many", "_law_digit", "_law_at", "_law_cell", "_law_first"] ["_law_feed_here", "_law_many"] (defScope sNext) := ⟨rfl, rfl, rfl, by decide +kernel, rfl, by decide +kernel, by decide +kernel⟩
/-! ### the feed: the script's numbers, a place, a rest -/
structure Feed (H : Hp) (F S : Addr) (T : Int) : Prop where
  ex : ∃ (ns : List Int) (p r : Int), H F = some (.lst [.ref S, .int p, .int r]) ∧ S ≠ F ∧ H S = some (.lst (ns.map V.int)) ∧ ns.length ≤ 1000 ∧ 0 ≤ p ∧ p ≤ T ∧ 0 ≤ r
theorem Feed.same {H H' : Hp} {F S : Addr} {T : Int} (e : Same H H') (h : Feed H F S T) : Feed H' F S T := by
  obtain ⟨ns, p, r, a, n, b, c⟩ := h.ex
  exact ⟨⟨ns, p, r, e _ _ a, n, e _ _ b, c⟩⟩
theorem Feed.there {H : Hp} {F S : Addr} {T : Int} (h : Feed H F S T) : ∃ zs, H F = some (.lst zs) := by
  obtain ⟨ns, p, r, a, _⟩ := h.ex
  exact ⟨_, a⟩
theorem Feed.ne {H : Hp} {F S D : Addr} {T : Int} (h : Feed H F S T) (n : H D = none) : D ≠ F ∧ D ≠ S := by
  obtain ⟨ns, p, r, a, _, b, _⟩ := h.ex
  exact ⟨(ne_of_none a n).symm, (ne_of_none b n).symm⟩
theorem Feed.upd {H : Hp} {F S D : Addr} {T : Int} {o : HO} (h : Feed H F S T) (n : D ≠ F ∧ D ≠ S) : Feed (upd H D o) F S T := by
  obtain ⟨ns, p, r, a, k, b, c⟩ := h.ex
  exact ⟨⟨ns, p, r, by rw [upd_ne n.1.symm]; exact a, k, by rw [upd_ne n.2.symm]; exact b, c⟩⟩
theorem Feed.mono {H : Hp} {F S : Addr} {T T' : Int} (h : Feed H F S T) (l : T ≤ T') : Feed H F S T' := by
  obtain ⟨ns, p, r, a, n, b, c, d, e, f⟩ := h.ex
  exact ⟨⟨ns, p, r, a, n, b, c, d, by omega, f⟩⟩
theorem cutV_ints (ns : List Int) (lo hi : Option Int) : ∃ ms : List Int, cutV (ns.map V.int) lo hi = ms.map V.int ∧ ms.length ≤ ns.length := by
  unfold cutV
  refine ⟨(ns.drop (HT.sIx (ns.map V.int).length 0 lo)).take (HT.sIx (ns.map V.int).length (ns.map V.int).length hi - HT.sIx (ns.map V.int).length 0 lo), ?_, ?_⟩
  · rw [List.map_take, List.map_drop]
  · rw [List.length_take, List.length_drop]
    omega
theorem eqv_nil : ∀ ns : List Int, PyData.eqv (.list (dInts ns)) (.list []) = decide (ns = [])
  | [] => by simp [dInts, PyData.eqv, PyData.eqvAll]
  | n :: ns => by simp [dInts, PyData.eqv, PyData.eqvAll]
theorem shaped_ints (ns : List Int) : SeqAt.shaped (.list (dInts ns)) = true := by
  have h : ∀ ms : List Int, PyData.canLayAll0 (dInts ms) = true ∧ PyData.depthAll (dInts ms) = 0 := by
    intro ms
    induction ms with
    | nil => exact ⟨rfl, rfl⟩
    | cons m ms ih => exact ⟨by simpa [dInts, PyData.canLayAll0, PyData.canLay0] using ih.1, by simpa [dInts, PyData.depthAll, PyData.depth] using ih.2⟩
  unfold SeqAt.shaped
  simp only [PyData.canLay0, PyData.depth, (h ns).1, (h ns).2]
  decide
section
variable {P : Program} {w : World} {K : PySem.W.Frag} {mg : Str → Option Value} {base : Heap}
/-! ### _law_feed -/
def spFeed (K : PySem.W.Frag) : Sp := fun vs H Q _ => ∃ (a : Addr) (ns : List Int), vs = [.ref a] ∧ SqL K H a (ns.map V.int) ∧ ns.length ≤ 1000 ∧
  ∀ H' F S, Same H H' → H F = none → Feed H' F S 0 → Q (.ref F) H'
theorem ok_feed {f : Addr} {fd : FuncData} {k : Nat} (F : Fun K "_law_feed" "_law_feed" sFeed f fd) (m_list : mg "list" = none) : FnOk P w K mg base CX0 (k + 1) f fd ["_law_script"] (spFeed K) := by
  refine F.ok scFeed (fun vs H Q E h => ?_) (fun cdv A outer s H vs Q E hr h => ?_)
  · obtain ⟨a, ns, rfl, _⟩ := h
    rfl
  · obtain ⟨a, ns, rfl, hS, hl, q⟩ := h
    refine ⟨_, (pss_one (ps_ret (pe_lst (pa_cons (pe_callTy call_list_of (by rfl) m_list (by decide +kernel) (pa_cons (pe_slice sl_list (pv 0) po_none (po_some pe_int)) pa_nil)) (pa_cons pe_int (pa_cons pe_int pa_nil)))))), ?_⟩
    obtain ⟨ms, em, hm⟩ := cutV_ints ns none (some 63)
    refine ⟨.ref a, rfl, 63, rfl, a, _, rfl, hS, fun S0 n0 => ⟨S0, _, rfl, .inl (.inl (.inl upd_same)), fun S nS => ⟨by show (3 : Nat) ≤ sizeLine; decide, fun L nL => ?_⟩⟩⟩
    have s0 : Same H (upd H S0 (.lst (cutV (ns.map V.int) none (some 63)))) := same_upd n0
    have s1 := s0.trans (same_upd (o := .lst (cutV (ns.map V.int) none (some 63))) nS)
    have nSL : S ≠ L := fun e => by
      rw [← e, upd_same] at nL
      cases nL
    refine q _ L S (s1.trans (same_upd nL)) (s1.free nL) ⟨⟨ms, 0, 0, upd_same, nSL, ?_, by omega, by omega, by omega, by omega⟩⟩
    rw [upd_ne nSL, upd_same, em]

/-! ### _law_next -/
def spNext : Sp := fun vs H Q _ => ∃ (F S : Addr) (m T : Int), vs = [.ref F, .int m] ∧ 0 < m ∧ m < 2 ^ 50 ∧ Feed H F S T ∧ T < 2 ^ 40 ∧
  ∀ H' v, But F H H' → Feed H' F S (T + 1) → 0 ≤ v → v < m → Q (.int v) H'
theorem ok_next {f : Addr} {fd : FuncData} {k : Nat} (F : Fun K "_law_next" "_law_next" sNext f fd) (m_len : mg "len" = none) : FnOk P w K mg base CX0 (k + 1) f fd ["_law_feed_here", "_law_many"] spNext := by
  refine F.ok scNext (fun vs H Q E h => ?_) (fun cdv A outer s H vs Q E hr h => ?_)
  · obtain ⟨a, S, m, T, rfl, _⟩ := h
    rfl
  · obtain ⟨L, S, m, T, rfl, m0, m1, hF, hT, q⟩ := h
    refine ⟨_, (pss_cons (ps_if (pt_cmpR op_gt (pe_ix ix_list (pv 0) pe_int (fun _ _ => rfl)) pe_int (nomark _)) (pss_cons (ps_set (i := 2) scNext.nd rfl (.inl rfl) (pe_op op_mod (pe_ix ix_list (pv 0) pe_int (fun _ _ => rfl)) (pv 1)))
      (pss_cons (ps_asg (pe_op op_fdivW (pe_ix ix_list (pv 0) pe_int (fun _ _ => rfl)) (pv 1)) (pg_sub (pv 0) pe_int set_list))
      (pss_one (ps_ret (pv 2))))) pss_nil)
      (pss_cons (ps_set (i := 3) scNext.nd rfl (.inl rfl) (pe_ix ix_list (pv 0) pe_int (fun _ _ => rfl)))
      (pss_cons (ps_asg (pe_op op_add (pv 3) pe_int) (pg_sub (pv 0) pe_int set_list))
      (pss_cons (ps_set (i := 4) scNext.nd rfl (.inl rfl) (pe_ifExp (pt_cmpR (op_neD hr.units) (pe_ix ix_list (pv 0) pe_int (fun _ _ => rfl)) (pe_lst pa_nil) (nomark _)) (pe_ix ix_list (pe_ix ix_list (pv 0) pe_int (fun _ _ => rfl)) (pe_op op_mod (pv 3) (pe_callB call_len_seq (by rfl) m_len (by decide +kernel) (pa_cons (pe_ix ix_list (pv 0) pe_int (fun _ _ => rfl)) pa_nil))) (fun _ _ => rfl)) pe_int))
      (pss_cons (ps_if (PW.pt (pw_and (pt_cmpR op_ge (pv 4) (pe_op op_pow pe_int pe_int) (nomark _)) (pw_and1 (pt_cmpR op_lt (pv 3) (pe_callB call_len_seq (by rfl) m_len (by decide +kernel) (pa_cons (pe_ix ix_list (pv 0) pe_int (fun _ _ => rfl)) pa_nil)) (nomark _))))) (pss_cons (ps_asg (pe_op op_fdivW (pv 4) (pv 1)) (pg_sub (pv 0) pe_int set_list))
      (pss_one (ps_ret (pe_op op_mod (pv 4) (pv 1))))) pss_nil)
      (pss_cons (ps_set (i := 5) scNext.nd rfl (.inl rfl) (pe_op op_mod (pe_op op_mul (pe_op op_add (pe_op op_add (pe_op op_add (pe_op op_mod (pv 4) pe_int) (pe_op op_mul (pe_op op_mul pe_int (pv 3)) (pv 3))) (pe_op op_mul pe_int (pv 3))) pe_int) pe_int) pe_int))
      (pss_one (ps_ret (pe_op op_mod (pe_op op_fdivW (pe_op op_mod (pe_op op_mul (pe_op op_mod (pe_op op_add (pe_op op_add (pe_op op_mul (pv 5) (pv 5)) (pe_op op_mul pe_int (pv 3))) pe_int) pe_int) pe_int) pe_int) pe_int) (pv 1)))))))))), ?_⟩
    obtain ⟨ns, p, r, e1, nSF, hS1, hn, p0, pT, r0⟩ := hF.ex
    have back : ∀ (H2 : Hp) (p' r' : Int) (v : Int), But L H H2 → H2 S = some (.lst (ns.map V.int)) → H2 L = some (.lst [.ref S, .int p', .int r']) → 0 ≤ p' → p' ≤ T + 1 → 0 ≤ r' → 0 ≤ v → v < m → Q (.int v) H2 :=
      fun H2 p' r' v a hs b c d e x y => q H2 v a ⟨⟨ns, p', r', b, nSF, hs, hn, c, d, e⟩⟩ x y
    refine ⟨.ref L, rfl, L, _, 2, _, rfl, rfl, .inl (.inl e1), atI_nat (j := 2) rfl, _, _, rfl, rfl, _, rfl, ite2 (fun c => ?_) (fun c => ?_)⟩
    · refine ⟨.ref L, rfl, L, _, 2, _, rfl, rfl, .inl (.inl e1), atI_nat (j := 2) rfl, _, rfl, r, m, rfl, rfl, m0, ?_⟩
      refine ⟨.ref L, rfl, L, _, 2, _, rfl, rfl, .inl (.inl e1), atI_nat (j := 2) rfl, _, rfl, r, m, rfl, rfl, wide_div (b := 60) m0 (by omega) (by omega) (by omega), ?_⟩
      refine ⟨.ref L, rfl, L, _, 2, 2, rfl, rfl, e1, rfl, ?_⟩
      have b2 : But L H (upd H L (.lst [.ref S, .int p, .int (r / m)])) := But.upd
      refine ⟨_, rfl, ?_⟩
      exact back _ p (r / m) (r % m) b2 (b2 _ _ nSF hS1) upd_same p0 (by omega) (Int.ediv_nonneg r0 (by omega)) (Int.emod_nonneg _ (by omega)) (Int.emod_lt_of_pos _ m0)
    · -- at, and one more
      refine ⟨.ref L, rfl, L, _, 1, _, rfl, rfl, .inl (.inl e1), atI_nat (j := 1) rfl, ?_⟩
      refine ⟨_, rfl, _, _, rfl, rfl, .ref L, rfl, L, _, 1, 1, rfl, rfl, e1, rfl, ?_⟩
      generalize hH1 : upd H L (.lst (List.set [V.ref S, V.int p, V.int r] 1 ((fun i j => V.int (i + j)) p 1))) = H1
      have e2 : H1 L = some (.lst [.ref S, .int (p + 1), .int r]) := by
        rw [← hH1]
        exact upd_same
      have b1 : But L H H1 := by
        rw [← hH1]
        exact But.upd
      have hS1' := b1 _ _ nSF hS1
      clear hH1
      -- the cell
      refine ⟨.ref L, rfl, L, _, 0, _, rfl, rfl, .inl (.inl e2), atI_nat (j := 0) rfl, Nat.zero_le _, fun z nz => ?_⟩
      have sz : Same H1 (upd H1 z (.lst [])) := same_upd nz
      generalize hH2 : upd H1 z (.lst []) = H3 at sz
      have ez : H3 z = some (.lst []) := by
        rw [← hH2]
        exact upd_same
      have b3 : But L H H3 := b1.same sz
      have e3 := sz _ _ e2
      have hS3 := sz _ _ hS1'
      clear hH2
      refine ⟨.list (dInts ns), .list [], .lst (.inl (.inl hS3)) (dp_ints ns), .lst (.inl (.inl ez)) .nil, shaped_ints ns, rfl, _, rfl, ?_⟩
      rw [eqv_nil]
      have back3 : ∀ r' v : Int, 0 ≤ r' → 0 ≤ v → v < m → Q (.int v) (upd H3 L (.lst [.ref S, .int (p + 1), .int r'])) := fun r' v x y z =>
        have b34 : But L H3 (upd H3 L (.lst [.ref S, .int (p + 1), .int r'])) := But.upd
        back _ (p + 1) r' v (b3.trans b34) (b34 _ _ nSF hS3) upd_same (by omega) (by omega) x y z
      refine ite2 (fun c => ?_) (fun c => ?_)
      · have hne : 0 < (ns.map V.int).length := by
          cases ns with
          | nil => exact absurd c (by decide)
          | cons x xs => simp
        have i0 := Int.emod_nonneg p (show ((ns.map V.int).length : Int) ≠ 0 by omega)
        have i1 := Int.emod_lt_of_pos p (show (0 : Int) < (ns.map V.int).length by omega)
        obtain ⟨j, hj⟩ : ∃ j : Nat, p % ((ns.map V.int).length : Int) = (j : Int) := ⟨_, (Int.toNat_of_nonneg i0).symm⟩
        have hjl : j < ns.length := by
          rw [hj, List.length_map] at i1
          omega
        have gj : (ns.map V.int)[j]? = some (.int ns[j]) := by
          rw [List.getElem?_map, List.getElem?_eq_getElem hjl]
          rfl
        refine ⟨.ref L, rfl, L, _, 0, _, rfl, rfl, .inl (.inl e3), atI_nat (j := 0) rfl, _, rfl, .ref L, rfl, L, _, 0, _, rfl, rfl, .inl (.inl e3), atI_nat (j := 0) rfl, S, _, rfl, .inl (.inl (.inl hS3)), p, _, rfl, rfl, by omega, S, _, _, _, rfl, rfl, .inl (.inl hS3), (by rw [hj]; exact atI_nat gj), ?_⟩
        show tSeq _ _ _ [some (.ref L), some (.int m), none, some (.int p), some (.int ns[j]), none] _
        refine ⟨_, rfl, _, _, rfl, rfl, ⟨by decide, by decide, by decide⟩, _, _, rfl, rfl, _, rfl, ite2 (fun c1 => ?_) (fun c1 => ?_)⟩
        · refine ⟨_, rfl, .ref L, rfl, L, _, 0, _, rfl, rfl, .inl (.inl e3), atI_nat (j := 0) rfl, S, _, rfl, .inl (.inl (.inl hS3)), _, _, rfl, rfl, _, rfl, ite2 (fun c2 => ?_) (fun c2 => ?_)⟩
          · refine ⟨_, rfl, _, rfl, _, _, rfl, rfl, wide_div (b := 60) m0 (by omega) (by omega) (by omega), .ref L, rfl, L, _, 2, 2, rfl, rfl, e3, rfl, ?_⟩
            refine ⟨_, rfl, _, rfl, _, _, rfl, rfl, m0, ?_⟩
            exact back3 _ _ (Int.ediv_nonneg (Int.le_trans (by decide) (of_decide_eq_true c1)) (by omega)) (Int.emod_nonneg _ (by omega)) (Int.emod_lt_of_pos _ m0)
          · refine ⟨_, rfl, _, _, rfl, rfl, (by show (0 : Int) < _; decide), _, rfl, _, _, rfl, rfl, .inl ⟨by decide, by decide⟩, _, rfl, _, _, rfl, rfl, .inr ⟨by omega, by omega⟩, _, _, rfl, rfl, _, rfl, _, _, rfl, rfl, .inl ⟨by decide, by decide⟩, _, _, rfl, rfl, _, _, rfl, rfl, _, _, rfl, rfl, .inr ⟨by decide, by decide⟩, _, _, rfl, rfl, (by show (0 : Int) < _; decide), ?_⟩
            refine ⟨_, rfl, _, rfl, _, _, rfl, rfl, .inl ⟨by omega, by omega⟩, _, rfl, _, _, rfl, rfl, .inl ⟨by decide, by decide⟩, _, _, rfl, rfl, _, _, rfl, rfl, _, _, rfl, rfl, (by show (0 : Int) < _; decide), _, _, rfl, rfl, .inr ⟨by decide, by decide⟩, _, _, rfl, rfl, (by show (0 : Int) < _; decide), _, _, rfl, rfl, wide_div (b := 60) (by decide) (by decide) (by omega) (by omega), _, rfl, _, _, rfl, rfl, m0, ?_⟩
            exact back H3 (p + 1) r _ b3 hS3 e3 (by omega) (by omega) r0 (Int.emod_nonneg _ (by omega)) (Int.emod_lt_of_pos _ m0)
        · refine ⟨_, rfl, _, _, rfl, rfl, (by show (0 : Int) < _; decide), _, rfl, _, _, rfl, rfl, .inl ⟨by decide, by decide⟩, _, rfl, _, _, rfl, rfl, .inr ⟨by omega, by omega⟩, _, _, rfl, rfl, _, rfl, _, _, rfl, rfl, .inl ⟨by decide, by decide⟩, _, _, rfl, rfl, _, _, rfl, rfl, _, _, rfl, rfl, .inr ⟨by decide, by decide⟩, _, _, rfl, rfl, (by show (0 : Int) < _; decide), ?_⟩
          refine ⟨_, rfl, _, rfl, _, _, rfl, rfl, .inl ⟨by omega, by omega⟩, _, rfl, _, _, rfl, rfl, .inl ⟨by decide, by decide⟩, _, _, rfl, rfl, _, _, rfl, rfl, _, _, rfl, rfl, (by show (0 : Int) < _; decide), _, _, rfl, rfl, .inr ⟨by decide, by decide⟩, _, _, rfl, rfl, (by show (0 : Int) < _; decide), _, _, rfl, rfl, wide_div (b := 60) (by decide) (by decide) (by omega) (by omega), _, rfl, _, _, rfl, rfl, m0, ?_⟩
          exact back H3 (p + 1) r _ b3 hS3 e3 (by omega) (by omega) r0 (Int.emod_nonneg _ (by omega)) (Int.emod_lt_of_pos _ m0)
      · show tSeq _ _ _ [some (.ref L), some (.int m), none, some (.int p), some (.int 0), none] _
        refine ⟨_, rfl, _, _, rfl, rfl, ⟨by decide, by decide, by decide⟩, _, _, rfl, rfl, _, rfl, ite2 (fun c1 => ?_) (fun c1 => ?_)⟩
        · refine ⟨_, rfl, .ref L, rfl, L, _, 0, _, rfl, rfl, .inl (.inl e3), atI_nat (j := 0) rfl, S, _, rfl, .inl (.inl (.inl hS3)), _, _, rfl, rfl, _, rfl, ite2 (fun c2 => ?_) (fun c2 => ?_)⟩
          · refine ⟨_, rfl, _, rfl, _, _, rfl, rfl, wide_div (b := 60) m0 (by omega) (by omega) (by omega), .ref L, rfl, L, _, 2, 2, rfl, rfl, e3, rfl, ?_⟩
            refine ⟨_, rfl, _, rfl, _, _, rfl, rfl, m0, ?_⟩
            exact back3 _ _ (Int.ediv_nonneg (Int.le_trans (by decide) (of_decide_eq_true c1)) (by omega)) (Int.emod_nonneg _ (by omega)) (Int.emod_lt_of_pos _ m0)
          · refine ⟨_, rfl, _, _, rfl, rfl, (by show (0 : Int) < _; decide), _, rfl, _, _, rfl, rfl, .inl ⟨by decide, by decide⟩, _, rfl, _, _, rfl, rfl, .inr ⟨by omega, by omega⟩, _, _, rfl, rfl, _, rfl, _, _, rfl, rfl, .inl ⟨by decide, by decide⟩, _, _, rfl, rfl, _, _, rfl, rfl, _, _, rfl, rfl, .inr ⟨by decide, by decide⟩, _, _, rfl, rfl, (by show (0 : Int) < _; decide), ?_⟩
            refine ⟨_, rfl, _, rfl, _, _, rfl, rfl, .inl ⟨by omega, by omega⟩, _, rfl, _, _, rfl, rfl, .inl ⟨by decide, by decide⟩, _, _, rfl, rfl, _, _, rfl, rfl, _, _, rfl, rfl, (by show (0 : Int) < _; decide), _, _, rfl, rfl, .inr ⟨by decide, by decide⟩, _, _, rfl, rfl, (by show (0 : Int) < _; decide), _, _, rfl, rfl, wide_div (b := 60) (by decide) (by decide) (by omega) (by omega), _, rfl, _, _, rfl, rfl, m0, ?_⟩
            exact back H3 (p + 1) r _ b3 hS3 e3 (by omega) (by omega) r0 (Int.emod_nonneg _ (by omega)) (Int.emod_lt_of_pos _ m0)
        · refine ⟨_, rfl, _, _, rfl, rfl, (by show (0 : Int) < _; decide), _, rfl, _, _, rfl, rfl, .inl ⟨by decide, by decide⟩, _, rfl, _, _, rfl, rfl, .inr ⟨by omega, by omega⟩, _, _, rfl, rfl, _, rfl, _, _, rfl, rfl, .inl ⟨by decide, by decide⟩, _, _, rfl, rfl, _, _, rfl, rfl, _, _, rfl, rfl, .inr ⟨by decide, by decide⟩, _, _, rfl, rfl, (by show (0 : Int) < _; decide), ?_⟩
          refine ⟨_, rfl, _, rfl, _, _, rfl, rfl, .inl ⟨by omega, by omega⟩, _, rfl, _, _, rfl, rfl, .inl ⟨by decide, by decide⟩, _, _, rfl, rfl, _, _, rfl, rfl, _, _, rfl, rfl, (by show (0 : Int) < _; decide), _, _, rfl, rfl, .inr ⟨by decide, by decide⟩, _, _, rfl, rfl, (by show (0 : Int) < _; decide), _, _, rfl, rfl, wide_div (b := 60) (by decide) (by decide) (by omega) (by omega), _, rfl, _, _, rfl, rfl, m0, ?_⟩
          exact back H3 (p + 1) r _ b3 hS3 e3 (by omega) (by omega) r0 (Int.emod_nonneg _ (by omega)) (Int.emod_lt_of_pos _ m0)
end
end K80

set_option Elab.async false
set_option linter.all false
set_option maxRecDepth 100000
set_option maxHeartbeats 400000
namespace K80
open PySem PySem.Spec PyProof.Rows L2 TB

theorem scWords : FnScope ["_law_feed_here", "_law_many", "_law_left", "_law_k"] ["_law_feed_here", "_law_many", "_law_left"] (defScope sWords) := ⟨rfl, rfl, rfl, by decide +kernel, rfl, by decide +kernel, by decide +kernel⟩
theorem scPrices : FnScope ["_law_feed_here", "_law_found", "_law_at", "_law_k"] ["_law_feed_here"] (defScope sPrices) := ⟨rfl, rfl, rfl, by decide +kernel, rfl, by decide +kernel, by decide +kernel⟩
theorem erase_map {α β : Type} (f : α → β) : ∀ (xs : List α) (j : Nat), (xs.map f).eraseIdx j = (xs.eraseIdx j).map f
  | [], _ => rfl
  | _ :: _, 0 => rfl
  | x :: xs, j + 1 => congrArg (f x :: ·) (erase_map f xs j)
def words7 : List Str := ["a", "ab", "beer", "soup", "soups", "tea", "z"]
/-- all that was tracked is as it was, but what stands at f and g -/
def But2 (f g : Addr) (H H' : Hp) : Prop := ∀ b o, b ≠ f → b ≠ g → H b = some o → H' b = some o
section
variable {P : Program} {w : World} {K : PySem.W.Frag} {mg : Str → Option Value} {base : Heap}
/-! ### _law_words -/
def spWords : Sp := fun vs H Q _ => ∃ (L S W : Addr) (T : Int) (m : Nat) (ws : List Str), vs = [.ref L, .int (m : Int), .ref W] ∧ Feed H L S T ∧ T < 2 ^ 39 ∧ H W = some (.lst (ws.map V.str)) ∧ W ≠ L ∧ W ≠ S ∧ m ≤ ws.length ∧ ws.length ≤ 60 ∧ (∀ x ∈ ws, x ∈ words7) ∧
  ∀ (H' : Hp) (R : Addr) (rs : List Str), But2 L W H H' → Feed H' L S (T + m) → H R = none → H' R = some (.lst (rs.map V.str)) → rs.length = m → (∀ x ∈ rs, x ∈ words7) → Q (.ref R) H'
theorem ok_words {f fR : Addr} {fd fdR : FuncData} (F : Fun K "_law_words" "_law_words" sWords f fd) (GR : FnOk P w K mg base CX0 1 fR fdR ["_law_feed_here", "_law_many"] spNext) (kR : PySem.W.keepIn K (.ref fR) = true)
    (bR : Binds K fdR ["_law_feed_here", "_law_many"] []) (gR : mg "_law_next" = some (.ref fR)) (m_range : mg "range" = none) (m_len : mg "len" = none) : FnOk P w K mg base CX0 2 f fd ["_law_feed_here", "_law_many", "_law_left"] spWords := by
  refine F.ok scWords (fun vs H Q E h => ?_) (fun cdv A outer s H vs Q E hr h => ?_)
  · obtain ⟨L, S, W, T, m, ws, rfl, _⟩ := h
    rfl
  · obtain ⟨L, S, W, T, m, ws, rfl, hF, hT, eW, nWL, nWS, hm, hw, hg, q⟩ := h
    refine ⟨_, (pss_one (ps_ret (pe_lc (own := [("_law_k", 3)]) (g := gName 3) (tt := tYes) (te := tBM K "list" rPopAt (tVar 2) (tCons (tCall spNext [] E0 (tCons (tVar 0) (tCons (tCB (fun xs H Q => ∃ p ys, xs = [.ref p] ∧ (SqL K H p ys ∨ SqT K H p ys) ∧ Q (.int ys.length) H) (tCons (tVar 2) tNil)) tNil))) tNil)) rfl scWords.nd (pi_range1 (by rfl) m_range (pa_cons (pv 1) pa_nil)) (blkOk_by (own := [("_law_k", 3)]) (N := ["_law_feed_here", "_law_many", "_law_left", "_law_k"]) (sc := defScope sWords) (by decide +kernel)) (fun _ _ _ _ _ => (pg_name (i := 3) scWords.nd rfl (.inl rfl))) (fun _ _ _ _ _ => pts_nil) (fun _ _ _ _ _ => (pe_bm PySem.F.plainAttrs_list PySem.F.slot_list_pop PySem.F.type_list_pop mt_popAt (pv 2) (pa_cons (pe_call GR (hr.mono (by decide)) (by rfl) gR kR bR .nil pass0 (pa_cons (pv 0) (pa_cons (pe_callB call_len_seq (by rfl) m_len (by decide +kernel) (pa_cons (pv 2) pa_nil)) pa_nil))) pa_nil)))))), ?_⟩
    refine ⟨_, rfl, (m : Int), rfl, by omega, by omega, fun D nD => ?_⟩
    have nDF := hF.ne nD
    have nDW : D ≠ W := (ne_of_none eW nD).symm
    refine lc_range (lo := 0) (n := (m : Int).toNat) (fun i H1 => But2 L W H H1 ∧ Feed H1 L S (T + i) ∧ ∃ ws' rs : List Str, H1 W = some (.lst (ws'.map V.str)) ∧ ws'.length + i = ws.length ∧ (∀ x ∈ ws', x ∈ words7) ∧ H1 D = some (.lst (rs.map V.str)) ∧ rs.length = i ∧ ∀ x ∈ rs, x ∈ words7)
      ⟨fun b o _ _ e => same_upd nD b o e, (hF.same (same_upd nD)).mono (by omega), ws, [], same_upd nD _ _ eW, rfl, hg, upd_same, rfl, fun x hx => by cases hx⟩ (fun i H1 hi hP => ?_) (fun H1 hP => ?_)
    · obtain ⟨k1, f1, ws', rs, eW1, hl, hg1, eD, hr1, hr2⟩ := hP
      refine ⟨rfl, yes (iteT ?_)⟩
      refine ⟨.ref W, rfl, .inl ⟨rfl, _, .inl (.inl eW1)⟩, _, rfl, _, rfl, W, _, rfl, .inl (.inl (.inl eW1)), L, S, _, _, rfl, ?_, ?_, f1, by omega, fun H2 v k2 f2 l2 u2 => ?_⟩
      · rw [List.length_map]
        omega
      · rw [List.length_map]
        omega
      · rw [List.length_map] at u2
        have eW2 := k2 _ _ nWL eW1
        have eD2 := k2 _ _ nDF.1 eD
        obtain ⟨j, rfl⟩ : ∃ j : Nat, v = (j : Int) := ⟨v.toNat, by omega⟩
        have hj : j < ws'.length := by omega
        have gj : (ws'.map V.str)[j]? = some (.str ws'[j]) := by
          rw [List.getElem?_map, List.getElem?_eq_getElem hj]
          rfl
        refine ⟨W, _, (j : Int), j, _, rfl, rfl, eW2, by omega, by omega, ?_, gj, ?_⟩
        · rw [seqIndex_of (by omega) (by rw [List.length_map]; omega), Int.toNat_natCast]
        · have eD3 : (upd H2 W (.lst ((ws'.map V.str).eraseIdx j))) D = some (.lst (rs.map V.str)) := by
            rw [upd_ne nDW]
            exact eD2
          refine ⟨_, eD3, ?_, ?_, ?_, ws'.eraseIdx j, rs ++ [ws'[j]], ?_, ?_, ?_, ?_, ?_, ?_⟩
          · rw [List.length_map]
            exact small1000 (by omega)
          · intro b o n1 n2 e
            rw [upd_ne (ne_of_none e nD), upd_ne n2]
            exact k2 b o n1 (k1 b o n1 n2 e)
          · exact ((f2.upd ⟨nWL, nWS⟩).upd nDF).mono (by omega)
          · rw [upd_ne nDW.symm, upd_same, erase_map]
          · rw [List.length_eraseIdx, if_pos hj]
            omega
          · intro x hx
            exact hg1 x (List.mem_of_mem_eraseIdx hx)
          · rw [upd_same, List.map_append]
            rfl
          · rw [List.length_append, hr1]
            rfl
          · intro x hx
            rcases List.mem_append.mp hx with z | z
            · exact hr2 x z
            · rw [List.mem_singleton.mp z]
              exact hg1 _ (List.getElem_mem hj)
    · obtain ⟨k1, f1, ws', rs, eW1, hl, hg1, eD, hr1, hr2⟩ := hP
      rw [Int.toNat_natCast] at hr1 f1
      exact q H1 D rs k1 f1 nD eD hr1 hr2

/-! ### _law_prices -/
def FitP (B : Int) (ps : List (Int × Int)) : Prop := ps.length ≤ 10 ∧ ∀ p ∈ ps, 0 ≤ p.1 ∧ p.1 ≤ B ∧ 0 ≤ p.2 ∧ p.2 ≤ B
def spPrices (K : PySem.W.Frag) : Sp := fun vs H Q _ => ∃ (L S : Addr) (T : Int), vs = [.ref L] ∧ Feed H L S T ∧ T < 2 ^ 39 ∧
  ∀ (H' : Hp) (v : V) (ps : List (Int × Int)), But L H H' → Feed H' L S (T + 20) → Dp K H' v (dPrs ps) → FitP 100001 ps → Q v H'
theorem ok_prices {f fR : Addr} {fd fdR : FuncData} (F : Fun K "_law_prices" "_law_prices" sPrices f fd) (GR : FnOk P w K mg base CX0 1 fR fdR ["_law_feed_here", "_law_many"] spNext) (kR : PySem.W.keepIn K (.ref fR) = true)
    (bR : Binds K fdR ["_law_feed_here", "_law_many"] []) (gR : mg "_law_next" = some (.ref fR)) (m_range : mg "range" = none) (m_tuple : mg "tuple" = none) : FnOk P w K mg base CX0 2 f fd ["_law_feed_here"] (spPrices K) := by
  refine F.ok scPrices (fun vs H Q E h => ?_) (fun cdv A outer s H vs Q E hr h => ?_)
  · obtain ⟨L, S, T, rfl, _⟩ := h
    rfl
  · obtain ⟨L, S, T, rfl, hF, hT, q⟩ := h
    refine ⟨_, (pss_cons (ps_par (i := 1) (j := 2) (by rfl) scPrices.nd rfl rfl (by decide) rfl rfl (pa_cons (pe_lst (pa_cons (pe_tup (pa_cons pe_int (pa_cons (pe_ix ix_list (pe_lst (pa_cons pe_int (pa_cons pe_int (pa_cons pe_int (pa_cons (pe_call GR (hr.mono (by decide)) (by rfl) gR kR bR .nil pass0 (pa_cons (pv 0) (pa_cons pe_int pa_nil))) (pa_cons (pe_call GR (hr.mono (by decide)) (by rfl) gR kR bR .nil pass0 (pa_cons (pv 0) (pa_cons pe_int pa_nil))) pa_nil)))))) (pe_call GR (hr.mono (by decide)) (by rfl) gR kR bR .nil pass0 (pa_cons (pv 0) (pa_cons pe_int pa_nil))) (fun _ _ => rfl)) pa_nil))) pa_nil)) (pa_cons pe_int pa_nil)) (by rfl))
      (pss_cons (ps_for PassesOwn.never rfl (pi_range1 (by rfl) m_range (pa_cons (pe_ix ix_list (pe_lst (pa_cons pe_int (pa_cons pe_int (pa_cons pe_int (pa_cons pe_int pa_nil))))) (pe_call GR (hr.mono (by decide)) (by rfl) gR kR bR .nil pass0 (pa_cons (pv 0) (pa_cons pe_int pa_nil))) (fun _ _ => rfl)) pa_nil)) (pg_name (i := 3) scPrices.nd rfl (.inl rfl)) (pss_cons (ps_set (i := 2) scPrices.nd rfl (.inl rfl) (pe_op op_add (pe_op op_add (pv 2) pe_int) (pe_call GR (hr.mono (by decide)) (by rfl) gR kR bR .nil pass0 (pa_cons (pv 0) (pa_cons pe_int pa_nil)))))
      (pss_one (ps_expr (pe_bm PySem.F.plainAttrs_list PySem.F.slot_list_append PySem.F.type_list_append mt_append (pv 1) (pa_cons (pe_tup (pa_cons (pv 2) (pa_cons (pe_call GR (hr.mono (by decide)) (by rfl) gR kR bR .nil pass0 (pa_cons (pv 0) (pa_cons pe_int pa_nil))) pa_nil))) pa_nil))))))
      (pss_one (ps_ret (pe_callTy call_tuple_of (by rfl) m_tuple (by decide +kernel) (pa_cons (pv 1) pa_nil)))))), ?_⟩
    refine ⟨_, rfl, L, S, 1000, T, rfl, by decide, by decide, hF, by omega, fun H1 v1 k1 f1 l1 u1 => ?_⟩
    refine ⟨_, rfl, L, S, 100001, _, rfl, by decide, by decide, f1, by omega, fun H2 v2 k2 f2 l2 u2 => ?_⟩
    refine ⟨by show (5 : Nat) ≤ sizeLine; decide, fun z nz => ?_⟩
    have sz := same_upd (o := .lst [.int 0, .int 1, .int 99, .int v1, .int v2]) nz
    have nzL := f2.ne nz
    refine ⟨_, rfl, L, S, 5, _, rfl, by decide, by decide, f2.same sz, by omega, fun H3 v3 k3 f3 l3 u3 => ?_⟩
    have ez := k3 _ _ nzL.1 upd_same
    obtain ⟨x, hx, x0, x1⟩ : ∃ x : Int, atI [V.int 0, V.int 1, V.int 99, V.int v1, V.int v2] v3 = some (.int x) ∧ 0 ≤ x ∧ x ≤ 100001 := by
      have c : v3 = 0 ∨ v3 = 1 ∨ v3 = 2 ∨ v3 = 3 ∨ v3 = 4 := by omega
      rcases c with rfl | rfl | rfl | rfl | rfl
      · exact ⟨0, rfl, by decide, by decide⟩
      · exact ⟨1, rfl, by decide, by decide⟩
      · exact ⟨99, rfl, by decide, by decide⟩
      · exact ⟨v1, rfl, by omega, by omega⟩
      · exact ⟨v2, rfl, by omega, by omega⟩
    refine ⟨z, _, _, _, rfl, rfl, .inl (.inl ez), hx, by show (2 : Nat) ≤ sizeLine; decide, fun t1 n1 => ⟨by show (1 : Nat) ≤ sizeLine; decide, fun D nD => ⟨_, _, rfl, ?_⟩⟩⟩
    have s4 := same_upd (o := .tup [.int 0, .int x]) n1
    have s5 := same_upd (o := .lst [.ref t1]) nD
    have f5 := (f3.same s4).same s5
    have kk5 : But L H _ := (((k1.trans k2).same sz).trans k3).same (s4.trans s5)
    have ac5 : Acc K (upd (upd H3 t1 (.tup [.int 0, .int x])) D (.lst [.ref t1])) D ([(0, x)].map dPr) := by
      refine ⟨⟨[.ref t1], upd_same, .cons ?_ .nil⟩, rfl⟩
      exact .tup (.inl (.inl (s5 _ _ upd_same))) (.cons (.int _) (.cons (.int _) .nil))
    have nDF := (f3.same s4).ne nD
    have nDL := nDF.1
    have nDH : H D = none := by
      obtain ⟨zs, e⟩ := (f3.same s4).there
      exact ((((k1.trans k2).same sz).trans k3).same s4).free e nD
    generalize upd (upd H3 t1 (.tup [.int 0, .int x])) D (.lst [.ref t1]) = H5 at f5 kk5 ac5
    show tSeq _ _ _ [some (.ref L), some (.ref D), some (.int 0), none] _
    -- how many more
    refine ⟨by show (4 : Nat) ≤ sizeLine; decide, fun z2 nz2 => ?_⟩
    have sz2 := same_upd (o := .lst [.int 0, .int 0, .int 1, .int 3]) nz2
    have nz2L := f5.ne nz2
    refine ⟨_, rfl, L, S, 4, _, rfl, by decide, by decide, f5.same sz2, by omega, fun H6 v6 k6 f6 l6 u6 => ?_⟩
    have ez2 := k6 _ _ nz2L.1 upd_same
    obtain ⟨n, hn, n0, n1⟩ : ∃ x : Int, atI [V.int 0, V.int 0, V.int 1, V.int 3] v6 = some (.int x) ∧ 0 ≤ x ∧ x ≤ 3 := by
      have c : v6 = 0 ∨ v6 = 1 ∨ v6 = 2 ∨ v6 = 3 := by omega
      rcases c with rfl | rfl | rfl | rfl
      · exact ⟨0, rfl, by decide, by decide⟩
      · exact ⟨0, rfl, by decide, by decide⟩
      · exact ⟨1, rfl, by decide, by decide⟩
      · exact ⟨3, rfl, by decide, by decide⟩
    refine ⟨z2, _, _, _, rfl, rfl, .inl (.inl ez2), hn, n, rfl, by omega, by omega, ?_⟩
    have ac6 : Acc K H6 D ([(0, x)].map dPr) := by
      obtain ⟨zs, e⟩ := (f5.same sz2).there
      exact (ac5.same sz2).but k6 e nDL
    refine for_range (lo := 0) (n := n.toNat) (fun i σ H7 => ∃ (y : Option V) (a : Int) (ps : List (Int × Int)), σ = [some (.ref L), some (.ref D), some (.int a), y] ∧ 0 ≤ a ∧ a ≤ 20 * i ∧ But L H H7 ∧ Feed H7 L S (T + 4 + 2 * i) ∧ Acc K H7 D (ps.map dPr) ∧ ps.length = 1 + i ∧ ∀ p ∈ ps, 0 ≤ p.1 ∧ p.1 ≤ 100001 ∧ 0 ≤ p.2 ∧ p.2 ≤ 100001)
      ⟨_, 0, [(0, x)], rfl, by omega, by omega, (kk5.same sz2).trans k6, f6.mono (by omega), ac6, rfl, fun p hp => ?_⟩ ?_ ?_
    · rw [List.mem_singleton.mp hp]
      exact ⟨by show (0 : Int) ≤ 0; decide, by show (0 : Int) ≤ 100001; decide, x0, x1⟩
    · rintro i σ H7 hi ⟨y, a, ps, rfl, a0, a1, k7, f7, ac7, hl7, hp7⟩
      refine ⟨_, rfl, _, _, rfl, rfl, _, rfl, L, S, 20, _, rfl, by decide, by decide, f7, by omega, fun H8 v8 k8 f8 l8 u8 => ?_⟩
      refine ⟨_, _, rfl, rfl, ?_⟩
      have ac8 : Acc K H8 D (ps.map dPr) := by
        obtain ⟨zs, e⟩ := f7.there
        exact ac7.but k8 e nDL
      obtain ⟨us8, e8, _⟩ := ac8.ex
      refine ⟨.ref D, rfl, .inl ⟨rfl, _, .inl (.inl e8)⟩, _, rfl, _, rfl, L, S, 1000, _, rfl, by decide, by decide, f8, by omega, fun H9 v9 k9 f9 l9 u9 => ?_⟩
      refine ⟨by show (2 : Nat) ≤ sizeLine; decide, fun t9 n9 => ?_⟩
      have ac9 : Acc K H9 D (ps.map dPr) := by
        obtain ⟨zs, e⟩ := f8.there
        exact ac8.but k9 e nDL
      have s10 := same_upd (o := .tup [.int (a + 1 + v8), .int v9]) n9
      obtain ⟨us, e10, z10, ac10⟩ := (ac9.same s10).more (v := .ref t9) (d := dPr (a + 1 + v8, v9)) (.tup (.inl (.inl upd_same)) (.cons (.int _) (.cons (.int _) .nil))) rfl (by rw [List.length_map]; omega)
      refine ⟨D, _, _, rfl, rfl, e10, z10, _, a + 1 + v8, ps ++ [(a + 1 + v8, v9)], rfl, by omega, by omega, ?_, ?_, ?_, ?_, ?_⟩
      · intro b o nb e
        rw [upd_ne (ne_of_none e nDH)]
        exact s10 _ _ (k9 _ _ nb (k8 _ _ nb (k7 _ _ nb e)))
      · exact ((f9.same s10).upd nDF).mono (by omega)
      · rw [List.map_append]
        exact ac10
      · rw [List.length_append, hl7]
        rfl
      · intro p hp
        rcases List.mem_append.mp hp with z | z
        · exact hp7 p z
        · rw [List.mem_singleton.mp z]
          exact ⟨by show (0 : Int) ≤ a + 1 + v8; omega, by show a + 1 + v8 ≤ 100001; omega, l9, by show v9 ≤ 100001; omega⟩
    · rintro σ H7 ⟨y, a, ps, rfl, a0, a1, k7, f7, ac7, hl7, hp7⟩
      obtain ⟨us, eD, dv⟩ := ac7.ex
      refine ⟨_, rfl, D, _, rfl, .inl ⟨.inl (.inl eD), fun t nt => ?_⟩⟩
      exact q _ _ ps (k7.same (same_upd nt)) ((f7.same (same_upd nt)).mono (by omega)) (Acc.tuple (D := D) dv nt) ⟨by omega, hp7⟩
end
end K80

set_option Elab.async false
set_option linter.all false
set_option maxRecDepth 100000
set_option maxHeartbeats 400000
namespace K80
open PySem PySem.Spec PyProof.Rows L2 TB

theorem scHouse : FnScope ["_law_feed_here", "_law_items", "_law_menu", "_law_offs", "_law_k", "_law_some", "_law_start", "_law_item"] ["_law_feed_here"] (defScope sHouse) := ⟨rfl, rfl, rfl, by decide +kernel, rfl, by decide +kernel, by decide +kernel⟩
structure FitR (B : Int) (r : MRow) : Prop where
  it : r.item ∈ words7
  m0 : 0 ≤ r.mins
  m1 : r.mins ≤ B
  ps : FitP B r.prs
structure FitO (B : Int) (o : MOff) : Prop where
  il : o.its.length ≤ 10
  it : ∀ x ∈ o.its, x ∈ words7
  a0 : 0 ≤ o.a
  a1 : o.a ≤ B
  b0 : 0 ≤ o.b
  b1 : o.b ≤ B
  c0 : 0 ≤ o.c
  c1 : o.c ≤ B
structure FitH (B : Int) (h : MHouse) : Prop where
  ml : h.menu.length ≤ 10
  ol : h.offs.length ≤ 10
  mr : ∀ r ∈ h.menu, FitR B r
  of : ∀ o ∈ h.offs, FitO B o
  w0 : 0 ≤ h.wait
  w1 : h.wait ≤ B
  f0 : 0 ≤ h.fires
  f1 : h.fires ≤ B
/-- a new list that is filled: what was tracked ahead is kept -/
theorem but_new {L D : Addr} {H H2 : Hp} {o : HO} (nD : H D = none) (k : But L H H2) : But L H (upd H2 D o) := fun b x n e => by
  rw [upd_ne (ne_of_none e nD)]
  exact k b x n e
section
variable {P : Program} {w : World} {K : PySem.W.Frag} {mg : Str → Option Value} {base : Heap}
theorem accF {H H' : Hp} {L S D : Addr} {T : Int} {ds : List PyData} (ac : Acc K H D ds) (k : But L H H') (f : Feed H L S T) (n : D ≠ L) : Acc K H' D ds := by
  obtain ⟨zs, e⟩ := f.there
  exact ac.but k e n
def spHouse (K : PySem.W.Frag) : Sp := fun vs H Q _ => ∃ (L S : Addr) (T : Int), vs = [.ref L] ∧ Feed H L S T ∧ T < 2 ^ 38 ∧
  ∀ (H' : Hp) (v : V) (h : MHouse), But L H H' → Feed H' L S (T + 400) → Dp K H' v (dHouse h) → FitH 100001 h → Q v H'
theorem ok_house {f fR fW fP : Addr} {fd fdR fdW fdP : FuncData} (F : Fun K "_law_house" "_law_house" sHouse f fd)
    (GR : FnOk P w K mg base CX0 1 fR fdR ["_law_feed_here", "_law_many"] spNext) (kR : PySem.W.keepIn K (.ref fR) = true) (bR : Binds K fdR ["_law_feed_here", "_law_many"] []) (gR : mg "_law_next" = some (.ref fR))
    (GW : FnOk P w K mg base CX0 2 fW fdW ["_law_feed_here", "_law_many", "_law_left"] spWords) (kW : PySem.W.keepIn K (.ref fW) = true) (bW : Binds K fdW ["_law_feed_here", "_law_many", "_law_left"] []) (gW : mg "_law_words" = some (.ref fW))
    (GP : FnOk P w K mg base CX0 2 fP fdP ["_law_feed_here"] (spPrices K)) (kP : PySem.W.keepIn K (.ref fP) = true) (bP : Binds K fdP ["_law_feed_here"] []) (gP : mg "_law_prices" = some (.ref fP))
    (m_range : mg "range" = none) (m_tuple : mg "tuple" = none) (m_sorted : mg "sorted" = none) : FnOk P w K mg base CX0 3 f fd ["_law_feed_here"] (spHouse K) := by
  refine F.ok scHouse (fun vs H Q E h => ?_) (fun cdv A outer s H vs Q E hr h => ?_)
  · obtain ⟨L, S, T, rfl, _⟩ := h
    rfl
  · obtain ⟨L, S, T, rfl, hF, hT, q⟩ := h
    refine ⟨_, (pss_cons (ps_set (i := 1) scHouse.nd rfl (.inl rfl) (pe_callB cr_sortedS (by rfl) m_sorted (by decide +kernel) (pa_cons (pe_call GW (hr.mono (by decide)) (by rfl) gW kW bW .nil pass0 (pa_cons (pv 0) (pa_cons (pe_op op_add pe_int (pe_call GR (hr.mono (by decide)) (by rfl) gR kR bR .nil pass0 (pa_cons (pv 0) (pa_cons pe_int pa_nil)))) (pa_cons (pe_lst (pa_cons pe_str (pa_cons pe_str (pa_cons pe_str (pa_cons pe_str (pa_cons pe_str (pa_cons pe_str (pa_cons pe_str pa_nil)))))))) pa_nil)))) pa_nil)))
      (pss_cons (ps_set (i := 2) scHouse.nd rfl (.inl rfl) (pe_callTy call_tuple_of (by rfl) m_tuple (by decide +kernel) (pa_cons (pe_lc (own := [("_law_item", 7)]) (g := gName 7) (tt := tYes) rfl scHouse.nd (pi_list (pv 1)) (blkOk_by (own := [("_law_item", 7)]) (N := ["_law_feed_here", "_law_items", "_law_menu", "_law_offs", "_law_k", "_law_some", "_law_start", "_law_item"]) (sc := defScope sHouse) (by decide +kernel)) (fun _ _ _ _ _ => (pg_name (i := 7) scHouse.nd rfl (.inl rfl))) (fun _ _ _ _ _ => pts_nil) (fun _ _ _ _ _ => (pe_tup (pa_cons (pv 7) (pa_cons (pe_call GR (hr.mono (by decide)) (by rfl) gR kR bR .nil pass0 (pa_cons (pv 0) (pa_cons pe_int pa_nil))) (pa_cons (pe_call GP (hr.mono (by decide)) (by rfl) gP kP bP .nil pass0 (pa_cons (pv 0) pa_nil)) pa_nil)))))) pa_nil)))
      (pss_cons (ps_set (i := 3) scHouse.nd rfl (.inl rfl) (pe_lst pa_nil))
      (pss_cons (ps_for PassesOwn.never rfl (pi_range1 (by rfl) m_range (pa_cons (pe_call GR (hr.mono (by decide)) (by rfl) gR kR bR .nil pass0 (pa_cons (pv 0) (pa_cons pe_int pa_nil))) pa_nil)) (pg_name (i := 4) scHouse.nd rfl (.inl rfl)) (pss_cons (ps_set (i := 5) scHouse.nd rfl (.inl rfl) (pe_callTy call_tuple_of (by rfl) m_tuple (by decide +kernel) (pa_cons (pe_lc (own := [("_law_item", 7)]) (g := gName 7) rfl scHouse.nd (pi_list (pv 1)) (blkOk_by (own := [("_law_item", 7)]) (N := ["_law_feed_here", "_law_items", "_law_menu", "_law_offs", "_law_k", "_law_some", "_law_start", "_law_item"]) (sc := defScope sHouse) (by decide +kernel)) (fun _ _ _ _ _ => (pg_name (i := 7) scHouse.nd rfl (.inl rfl))) (fun _ _ _ _ _ => (pts_one (pt_cmpR op_eq (pe_call GR (hr.mono (by decide)) (by rfl) gR kR bR .nil pass0 (pa_cons (pv 0) (pa_cons pe_int pa_nil))) pe_int (nomark _)))) (fun _ _ _ _ _ => (pv 7))) pa_nil)))
      (pss_cons (ps_set (i := 6) scHouse.nd rfl (.inl rfl) (pe_ix ix_list (pe_lst (pa_cons pe_int (pa_cons (pe_call GR (hr.mono (by decide)) (by rfl) gR kR bR .nil pass0 (pa_cons (pv 0) (pa_cons pe_int pa_nil))) pa_nil))) (pe_call GR (hr.mono (by decide)) (by rfl) gR kR bR .nil pass0 (pa_cons (pv 0) (pa_cons pe_int pa_nil))) (fun _ _ => rfl)))
      (pss_one (ps_expr (pe_bm PySem.F.plainAttrs_list PySem.F.slot_list_append PySem.F.type_list_append mt_append (pv 3) (pa_cons (pe_tup (pa_cons (pv 5) (pa_cons (pv 6) (pa_cons (pe_op op_add (pv 6) (pe_call GR (hr.mono (by decide)) (by rfl) gR kR bR .nil pass0 (pa_cons (pv 0) (pa_cons pe_int pa_nil)))) (pa_cons (pe_ix ix_list (pe_lst (pa_cons pe_int (pa_cons pe_int (pa_cons pe_int (pa_cons (pe_call GR (hr.mono (by decide)) (by rfl) gR kR bR .nil pass0 (pa_cons (pv 0) (pa_cons pe_int pa_nil))) pa_nil))))) (pe_call GR (hr.mono (by decide)) (by rfl) gR kR bR .nil pass0 (pa_cons (pv 0) (pa_cons pe_int pa_nil))) (fun _ _ => rfl)) pa_nil))))) pa_nil)))))))
      (pss_one (ps_ret (pe_tup (pa_cons (pv 2) (pa_cons (pe_callTy call_tuple_of (by rfl) m_tuple (by decide +kernel) (pa_cons (pv 3) pa_nil)) (pa_cons (pe_call GR (hr.mono (by decide)) (by rfl) gR kR bR .nil pass0 (pa_cons (pv 0) (pa_cons pe_int pa_nil))) (pa_cons (pe_op op_add pe_int (pe_call GR (hr.mono (by decide)) (by rfl) gR kR bR .nil pass0 (pa_cons (pv 0) (pa_cons pe_int pa_nil)))) pa_nil))))))))))), ?_⟩
    -- the items
    refine ⟨_, rfl, _, rfl, L, S, 4, T, rfl, by decide, by decide, hF, by omega, fun H1 v1 k1 f1 l1 u1 => ?_⟩
    refine ⟨_, _, rfl, rfl, by show (7 : Nat) ≤ sizeLine; decide, fun W nW => ?_⟩
    obtain ⟨m, hm⟩ : ∃ m : Nat, 1 + v1 = (m : Int) := ⟨(1 + v1).toNat, by omega⟩
    have sW := same_upd (o := .lst (words7.map V.str)) nW
    have nWF := f1.ne nW
    refine ⟨L, S, W, T + 1, m, words7, (by rw [← hm]; rfl), f1.same sW, by omega, upd_same, nWF.1, nWF.2, by show m ≤ 7; omega, by decide, fun x hx => hx, fun H2 R rs b2 f2 nR eR hl hg => ?_⟩
    have kk2 : But L H H2 := fun b o n e => by
      have e1 := k1 b o n e
      exact b2 b o n (ne_of_none e1 nW) (sW b o e1)
    refine ⟨R, rs, rfl, .inl (.inl eR), by omega, fun ys pI perm srt npI => ?_⟩
    have s3 := same_upd (o := .lst (ys.map V.str)) npI
    have e3 : (upd H2 pI (.lst (ys.map V.str))) pI = some (.lst (ys.map V.str)) := upd_same
    have yl : ys.length = m := perm.length_eq.trans hl
    have yg : ∀ x ∈ ys, x ∈ words7 := fun x hx => hg x (perm.mem_iff.mp hx)
    have f3 := f2.same s3
    have kk3 := kk2.same s3
    have npL := (f2.ne npI).1
    generalize upd H2 pI (.lst (ys.map V.str)) = H3 at s3 e3 f3 kk3
    show tSeq _ _ _ [some (.ref L), some (.ref pI), none, none, none, none, none, none] _
    -- the menu
    refine ⟨_, rfl, pI, rfl, ⟨_, .inl (.inl e3)⟩, fun D nD => ?_⟩
    have nDF := f3.ne nD
    have nDp : pI ≠ D := ne_of_none e3 nD
    refine lc_list (xs := ys.map V.str) (fun i H4 => But L H3 H4 ∧ Feed H4 L S (T + 10 + 21 * i) ∧ ∃ rows : List MRow, Acc K H4 D (rows.map dMRow) ∧ rows.length = i ∧ ∀ r ∈ rows, FitR 100001 r)
      ⟨But.of (same_upd nD), (f3.same (same_upd nD)).mono (by omega), [], Acc.start, rfl, fun r hr => by cases hr⟩ ?_ ?_ ?_
    · rintro i H4 _ ⟨k4, _⟩
      exact .inl (.inl (k4 _ _ npL e3))
    · rintro i x H4 hx ⟨k4, f4, rows, ac4, rl, rf⟩
      obtain ⟨y, hy, rfl⟩ := map_get hx
      have hil : i < ys.length := (List.getElem?_eq_some_iff.mp hy).1
      refine ⟨rfl, yes (iteT ?_)⟩
      refine ⟨_, rfl, _, rfl, L, S, 61, _, rfl, by decide, by decide, f4, by omega, fun H5 v5 k5 f5 l5 u5 => ?_⟩
      refine ⟨_, rfl, L, S, _, rfl, f5, by omega, fun H6 v6 ps k6 f6 d6 fit6 => ?_⟩
      refine ⟨by show (3 : Nat) ≤ sizeLine; decide, fun t6 n6 => ?_⟩
      have ac6 := accF (accF ac4 k5 f4 nDF.1) k6 f5 nDF.1
      have s7 := same_upd (o := .tup [.str y, .int v5, v6]) n6
      obtain ⟨us, a, b, c⟩ := (ac6.same s7).more (v := .ref t6) (d := dMRow ⟨y, v5, ps⟩) (.tup (.inl (.inl upd_same)) (.cons (.str _) (.cons (.int _) (.cons (Dp.same s7 _ _ d6) .nil)))) (noL_row _) (by rw [List.length_map]; omega)
      refine ⟨us, a, b, but_new nD (((k4.trans k5).trans k6).same s7), ((f6.same s7).upd nDF).mono (by omega), rows ++ [⟨y, v5, ps⟩], ?_, ?_, ?_⟩
      · rw [List.map_append]
        exact c
      · rw [List.length_append, rl]
        rfl
      · intro r hr
        rcases List.mem_append.mp hr with z | z
        · exact rf r z
        · rw [List.mem_singleton.mp z]
          exact ⟨yg y (List.mem_of_getElem? hy), l5, by show v5 ≤ 100001; omega, fit6⟩
    · rintro H4 ⟨k4, f4, rows, ac4, rl, rf⟩
      rw [List.length_map, yl] at rl f4
      obtain ⟨us4, eD4, dv4⟩ := ac4.ex
      refine ⟨D, _, rfl, .inl ⟨.inl (.inl eD4), fun tM nM => ?_⟩⟩
      have s5 := same_upd (o := .tup us4) nM
      have dM5 : Dp K (upd H4 tM (.tup us4)) (.ref tM) (.tuple (rows.map dMRow)) := Acc.tuple (D := D) dv4 nM
      have f5 := f4.same s5
      have k5 : But L H (upd H4 tM (.tup us4)) := (kk3.trans k4).same s5
      have eP5 := s5 _ _ (k4 _ _ npL e3)
      generalize upd H4 tM (.tup us4) = H5 at dM5 f5 k5 eP5
      -- the sums off
      refine ⟨Nat.zero_le _, fun O nO => ?_⟩
      have s6 := same_upd (o := .lst []) nO
      have nOF := f5.ne nO
      have nOH : H O = none := by
        obtain ⟨zs, e⟩ := f5.there
        exact k5.free e nO
      have nOp : pI ≠ O := ne_of_none eP5 nO
      show tSeq _ _ _ [some (.ref L), some (.ref pI), some (.ref tM), some (.ref O), none, none, none, none] _
      refine ⟨_, rfl, L, S, 3, _, rfl, by decide, by decide, f5.same s6, by omega, fun H7 n k7 f7 l7 u7 => ?_⟩
      refine ⟨n, rfl, by omega, by omega, ?_⟩
      have noLM : noL (.tuple (rows.map dMRow)) = true := noLs_of fun d hd => by
        obtain ⟨r, _, rfl⟩ := List.mem_map.mp hd
        exact noL_row r
      refine for_range (lo := 0) (n := n.toNat) (fun i σ H8 => ∃ y4 y5 y6, σ = [some (.ref L), some (.ref pI), some (.ref tM), some (.ref O), y4, y5, y6, none] ∧ But L H H8 ∧ H8 pI = some (.lst (ys.map V.str)) ∧ Dp K H8 (.ref tM) (.tuple (rows.map dMRow)) ∧ Feed H8 L S (T + 110 + 50 * i) ∧
        ∃ offs : List MOff, Acc K H8 O (offs.map dMOff) ∧ offs.length = i ∧ ∀ o ∈ offs, FitO 100001 o)
        ⟨_, _, _, rfl, (k5.same s6).trans k7, k7 _ _ npL (s6 _ _ eP5), ?_, f7.mono (by omega), [], accF Acc.start k7 (f5.same s6) nOF.1, rfl, fun o ho => by cases ho⟩ ?_ ?_
      · obtain ⟨zs, e⟩ := (f5.same s6).there
        exact Dp.but k7 e _ _ noLM (Dp.same s6 _ _ dM5)
      · rintro i σ H8 hi ⟨y4, y5, y6, rfl, k8, eP8, dM8, f8, offs, ac8, ol, of⟩
        have hi2 : i < 3 := by omega
        -- some of the items
        refine ⟨_, rfl, pI, rfl, ⟨_, .inl (.inl eP8)⟩, fun D2 nD2 => ?_⟩
        have nD2F := f8.ne nD2
        have nD2O : O ≠ D2 := by
          obtain ⟨us, e, _⟩ := ac8.ex
          exact ne_of_none e nD2
        refine lc_list (xs := ys.map V.str) (fun j H9 => But L H8 H9 ∧ Feed H9 L S (T + 110 + 50 * i + j) ∧ ∃ xs : List Str, Acc K H9 D2 (xs.map PyData.str) ∧ xs.length ≤ j ∧ ∀ x ∈ xs, x ∈ words7)
          ⟨But.of (same_upd nD2), (f8.same (same_upd nD2)).mono (by omega), [], Acc.start, Nat.le_refl _, fun x hx => by cases hx⟩ ?_ ?_ ?_
        · rintro j H9 _ ⟨k9, _⟩
          exact .inl (.inl (k9 _ _ npL eP8))
        · rintro j x H9 hx ⟨k9, f9, xs, ac9, xl, xg⟩
          obtain ⟨y, hy, rfl⟩ := map_get hx
          have hjl : j < ys.length := (List.getElem?_eq_some_iff.mp hy).1
          refine ⟨rfl, ?_⟩
          refine ⟨_, rfl, L, S, 2, _, rfl, by decide, by decide, f9, by omega, fun H10 v10 k10 f10 l10 u10 => ?_⟩
          have ac10 := accF ac9 k10 f9 nD2F.1
          refine ⟨rfl, _, rfl, ite2 (fun c => ?_) (fun c => ?_)⟩
          · obtain ⟨us, a, b, c⟩ := ac10.more (v := .str y) (d := .str y) (.str _) rfl (by rw [List.length_map]; omega)
            refine ⟨_, rfl, us, a, b, but_new nD2 (k9.trans k10), (f10.upd nD2F).mono (by omega), xs ++ [y], ?_, ?_, ?_⟩
            · rw [List.map_append]
              exact c
            · rw [List.length_append]
              show xs.length + 1 ≤ j + 1
              omega
            · intro z hz
              rcases List.mem_append.mp hz with w | w
              · exact xg z w
              · rw [List.mem_singleton.mp w]
                exact yg y (List.mem_of_getElem? hy)
          · exact ⟨k9.trans k10, f10.mono (by omega), xs, ac10, by omega, xg⟩
        · rintro H9 ⟨k9, f9, xs, ac9, xl, xg⟩
          rw [List.length_map, yl] at xl f9
          obtain ⟨us9, e9, dv9⟩ := ac9.ex
          refine ⟨D2, _, rfl, .inl ⟨.inl (.inl e9), fun tS nS => ?_⟩⟩
          have s10 := same_upd (o := .tup us9) nS
          have dS10 : Dp K (upd H9 tS (.tup us9)) (.ref tS) (.tuple (xs.map PyData.str)) := Acc.tuple (D := D2) dv9 nS
          have f10 := f9.same s10
          have k10 : But L H8 (upd H9 tS (.tup us9)) := k9.same s10
          generalize upd H9 tS (.tup us9) = H10 at dS10 f10 k10
          have noLS : noL (.tuple (xs.map PyData.str)) = true := noL_strs xs
          show tSeq _ _ _ [some (.ref L), some (.ref pI), some (.ref tM), some (.ref O), some (.int (0 + (i : Int))), some (.ref tS), y6, none] _
          -- start
          refine ⟨_, rfl, L, S, 20, _, rfl, by decide, by decide, f10, by omega, fun H11 v11 k11 f11 l11 u11 => ⟨by show (2 : Nat) ≤ sizeLine; decide, fun z nz => ?_⟩⟩
          have sz := same_upd (o := .lst [.int 0, .int v11]) nz
          have nzF := f11.ne nz
          refine ⟨_, rfl, L, S, 2, _, rfl, by decide, by decide, f11.same sz, by omega, fun H12 v12 k12 f12 l12 u12 => ?_⟩
          have ez := k12 _ _ nzF.1 upd_same
          obtain ⟨st, hst, st0, st1⟩ : ∃ x : Int, atI [V.int 0, V.int v11] v12 = some (.int x) ∧ 0 ≤ x ∧ x < 20 := by
            have c : v12 = 0 ∨ v12 = 1 := by omega
            rcases c with rfl | rfl
            · exact ⟨0, rfl, by decide, by decide⟩
            · exact ⟨v11, rfl, by omega, by omega⟩
          refine ⟨z, _, _, _, rfl, rfl, .inl (.inl ez), hst, ?_⟩
          have k12' : But L H8 H12 := ((k10.trans k11).same sz).trans k12
          have dS12 : Dp K H12 (.ref tS) (.tuple (xs.map PyData.str)) := by
            obtain ⟨z1, e1⟩ := f10.there
            obtain ⟨z2, e2⟩ := (f11.same sz).there
            exact Dp.but k12 e2 _ _ noLS (Dp.same sz _ _ (Dp.but k11 e1 _ _ noLS dS10))
          have ac12 : Acc K H12 O (offs.map dMOff) := accF ac8 k12' f8 nOF.1
          show tSeq _ _ _ [some (.ref L), some (.ref pI), some (.ref tM), some (.ref O), some (.int (0 + (i : Int))), some (.ref tS), some (.int st), none] _
          obtain ⟨us12, e12, _⟩ := ac12.ex
          -- the sum off
          refine ⟨.ref O, rfl, .inl ⟨rfl, _, .inl (.inl e12)⟩, _, rfl, _, rfl, _, rfl, _, rfl, L, S, 30, _, rfl, by decide, by decide, f12, by omega, fun H13 v13 k13 f13 l13 u13 => ⟨_, _, rfl, rfl, ?_⟩⟩
          refine ⟨_, rfl, L, S, 101, _, rfl, by decide, by decide, f13, by omega, fun H14 v14 k14 f14 l14 u14 => ⟨by show (4 : Nat) ≤ sizeLine; decide, fun z2 nz2 => ?_⟩⟩
          have sz2 := same_upd (o := .lst [.int 0, .int 50, .int 100, .int v14]) nz2
          have nz2F := f14.ne nz2
          refine ⟨_, rfl, L, S, 4, _, rfl, by decide, by decide, f14.same sz2, by omega, fun H15 v15 k15 f15 l15 u15 => ?_⟩
          have ez2 := k15 _ _ nz2F.1 upd_same
          obtain ⟨pc, hpc, pc0, pc1⟩ : ∃ x : Int, atI [V.int 0, V.int 50, V.int 100, V.int v14] v15 = some (.int x) ∧ 0 ≤ x ∧ x ≤ 100 := by
            have c : v15 = 0 ∨ v15 = 1 ∨ v15 = 2 ∨ v15 = 3 := by omega
            rcases c with rfl | rfl | rfl | rfl
            · exact ⟨0, rfl, by decide, by decide⟩
            · exact ⟨50, rfl, by decide, by decide⟩
            · exact ⟨100, rfl, by decide, by decide⟩
            · exact ⟨v14, rfl, by omega, by omega⟩
          refine ⟨z2, _, _, _, rfl, rfl, .inl (.inl ez2), hpc, by show (4 : Nat) ≤ sizeLine; decide, fun t15 n15 => ?_⟩
          have k15' : But L H12 H15 := ((k13.trans k14).same sz2).trans k15
          have s16 := same_upd (o := .tup [.ref tS, .int st, .int (st + v13), .int pc]) n15
          have dS15 : Dp K H15 (.ref tS) (.tuple (xs.map PyData.str)) := by
            obtain ⟨z1, e1⟩ := f12.there
            exact Dp.but k15' e1 _ _ noLS dS12
          have ac15 := accF ac12 k15' f12 nOF.1
          obtain ⟨us, a, b, c⟩ := (ac15.same s16).more (v := .ref t15) (d := dMOff ⟨xs, st, st + v13, pc⟩) (.tup (.inl (.inl upd_same)) (.cons (Dp.same s16 _ _ dS15) (.cons (.int _) (.cons (.int _) (.cons (.int _) .nil))))) (noL_off _) (by rw [List.length_map]; omega)
          have kAll : But L H8 (upd H15 t15 (.tup [.ref tS, .int st, .int (st + v13), .int pc])) := (k12'.trans k15').same s16
          refine ⟨O, _, _, rfl, rfl, a, b, _, _, _, rfl, ?_, ?_, ?_, ?_, offs ++ [⟨xs, st, st + v13, pc⟩], ?_, ?_, ?_⟩
          · exact but_new nOH (k8.trans kAll)
          · rw [upd_ne nOp]
            exact kAll _ _ npL eP8
          · have dM16 : Dp K (upd H15 t15 (.tup [.ref tS, .int st, .int (st + v13), .int pc])) (.ref tM) (.tuple (rows.map dMRow)) := by
              obtain ⟨z1, e1⟩ := f8.there
              exact Dp.but kAll e1 _ _ noLM dM8
            exact Dp.but But.upd a _ _ noLM dM16
          · exact ((f15.same s16).upd nOF).mono (by omega)
          · rw [List.map_append]
            exact c
          · rw [List.length_append, ol]
            rfl
          · intro o ho
            rcases List.mem_append.mp ho with w | w
            · exact of o w
            · rw [List.mem_singleton.mp w]
              exact ⟨by show xs.length ≤ 10; omega, xg, st0, by show st ≤ 100001; omega, by show (0 : Int) ≤ st + v13; omega, by show st + v13 ≤ 100001; omega, pc0, by show pc ≤ 100001; omega⟩
      · rintro σ H8 ⟨y4, y5, y6, rfl, k8, eP8, dM8, f8, offs, ac8, ol, of⟩
        obtain ⟨us8, e8, dv8⟩ := ac8.ex
        refine ⟨_, rfl, _, rfl, O, _, rfl, .inl ⟨.inl (.inl e8), fun tO ntO => ?_⟩⟩
        have s9 := same_upd (o := .tup us8) ntO
        have dO9 : Dp K (upd H8 tO (.tup us8)) (.ref tO) (.tuple (offs.map dMOff)) := Acc.tuple (D := O) dv8 ntO
        have noLO : noL (.tuple (offs.map dMOff)) = true := noLs_of fun d hd => by
          obtain ⟨r, _, rfl⟩ := List.mem_map.mp hd
          exact noL_off r
        have f9 := f8.same s9
        have dM9 := Dp.same s9 _ _ dM8
        have k9 := k8.same s9
        generalize upd H8 tO (.tup us8) = H9 at dO9 f9 dM9 k9
        refine ⟨_, rfl, L, S, 121, _, rfl, by decide, by decide, f9, by omega, fun H10 v10 k10 f10 l10 u10 => ?_⟩
        refine ⟨_, rfl, L, S, 9, _, rfl, by decide, by decide, f10, by omega, fun H11 v11 k11 f11 l11 u11 => ⟨_, _, rfl, rfl, by show (4 : Nat) ≤ sizeLine; decide, fun tH ntH => ?_⟩⟩
        have s12 := same_upd (o := .tup [.ref tM, .ref tO, .int v10, .int (1 + v11)]) ntH
        have k11' := k10.trans k11
        obtain ⟨z1, e1⟩ := f9.there
        refine q _ _ ⟨rows, offs, v10, 1 + v11⟩ ((k9.trans k11').same s12) ((f11.same s12).mono (by omega)) ?_ ?_
        · exact .tup (.inl (.inl upd_same)) (.cons (Dp.same s12 _ _ (Dp.but k11' e1 _ _ noLM dM9)) (.cons (Dp.same s12 _ _ (Dp.but k11' e1 _ _ noLO dO9)) (.cons (.int _) (.cons (.int _) .nil))))
        · exact ⟨by show rows.length ≤ 10; omega, by show offs.length ≤ 10; omega, rf, of, l10, by show v10 ≤ 100001; omega, by show (0 : Int) ≤ 1 + v11; omega, by show 1 + v11 ≤ 100001; omega⟩
end
end K80

set_option Elab.async false
set_option linter.all false
set_option maxRecDepth 100000
set_option maxHeartbeats 400000
namespace K80
open PySem PySem.Spec PyProof.Rows L2 TB

theorem scPR : FnScope ["_law_prices_here", "_law_more", "_law_found", "_law_start", "_law_pence"] ["_law_prices_here", "_law_more"] (defScope sPR) := ⟨rfl, rfl, rfl, by decide +kernel, rfl, by decide +kernel, by decide +kernel⟩
theorem scWant : FnScope ["_law_home", "_law_more", "_law_menu", "_law_offs", "_law_item", "_law_minutes", "_law_prices_here", "_law_row"] ["_law_home", "_law_more"] (defScope sWant) := ⟨rfl, rfl, rfl, by decide +kernel, rfl, by decide +kernel, by decide +kernel⟩
section
variable {P : Program} {w : World} {K : PySem.W.Frag} {mg : Str → Option Value} {base : Heap}
/-! ### _law_price_row -/
def spPR (K : PySem.W.Frag) : Sp := fun vs H Q _ => ∃ (v : V) (ps : List (Int × Int)) (l : Int), vs = [v, .int l] ∧ Dp K H v (dPrs ps) ∧ ps.length ≤ 500 ∧ (∀ p ∈ ps, 0 ≤ p.1) ∧
  ∀ (H' : Hp) (r : V), Same H H' → Dp K H' r (dPrs (ps.map (ltPr l))) → Q r H'
theorem ok_pr {f : Addr} {fd : FuncData} {k : Nat} (F : Fun K "_law_price_row" "_law_price_row" sPR f fd) (m_tuple : mg "tuple" = none) : FnOk P w K mg base CX0 (k + 1) f fd ["_law_prices_here", "_law_more"] (spPR K) := by
  refine F.ok scPR (fun vs H Q E h => ?_) (fun cdv A outer s H vs Q E hr h => ?_)
  · obtain ⟨v, ps, l, rfl, _⟩ := h
    rfl
  · obtain ⟨v, ps, l, rfl, hd, hl, hp0, q⟩ := h
    refine ⟨_, (pss_cons (ps_set (i := 2) scPR.nd rfl (.inl rfl) (pe_lst pa_nil))
      (pss_cons (ps_for PassesOwn.never rfl (pi_tup (pv 0)) (pg_tup rfl (pgs_cons (pg_name (i := 3) scPR.nd rfl (.inl rfl)) (pgs_cons (pg_name (i := 4) scPR.nd rfl (.inl rfl)) pgs_nil))) (pss_one (ps_expr (pe_bm PySem.F.plainAttrs_list PySem.F.slot_list_append PySem.F.type_list_append mt_append (pv 2) (pa_cons (pe_tup (pa_cons (pe_ifExp (pt_cmpR op_gt (pv 3) pe_int (nomark _)) (pe_op op_add (pv 3) (pv 1)) pe_int) (pa_cons (pv 4) pa_nil))) pa_nil)))))
      (pss_one (ps_ret (pe_callTy call_tuple_of (by rfl) m_tuple (by decide +kernel) (pa_cons (pv 2) pa_nil)))))), ?_⟩
    obtain ⟨a, xs, rfl, hA, dA⟩ := Dp.tup_inv hd
    have hxl := DpAll.len dA
    rw [List.length_map] at hxl
    refine ⟨Nat.zero_le _, fun D nD => ?_⟩
    refine ⟨_, rfl, a, rfl, ⟨_, TB.Same.tup (same_upd nD) hA⟩, ?_⟩
    refine for_tup (xs := xs) (fun i σ H1 => ∃ y3 y4, σ = [some (.ref a), some (.int l), some (.ref D), y3, y4] ∧ Same H H1 ∧ Acc K H1 D ((ps.take i).map fun p => dPr (ltPr l p))) ⟨_, _, rfl, same_upd nD, Acc.start⟩ ?_ ?_ ?_
    · rintro i σ H1 _ ⟨y3, y4, _, sm, _⟩
      exact TB.Same.tup sm hA
    · rintro i x σ H1 hx ⟨y3, y4, rfl, sm, ac⟩
      obtain ⟨d, hd, dx⟩ := DpAll.get dA hx
      obtain ⟨p, hp, rfl⟩ := map_get hd
      obtain ⟨t, rfl, hT⟩ := pair_inv dx
      have hil : ((ps.take i).map fun p => dPr (ltPr l p)).length ≤ 900 := by
        rw [List.length_map, List.length_take]
        omega
      have hp' := hp0 p (List.mem_of_getElem? hp)
      refine ⟨t, _, rfl, TB.Same.tup sm hT, rfl, _, _, rfl, _, _, rfl, rfl, ?_⟩
      obtain ⟨us, eD, _⟩ := ac.ex
      refine ⟨.ref D, rfl, .inl ⟨rfl, _, .inl (.inl eD)⟩, ?_⟩
      refine ⟨_, rfl, _, _, rfl, rfl, _, rfl, ite2 (fun c => ?_) (fun c => ?_)⟩
      · refine ⟨_, rfl, _, rfl, _, _, rfl, rfl, _, rfl, by show (2 : Nat) ≤ sizeLine; decide, fun t2 n2 => ?_⟩
        obtain ⟨us2, a2, b2, s2, c2⟩ := Acc.turn (v := .ref t2) nD sm ac (same_upd (o := .tup [.int (p.1 + l), .int p.2]) n2) (d := dPr (ltPr l p)) (by
          rw [show ltPr l p = (p.1 + l, p.2) by unfold ltPr; rw [if_pos (of_decide_eq_true c)]]
          exact .tup (.inl (.inl upd_same)) (.cons (.int _) (.cons (.int _) .nil))) rfl hil (map_take_more hp)
        exact ⟨D, _, _, rfl, rfl, a2, b2, _, _, rfl, s2, c2⟩
      · refine ⟨_, rfl, by show (2 : Nat) ≤ sizeLine; decide, fun t2 n2 => ?_⟩
        have hp1 : p.1 = 0 := by
          have : ¬ 0 < p.1 := fun z => c (decide_eq_true z)
          omega
        obtain ⟨us2, a2, b2, s2, c2⟩ := Acc.turn (v := .ref t2) nD sm ac (same_upd (o := .tup [.int 0, .int p.2]) n2) (d := dPr (ltPr l p)) (by
          rw [show ltPr l p = (0, p.2) by unfold ltPr; rw [if_neg (by omega), hp1]]
          exact .tup (.inl (.inl upd_same)) (.cons (.int _) (.cons (.int _) .nil))) rfl hil (map_take_more hp)
        exact ⟨D, _, _, rfl, rfl, a2, b2, _, _, rfl, s2, c2⟩
    · rintro σ H1 ⟨y3, y4, rfl, sm, ac⟩
      rw [hxl, List.take_length] at ac
      obtain ⟨us, eD, dv⟩ := ac.ex
      refine ⟨_, rfl, D, _, rfl, .inl ⟨.inl (.inl eD), fun t nt => ?_⟩⟩
      refine q _ _ (sm.trans (same_upd nt)) ?_
      show Dp K _ (.ref t) (.tuple ((ps.map (ltPr l)).map dPr))
      rw [List.map_map]
      exact Acc.tuple (D := D) dv nt

/-! ### _law_want -/
def spWant (K : PySem.W.Frag) : Sp := fun vs H Q _ => ∃ (v : V) (h : MHouse) (l : Int) (B : Int), vs = [v, .int l] ∧ Dp K H v (dHouse h) ∧ FitH B h ∧
  ∀ (H' : Hp) (r : V), Same H H' → Dp K H' r (dHouse (ltHouse l h)) → Q r H'
theorem ok_want {f fPR : Addr} {fd fdPR : FuncData} (F : Fun K "_law_want" "_law_want" sWant f fd)
    (GPR : FnOk P w K mg base CX0 1 fPR fdPR ["_law_prices_here", "_law_more"] (spPR K)) (kPR : PySem.W.keepIn K (.ref fPR) = true) (bPR : Binds K fdPR ["_law_prices_here", "_law_more"] []) (gPR : mg "_law_price_row" = some (.ref fPR)) (m_tuple : mg "tuple" = none) :
    FnOk P w K mg base CX0 2 f fd ["_law_home", "_law_more"] (spWant K) := by
  refine F.ok scWant (fun vs H Q E h => ?_) (fun cdv A outer s H vs Q E hr h => ?_)
  · obtain ⟨v, ps, l, B, rfl, _⟩ := h
    rfl
  · obtain ⟨v, h, l, B, rfl, hd, fit, q⟩ := h
    refine ⟨_, (pss_cons (ps_set (i := 2) scWant.nd rfl (.inl rfl) (pe_callTy call_tuple_of (by rfl) m_tuple (by decide +kernel) (pa_cons (pe_lc (own := [("_law_item", 4), ("_law_minutes", 5), ("_law_prices_here", 6)]) (g := gTup K 3 (gCons (gName 4) (gCons (gName 5) (gCons (gName 6) gNil)))) (tt := tYes) rfl scWant.nd (pi_tup (pe_ix ix_tup (pv 0) pe_int (fun _ _ => rfl))) (blkOk_by (own := [("_law_item", 4), ("_law_minutes", 5), ("_law_prices_here", 6)]) (N := ["_law_home", "_law_more", "_law_menu", "_law_offs", "_law_item", "_law_minutes", "_law_prices_here", "_law_row"]) (sc := defScope sWant) (by decide +kernel)) (fun _ _ _ _ _ => (pg_tup rfl (pgs_cons (pg_name (i := 4) scWant.nd rfl (.inl rfl)) (pgs_cons (pg_name (i := 5) scWant.nd rfl (.inl rfl)) (pgs_cons (pg_name (i := 6) scWant.nd rfl (.inl rfl)) pgs_nil))))) (fun _ _ _ _ _ => pts_nil) (fun _ _ _ _ _ => (pe_tup (pa_cons (pv 4) (pa_cons (pv 5) (pa_cons (pe_call GPR (hr.mono (by decide)) (by rfl) gPR kPR bPR .nil pass0 (pa_cons (pv 6) (pa_cons (pv 1) pa_nil))) pa_nil)))))) pa_nil)))
      (pss_cons (ps_set (i := 3) scWant.nd rfl (.inl rfl) (pe_callTy call_tuple_of (by rfl) m_tuple (by decide +kernel) (pa_cons (pe_lc (own := [("_law_row", 7)]) (g := gName 7) (tt := tYes) (te := tTup (tCons (tOp (rIxT K) (tVar 7) (tC (.int 0))) (tCons (tOp (rI0 fun i j => .int (i + j)) (tOp (rIxT K) (tVar 7) (tC (.int 1))) (tVar 1)) (tCons (tOp (rI0 fun i j => .int (i + j)) (tOp (rIxT K) (tVar 7) (tC (.int 2))) (tVar 1)) (tCons (tOp (rIxT K) (tVar 7) (tC (.int 3))) tNil))))) rfl scWant.nd (pi_tup (pe_ix ix_tup (pv 0) pe_int (fun _ _ => rfl))) (blkOk_by (own := [("_law_row", 7)]) (N := ["_law_home", "_law_more", "_law_menu", "_law_offs", "_law_item", "_law_minutes", "_law_prices_here", "_law_row"]) (sc := defScope sWant) (by decide +kernel)) (fun _ _ _ _ _ => (pg_name (i := 7) scWant.nd rfl (.inl rfl))) (fun _ _ _ _ _ => pts_nil) (fun _ _ _ _ _ => (pe_tup (pa_cons (pe_ix ix_tup (pv 7) pe_int (fun _ _ => rfl)) (pa_cons (pe_op op_add (pe_ix ix_tup (pv 7) pe_int (fun _ _ => rfl)) (pv 1)) (pa_cons (pe_op op_add (pe_ix ix_tup (pv 7) pe_int (fun _ _ => rfl)) (pv 1)) (pa_cons (pe_ix ix_tup (pv 7) pe_int (fun _ _ => rfl)) pa_nil))))))) pa_nil)))
      (pss_one (ps_ret (pe_tup (pa_cons (pv 2) (pa_cons (pv 3) (pa_cons (pe_ix ix_tup (pv 0) pe_int (fun _ _ => rfl)) (pa_cons (pe_ix ix_tup (pv 0) pe_int (fun _ _ => rfl)) pa_nil))))))))), ?_⟩
    obtain ⟨t, a, b, xs, ys, rfl, hT, hA, dA, hB, dB⟩ := house_inv hd
    have lx := DpAll.len dA
    have ly := DpAll.len dB
    rw [List.length_map] at lx ly
    have hm := fit.ml
    have ho := fit.ol
    -- rows
    refine ⟨_, rfl, t, _, 0, _, rfl, rfl, hT, atI_nat (j := 0) rfl, a, rfl, ⟨_, hA⟩, fun D nD => ?_⟩
    refine lc_tup (xs := xs) (fun i H1 => Same H H1 ∧ Acc K H1 D ((h.menu.take i).map fun r => dMRow (ltRow l r))) ⟨same_upd nD, Acc.start⟩ ?_ ?_ ?_
    · rintro i H1 _ ⟨sm, _⟩
      exact TB.Same.tup sm hA
    · rintro i x H1 hx ⟨sm, ac⟩
      obtain ⟨d, hd, dx⟩ := DpAll.get dA hx
      obtain ⟨r, hr', rfl⟩ := map_get hd
      obtain ⟨t1, v3, rfl, h1, d3⟩ := row_inv dx
      have fr := fit.mr r (List.mem_of_getElem? hr')
      refine ⟨t1, _, rfl, TB.Same.tup sm h1, rfl, _, _, rfl, _, _, rfl, _, _, rfl, rfl, rfl, yes (iteT ?_)⟩
      refine ⟨_, rfl, _, rfl, _, rfl, _, rfl, v3, r.prs, l, rfl, Dp.same sm _ _ d3, Nat.le_trans fr.ps.1 (by decide), fun p hp => (fr.ps.2 p hp).1, fun H2 v' s2 dv' => ?_⟩
      refine ⟨by show (3 : Nat) ≤ sizeLine; decide, fun t2 n2 => ?_⟩
      refine Acc.turn nD sm ac (s2.trans (same_upd n2)) (d := dMRow (ltRow l r)) ?_ (noL_row _) ?_ (map_take_more hr')
      · exact .tup (.inl (.inl upd_same)) (.cons (.str _) (.cons (.int _) (.cons (Dp.same (same_upd n2) _ _ dv') .nil)))
      · rw [List.length_map, List.length_take]
        omega
    · rintro H1 ⟨sm, ac⟩
      rw [lx, List.take_length] at ac
      obtain ⟨us1, e1, dv1⟩ := ac.ex
      refine ⟨D, _, rfl, .inl ⟨.inl (.inl e1), fun t1 n1 => ?_⟩⟩
      have s1 := sm.trans (same_upd (o := .tup us1) n1)
      have w1 : Dp K (upd H1 t1 (.tup us1)) (.ref t1) (.tuple ((ltHouse l h).menu.map dMRow)) := by
        show Dp K _ _ (.tuple ((h.menu.map (ltRow l)).map dMRow))
        rw [List.map_map]
        exact Acc.tuple (D := D) dv1 n1
      generalize upd H1 t1 (.tup us1) = H2 at s1 w1
      show tSeq _ _ _ [some (.ref t), some (.int l), some (.ref t1), none, none, none, none, none] _
      refine ⟨_, rfl, t, _, 1, _, rfl, rfl, TB.Same.tup s1 hT, atI_nat (j := 1) rfl, b, rfl, ⟨_, TB.Same.tup s1 hB⟩, fun D2 nD2 => ?_⟩
      refine lc_tup (xs := ys) (fun i H3 => Same H2 H3 ∧ Acc K H3 D2 ((h.offs.take i).map fun o => dMOff (ltOff l o))) ⟨same_upd nD2, Acc.start⟩ ?_ ?_ ?_
      · rintro i H3 _ ⟨sm2, _⟩
        exact TB.Same.tup (s1.trans sm2) hB
      · rintro i x H3 hx ⟨sm2, ac2⟩
        obtain ⟨d, hd, dx⟩ := DpAll.get dB hx
        obtain ⟨o, ho', rfl⟩ := map_get hd
        obtain ⟨t3, v1, rfl, h3, d3⟩ := off_inv dx
        have hT3 := TB.Same.tup (s1.trans sm2) h3
        refine ⟨rfl, yes (iteT ?_)⟩
        refine ⟨_, rfl, t3, _, 0, _, rfl, rfl, hT3, atI_nat (j := 0) rfl, _, rfl, t3, _, 1, _, rfl, rfl, hT3, atI_nat (j := 1) rfl, _, rfl, _, _, rfl, rfl, _, rfl, t3, _, 2, _, rfl, rfl, hT3, atI_nat (j := 2) rfl, _, rfl, _, _, rfl, rfl, _, rfl, t3, _, 3, _, rfl, rfl, hT3, atI_nat (j := 3) rfl, by show (4 : Nat) ≤ sizeLine; decide, fun t4 n4 => ?_⟩
        refine Acc.turn nD2 sm2 ac2 (same_upd n4) (d := dMOff (ltOff l o)) ?_ (noL_off _) ?_ (map_take_more ho')
        · exact .tup (.inl (.inl upd_same)) (.cons (Dp.same ((s1.trans sm2).trans (same_upd n4)) _ _ d3) (.cons (.int _) (.cons (.int _) (.cons (.int _) .nil))))
        · rw [List.length_map, List.length_take]
          omega
      · rintro H3 ⟨sm2, ac2⟩
        rw [ly, List.take_length] at ac2
        obtain ⟨us2, e2, dv2⟩ := ac2.ex
        refine ⟨D2, _, rfl, .inl ⟨.inl (.inl e2), fun t2 n2 => ?_⟩⟩
        have s3 := s1.trans (sm2.trans (same_upd (o := .tup us2) n2))
        have hT3 := TB.Same.tup s3 hT
        refine ⟨_, rfl, _, rfl, _, rfl, t, _, 2, _, rfl, rfl, hT3, atI_nat (j := 2) rfl, _, rfl, t, _, 3, _, rfl, rfl, hT3, atI_nat (j := 3) rfl, by show (4 : Nat) ≤ sizeLine; decide, fun t5 n5 => ?_⟩
        have s5 := same_upd (o := .tup [.ref t1, .ref t2, .int h.wait, .int h.fires]) n5
        refine q _ _ (s3.trans s5) ?_
        have w2 : Dp K (upd H3 t2 (.tup us2)) (.ref t2) (.tuple ((ltHouse l h).offs.map dMOff)) := by
          show Dp K _ _ (.tuple ((h.offs.map (ltOff l)).map dMOff))
          rw [List.map_map]
          exact Acc.tuple (D := D2) dv2 n2
        exact .tup (.inl (.inl upd_same)) (.cons (Dp.same ((sm2.trans (same_upd n2)).trans s5) _ _ w1) (.cons (Dp.same s5 _ _ w2) (.cons (.int _) (.cons (.int _) .nil))))
end
end K80

set_option Elab.async false
set_option linter.all false
set_option maxRecDepth 100000
set_option maxHeartbeats 400000
namespace K80
open PySem PySem.Spec PyProof.Rows L2 TB

theorem scLaw : FnScope ["_law_script", "_law_feed_here", "_law_home", "_law_handed", "_law_more", "_law_told", "_law_then"] ["_law_script"] (defScope sLaw) := ⟨rfl, rfl, rfl, by decide +kernel, rfl, by decide +kernel, by decide +kernel⟩
/-! ### houses later, and how long they are when shown -/
theorem lt_zero (h : MHouse) : ltHouse 0 h = h := by
  have a : ∀ r : MRow, ltRow 0 r = r := fun r => by
    have : r.prs.map (ltPr 0) = r.prs := by
      conv => rhs; rw [← List.map_id r.prs]
      refine List.map_congr_left fun p _ => ?_
      unfold ltPr
      rw [Int.add_zero, ite_self]
      rfl
    unfold ltRow
    rw [this]
  have b : ∀ o : MOff, ltOff 0 o = o := fun o => by
    unfold ltOff
    rw [Int.add_zero, Int.add_zero]
  unfold ltHouse
  have a' : h.menu.map (ltRow 0) = h.menu := by
    conv => rhs; rw [← List.map_id h.menu]
    exact List.map_congr_left fun r _ => a r
  have b' : h.offs.map (ltOff 0) = h.offs := by
    conv => rhs; rw [← List.map_id h.offs]
    exact List.map_congr_left fun r _ => b r
  rw [a', b']
theorem lt_add {B l m : Int} {h : MHouse} (fit : FitH B h) (l0 : 0 ≤ l) : ltHouse m (ltHouse l h) = ltHouse (l + m) h := by
  unfold ltHouse
  have a' : (h.menu.map (ltRow l)).map (ltRow m) = h.menu.map (ltRow (l + m)) := by
    rw [List.map_map]
    refine List.map_congr_left fun r hr => ?_
    show ltRow m (ltRow l r) = ltRow (l + m) r
    unfold ltRow
    congr 1
    show (r.prs.map (ltPr l)).map (ltPr m) = _
    rw [List.map_map]
    refine List.map_congr_left fun p hp => ?_
    have p0 := ((fit.mr r hr).ps.2 p hp).1
    show ltPr m (ltPr l p) = ltPr (l + m) p
    unfold ltPr
    by_cases c : 0 < p.1
    · simp only [if_pos c]
      rw [if_pos (by omega)]
      congr 1
      omega
    · simp only [if_neg c]
  have b' : (h.offs.map (ltOff l)).map (ltOff m) = h.offs.map (ltOff (l + m)) := by
    rw [List.map_map]
    refine List.map_congr_left fun o _ => ?_
    show ltOff m (ltOff l o) = ltOff (l + m) o
    unfold ltOff
    simp only [MOff.mk.injEq, true_and, and_true]
    exact ⟨by omega, by omega⟩
  simp only [a', b']
theorem fit_lt {B l : Int} {h : MHouse} (fit : FitH B h) (l0 : 0 ≤ l) : FitH (B + l) (ltHouse l h) := by
  refine ⟨?_, ?_, ?_, ?_, fit.w0, ?_, fit.f0, ?_⟩
  · show (h.menu.map _).length ≤ 10
    rw [List.length_map]
    exact fit.ml
  · show (h.offs.map _).length ≤ 10
    rw [List.length_map]
    exact fit.ol
  · intro r hr
    obtain ⟨r', hr', rfl⟩ := List.mem_map.mp hr
    have f := fit.mr r' hr'
    have := f.m1
    refine ⟨f.it, f.m0, by show r'.mins ≤ B + l; omega, ?_, ?_⟩
    · show (r'.prs.map _).length ≤ 10
      rw [List.length_map]
      exact f.ps.1
    · intro p hp
      obtain ⟨p', hp', rfl⟩ := List.mem_map.mp hp
      obtain ⟨a, b, c, d⟩ := f.ps.2 p' hp'
      unfold ltPr
      by_cases z : 0 < p'.1
      · simp only [if_pos z]
        omega
      · simp only [if_neg z]
        omega
  · intro o ho
    obtain ⟨o', ho', rfl⟩ := List.mem_map.mp ho
    have f := fit.of o' ho'
    have := f.a0
    have := f.a1
    have := f.b0
    have := f.b1
    have := f.c1
    exact ⟨f.il, f.it, by show 0 ≤ o'.a + l; omega, by show o'.a + l ≤ B + l; omega, by show 0 ≤ o'.b + l; omega, by show o'.b + l ≤ B + l; omega, f.c0, by show o'.c ≤ B + l; omega⟩
  · have := fit.w1
    show h.wait ≤ B + l
    omega
  · have := fit.f1
    show h.fires ≤ B + l
    omega
theorem sh_word : ∀ x ∈ words7, Sh 0 1921 (.str x) := fun x hx => by
  have h : ∀ y ∈ words7, (reprText y).length ≤ 1921 := by decide +kernel
  refine ⟨rfl, rfl, by simp [PyData.depth], ?_⟩
  simp only [PyData.shown]
  exact h x hx
theorem sh_n {B n : Int} (h0 : 0 ≤ n) (h1 : n ≤ B) (hB : B < 2 ^ 60) : Sh 0 1921 (.int n) := sh_int (by omega)
theorem sh_house {B : Int} {h : MHouse} (fit : FitH B h) (hB : B < 2 ^ 60) : Sh 5 5300000 (dHouse h) := by
  have pr : ∀ ps, FitP B ps → Sh 2 40000 (dPrs ps) := fun ps f => by
    refine (sh_tup (k := 1) (n := 3849) fun d hd => ?_).mono (by omega) ?_
    · obtain ⟨p, hp, rfl⟩ := List.mem_map.mp hd
      obtain ⟨a, b, c, e⟩ := f.2 p hp
      refine (sh_tup (k := 0) (n := 1921) fun d hd => ?_).mono (by omega) (by show 2 * 1921 + 2 * 2 + 3 ≤ 3849; decide)
      simp only [List.mem_cons, List.not_mem_nil, or_false] at hd
      rcases hd with rfl | rfl
      · exact sh_n a b hB
      · exact sh_n c e hB
    · rw [List.length_map]
      have := f.1
      omega
  have row : ∀ r, FitR B r → Sh 3 130000 (dMRow r) := fun r f => by
    refine (sh_tup (k := 2) (n := 40000) fun d hd => ?_).mono (by omega) (by show 3 * 40000 + 2 * 3 + 3 ≤ 130000; decide)
    simp only [List.mem_cons, List.not_mem_nil, or_false] at hd
    rcases hd with rfl | rfl | rfl
    · exact (sh_word _ f.it).mono (by omega) (by omega)
    · exact (sh_n f.m0 f.m1 hB).mono (by omega) (by omega)
    · exact pr _ f.ps
  have off : ∀ o, FitO B o → Sh 3 100000 (dMOff o) := fun o f => by
    refine (sh_tup (k := 2) (n := 20000) fun d hd => ?_).mono (by omega) (by show 4 * 20000 + 2 * 4 + 3 ≤ 100000; decide)
    simp only [List.mem_cons, List.not_mem_nil, or_false] at hd
    rcases hd with rfl | rfl | rfl | rfl
    · refine (sh_tup (k := 0) (n := 1921) fun d hd => ?_).mono (by omega) ?_
      · obtain ⟨x, hx, rfl⟩ := List.mem_map.mp hd
        exact sh_word x (f.it x hx)
      · rw [List.length_map]
        have := f.il
        omega
    · exact (sh_n f.a0 f.a1 hB).mono (by omega) (by omega)
    · exact (sh_n f.b0 f.b1 hB).mono (by omega) (by omega)
    · exact (sh_n f.c0 f.c1 hB).mono (by omega) (by omega)
  refine (sh_tup (k := 4) (n := 1310000) fun d hd => ?_).mono (by omega) (by show 4 * 1310000 + 2 * 4 + 3 ≤ 5300000; decide)
  simp only [List.mem_cons, List.not_mem_nil, or_false] at hd
  rcases hd with rfl | rfl | rfl | rfl
  · refine (sh_tup (k := 3) (n := 130000) fun d hd => ?_).mono (by omega) ?_
    · obtain ⟨r, hr, rfl⟩ := List.mem_map.mp hd
      exact (row r (fit.mr r hr)).mono (by omega) (by omega)
    · rw [List.length_map]
      have := fit.ml
      omega
  · refine (sh_tup (k := 3) (n := 100000) fun d hd => ?_).mono (by omega) ?_
    · obtain ⟨o, ho, rfl⟩ := List.mem_map.mp hd
      exact off o (fit.of o ho)
    · rw [List.length_map]
      have := fit.ol
      omega
  · exact (sh_n fit.w0 fit.w1 hB).mono (by omega) (by omega)
  · exact (sh_n fit.f0 fit.f1 hB).mono (by omega) (by omega)
theorem noL_house (h : MHouse) : noL (dHouse h) = true := by
  show (noLs (h.menu.map dMRow) && (noLs (h.offs.map dMOff) && _)) = true
  rw [noLs_of (ds := h.menu.map dMRow) fun d hd => by
      obtain ⟨r, _, rfl⟩ := List.mem_map.mp hd
      exact noL_row r,
    noLs_of (ds := h.offs.map dMOff) fun d hd => by
      obtain ⟨r, _, rfl⟩ := List.mem_map.mp hd
      exact noL_off r]
  rfl
section
variable {P : Program} {w : World} {K : PySem.W.Frag} {mg : Str → Option Value} {base : Heap}
/-! ### the law -/
def spLaw (K : PySem.W.Frag) : Sp := fun vs H Q _ => ∃ (a : Addr) (ns : List Int), vs = [.ref a] ∧ SqL K H a (ns.map V.int) ∧ ns.length ≤ 63 ∧ ∀ H', Q (.bl true) H'
theorem house_ref {H : Hp} {v : V} {h : MHouse} (d : Dp K H v (dHouse h)) : ∃ t, v = .ref t := by
  obtain ⟨t, xs, e, _⟩ := Dp.tup_inv d
  exact ⟨t, e⟩
/-- what repr asks of a house -/
theorem rs {B : Int} {h : MHouse} (fit : FitH B h) (hB : B < 2 ^ 60) : (dHouse h).showable = true ∧ (dHouse h).hasDict = false ∧ (dHouse h).depth ≤ 60 ∧ (dHouse h).shown.length ≤ sizeLine :=
  have s := sh_house fit hB
  ⟨s.sh, s.nd, Nat.le_trans s.dp (by decide), Nat.le_trans s.ln (by rw [sizeLine_eq]; decide)⟩
theorem no_test {R : Bool → Hp → Prop} {b : Bool} {H : Hp} (e : b = false) (h : R false H) : R b H := e ▸ h
theorem ok_law {f fFd fR fHo fH fWn : Addr} {fd fdFd fdR fdHo fdH fdWn : FuncData} {ds : List Value} {g1 g2 g3 : List Value → List Value → List Value} (F : Fun K "law" "law" sLaw f fd)
    (GFd : FnOk P w K mg base CX0 1 fFd fdFd ["_law_script"] (spFeed K)) (kFd : PySem.W.keepIn K (.ref fFd) = true) (bFd : Binds K fdFd ["_law_script"] []) (gFd : mg "_law_feed" = some (.ref fFd))
    (GR : FnOk P w K mg base CX0 1 fR fdR ["_law_feed_here", "_law_many"] spNext) (kR : PySem.W.keepIn K (.ref fR) = true) (bR : Binds K fdR ["_law_feed_here", "_law_many"] []) (gR : mg "_law_next" = some (.ref fR))
    (GHo : FnOk P w K mg base CX0 3 fHo fdHo ["_law_feed_here"] (spHouse K)) (kHo : PySem.W.keepIn K (.ref fHo) = true) (bHo : Binds K fdHo ["_law_feed_here"] []) (gHo : mg "_law_house" = some (.ref fHo))
    (GH : FnOk P w K mg base CX0 2 fH fdH ["house", "later"] (spHL K)) (kH : PySem.W.keepIn K (.ref fH) = true) (bH : Binds K fdH ["house", "later"] []) (gH : mg "house_later" = some (.ref fH))
    (bH1 : Binds K fdH ["house", "later"] ds) (vH1 : Vals [.int 0] ds)
    (nH1 : KBn K fdH ["house", "later"] 0 ["house"] g1 (fun _ zs => zs ++ [.int 0])) (nH2 : KBn K fdH ["house", "later"] 0 ["house", "later"] g2 (fun _ zs => zs)) (nH3 : KBn K fdH ["house", "later"] 1 ["later"] g3 (fun vs zs => vs ++ zs))
    (GWn : FnOk P w K mg base CX0 2 fWn fdWn ["_law_home", "_law_more"] (spWant K)) (kWn : PySem.W.keepIn K (.ref fWn) = true) (bWn : Binds K fdWn ["_law_home", "_law_more"] []) (gWn : mg "_law_want" = some (.ref fWn))
    (m_repr : mg "repr" = none) : FnG P w K mg base CX0 4 f fd ["_law_script"] (spLaw K) := by
  refine gok F scLaw (fun vs H Q E h => ?_) (fun cdv A gd outer s H vs Q E hr h => ?_)
  · obtain ⟨a, ns, rfl, _⟩ := h
    rfl
  · obtain ⟨a, ns, rfl, hS, hlen, q⟩ := h
    refine ⟨_, (pss_cons (ps_set (i := 1) scLaw.nd rfl (.inl rfl) (pe_call GFd (hr.mono (by decide)) (by rfl) gFd kFd bFd .nil pass0 (pa_cons (pv 0) pa_nil)))
      (pss_cons (ps_for PassesOwn.never rfl (pi_list (pe_lst (pa_cons (pe_call GHo (hr.mono (by decide)) (by rfl) gHo kHo bHo .nil pass0 (pa_cons (pv 1) pa_nil)) (pa_cons (pe_call GHo (hr.mono (by decide)) (by rfl) gHo kHo bHo .nil pass0 (pa_cons (pv 1) pa_nil)) pa_nil)))) (pg_name (i := 2) scLaw.nd rfl (.inl rfl)) (pss_cons (ps_set (i := 3) scLaw.nd rfl (.inl rfl) (pe_callB (call_reprT gd hr.units) (by rfl) m_repr (by decide +kernel) (pa_cons (pv 2) pa_nil)))
      (pss_cons (ps_for PassesOwn.never rfl (pi_tup (pe_tup (pa_cons pe_int (pa_cons pe_int (pa_cons (pe_call GR (hr.mono (by decide)) (by rfl) gR kR bR .nil pass0 (pa_cons (pv 1) (pa_cons pe_int pa_nil))) (pa_cons (pe_op op_add pe_int (pe_call GR (hr.mono (by decide)) (by rfl) gR kR bR .nil pass0 (pa_cons (pv 1) (pa_cons pe_int pa_nil)))) pa_nil)))))) (pg_name (i := 4) scLaw.nd rfl (.inl rfl)) (pss_cons (ps_set (i := 5) scLaw.nd rfl (.inl rfl) (pe_call GH (hr.mono (by decide)) (by rfl) gH kH bH .nil pass0 (pa_cons (pv 2) (pa_cons (pv 4) pa_nil))))
      (pss_cons (ps_if (PW.pt (pw_or (pt_cmpR op_ne (pe_callB (call_reprT gd hr.units) (by rfl) m_repr (by decide +kernel) (pa_cons (pv 5) pa_nil)) (pe_callB (call_reprT gd hr.units) (by rfl) m_repr (by decide +kernel) (pa_cons (pe_call GWn (hr.mono (by decide)) (by rfl) gWn kWn bWn .nil pass0 (pa_cons (pv 2) (pa_cons (pv 4) pa_nil))) pa_nil)) (nomark _)) (pw_or1 (pt_cmpR op_ne (pe_callB (call_reprT gd hr.units) (by rfl) m_repr (by decide +kernel) (pa_cons (pe_callN0 GH (hr.mono (by decide)) (by rfl) gH kH nH2 pass0 (pk_cons (pv 2) (pk_cons (pv 4) pk_nil))) pa_nil)) (pe_callB (call_reprT gd hr.units) (by rfl) m_repr (by decide +kernel) (pa_cons (pv 5) pa_nil)) (nomark _))))) (pss_one (ps_ret pe_bl)) pss_nil)
      (pss_cons (ps_set (i := 6) scLaw.nd rfl (.inl rfl) (pe_call GR (hr.mono (by decide)) (by rfl) gR kR bR .nil pass0 (pa_cons (pv 1) (pa_cons pe_int pa_nil))))
      (pss_one (ps_if (pt_cmpR op_ne (pe_callB (call_reprT gd hr.units) (by rfl) m_repr (by decide +kernel) (pa_cons (pe_callN GH (hr.mono (by decide)) (by rfl) gH kH nH3 pass0 (pa_cons (pv 5) pa_nil) (pk_cons (pv 6) pk_nil)) pa_nil)) (pe_callB (call_reprT gd hr.units) (by rfl) m_repr (by decide +kernel) (pa_cons (pe_call GWn (hr.mono (by decide)) (by rfl) gWn kWn bWn .nil pass0 (pa_cons (pv 2) (pa_cons (pe_op op_add (pv 4) (pv 6)) pa_nil))) pa_nil)) (nomark _)) (pss_one (ps_ret pe_bl)) pss_nil))))))
      (pss_one (ps_if (PW.pt (pw_or (pt_cmpR op_ne (pe_callB (call_reprT gd hr.units) (by rfl) m_repr (by decide +kernel) (pa_cons (pe_lst (pa_cons (pe_call GH (hr.mono (by decide)) (by rfl) gH kH bH1 vH1 pass0 (pa_cons (pv 2) pa_nil)) (pa_cons (pe_callN0 GH (hr.mono (by decide)) (by rfl) gH kH nH1 pass0 (pk_cons (pv 2) pk_nil)) pa_nil))) pa_nil)) (pe_callB (call_reprT gd hr.units) (by rfl) m_repr (by decide +kernel) (pa_cons (pe_lst (pa_cons (pv 2) (pa_cons (pv 2) pa_nil))) pa_nil)) (nomark _)) (pw_or1 (pt_cmpR op_ne (pe_callB (call_reprT gd hr.units) (by rfl) m_repr (by decide +kernel) (pa_cons (pv 2) pa_nil)) (pv 3) (nomark _))))) (pss_one (ps_ret pe_bl)) pss_nil)))))
      (pss_one (ps_ret pe_bl)))), ?_⟩
    refine ⟨_, rfl, a, ns, rfl, hS, by omega, fun H1 L S s1 nL f1 => ?_⟩
    refine ⟨_, rfl, L, S, 0, rfl, f1, by decide, fun H2 va ha k2 f2 da fa => ?_⟩
    refine ⟨_, rfl, L, S, _, rfl, f2, by decide, fun H3 vb hb k3 f3 db fb => ⟨by show (2 : Nat) ≤ sizeLine; decide, fun Y nY => ?_⟩⟩
    have sY := same_upd (o := .lst [va, vb]) nY
    obtain ⟨z2, ez2⟩ := f2.there
    have da3 := Dp.same sY _ _ (Dp.but k3 ez2 _ _ (noL_house ha) da)
    have db3 := Dp.same sY _ _ db
    have nYF := f3.ne nY
    refine ⟨Y, rfl, ⟨_, .inl (.inl upd_same)⟩, ?_⟩
    refine for_list (xs := [va, vb]) (fun i σ H4 => ∃ y2 y3 y4 y5 y6, σ = [some (.ref a), some (.ref L), y2, y3, y4, y5, y6] ∧ Feed H4 L S (800 + 20 * i) ∧ H4 Y = some (.lst [va, vb]) ∧ Dp K H4 va (dHouse ha) ∧ Dp K H4 vb (dHouse hb))
      ⟨_, _, _, _, _, rfl, (f3.same sY).mono (by omega), upd_same, da3, db3⟩ ?_ ?_ ?_
    · rintro i σ H4 _ ⟨y2, y3, y4, y5, y6, _, _, e, _⟩
      exact .inl (.inl e)
    · rintro i x σ H4 hx ⟨y2, y3, y4, y5, y6, rfl, f4, e4, da4, db4⟩
      have hi : i < 2 := (List.getElem?_eq_some_iff.mp hx).1
      obtain ⟨h, dx, fit⟩ : ∃ h, Dp K H4 x (dHouse h) ∧ FitH 100001 h := by
        match i, hi, hx with
        | 0, _, hx => exact ⟨ha, by cases hx; exact da4, fa⟩
        | 1, _, hx => exact ⟨hb, by cases hx; exact db4, fb⟩
      obtain ⟨t, rfl⟩ := house_ref dx
      have ml := fit.ml
      have ol := fit.ol
      have pl : ∀ r ∈ h.menu, r.prs.length ≤ 500 := fun r hr => Nat.le_trans (fit.mr r hr).ps.1 (by decide)
      -- handed
      refine ⟨_, rfl, _, _, rfl, dx, (rs fit (by decide)).1, (rs fit (by decide)).2.1, (rs fit (by decide)).2.2.1, (rs fit (by decide)).2.2.2, ?_⟩
      show tSeq _ _ _ [some (.ref a), some (.ref L), some (.ref t), some (.str (txt (dHouse h))), y4, y5, y6] _
      -- later
      refine ⟨_, rfl, L, S, 50, _, rfl, by decide, by decide, f4, by omega, fun H5 v5 k5 f5 l5 u5 => ?_⟩
      refine ⟨_, rfl, L, S, 90, _, rfl, by decide, by decide, f5, by omega, fun H6 v6 k6 f6 l6 u6 => ⟨_, _, rfl, rfl, by show (4 : Nat) ≤ sizeLine; decide, fun tq nq => ?_⟩⟩
      have sq := same_upd (o := .tup [.int 0, .int 1, .int v5, .int (9000 + v6)]) nq
      have k56 := k5.trans k6
      obtain ⟨z4, ez4⟩ := f4.there
      have keep : ∀ {v : V} {h' : MHouse}, Dp K H4 v (dHouse h') → Dp K (upd H6 tq (.tup [.int 0, .int 1, .int v5, .int (9000 + v6)])) v (dHouse h') := fun d =>
        Dp.same sq _ _ (Dp.but k56 ez4 _ _ (noL_house _) d)
      refine ⟨tq, rfl, ⟨_, .inl (.inl upd_same)⟩, ?_⟩
      refine for_tup (xs := [V.int 0, V.int 1, V.int v5, V.int (9000 + v6)]) (fun j σ H7 => ∃ y4 y5 y6, σ = [some (.ref a), some (.ref L), some (.ref t), some (.str (txt (dHouse h))), y4, y5, y6] ∧ Feed H7 L S (802 + 20 * i + j) ∧ H7 Y = some (.lst [va, vb]) ∧
        H7 tq = some (.tup [.int 0, .int 1, .int v5, .int (9000 + v6)]) ∧ Dp K H7 va (dHouse ha) ∧ Dp K H7 vb (dHouse hb) ∧ Dp K H7 (.ref t) (dHouse h))
        ⟨_, _, _, rfl, (f6.same sq).mono (by omega), sq _ _ (k56 _ _ nYF.1 e4), upd_same, keep da4, keep db4, keep dx⟩ ?_ ?_ ?_
      · rintro j σ H7 _ ⟨y4, y5, y6, _, _, _, e, _⟩
        exact .inl (.inl e)
      · rintro j x σ H7 hx ⟨y4, y5, y6, rfl, f7, eY7, eq7, da7, db7, dx7⟩
        have hj : j < 4 := (List.getElem?_eq_some_iff.mp hx).1
        obtain ⟨l, rfl, l0, l1⟩ : ∃ l : Int, x = .int l ∧ 0 ≤ l ∧ l ≤ 10000 := by
          have hm := List.mem_of_getElem? hx
          simp only [List.mem_cons, List.not_mem_nil, or_false] at hm
          rcases hm with e | e | e | e
          · exact ⟨_, e, by decide, by decide⟩
          · exact ⟨_, e, by decide, by decide⟩
          · exact ⟨_, e, by omega, by omega⟩
          · exact ⟨_, e, by omega, by omega⟩
        have fitl := fit_lt fit l0
        -- told
        refine ⟨_, rfl, _, rfl, .ref t, h, l, rfl, dx7, by omega, by omega, pl, fun H8 r8 s8 d8 => ?_⟩
        obtain ⟨t8, rfl⟩ := house_ref d8
        show tSeq _ _ _ [some (.ref a), some (.ref L), some (.ref t), some (.str (txt (dHouse h))), some (.int l), some (.ref t8), y6] _
        have dx8 := Dp.same s8 _ _ dx7
        refine ⟨_, rfl, _, _, rfl, d8, (rs fitl (by omega)).1, (rs fitl (by omega)).2.1, (rs fitl (by omega)).2.2.1, (rs fitl (by omega)).2.2.2, ?_⟩
        refine ⟨_, rfl, _, rfl, .ref t, h, l, _, rfl, dx8, fit, fun H9 r9 s9 d9 => ?_⟩
        obtain ⟨t9, rfl⟩ := house_ref d9
        refine ⟨_, _, rfl, d9, (rs fitl (by omega)).1, (rs fitl (by omega)).2.1, (rs fitl (by omega)).2.2.1, (rs fitl (by omega)).2.2.2, ⟨rfl, _, rfl, iteNS rfl ?_⟩⟩
        refine ⟨_, rfl, _, rfl, rfl, rfl, .ref t, h, l, rfl, Dp.same s9 _ _ dx8, by omega, by omega, pl, fun H10 r10 s10 d10 => ?_⟩
        obtain ⟨t10, rfl⟩ := house_ref d10
        refine ⟨_, _, rfl, d10, (rs fitl (by omega)).1, (rs fitl (by omega)).2.1, (rs fitl (by omega)).2.2.1, (rs fitl (by omega)).2.2.2, ?_⟩
        have d8' := Dp.same (s9.trans s10) _ _ d8
        refine ⟨_, rfl, _, _, rfl, d8', (rs fitl (by omega)).1, (rs fitl (by omega)).2.1, (rs fitl (by omega)).2.2.1, (rs fitl (by omega)).2.2.2, ⟨rfl, _, rfl, ?_⟩⟩
        change ite _ _ _
        refine iteNS rfl ?_
        -- then
        have s710 := s8.trans (s9.trans s10)
        have f10 := f7.same s710
        refine ⟨_, rfl, L, S, 30, _, rfl, by decide, by decide, f10, by omega, fun H11 v11 k11 f11 l11 u11 => ?_⟩
        obtain ⟨z10, ez10⟩ := f10.there
        have go : ∀ {v : V} {h' : MHouse}, Dp K H7 v (dHouse h') → Dp K H11 v (dHouse h') := fun d => Dp.but k11 ez10 _ _ (noL_house _) (Dp.same s710 _ _ d)
        have d811 := Dp.but k11 ez10 _ _ (noL_house _) d8'
        have ml2 := fitl.ml
        have ol2 := fitl.ol
        have pl2 : ∀ r ∈ (ltHouse l h).menu, r.prs.length ≤ 500 := fun r hr => Nat.le_trans (fitl.mr r hr).ps.1 (by decide)
        have fit2 := fit_lt fitl l11
        show tSeq _ _ _ [some (.ref a), some (.ref L), some (.ref t), some (.str (txt (dHouse h))), some (.int l), some (.ref t8), some (.int v11)] _
        refine ⟨_, rfl, _, rfl, rfl, rfl, .ref t8, ltHouse l h, v11, rfl, d811, by omega, by omega, pl2, fun H12 r12 s12 d12 => ?_⟩
        obtain ⟨t12, rfl⟩ := house_ref d12
        refine ⟨_, _, rfl, d12, (rs fit2 (by omega)).1, (rs fit2 (by omega)).2.1, (rs fit2 (by omega)).2.2.1, (rs fit2 (by omega)).2.2.2, ?_⟩
        refine ⟨_, rfl, _, rfl, _, rfl, _, _, rfl, rfl, .ref t, h, l + v11, _, rfl, Dp.same s12 _ _ (go dx7), fit, fun H13 r13 s13 d13 => ?_⟩
        obtain ⟨t13, rfl⟩ := house_ref d13
        rw [← lt_add fit l0] at d13
        refine ⟨_, _, rfl, d13, (rs fit2 (by omega)).1, (rs fit2 (by omega)).2.1, (rs fit2 (by omega)).2.2.1, (rs fit2 (by omega)).2.2.2, ⟨rfl, _, rfl, iteNS rfl ?_⟩⟩
        have s1113 := s12.trans s13
        refine ⟨_, _, _, rfl, (f11.same s1113).mono (by omega), ?_, ?_, Dp.same s1113 _ _ (go da7), Dp.same s1113 _ _ (go db7), Dp.same s1113 _ _ (go dx7)⟩
        · exact s1113 _ _ (k11 _ _ nYF.1 (s710 _ _ eY7))
        · have nq7 : tq ≠ L := (f6.ne nq).1
          exact s1113 _ _ (k11 _ _ nq7 (s710 _ _ eq7))
      · rintro σ H7 ⟨y4, y5, y6, rfl, f7, eY7, eq7, da7, db7, dx7⟩
        have f7' : Feed H7 L S (806 + 20 * i) := f7.mono (by show (802 : Int) + 20 * i + 4 ≤ _; omega)
        -- as it is
        refine ⟨_, rfl, .ref t, h, 0, rfl, dx7, by omega, by omega, pl, fun H8 r8 s8 d8 => ?_⟩
        refine ⟨_, rfl, rfl, rfl, .ref t, h, 0, rfl, Dp.same s8 _ _ dx7, by omega, by omega, pl, fun H9 r9 s9 d9 => ?_⟩
        rw [lt_zero] at d8 d9
        refine ⟨by show (2 : Nat) ≤ sizeLine; decide, fun Z1 nZ1 => ?_⟩
        have sZ1 := same_upd (o := .lst [r8, r9]) nZ1
        have sh := sh_house fit (by decide)
        have sh2 : Sh 6 sizeLine (.list [dHouse h, dHouse h]) := by
          refine (sh_lst (k := 5) (n := 5300000) fun d hd => ?_).mono (by omega) (by rw [sizeLine_eq]; show 2 * 5300000 + 2 * 2 + 3 ≤ 16777216; decide)
          simp only [List.mem_cons, List.not_mem_nil, or_false] at hd
          rcases hd with rfl | rfl <;> exact sh
        refine ⟨Z1, _, rfl, .lst (.inl (.inl upd_same)) (.cons (Dp.same (s9.trans sZ1) _ _ d8) (.cons (Dp.same sZ1 _ _ d9) .nil)), sh2.sh, sh2.nd, Nat.le_trans sh2.dp (by decide), sh2.ln, ?_⟩
        have s79 := s8.trans (s9.trans sZ1)
        refine ⟨_, rfl, _, rfl, by show (2 : Nat) ≤ sizeLine; decide, fun Z2 nZ2 => ?_⟩
        have sZ2 := same_upd (o := .lst [.ref t, .ref t]) nZ2
        have s710 := s79.trans sZ2
        have dx10 := Dp.same s710 _ _ dx7
        refine ⟨Z2, _, rfl, .lst (.inl (.inl upd_same)) (.cons dx10 (.cons dx10 .nil)), sh2.sh, sh2.nd, Nat.le_trans sh2.dp (by decide), sh2.ln, rfl, _, rfl, iteNS rfl ?_⟩
        refine ⟨_, rfl, _, _, rfl, dx10, (rs fit (by decide)).1, (rs fit (by decide)).2.1, (rs fit (by decide)).2.2.1, (rs fit (by decide)).2.2.2, ⟨_, rfl, rfl, _, rfl, ?_⟩⟩
        change ite _ _ _
        refine iteNS rfl ?_
        exact ⟨_, _, _, _, _, rfl, (f7'.same s710).mono (by omega), s710 _ _ eY7, Dp.same s710 _ _ da7, Dp.same s710 _ _ db7⟩
    · rintro σ H4 ⟨y2, y3, y4, y5, y6, rfl, _⟩
      exact q _
end
end K80

set_option Elab.async false
set_option linter.all false
set_option maxRecDepth 100000
namespace K80
open PySem PySem.Spec PyProof.Rows L2 TB
theorem all_mk {l : PySem.W.OpenLaw} {w : World} {K : PySem.W.Frag} {h : Heap} {mg : Str → Option Value} {fa : Addr} (X : K.In h) (G : h.Ns mainGlobals mg) (hfa : mg "law" = some (.ref fa))
    {f1 : Addr} {od1 an1 : Option Addr} {sl1 : Array (Option Value)} {oc1 kV1 dc1 pm1 cd1 ct1 : Value} {T1 : Addr} {tc1 : Value} {td1 : Option Addr} {ts1 : Array (Option Value)} {tn1 : Nat} {tk1_0 : Tok}
    {f2 : Addr} {od2 an2 : Option Addr} {sl2 : Array (Option Value)} {oc2 kV2 dc2 pm2 cd2 ct2 : Value}
    {f3 : Addr} {od3 an3 : Option Addr} {sl3 : Array (Option Value)} {oc3 kV3 dc3 pm3 cd3 ct3 : Value}
    {f4 : Addr} {od4 an4 : Option Addr} {sl4 : Array (Option Value)} {oc4 kV4 dc4 pm4 cd4 ct4 : Value}
    {f5 : Addr} {od5 an5 : Option Addr} {sl5 : Array (Option Value)} {oc5 kV5 dc5 pm5 cd5 ct5 : Value}
    {f6 : Addr} {od6 an6 : Option Addr} {sl6 : Array (Option Value)} {oc6 kV6 dc6 pm6 cd6 ct6 : Value}
    {f7 : Addr} {od7 an7 : Option Addr} {sl7 : Array (Option Value)} {oc7 kV7 dc7 pm7 cd7 ct7 : Value}
    {f8 : Addr} {od8 an8 : Option Addr} {sl8 : Array (Option Value)} {oc8 kV8 dc8 pm8 cd8 ct8 : Value}
    {f9 : Addr} {od9 an9 : Option Addr} {sl9 : Array (Option Value)} {oc9 kV9 dc9 pm9 cd9 ct9 : Value}
    {f10 : Addr} {od10 an10 : Option Addr} {sl10 : Array (Option Value)} {oc10 kV10 dc10 pm10 cd10 ct10 : Value}
    (a1 : PySem.W.nsIn K mainGlobals "house_later" = some (some (.ref f1)))
    (l1 : K.lookup f1 = some ⟨oc1, od1, .func (PySem.W.fnOf "house_later" "house_later" (defArgs sHL) (defBody sHL) (defScope sHL) (.ref T1) kV1 dc1 pm1 an1 cd1 ct1), sl1⟩)
    (c1 : PySem.W.codeIn K cd1 "house_later" = true) (k1 : PySem.W.keepIn K (.ref f1) = true)
    (t1 : K.lookup T1 = some ⟨tc1, td1, .seq #[.int 0 tk1_0] tn1, ts1⟩)
    (a2 : PySem.W.nsIn K mainGlobals "later_prices" = some (some (.ref f2)))
    (l2 : K.lookup f2 = some ⟨oc2, od2, .func (PySem.W.fnOf "later_prices" "later_prices" (defArgs sLP) (defBody sLP) (defScope sLP) .none kV2 dc2 pm2 an2 cd2 ct2), sl2⟩)
    (c2 : PySem.W.codeIn K cd2 "later_prices" = true) (k2 : PySem.W.keepIn K (.ref f2) = true)
    (a3 : PySem.W.nsIn K mainGlobals "_law_feed" = some (some (.ref f3)))
    (l3 : K.lookup f3 = some ⟨oc3, od3, .func (PySem.W.fnOf "_law_feed" "_law_feed" (defArgs sFeed) (defBody sFeed) (defScope sFeed) .none kV3 dc3 pm3 an3 cd3 ct3), sl3⟩)
    (c3 : PySem.W.codeIn K cd3 "_law_feed" = true) (k3 : PySem.W.keepIn K (.ref f3) = true)
    (a4 : PySem.W.nsIn K mainGlobals "_law_next" = some (some (.ref f4)))
    (l4 : K.lookup f4 = some ⟨oc4, od4, .func (PySem.W.fnOf "_law_next" "_law_next" (defArgs sNext) (defBody sNext) (defScope sNext) .none kV4 dc4 pm4 an4 cd4 ct4), sl4⟩)
    (c4 : PySem.W.codeIn K cd4 "_law_next" = true) (k4 : PySem.W.keepIn K (.ref f4) = true)
    (a5 : PySem.W.nsIn K mainGlobals "_law_words" = some (some (.ref f5)))
    (l5 : K.lookup f5 = some ⟨oc5, od5, .func (PySem.W.fnOf "_law_words" "_law_words" (defArgs sWords) (defBody sWords) (defScope sWords) .none kV5 dc5 pm5 an5 cd5 ct5), sl5⟩)
    (c5 : PySem.W.codeIn K cd5 "_law_words" = true) (k5 : PySem.W.keepIn K (.ref f5) = true)
    (a6 : PySem.W.nsIn K mainGlobals "_law_prices" = some (some (.ref f6)))
    (l6 : K.lookup f6 = some ⟨oc6, od6, .func (PySem.W.fnOf "_law_prices" "_law_prices" (defArgs sPrices) (defBody sPrices) (defScope sPrices) .none kV6 dc6 pm6 an6 cd6 ct6), sl6⟩)
    (c6 : PySem.W.codeIn K cd6 "_law_prices" = true) (k6 : PySem.W.keepIn K (.ref f6) = true)
    (a7 : PySem.W.nsIn K mainGlobals "_law_house" = some (some (.ref f7)))
    (l7 : K.lookup f7 = some ⟨oc7, od7, .func (PySem.W.fnOf "_law_house" "_law_house" (defArgs sHouse) (defBody sHouse) (defScope sHouse) .none kV7 dc7 pm7 an7 cd7 ct7), sl7⟩)
    (c7 : PySem.W.codeIn K cd7 "_law_house" = true) (k7 : PySem.W.keepIn K (.ref f7) = true)
    (a8 : PySem.W.nsIn K mainGlobals "_law_price_row" = some (some (.ref f8)))
    (l8 : K.lookup f8 = some ⟨oc8, od8, .func (PySem.W.fnOf "_law_price_row" "_law_price_row" (defArgs sPR) (defBody sPR) (defScope sPR) .none kV8 dc8 pm8 an8 cd8 ct8), sl8⟩)
    (c8 : PySem.W.codeIn K cd8 "_law_price_row" = true) (k8 : PySem.W.keepIn K (.ref f8) = true)
    (a9 : PySem.W.nsIn K mainGlobals "_law_want" = some (some (.ref f9)))
    (l9 : K.lookup f9 = some ⟨oc9, od9, .func (PySem.W.fnOf "_law_want" "_law_want" (defArgs sWant) (defBody sWant) (defScope sWant) .none kV9 dc9 pm9 an9 cd9 ct9), sl9⟩)
    (c9 : PySem.W.codeIn K cd9 "_law_want" = true) (k9 : PySem.W.keepIn K (.ref f9) = true)
    (a10 : PySem.W.nsIn K mainGlobals "law" = some (some (.ref f10)))
    (l10 : K.lookup f10 = some ⟨oc10, od10, .func (PySem.W.fnOf "law" "law" (defArgs sLaw) (defBody sLaw) (defScope sLaw) .none kV10 dc10 pm10 an10 cd10 ct10), sl10⟩)
    (c10 : PySem.W.codeIn K cd10 "law" = true) (k10 : PySem.W.keepIn K (.ref f10) = true)
    (z_len : PySem.W.nsIn K mainGlobals "len" = some none)
    (z_range : PySem.W.nsIn K mainGlobals "range" = some none)
    (z_tuple : PySem.W.nsIn K mainGlobals "tuple" = some none)
    (z_repr : PySem.W.nsIn K mainGlobals "repr" = some none)
    (z_list : PySem.W.nsIn K mainGlobals "list" = some none)
    (z_sorted : PySem.W.nsIn K mainGlobals "sorted" = some none) :
    ∃ fd : FuncData, (∀ (s : Shared) (v : Value), BindsTo s fd ⟨[v], []⟩ [("_law_script", v)]) ∧ ∀ base : Heap, K.In base → base.Ns mainGlobals mg → FnG l.prog w K mg base CX0 4 fa fd ["_law_script"] (spLaw K) := by
  have e := hfa.symm.trans (PySem.W.mg_of X G a10)
  cases e
  have F1 : FunD K "house_later" "house_later" (defArgs sHL) (defBody sHL) (defScope sHL) [.int 0] [] f1 (PySem.W.fnOf "house_later" "house_later" (defArgs sHL) (defBody sHL) (defScope sHL) (.ref T1) kV1 dc1 pm1 an1 cd1 ct1) :=
    ⟨⟨oc1, od1, _, _, _, _, _, _, _, sl1, rfl, l1, c1, .inr ⟨fun z => (nomatch z), T1, _, [.int 0 tk1_0], tn1, rfl, t1, rfl, .cons ⟨_, rfl⟩ (.nil)⟩, .inl rfl⟩, k1⟩
  have b1 : Binds K (PySem.W.fnOf "house_later" "house_later" (defArgs sHL) (defBody sHL) (defScope sHL) (.ref T1) kV1 dc1 pm1 an1 cd1 ct1) ["house", "later"] [] := by
    obtain ⟨ds, vd, bd⟩ := F1.binds1 (ps := ["house", "later"]) 2 1 (fun z => (nomatch z)) rfl (fun T kV doc pm an cdv ct us its hu hi => match us, hu, its, hi with | [_, _], _, [_], _ => ⟨_, rfl, rfl⟩)
    cases vd
    exact bd
  have g1 := PySem.W.mg_of X G a1
  have F2 := fun_mk (st := sLP) l2 c2 k2
  have b2 := F2.binds (ps := ["prices", "later"]) fun _ _ _ _ _ _ us hl => match us, hl with | [_, _], _ => rfl
  have g2 := PySem.W.mg_of X G a2
  have F3 := fun_mk (st := sFeed) l3 c3 k3
  have b3 := F3.binds (ps := ["_law_script"]) fun _ _ _ _ _ _ us hl => match us, hl with | [_], _ => rfl
  have g3 := PySem.W.mg_of X G a3
  have F4 := fun_mk (st := sNext) l4 c4 k4
  have b4 := F4.binds (ps := ["_law_feed_here", "_law_many"]) fun _ _ _ _ _ _ us hl => match us, hl with | [_, _], _ => rfl
  have g4 := PySem.W.mg_of X G a4
  have F5 := fun_mk (st := sWords) l5 c5 k5
  have b5 := F5.binds (ps := ["_law_feed_here", "_law_many", "_law_left"]) fun _ _ _ _ _ _ us hl => match us, hl with | [_, _, _], _ => rfl
  have g5 := PySem.W.mg_of X G a5
  have F6 := fun_mk (st := sPrices) l6 c6 k6
  have b6 := F6.binds (ps := ["_law_feed_here"]) fun _ _ _ _ _ _ us hl => match us, hl with | [_], _ => rfl
  have g6 := PySem.W.mg_of X G a6
  have F7 := fun_mk (st := sHouse) l7 c7 k7
  have b7 := F7.binds (ps := ["_law_feed_here"]) fun _ _ _ _ _ _ us hl => match us, hl with | [_], _ => rfl
  have g7 := PySem.W.mg_of X G a7
  have F8 := fun_mk (st := sPR) l8 c8 k8
  have b8 := F8.binds (ps := ["_law_prices_here", "_law_more"]) fun _ _ _ _ _ _ us hl => match us, hl with | [_, _], _ => rfl
  have g8 := PySem.W.mg_of X G a8
  have F9 := fun_mk (st := sWant) l9 c9 k9
  have b9 := F9.binds (ps := ["_law_home", "_law_more"]) fun _ _ _ _ _ _ us hl => match us, hl with | [_, _], _ => rfl
  have g9 := PySem.W.mg_of X G a9
  have F10 := fun_mk (st := sLaw) l10 c10 k10
  have b10 := F10.binds (ps := ["_law_script"]) fun _ _ _ _ _ _ us hl => match us, hl with | [_], _ => rfl
  have g10 := PySem.W.mg_of X G a10
  have m_len := PySem.W.mg_none_of X G z_len
  have m_range := PySem.W.mg_none_of X G z_range
  have m_tuple := PySem.W.mg_none_of X G z_tuple
  have m_repr := PySem.W.mg_none_of X G z_repr
  have m_list := PySem.W.mg_none_of X G z_list
  have m_sorted := PySem.W.mg_none_of X G z_sorted
  refine ⟨PySem.W.fnOf "law" "law" (defArgs sLaw) (defBody sLaw) (defScope sLaw) .none kV10 dc10 pm10 an10 cd10 ct10, fun s v => .of_eq rfl, fun base _ _ => ?_⟩
  obtain ⟨ds, vd, bd⟩ := F1.binds1 (ps := ["house", "later"]) 1 0 (fun z => (nomatch z)) rfl (fun T kV doc pm an cdv ct us its hu hi => match us, hu, its, hi with | [_], _, [_], _ => ⟨_, rfl, rfl⟩)
  obtain ⟨i1, n1⟩ := F1.kbindsD (ps := ["house", "later"]) 0 ["house"] (fun {_} us its ws => ws ++ its) (fun z => (nomatch z)) (fun r1 r2 r3 => r3.append r2)
    (fun T kV doc pm an cdv ct us its ws hu hi hw => match us, hu, its, hi, ws, hw with | [], _, [_], _, [_], _ => ⟨_, rfl, rfl⟩)
  obtain ⟨i2, n2⟩ := F1.kbindsD (ps := ["house", "later"]) 0 ["house", "later"] (fun {_} us its ws => ws) (fun z => (nomatch z)) (fun r1 r2 r3 => r3)
    (fun T kV doc pm an cdv ct us its ws hu hi hw => match us, hu, its, hi, ws, hw with | [], _, [_], _, [_, _], _ => ⟨_, rfl, rfl⟩)
  obtain ⟨i3, n3⟩ := F1.kbindsD (ps := ["house", "later"]) 1 ["later"] (fun {_} us its ws => us ++ ws) (fun z => (nomatch z)) (fun r1 r2 r3 => r1.append r3)
    (fun T kV doc pm an cdv ct us its ws hu hi hw => match us, hu, its, hi, ws, hw with | [_], _, [_], _, [_], _ => ⟨_, rfl, rfl⟩)
  have GLP := ok_lp (P := l.prog) (w := w) (base := base) (k := 0) F2 m_tuple
  have GH := ok_hl (P := l.prog) (w := w) (base := base) F1 GLP k2 b2 g2 m_tuple
  have GFd := ok_feed (P := l.prog) (w := w) (base := base) (k := 0) F3 m_list
  have GR := ok_next (P := l.prog) (w := w) (base := base) (k := 0) F4 m_len
  have GW := ok_words (P := l.prog) (w := w) (base := base) F5 GR k4 b4 g4 m_range m_len
  have GP := ok_prices (P := l.prog) (w := w) (base := base) F6 GR k4 b4 g4 m_range m_tuple
  have GHo := ok_house (P := l.prog) (w := w) (base := base) F7 GR k4 b4 g4 GW k5 b5 g5 GP k6 b6 g6 m_range m_tuple m_sorted
  have GPR := ok_pr (P := l.prog) (w := w) (base := base) (k := 0) F8 m_tuple
  have GWn := ok_want (P := l.prog) (w := w) (base := base) F9 GPR k8 b8 g8 m_tuple
  exact ok_law F10 GFd k3 b3 g3 GR k4 b4 g4 GHo k7 b7 g7 GH k1 b1 g1 bd vd n1 n2 n3 GWn k9 b9 g9 m_repr
end K80
open PySem PySem.W PyProof.Rows
set_option maxHeartbeats 0 in
theorem PySem.Challenge.cw_tablebills_k80_minutes_moved_holds : PySem.Challenge.rw_tablebills_k80_minutes_moved.Holds := by
  w_on; o_law; k_head; (case hw => w_witness2)
  k_fill
  refine TB.walkG (l := PySem.Challenge.rw_tablebills_k80_minutes_moved) (n := 63) (k := 4) (x := "_law_script") (sp := fun w => K80.spLaw _) rfl (by decide) rfl (fun w h Y => PySem.W.kIn_of Y) ⟨rfl, by decide, by decide⟩ ?F (fun _ _ a ns hl hS => ⟨a, ns, rfl, hS, hl, fun _ => rfl⟩)
  case F =>
    intro w mg fa h KX G hmg
    refine' K80.all_mk KX G hmg ?a1 ?l1 ?c1 ?k1 ?t1 ?a2 ?l2 ?c2 ?k2 ?a3 ?l3 ?c3 ?k3 ?a4 ?l4 ?c4 ?k4 ?a5 ?l5 ?c5 ?k5 ?a6 ?l6 ?c6 ?k6 ?a7 ?l7 ?c7 ?k7 ?a8 ?l8 ?c8 ?k8 ?a9 ?l9 ?c9 ?k9 ?a10 ?l10 ?c10 ?k10 ?z_len ?z_range ?z_tuple ?z_repr ?z_list ?z_sorted
    (case a1 => k_is); (case l1 => k_is); (case c1 => k_is); (case k1 => k_is); (case t1 => k_is); (case a2 => k_is); (case l2 => k_is); (case c2 => k_is); (case k2 => k_is); (case a3 => k_is); (case l3 => k_is); (case c3 => k_is); (case k3 => k_is); (case a4 => k_is); (case l4 => k_is); (case c4 => k_is); (case k4 => k_is); (case a5 => k_is); (case l5 => k_is); (case c5 => k_is); (case k5 => k_is); (case a6 => k_is); (case l6 => k_is); (case c6 => k_is); (case k6 => k_is); (case a7 => k_is); (case l7 => k_is); (case c7 => k_is); (case k7 => k_is); (case a8 => k_is); (case l8 => k_is); (case c8 => k_is); (case k8 => k_is); (case a9 => k_is); (case l9 => k_is); (case c9 => k_is); (case k9 => k_is); (case a10 => k_is); (case l10 => k_is); (case c10 => k_is); (case k10 => k_is); (case z_len => k_is); (case z_range => k_is); (case z_tuple => k_is); (case z_repr => k_is); (case z_list => k_is); (case z_sorted => k_is)
