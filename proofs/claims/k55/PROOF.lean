import PyProof.Rows.All
import Wide.All
import OpenK.AllK
import Wide.FinOn
import HandS.ForMost
import HandS.Wide
import HandS.Defaults
import HandS.Flow
import HandS.Style
import HandS.IsInst
import HandS.MakeKw
import HandS.Zip
import HandS.TupAny
import HandS.RaiseMore
import HandS.Walk
import HandS.NoneIn
import PySem.Challenge.RW_tablebills_k55_jobs_by_kind
set_option Elab.async false
set_option linter.all false
set_option maxRecDepth 100000
namespace TB
open PySem PySem.Spec PyProof.Rows L2

/-! A def's promise, where no repr is under way around it. -/
section
variable (P : Program) (w : World) (K : PySem.W.Frag) (mg : Str → Option Value) (base : Heap)
structure FnG (CX : CXT) (k : Nat) (f : Addr) (fd : FuncData) (ps : List Str) (sp : Sp) : Prop where
  len : ∀ xs G R Z, sp xs G R Z → xs.length = ps.length
  run : ∀ (A : Around), A.guards = some [] → Room k A →
    ∀ (outer : List Env) (s : Shared) (H : Hp), Env0 P w K mg base A outer s H →
    ∀ (args : Args) (us : List Value) (vs : List V), BindsTo s fd args (ps.zip us) → Vals vs us →
    ∀ (Q : VK) (E : XK), sp vs H Q E →
      codeAny (model P w) A (Code.call (Value.ref f) args)
        (CR CX outer P w H s Q E) s
end

section
variable {P : Program} {w : World} {K : PySem.W.Frag} {mg : Str → Option Value} {base : Heap} {CX : CXT}
theorem FnG.of {k : Nat} {f : Addr} {fd : FuncData} {ps : List Str} {sp : Sp}
    (F : FnOk P w K mg base CX k f fd ps sp) : FnG P w K mg base CX k f fd ps sp :=
  ⟨F.len, fun A _ hr outer s H e0 args us vs hb r Q E h => F.run A outer s H args us vs Q E hr e0 hb r h⟩

/-- the body's walk gives the promise -/
theorem gfn {k : Nat} {f : Addr} {nm qual : Str} {prm : Arguments} {bd : List Stmt} {sc : Scope} {dV kV doc pm cdv ct oc : Value} {an od : Option Addr}
    {osl : Array (Option Value)} {N : List Str} {ps : List Str} {sp : Sp}
    (lk : K.lookup f = some ⟨oc, od, .func (PySem.W.fnOf nm qual prm bd sc dV kV doc pm an cdv ct), osl⟩)
    (hcd : PySem.W.codeIn K cdv qual = true) (S : FnScope N ps sc) (len : ∀ vs H Q E, sp vs H Q E → vs.length = ps.length)
    (walk : ∀ (A : Around), A.guards = some [] → ∀ (outer : List Env) (s : Shared) (H : Hp) (vs : List V) (Q : VK) (E : XK),
      Room k (A.deeper (envOfC qual sc s.heap.objs.size f cdv)) → sp vs H Q E →
      ∃ t, PSs (cxOf CX P w K mg base N qual sc f cdv A outer s H E) bd t ∧ t ⟨fun _ H' => Q .non H', Q, fun _ _ => False, fun _ _ => False⟩ (start N vs) H) :
    FnG P w K mg base CX (k + 1) f (PySem.W.fnOf nm qual prm bd sc dV kV doc pm an cdv ct) ps sp := by
  constructor
  · exact len
  intro A hg hr outer s H e0 args us vs hb r Q E hsp
  have keeps : ∀ b o, base.get? b = some o → s.heap.get? b = some o := fun b o e => (e0.bs b o e).1
  have KX : K.In s.heap := e0.mod.kin.keeps keeps
  have lim : s.heap.NoLimit := e0.mod.nolimit.keeps keeps
  obtain ⟨t, ht, hq⟩ := walk A hg outer s H vs Q E (hr.deeper _) hsp
  have crec := PySem.W.codeRec_of KX hcd
  refine codeAny_call_function hr.depth (KX _ _ lk) rfl S.co S.gen rfl crec (hb _ _ _ _ ?_)
  refine wpAny_newFunctionEnv_cells S.kind ?_ ?_
  · rintro ⟨n, v⟩ hy
    have q := S.par n (List.of_mem_zip hy).1
    cases q with
    | inl q => exact Or.inl q
    | inr q => exact Or.inr ⟨q, PySem.W.cellsFrom_some _ _ _ (Or.inl q)⟩
  · intro env he s1 x
    cases he
    have I := inv_start (CX := CX) (P := P) (w := w) (mg := mg) (N := N) (qual := qual) (f := f) (cd := cdv) (E := E) S hr.hd e0 (len _ _ _ _ hsp) r x
    refine ⟨lim.keeps x.toInCall.keep, codeAny_func (wpAny_mono (ht.run [] s1 (start N vs) H _ I hq) ?_ (fun e s' hs => hs))⟩
    intro fl s' hs
    match fl, hs with
    | .ret u, ⟨v, _, H', J, rv, q⟩ => exact ⟨v, H', J.os, J.bare, J.base, J.hok, rv, q⟩
    | .next, ⟨_, H', J, q⟩ => exact ⟨V.non, H', J.os, J.bare, J.base, J.hok, rfl, q⟩
    | .brk, ⟨_, _, _, q⟩ => exact q.elim
    | .cont, ⟨_, _, _, q⟩ => exact q.elim

theorem gok {x qual : Str} {st : Stmt} {f : Addr} {fd : FuncData} {N ps : List Str} {k : Nat} {sp : Sp} (F : Fun K x qual st f fd)
    (S : FnScope N ps (defScope st)) (len : ∀ vs H Q E, sp vs H Q E → vs.length = ps.length)
    (walk : ∀ (cdv : Value) (A : Around), A.guards = some [] → ∀ (outer : List Env) (s : Shared) (H : Hp) (vs : List V) (Q : VK) (E : XK),
      Room k (A.deeper (envOfC qual (defScope st) s.heap.objs.size f cdv)) → sp vs H Q E →
      ∃ t, PSs (cxOf CX0 P w K mg base N qual (defScope st) f cdv A outer s H E).nox (defBody st) t ∧
        t ⟨fun _ H' => Q .non H', Q, fun _ _ => False, fun _ _ => False⟩ (start N vs) H) :
    FnG P w K mg base CX0 (k + 1) f fd ps sp := by
  obtain ⟨_, _, _, _, _, _, cdv, _, _, rfl, lk, hcd⟩ := F.ex
  refine gfn lk hcd S len fun A hg outer s H vs Q E hr hsp => ?_
  obtain ⟨t, a, b⟩ := walk cdv A hg outer s H vs Q E hr hsp
  exact ⟨t, a.nox, b⟩
end

section
variable {X : Cx} {CX : CXT} {k : Nat} {f : Addr} {fd : FuncData} {ps : List Str} {sp : Sp} {dvs : List V} {ds : List Value} {E : XK} {x : Str} {p pos : Pos} {e : Expr} {es : List Expr} {t : TA}
/-- f(e, ..) of such a def -/
theorem pe_callG (F : FnG X.prog X.w X.K X.mg X.base CX k f fd ps sp) (gd : X.A.guards = some []) (hr : Room k X.A) (hg : Gl X x) (hm : X.mg x = some (.ref f))
    (hk : PySem.W.keepIn X.K (.ref f) = true) (hb : Binds X.K fd ps ds) (hd : Vals dvs ds) (hx : Passes CX X E) (ha : PA X (e :: es) t)
    (he : starEach (e :: es) X.env = (false, eval e X.env) :: starEach es X.env := by rfl) (hdb : (x == ("__debug__" : Str)) = false := by decide)
    (hpl : (backTo pos (starEach es X.env)).any (·.1) = false := by rfl) : PE X (.Call (.Name x p) (e :: es) [] pos) (tCall sp dvs E t) := by
  constructor
  intro pins s σ H Q I h
  refine wpAny_Call_Name_kw (ld_glob I hg hm (PySem.W.callWith_K (h₀ := X.base) I.ok.mod.kin hk (thn (ha.run pos pins s σ H _ I h) ?_) he hpl) hdb)
  rintro us s1 ⟨vs, H1, I1, r, q⟩
  have r2 := r.append hd
  have hl : (us ++ ds).length = ps.length := r2.length.symm.trans (F.len _ _ _ _ q)
  refine ⟨I1.kIn, wpAny_call (codeAny_mono (F.run X.A gd hr X.stack s1 H1 I1.env0 ⟨us, []⟩ _ _ (hb s1 us I1.kIn hl) r2 Q E q) ?_)⟩
  intro res s' hq
  match res, hq with
  | .error e, hq => exact hx pins σ H1 s1 e s' I1 hq
  | .ok (.ret u), hq => exact I1.after hq
  | .ok .next, hq => exact hq.elim
  | .ok .brk, hq => exact hq.elim
  | .ok .cont, hq => exact hq.elim
end

/-! repr of plain data -/
section
variable {X : Cx}
def rRepr (K : PySem.W.Frag) : List V → Hp → VK → Prop := fun xs H Q => ∃ a d, xs = [.ref a] ∧ Dp K H (.ref a) d ∧ d.showable = true ∧ d.hasDict = false ∧ d.depth ≤ 60 ∧ d.shown.length ≤ sizeLine ∧ Q (.str d.shown) H
theorem call_reprD (gd : X.A.guards = some []) (hu : X.A.units + 64 < cLine) : CallR X (.builtin "repr") (rRepr X.K) := by
  intro pins s σ H args us Q I r h
  obtain ⟨a, d, rfl, hd, hs, hn, hp, hz, q⟩ := h
  cases r with
  | cons r1 r2 =>
    cases r2
    have e := r1
    obtain rfl := show _ = Value.ref a from e
    obtain ⟨as, rd⟩ := Dp.reads I d _ _ hd rfl
    refine repr_of_reads' rd hs (PyData.noDict_hsm hn) gd (by omega) (fun _ _ z => z) (fun h' u tk k => ?_) hz
    exact ⟨.str d.shown, H, I.kept k, ⟨u, rfl⟩, q⟩

/-- xs[i] read, i no less than 0, by values -/
def rGetN (K : PySem.W.Frag) : V → V → Hp → VK → Prop := fun o i H Q => ∃ (p : Addr) (xs : List V) (j : Nat) (v : V), o = .ref p ∧ i = .int (j : Int) ∧ SqL K H p xs ∧ xs[j]? = some v ∧ Q v H
theorem get_list : PGet X (rGetN X.K) := by
  intro pins s σ H o i ov iv Q I ro ri h
  obtain ⟨p, xs, j, z, rfl, rfl, hq, he, q⟩ := h
  cases ro
  obtain ⟨t, rfl⟩ := ri
  obtain ⟨its, rl, pl, hz⟩ := I.list hq
  obtain ⟨v, ev, rv⟩ := rl.get he
  have hl := rl.length
  have hj : j < xs.length := (List.getElem?_eq_some_iff.mp he).1
  have hn := line63
  exact wpAny_getItem_list pl.isList (by omega) (by omega) (by rw [Int.toNat_natCast]; simpa using ev) ⟨z, H, I, rv, q⟩
end

/-! the law's own call, at the top's end -/
section
variable {P : Program} {w : World} {K : PySem.W.Frag} {mg mb : Str → Option Value} {k : Nat} {fa a : Addr} {fd : FuncData} {x : Str} {sp : Sp} {s1 : Shared} {vs : List Value} {ns : List Int}
/-- the abstract heap that tracks the script alone, or nothing -/
theorem lawG0 {H : Hp} (KX : K.In s1.heap) (hns : s1.heap.Ns mainGlobals mg) (hb : s1.heap.Ns builtinsNs mb)
    (hbb : ∀ y : Str, y ≠ "__name__" → mb y = bootBuiltins y) (hlim : s1.heap.NoLimit) (hg : s1.gens = #[])
    (ha : s1.heap.get? a = some { cls := .type "list", data := .seq vs.toArray }) (hr : Room k callerA)
    (F : ∀ base : Heap, K.In base → base.Ns mainGlobals mg → FnG P w K mg base CX0 k fa fd [x] sp)
    (hbind : ∀ (s : Shared) (u : Value), BindsTo s fd ⟨[u], []⟩ [(x, u)])
    (hO : Only H) (hok : HOk P w H s1.heap) (onlyA : ∀ b, H b ≠ none → b = a) (notK : H a ≠ none → K.lookup a = none)
    (hsp : sp [.ref a] H (fun v _ => v = .bl true) fun _ _ _ => False) :
    codeAny (model P w) callerA (.call (.ref fa) ⟨[.ref a], []⟩)
      (fun r s' => r = .ok (.ret (.bool true)) ∧ OldK s1.heap s'.heap ∧ s'.os = s1.os ∧ AllBare s'.gens) s1 := by
  have free : ∀ (b : Addr), (b = a → H b = none) → H b = none := by
    intro b hb
    by_cases e : H b = none
    · exact e
    · exact hb (onlyA b e)
  have nsB : ∀ {b : Addr} {m : Str → Option Value}, s1.heap.Ns b m → (hidT s1.heap H).Ns b m := by
    rintro b m ⟨o, es, ep, e, d, r⟩
    refine ⟨o, es, ep, hidT_get e (free b ?_), d, r⟩
    rintro rfl
    have q := Option.some.inj (e.symm.trans ha)
    rw [q] at d
    exact nomatch d
  have kinB : K.In (hidT s1.heap H) := by
    intro b o e
    refine hidT_get (KX b o e) (free b ?_)
    rintro rfl
    by_cases z : H b = none
    · exact z
    · exact absurd ((notK z).symm.trans e) (fun q => nomatch q)
  obtain ⟨mc, hl1, hl2⟩ := hlim
  have M : Mod K mg (hidT s1.heap H) := ⟨kinB, nsB hns, ⟨mb, nsB hb, hbb⟩, ⟨mc, nsB hl1, hl2⟩⟩
  have e0 : Env0 P w K mg (hidT s1.heap H) callerA [] s1 H :=
    { frames := rfl, mod := M, bs := fun b o e => of_hidT e, bsz := Nat.le_of_eq (hidT_size _ _), funs := trivial,
      frf := fun b hb => (nomatch (show b ∈ ([] : List Addr) from hb)), hok := hok, bare := .of_eq hg }
  have run := (F _ kinB (nsB hns)).run callerA rfl hr [] s1 H e0 ⟨[.ref a], []⟩ [.ref a] [.ref a] (hbind s1 _) (.cons rfl .nil) _ _ hsp
  refine codeAny_mono run ?_
  intro r s' h
  match r, h with
  | .ok (.ret u), ⟨v, H', os, bare, un, hok', rv, q⟩ =>
    have q' : v = V.bl true := q
    subst q'
    have eu : u = Value.bool true := rv
    subst eu
    refine ⟨rfl, OldK.of_keep ?_, os, bare⟩
    intro b o e
    by_cases z : H b = none
    · exact un.keep b o e z (fun q => nomatch (show b ∈ ([] : List Addr) from q)) (fun q => nomatch q)
    · rcases hO b with z1 | ⟨ob, xs, z1⟩
      · exact absurd z1 z
      · have e1 := (hok b _ z1).1
        have e2 := (hok' b _ (un.frzs b ob _ z1)).1
        rw [Option.some.inj (e.symm.trans e1)]
        exact e2

theorem lawG (KX : K.In s1.heap) (hns : s1.heap.Ns mainGlobals mg) (hb : s1.heap.Ns builtinsNs mb)
    (hbb : ∀ y : Str, y ≠ "__name__" → mb y = bootBuiltins y) (hlim : s1.heap.NoLimit) (hg : s1.gens = #[])
    (ha : s1.heap.get? a = some { cls := .type "list", data := .seq vs.toArray }) (hi : IntsAre vs ns) (hl : ns.length ≤ sizeLine) (hr : Room k callerA)
    (F : ∀ base : Heap, K.In base → base.Ns mainGlobals mg → FnG P w K mg base CX0 k fa fd [x] sp)
    (hbind : ∀ (s : Shared) (u : Value), BindsTo s fd ⟨[u], []⟩ [(x, u)])
    (hsp : ∀ H : Hp, SqL K H a (ns.map V.int) → sp [.ref a] H (fun v _ => v = .bl true) fun _ _ _ => False) :
    codeAny (model P w) callerA (.call (.ref fa) ⟨[.ref a], []⟩)
      (fun r s' => r = .ok (.ret (.bool true)) ∧ OldK s1.heap s'.heap ∧ s'.os = s1.os ∧ AllBare s'.gens) s1 := by
  have rv := vals_ints hi
  by_cases hk : K.lookup a = none
  · let ob : Obj := { cls := .type "list", data := .seq vs.toArray }
    let H : Hp := upd (fun _ => none) a (.frz ob (.lst (ns.map V.int)))
    have hA : H a = some (.frz ob (.lst (ns.map V.int))) := upd_same
    have hN : ∀ b, b ≠ a → H b = none := fun b ne => upd_ne ne
    refine lawG0 (H := H) KX hns hb hbb hlim hg ha hr F hbind ?_ ?_ ?_ (fun _ => hk) (hsp H (.inl (.inr ⟨ob, hA⟩)))
    · intro b
      by_cases e : b = a
      · exact .inr ⟨ob, _, e ▸ hA⟩
      · exact .inl (hN b e)
    · intro b u q
      by_cases e : b = a
      · subst e
        cases Option.some.inj (q.symm.trans hA)
        exact ⟨ha, Nat.le_trans (Nat.le_of_eq (List.length_map V.int)) hl, vs, _, rv, ha⟩
      · exact nomatch (hN b e).symm.trans q
    · intro b q
      by_cases e : b = a
      · exact e
      · exact absurd (hN b e) q
  · obtain ⟨o, ho⟩ := Option.ne_none_iff_exists'.mp hk
    have eo := Option.some.inj ((KX a o ho).symm.trans ha)
    subst eo
    refine lawG0 (H := fun _ => none) KX hns hb hbb hlim hg ha hr F hbind (fun _ => .inl rfl) (fun b u q => nomatch q) (fun b q => absurd rfl q) (fun q => absurd rfl q) (hsp _ (.inr ?_))
    exact ⟨_, vs.toArray, _, ho, rfl, rfl, rfl, by rw [List.size_toArray, hi.length]; exact hl, rv⟩
end

theorem walkG {l : PySem.W.OpenLaw} {n k : Nat} {q : Program} {loose : List Str} {XP : (Str → Option Value) → Heap → Prop} {YP : World → Heap → Prop} {d : DefRec} {K : Params → PySem.W.Frag} {sp : World → Sp} {x : Str}
    (hn : l.most = some n) (hn2 : n ≤ sizeLine) (hdf : d.params.defaults = [])
    (hY : ∀ (w : World) (h : Heap), YP w h → (K w.params).In h) (hr : Room k callerA)
    (F : ∀ (w : World) (mg : Str → Option Value) (fa : Addr) (g : Heap), (K w.params).In g → g.Ns mainGlobals mg → mg d.name = some (.ref fa) →
      ∃ fd : FuncData, (∀ (s : Shared) (v : Value), BindsTo s fd ⟨[v], []⟩ [(x, v)]) ∧
        ∀ base : Heap, (K w.params).In base → base.Ns mainGlobals mg → FnG l.prog w (K w.params) mg base CX0 k fa fd [x] (sp w))
    (hsp : ∀ (w : World) (H : Hp) (a : Addr) (ns : List Int), ns.length ≤ n → SqL (K w.params) H a (ns.map V.int) → sp w [.ref a] H (fun v _ => v = .bl true) fun _ _ _ => False) :
    PySem.W.WalkO q loose XP YP l.row.toRowW d [] fun f us => PySem.call f us := by
  refine Att.attach_call hn hdf ?_
  intro w s₀ s₁ mg mb fa o pm cd doc a vs ns G Y ho hd hcd hmg hobj hints hlen hg
  have KX := hY w _ Y
  obtain ⟨fd, bnd, prom⟩ := F w mg fa _ KX G.T.g hmg
  exact lawG KX G.T.g G.T.b G.T.builtins G.T.nolimit hg hobj hints (Nat.le_trans hlen hn2) hr prom bnd (fun H hS => hsp w H a ns hlen hS)
end TB

set_option Elab.async false
set_option linter.all false
set_option maxRecDepth 100000
namespace TB
open PySem PySem.Spec PyProof.Rows L2

/-! ### what is shown -/
structure Sh (k n : Nat) (d : PyData) : Prop where
  sh : d.showable = true
  nd : d.hasDict = false
  dp : d.depth ≤ k
  ln : d.shown.length ≤ n
theorem sh_int {i : Int} (h : i.natAbs < 2 ^ 100) : Sh 0 1921 (.int i) := by
  have hl : i.natAbs.log2 < 1920 := by
    by_cases h0 : i.natAbs = 0
    · rw [h0]; decide
    · exact (Nat.log2_lt h0).2 (Nat.lt_of_lt_of_le h (Nat.pow_le_pow_right (by decide) (by decide)))
  refine ⟨by simp only [PyData.showable, decide_eq_true_eq]; exact hl, by simp only [PyData.hasDict], by simp [PyData.depth], ?_⟩
  simp only [PyData.shown]
  exact int_text_len_1921 hl
theorem all_len {ds : List PyData} {k n : Nat} (h : ∀ d ∈ ds, Sh k n d) : PyData.showableAll ds = true ∧ PyData.hasDictAll ds = false ∧ PyData.depthAll ds ≤ k ∧ ((PyData.shownAll ds).map (·.length)).sum ≤ ds.length * n ∧ (PyData.shownAll ds).length = ds.length := by
  induction ds with
  | nil => simp [PyData.showableAll, PyData.hasDictAll, PyData.depthAll, PyData.shownAll]
  | cons d ds ih =>
    obtain ⟨a, b, c, e, f⟩ := ih fun x hx => h x (List.mem_cons_of_mem _ hx)
    have g := h d List.mem_cons_self
    refine ⟨by simp only [PyData.showableAll, g.sh, a, Bool.and_self], by simp only [PyData.hasDictAll, g.nd, b, Bool.or_self], ?_, ?_, ?_⟩
    · simp only [PyData.depthAll]
      have := g.dp
      omega
    · simp only [PyData.shownAll, List.map_cons, List.sum_cons, List.length_cons]
      have := g.ln
      rw [Nat.add_mul]
      omega
    · simp only [PyData.shownAll, List.length_cons, f]
theorem sh_tup {ds : List PyData} {k n : Nat} (h : ∀ d ∈ ds, Sh k n d) : Sh (k + 1) (ds.length * n + 2 * ds.length + 3) (.tuple ds) := by
  obtain ⟨a, b, c, e, f⟩ := all_len h
  refine ⟨by simp only [PyData.showable, a], by simp only [PyData.hasDict, b], by simp only [PyData.depth]; omega, ?_⟩
  simp only [PyData.shown]
  refine Nat.le_trans (tupleText_len_le _) ?_
  rw [f]
  omega
theorem sh_lst {ds : List PyData} {k n : Nat} (h : ∀ d ∈ ds, Sh k n d) : Sh (k + 1) (ds.length * n + 2 * ds.length + 3) (.list ds) := by
  obtain ⟨a, b, c, e, f⟩ := all_len h
  refine ⟨by simp only [PyData.showable, a], by simp only [PyData.hasDict, b], by simp only [PyData.depth]; omega, ?_⟩
  simp only [PyData.shown]
  refine Nat.le_trans (listText_len_le _) ?_
  rw [f]
  omega
theorem Sh.mono {k k' n n' : Nat} {d : PyData} (h : Sh k n d) (a : k ≤ k') (b : n ≤ n') : Sh k' n' d :=
  ⟨h.sh, h.nd, Nat.le_trans h.dp a, Nat.le_trans h.ln b⟩
def dInts (ns : List Int) : List PyData := ns.map PyData.int
theorem sh_ints {ns : List Int} (h : ∀ v ∈ ns, v.natAbs < 2 ^ 100) (hl : ns.length ≤ 100) : Sh 1 200000 (.tuple (dInts ns)) := by
  refine (sh_tup (k := 0) (n := 1921) fun d hd => ?_).mono (by omega) ?_
  · obtain ⟨v, hv, rfl⟩ := List.mem_map.mp hd
    exact sh_int (h v hv)
  · unfold dInts
    rw [List.length_map]
    omega
theorem dp_ints {K : PySem.W.Frag} {H : Hp} : ∀ ns : List Int, DpAll K H (ns.map V.int) (dInts ns)
  | [] => DpAll.nil
  | n :: ns => DpAll.cons (Dp.int n) (dp_ints ns)

/-- a comprehension without an if -/
theorem yes {σ : L2.St} {H : Hp} {R : Bool → Hp → Prop} (h : R true H) : tYes σ H R := h
theorem iteS {c A B : Prop} [Decidable c] (hc : c) (h : A) : if decide c = true then A else B := by
  rw [if_pos (decide_eq_true hc)]
  exact h
theorem ixN_nat {n k : Nat} (h : k < n) : ixN n (k : Int) = some k := by
  unfold ixN
  rw [if_pos (by omega), if_pos (by omega)]
  simp
theorem take_more {α : Type} {xs : List α} {i : Nat} {x : α} (h : xs[i]? = some x) : xs.take (i + 1) = xs.take i ++ [x] := by
  rw [List.take_add_one, h]
  rfl

theorem map_get {α β : Type} {f : α → β} {xs : List α} {i : Nat} {d : β} (h : (xs.map f)[i]? = some d) : ∃ p, xs[i]? = some p ∧ d = f p := by
  rw [List.getElem?_map] at h
  cases e : xs[i]? with
  | none => rw [e] at h; cases h
  | some p => rw [e] at h; exact ⟨p, rfl, (Option.some.inj h).symm⟩
theorem map_take_more {α β : Type} {f : α → β} {xs : List α} {i : Nat} {x : α} (h : xs[i]? = some x) : (xs.take (i + 1)).map f = (xs.take i).map f ++ [f x] := by
  rw [take_more h, List.map_append]
  rfl

/-! ### heaps -/
theorem same_upd {H : Hp} {p : Addr} {o : HO} (h : H p = none) : Same H (upd H p o) := fun b x e => by
  rw [upd_ne (ne_of_none e h)]
  exact e
theorem Same.tup {K : PySem.W.Frag} {H H' : Hp} {a : Addr} {xs : List V} (e : Same H H') (h : SqT K H a xs) : SqT K H' a xs := by
  rcases h with (h | ⟨o, h⟩) | h
  · exact .inl (.inl (e _ _ h))
  · exact .inl (.inr ⟨o, e _ _ h⟩)
  · exact .inr h
/-- all that was tracked is as it was, but what stands at f -/
def But (f : Addr) (H H' : Hp) : Prop := ∀ b o, b ≠ f → H b = some o → H' b = some o
theorem But.refl (f : Addr) (H : Hp) : But f H H := fun _ _ _ h => h
theorem But.trans {f : Addr} {H H1 H2 : Hp} (a : But f H H1) (b : But f H1 H2) : But f H H2 := fun c o n h => b c o n (a c o n h)
theorem But.same {f : Addr} {H H1 H2 : Hp} (a : But f H H1) (b : Same H1 H2) : But f H H2 := fun c o n h => b c o (a c o n h)
theorem But.of {f : Addr} {H H' : Hp} (a : Same H H') : But f H H' := fun c o _ h => a c o h
theorem But.upd {f : Addr} {H : Hp} {o : HO} : But f H (upd H f o) := fun b x n e => by
  rw [upd_ne n]
  exact e
theorem But.free {f : Addr} {H H' : Hp} {zs : List V} (e : But f H H') (hf : H' f = some (.lst zs)) {l : Addr} (h : H' l = none) : H l = none := by
  cases q : H l with
  | none => rfl
  | some o =>
    have n : l ≠ f := fun z => by
      rw [z, hf] at h
      cases h
    rw [e l o n q] at h
    cases h
mutual
theorem Dp.same {K : PySem.W.Frag} {H H' : Hp} (e : Same H H') : ∀ (d : PyData) (v : V), Dp K H v d → Dp K H' v d
  | .none, _, .non => .non
  | .bool _, _, .bl b => .bl b
  | .int _, _, .int i => .int i
  | .str _, _, .str x => .str x
  | .list ds, _, .lst h a => .lst (e.seq h) (DpAll.same e ds _ a)
  | .tuple ds, _, .tup h a => .tup (TB.Same.tup e h) (DpAll.same e ds _ a)
theorem DpAll.same {K : PySem.W.Frag} {H H' : Hp} (e : Same H H') : ∀ (ds : List PyData) (vs : List V), DpAll K H vs ds → DpAll K H' vs ds
  | [], _, .nil => .nil
  | d :: ds, _, .cons h t => .cons (Dp.same e d _ h) (DpAll.same e ds _ t)
end
theorem DpAll.snoc {K : PySem.W.Frag} {H : Hp} {v : V} {d : PyData} (h : Dp K H v d) : ∀ {vs : List V} {ds : List PyData}, DpAll K H vs ds → DpAll K H (vs ++ [v]) (ds ++ [d])
  | _, _, .nil => .cons h .nil
  | _, _, .cons a t => .cons a (DpAll.snoc h t)
theorem DpAll.len {K : PySem.W.Frag} {H : Hp} : ∀ {vs : List V} {ds : List PyData}, DpAll K H vs ds → vs.length = ds.length
  | _, _, .nil => rfl
  | _, _, .cons _ t => congrArg Nat.succ (DpAll.len t)
theorem DpAll.get {K : PySem.W.Frag} {H : Hp} : ∀ {vs : List V} {ds : List PyData} {i : Nat} {v : V}, DpAll K H vs ds → vs[i]? = some v → ∃ d, ds[i]? = some d ∧ Dp K H v d
  | _, _, _, _, .nil, h => by simp at h
  | _, _, 0, _, .cons a _, h => ⟨_, rfl, by simp at h; subst h; exact a⟩
  | _, _, i + 1, _, .cons _ t, h => by
    obtain ⟨d, e, q⟩ := DpAll.get t (i := i) (by simpa using h)
    exact ⟨d, by simpa using e, q⟩
theorem Dp.tup_inv {K : PySem.W.Frag} {H : Hp} {v : V} {ds : List PyData} (h : Dp K H v (.tuple ds)) : ∃ a xs, v = .ref a ∧ SqT K H a xs ∧ DpAll K H xs ds := by
  cases h with
  | tup h a => exact ⟨_, _, rfl, h, a⟩
theorem Dp.lst_inv {K : PySem.W.Frag} {H : Hp} {v : V} {ds : List PyData} (h : Dp K H v (.list ds)) : ∃ a xs, v = .ref a ∧ SqL K H a xs ∧ DpAll K H xs ds := by
  cases h with
  | lst h a => exact ⟨_, _, rfl, h, a⟩
theorem DpAll.cons_inv {K : PySem.W.Frag} {H : Hp} {xs : List V} {d : PyData} {ds : List PyData} (h : DpAll K H xs (d :: ds)) : ∃ v vs, xs = v :: vs ∧ Dp K H v d ∧ DpAll K H vs ds := by
  cases h with
  | cons a t => exact ⟨_, _, rfl, a, t⟩
theorem DpAll.nil_inv {K : PySem.W.Frag} {H : Hp} {xs : List V} (h : DpAll K H xs []) : xs = [] := by
  cases h
  rfl
theorem Dp.int_inv {K : PySem.W.Frag} {H : Hp} {v : V} {i : Int} (h : Dp K H v (.int i)) : v = .int i := by
  cases h
  rfl
theorem Dp.str_inv {K : PySem.W.Frag} {H : Hp} {v : V} {i : Str} (h : Dp K H v (.str i)) : v = .str i := by
  cases h
  rfl
theorem dp_strs {K : PySem.W.Frag} {H : Hp} : ∀ ns : List Str, DpAll K H (ns.map V.str) (ns.map PyData.str)
  | [] => DpAll.nil
  | n :: ns => DpAll.cons (Dp.str n) (dp_strs ns)

/-! no list stands in it -/
mutual
def noL : PyData → Bool
  | .list _ => false
  | .tuple xs => noLs xs
  | .dict _ => false
  | _ => true
def noLs : List PyData → Bool
  | [] => true
  | x :: xs => noL x && noLs xs
end
theorem SqT.but {K : PySem.W.Frag} {H H' : Hp} {o a : Addr} {xs zs : List V} (e : But o H H') (ho : H o = some (.lst zs)) (h : SqT K H a xs) : SqT K H' a xs := by
  rcases h with (h | ⟨u, h⟩) | h
  · exact .inl (.inl (e _ _ (ne_of h ho (fun z => nomatch z)) h))
  · exact .inl (.inr ⟨u, e _ _ (ne_of h ho (fun z => nomatch z)) h⟩)
  · exact .inr h
mutual
theorem Dp.but {K : PySem.W.Frag} {H H' : Hp} {o : Addr} {zs : List V} (e : But o H H') (ho : H o = some (.lst zs)) : ∀ (d : PyData) (v : V), noL d = true → Dp K H v d → Dp K H' v d
  | .none, _, _, .non => .non
  | .bool _, _, _, .bl b => .bl b
  | .int _, _, _, .int i => .int i
  | .str _, _, _, .str x => .str x
  | .list ds, _, n, _ => by simp [noL] at n
  | .tuple ds, _, n, .tup h a => .tup (TB.SqT.but e ho h) (DpAll.but e ho ds _ (by simpa only [noL] using n) a)
theorem DpAll.but {K : PySem.W.Frag} {H H' : Hp} {o : Addr} {zs : List V} (e : But o H H') (ho : H o = some (.lst zs)) : ∀ (ds : List PyData) (vs : List V), noLs ds = true → DpAll K H vs ds → DpAll K H' vs ds
  | [], _, _, .nil => .nil
  | d :: ds, _, n, .cons h t => by
    simp only [noLs, Bool.and_eq_true] at n
    exact .cons (Dp.but e ho d _ n.1 h) (DpAll.but e ho ds _ n.2 t)
end
theorem noLs_of {ds : List PyData} (h : ∀ d ∈ ds, noL d = true) : noLs ds = true := by
  induction ds with
  | nil => rfl
  | cons d ds ih => simp only [noLs, h d List.mem_cons_self, ih fun x hx => h x (List.mem_cons_of_mem _ hx), Bool.and_self]
theorem noLs_snoc {ds : List PyData} {d : PyData} (h : noLs ds = true) (n : noL d = true) : noLs (ds ++ [d]) = true := by
  induction ds with
  | nil => simp only [List.nil_append, noLs, n, Bool.and_true]
  | cons x ds ih =>
    simp only [noLs, Bool.and_eq_true] at h
    simp only [List.cons_append, noLs, h.1, ih h.2, Bool.and_self]

/-! ### a list that is being filled: at D, with these data -/
structure Acc (K : PySem.W.Frag) (H : Hp) (D : Addr) (ds : List PyData) : Prop where
  ex : ∃ us, H D = some (.lst us) ∧ DpAll K H us ds
  nl : noLs ds = true
theorem Acc.start {K : PySem.W.Frag} {H : Hp} {D : Addr} : Acc K (upd H D (.lst [])) D [] := ⟨⟨[], upd_same, .nil⟩, rfl⟩
theorem Acc.same {K : PySem.W.Frag} {H H' : Hp} {D : Addr} {ds : List PyData} (h : Acc K H D ds) (e : Same H H') : Acc K H' D ds := by
  obtain ⟨us, a, b⟩ := h.ex
  exact ⟨⟨us, e _ _ a, DpAll.same e _ _ b⟩, h.nl⟩
theorem Acc.but {K : PySem.W.Frag} {H H' : Hp} {D F : Addr} {ds : List PyData} {zs : List V} (h : Acc K H D ds) (e : But F H H') (hF : H F = some (.lst zs)) (n : D ≠ F) : Acc K H' D ds := by
  obtain ⟨us, a, b⟩ := h.ex
  exact ⟨⟨us, e _ _ n a, DpAll.but e hF _ _ h.nl b⟩, h.nl⟩
/-- one more -/
theorem Acc.more {K : PySem.W.Frag} {H : Hp} {D : Addr} {ds : List PyData} {v : V} {d : PyData} (h : Acc K H D ds) (dv : Dp K H v d) (n : noL d = true) (hl : ds.length ≤ 900) :
    ∃ us, H D = some (.lst us) ∧ us.length < sizeLine ∧ Acc K (upd H D (.lst (us ++ [v]))) D (ds ++ [d]) := by
  obtain ⟨us, a, b⟩ := h.ex
  have bu : But D H (upd H D (.lst (us ++ [v]))) := But.upd
  exact ⟨us, a, by rw [DpAll.len b]; exact small1000 (by omega), ⟨us ++ [v], upd_same, DpAll.snoc (Dp.but bu a _ _ n dv) (DpAll.but bu a _ _ h.nl b)⟩, noLs_snoc h.nl n⟩

theorem same_new {H H2 : Hp} {D : Addr} {o : HO} (nD : H D = none) (sm : Same H H2) : Same H (upd H2 D o) := fun c x e => by
  rw [upd_ne (ne_of_none e nD)]
  exact sm c x e
/-- a turn of a comprehension that changes nothing else -/
theorem Acc.turn {K : PySem.W.Frag} {H H1 H2 : Hp} {D : Addr} {ds ds' : List PyData} {v : V} {d : PyData} (nD : H D = none) (sm : Same H H1) (ac : Acc K H1 D ds) (s2 : Same H1 H2) (dv : Dp K H2 v d) (n : noL d = true) (hl : ds.length ≤ 900) (he : ds' = ds ++ [d]) :
    ∃ acc, H2 D = some (.lst acc) ∧ acc.length < sizeLine ∧ (Same H (upd H2 D (.lst (acc ++ [v]))) ∧ Acc K (upd H2 D (.lst (acc ++ [v]))) D ds') := by
  obtain ⟨us, a, b, c⟩ := (ac.same s2).more dv n hl
  exact ⟨us, a, b, same_new nD (sm.trans s2), he ▸ c⟩
/-- the tuple of all that was filled in -/
theorem Acc.tuple {K : PySem.W.Frag} {H : Hp} {D t : Addr} {us : List V} {ds : List PyData} (dv : DpAll K H us ds) (nt : H t = none) : Dp K (upd H t (.tup us)) (.ref t) (.tuple ds) :=
  .tup (.inl (.inl upd_same)) (DpAll.same (same_upd nt) _ _ dv)

/-! ### repr, its text kept shut -/
@[irreducible] def txt (d : PyData) : Str := d.shown
theorem txt_eq (d : PyData) : txt d = d.shown := by
  unfold txt
  rfl
section
variable {X : Cx}
def rReprT (K : PySem.W.Frag) : List V → Hp → VK → Prop := fun xs H Q => ∃ a d, xs = [.ref a] ∧ Dp K H (.ref a) d ∧ d.showable = true ∧ d.hasDict = false ∧ d.depth ≤ 60 ∧ d.shown.length ≤ sizeLine ∧ Q (.str (txt d)) H
theorem call_reprT (gd : X.A.guards = some []) (hu : X.A.units + 64 < cLine) : CallR X (.builtin "repr") (rReprT X.K) := by
  intro pins s σ H args us Q I r h
  obtain ⟨a, d, e, hd, hs, hn, hp, hz, q⟩ := h
  refine call_reprD gd hu pins s σ H args us Q I r ⟨a, d, e, hd, hs, hn, hp, hz, ?_⟩
  rw [← txt_eq]
  exact q
end

/-! ### a call by names alone -/
section
variable {X : Cx} {CX : CXT} {k : Nat} {f : Addr} {fd : FuncData} {ps ks : List Str} {sp : Sp} {E : XK} {x : Str} {p pos : Pos} {kws : List Keyword} {tk : TA} {g : List Value → List Value → List Value} {gV : List V → List V → List V}
theorem pe_callN0 (F : FnOk X.prog X.w X.K X.mg X.base CX k f fd ps sp) (hr : Room k X.A) (hg : Gl X x) (hm : X.mg x = some (.ref f)) (hk : PySem.W.keepIn X.K (.ref f) = true) (hb : KBn X.K fd ps 0 ks g gV) (hx : Passes CX X E) (hkw : PK X kws tk)
    (hks : (backToKw pos (keywordEach kws X.env)).filterMap (·.1) = ks := by rfl) (hall : (backToKw pos (keywordEach kws X.env)).all (·.1.isSome) = true := by rfl)
    (hpl : ((backTo pos (starEach [] X.env)).any (·.1) || (backToKw pos (keywordEach kws X.env)).any (·.1.isNone)) = false := by rfl) (hdb : (x == ("__debug__" : Str)) = false := by decide) :
    PE X (.Call (.Name x p) [] kws pos) (tCallN 0 ks.length sp gV E tNil tk) := by
  constructor
  intro pins s σ H Q I h
  refine wpAny_Call_Name_kw (ld_glob I hg hm (PySem.W.callWith_KW0 (h₀ := X.base) I.ok.mod.kin hk hall (thn (hkw.run pos pins s σ H _ I h) ?_) hpl) hdb)
  rintro ws s2 ⟨zs, H2, I2, rz, l1, l2, q2⟩
  rw [hks]
  exact ⟨I2.kIn, run_fnN (us := []) (vs := []) F hr hb hx I2 .nil rz l1 l2 q2⟩
end
end TB

set_option Elab.async false
set_option linter.all false
set_option maxRecDepth 100000
set_option maxHeartbeats 1000000
namespace TB
open PySem PySem.Spec PyProof.Rows L2

/-! ### sum, min, max of a tuple of numbers -/
section
variable {l : Addr} {its : List Value} {ns : List Int} {prog : Program} {w : World} {A : Around} {s : Shared} {Q E : Value → Shared → Prop}
theorem tup_old {h' : Heap} {ob : Obj} (kept : ∀ b o, b ∉ [s.heap.objs.size] → (s.heap.push ob).get? b = some o → h'.get? b = some o) : ∀ b o, s.heap.get? b = some o → h'.get? b = some o := fun b o e =>
  kept b o (fun z => by
    have z' : b = s.heap.objs.size := by simpa using z
    have := Heap.lt_size e
    rw [z'] at this
    exact Nat.lt_irrefl _ this) (Heap.get?_push_of_some _ e)
theorem tup_fp {ob : Obj} {xs : Array Value} (hl : s.heap.IsTuple l xs) : l < s.heap.objs.size ∧ ∀ b ∈ [s.heap.objs.size, l], b < (s.heap.push ob).objs.size := by
  obtain ⟨o, ho, _⟩ := hl
  have lt := Heap.lt_size ho
  refine ⟨lt, fun b hb => ?_⟩
  rw [Heap.size_push]
  have : b = s.heap.objs.size ∨ b = l := by simpa using hb
  rcases this with rfl | rfl
  · exact Nat.lt_succ_self _
  · exact Nat.lt_succ_of_lt lt
theorem sum_tupR (hh : A.handled = none) (hl : s.heap.IsTuple l its.toArray) (hi : IntsAre its ns)
    (told : ∀ h' tk t', (∀ b o, s.heap.get? b = some o → h'.get? b = some o) → Q (.int ns.sum t') { s with heap := h', toks := tk }) : wpAny (model prog w) A (call (.builtin "sum") [.ref l]) Q E s := by
  obtain ⟨pairs, e⟩ := hi.allInts.items
  have nums : numsOf (intItems pairs).toList = ns := by rw [← e]; exact hi.numsOf
  rw [nums_intItems] at nums
  rw [e] at hl
  refine call_sum_walkG (wpAny_pyIter_tuple hl ?_)
  refine ⟨_, [_, l], [_], _, _, _, numAt pairs, rfl, Walks.tuple (A := A.in1) hh _ l (Nat.ne_of_lt (tup_fp (ob := default) hl).1) (intItems pairs), ⟨⟨_, Heap.get?_push_size _ rfl, rfl, rfl⟩, hl.push _⟩, (tup_fp hl).2, fun _ _ => intItems_at, fun h' tk t' hk => ?_⟩
  have q := told h' tk t' (tup_old hk)
  have ez : (intItems pairs).size = pairs.size := by simp [intItems]
  rw [ez, preSum_eq, List.take_of_length_le (by simp), nums]
  exact q
theorem min_tupR (hh : A.handled = none) (hl : s.heap.IsTuple l its.toArray) (hi : IntsAre its ns) (hne : 0 < ns.length)
    (told : ∀ h' tk M t', (∀ b o, s.heap.get? b = some o → h'.get? b = some o) → M ∈ ns → (∀ a, a ∈ ns → M ≤ a) → Q (.int M t') { s with heap := h', toks := tk }) : wpAny (model prog w) A (call (.builtin "min") [.ref l]) Q E s := by
  obtain ⟨pairs, e⟩ := hi.allInts.items
  have nums : numsOf (intItems pairs).toList = ns := by rw [← e]; exact hi.numsOf
  rw [nums_intItems] at nums
  subst nums
  rw [e] at hl
  have some1 : 0 < pairs.size := by simpa using hne
  refine call_min_walk (wpAny_pyIter_tuple hl ?_)
  refine ⟨_, [_, l], [_], _, _, _, _, rfl, Walks.tuple (A := A.in1) hh _ l (Nat.ne_of_lt (tup_fp (ob := default) hl).1) (intItems pairs), ⟨⟨_, Heap.get?_push_size _ rfl, rfl, rfl⟩, hl.push _⟩, (tup_fp hl).2, by simpa [intItems] using some1, CmpOf.ints_lt (numAt pairs) (fun _ _ => intItems_at), fun v h' tk hP hk => ?_⟩
  have ez : (intItems pairs).size = pairs.size := by simp [intItems]
  rw [ez] at hP
  obtain ⟨t, rfl⟩ := intItems_at hP
  obtain ⟨_, least⟩ := argBest_lt (numAt pairs) (pairs.size - 1)
  refine told h' tk _ t (tup_old hk) ?_ fun a ha => ?_
  · rw [numAt_eq]
    exact PySem.getD_mem (by rw [List.length_map, Array.length_toList]; omega)
  · obtain ⟨i, hi', rfl⟩ := mem_getD ha
    have lt : i < pairs.toList.length := by simpa using hi'
    rw [Array.length_toList] at lt
    exact numAt_eq .. ▸ least i (by omega)
theorem max_tupR (hh : A.handled = none) (hl : s.heap.IsTuple l its.toArray) (hi : IntsAre its ns) (hne : 0 < ns.length)
    (told : ∀ h' tk M t', (∀ b o, s.heap.get? b = some o → h'.get? b = some o) → M ∈ ns → (∀ a, a ∈ ns → a ≤ M) → Q (.int M t') { s with heap := h', toks := tk }) : wpAny (model prog w) A (call (.builtin "max") [.ref l]) Q E s := by
  obtain ⟨pairs, e⟩ := hi.allInts.items
  have nums : numsOf (intItems pairs).toList = ns := by rw [← e]; exact hi.numsOf
  rw [nums_intItems] at nums
  subst nums
  rw [e] at hl
  have some1 : 0 < pairs.size := by simpa using hne
  refine call_max_walk (wpAny_pyIter_tuple hl ?_)
  refine ⟨_, [_, l], [_], _, _, _, _, rfl, Walks.tuple (A := A.in1) hh _ l (Nat.ne_of_lt (tup_fp (ob := default) hl).1) (intItems pairs), ⟨⟨_, Heap.get?_push_size _ rfl, rfl, rfl⟩, hl.push _⟩, (tup_fp hl).2, by simpa [intItems] using some1, CmpOf.ints_gt (numAt pairs) (fun _ _ => intItems_at), fun v h' tk hP hk => ?_⟩
  have ez : (intItems pairs).size = pairs.size := by simp [intItems]
  rw [ez] at hP
  obtain ⟨t, rfl⟩ := intItems_at hP
  obtain ⟨_, most⟩ := argBest_gt (numAt pairs) (pairs.size - 1)
  refine told h' tk _ t (tup_old hk) ?_ fun a ha => ?_
  · rw [numAt_eq]
    exact PySem.getD_mem (by rw [List.length_map, Array.length_toList]; omega)
  · obtain ⟨i, hi', rfl⟩ := mem_getD ha
    have lt : i < pairs.toList.length := by simpa using hi'
    rw [Array.length_toList] at lt
    exact numAt_eq .. ▸ most i (by omega)
end
section
variable {X : Cx}
def rSumT (K : PySem.W.Frag) : List V → Hp → VK → Prop := fun vs H Q => ∃ (a : Addr) (ns : List Int), vs = [V.ref a] ∧ SqT K H a (ns.map V.int) ∧ Q (.int ns.sum) H
def rMaxT (K : PySem.W.Frag) : List V → Hp → VK → Prop := fun vs H Q => ∃ (a : Addr) (ns : List Int), vs = [V.ref a] ∧ SqT K H a (ns.map V.int) ∧ 0 < ns.length ∧ ∀ m, m ∈ ns → (∀ y, y ∈ ns → y ≤ m) → Q (.int m) H
def rMinT (K : PySem.W.Frag) : List V → Hp → VK → Prop := fun vs H Q => ∃ (a : Addr) (ns : List Int), vs = [V.ref a] ∧ SqT K H a (ns.map V.int) ∧ 0 < ns.length ∧ ∀ m, m ∈ ns → (∀ y, y ∈ ns → m ≤ y) → Q (.int m) H
theorem call_sumT (hc : X.calm = true) : CallR X (.builtin "sum") (rSumT X.K) := by
  intro pins s σ H vs us Q I rel h
  obtain ⟨t, ns, rfl, at_t, q⟩ := h
  obtain ⟨its, rv, hl, _⟩ := I.tuple at_t
  rw [Vals.ref1 rel]
  exact sum_tupR (I.ok.hd hc) hl rv.ints fun h' tk t' hk => ⟨.int _, H, I.kept hk, ⟨_, rfl⟩, q⟩
theorem call_maxT (hc : X.calm = true) : CallR X (.builtin "max") (rMaxT X.K) := by
  intro pins s σ H vs us Q I rel h
  obtain ⟨t, ns, rfl, at_t, hne, q⟩ := h
  obtain ⟨its, rv, hl, _⟩ := I.tuple at_t
  rw [Vals.ref1 rel]
  exact max_tupR (I.ok.hd hc) hl rv.ints hne fun h' tk m t' hk h1 h2 => ⟨.int m, H, I.kept hk, ⟨_, rfl⟩, q m h1 h2⟩
theorem call_minT (hc : X.calm = true) : CallR X (.builtin "min") (rMinT X.K) := by
  intro pins s σ H vs us Q I rel h
  obtain ⟨t, ns, rfl, at_t, hne, q⟩ := h
  obtain ⟨its, rv, hl, _⟩ := I.tuple at_t
  rw [Vals.ref1 rel]
  exact min_tupR (I.ok.hd hc) hl rv.ints hne fun h' tk m t' hk h1 h2 => ⟨.int m, H, I.kept hk, ⟨_, rfl⟩, q m h1 h2⟩
end

/-! ### zip of a tuple and a list: one step of any two iterators -/
section
variable {w : World} {prog : Program} {s : Shared} {A : Around}
/-- nextOf i tells x and leaves T, from any state that keeps what s has but at the places off -/
def NextIs (prog : Program) (w : World) (s : Shared) (off : List Addr) (i : Addr) (x : Value) (T : Heap → Prop) : Prop :=
  ∀ (B : Around) (u : Shared) (Q : Value → Shared → Prop) (E : Value → Shared → Prop), (∀ c o, c ∉ off → s.heap.get? c = some o → u.heap.get? c = some o) →
    (∀ g, T g → Heap.SameBut i u.heap g → Q x { u with heap := g }) → wpAny (model prog w) B (Builtin.SmallTypes.nextOf (.ref i)) Q E u
/-- nextOf i stops -/
def NextEnds (prog : Program) (w : World) (s : Shared) (off : List Addr) (i : Addr) : Prop :=
  ∀ (B : Around) (u : Shared) (Q : Value → Shared → Prop) (E : Value → Shared → Prop), B.handled = none → (∀ c o, c ∉ off → s.heap.get? c = some o → u.heap.get? c = some o) →
    (∀ g e, Heap.ExtBut i u.heap g → (∃ o, g.get? e = some o ∧ o.cls = .type "StopIteration") → E (.ref e) { u with heap := g }) → wpAny (model prog w) B (Builtin.SmallTypes.nextOf (.ref i)) Q E u
/-- the five places of a zip are five -/
structure Five (z TI TO i j : Addr) : Prop where
  a : TI ≠ z
  b : TO ≠ z
  c : i ≠ z
  d : j ≠ z
  e : TO ≠ i
  f : TO ≠ j
  g : i ≠ j

theorem zip_step {E : Value → Shared → Prop} {z TI TO i j : Addr} {x y a b : Value} {T1 T2 : Heap → Prop} {Q : Option Value → Shared → Prop} (F : Five z TI TO i j)
    (hz : IsZip s.heap z TI TO .none) (hTI : IsPair s.heap TI (.ref i) (.ref j)) (hTO : IsPair s.heap TO a b)
    (lt : i < s.heap.objs.size ∧ j < s.heap.objs.size)
    (n1 : NextIs prog w s [z] i x T1) (n2 : NextIs prog w s [z, i, TO] j y T2)
    (k1 : ∀ g g' : Heap, T1 g → (∀ o, g.get? i = some o → g'.get? i = some o) → T1 g') (k2 : ∀ g g' : Heap, T2 g → (∀ o, g.get? j = some o → g'.get? j = some o) → T2 g')
    (hQ : ∀ g, IsZip g z TI TO (rawInt s.heap.objs.size) → IsPair g TO x y → T1 g → T2 g → IsPair g s.heap.objs.size x y → g.objs.size = s.heap.objs.size + 1 →
      (∀ c o, c ∉ [z, TO, i, j] → s.heap.get? c = some o → g.get? c = some o) → Q (some (.ref s.heap.objs.size)) { s with heap := g }) :
    wpAny (model prog w) A (pyNext (Value.ref z)) Q E s := by
  have isZ : s.TypeIs (.ref z) "zip" := ⟨_, hz, rfl⟩
  unfold pyNext
  refine wpAny_bind (wpAny_attempt (wpAny_callSpecial?_slot (name := Str.ofString "__next__") isZ PySem.F.slot_zip_next (wpAny_call_entry PySem.F.slot_zip_next isZ PySem.F.entry_zip_next ?_ (PySem.F.args_zip_next_1 _))))
  show wpAny _ _ (field (Value.ref z) 2 >>= _) _ _ _
  apply wpAny_bind
  refine wpAny_field hz rfl (x := .bool false) rfl ?_
  show wpAny _ _ (field (Value.ref z) 3 >>= _) _ _ _
  apply wpAny_bind
  refine wpAny_field hz rfl (x := .ref TI) rfl ?_
  apply wpAny_bind
  refine wpAny_seqItems hTI rfl ?_
  show wpAny _ _ (Builtin.SmallTypes.ownedTupleIsFree (Value.ref z) >>= _) _ _ _
  apply wpAny_bind; unfold Builtin.SmallTypes.ownedTupleIsFree; apply wpAny_bind
  refine wpAny_field hz rfl (x := .none) rfl (wpAny_pure ?_)
  simp only [if_true]
  apply wpAny_bind
  refine wpAny_rule ?_
  apply wpAny_bind
  refine wpAny_field hz rfl (x := .ref TO) rfl ?_
  apply wpAny_bind
  refine wpAny_setField_rec hz (by simp) fun g1 z1 s1 => ?_
  replace z1 : IsZip g1 z TI TO .ellipsis := z1
  apply wpAny_bind
  simp only [List.forIn_cons, List.forIn_nil, List.zipIdx_cons, List.zipIdx_nil]
  iterate 2 apply wpAny_bind
  apply wpAny_onRaise
  show wpAny _ _ (Builtin.SmallTypes.nextOf (.ref i) >>= _) _ _ _
  apply wpAny_bind
  refine n1 _ _ _ _ (fun c o n e => s1.extBut _ _ (by simpa using n) e) fun g2 t2 s2 => wpAny_pure ?_
  have o2 : IsPair g2 TO a b := s2.extBut _ _ F.e (s1.extBut _ _ F.b hTO)
  apply wpAny_bind
  refine wpAny_seqItems o2 rfl ?_
  apply wpAny_bind
  refine wpAny_updateSeq_pair o2 fun g3 o3 s3 => ?_
  replace o3 : IsPair g3 TO x b := o3
  apply wpAny_bind
  refine wpAny_letGo (wpAny_pure ?_)
  iterate 2 apply wpAny_bind
  apply wpAny_onRaise
  show wpAny _ _ (Builtin.SmallTypes.nextOf (.ref j) >>= _) _ _ _
  apply wpAny_bind
  refine n2 _ _ _ _ (fun c o n e => ?_) fun g4 t4 s4 => wpAny_pure ?_
  · have n' : c ≠ z ∧ c ≠ i ∧ c ≠ TO := by simpa using n
    exact s3.extBut _ _ n'.2.2 (s2.extBut _ _ n'.2.1 (s1.extBut _ _ n'.1 e))
  have o4 : IsPair g4 TO x b := s4.extBut _ _ F.f o3
  apply wpAny_bind
  refine wpAny_seqItems o4 rfl ?_
  apply wpAny_bind
  refine wpAny_updateSeq_pair o4 fun g5 o5 s5 => ?_
  replace o5 : IsPair g5 TO x y := o5
  apply wpAny_bind
  refine wpAny_letGo (wpAny_pure (wpAny_pure ?_))
  apply wpAny_bind
  refine wpAny_seqItems o5 rfl ?_
  apply wpAny_bind
  refine wpAny_newTuple ?_
  have size5 : g5.objs.size = s.heap.objs.size := by rw [s5.1, s4.1, s3.1, s2.1, s1.1]
  have z5 : IsZip g5 z TI TO .ellipsis := s5.extBut _ _ F.b.symm (s4.extBut _ _ F.d.symm (s3.extBut _ _ F.b.symm (s2.extBut _ _ F.c.symm z1)))
  have kept5 : ∀ c o, c ∉ [z, TO, i, j] → s.heap.get? c = some o → g5.get? c = some o := fun c o n e => by
    have n' : c ≠ z ∧ c ≠ TO ∧ c ≠ i ∧ c ≠ j := by simpa using n
    exact s5.extBut _ _ n'.2.1 (s4.extBut _ _ n'.2.2.2 (s3.extBut _ _ n'.2.1 (s2.extBut _ _ n'.2.2.1 (s1.extBut _ _ n'.1 e))))
  have u1 : T1 g5 := k1 _ _ t2 fun o e => s5.extBut _ _ F.e.symm (s4.extBut _ _ F.g (s3.extBut _ _ F.e.symm e))
  have u2 : T2 g5 := k2 _ _ t4 fun o e => s5.extBut _ _ F.f.symm e
  have zl : z < g5.objs.size := Heap.lt_size z5
  show wpAny _ _ (Builtin.SmallTypes.ownedTupleHandOut (.ref z) (.ref g5.objs.size) >>= _) _ _ _
  apply wpAny_bind; unfold Builtin.SmallTypes.ownedTupleHandOut
  have z6 : IsZip (g5.push { cls := .type "tuple", data := .seq #[x, y] }) z TI TO .ellipsis := Heap.get?_push_of_some _ z5
  apply wpAny_bind
  refine wpAny_setField_rec z6 (by simp) fun g7 z7 s7 => ?_
  replace z7 : IsZip g7 z TI TO (rawInt g5.objs.size) := z7
  refine wpAny_setField_rec z7 (by simp) fun g8 z8 s8 => ?_
  replace z8 : IsZip g8 z TI TO (rawInt g5.objs.size) := z8
  have up : ∀ c o, c ≠ z → g5.get? c = some o → g8.get? c = some o := fun c o n e => s8.extBut _ _ n (s7.extBut _ _ n (Heap.get?_push_of_some _ e))
  have pair8 : IsPair g8 g5.objs.size x y := s8.extBut _ _ (Nat.ne_of_gt zl) (s7.extBut _ _ (Nat.ne_of_gt zl) (Heap.get?_push_size _ rfl))
  have size8 : g8.objs.size = g5.objs.size + 1 := by rw [s8.1, s7.1, Heap.size_push]
  rw [size5] at z8 pair8 size8
  refine wpAny_pure ⟨_, rfl, wpAny_pure ?_⟩
  show Q (some (.ref g5.objs.size)) _
  rw [size5]
  exact hQ g8 z8 (up _ _ F.b o5) (k1 _ _ u1 fun o e => up _ o F.c e) (k2 _ _ u2 fun o e => up _ o F.d e) pair8 size8 fun c o n e => up c o (by simp at n; exact n.1) (kept5 c o n e)

theorem zip_stop0 {E : Value → Shared → Prop} {z TI TO i j : Addr} {a b : Value} {Q : Fin → Shared → Prop} (hh : A.handled = none) (F : Five z TI TO i j)
    (hz : IsZip s.heap z TI TO .none) (hTI : IsPair s.heap TI (.ref i) (.ref j)) (hTO : IsPair s.heap TO a b)
    (n : NextEnds prog w s [z] i ∨ (∃ (x : Value) (T : Heap → Prop), NextIs prog w s [z] i x T) ∧ NextEnds prog w s [z, i, TO] j)
    (fin : ∀ (g : Heap) (e : Addr), (∃ o, g.get? e = some o ∧ o.cls = .type "StopIteration") → (∀ c o, c ∉ [z, TO, i, j] → s.heap.get? c = some o → g.get? c = some o) → E (.ref e) { s with heap := g }) :
    wpAny (model prog w) A (Builtin.«zip.__next__» ⟨[Value.ref z], []⟩) Q E s := by
  show wpAny _ _ (field (Value.ref z) 2 >>= _) _ _ _
  apply wpAny_bind
  refine wpAny_field hz rfl (x := .bool false) rfl ?_
  show wpAny _ _ (field (Value.ref z) 3 >>= _) _ _ _
  apply wpAny_bind
  refine wpAny_field hz rfl (x := .ref TI) rfl ?_
  apply wpAny_bind
  refine wpAny_seqItems hTI rfl ?_
  show wpAny _ _ (Builtin.SmallTypes.ownedTupleIsFree (Value.ref z) >>= _) _ _ _
  apply wpAny_bind; unfold Builtin.SmallTypes.ownedTupleIsFree; apply wpAny_bind
  refine wpAny_field hz rfl (x := .none) rfl (wpAny_pure ?_)
  simp only [if_true]
  apply wpAny_bind
  refine wpAny_rule ?_
  apply wpAny_bind
  refine wpAny_field hz rfl (x := .ref TO) rfl ?_
  apply wpAny_bind
  refine wpAny_setField_rec hz (by simp) fun g1 z1 s1 => ?_
  replace z1 : IsZip g1 z TI TO .ellipsis := z1
  apply wpAny_bind
  simp only [List.forIn_cons, List.forIn_nil, List.zipIdx_cons, List.zipIdx_nil]
  iterate 2 apply wpAny_bind
  apply wpAny_onRaise
  show wpAny _ _ (Builtin.SmallTypes.nextOf (.ref i) >>= _) _ _ _
  rcases n with n | ⟨⟨x, T, n⟩, n'⟩
  · apply wpAny_bind
    refine n _ _ _ _ hh (fun c o m e => s1.extBut _ _ (by simpa using m) e) fun g2 e s2 he => ?_
    obtain ⟨oe, hoe, hce⟩ := he
    have z2 : IsZip g2 z TI TO .ellipsis := s2 _ _ F.c.symm z1
    have nez : e ≠ z := fun q => by subst q; rw [z2] at hoe; cases hoe; simp at hce
    refine wpAny_setField_rec z2 (by simp) fun g3 _ s3 => ?_
    refine fin g3 e ⟨oe, s3.extBut _ _ nez hoe, hce⟩ fun c o m q => ?_
    have m' : c ≠ z ∧ c ≠ TO ∧ c ≠ i ∧ c ≠ j := by simpa using m
    exact s3.extBut _ _ m'.1 (s2 _ _ m'.2.2.1 (s1.extBut _ _ m'.1 q))
  · apply wpAny_bind
    refine n _ _ _ _ (fun c o m e => s1.extBut _ _ (by simpa using m) e) fun g2 t2 s2 => wpAny_pure ?_
    have o2 : IsPair g2 TO a b := s2.extBut _ _ F.e (s1.extBut _ _ F.b hTO)
    apply wpAny_bind
    refine wpAny_seqItems o2 rfl ?_
    apply wpAny_bind
    refine wpAny_updateSeq_pair o2 fun g3 o3 s3 => ?_
    apply wpAny_bind
    refine wpAny_letGo (wpAny_pure ?_)
    iterate 2 apply wpAny_bind
    apply wpAny_onRaise
    show wpAny _ _ (Builtin.SmallTypes.nextOf (.ref j) >>= _) _ _ _
    apply wpAny_bind
    refine n' _ _ _ _ hh (fun c o m e => ?_) fun g4 e s4 he => ?_
    · have m' : c ≠ z ∧ c ≠ i ∧ c ≠ TO := by simpa using m
      exact s3.extBut _ _ m'.2.2 (s2.extBut _ _ m'.2.1 (s1.extBut _ _ m'.1 e))
    obtain ⟨oe, hoe, hce⟩ := he
    have z4 : IsZip g4 z TI TO .ellipsis := s4 _ _ F.d.symm (s3.extBut _ _ F.b.symm (s2.extBut _ _ F.c.symm z1))
    have nez : e ≠ z := fun q => by subst q; rw [z4] at hoe; cases hoe; simp at hce
    refine wpAny_setField_rec z4 (by simp) fun g5 _ s5 => ?_
    refine fin g5 e ⟨oe, s5.extBut _ _ nez hoe, hce⟩ fun c o m q => ?_
    have m' : c ≠ z ∧ c ≠ TO ∧ c ≠ i ∧ c ≠ j := by simpa using m
    exact s5.extBut _ _ m'.1 (s4 _ _ m'.2.2.2 (s3.extBut _ _ m'.2.1 (s2.extBut _ _ m'.2.2.1 (s1.extBut _ _ m'.1 q))))
theorem zip_stop {E : Value → Shared → Prop} {z TI TO i j : Addr} {a b : Value} {Q : Option Value → Shared → Prop} (hh : A.handled = none) (F : Five z TI TO i j)
    (hz : IsZip s.heap z TI TO .none) (hTI : IsPair s.heap TI (.ref i) (.ref j)) (hTO : IsPair s.heap TO a b)
    (n : NextEnds prog w s [z] i ∨ (∃ (x : Value) (T : Heap → Prop), NextIs prog w s [z] i x T) ∧ NextEnds prog w s [z, i, TO] j)
    (hQ : ∀ g, (∀ c o, c ∉ [z, TO, i, j] → s.heap.get? c = some o → g.get? c = some o) → Q none { s with heap := g }) :
    wpAny (model prog w) A (pyNext (Value.ref z)) Q E s := by
  have isZ : s.TypeIs (.ref z) "zip" := ⟨_, hz, rfl⟩
  unfold pyNext
  refine wpAny_bind (wpAny_attempt (wpAny_callSpecial?_slot (name := Str.ofString "__next__") isZ PySem.F.slot_zip_next (wpAny_call_entry PySem.F.slot_zip_next isZ PySem.F.entry_zip_next ?_ (PySem.F.args_zip_next_1 _))))
  refine zip_stop0 (A := A.in1) hh F hz hTI hTO n fun g e he hk => ?_
  obtain ⟨o, ho, hc⟩ := he
  apply wpAny_bind
  exact wpAny_isInstance (T := "StopIteration") (b := true) ⟨o, ho, hc⟩ isSubtype_stop (wpAny_pure (hQ _ hk))

/-! a tuple's and a list's -/
theorem next_tup {i l : Addr} {k : Nat} {xs : Array Value} {x : Value} {off : List Addr} (hi : s.heap.IsTupleIter i l k) (hl : s.heap.IsTuple l xs) (hx : xs[k]? = some x) (ni : i ∉ off) (nl : l ∉ off) :
    NextIs prog w s off i x (fun g => g.IsTupleIter i l (k + 1)) := fun B u Q E hk h =>
  RZ.nextOf_tuple_item (hi.at fun o e => hk _ o ni e) (hl.at fun o e => hk _ o nl e) hx h
theorem next_lst {i l : Addr} {k : Nat} {xs : Array Value} {x : Value} {off : List Addr} (hi : s.heap.IsListIter i l k) (hl : s.heap.IsList l xs) (hx : xs[k]? = some x) (ni : i ∉ off) (nl : l ∉ off) :
    NextIs prog w s off i x (fun g => g.IsListIter i l (k + 1)) := fun B u Q E hk h =>
  wpAny_nextOf_list_item (hi.at fun o e => hk _ o ni e) (hl.at fun o e => hk _ o nl e) hx h
theorem ends_tup {i l : Addr} {k : Nat} {xs : Array Value} {off : List Addr} (hi : s.heap.IsTupleIter i l k) (hl : s.heap.IsTuple l xs) (hx : xs[k]? = none) (ni : i ∉ off) (nl : l ∉ off) :
    NextEnds prog w s off i := fun B u Q E hh hk h =>
  RZ.nextOf_tuple_end hh (hi.at fun o e => hk _ o ni e) (hl.at fun o e => hk _ o nl e) hx h
theorem ends_lst {i l : Addr} {k : Nat} {xs : Array Value} {off : List Addr} (hi : s.heap.IsListIter i l k) (hl : s.heap.IsList l xs) (hx : xs[k]? = none) (ni : i ∉ off) (nl : l ∉ off) :
    NextEnds prog w s off i := fun B u Q E hh hk h =>
  wpAny_nextOf_list_end hh (hi.at fun o e => hk _ o ni e) (hl.at fun o e => hk _ o nl e) hx h
end

/-! zip(t, xs), t a tuple, xs a list -/
abbrev zTL1 (h : Heap) (a : Addr) : Heap := h.push { cls := .type "tuple_iterator", data := .fields #[.ref a, .int 0 0] }
abbrev zTL2 (h : Heap) (a b : Addr) : Heap := (zTL1 h a).push { cls := .type "list_iterator", data := .fields #[.ref b, .int 0 0] }
abbrev zTL3 (h : Heap) (a b : Addr) : Heap := (zTL2 h a b).push { cls := .type "tuple", data := .seq #[.ref h.objs.size, .ref (zTL1 h a).objs.size] }
abbrev zTL4 (h : Heap) (a b : Addr) : Heap := (zTL3 h a b).push { cls := .type "tuple", data := .seq #[.none, .none] }
abbrev zTL5 (h : Heap) (a b : Addr) : Heap := (zTL4 h a b).push { cls := .type "zip", data := .fields #[.none, .bool false, .bool false, .ref (zTL2 h a b).objs.size, .ref (zTL3 h a b).objs.size] }
theorem zTL_new (a b : Addr) (xs ys : Array Value) :
    Meets (Builtin.«zip.__new__» ⟨[.type "zip", .ref a, .ref b], []⟩) (fun _ R s => s.heap.IsTuple a xs ∧ s.heap.IsList b ys ∧ R (.ok (.ret (.ref (zTL4 s.heap a b).objs.size))) { s with heap := zTL5 s.heap a b }) :=
  .of_wp fun prog w A R st h => by
    obtain ⟨hp, g, d, tk, os⟩ := st
    obtain ⟨ha, hb, h⟩ := h
    have sub := sub_zip
    have iA : Heap.IsTuple (Shared.heap ⟨hp, g, d, tk, os⟩) a xs := ha
    have iB : Heap.IsList (Shared.heap ⟨hp.push { cls := .type "tuple_iterator", data := .fields #[.ref a, .int 0 0] }, g, d, tk, os⟩) b ys := Heap.IsList.push hb _
    wp_walk using wpAny_pyIter_tuple iA, wpAny_pyIter_list iB
    exact ⟨_, rfl, h⟩
section
variable {prog : Program} {w : World} {A : Around} {E : Value → Shared → Prop} {s : Shared}
theorem call_zTL {a b : Addr} {xs ys : Array Value} {Q : Value → Shared → Prop} (ha : s.heap.IsTuple a xs) (hb : s.heap.IsList b ys)
    (h : ∀ (n : Nat) (g : Heap), n = s.heap.objs.size → IsZip g (n + 4) (n + 2) (n + 3) .none → IsPair g (n + 2) (.ref n) (.ref (n + 1)) → IsPair g (n + 3) .none .none → g.IsTupleIter n a 0 → g.IsListIter (n + 1) b 0 →
      (∀ c o, s.heap.get? c = some o → g.get? c = some o) → Q (.ref (n + 4)) { s with heap := g }) :
    wpAny (model prog w) A (call (.type "zip") [.ref a, .ref b]) Q E s := by
  refine callType_new PySem.F.called_zip (by decide) (PySem.F.typeCall_zip_2 _ _) (PySem.F.newCall_zip_2 _ _) (fun o => PySem.F.args_object_init_3 o _ _) PySem.F.entry_zip_new (zTL_new a b xs ys) ⟨ha, hb, ?_⟩
  have e1 : (zTL1 s.heap a).objs.size = s.heap.objs.size + 1 := Heap.size_push ..
  have e2 : (zTL2 s.heap a b).objs.size = s.heap.objs.size + 2 := by rw [Heap.size_push, e1]
  have e3 : (zTL3 s.heap a b).objs.size = s.heap.objs.size + 3 := by rw [Heap.size_push, e2]
  have e4 : (zTL4 s.heap a b).objs.size = s.heap.objs.size + 4 := by rw [Heap.size_push, e3]
  have g5 : (zTL5 s.heap a b).get? (zTL4 s.heap a b).objs.size = some _ := Heap.get?_push_size _ rfl
  have g4 : (zTL5 s.heap a b).get? (zTL3 s.heap a b).objs.size = some _ := Heap.get?_push_of_some _ (Heap.get?_push_size _ rfl)
  have g3 : (zTL5 s.heap a b).get? (zTL2 s.heap a b).objs.size = some _ := Heap.get?_push_of_some _ (Heap.get?_push_of_some _ (Heap.get?_push_size _ rfl))
  have g2 : (zTL5 s.heap a b).get? (zTL1 s.heap a).objs.size = some _ := Heap.get?_push_of_some _ (Heap.get?_push_of_some _ (Heap.get?_push_of_some _ (Heap.get?_push_size _ rfl)))
  have g1 : (zTL5 s.heap a b).get? s.heap.objs.size = some _ := Heap.get?_push_of_some _ (Heap.get?_push_of_some _ (Heap.get?_push_of_some _ (Heap.get?_push_of_some _ (Heap.get?_push_size _ rfl))))
  show _ ∧ _
  rw [e2, e3, e4] at g5
  rw [e1, e2] at g3
  rw [e3] at g4
  rw [e1] at g2
  rw [e4]
  refine ⟨⟨_, g5, rfl⟩, h _ _ rfl g5 g3 g4 ⟨_, g1, rfl, rfl⟩ ⟨_, g2, rfl, rfl⟩ fun c o x => ?_⟩
  iterate 5 apply Heap.get?_push_of_some
  exact x
end

/-- what a turn over zip(t, xs) is -/
def ItTL (K : PySem.W.Frag) (a b : Addr) : It :=
  ⟨fun i H => ∃ (xs ys : List V) (x y : V), SqT K H a xs ∧ SqL K H b ys ∧ xs[i]? = some x ∧ ys[i]? = some y,
    fun i H v H' => ∃ T x y, v = .ref T ∧ H T = none ∧ H' = upd H T (.tup [x, y]) ∧ (∀ xs, SqT K H a xs → xs[i]? = some x) ∧ ∀ ys, SqL K H b ys → ys[i]? = some y,
    fun i H => ∃ xs ys : List V, SqT K H a xs ∧ SqL K H b ys ∧ (xs.length ≤ i ∨ ys.length ≤ i)⟩
theorem turn_TL {P : Program} {w : World} {K : PySem.W.Frag} {elts : List Expr} {kk : Nat} {tpos : Pos} {a b z TI TO i1 i2 : Addr} (V5 : Five z TI TO i1 i2) (nI : TI ≠ TO ∧ TI ≠ i1 ∧ TI ≠ i2) (na : a ∉ [z, TO, i1, i2]) (nb : b ∉ [z, TO, i1, i2]) :
    Turn P w K (.Tuple elts kk tpos) (ItTL K a b) [z, TI, TO, i1, i2] z (fun i h => IsZip h z TI TO .none ∧ IsPair h TI (.ref i1) (.ref i2) ∧ (∃ x y, IsPair h TO x y) ∧ h.IsTupleIter i1 a i ∧ h.IsListIter i2 b i) where
  mem := by simp
  obj := fun i h st c hc => by
    obtain ⟨isz, pI, ⟨x, y, pO⟩, ⟨o1, e1, _, d1⟩, ⟨o2, e2, _, d2⟩⟩ := st
    have five : c = z ∨ c = TI ∨ c = TO ∨ c = i1 ∨ c = i2 := by simpa using hc
    rcases five with rfl | rfl | rfl | rfl | rfl
    · exact ⟨_, isz, fun v q => nomatch q⟩
    · exact ⟨_, pI, fun v q => nomatch q⟩
    · exact ⟨_, pO, fun v q => nomatch q⟩
    · exact ⟨o1, e1, fun v q => by rw [d1] at q; cases q⟩
    · exact ⟨o2, e2, fun v q => by rw [d2] at q; cases q⟩
  keep := fun i h h' st k => by
    obtain ⟨isz, pI, ⟨x, y, pO⟩, h1, h2⟩ := st
    exact ⟨k _ (by simp) _ isz, k _ (by simp) _ pI, ⟨x, y, k _ (by simp) _ pO⟩, h1.at fun o q => k _ (by simp) o q, h2.at fun o q => k _ (by simp) o q⟩
  item := by
    intro X eP eW eK hc i pins s σ H E I hf st hg
    subst eP eW eK
    obtain ⟨isz, pI, ⟨x0, y0, pO⟩, h1, h2⟩ := st
    obtain ⟨xs, ys, x, y, qx, qy, hx, hy⟩ := hg
    obtain ⟨its, rv, p1, _⟩ := I.tuple qx
    obtain ⟨jts, rw_, p2, _⟩ := I.list qy
    obtain ⟨u, at_u, ru⟩ := rv.get hx
    obtain ⟨v, hv, rv2⟩ := rw_.get hy
    have zl : z < s.heap.objs.size := Heap.lt_size isz
    have l1 : i1 < s.heap.objs.size := by obtain ⟨_, e, _⟩ := h1; exact Heap.lt_size e
    have l2 : i2 < s.heap.objs.size := by obtain ⟨_, e, _⟩ := h2; exact Heap.lt_size e
    have na' : a ≠ z ∧ a ≠ TO ∧ a ≠ i1 ∧ a ≠ i2 := by simpa using na
    have nb' : b ≠ z ∧ b ≠ TO ∧ b ≠ i1 ∧ b ≠ i2 := by simpa using nb
    refine zip_step (T1 := fun g => g.IsTupleIter i1 a (i + 1)) (T2 := fun g => g.IsListIter i2 b (i + 1)) V5 isz pI pO ⟨l1, l2⟩ (next_tup h1 p1 (x := u) (by simpa using at_u) (by simpa using V5.c) (by simpa using na'.1))
      (next_lst h2 p2.isList (x := v) (by simpa using hv) (by simpa using ⟨V5.d, V5.g.symm, V5.f.symm⟩) (by simpa using ⟨nb'.1, nb'.2.2.1, nb'.2.1⟩)) (fun g g' t k => t.at k) (fun g g' t k => t.at k) fun g z' TO' t1 t2 hT hsz hk => ?_
    refine ⟨_, rfl, wpAny_letOwnedTupleGo_zip (s := { s with heap := g }) z' fun g2 z2 sb => ?_⟩
    have hT2 : g2.get? s.heap.objs.size = some { cls := .type "tuple", data := .seq #[u, v] } := (sb.2 _ (Nat.ne_of_gt zl)).trans hT
    have new : ObjOk X.prog X.w (upd H s.heap.objs.size (.tup [x, y])) g2 s.heap.objs.size (.tup [x, y]) := ⟨by show 2 ≤ sizeLine; decide, [u, v], .cons ru (.cons rv2 .nil), ⟨_, hT2, rfl, _, rfl⟩⟩
    have I1 : Inv X pins σ (upd H s.heap.objs.size (.tup [x, y])) { s with heap := g2 } := by
      refine I.turnedNew (t' := s.toks) (ch := [z, TI, TO, i1, i2]) (fun c o hb q => ?_) hf (Nat.le_refl _) new
      have n5 : c ≠ z ∧ c ≠ TI ∧ c ≠ TO ∧ c ≠ i1 ∧ c ≠ i2 := by simpa using hb
      exact (sb.2 c n5.1).trans (hk c o (by simpa using ⟨n5.1, n5.2.2.1, n5.2.2.2.1, n5.2.2.2.2⟩) q)
    have up : ∀ c o, c ≠ z → g.get? c = some o → g2.get? c = some o := fun c o n q => (sb.2 c n).trans q
    refine ⟨.ref s.heap.objs.size, _, I1, rfl, ⟨_, x, y, rfl, I.hok.fresh (Nat.le_refl _), rfl, fun l hl => by rw [I.tuple_inj hl qx]; exact hx, fun l hl => by rw [I.list_inj hl qy]; exact hy⟩, ⟨z2, ?_, ⟨u, v, up _ _ V5.b TO'⟩, t1.at fun o q => up _ o V5.c q, t2.at fun o q => up _ o V5.d q⟩, fun c hcm => ?_⟩
    · exact up _ _ V5.a (hk _ _ (by simpa using ⟨V5.a, nI.1, nI.2.1, nI.2.2⟩) pI)
    · have five : c = z ∨ c = TI ∨ c = TO ∨ c = i1 ∨ c = i2 := by simpa using hcm
      have lt : c < s.heap.objs.size := by
        rcases five with rfl | rfl | rfl | rfl | rfl
        · exact zl
        · exact Heap.lt_size pI
        · exact Heap.lt_size pO
        · exact l1
        · exact l2
      rw [upd_ne (Nat.ne_of_lt lt)]
      exact (hf c hcm).1
  done := by
    intro X eP eW eK hc i pins s σ H E I hf st hg
    subst eP eW eK
    obtain ⟨isz, pI, ⟨x0, y0, pO⟩, h1, h2⟩ := st
    obtain ⟨xs, ys, qx, qy, hend⟩ := hg
    obtain ⟨its, rv, p1, _⟩ := I.tuple qx
    obtain ⟨jts, rw_, p2, _⟩ := I.list qy
    have m1 := rv.length
    have m2 := rw_.length
    have na' : a ≠ z ∧ a ≠ TO ∧ a ≠ i1 ∧ a ≠ i2 := by simpa using na
    have nb' : b ≠ z ∧ b ≠ TO ∧ b ≠ i1 ∧ b ≠ i2 := by simpa using nb
    have n : NextEnds X.prog X.w s [z] i1 ∨ (∃ (x : Value) (T : Heap → Prop), NextIs X.prog X.w s [z] i1 x T) ∧ NextEnds X.prog X.w s [z, i1, TO] i2 := by
      by_cases c : xs.length ≤ i
      · exact .inl (ends_tup h1 p1 (by simp; omega) (by simpa using V5.c) (by simpa using na'.1))
      · have c2 : ys.length ≤ i := by omega
        exact .inr ⟨⟨its[i]'(by omega), _, next_tup h1 p1 (by simp) (by simpa using V5.c) (by simpa using na'.1)⟩, ends_lst h2 p2.isList (by simp; omega) (by simpa using ⟨V5.d, V5.g.symm, V5.f.symm⟩) (by simpa using ⟨nb'.1, nb'.2.2.1, nb'.2.1⟩)⟩
    refine zip_stop (I.ok.hd hc) V5 isz pI pO n fun g hk => ⟨rfl, I.turnedL (t' := s.toks) (ch := [z, TI, TO, i1, i2]) (fun c o hb q => ?_) hf⟩
    have n5 : c ≠ z ∧ c ≠ TI ∧ c ≠ TO ∧ c ≠ i1 ∧ c ≠ i2 := by simpa using hb
    exact hk c o (by simpa using ⟨n5.1, n5.2.2.1, n5.2.2.2.1, n5.2.2.2.2⟩) q
  self := fun _ _ _ _ _ st h => wpAny_pyIter_zip st.1 h

theorem five_at (n : Nat) : Five (n + 4) (n + 2) (n + 3) n (n + 1) := by
  constructor
  · show (n + 2 : Nat) ≠ n + 4; omega
  · show (n + 3 : Nat) ≠ n + 4; omega
  · show (n : Nat) ≠ n + 4; omega
  · show (n + 1 : Nat) ≠ n + 4; omega
  · show (n + 3 : Nat) ≠ n; omega
  · show (n + 3 : Nat) ≠ n + 1; omega
  · show (n : Nat) ≠ n + 1; omega
theorem six_at (n : Nat) : (n + 2 : Nat) ≠ n + 3 ∧ (n + 2 : Nat) ≠ n ∧ (n + 2 : Nat) ≠ n + 1 := by omega
theorem five_out {n a : Nat} (h : a < n) : a ∉ [n + 4, n + 3, n, n + 1] := by
  simp
  omega
def iTL (K : PySem.W.Frag) (ta : TA) : TI := fun σ H R => ta σ H fun vs H1 => ∃ a b xs ys, vs = [.ref a, .ref b] ∧ SqT K H1 a xs ∧ SqL K H1 b ys ∧ R (ItTL K a b) H1
theorem pi_zipTL {X : Cx} {e e2 : Expr} {ta : TA} {p pos tpos : Pos} {elts : List Expr} {kk : Nat} (hg : Gl X "zip") (hm : X.mg "zip" = none) (ha : PA X [e, e2] ta)
    (hs : starEach [e, e2] X.env = (false, eval e X.env) :: starEach [e2] X.env := by rfl) (hpl : (backTo pos (starEach [e2] X.env)).any (·.1) = false := by rfl) : PI X (.Tuple elts kk tpos) (.Call (.Name "zip" p) [e, e2] [] pos) (iTL X.K ta) := by
  refine ⟨fun pins s0 σ H R I h => ?_⟩
  refine Call_ (ld_blt I hg hm PyProof.Rows.boot_zip (PyProof.Rows.callWith_type1 (thn (ha.run pos pins s0 σ H _ I h) fun us u ⟨vs, H1, I1, r1, q1⟩ => ?_) hs hpl))
  obtain ⟨a, b, xs, ys, rfl, qx, qy, q⟩ := q1
  cases r1 with
  | cons r rr =>
    cases rr with
    | cons r' rr =>
      cases rr
      cases r
      cases r'
      obtain ⟨its, rv, p1, _⟩ := I1.tuple qx
      obtain ⟨jts, rw_, p2, _⟩ := I1.list qy
      have la : a < u.heap.objs.size := by obtain ⟨o, ho, _⟩ := id p1; exact Heap.lt_size ho
      have lb : b < u.heap.objs.size := p2.lt
      refine call_zTL (xs := its.toArray) p1 p2.isList fun n g hn hz hTI hTO h1 h2 hk => wpAny_pyIter_zip hz ?_
      have I2 : Inv X pins σ H1 { u with heap := g } := I1.kept (t' := u.toks) hk
      have fr : ∀ c, c ∈ [n + 4, n + 2, n + 3, n, n + 1] → FpOk X pins H1 c := fun c hcm => by
        have five : c = n + 4 ∨ c = n + 2 ∨ c = n + 3 ∨ c = n ∨ c = n + 1 := by simpa using hcm
        have le : u.heap.objs.size ≤ c := by rw [← hn]; omega
        exact I1.fpOk le (I1.hok.fresh le)
      refine ⟨n + 4, [n + 4, n + 2, n + 3, n, n + 1], _, _, H1, rfl, I2, turn_TL (z := n + 4) (TI := n + 2) (TO := n + 3) (i1 := n) (i2 := n + 1) (five_at n) (six_at n) (five_out (by rw [hn]; exact la)) (five_out (by rw [hn]; exact lb)), ⟨hz, hTI, ⟨_, _, hTO⟩, h1, h2⟩, fr, q⟩
/-- a loop over it, both of one length -/
theorem for_TL {K : PySem.W.Frag} {a b : Addr} {xs ys : List V} {g : TG} {tb : TS} {D : Ends} {σ : L2.St} {H : Hp} (hl : xs.length = ys.length) (Inv0 : Nat → L2.St → Hp → Prop) (h0 : Inv0 0 σ H) (hq : ∀ i σ H, Inv0 i σ H → SqT K H a xs ∧ SqL K H b ys)
    (hs : ∀ (i : Nat) (x y : V) (T : Addr) (σ : L2.St) (H : Hp), xs[i]? = some x → ys[i]? = some y → Inv0 i σ H → H T = none → g (.ref T) σ (upd H T (.tup [x, y])) fun σ2 H2 => tb { D with nx := Inv0 (i + 1), ct := Inv0 (i + 1), bk := D.nx } σ2 H2) (hd : ∀ σ H, Inv0 xs.length σ H → D.nx σ H) :
    ∃ Z : Nat → Nat → L2.St → Hp → Prop, (∃ m, Z 0 m σ H) ∧ ∀ i m σ H, Z i m σ H →
      ((ItTL K a b).stop i H ∧ D.nx σ H) ∨ ((ItTL K a b).go i H ∧ ∃ N : L2.St → Hp → Prop, (∀ σ' H', N σ' H' → ∃ m', m' < m ∧ Z (i + 1) m' σ' H') ∧ ∀ v H', (ItTL K a b).yld i H v H' → g v σ H' fun σ2 H2 => tb { D with nx := N, ct := N, bk := D.nx } σ2 H2) := by
  refine ⟨fun i m σ H => m = xs.length - i ∧ i ≤ xs.length ∧ Inv0 i σ H, ⟨xs.length, rfl, Nat.zero_le _, h0⟩, ?_⟩
  rintro i m σ H ⟨rfl, hi, p⟩
  obtain ⟨qx, qy⟩ := hq i σ H p
  by_cases lt : i < xs.length
  · have lt2 : i < ys.length := by omega
    refine .inr ⟨⟨xs, ys, _, _, qx, qy, List.getElem?_eq_getElem lt, List.getElem?_eq_getElem lt2⟩, Inv0 (i + 1), fun σ' H' p' => ⟨xs.length - (i + 1), by omega, rfl, lt, p'⟩, fun v H' y => ?_⟩
    obtain ⟨T, u1, u2, rfl, nT, rfl, f1, f2⟩ := y
    exact hs i u1 u2 T σ H (f1 xs qx) (f2 ys qy) p nT
  · obtain rfl : i = xs.length := by omega
    exact .inl ⟨⟨xs, ys, qx, qy, .inl (Nat.le_refl _)⟩, hd σ H p⟩
/-! ### slices and sums of tuples, whichever way they come -/
theorem slA {K : PySem.W.Frag} {H : Hp} {a : Addr} {xs : List V} {lo hi : Option Int} {Q : VK} (h : SqT K H a xs) (q : ∀ H' r, Same H H' → SqT K H' r (cutV xs lo hi) → Q (.ref r) H') : rSlA K (.ref a) lo hi H Q := by
  refine ⟨a, xs, rfl, h, fun hw => q H a (Same.refl H) ?_, fun _ p np => q _ p (same_upd np) (.inl (.inl upd_same))⟩
  unfold cutV
  rw [hw.1, hw.2, List.drop_zero, Nat.sub_zero, List.take_length]
  exact h
theorem catA {K : PySem.W.Frag} {H : Hp} {a b : Addr} {xs ys : List V} {Q : VK} (ha : SqT K H a xs) (hb : SqT K H b ys) (hl : xs.length + ys.length ≤ sizeLine) (q : ∀ H' r, Same H H' → SqT K H' r (xs ++ ys) → Q (.ref r) H') : rCatA K (.ref a) (.ref b) H Q := by
  refine ⟨a, b, xs, ys, rfl, rfl, ha, hb, hl, fun e => q H b (Same.refl H) ?_, fun _ e => q H a (Same.refl H) ?_, fun _ _ p np => q _ p (same_upd np) (.inl (.inl upd_same))⟩
  · rw [e, List.nil_append]
    exact hb
  · rw [e, List.append_nil]
    exact ha
theorem cut_last (xs : List V) (v : V) : cutV (xs ++ [v]) (some (-1)) none = [v] := by
  have e : HT.sIx (xs ++ [v]).length 0 (some (-1)) = xs.length := by
    show (if (-1 : Int) < 0 then (-1 + ((xs ++ [v]).length : Int)).toNat else min (-1 : Int).toNat (xs ++ [v]).length) = xs.length
    rw [if_pos (by decide), List.length_append, List.length_singleton]
    omega
  unfold cutV
  rw [e, HT.sIx_none, List.drop_left, List.length_append, List.length_singleton, Nat.add_sub_cancel_left]
  rfl
theorem cut_init (xs : List V) (v : V) : cutV (xs ++ [v]) none (some (-1)) = xs := by
  have e : HT.sIx (xs ++ [v]).length (xs ++ [v]).length (some (-1)) = xs.length := by
    show (if (-1 : Int) < 0 then (-1 + ((xs ++ [v]).length : Int)).toNat else min (-1 : Int).toNat (xs ++ [v]).length) = xs.length
    rw [if_pos (by decide), List.length_append, List.length_singleton]
    omega
  unfold cutV
  rw [e, HT.sIx_none, List.drop_zero, Nat.sub_zero, List.take_left]
end TB

set_option Elab.async false
set_option linter.all false
set_option maxRecDepth 100000
namespace TB
open PySem PySem.Spec PyProof.Rows L2 HT

/-! ### t[::-1] of a tuple -/
theorem back_adjust (n : Nat) : Builtin.Slice.sliceAdjust none none (-1) (n : Int) = ((n : Int) - 1, -1) := by
  simp [Builtin.Slice.sliceAdjust]
theorem back_places (n : Nat) : Builtin.Slice.slicePlaces ((n : Int) - 1) (-1) (-1) = n := by
  have no : ¬ ((-1 : Int) > 0) := by decide
  simp only [Builtin.Slice.slicePlaces, no, if_false]
  by_cases c : (n : Int) - 1 > -1
  · rw [if_pos c, show (- -1 : Int) = 1 by decide, Int.ediv_one]
    omega
  · rw [if_neg c]
    omega
theorem fm_congr {α β : Type} {f g : α → Option β} : ∀ {l : List α}, (∀ a ∈ l, f a = g a) → l.filterMap f = l.filterMap g
  | [], _ => rfl
  | x :: l, h => by
    rw [List.filterMap_cons, List.filterMap_cons, h x List.mem_cons_self, fm_congr fun a ha => h a (List.mem_cons_of_mem _ ha)]
theorem back_pick (xs : Array Value) : ((List.range xs.size).filterMap fun (m : Nat) => xs[(((xs.size : Int) - 1) + (m : Int) * (-1)).toNat]?).toArray = xs.toList.reverse.toArray := by
  have e : (List.range xs.size).filterMap (fun (m : Nat) => xs[(((xs.size : Int) - 1) + (m : Int) * (-1)).toNat]?) = ((List.range xs.size).map fun m => xs.size - 1 - m).filterMap (xs[·]?) := by
    rw [List.filterMap_map]
    refine fm_congr fun m hm => ?_
    have : (((xs.size : Int) - 1) + (m : Int) * (-1)).toNat = xs.size - 1 - m := by
      have := List.mem_range.mp hm
      omega
    rw [this]
    rfl
  rw [e, PySem.W.krv_range, List.filterMap_reverse, PySem.W.krv_all]
section
variable {w : World} {prog : Program} {s : Shared} {A : Around} {E : Value → Shared → Prop}
theorem back_applied {sl : Addr} {vs : Value} {n : Nat} {Q : Int × Int × Nat → Shared → Prop} (hs : s.heap.IsSliceOf sl .none .none vs) (ps : IsPart vs (some (-1))) (h : Q ((n : Int) - 1, -1, n) s) :
    wpAny (model prog w) A (Builtin.Slice.sliceApplied (Value.ref sl) (pure (n : Int))) Q E s := by
  obtain ⟨o, ho, _, hd⟩ := id hs
  unfold Builtin.Slice.sliceApplied
  unfold Builtin.Slice.sliceFields
  refine wpAny_bind (wpAny_bind (wpAny_field ho hd (x := .none) rfl (wpAny_bind (wpAny_field ho hd (x := .none) rfl (wpAny_bind (wpAny_field ho hd (x := vs) rfl (wpAny_pure ?_)))))))
  apply wpAny_bind
  refine slicePart_ ps ?_
  show wpAny _ _ (if ((-1 : Int) == 0) = true then _ else _) _ _ s
  rw [if_neg (by decide)]
  apply wpAny_bind
  refine slicePart_ .none ?_
  apply wpAny_bind
  refine slicePart_ .none ?_
  apply wpAny_bind
  refine wpAny_pure ?_
  show wpAny _ _ (match Builtin.Slice.sliceAdjust none none (-1) (n : Int) with | (lo, hi) => pure (lo, (-1 : Int), Builtin.Slice.slicePlaces lo hi (-1))) _ _ s
  rw [back_adjust]
  show wpAny _ _ (pure ((n : Int) - 1, (-1 : Int), Builtin.Slice.slicePlaces ((n : Int) - 1) (-1) (-1))) _ _ s
  rw [back_places]
  exact wpAny_pure h
theorem back_item {t sl : Addr} {items : Array Value} {vs : Value} {Q : Value → Shared → Prop} (ht : IsTup s.heap t items) (hs : s.heap.IsSliceOf sl .none .none vs) (ps : IsPart vs (some (-1)))
    (h : Q (.ref s.heap.objs.size) { s with heap := s.heap.push { cls := .type "tuple", data := .seq items.toList.reverse.toArray } }) (hsz : items.size ≤ sizeLine) : wpAny (model prog w) A (getItem (.ref t) (.ref sl)) Q E s := by
  have fits : sizeOk (.seq items.toList.reverse.toArray) := by
    show items.toList.reverse.toArray.size ≤ sizeLine
    rw [List.size_toArray, List.length_reverse, Array.length_toList]
    exact hsz
  obtain ⟨o, ho, hc, hd⟩ := id hs
  have isS : s.TypeIs (.ref sl) "slice" := ⟨o, ho, hc⟩
  unfold getItem
  try with_reducible apply wpAny_holding
  try refine wpAny_bind (wpAny_pure ?_)
  apply wpAny_bind
  refine wpAny_sequenceKey ht.typeIs (by decide) ?_
  apply wpAny_bind
  refine wpAny_callSpecial?_slot (name := Str.ofString "__getitem__") ht.typeIs PyProof.Rows.slot_tuple_getitem (wpAny_call_entry PyProof.Rows.slot_tuple_getitem ht.typeIs entry_tuple_getitem ?_ (args_tuple_getitem _ _))
  show wpAny _ _ (Builtin.Tuple.tupleItemsOf (Value.ref t) >>= _) _ _ s
  apply wpAny_bind
  refine tupleItemsOf_ ht ?_
  apply wpAny_bind
  refine wpAny_typeOf isS ?_
  rw [if_pos (by decide)]
  apply wpAny_bind
  refine back_applied hs ps ?_
  show wpAny _ _ (if (((items.size : Int) - 1) == 0 && (-1 : Int) == 1 && items.size == items.size) = true then _ else _) _ _ s
  rw [if_neg (by simp), back_pick]
  first
    | exact wpAny_bind (m := Builtin.Tuple.tupleExact _) (wpAny_newObj_type (wpAny_pure ⟨_, rfl, wpAny_pure h⟩) fits)
    | exact wpAny_bind (m := Builtin.Tuple.tupleExact _) (wpAny_newObj_type (wpAny_bind (wpAny_pure (wpAny_pure ⟨_, rfl, wpAny_pure h⟩))) fits)
    | exact wpAny_bind (wpAny_bind (m := Builtin.Tuple.tupleExact _) (wpAny_newObj_type (wpAny_pure (wpAny_pure ⟨_, rfl, wpAny_pure h⟩)) fits))
    | exact wpAny_bind (wpAny_bind (m := Builtin.Tuple.tupleExact _) (wpAny_newObj_type (wpAny_pure ⟨_, rfl, wpAny_pure h⟩) fits))
end
def tRevT (K : PySem.W.Frag) (te : TE) : TE := fun σ H Q => te σ H fun x H1 => ∃ a xs, x = .ref a ∧ SqT K H1 a xs ∧ ∀ p, H1 p = none → Q (.ref p) (upd H1 p (.tup xs.reverse))
section
variable {X : Cx}
theorem pe_revT {e : Expr} {te : TE} {k : Nat} {p1 p2 p3 pos : Pos} (he : PE X e te) : PE X (.Subscript e (.Slice none none (some (.UnaryOp .USub (.Constant (.int 1) k p1) p2)) p3) pos) (tRevT X.K te) := by
  refine ⟨fun pins s0 σ H Q I h => ?_⟩
  refine Subscript_ (thn (he.run pins s0 σ H _ I h) fun v s1 ⟨x, H1, I1, r1, q1⟩ => ?_)
  obtain ⟨a, xs, rfl, hx, q⟩ := q1
  cases r1
  have step : PO X (some (.UnaryOp .USub (.Constant (.int 1) k p1) p2)) (tPart (tUn (rU fun i => .int (-i)) (tC (.int 1)))) := po_some (pe_un un_neg pe_int)
  refine wpAny_Slice (thn (po_none.run pins s1 σ H1 (fun o G => o = none ∧ G = H1) I1 ⟨rfl, rfl⟩) fun vl s2 ⟨l, G2, I2, pl, el, e2⟩ => ?_)
  subst el e2
  refine thn (po_none.run pins s2 σ G2 (fun o G => o = none ∧ G = G2) I2 ⟨rfl, rfl⟩) fun vu s3 ⟨u, G3, I3, pu, eu, e3⟩ => ?_
  subst eu e3
  refine thn (step.run pins s3 σ G3 (fun o G => o = some (-1) ∧ G = G3) I3 ⟨1, rfl, -1, rfl, rfl, rfl⟩) fun vs s4 ⟨o, G4, I4, ps, eo, e4⟩ => ?_
  subst eo e4
  cases pl
  cases pu
  have I5 : Inv X pins σ G4 { s4 with heap := s4.heap.push { cls := .type "slice", data := .fields #[.none, .none, vs] } } := I4.kept (t' := s4.toks) fun b ob z => Heap.get?_push_of_some _ z
  obtain ⟨its, r, ht, hz⟩ := I5.tuple hx
  have lens := r.length
  show wpAny (model X.prog X.w) X.A (subscriptTail e (.Slice none none (some (.UnaryOp .USub (.Constant (.int 1) k p1) p2)) p3) (.ref a) (.ref s4.heap.objs.size)) (EP X pins σ Q) X.xe { s4 with heap := s4.heap.push { cls := .type "slice", data := .fields #[.none, .none, vs] } }
  refine tail_any (ops := [.ref a, .ref s4.heap.objs.size]) ht.typeIs (PyProof.Rows.slot_tuple_getitem.lookup) ?_ (by with_unfolding_all rfl)
  refine back_item ht (Heap.IsSliceOf.new _ .none .none vs) ps ?_ (by rw [List.size_toArray]; omega)
  refine ⟨.ref _, _, I5.laid (t' := s4.toks) (o := .tup xs.reverse) (fun b ob z => Heap.get?_push_of_some _ z) (Nat.le_refl _) ?_, rfl, q _ (I5.hok.fresh (Nat.le_refl _))⟩
  exact ⟨by rw [List.length_reverse]; exact hz, its.reverse, r.reverse, ⟨_, Heap.get?_push_size _ rfl, rfl, 0, rfl⟩⟩
end
end TB

set_option Elab.async false
set_option linter.all false
set_option maxRecDepth 100000
set_option maxHeartbeats 1000000
namespace TB
open PySem PySem.Spec PyProof.Rows L2

/-! ### heaps without some places -/
def hid (F : List Addr) (H : Hp) : Hp := fun b => if b ∈ F then none else H b
theorem hid_at {F : List Addr} {H : Hp} {b : Addr} (n : b ∉ F) : hid F H b = H b := if_neg n
theorem hid_sub {F : List Addr} {H : Hp} : Same (hid F H) H := fun b o e => by
  unfold hid at e
  by_cases h : b ∈ F
  · rw [if_pos h] at e
    cases e
  · rw [if_neg h] at e
    exact e
theorem hid_mono {F : List Addr} {H H' : Hp} (k : ∀ b o, b ∉ F → H b = some o → H' b = some o) : Same (hid F H) (hid F H') := fun b o e => by
  unfold hid at e
  by_cases h : b ∈ F
  · rw [if_pos h] at e
    cases e
  · rw [if_neg h] at e
    rw [hid_at h]
    exact k b o h e
theorem hid_same {F : List Addr} {H H' : Hp} (s : Same H H') : Same (hid F H) (hid F H') := hid_mono fun b o _ e => s b o e
theorem hid_but {F : List Addr} {L : Addr} {H H' : Hp} (hL : L ∈ F) (k : But L H H') : Same (hid F H) (hid F H') := hid_mono fun b o nb e => k b o (fun z => nb (z ▸ hL)) e
theorem hid_upd {F : List Addr} {H : Hp} {W : Addr} {o : HO} (h : W ∈ F) : hid F (upd H W o) = hid F H := by
  funext b
  unfold hid
  by_cases c : b ∈ F
  · rw [if_pos c, if_pos c]
  · have ne : b ≠ W := fun z => c (z ▸ h)
    rw [if_neg c, if_neg c, upd_ne ne]
/-- the places that are hidden are taken -/
def Took (F : List Addr) (H : Hp) : Prop := ∀ f ∈ F, H f ≠ none
theorem Took.out {F : List Addr} {H : Hp} {p : Addr} (t : Took F H) (n : H p = none) : p ∉ F := fun z => t p z n
theorem Took.same {F : List Addr} {H H' : Hp} (t : Took F H) (s : Same H H') : Took F H' := fun f hf z => by
  cases e : H f with
  | none => exact t f hf e
  | some o =>
    rw [s f o e] at z
    cases z
theorem Took.but {F : List Addr} {L : Addr} {H H' : Hp} {zs : List V} (t : Took F H) (k : But L H H') (e : H' L = some (.lst zs)) : Took F H' := fun f hf z => t f hf (k.free e z)

/-! ### slices, sums of tuples, all outside the hidden places -/
section
variable {K : PySem.W.Frag} {F : List Addr} {H : Hp}
theorem slH {a : Addr} {xs : List V} {lo hi : Option Int} {Q : VK} (t : Took F H) (h : SqT K (hid F H) a xs) (q : ∀ H' r, Same H H' → SqT K (hid F H') r (cutV xs lo hi) → Q (.ref r) H') : rSlA K (.ref a) lo hi H Q := by
  refine ⟨a, xs, rfl, Same.tup hid_sub h, fun hw => q H a (Same.refl H) ?_, fun _ p np => q _ p (same_upd np) (.inl (.inl ?_))⟩
  · unfold cutV
    rw [hw.1, hw.2, List.drop_zero, Nat.sub_zero, List.take_length]
    exact h
  · rw [hid_at (t.out np)]
    exact upd_same
theorem catH {a b : Addr} {xs ys : List V} {Q : VK} (t : Took F H) (ha : SqT K (hid F H) a xs) (hb : SqT K (hid F H) b ys) (hl : xs.length + ys.length ≤ sizeLine) (q : ∀ H' r, Same H H' → SqT K (hid F H') r (xs ++ ys) → Q (.ref r) H') : rCatA K (.ref a) (.ref b) H Q := by
  refine ⟨a, b, xs, ys, rfl, rfl, Same.tup hid_sub ha, Same.tup hid_sub hb, hl, fun e => q H b (Same.refl H) ?_, fun _ e => q H a (Same.refl H) ?_, fun _ _ p np => q _ p (same_upd np) (.inl (.inl ?_))⟩
  · rw [e, List.nil_append]
    exact hb
  · rw [e, List.append_nil]
    exact ha
  · rw [hid_at (t.out np)]
    exact upd_same
theorem newT {p : Addr} {xs : List V} (t : Took F H) (n : H p = none) : SqT K (hid F (upd H p (.tup xs))) p xs := .inl (.inl (by
  rw [hid_at (t.out n)]
  exact upd_same))
theorem newL {p : Addr} {xs : List V} (t : Took F H) (n : H p = none) : SqL K (hid F (upd H p (.lst xs))) p xs := .inl (.inl (by
  rw [hid_at (t.out n)]
  exact upd_same))
end
/-! ### the data of slices -/
def cutD (ds : List PyData) (lo hi : Option Int) : List PyData := (ds.drop (HT.sIx ds.length 0 lo)).take (HT.sIx ds.length ds.length hi - HT.sIx ds.length 0 lo)
theorem cutD_mem {ds : List PyData} {lo hi : Option Int} {d : PyData} (h : d ∈ cutD ds lo hi) : d ∈ ds := List.mem_of_mem_drop (List.mem_of_mem_take h)
theorem cutD_len (ds : List PyData) (lo hi : Option Int) : (cutD ds lo hi).length ≤ ds.length := by
  unfold cutD
  rw [List.length_take, List.length_drop]
  omega
theorem DpAll.drop {K : PySem.W.Frag} {H : Hp} : ∀ {vs : List V} {ds : List PyData} (i : Nat), DpAll K H vs ds → DpAll K H (vs.drop i) (ds.drop i)
  | _, _, 0, h => h
  | _, _, _ + 1, .nil => .nil
  | _, _, i + 1, .cons _ t => DpAll.drop i t
theorem DpAll.take {K : PySem.W.Frag} {H : Hp} : ∀ {vs : List V} {ds : List PyData} (i : Nat), DpAll K H vs ds → DpAll K H (vs.take i) (ds.take i)
  | _, _, 0, _ => by
    rw [List.take_zero, List.take_zero]
    exact .nil
  | _, _, _ + 1, .nil => .nil
  | _, _, i + 1, .cons a t => .cons a (DpAll.take i t)
theorem DpAll.cut {K : PySem.W.Frag} {H : Hp} {vs : List V} {ds : List PyData} {lo hi : Option Int} (h : DpAll K H vs ds) : DpAll K H (cutV vs lo hi) (cutD ds lo hi) := by
  unfold cutV cutD
  rw [DpAll.len h]
  exact DpAll.take _ (DpAll.drop _ h)
theorem DpAll.app {K : PySem.W.Frag} {H : Hp} : ∀ {vs ws : List V} {ds es : List PyData}, DpAll K H vs ds → DpAll K H ws es → DpAll K H (vs ++ ws) (ds ++ es)
  | _, _, _, _, .nil, h => h
  | _, _, _, _, .cons a t, h => .cons a (DpAll.app t h)
theorem DpAll.rev {K : PySem.W.Frag} {H : Hp} : ∀ {vs : List V} {ds : List PyData}, DpAll K H vs ds → DpAll K H vs.reverse ds.reverse
  | _, _, .nil => .nil
  | _, _, .cons a t => by
    rw [List.reverse_cons, List.reverse_cons]
    exact DpAll.snoc a (DpAll.rev t)
/-- one of a list's things, by a place that was drawn -/
theorem pickD {K : PySem.W.Frag} {H : Hp} {us : List V} {ds : List PyData} {v : Int} (h : DpAll K H us ds) (h0 : 0 ≤ v) (h1 : v < us.length) : ∃ x d, atI us v = some x ∧ Dp K H x d ∧ d ∈ ds := by
  obtain ⟨j, rfl⟩ : ∃ j : Nat, v = (j : Int) := ⟨v.toNat, (Int.toNat_of_nonneg h0).symm⟩
  have hj : j < us.length := by omega
  obtain ⟨d, e, dx⟩ := DpAll.get h (List.getElem?_eq_getElem hj)
  exact ⟨us[j], d, atI_nat (List.getElem?_eq_getElem hj), dx, List.mem_of_getElem? e⟩
/-! ### things of this depth and width -/
def atom : PyData → Prop
  | .none => True
  | .bool _ => True
  | .int _ => True
  | .str z => PyData.strOk z = true
  | _ => False
def Gd (n : Nat) : Nat → PyData → Prop
  | 0, d => atom d
  | k + 1, d => atom d ∨ ∃ ds, (d = .tuple ds ∨ d = .list ds) ∧ ds.length ≤ n ∧ ∀ e ∈ ds, Gd n k e
theorem Gd.atom {n k : Nat} {d : PyData} (h : atom d) : Gd n k d := by
  cases k with
  | zero => exact h
  | succ k => exact .inl h
theorem Gd.mono {n m : Nat} (hn : n ≤ m) : ∀ {k l : Nat} {d : PyData}, k ≤ l → Gd n k d → Gd m l d
  | 0, _, _, _, h => Gd.atom h
  | k + 1, 0, _, h, _ => by omega
  | k + 1, l + 1, _, hk, .inl h => .inl h
  | k + 1, l + 1, _, hk, .inr ⟨ds, e, hl, h⟩ => .inr ⟨ds, e, Nat.le_trans hl hn, fun d hd => Gd.mono hn (Nat.le_of_succ_le_succ hk) (h d hd)⟩
theorem Gd.tup {n k : Nat} {ds : List PyData} (hl : ds.length ≤ n) (h : ∀ e ∈ ds, Gd n k e) : Gd n (k + 1) (.tuple ds) := .inr ⟨ds, .inl rfl, hl, h⟩
theorem Gd.lst {n k : Nat} {ds : List PyData} (hl : ds.length ≤ n) (h : ∀ e ∈ ds, Gd n k e) : Gd n (k + 1) (.list ds) := .inr ⟨ds, .inr rfl, hl, h⟩
theorem Gd.tup_inv {n k : Nat} {ds : List PyData} (h : Gd n k (.tuple ds)) : ∃ l, k = l + 1 ∧ ds.length ≤ n ∧ ∀ e ∈ ds, Gd n l e := by
  cases k with
  | zero => exact absurd h id
  | succ k =>
    rcases h with h | ⟨es, e | e, hl, h⟩
    · exact absurd h id
    · cases e
      exact ⟨k, rfl, hl, h⟩
    · cases e
theorem Gd.lays {n : Nat} : ∀ {k : Nat} {d : PyData}, Gd n k d → PyData.canLay0 d = true ∧ PyData.depth d ≤ k
  | k, d, h => by
    have at_ : ∀ {d : PyData}, TB.atom d → PyData.canLay0 d = true ∧ PyData.depth d = 0 := by
      intro d h
      cases d with
      | none => exact ⟨rfl, rfl⟩
      | bool b => exact ⟨rfl, rfl⟩
      | int i => exact ⟨rfl, rfl⟩
      | str z => exact ⟨h, rfl⟩
      | list ds => exact absurd h id
      | tuple ds => exact absurd h id
      | dict ds => exact absurd h id
    cases k with
    | zero =>
      obtain ⟨a, b⟩ := at_ h
      exact ⟨a, by omega⟩
    | succ k =>
      rcases h with h | ⟨ds, e, _, h⟩
      · obtain ⟨a, b⟩ := at_ h
        exact ⟨a, by omega⟩
      · have all : ∀ es : List PyData, (∀ e ∈ es, Gd n k e) → PyData.canLayAll0 es = true ∧ PyData.depthAll es ≤ k := by
          intro es
          induction es with
          | nil => exact fun _ => ⟨rfl, Nat.zero_le _⟩
          | cons e es ih =>
            intro he
            obtain ⟨a, b⟩ := ih fun x hx => he x (List.mem_cons_of_mem _ hx)
            obtain ⟨c, d⟩ := Gd.lays (he e List.mem_cons_self)
            refine ⟨by simp only [PyData.canLayAll0, a, c, Bool.and_self], ?_⟩
            simp only [PyData.depthAll]
            omega
        obtain ⟨a, b⟩ := all ds h
        rcases e with rfl | rfl
        · exact ⟨by simp only [PyData.canLay0, a], by simp only [PyData.depth]; omega⟩
        · exact ⟨by simp only [PyData.canLay0, a], by simp only [PyData.depth]; omega⟩
theorem Gd.shaped {n k : Nat} {d : PyData} (h : Gd n k d) (hk : k ≤ 60) : SeqAt.shaped d = true := by
  obtain ⟨a, b⟩ := h.lays
  unfold SeqAt.shaped
  rw [a, decide_eq_true (by omega)]
  rfl
theorem eqv_void : ∀ ds : List PyData, PyData.eqv (.tuple ds) (.tuple []) = decide (ds = [])
  | [] => by simp [PyData.eqv, PyData.eqvAll]
  | d :: ds => by simp [PyData.eqv, PyData.eqvAll]
/-! ### a statement, and what is known behind it -/
def tCut (t : TS) : TS := fun D σ H => ∃ R : L2.St → Hp → Prop, t { D with nx := R } σ H ∧ ∀ σ' H', R σ' H' → D.nx σ' H'
theorem ps_cut {X : Cx} {st : Stmt} {t : TS} (h : PS X st t) : PS X st (tCut t) := by
  refine ⟨fun pins s0 σ H D I hw => ?_⟩
  obtain ⟨R, a, b⟩ := hw
  refine thn (h.run pins s0 σ H _ I a) fun fl s1 z => ?_
  cases fl with
  | next =>
    obtain ⟨σ', H', I2, z⟩ := z
    exact ⟨σ', H', I2, b _ _ z⟩
  | brk => exact z
  | cont => exact z
  | ret v => exact z
end TB

set_option Elab.async false
set_option linter.all false
set_option maxRecDepth 100000
set_option maxHeartbeats 1000000
namespace K55
open PySem PySem.Spec PyProof.Rows L2 TB

/-! ### the text -/
def topS (i : Nat) : Stmt := PySem.Challenge.pw_tablebills_k55_jobs_by_kind.main.body.getD i (.Pass ⟨0, 0, 0, 0⟩)
abbrev sN : Stmt := topS 1
abbrev sC : Stmt := topS 2
abbrev sT : Stmt := topS 3
abbrev sAc : Stmt := topS 4
abbrev sJs : Stmt := topS 6
abbrev sJ : Stmt := topS 7
abbrev sWi : Stmt := topS 8
abbrev sLj : Stmt := topS 9
abbrev sCo : Stmt := topS 11
abbrev sPu : Stmt := topS 12
abbrev sWh : Stmt := topS 13
abbrev sJo : Stmt := topS 14
abbrev sBe : Stmt := topS 15
abbrev sAj : Stmt := topS 16
abbrev sLa : Stmt := topS 17
abbrev sLaw : Stmt := topS 18
theorem scN : FnScope ["thing"] ["thing"] (defScope sN) := ⟨rfl, rfl, rfl, by decide +kernel, rfl, by decide +kernel, by decide +kernel⟩
theorem scC : FnScope ["thing"] ["thing"] (defScope sC) := ⟨rfl, rfl, rfl, by decide +kernel, rfl, by decide +kernel, by decide +kernel⟩
theorem scT : FnScope ["thing", "many"] ["thing", "many"] (defScope sT) := ⟨rfl, rfl, rfl, by decide +kernel, rfl, by decide +kernel, by decide +kernel⟩
theorem scAc : FnScope ["thing", "many", "part"] ["thing", "many"] (defScope sAc) := ⟨rfl, rfl, rfl, by decide +kernel, rfl, by decide +kernel, by decide +kernel⟩
theorem scJ : FnScope ["thing"] ["thing"] (defScope sJ) := ⟨rfl, rfl, rfl, by decide +kernel, rfl, by decide +kernel, by decide +kernel⟩
theorem scJs : FnScope ["thing", "job"] ["thing"] (defScope sJs) := ⟨rfl, rfl, rfl, by decide +kernel, rfl, by decide +kernel, by decide +kernel⟩
theorem scWh : FnScope ["_law_stuff"] ["_law_stuff"] (defScope sWh) := ⟨rfl, rfl, rfl, by decide +kernel, rfl, by decide +kernel, by decide +kernel⟩

/-! ### kinds of things -/
def isNum : PyData → Bool
  | .int _ => true
  | _ => false
def isCnt : PyData → Bool
  | .int i => decide (0 ≤ i)
  | _ => false
def isTup (m : Int) : PyData → Bool
  | .tuple ds => decide ((ds.length : Int) = m)
  | _ => false
def cnts (m : Int) : PyData → Bool
  | .tuple ds => decide ((ds.length : Int) = m) && ds.all isCnt
  | _ => false
theorem cnts_tup (m : Int) (ds : List PyData) : cnts m (.tuple ds) = (decide ((ds.length : Int) = m) && ds.all isCnt) := rfl
def le01 : PyData → Bool
  | .tuple (.int a :: .int b :: _) => decide (a ≤ b)
  | _ => false
def isJob (d : PyData) : Bool := cnts 3 d && le01 d
def isJobs : PyData → Bool
  | .tuple ds => ds.all isJob
  | _ => false
theorem isJobs_tup (ds : List PyData) : isJobs (.tuple ds) = ds.all isJob := rfl
def topLen : PyData → Nat
  | .tuple ds => ds.length
  | _ => 0
section
variable {K : PySem.W.Frag} {H : Hp}
theorem ty_lst {a : Addr} {xs : List V} (h : SqL K H a xs) : TyX K H (.ref a) (.type "list") := by
  rcases h with (h | ⟨o, h⟩) | ⟨o, its, n, e, c, _⟩
  · exact .base (.lst h)
  · exact .base (.frz h)
  · exact .kList e c
theorem ty_tup {a : Addr} {xs : List V} (h : SqT K H a xs) : TyX K H (.ref a) (.type "tuple") := by
  rcases h with (h | ⟨o, h⟩) | ⟨o, its, n, e, c, _⟩
  · exact .base (.tup h)
  · exact .fTuple h
  · exact .kTuple e c
def isTp : PyData → Bool
  | .tuple _ => true
  | _ => false
theorem isiT {v : V} {d : PyData} (hd : Dp K H v d) : ∃ t : Value, TyX K H v t ∧ PySem.W.kitOne K t (.type "tuple") = some (isTp d) := by
  cases hd with
  | non => exact ⟨_, .base .non, (kit_ty (r := false) (by decide +kernel))⟩
  | bl b => exact ⟨_, .base (.bl b), (kit_ty (r := false) (by decide +kernel))⟩
  | int i => exact ⟨_, .base (.int i), (kit_ty (r := false) (by decide +kernel))⟩
  | str x => exact ⟨_, .base (.str x), (kit_ty (r := false) (by decide +kernel))⟩
  | lst h _ => exact ⟨_, ty_lst h, (kit_ty (r := false) (by decide +kernel))⟩
  | tup h _ => exact ⟨_, ty_tup h, (kit_ty (r := true) (by decide +kernel))⟩
def isIn : PyData → Bool
  | .int _ => true
  | .bool _ => true
  | _ => false
theorem isiI {v : V} {d : PyData} (hd : Dp K H v d) : ∃ t : Value, TyX K H v t ∧ PySem.W.kitOne K t (.type "int") = some (isIn d) := by
  cases hd with
  | non => exact ⟨_, .base .non, (kit_ty (r := false) (by decide +kernel))⟩
  | bl b => exact ⟨_, .base (.bl b), (kit_ty (r := true) (by decide +kernel))⟩
  | int i => exact ⟨_, .base (.int i), (kit_ty (r := true) (by decide +kernel))⟩
  | str x => exact ⟨_, .base (.str x), (kit_ty (r := false) (by decide +kernel))⟩
  | lst h _ => exact ⟨_, ty_lst h, (kit_ty (r := false) (by decide +kernel))⟩
  | tup h _ => exact ⟨_, ty_tup h, (kit_ty (r := false) (by decide +kernel))⟩
def isBo : PyData → Bool
  | .bool _ => true
  | _ => false
theorem isiB {v : V} {d : PyData} (hd : Dp K H v d) : ∃ t : Value, TyX K H v t ∧ PySem.W.kitOne K t (.type "bool") = some (isBo d) := by
  cases hd with
  | non => exact ⟨_, .base .non, (kit_ty (r := false) (by decide +kernel))⟩
  | bl b => exact ⟨_, .base (.bl b), (kit_ty (r := true) (by decide +kernel))⟩
  | int i => exact ⟨_, .base (.int i), (kit_ty (r := false) (by decide +kernel))⟩
  | str x => exact ⟨_, .base (.str x), (kit_ty (r := false) (by decide +kernel))⟩
  | lst h _ => exact ⟨_, ty_lst h, (kit_ty (r := false) (by decide +kernel))⟩
  | tup h _ => exact ⟨_, ty_tup h, (kit_ty (r := false) (by decide +kernel))⟩
end
theorem dec_int' {i j : Int} : decide (V.int i = V.int j) = decide (i = j) := by
  by_cases c : i = j
  · rw [c, decide_eq_true rfl, decide_eq_true rfl]
  · rw [decide_eq_false c, decide_eq_false fun z => c (V.int.inj z)]
section
variable {P : Program} {w : World} {K : PySem.W.Frag} {mg : Str → Option Value} {base : Heap}
def spKind (K : PySem.W.Frag) (f : PyData → Bool) : Sp := fun vs H Q _ => ∃ (v : V) (d : PyData), vs = [v] ∧ Dp K H v d ∧ ∀ H', Same H H' → Q (.bl (f d)) H'
theorem ok_n {f : Addr} {fd : FuncData} {k : Nat} (F : Fun K "is_number" "is_number" sN f fd) (m_isinstance : mg "isinstance" = none) (m_int : mg "int" = none) (m_bool : mg "bool" = none) :
    FnOk P w K mg base CX0 (k + 1) f fd ["thing"] (spKind K isNum) := by
  refine F.ok scN (fun vs H Q E h => ?_) (fun cdv A outer s H vs Q E hr h => ?_)
  · obtain ⟨v, d, rfl, _⟩ := h
    rfl
  · obtain ⟨v, d, rfl, hd, q⟩ := h
    have q := q H (Same.refl H)
    refine ⟨_, (pss_one (ps_ret (pe_and (pe_callB call_isi (by rfl) m_isinstance (by decide +kernel) (pa_cons (pv 0) (pa_cons (pe_bltn (v := .ty "int") (u := .type "int") (by rfl) m_int (by decide +kernel) rfl) pa_nil))) (pe_one (pe_not (pe_callB call_isi (by rfl) m_isinstance (by decide +kernel) (pa_cons (pv 0) (pa_cons (pe_bltn (v := .ty "bool") (u := .type "bool") (by rfl) m_bool (by decide +kernel) rfl) pa_nil)))))))), ?_⟩
    cases hd with
    | non => exact ⟨_, rfl, _, .ty "int", _, .type "int", false, rfl, .ty _, .base .non, kit_ty (by decide +kernel), false, rfl, iteF q⟩
    | bl b => exact ⟨_, rfl, _, .ty "int", _, .type "int", true, rfl, .ty _, .base (.bl b), kit_ty (by decide +kernel), true, rfl, iteT ⟨_, rfl, _, .ty "bool", _, .type "bool", true, rfl, .ty _, .base (.bl b), kit_ty (by decide +kernel), true, rfl, q⟩⟩
    | int i => exact ⟨_, rfl, _, .ty "int", _, .type "int", true, rfl, .ty _, .base (.int i), kit_ty (by decide +kernel), true, rfl, iteT ⟨_, rfl, _, .ty "bool", _, .type "bool", false, rfl, .ty _, .base (.int i), kit_ty (by decide +kernel), false, rfl, q⟩⟩
    | str x => exact ⟨_, rfl, _, .ty "int", _, .type "int", false, rfl, .ty _, .base (.str x), kit_ty (by decide +kernel), false, rfl, iteF q⟩
    | lst h _ => exact ⟨_, rfl, _, .ty "int", _, .type "int", false, rfl, .ty _, ty_lst h, kit_ty (by decide +kernel), false, rfl, iteF q⟩
    | tup h _ => exact ⟨_, rfl, _, .ty "int", _, .type "int", false, rfl, .ty _, ty_tup h, kit_ty (by decide +kernel), false, rfl, iteF q⟩
theorem ok_wh {f : Addr} {fd : FuncData} {k : Nat} (F : Fun K "_law_whole" "_law_whole" sWh f fd) (m_isinstance : mg "isinstance" = none) (m_int : mg "int" = none) (m_bool : mg "bool" = none) :
    FnOk P w K mg base CX0 (k + 1) f fd ["_law_stuff"] (spKind K isNum) := by
  refine F.ok scWh (fun vs H Q E h => ?_) (fun cdv A outer s H vs Q E hr h => ?_)
  · obtain ⟨v, d, rfl, _⟩ := h
    rfl
  · obtain ⟨v, d, rfl, hd, q⟩ := h
    have q := q H (Same.refl H)
    refine ⟨_, (pss_one (ps_ret (pe_and (pe_callB call_isi (by rfl) m_isinstance (by decide +kernel) (pa_cons (pv 0) (pa_cons (pe_bltn (v := .ty "int") (u := .type "int") (by rfl) m_int (by decide +kernel) rfl) pa_nil))) (pe_one (pe_not (pe_callB call_isi (by rfl) m_isinstance (by decide +kernel) (pa_cons (pv 0) (pa_cons (pe_bltn (v := .ty "bool") (u := .type "bool") (by rfl) m_bool (by decide +kernel) rfl) pa_nil)))))))), ?_⟩
    cases hd with
    | non => exact ⟨_, rfl, _, .ty "int", _, .type "int", false, rfl, .ty _, .base .non, kit_ty (by decide +kernel), false, rfl, iteF q⟩
    | bl b => exact ⟨_, rfl, _, .ty "int", _, .type "int", true, rfl, .ty _, .base (.bl b), kit_ty (by decide +kernel), true, rfl, iteT ⟨_, rfl, _, .ty "bool", _, .type "bool", true, rfl, .ty _, .base (.bl b), kit_ty (by decide +kernel), true, rfl, q⟩⟩
    | int i => exact ⟨_, rfl, _, .ty "int", _, .type "int", true, rfl, .ty _, .base (.int i), kit_ty (by decide +kernel), true, rfl, iteT ⟨_, rfl, _, .ty "bool", _, .type "bool", false, rfl, .ty _, .base (.int i), kit_ty (by decide +kernel), false, rfl, q⟩⟩
    | str x => exact ⟨_, rfl, _, .ty "int", _, .type "int", false, rfl, .ty _, .base (.str x), kit_ty (by decide +kernel), false, rfl, iteF q⟩
    | lst h _ => exact ⟨_, rfl, _, .ty "int", _, .type "int", false, rfl, .ty _, ty_lst h, kit_ty (by decide +kernel), false, rfl, iteF q⟩
    | tup h _ => exact ⟨_, rfl, _, .ty "int", _, .type "int", false, rfl, .ty _, ty_tup h, kit_ty (by decide +kernel), false, rfl, iteF q⟩
theorem ok_c {f fN : Addr} {fd fdN : FuncData} (F : Fun K "is_count" "is_count" sC f fd) (GN : FnOk P w K mg base CX0 1 fN fdN ["thing"] (spKind K isNum)) (kN : PySem.W.keepIn K (.ref fN) = true) (bN : Binds K fdN ["thing"] []) (gN : mg "is_number" = some (.ref fN)) :
    FnOk P w K mg base CX0 2 f fd ["thing"] (spKind K isCnt) := by
  refine F.ok scC (fun vs H Q E h => ?_) (fun cdv A outer s H vs Q E hr h => ?_)
  · obtain ⟨v, d, rfl, _⟩ := h
    rfl
  · obtain ⟨v, d, rfl, hd, q⟩ := h
    refine ⟨_, (pss_one (ps_ret (pe_and (pe_call GN (hr.mono (by decide)) (by rfl) gN kN bN .nil pass0 (pa_cons (pv 0) pa_nil)) (pe_one (pe_cmpR op_ge (pv 0) pe_int (nomark _)))))), ?_⟩
    refine ⟨_, rfl, v, d, rfl, hd, fun H1 s1 => ⟨_, rfl, ?_⟩⟩
    have q1 := q H1 s1
    cases hd with
    | int i => exact iteT ⟨_, rfl, i, 0, rfl, rfl, q1⟩
    | non => exact iteF q1
    | bl b => exact iteF q1
    | str x => exact iteF q1
    | lst h _ => exact iteF q1
    | tup h _ => exact iteF q1
def spTup (K : PySem.W.Frag) (g : Int → PyData → Bool) : Sp := fun vs H Q _ => ∃ (v : V) (d : PyData) (m : Int), vs = [v, .int m] ∧ m ≤ 100 ∧ Dp K H v d ∧ ∀ H', Same H H' → Q (.bl (g m d)) H'
theorem ok_t {f : Addr} {fd : FuncData} {k : Nat} (F : Fun K "is_tuple_of" "is_tuple_of" sT f fd) (m_isinstance : mg "isinstance" = none) (m_tuple : mg "tuple" = none) (m_len : mg "len" = none) :
    FnOk P w K mg base CX0 (k + 1) f fd ["thing", "many"] (spTup K isTup) := by
  refine F.ok scT (fun vs H Q E h => ?_) (fun cdv A outer s H vs Q E hr h => ?_)
  · obtain ⟨v, d, m, rfl, _⟩ := h
    rfl
  · obtain ⟨v, d, m, rfl, hm, hd, q⟩ := h
    have q := q H (Same.refl H)
    refine ⟨_, (pss_one (ps_ret (pe_and (pe_callB call_isi (by rfl) m_isinstance (by decide +kernel) (pa_cons (pv 0) (pa_cons (pe_bltn (v := .ty "tuple") (u := .type "tuple") (by rfl) m_tuple (by decide +kernel) rfl) pa_nil))) (pe_one (pe_cmpR op_eq (pe_callB call_len_seq (by rfl) m_len (by decide +kernel) (pa_cons (pv 0) pa_nil)) (pv 1) (nomark _)))))), ?_⟩
    obtain ⟨t, ty, kt⟩ := isiT hd
    refine ⟨_, rfl, _, .ty "tuple", t, .type "tuple", _, rfl, .ty _, ty, kt, _, rfl, ?_⟩
    cases hd with
    | tup h t =>
      refine iteT ⟨_, rfl, _, _, rfl, .inr h, _, rfl, rfl, ?_⟩
      have ln := DpAll.len t
      rw [ln]
      show Q (.bl (decide (V.int _ = V.int m))) H
      rw [dec_int']
      exact q
    | non => exact iteF q
    | bl b => exact iteF q
    | int i => exact iteF q
    | str x => exact iteF q
    | lst h _ => exact iteF q
theorem ok_ac {f fC fT : Addr} {fd fdC fdT : FuncData} (F : Fun K "are_counts" "are_counts" sAc f fd) (GC : FnOk P w K mg base CX0 2 fC fdC ["thing"] (spKind K isCnt)) (kC : PySem.W.keepIn K (.ref fC) = true) (bC : Binds K fdC ["thing"] []) (gC : mg "is_count" = some (.ref fC))
    (GT : FnOk P w K mg base CX0 1 fT fdT ["thing", "many"] (spTup K isTup)) (kT : PySem.W.keepIn K (.ref fT) = true) (bT : Binds K fdT ["thing", "many"] []) (gT : mg "is_tuple_of" = some (.ref fT)) (m_all : mg "all" = none) :
    FnOk P w K mg base CX0 3 f fd ["thing", "many"] (spTup K cnts) := by
  refine F.ok scAc (fun vs H Q E h => ?_) (fun cdv A outer s H vs Q E hr h => ?_)
  · obtain ⟨v, d, m, rfl, _⟩ := h
    rfl
  · obtain ⟨v, d, m, rfl, hm, hd, q⟩ := h
    refine ⟨_, (pss_one (ps_ret (pe_and (pe_call GT (hr.mono (by decide)) (by rfl) gT kT bT .nil pass0 (pa_cons (pv 0) (pa_cons (pv 1) pa_nil))) (pe_one (pe_callB (cr_all rfl) (by rfl) m_all (by decide +kernel) (pa_cons (pe_lc (own := [("part", 2)]) (g := gName 2) (tt := tYes) rfl scAc.nd (pi_tup (pv 0)) (blkOk_by (own := [("part", 2)]) (N := ["thing", "many", "part"]) (sc := defScope sAc) (by decide +kernel)) (fun _ _ _ _ _ => (pg_name (i := 2) scAc.nd rfl (.inl rfl))) (fun _ _ _ _ _ => pts_nil) (fun _ _ _ _ _ => (pe_call GC (hr.mono (by decide)) (by rfl) gC kC bC .nil pass0 (pa_cons (pv 2) pa_nil)))) pa_nil)))))), ?_⟩
    refine ⟨_, rfl, _, rfl, v, d, m, rfl, hm, hd, fun H1 s1 => ⟨_, rfl, ?_⟩⟩
    have q1 := q H1 s1
    cases hd with
    | @tup _ xs ds h t =>
      have ln := DpAll.len t
      change ite (decide ((ds.length : Int) = m) = true) _ _
      refine ite2 (fun c => ?_) (fun c => ?_)
      · have c1 : (ds.length : Int) = m := of_decide_eq_true c
        refine ⟨_, rfl, _, rfl, ⟨_, TB.Same.tup s1 h⟩, fun D nD => ?_⟩
        refine lc_tup (xs := xs) (fun i H2 => Same H1 H2 ∧ H2 D = some (.lst (((ds.take i).map isCnt).map V.bl))) ⟨same_upd nD, upd_same⟩ (fun i H2 _ hP => TB.Same.tup (s1.trans hP.1) h) (fun i x H2 hx hP => ?_) (fun H2 hP => ?_)
        · obtain ⟨s2, e2⟩ := hP
          obtain ⟨d, hdi, dx⟩ := DpAll.get t hx
          refine ⟨rfl, yes (iteT ?_)⟩
          refine ⟨_, rfl, x, d, rfl, Dp.same (s1.trans s2) _ _ dx, fun H3 s3 => ?_⟩
          refine ⟨_, s3 _ _ e2, ?_, same_new nD (s2.trans s3), ?_⟩
          · rw [List.length_map, List.length_map]
            have := List.length_take_le' i ds
            exact small1000 (by omega)
          · rw [upd_same, map_take_more hdi, List.map_append]
            rfl
        · obtain ⟨s2, e2⟩ := hP
          rw [List.take_of_length_le (by omega)] at e2
          refine ⟨D, _, rfl, .inl (.inl e2), ?_⟩
          have := q H2 (s1.trans s2)
          rw [cnts_tup, c, Bool.true_and] at this
          rw [List.all_map]
          exact this
      · rw [cnts_tup, show decide ((ds.length : Int) = m) = false by simpa using c, Bool.false_and] at q1
        exact q1
    | non => exact iteF q1
    | bl b => exact iteF q1
    | int i => exact iteF q1
    | str x => exact iteF q1
    | lst h _ => exact iteF q1
theorem cnts_ints : ∀ {ds : List PyData}, ds.all isCnt = true → ∃ ns : List Int, ds = dInts ns ∧ ∀ n ∈ ns, 0 ≤ n
  | [], _ => ⟨[], rfl, fun _ h => by cases h⟩
  | d :: ds, h => by
    rw [List.all_cons, Bool.and_eq_true] at h
    obtain ⟨ns, rfl, hn⟩ := cnts_ints h.2
    cases d with
    | int i =>
      refine ⟨i :: ns, rfl, fun n hm => ?_⟩
      rcases List.mem_cons.mp hm with rfl | hm
      · exact of_decide_eq_true h.1
      · exact hn n hm
    | _ => exact nomatch (show false = true from h.1)
theorem cnts3 {d : PyData} (h : cnts 3 d = true) : ∃ a b c : Int, d = .tuple [.int a, .int b, .int c] ∧ 0 ≤ a ∧ 0 ≤ b ∧ 0 ≤ c := by
  cases d with
  | tuple ds =>
    rw [cnts_tup, Bool.and_eq_true] at h
    have ln : (ds.length : Int) = 3 := of_decide_eq_true h.1
    obtain ⟨ns, rfl, hn⟩ := cnts_ints h.2
    unfold dInts at ln
    rw [List.length_map] at ln
    match ns, ln, hn with
    | [a, b, c], _, hn => exact ⟨a, b, c, rfl, hn a (by simp), hn b (by simp), hn c (by simp)⟩
    | [], ln, _ => simp at ln
    | [_], ln, _ => simp at ln
    | [_, _], ln, _ => simp at ln
    | _ :: _ :: _ :: _ :: r, ln, _ => simp at ln; omega
  | _ => exact nomatch (show false = true from h)
theorem Dp.three {H : Hp} {v : V} {a b c : Int} (h : Dp K H v (.tuple [.int a, .int b, .int c])) : ∃ p, v = .ref p ∧ SqT K H p [.int a, .int b, .int c] := by
  obtain ⟨p, xs, rfl, hq, t⟩ := Dp.tup_inv h
  obtain ⟨x, r1, rfl, h1, t⟩ := DpAll.cons_inv t
  obtain ⟨y, r2, rfl, h2, t⟩ := DpAll.cons_inv t
  obtain ⟨z, r3, rfl, h3, t⟩ := DpAll.cons_inv t
  rw [Dp.int_inv h1, Dp.int_inv h2, Dp.int_inv h3, DpAll.nil_inv t] at hq
  exact ⟨p, rfl, hq⟩
theorem ok_j {f fA : Addr} {fd fdA : FuncData} (F : Fun K "is_job" "is_job" sJ f fd) (GAc : FnOk P w K mg base CX0 3 fA fdA ["thing", "many"] (spTup K cnts)) (kAc : PySem.W.keepIn K (.ref fA) = true) (bAc : Binds K fdA ["thing", "many"] []) (gAc : mg "are_counts" = some (.ref fA)) :
    FnOk P w K mg base CX0 4 f fd ["thing"] (spKind K isJob) := by
  refine F.ok scJ (fun vs H Q E h => ?_) (fun cdv A outer s H vs Q E hr h => ?_)
  · obtain ⟨v, d, rfl, _⟩ := h
    rfl
  · obtain ⟨v, d, rfl, hd, q⟩ := h
    refine ⟨_, (pss_one (ps_ret (pe_and (pe_call GAc (hr.mono (by decide)) (by rfl) gAc kAc bAc .nil pass0 (pa_cons (pv 0) (pa_cons pe_int pa_nil))) (pe_one (pe_cmpR op_le (pe_ix ix_tup (pv 0) pe_int (fun _ _ => rfl)) (pe_ix ix_tup (pv 0) pe_int (fun _ _ => rfl)) (nomark _)))))), ?_⟩
    refine ⟨_, rfl, v, d, 3, rfl, by decide, hd, fun H1 s1 => ⟨_, rfl, ?_⟩⟩
    have q1 := q H1 s1
    unfold isJob at q1
    refine ite2 (fun c => ?_) (fun c => ?_)
    · obtain ⟨a, b, c1, rfl, _⟩ := cnts3 c
      obtain ⟨p, rfl, hp⟩ := Dp.three (Dp.same s1 _ _ hd)
      refine ⟨_, rfl, p, _, 0, _, rfl, rfl, hp, atI_nat (j := 0) rfl, _, rfl, p, _, 1, _, rfl, rfl, hp, atI_nat (j := 1) rfl, _, _, rfl, rfl, ?_⟩
      rw [show cnts 3 (.tuple [.int a, .int b, .int c1]) = true from c, Bool.true_and] at q1
      exact q1
    · rw [show cnts 3 d = false by simpa using c, Bool.false_and] at q1
      exact q1
def spJobs (K : PySem.W.Frag) : Sp := fun vs H Q _ => ∃ (v : V) (d : PyData), vs = [v] ∧ Dp K H v d ∧ topLen d ≤ 900 ∧ ∀ H', Same H H' → Q (.bl (isJobs d)) H'
theorem ok_js {f fJ : Addr} {fd fdJ : FuncData} (F : Fun K "is_jobs" "is_jobs" sJs f fd) (GJ : FnOk P w K mg base CX0 4 fJ fdJ ["thing"] (spKind K isJob)) (kJ : PySem.W.keepIn K (.ref fJ) = true) (bJ : Binds K fdJ ["thing"] []) (gJ : mg "is_job" = some (.ref fJ))
    (m_isinstance : mg "isinstance" = none) (m_tuple : mg "tuple" = none) (m_all : mg "all" = none) :
    FnOk P w K mg base CX0 5 f fd ["thing"] (spJobs K) := by
  refine F.ok scJs (fun vs H Q E h => ?_) (fun cdv A outer s H vs Q E hr h => ?_)
  · obtain ⟨v, d, rfl, _⟩ := h
    rfl
  · obtain ⟨v, d, rfl, hd, hz, q⟩ := h
    refine ⟨_, (pss_one (ps_ret (pe_and (pe_callB call_isi (by rfl) m_isinstance (by decide +kernel) (pa_cons (pv 0) (pa_cons (pe_bltn (v := .ty "tuple") (u := .type "tuple") (by rfl) m_tuple (by decide +kernel) rfl) pa_nil))) (pe_one (pe_callB (cr_all rfl) (by rfl) m_all (by decide +kernel) (pa_cons (pe_lc (own := [("job", 1)]) (g := gName 1) (tt := tYes) rfl scJs.nd (pi_tup (pv 0)) (blkOk_by (own := [("job", 1)]) (N := ["thing", "job"]) (sc := defScope sJs) (by decide +kernel)) (fun _ _ _ _ _ => (pg_name (i := 1) scJs.nd rfl (.inl rfl))) (fun _ _ _ _ _ => pts_nil) (fun _ _ _ _ _ => (pe_call GJ (hr.mono (by decide)) (by rfl) gJ kJ bJ .nil pass0 (pa_cons (pv 1) pa_nil)))) pa_nil)))))), ?_⟩
    obtain ⟨t, ty, kt⟩ := isiT hd
    refine ⟨_, rfl, _, .ty "tuple", t, .type "tuple", _, rfl, .ty _, ty, kt, _, rfl, ?_⟩
    have q1 := q H (Same.refl H)
    cases hd with
    | @tup _ xs ds h t =>
      have ln := DpAll.len t
      have hz : ds.length ≤ 900 := hz
      refine iteT ⟨_, rfl, _, rfl, ⟨_, h⟩, fun D nD => ?_⟩
      refine lc_tup (xs := xs) (fun i H2 => Same H H2 ∧ H2 D = some (.lst (((ds.take i).map isJob).map V.bl))) ⟨same_upd nD, upd_same⟩ (fun i H2 _ hP => TB.Same.tup hP.1 h) (fun i x H2 hx hP => ?_) (fun H2 hP => ?_)
      · obtain ⟨s2, e2⟩ := hP
        obtain ⟨d, hdi, dx⟩ := DpAll.get t hx
        refine ⟨rfl, yes (iteT ?_)⟩
        refine ⟨_, rfl, x, d, rfl, Dp.same s2 _ _ dx, fun H3 s3 => ?_⟩
        refine ⟨_, s3 _ _ e2, ?_, same_new nD (s2.trans s3), ?_⟩
        · rw [List.length_map, List.length_map]
          have := List.length_take_le' i ds
          exact small1000 (by omega)
        · rw [upd_same, map_take_more hdi, List.map_append]
          rfl
      · obtain ⟨s2, e2⟩ := hP
        rw [List.take_of_length_le (by omega)] at e2
        refine ⟨D, _, rfl, .inl (.inl e2), ?_⟩
        have := q H2 s2
        rw [isJobs_tup] at this
        rw [List.all_map]
        exact this
    | non => exact iteF q1
    | bl b => exact iteF q1
    | int i => exact iteF q1
    | str x => exact iteF q1
    | lst h _ => exact iteF q1
end
end K55

set_option Elab.async false
set_option linter.all false
set_option maxRecDepth 100000
set_option maxHeartbeats 1000000
namespace K55
open PySem PySem.Spec PyProof.Rows L2 TB

theorem scCo : FnScope ["_law_script"] ["_law_script"] (defScope sCo) := ⟨rfl, rfl, rfl, by decide +kernel, rfl, by decide +kernel, by decide +kernel⟩
theorem scPu : FnScope ["_law_coil_here", "_law_many", "_law_turn", "_law_found", "_law_at", "_law_cell", "_law_mixed"] ["_law_coil_here", "_law_many"] (defScope sPu) := ⟨rfl, rfl, rfl, by decide +kernel, rfl, by decide +kernel, by decide +kernel⟩
/-! ### the coil: the script's numbers, a rest, how many draws, how many cells -/
structure Coil (H : Hp) (F S : Addr) (T : Int) : Prop where
  ex : ∃ (ns : List Int) (r t p : Int), H F = some (.lst [.ref S, .int r, .int t, .int p]) ∧ S ≠ F ∧ H S = some (.lst (ns.map V.int)) ∧ ns.length ≤ 1000 ∧ 0 ≤ r ∧ 0 ≤ t ∧ t ≤ T ∧ 0 ≤ p
theorem Coil.same {H H' : Hp} {F S : Addr} {T : Int} (e : Same H H') (h : Coil H F S T) : Coil H' F S T := by
  obtain ⟨ns, r, t, p, a, n, b, c⟩ := h.ex
  exact ⟨⟨ns, r, t, p, e _ _ a, n, e _ _ b, c⟩⟩
theorem Coil.there {H : Hp} {F S : Addr} {T : Int} (h : Coil H F S T) : ∃ zs, H F = some (.lst zs) := by
  obtain ⟨ns, r, t, p, a, _⟩ := h.ex
  exact ⟨_, a⟩
theorem Coil.ne {H : Hp} {F S D : Addr} {T : Int} (h : Coil H F S T) (n : H D = none) : D ≠ F ∧ D ≠ S := by
  obtain ⟨ns, r, t, p, a, _, b, _⟩ := h.ex
  exact ⟨(ne_of_none a n).symm, (ne_of_none b n).symm⟩
theorem Coil.upd {H : Hp} {F S D : Addr} {T : Int} {o : HO} (h : Coil H F S T) (n : D ≠ F ∧ D ≠ S) : Coil (upd H D o) F S T := by
  obtain ⟨ns, r, t, p, a, k, b, c⟩ := h.ex
  exact ⟨⟨ns, r, t, p, by rw [upd_ne n.1.symm]; exact a, k, by rw [upd_ne n.2.symm]; exact b, c⟩⟩
theorem Coil.mono {H : Hp} {F S : Addr} {T T' : Int} (h : Coil H F S T) (l : T ≤ T') : Coil H F S T' := by
  obtain ⟨ns, r, t, p, a, n, b, c, d, e, f, g⟩ := h.ex
  exact ⟨⟨ns, r, t, p, a, n, b, c, d, e, by omega, g⟩⟩
theorem cutV_ints (ns : List Int) (lo hi : Option Int) : ∃ ms : List Int, cutV (ns.map V.int) lo hi = ms.map V.int ∧ ms.length ≤ ns.length := by
  unfold cutV
  refine ⟨(ns.drop (HT.sIx (ns.map V.int).length 0 lo)).take (HT.sIx (ns.map V.int).length (ns.map V.int).length hi - HT.sIx (ns.map V.int).length 0 lo), ?_, ?_⟩
  · rw [List.map_take, List.map_drop]
  · rw [List.length_take, List.length_drop]
    omega
theorem eqv_nil : ∀ ns : List Int, PyData.eqv (.list (dInts ns)) (.list []) = decide (ns = [])
  | [] => by simp [dInts, PyData.eqv, PyData.eqvAll]
  | n :: ns => by simp [dInts, PyData.eqv, PyData.eqvAll]
theorem shaped_ints (ns : List Int) : SeqAt.shaped (.list (dInts ns)) = true := by
  have h : ∀ ms : List Int, PyData.canLayAll0 (dInts ms) = true ∧ PyData.depthAll (dInts ms) = 0 := by
    intro ms
    induction ms with
    | nil => exact ⟨rfl, rfl⟩
    | cons m ms ih => exact ⟨by simpa [dInts, PyData.canLayAll0, PyData.canLay0] using ih.1, by simpa [dInts, PyData.depthAll, PyData.depth] using ih.2⟩
  unfold SeqAt.shaped
  simp only [PyData.canLay0, PyData.depth, (h ns).1, (h ns).2]
  decide
section
variable {P : Program} {w : World} {K : PySem.W.Frag} {mg : Str → Option Value} {base : Heap}
/-! ### _law_coil -/
def spCoil (K : PySem.W.Frag) : Sp := fun vs H Q _ => ∃ (a : Addr) (ns : List Int), vs = [.ref a] ∧ SqL K H a (ns.map V.int) ∧ ns.length ≤ 1000 ∧
  ∀ H' F S, Same H H' → H F = none → Coil H' F S 0 → Q (.ref F) H'
theorem ok_coil {f : Addr} {fd : FuncData} {k : Nat} (F : Fun K "_law_coil" "_law_coil" sCo f fd) : FnOk P w K mg base CX0 (k + 1) f fd ["_law_script"] (spCoil K) := by
  refine F.ok scCo (fun vs H Q E h => ?_) (fun cdv A outer s H vs Q E hr h => ?_)
  · obtain ⟨a, ns, rfl, _⟩ := h
    rfl
  · obtain ⟨a, ns, rfl, hS, hl, q⟩ := h
    refine ⟨_, (pss_one (ps_ret (pe_lst (pa_cons (pe_slice sl_list (pv 0) po_none (po_some pe_int)) (pa_cons pe_int (pa_cons pe_int (pa_cons pe_int pa_nil))))))), ?_⟩
    obtain ⟨ms, em, hm⟩ := cutV_ints ns none (some 63)
    refine ⟨.ref a, rfl, 63, rfl, a, _, rfl, hS, fun S nS => ⟨by show (4 : Nat) ≤ sizeLine; decide, fun L nL => ?_⟩⟩
    have s1 : Same H (upd H S (.lst (cutV (ns.map V.int) none (some 63)))) := same_upd nS
    have nSL : S ≠ L := fun e => by
      rw [← e, upd_same] at nL
      cases nL
    refine q _ L S (s1.trans (same_upd nL)) (s1.free nL) ⟨⟨ms, 0, 0, 0, upd_same, nSL, ?_, by omega, by omega, by omega, by omega, by omega⟩⟩
    rw [upd_ne nSL, upd_same, em]

/-! ### _law_pull -/
theorem sq_small {t : Int} (h0 : 0 ≤ t) (h1 : t < 1048576) : 0 ≤ 6733 * t * t ∧ 6733 * t * t < 2 ^ 55 := by
  constructor
  · exact Int.mul_nonneg (by omega) h0
  · have a : 6733 * t * t ≤ 7060063435 * t := Int.mul_le_mul_of_nonneg_right (by omega) h0
    omega
def spPull : Sp := fun vs H Q _ => ∃ (F S : Addr) (m T : Int), vs = [.ref F, .int m] ∧ 0 < m ∧ m < 2 ^ 50 ∧ Coil H F S T ∧ T < 1000000 ∧
  ∀ H' v, But F H H' → Coil H' F S (T + 1) → 0 ≤ v → v < m → Q (.int v) H'
theorem ok_pull {f : Addr} {fd : FuncData} {k : Nat} (F : Fun K "_law_pull" "_law_pull" sPu f fd) (m_len : mg "len" = none) : FnOk P w K mg base CX0 (k + 1) f fd ["_law_coil_here", "_law_many"] spPull := by
  refine F.ok scPu (fun vs H Q E h => ?_) (fun cdv A outer s H vs Q E hr h => ?_)
  · obtain ⟨a, S, m, T, rfl, _⟩ := h
    rfl
  · obtain ⟨L, S, m, T, rfl, m0, m1, hF, hT, q⟩ := h
    refine ⟨_, (pss_cons (ps_set (i := 2) scPu.nd rfl (.inl rfl) (pe_ix ix_list (pv 0) pe_int (fun _ _ => rfl)))
      (pss_cons (ps_asg (pe_op op_add (pv 2) pe_int) (pg_sub (pv 0) pe_int set_list))
      (pss_cons (ps_if (pt_cmpR op_gt (pe_ix ix_list (pv 0) pe_int (fun _ _ => rfl)) pe_int (nomark _)) (pss_cons (ps_set (i := 3) scPu.nd rfl (.inl rfl) (pe_op op_mod (pe_ix ix_list (pv 0) pe_int (fun _ _ => rfl)) (pv 1)))
      (pss_cons (ps_asg (pe_op op_fdivW (pe_ix ix_list (pv 0) pe_int (fun _ _ => rfl)) (pv 1)) (pg_sub (pv 0) pe_int set_list))
      (pss_one (ps_ret (pv 3))))) pss_nil)
      (pss_cons (ps_set (i := 4) scPu.nd rfl (.inl rfl) (pe_ix ix_list (pv 0) pe_int (fun _ _ => rfl)))
      (pss_cons (ps_asg (pe_op op_add (pv 4) pe_int) (pg_sub (pv 0) pe_int set_list))
      (pss_cons (ps_set (i := 5) scPu.nd rfl (.inl rfl) (pe_ifExp (pt_cmpR (op_neD hr.units) (pe_ix ix_list (pv 0) pe_int (fun _ _ => rfl)) (pe_lst pa_nil) (nomark _)) (pe_ix ix_list (pe_ix ix_list (pv 0) pe_int (fun _ _ => rfl)) (pe_op op_mod (pv 4) (pe_callB call_len_seq (by rfl) m_len (by decide +kernel) (pa_cons (pe_ix ix_list (pv 0) pe_int (fun _ _ => rfl)) pa_nil))) (fun _ _ => rfl)) pe_int))
      (pss_cons (ps_if (PW.pt (pw_and (pt_cmpR op_ge (pv 5) (pe_op op_pow pe_int pe_int) (nomark _)) (pw_and1 (pt_cmpR op_lt (pv 4) (pe_callB call_len_seq (by rfl) m_len (by decide +kernel) (pa_cons (pe_ix ix_list (pv 0) pe_int (fun _ _ => rfl)) pa_nil)) (nomark _))))) (pss_cons (ps_asg (pe_op op_fdivW (pv 5) (pv 1)) (pg_sub (pv 0) pe_int set_list))
      (pss_one (ps_ret (pe_op op_mod (pv 5) (pv 1))))) pss_nil)
      (pss_cons (ps_set (i := 6) scPu.nd rfl (.inl rfl) (pe_op op_add (pe_op op_add (pe_op op_add (pe_op op_mod (pv 5) pe_int) (pe_op op_mulW (pe_op op_mulW pe_int (pv 2)) (pv 2))) (pe_op op_mulW pe_int (pv 2))) pe_int))
      (pss_cons (ps_set (i := 6) scPu.nd rfl (.inl rfl) (pe_op op_mod (pe_op op_add (pe_op op_add (pe_op op_mulW (pv 6) (pv 6)) (pe_op op_mulW pe_int (pv 2))) pe_int) pe_int))
      (pss_one (ps_ret (pe_op op_mod (pe_op op_fdivW (pe_op op_mod (pe_op op_add (pe_op op_mulW (pv 6) (pv 6)) (pe_op op_mulW pe_int (pv 6))) pe_int) pe_int) (pv 1))))))))))))), ?_⟩
    obtain ⟨ns, r, t, p, e0, nSF, hS0, hn, r0, t0, tT, p0⟩ := hF.ex
    -- turn, one more
    refine ⟨.ref L, rfl, L, _, 2, _, rfl, rfl, .inl (.inl e0), atI_nat (j := 2) rfl, ?_⟩
    refine ⟨_, rfl, _, _, rfl, rfl, .ref L, rfl, L, _, 2, 2, rfl, rfl, e0, rfl, ?_⟩
    generalize hH1 : upd H L (.lst (List.set [V.ref S, V.int r, V.int t, V.int p] 2 ((fun i j => V.int (i + j)) t 1))) = H1
    have e1 : H1 L = some (.lst [.ref S, .int r, .int (t + 1), .int p]) := by
      rw [← hH1]
      exact upd_same
    have b1 : But L H H1 := by
      rw [← hH1]
      exact But.upd
    clear hH1
    have hS1 := b1 _ _ nSF hS0
    have back : ∀ (H2 : Hp) (r' p' : Int) (v : Int), But L H H2 → H2 S = some (.lst (ns.map V.int)) → H2 L = some (.lst [.ref S, .int r', .int (t + 1), .int p']) → 0 ≤ p' → 0 ≤ r' → 0 ≤ v → v < m → Q (.int v) H2 :=
      fun H2 r' p' v a hs b c d x y => q H2 v a ⟨⟨ns, r', t + 1, p', b, nSF, hs, hn, d, by omega, by omega, c⟩⟩ x y
    show tSeq _ _ _ [some (.ref L), some (.int m), some (.int t), none, none, none, none] _
    -- the rest
    refine ⟨.ref L, rfl, L, _, 1, _, rfl, rfl, .inl (.inl e1), atI_nat (j := 1) rfl, _, _, rfl, rfl, _, rfl, ite2 (fun c => ?_) (fun c => ?_)⟩
    · refine ⟨.ref L, rfl, L, _, 1, _, rfl, rfl, .inl (.inl e1), atI_nat (j := 1) rfl, _, rfl, r, m, rfl, rfl, m0, ?_⟩
      refine ⟨.ref L, rfl, L, _, 1, _, rfl, rfl, .inl (.inl e1), atI_nat (j := 1) rfl, _, rfl, r, m, rfl, rfl, wide_div (b := 60) m0 (by omega) (by omega) (by omega), ?_⟩
      refine ⟨.ref L, rfl, L, _, 1, 1, rfl, rfl, e1, rfl, ?_⟩
      have b2 : But L H1 (upd H1 L (.lst [.ref S, .int (r / m), .int (t + 1), .int p])) := But.upd
      refine ⟨_, rfl, ?_⟩
      exact back _ (r / m) p (r % m) (b1.trans b2) (b2 _ _ nSF hS1) upd_same p0 (Int.ediv_nonneg r0 (by omega)) (Int.emod_nonneg _ (by omega)) (Int.emod_lt_of_pos _ m0)
    · -- at, one more
      refine ⟨.ref L, rfl, L, _, 3, _, rfl, rfl, .inl (.inl e1), atI_nat (j := 3) rfl, ?_⟩
      refine ⟨_, rfl, _, _, rfl, rfl, .ref L, rfl, L, _, 3, 3, rfl, rfl, e1, rfl, ?_⟩
      generalize hH2 : upd H1 L (.lst (List.set [V.ref S, V.int r, V.int (t + 1), V.int p] 3 ((fun i j => V.int (i + j)) p 1))) = H2
      have e2 : H2 L = some (.lst [.ref S, .int r, .int (t + 1), .int (p + 1)]) := by
        rw [← hH2]
        exact upd_same
      have b2 : But L H1 H2 := by
        rw [← hH2]
        exact But.upd
      clear hH2
      have hS2 := b2 _ _ nSF hS1
      -- the cell
      refine ⟨.ref L, rfl, L, _, 0, _, rfl, rfl, .inl (.inl e2), atI_nat (j := 0) rfl, Nat.zero_le _, fun z nz => ?_⟩
      have sz : Same H2 (upd H2 z (.lst [])) := same_upd nz
      generalize hH3 : upd H2 z (.lst []) = H3 at sz
      have ez : H3 z = some (.lst []) := by
        rw [← hH3]
        exact upd_same
      clear hH3
      have b3 : But L H H3 := (b1.trans b2).same sz
      have e3 := sz _ _ e2
      have hS3 := sz _ _ hS2
      refine ⟨.list (dInts ns), .list [], .lst (.inl (.inl hS3)) (dp_ints ns), .lst (.inl (.inl ez)) .nil, shaped_ints ns, rfl, _, rfl, ?_⟩
      rw [eqv_nil]
      have back3 : ∀ r' v : Int, 0 ≤ r' → 0 ≤ v → v < m → Q (.int v) (upd H3 L (.lst [.ref S, .int r', .int (t + 1), .int (p + 1)])) := fun r' v x y z =>
        have b34 : But L H3 (upd H3 L (.lst [.ref S, .int r', .int (t + 1), .int (p + 1)])) := But.upd
        back _ r' (p + 1) v (b3.trans b34) (b34 _ _ nSF hS3) upd_same (by omega) x y z
      have sq := sq_small t0 (by omega)
      refine ite2 (fun c => ?_) (fun c => ?_)
      · have hne : 0 < (ns.map V.int).length := by
          cases ns with
          | nil => exact absurd c (by decide)
          | cons x xs => simp
        have i0 := Int.emod_nonneg p (show ((ns.map V.int).length : Int) ≠ 0 by omega)
        have i1 := Int.emod_lt_of_pos p (show (0 : Int) < (ns.map V.int).length by omega)
        obtain ⟨j, hj⟩ : ∃ j : Nat, p % ((ns.map V.int).length : Int) = (j : Int) := ⟨_, (Int.toNat_of_nonneg i0).symm⟩
        have hjl : j < ns.length := by
          rw [hj, List.length_map] at i1
          omega
        have gj : (ns.map V.int)[j]? = some (.int ns[j]) := by
          rw [List.getElem?_map, List.getElem?_eq_getElem hjl]
          rfl
        refine ⟨.ref L, rfl, L, _, 0, _, rfl, rfl, .inl (.inl e3), atI_nat (j := 0) rfl, _, rfl, .ref L, rfl, L, _, 0, _, rfl, rfl, .inl (.inl e3), atI_nat (j := 0) rfl, S, _, rfl, .inl (.inl (.inl hS3)), p, _, rfl, rfl, by omega, S, _, _, _, rfl, rfl, .inl (.inl hS3), (by rw [hj]; exact atI_nat gj), ?_⟩
        show tSeq _ _ _ [some (.ref L), some (.int m), some (.int t), none, some (.int p), some (.int _), none] _
        have mix : ∀ cell : Int, 0 ≤ cell % 2147483549 + 6733 * t * t + 401 * t + 173 ∧ cell % 2147483549 + 6733 * t * t + 401 * t + 173 < 2 ^ 57 := fun cell => by
          have a := Int.emod_nonneg cell (show (2147483549 : Int) ≠ 0 by decide)
          have b := Int.emod_lt_of_pos cell (show (0 : Int) < 2147483549 by decide)
          omega
        refine ⟨_, rfl, _, _, rfl, rfl, ⟨by decide, by decide, by decide⟩, _, _, rfl, rfl, _, rfl, ite2 (fun c1 => ?_) (fun c1 => ?_)⟩
        · refine ⟨_, rfl, .ref L, rfl, L, _, 0, _, rfl, rfl, .inl (.inl e3), atI_nat (j := 0) rfl, S, _, rfl, .inl (.inl (.inl hS3)), _, _, rfl, rfl, _, rfl, ite2 (fun c2 => ?_) (fun c2 => ?_)⟩
          · refine ⟨_, rfl, _, rfl, _, _, rfl, rfl, wide_div (b := 60) m0 (by omega) (by omega) (by omega), .ref L, rfl, L, _, 1, 1, rfl, rfl, e3, rfl, ?_⟩
            refine ⟨_, rfl, _, rfl, _, _, rfl, rfl, m0, ?_⟩
            exact back3 _ _ (Int.ediv_nonneg (Int.le_trans (by decide) (of_decide_eq_true c1)) (by omega)) (Int.emod_nonneg _ (by omega)) (Int.emod_lt_of_pos _ m0)
          · refine ⟨_, rfl, _, _, rfl, rfl, (by show (0 : Int) < _; decide), _, rfl, _, _, rfl, rfl, wide_mul (a := 60) (b := 60) (by decide) (by omega) (by decide) (by decide) (by decide), ?_⟩
            refine ⟨_, rfl, _, _, rfl, rfl, wide_mul (a := 60) (b := 60) (by omega) (by omega) (by decide) (by decide) (by decide), _, _, rfl, rfl, ?_⟩
            refine ⟨_, rfl, _, _, rfl, rfl, wide_mul (a := 60) (b := 60) (by decide) (by omega) (by decide) (by decide) (by decide), _, _, rfl, rfl, _, _, rfl, rfl, ?_⟩
            show tSeq _ _ _ [some (.ref L), some (.int m), some (.int t), none, some (.int p), some (.int _), some (.int (_ % 2147483549 + 6733 * t * t + 401 * t + 173))] _
            have mx := mix ns[j]
            generalize ns[j] % 2147483549 + 6733 * t * t + 401 * t + 173 = x1 at mx ⊢
            refine ⟨_, rfl, _, rfl, _, _, rfl, rfl, wide_mul (a := 60) (b := 60) (by omega) (by omega) (by decide) (by decide) (by decide), ?_⟩
            refine ⟨_, rfl, _, _, rfl, rfl, wide_mul (a := 60) (b := 60) (by decide) (by omega) (by decide) (by decide) (by decide), _, _, rfl, rfl, _, _, rfl, rfl, _, _, rfl, rfl, (by show (0 : Int) < _; decide), ?_⟩
            show tSeq _ _ _ [some (.ref L), some (.int m), some (.int t), none, some (.int p), some (.int _), some (.int ((x1 * x1 + 39119 * t + 41) % 2147483629))] _
            have y0 := Int.emod_nonneg (x1 * x1 + 39119 * t + 41) (show (2147483629 : Int) ≠ 0 by decide)
            have y1 := Int.emod_lt_of_pos (x1 * x1 + 39119 * t + 41) (show (0 : Int) < 2147483629 by decide)
            generalize (x1 * x1 + 39119 * t + 41) % 2147483629 = x2 at y0 y1 ⊢
            refine ⟨_, rfl, _, rfl, _, _, rfl, rfl, wide_mul (a := 60) (b := 60) (by omega) (by omega) (by decide) (by decide) (by decide), ?_⟩
            refine ⟨_, rfl, _, _, rfl, rfl, wide_mul (a := 60) (b := 60) (by decide) (by omega) (by decide) (by decide) (by decide), _, _, rfl, rfl, _, _, rfl, rfl, (by show (0 : Int) < _; decide), ?_⟩
            refine ⟨_, _, rfl, rfl, wide_div (b := 60) (by decide) (by decide) (by omega) (by omega), _, rfl, _, _, rfl, rfl, m0, ?_⟩
            exact back H3 r (p + 1) _ b3 hS3 e3 (by omega) r0 (Int.emod_nonneg _ (by omega)) (Int.emod_lt_of_pos _ m0)
        · refine ⟨_, rfl, _, _, rfl, rfl, (by show (0 : Int) < _; decide), _, rfl, _, _, rfl, rfl, wide_mul (a := 60) (b := 60) (by decide) (by omega) (by decide) (by decide) (by decide), ?_⟩
          refine ⟨_, rfl, _, _, rfl, rfl, wide_mul (a := 60) (b := 60) (by omega) (by omega) (by decide) (by decide) (by decide), _, _, rfl, rfl, ?_⟩
          refine ⟨_, rfl, _, _, rfl, rfl, wide_mul (a := 60) (b := 60) (by decide) (by omega) (by decide) (by decide) (by decide), _, _, rfl, rfl, _, _, rfl, rfl, ?_⟩
          show tSeq _ _ _ [some (.ref L), some (.int m), some (.int t), none, some (.int p), some (.int _), some (.int (_ % 2147483549 + 6733 * t * t + 401 * t + 173))] _
          have mx := mix ns[j]
          generalize ns[j] % 2147483549 + 6733 * t * t + 401 * t + 173 = x1 at mx ⊢
          refine ⟨_, rfl, _, rfl, _, _, rfl, rfl, wide_mul (a := 60) (b := 60) (by omega) (by omega) (by decide) (by decide) (by decide), ?_⟩
          refine ⟨_, rfl, _, _, rfl, rfl, wide_mul (a := 60) (b := 60) (by decide) (by omega) (by decide) (by decide) (by decide), _, _, rfl, rfl, _, _, rfl, rfl, _, _, rfl, rfl, (by show (0 : Int) < _; decide), ?_⟩
          show tSeq _ _ _ [some (.ref L), some (.int m), some (.int t), none, some (.int p), some (.int _), some (.int ((x1 * x1 + 39119 * t + 41) % 2147483629))] _
          have y0 := Int.emod_nonneg (x1 * x1 + 39119 * t + 41) (show (2147483629 : Int) ≠ 0 by decide)
          have y1 := Int.emod_lt_of_pos (x1 * x1 + 39119 * t + 41) (show (0 : Int) < 2147483629 by decide)
          generalize (x1 * x1 + 39119 * t + 41) % 2147483629 = x2 at y0 y1 ⊢
          refine ⟨_, rfl, _, rfl, _, _, rfl, rfl, wide_mul (a := 60) (b := 60) (by omega) (by omega) (by decide) (by decide) (by decide), ?_⟩
          refine ⟨_, rfl, _, _, rfl, rfl, wide_mul (a := 60) (b := 60) (by decide) (by omega) (by decide) (by decide) (by decide), _, _, rfl, rfl, _, _, rfl, rfl, (by show (0 : Int) < _; decide), ?_⟩
          refine ⟨_, _, rfl, rfl, wide_div (b := 60) (by decide) (by decide) (by omega) (by omega), _, rfl, _, _, rfl, rfl, m0, ?_⟩
          exact back H3 r (p + 1) _ b3 hS3 e3 (by omega) r0 (Int.emod_nonneg _ (by omega)) (Int.emod_lt_of_pos _ m0)
      · show tSeq _ _ _ [some (.ref L), some (.int m), some (.int t), none, some (.int p), some (.int _), none] _
        have mix : ∀ cell : Int, 0 ≤ cell % 2147483549 + 6733 * t * t + 401 * t + 173 ∧ cell % 2147483549 + 6733 * t * t + 401 * t + 173 < 2 ^ 57 := fun cell => by
          have a := Int.emod_nonneg cell (show (2147483549 : Int) ≠ 0 by decide)
          have b := Int.emod_lt_of_pos cell (show (0 : Int) < 2147483549 by decide)
          omega
        refine ⟨_, rfl, _, _, rfl, rfl, ⟨by decide, by decide, by decide⟩, _, _, rfl, rfl, _, rfl, ite2 (fun c1 => ?_) (fun c1 => ?_)⟩
        · refine ⟨_, rfl, .ref L, rfl, L, _, 0, _, rfl, rfl, .inl (.inl e3), atI_nat (j := 0) rfl, S, _, rfl, .inl (.inl (.inl hS3)), _, _, rfl, rfl, _, rfl, ite2 (fun c2 => ?_) (fun c2 => ?_)⟩
          · refine ⟨_, rfl, _, rfl, _, _, rfl, rfl, wide_div (b := 60) m0 (by omega) (by omega) (by omega), .ref L, rfl, L, _, 1, 1, rfl, rfl, e3, rfl, ?_⟩
            refine ⟨_, rfl, _, rfl, _, _, rfl, rfl, m0, ?_⟩
            exact back3 _ _ (Int.ediv_nonneg (Int.le_trans (by decide) (of_decide_eq_true c1)) (by omega)) (Int.emod_nonneg _ (by omega)) (Int.emod_lt_of_pos _ m0)
          · refine ⟨_, rfl, _, _, rfl, rfl, (by show (0 : Int) < _; decide), _, rfl, _, _, rfl, rfl, wide_mul (a := 60) (b := 60) (by decide) (by omega) (by decide) (by decide) (by decide), ?_⟩
            refine ⟨_, rfl, _, _, rfl, rfl, wide_mul (a := 60) (b := 60) (by omega) (by omega) (by decide) (by decide) (by decide), _, _, rfl, rfl, ?_⟩
            refine ⟨_, rfl, _, _, rfl, rfl, wide_mul (a := 60) (b := 60) (by decide) (by omega) (by decide) (by decide) (by decide), _, _, rfl, rfl, _, _, rfl, rfl, ?_⟩
            show tSeq _ _ _ [some (.ref L), some (.int m), some (.int t), none, some (.int p), some (.int _), some (.int (_ % 2147483549 + 6733 * t * t + 401 * t + 173))] _
            have mx := mix 8
            generalize 8 % 2147483549 + 6733 * t * t + 401 * t + 173 = x1 at mx ⊢
            refine ⟨_, rfl, _, rfl, _, _, rfl, rfl, wide_mul (a := 60) (b := 60) (by omega) (by omega) (by decide) (by decide) (by decide), ?_⟩
            refine ⟨_, rfl, _, _, rfl, rfl, wide_mul (a := 60) (b := 60) (by decide) (by omega) (by decide) (by decide) (by decide), _, _, rfl, rfl, _, _, rfl, rfl, _, _, rfl, rfl, (by show (0 : Int) < _; decide), ?_⟩
            show tSeq _ _ _ [some (.ref L), some (.int m), some (.int t), none, some (.int p), some (.int _), some (.int ((x1 * x1 + 39119 * t + 41) % 2147483629))] _
            have y0 := Int.emod_nonneg (x1 * x1 + 39119 * t + 41) (show (2147483629 : Int) ≠ 0 by decide)
            have y1 := Int.emod_lt_of_pos (x1 * x1 + 39119 * t + 41) (show (0 : Int) < 2147483629 by decide)
            generalize (x1 * x1 + 39119 * t + 41) % 2147483629 = x2 at y0 y1 ⊢
            refine ⟨_, rfl, _, rfl, _, _, rfl, rfl, wide_mul (a := 60) (b := 60) (by omega) (by omega) (by decide) (by decide) (by decide), ?_⟩
            refine ⟨_, rfl, _, _, rfl, rfl, wide_mul (a := 60) (b := 60) (by decide) (by omega) (by decide) (by decide) (by decide), _, _, rfl, rfl, _, _, rfl, rfl, (by show (0 : Int) < _; decide), ?_⟩
            refine ⟨_, _, rfl, rfl, wide_div (b := 60) (by decide) (by decide) (by omega) (by omega), _, rfl, _, _, rfl, rfl, m0, ?_⟩
            exact back H3 r (p + 1) _ b3 hS3 e3 (by omega) r0 (Int.emod_nonneg _ (by omega)) (Int.emod_lt_of_pos _ m0)
        · refine ⟨_, rfl, _, _, rfl, rfl, (by show (0 : Int) < _; decide), _, rfl, _, _, rfl, rfl, wide_mul (a := 60) (b := 60) (by decide) (by omega) (by decide) (by decide) (by decide), ?_⟩
          refine ⟨_, rfl, _, _, rfl, rfl, wide_mul (a := 60) (b := 60) (by omega) (by omega) (by decide) (by decide) (by decide), _, _, rfl, rfl, ?_⟩
          refine ⟨_, rfl, _, _, rfl, rfl, wide_mul (a := 60) (b := 60) (by decide) (by omega) (by decide) (by decide) (by decide), _, _, rfl, rfl, _, _, rfl, rfl, ?_⟩
          show tSeq _ _ _ [some (.ref L), some (.int m), some (.int t), none, some (.int p), some (.int _), some (.int (_ % 2147483549 + 6733 * t * t + 401 * t + 173))] _
          have mx := mix 8
          generalize 8 % 2147483549 + 6733 * t * t + 401 * t + 173 = x1 at mx ⊢
          refine ⟨_, rfl, _, rfl, _, _, rfl, rfl, wide_mul (a := 60) (b := 60) (by omega) (by omega) (by decide) (by decide) (by decide), ?_⟩
          refine ⟨_, rfl, _, _, rfl, rfl, wide_mul (a := 60) (b := 60) (by decide) (by omega) (by decide) (by decide) (by decide), _, _, rfl, rfl, _, _, rfl, rfl, _, _, rfl, rfl, (by show (0 : Int) < _; decide), ?_⟩
          show tSeq _ _ _ [some (.ref L), some (.int m), some (.int t), none, some (.int p), some (.int _), some (.int ((x1 * x1 + 39119 * t + 41) % 2147483629))] _
          have y0 := Int.emod_nonneg (x1 * x1 + 39119 * t + 41) (show (2147483629 : Int) ≠ 0 by decide)
          have y1 := Int.emod_lt_of_pos (x1 * x1 + 39119 * t + 41) (show (0 : Int) < 2147483629 by decide)
          generalize (x1 * x1 + 39119 * t + 41) % 2147483629 = x2 at y0 y1 ⊢
          refine ⟨_, rfl, _, rfl, _, _, rfl, rfl, wide_mul (a := 60) (b := 60) (by omega) (by omega) (by decide) (by decide) (by decide), ?_⟩
          refine ⟨_, rfl, _, _, rfl, rfl, wide_mul (a := 60) (b := 60) (by decide) (by omega) (by decide) (by decide) (by decide), _, _, rfl, rfl, _, _, rfl, rfl, (by show (0 : Int) < _; decide), ?_⟩
          refine ⟨_, _, rfl, rfl, wide_div (b := 60) (by decide) (by decide) (by omega) (by omega), _, rfl, _, _, rfl, rfl, m0, ?_⟩
          exact back H3 r (p + 1) _ b3 hS3 e3 (by omega) r0 (Int.emod_nonneg _ (by omega)) (Int.emod_lt_of_pos _ m0)
end
end K55

set_option Elab.async false
set_option linter.all false
set_option maxRecDepth 100000
set_option maxHeartbeats 1000000
namespace K55
open PySem PySem.Spec PyProof.Rows L2 TB

theorem scJo : FnScope ["_law_coil_here", "_law_many_now", "_law_base", "_law_found", "_law_k", "_law_start", "_law_stop"] ["_law_coil_here", "_law_many_now"] (defScope sJo) := ⟨rfl, rfl, rfl, by decide +kernel, rfl, by decide +kernel, by decide +kernel⟩
theorem scWi : FnScope ["jobs", "begin", "end", "starts", "ends", "pieces"] ["jobs", "begin", "end"] (defScope sWi) := ⟨rfl, rfl, rfl, by decide +kernel, rfl, by decide +kernel, by decide +kernel⟩
theorem scLj : FnScope ["jobs", "by", "begin", "end", "pieces"] ["jobs", "by"] (defScope sLj) := ⟨rfl, rfl, rfl, by decide +kernel, rfl, by decide +kernel, by decide +kernel⟩
theorem scLa : FnScope ["_law_tasks", "_law_many", "_law_start", "_law_stop", "_law_pieces"] ["_law_tasks", "_law_many"] (defScope sLa) := ⟨rfl, rfl, rfl, by decide +kernel, rfl, by decide +kernel, by decide +kernel⟩
abbrev J3 : Type := Int × Int × Int
def dJob (j : J3) : PyData := .tuple [.int j.1, .int j.2.1, .int j.2.2]
def okJ (j : J3) : Prop := 0 ≤ j.1 ∧ j.1 ≤ j.2.1 ∧ j.2.1 < 2000 ∧ 0 ≤ j.2.2 ∧ j.2.2 < 2000
def dJobs (js : List J3) : PyData := .tuple (js.map dJob)
theorem noL_job (j : J3) : noL (dJob j) = true := rfl
theorem noL_jobs (js : List J3) : noL (dJobs js) = true := by
  show noLs (js.map dJob) = true
  refine noLs_of fun d hd => ?_
  obtain ⟨j, _, rfl⟩ := List.mem_map.mp hd
  rfl
theorem pick_int {ns : List Int} {v : Int} (h0 : 0 ≤ v) (h1 : v < ns.length) : ∃ n ∈ ns, atI (ns.map V.int) v = some (.int n) := by
  obtain ⟨j, rfl⟩ : ∃ j : Nat, v = (j : Int) := ⟨v.toNat, (Int.toNat_of_nonneg h0).symm⟩
  have hj : j < ns.length := by omega
  refine ⟨ns[j], List.getElem_mem hj, atI_nat ?_⟩
  rw [List.getElem?_map, List.getElem?_eq_getElem hj]
  rfl
theorem _root_.TB.Acc.coil {K : PySem.W.Frag} {H H' : Hp} {D L S : Addr} {T : Int} {ds : List PyData} (a : Acc K H D ds) (f : Coil H L S T) (k : But L H H') (n : D ≠ L) : Acc K H' D ds := by
  obtain ⟨zs, ez⟩ := f.there
  exact a.but k ez n
section
variable {P : Program} {w : World} {K : PySem.W.Frag} {mg : Str → Option Value} {base : Heap}
/-! ### _law_jobs -/
def spJo (K : PySem.W.Frag) : Sp := fun vs H Q _ => ∃ (F S : Addr) (T : Int), vs = [.ref F, .int 6] ∧ Coil H F S T ∧ T < 900000 ∧
  ∀ (H' : Hp) (v : V) (js : List J3), But F H H' → Coil H' F S (T + 50) → Dp K H' v (dJobs js) → (∀ j ∈ js, okJ j) → js.length ≤ 6 → Q v H'
theorem ok_jo {f fR : Addr} {fd fdR : FuncData} (F : Fun K "_law_jobs" "_law_jobs" sJo f fd)
    (GR : FnOk P w K mg base CX0 1 fR fdR ["_law_coil_here", "_law_many"] spPull) (kR : PySem.W.keepIn K (.ref fR) = true) (bR : Binds K fdR ["_law_coil_here", "_law_many"] []) (gR : mg "_law_pull" = some (.ref fR))
    (m_range : mg "range" = none) (m_tuple : mg "tuple" = none) : FnOk P w K mg base CX0 2 f fd ["_law_coil_here", "_law_many_now"] (spJo K) := by
  refine F.ok scJo (fun vs H Q E h => ?_) (fun cdv A outer s H vs Q E hr h => ?_)
  · obtain ⟨a, S, T, rfl, _⟩ := h
    rfl
  · obtain ⟨L, S, T, rfl, hF, hT, q⟩ := h
    refine ⟨_, (pss_cons (ps_set (i := 2) scJo.nd rfl (.inl rfl) (pe_ix ix_list (pe_lst (pa_cons pe_int (pa_cons (pe_call GR (hr.mono (by decide)) (by rfl) gR kR bR .nil pass0 (pa_cons (pv 0) (pa_cons pe_int pa_nil))) (pa_cons pe_int pa_nil)))) (pe_call GR (hr.mono (by decide)) (by rfl) gR kR bR .nil pass0 (pa_cons (pv 0) (pa_cons pe_int pa_nil))) (fun _ _ => rfl)))
      (pss_cons (ps_set (i := 3) scJo.nd rfl (.inl rfl) (pe_lst pa_nil))
      (pss_cons (ps_for PassesOwn.never rfl (pi_range1 (by rfl) m_range (pa_cons (pe_call GR (hr.mono (by decide)) (by rfl) gR kR bR .nil pass0 (pa_cons (pv 0) (pa_cons (pe_op op_add (pv 1) pe_int) pa_nil))) pa_nil)) (pg_name (i := 4) scJo.nd rfl (.inl rfl)) (pss_cons (ps_set (i := 5) scJo.nd rfl (.inl rfl) (pe_op op_add (pv 2) (pe_call GR (hr.mono (by decide)) (by rfl) gR kR bR .nil pass0 (pa_cons (pv 0) (pa_cons pe_int pa_nil)))))
      (pss_cons (ps_set (i := 6) scJo.nd rfl (.inl rfl) (pe_op op_add (pv 5) (pe_ix ix_list (pe_lst (pa_cons pe_int (pa_cons pe_int (pa_cons pe_int (pa_cons pe_int (pa_cons pe_int (pa_cons (pe_op op_add pe_int (pe_call GR (hr.mono (by decide)) (by rfl) gR kR bR .nil pass0 (pa_cons (pv 0) (pa_cons pe_int pa_nil)))) pa_nil))))))) (pe_call GR (hr.mono (by decide)) (by rfl) gR kR bR .nil pass0 (pa_cons (pv 0) (pa_cons pe_int pa_nil))) (fun _ _ => rfl))))
      (pss_cons (ps_if (pt_cmpR op_eq (pe_call GR (hr.mono (by decide)) (by rfl) gR kR bR .nil pass0 (pa_cons (pv 0) (pa_cons pe_int pa_nil))) pe_int (nomark _)) (pss_one (ps_set (i := 6) scJo.nd rfl (.inl rfl) (pv 5))) pss_nil)
      (pss_one (ps_expr (pe_bm PySem.F.plainAttrs_list PySem.F.slot_list_append PySem.F.type_list_append mt_append (pv 3) (pa_cons (pe_tup (pa_cons (pv 5) (pa_cons (pv 6) (pa_cons (pe_ix ix_list (pe_lst (pa_cons (pe_call GR (hr.mono (by decide)) (by rfl) gR kR bR .nil pass0 (pa_cons (pv 0) (pa_cons pe_int pa_nil))) (pa_cons pe_int (pa_cons pe_int (pa_cons pe_int (pa_cons pe_int (pa_cons pe_int pa_nil))))))) (pe_call GR (hr.mono (by decide)) (by rfl) gR kR bR .nil pass0 (pa_cons (pv 0) (pa_cons pe_int pa_nil))) (fun _ _ => rfl)) pa_nil)))) pa_nil))))))))
      (pss_one (ps_ret (pe_callTy call_tuple_of (by rfl) m_tuple (by decide +kernel) (pa_cons (pv 3) pa_nil))))))), ?_⟩
    -- base
    refine ⟨_, rfl, L, S, 30, T, rfl, by decide, by decide, hF, by omega, fun H1 v1 k1 f1 l1 u1 => ?_⟩
    refine ⟨by show (3 : Nat) ≤ sizeLine; decide, fun p1 n1 => ?_⟩
    have s1 : Same H1 (upd H1 p1 (.lst ([0, v1, 380].map V.int))) := same_upd n1
    refine ⟨_, rfl, L, S, 3, _, rfl, by decide, by decide, f1.same s1, by omega, fun H2 v2 k2 f2 l2 u2 => ?_⟩
    have e2 : H2 p1 = some (.lst ([0, v1, 380].map V.int)) := k2 _ _ (f1.ne n1).1 upd_same
    obtain ⟨b, hb, eb⟩ := pick_int (ns := [0, v1, 380]) l2 u2
    have b01 : 0 ≤ b ∧ b ≤ 380 := by
      simp only [List.mem_cons, List.not_mem_nil, or_false] at hb
      omega
    refine ⟨p1, _, _, _, rfl, rfl, .inl (.inl e2), eb, ?_⟩
    have kk2 : But L H H2 := (k1.same s1).trans k2
    -- found
    refine ⟨Nat.zero_le _, fun D nD => ?_⟩
    have sD : Same H2 (upd H2 D (.lst [])) := same_upd nD
    show tSeq _ _ _ [some (.ref L), some (.int 6), some (.int b), some (.ref D), none, none, none] _
    refine ⟨_, rfl, _, rfl, _, _, rfl, rfl, L, S, 7, _, rfl, by decide, by decide, f2.same sD, by omega, fun H3 n k3 f3 l3 u3 => ?_⟩
    have nDL := (f2.ne nD).1
    have nD2 := f2.ne nD
    have nDH : H D = none := by
      obtain ⟨zs, ez⟩ := f2.there
      exact kk2.free ez nD
    have a3 : Acc K H3 D [] := (Acc.start (K := K) (H := H2)).coil (f2.same sD) k3 nDL
    refine ⟨n, rfl, by omega, by omega, ?_⟩
    refine for_range (lo := 0) (n := n.toNat) (fun i σ H4 => ∃ y4 y5 y6 js, σ = [some (.ref L), some (.int 6), some (.int b), some (.ref D), y4, y5, y6] ∧ But L H H4 ∧ Coil H4 L S (T + 3 + 6 * i) ∧ Acc K H4 D (js.map dJob) ∧ (∀ j ∈ js, okJ j) ∧ js.length = i)
      ⟨_, _, _, [], rfl, (kk2.same sD).trans k3, f3.mono (by omega), a3, (fun j hj => by cases hj), rfl⟩ ?_ ?_
    · rintro i σ H4 hi ⟨y4, y5, y6, js, rfl, k4, f4, a4, ok4, ln⟩
      have hi' : (i : Int) < n := by omega
      show tSeq _ _ _ [some (.ref L), some (.int 6), some (.int b), some (.ref D), some (.int (0 + (i : Int))), y5, y6] _
      refine ⟨_, rfl, _, rfl, L, S, 7, _, rfl, by decide, by decide, f4, by omega, fun H5 v5 k5 f5 l5 u5 => ?_⟩
      refine ⟨_, _, rfl, rfl, ?_⟩
      have a5 := a4.coil f4 k5 nDL
      show tSeq _ _ _ [some (.ref L), some (.int 6), some (.int b), some (.ref D), some (.int (0 + (i : Int))), some (.int (b + v5)), y6] _
      -- stop
      refine ⟨_, rfl, _, rfl, L, S, 9, _, rfl, by decide, by decide, f5, by omega, fun H6 v6 k6 f6 l6 u6 => ?_⟩
      refine ⟨_, _, rfl, rfl, by show (6 : Nat) ≤ sizeLine; decide, fun p6 n6 => ?_⟩
      have s6 : Same H6 (upd H6 p6 (.lst ([1, 2, 3, 4, 6, 1 + v6].map V.int))) := same_upd n6
      refine ⟨_, rfl, L, S, 6, _, rfl, by decide, by decide, f6.same s6, by omega, fun H7 v7 k7 f7 l7 u7 => ?_⟩
      have e7 : H7 p6 = some (.lst ([1, 2, 3, 4, 6, 1 + v6].map V.int)) := k7 _ _ (f6.ne n6).1 upd_same
      obtain ⟨g, hg, eg⟩ := pick_int (ns := [1, 2, 3, 4, 6, 1 + v6]) l7 u7
      have g01 : 0 ≤ g ∧ g ≤ 9 := by
        simp only [List.mem_cons, List.not_mem_nil, or_false] at hg
        omega
      refine ⟨p6, _, _, _, rfl, rfl, .inl (.inl e7), eg, _, _, rfl, rfl, ?_⟩
      show tSeq _ _ _ [some (.ref L), some (.int 6), some (.int b), some (.ref D), some (.int (0 + (i : Int))), some (.int (b + v5)), some (.int (b + v5 + g))] _
      have a7 := ((a5.coil f5 k6 nDL).same s6).coil (f6.same s6) k7 nDL
      refine ⟨_, rfl, L, S, 16, _, rfl, by decide, by decide, f7, by omega, fun H8 v8 k8 f8 l8 u8 => ?_⟩
      have a8 := a7.coil f7 k8 nDL
      obtain ⟨us8, eD8, _⟩ := a8.ex
      refine ⟨rfl, _, rfl, ite2 (fun c => ?_) (fun c => ?_)⟩
      · refine ⟨_, rfl, ?_⟩
        refine ⟨_, rfl, .inl ⟨rfl, _, .inl (.inl eD8)⟩, _, rfl, _, rfl, _, rfl, L, S, 6, _, rfl, by decide, by decide, f8, by omega, fun H9 v9 k9 f9 l9 u9 => ?_⟩
        refine ⟨by show (6 : Nat) ≤ sizeLine; decide, fun p9 n9 => ?_⟩
        have s9 : Same H9 (upd H9 p9 (.lst ([v9, 1, 2, 0, 3, 7].map V.int))) := same_upd n9
        refine ⟨_, rfl, L, S, 6, _, rfl, by decide, by decide, f9.same s9, by omega, fun H10 v10 k10 f10 l10 u10 => ?_⟩
        have e10 : H10 p9 = some (.lst ([v9, 1, 2, 0, 3, 7].map V.int)) := k10 _ _ (f9.ne n9).1 upd_same
        obtain ⟨pc, hpc, epc⟩ := pick_int (ns := [v9, 1, 2, 0, 3, 7]) l10 u10
        have pc01 : 0 ≤ pc ∧ pc ≤ 7 := by
          simp only [List.mem_cons, List.not_mem_nil, or_false] at hpc
          omega
        refine ⟨p9, _, _, _, rfl, rfl, .inl (.inl e10), epc, ?_⟩
        refine ⟨by show (3 : Nat) ≤ sizeLine; decide, fun t11 n11 => ?_⟩
        have s11 : Same H10 (upd H10 t11 (.tup [.int (b + v5), .int (b + v5), .int pc])) := same_upd n11
        have a10 := (((a8.coil f8 k9 nDL).same s9).coil (f9.same s9) k10 nDL).same s11
        obtain ⟨us, eD, ul, a11⟩ := a10.more (v := .ref t11) (d := dJob (b + v5, (b + v5), pc)) (.tup (.inl (.inl upd_same)) (.cons (.int _) (.cons (.int _) (.cons (.int _) .nil)))) rfl (by rw [List.length_map]; omega)
        refine ⟨D, _, _, rfl, rfl, eD, ul, ?_⟩
        refine ⟨_, _, _, js ++ [(b + v5, (b + v5), pc)], rfl, ?_, ?_, ?_, ?_, ?_⟩
        · intro c o nc e
          have hc := (((((((k4.trans k5).trans k6).same s6).trans k7).trans k8).trans k9).same s9 |>.trans k10).same s11 c o nc e
          have ne : c ≠ D := fun z => by
            rw [z, nDH] at e
            cases e
          rw [upd_ne ne]
          exact hc
        · exact ((f10.same s11).upd nD2).mono (by omega)
        · rw [List.map_append]
          exact a11
        · intro j hj
          rcases List.mem_append.mp hj with z | z
          · exact ok4 j z
          · rw [List.mem_singleton.mp z]
            exact ⟨by show 0 ≤ b + v5; omega, by show b + v5 ≤ (b + v5); omega, by show (b + v5) < 2000; omega, pc01.1, by show pc < 2000; omega⟩
        · rw [List.length_append, ln]
          rfl
      · refine ⟨_, rfl, .inl ⟨rfl, _, .inl (.inl eD8)⟩, _, rfl, _, rfl, _, rfl, L, S, 6, _, rfl, by decide, by decide, f8, by omega, fun H9 v9 k9 f9 l9 u9 => ?_⟩
        refine ⟨by show (6 : Nat) ≤ sizeLine; decide, fun p9 n9 => ?_⟩
        have s9 : Same H9 (upd H9 p9 (.lst ([v9, 1, 2, 0, 3, 7].map V.int))) := same_upd n9
        refine ⟨_, rfl, L, S, 6, _, rfl, by decide, by decide, f9.same s9, by omega, fun H10 v10 k10 f10 l10 u10 => ?_⟩
        have e10 : H10 p9 = some (.lst ([v9, 1, 2, 0, 3, 7].map V.int)) := k10 _ _ (f9.ne n9).1 upd_same
        obtain ⟨pc, hpc, epc⟩ := pick_int (ns := [v9, 1, 2, 0, 3, 7]) l10 u10
        have pc01 : 0 ≤ pc ∧ pc ≤ 7 := by
          simp only [List.mem_cons, List.not_mem_nil, or_false] at hpc
          omega
        refine ⟨p9, _, _, _, rfl, rfl, .inl (.inl e10), epc, ?_⟩
        refine ⟨by show (3 : Nat) ≤ sizeLine; decide, fun t11 n11 => ?_⟩
        have s11 : Same H10 (upd H10 t11 (.tup [.int (b + v5), .int (b + v5 + g), .int pc])) := same_upd n11
        have a10 := (((a8.coil f8 k9 nDL).same s9).coil (f9.same s9) k10 nDL).same s11
        obtain ⟨us, eD, ul, a11⟩ := a10.more (v := .ref t11) (d := dJob (b + v5, (b + v5 + g), pc)) (.tup (.inl (.inl upd_same)) (.cons (.int _) (.cons (.int _) (.cons (.int _) .nil)))) rfl (by rw [List.length_map]; omega)
        refine ⟨D, _, _, rfl, rfl, eD, ul, ?_⟩
        refine ⟨_, _, _, js ++ [(b + v5, (b + v5 + g), pc)], rfl, ?_, ?_, ?_, ?_, ?_⟩
        · intro c o nc e
          have hc := (((((((k4.trans k5).trans k6).same s6).trans k7).trans k8).trans k9).same s9 |>.trans k10).same s11 c o nc e
          have ne : c ≠ D := fun z => by
            rw [z, nDH] at e
            cases e
          rw [upd_ne ne]
          exact hc
        · exact ((f10.same s11).upd nD2).mono (by omega)
        · rw [List.map_append]
          exact a11
        · intro j hj
          rcases List.mem_append.mp hj with z | z
          · exact ok4 j z
          · rw [List.mem_singleton.mp z]
            exact ⟨by show 0 ≤ b + v5; omega, by show b + v5 ≤ (b + v5 + g); omega, by show (b + v5 + g) < 2000; omega, pc01.1, by show pc < 2000; omega⟩
        · rw [List.length_append, ln]
          rfl
    · rintro σ H4 ⟨y4, y5, y6, js, rfl, k4, f4, a4, ok4, ln⟩
      obtain ⟨us, eD, dv⟩ := a4.ex
      refine ⟨_, rfl, D, _, rfl, .inl ⟨.inl (.inl eD), fun tp ntp => ?_⟩⟩
      have st : Same H4 (upd H4 tp (.tup us)) := same_upd ntp
      exact q _ _ js (k4.same st) ((f4.same st).mono (by omega)) (Acc.tuple (D := D) dv ntp) ok4 (by omega)
/-! ### later_jobs, _law_later -/
def ltJ (l : Int) (j : J3) : J3 := (j.1, j.2.1 + l, j.2.2)
def spLt (K : PySem.W.Frag) : Sp := fun vs H Q _ => ∃ (v : V) (js : List J3) (l : Int), vs = [v, .int l] ∧ Dp K H v (dJobs js) ∧ js.length ≤ 500 ∧
  ∀ H' r, Same H H' → Dp K H' r (dJobs (js.map (ltJ l))) → Q r H'
theorem ok_lt {f : Addr} {fd : FuncData} {k : Nat} {dvs : List V} (F : FunD K "later_jobs" "later_jobs" (defArgs sLj) (defBody sLj) (defScope sLj) dvs [] f fd) (m_tuple : mg "tuple" = none) : FnOk P w K mg base CX0 (k + 1) f fd ["jobs", "by"] (spLt K) := by
  refine F.ok scLj (fun vs H Q E h => ?_) (fun cdv A outer s H vs Q E hr h => ?_)
  · obtain ⟨v, js, l, rfl, _⟩ := h
    rfl
  · obtain ⟨v, js, l, rfl, hd, hl, q⟩ := h
    refine ⟨_, (pss_one (ps_ret (pe_callTy call_tuple_of (by rfl) m_tuple (by decide +kernel) (pa_cons (pe_lc (own := [("begin", 2), ("end", 3), ("pieces", 4)]) (g := gTup K 3 (gCons (gName 2) (gCons (gName 3) (gCons (gName 4) gNil)))) (tt := tYes) rfl scLj.nd (pi_tup (pv 0)) (blkOk_by (own := [("begin", 2), ("end", 3), ("pieces", 4)]) (N := ["jobs", "by", "begin", "end", "pieces"]) (sc := defScope sLj) (by decide +kernel)) (fun _ _ _ _ _ => (pg_tup rfl (pgs_cons (pg_name (i := 2) scLj.nd rfl (.inl rfl)) (pgs_cons (pg_name (i := 3) scLj.nd rfl (.inl rfl)) (pgs_cons (pg_name (i := 4) scLj.nd rfl (.inl rfl)) pgs_nil))))) (fun _ _ _ _ _ => pts_nil) (fun _ _ _ _ _ => (pe_tup (pa_cons (pv 2) (pa_cons (pe_op op_add (pv 3) (pv 1)) (pa_cons (pv 4) pa_nil)))))) pa_nil)))), ?_⟩
    obtain ⟨a, xs, rfl, hA, dA⟩ := Dp.tup_inv hd
    have hxl := DpAll.len dA
    rw [List.length_map] at hxl
    refine ⟨_, rfl, a, rfl, ⟨_, hA⟩, fun D nD => ?_⟩
    refine lc_tup (xs := xs) (fun i H1 => Same H H1 ∧ Acc K H1 D ((js.take i).map fun j => dJob (ltJ l j))) ⟨same_upd nD, Acc.start⟩ ?_ ?_ ?_
    · rintro i H1 _ ⟨sm, _⟩
      exact TB.Same.tup sm hA
    · rintro i x H1 hx ⟨sm, ac⟩
      obtain ⟨d, hd, dx⟩ := DpAll.get dA hx
      obtain ⟨j, hj, rfl⟩ := map_get hd
      obtain ⟨t, rfl, hT⟩ := Dp.three dx
      refine ⟨t, _, rfl, TB.Same.tup sm hT, rfl, _, _, rfl, _, _, rfl, _, _, rfl, rfl, rfl, yes (iteT ?_)⟩
      have hil : ((js.take i).map fun j => dJob (ltJ l j)).length ≤ 900 := by
        rw [List.length_map, List.length_take]
        omega
      refine ⟨_, rfl, _, rfl, _, rfl, _, _, rfl, rfl, _, rfl, by show (3 : Nat) ≤ sizeLine; decide, fun t2 n2 => ?_⟩
      refine Acc.turn nD sm ac (same_upd n2) (d := dJob (ltJ l j)) ?_ rfl hil (map_take_more hj)
      exact .tup (.inl (.inl upd_same)) (.cons (.int _) (.cons (.int _) (.cons (.int _) .nil)))
    · rintro H1 ⟨sm, ac⟩
      obtain ⟨us, eD, dv⟩ := ac.ex
      rw [List.take_of_length_le (by omega)] at dv
      refine ⟨D, _, rfl, .inl ⟨.inl (.inl eD), fun tp ntp => ?_⟩⟩
      refine q _ _ (sm.trans (same_upd ntp)) ?_
      have := Acc.tuple (D := D) dv ntp
      unfold dJobs
      rw [List.map_map]
      exact this
theorem ok_la {f : Addr} {fd : FuncData} {k : Nat} (F : Fun K "_law_later" "_law_later" sLa f fd) (m_tuple : mg "tuple" = none) : FnOk P w K mg base CX0 (k + 1) f fd ["_law_tasks", "_law_many"] (spLt K) := by
  refine F.ok scLa (fun vs H Q E h => ?_) (fun cdv A outer s H vs Q E hr h => ?_)
  · obtain ⟨v, js, l, rfl, _⟩ := h
    rfl
  · obtain ⟨v, js, l, rfl, hd, hl, q⟩ := h
    refine ⟨_, (pss_one (ps_ret (pe_callTy call_tuple_of (by rfl) m_tuple (by decide +kernel) (pa_cons (pe_lc (own := [("_law_start", 2), ("_law_stop", 3), ("_law_pieces", 4)]) (g := gTup K 3 (gCons (gName 2) (gCons (gName 3) (gCons (gName 4) gNil)))) (tt := tYes) rfl scLa.nd (pi_tup (pv 0)) (blkOk_by (own := [("_law_start", 2), ("_law_stop", 3), ("_law_pieces", 4)]) (N := ["_law_tasks", "_law_many", "_law_start", "_law_stop", "_law_pieces"]) (sc := defScope sLa) (by decide +kernel)) (fun _ _ _ _ _ => (pg_tup rfl (pgs_cons (pg_name (i := 2) scLa.nd rfl (.inl rfl)) (pgs_cons (pg_name (i := 3) scLa.nd rfl (.inl rfl)) (pgs_cons (pg_name (i := 4) scLa.nd rfl (.inl rfl)) pgs_nil))))) (fun _ _ _ _ _ => pts_nil) (fun _ _ _ _ _ => (pe_tup (pa_cons (pv 2) (pa_cons (pe_op op_add (pv 3) (pv 1)) (pa_cons (pv 4) pa_nil)))))) pa_nil)))), ?_⟩
    obtain ⟨a, xs, rfl, hA, dA⟩ := Dp.tup_inv hd
    have hxl := DpAll.len dA
    rw [List.length_map] at hxl
    refine ⟨_, rfl, a, rfl, ⟨_, hA⟩, fun D nD => ?_⟩
    refine lc_tup (xs := xs) (fun i H1 => Same H H1 ∧ Acc K H1 D ((js.take i).map fun j => dJob (ltJ l j))) ⟨same_upd nD, Acc.start⟩ ?_ ?_ ?_
    · rintro i H1 _ ⟨sm, _⟩
      exact TB.Same.tup sm hA
    · rintro i x H1 hx ⟨sm, ac⟩
      obtain ⟨d, hd, dx⟩ := DpAll.get dA hx
      obtain ⟨j, hj, rfl⟩ := map_get hd
      obtain ⟨t, rfl, hT⟩ := Dp.three dx
      refine ⟨t, _, rfl, TB.Same.tup sm hT, rfl, _, _, rfl, _, _, rfl, _, _, rfl, rfl, rfl, yes (iteT ?_)⟩
      have hil : ((js.take i).map fun j => dJob (ltJ l j)).length ≤ 900 := by
        rw [List.length_map, List.length_take]
        omega
      refine ⟨_, rfl, _, rfl, _, rfl, _, _, rfl, rfl, _, rfl, by show (3 : Nat) ≤ sizeLine; decide, fun t2 n2 => ?_⟩
      refine Acc.turn nD sm ac (same_upd n2) (d := dJob (ltJ l j)) ?_ rfl hil (map_take_more hj)
      exact .tup (.inl (.inl upd_same)) (.cons (.int _) (.cons (.int _) (.cons (.int _) .nil)))
    · rintro H1 ⟨sm, ac⟩
      obtain ⟨us, eD, dv⟩ := ac.ex
      rw [List.take_of_length_le (by omega)] at dv
      refine ⟨D, _, rfl, .inl ⟨.inl (.inl eD), fun tp ntp => ?_⟩⟩
      refine q _ _ (sm.trans (same_upd ntp)) ?_
      have := Acc.tuple (D := D) dv ntp
      unfold dJobs
      rw [List.map_map]
      exact this
/-! ### within -/
def wIn (b e : Int) (j : J3) : Bool := decide (b ≤ j.1 ∧ j.2.1 ≤ e)
def wSum (js : List J3) (b e : Int) : Int := ((js.filter (wIn b e)).map fun j => j.2.2).sum
def spWi (K : PySem.W.Frag) : Sp := fun vs H Q _ => ∃ (v : V) (js : List J3) (b e : Int), vs = [v, .int b, .int e] ∧ Dp K H v (dJobs js) ∧ js.length ≤ 500 ∧
  ∀ H', Same H H' → Q (.int (wSum js b e)) H'
theorem filt_more {α β : Type} {p : α → Bool} {f : α → β} {xs : List α} {i : Nat} {x : α} (h : xs[i]? = some x) : ((xs.take (i + 1)).filter p).map f = ((xs.take i).filter p).map f ++ (if p x = true then [f x] else []) := by
  rw [take_more h, List.filter_append, List.map_append]
  congr 1
  by_cases c : p x = true
  · rw [if_pos c, List.filter_cons, if_pos c]
    rfl
  · rw [if_neg c, List.filter_cons, if_neg c]
    rfl
theorem ok_wi {f : Addr} {fd : FuncData} {k : Nat} (F : Fun K "within" "within" sWi f fd) (m_sum : mg "sum" = none) : FnOk P w K mg base CX0 (k + 1) f fd ["jobs", "begin", "end"] (spWi K) := by
  refine F.ok scWi (fun vs H Q E h => ?_) (fun cdv A outer s H vs Q E hr h => ?_)
  · obtain ⟨v, js, b, e, rfl, _⟩ := h
    rfl
  · obtain ⟨v, js, b, e, rfl, hd, hl, q⟩ := h
    refine ⟨_, (pss_one (ps_ret (pe_callB (cr_sum rfl) (by rfl) m_sum (by decide +kernel) (pa_cons (pe_lc (own := [("starts", 3), ("ends", 4), ("pieces", 5)]) (g := gTup K 3 (gCons (gName 3) (gCons (gName 4) (gCons (gName 5) gNil)))) rfl scWi.nd (pi_tup (pv 0)) (blkOk_by (own := [("starts", 3), ("ends", 4), ("pieces", 5)]) (N := ["jobs", "begin", "end", "starts", "ends", "pieces"]) (sc := defScope sWi) (by decide +kernel)) (fun _ _ _ _ _ => (pg_tup rfl (pgs_cons (pg_name (i := 3) scWi.nd rfl (.inl rfl)) (pgs_cons (pg_name (i := 4) scWi.nd rfl (.inl rfl)) (pgs_cons (pg_name (i := 5) scWi.nd rfl (.inl rfl)) pgs_nil))))) (fun _ _ _ _ _ => (pts_one (PW.pt (pw_and (pt_cmpR op_le (pv 1) (pv 3) (nomark _)) (pw_and1 (pt_cmpR op_le (pv 4) (pv 2) (nomark _))))))) (fun _ _ _ _ _ => (pv 5))) pa_nil)))), ?_⟩
    obtain ⟨a, xs, rfl, hA, dA⟩ := Dp.tup_inv hd
    have hxl := DpAll.len dA
    rw [List.length_map] at hxl
    refine ⟨_, rfl, a, rfl, ⟨_, hA⟩, fun D nD => ?_⟩
    refine lc_tup (xs := xs) (fun i H1 => Same H H1 ∧ H1 D = some (.lst ((((js.take i).filter (wIn b e)).map fun j => j.2.2).map V.int))) ⟨same_upd nD, upd_same⟩ ?_ ?_ ?_
    · rintro i H1 _ ⟨sm, _⟩
      exact TB.Same.tup sm hA
    · rintro i x H1 hx ⟨sm, eD⟩
      obtain ⟨d, hd, dx⟩ := DpAll.get dA hx
      obtain ⟨j, hj, rfl⟩ := map_get hd
      obtain ⟨t, rfl, hT⟩ := Dp.three dx
      have fm := filt_more (p := wIn b e) (f := fun j : J3 => j.2.2) hj
      refine ⟨t, _, rfl, TB.Same.tup sm hT, rfl, _, _, rfl, _, _, rfl, _, _, rfl, rfl, rfl, ?_⟩
      refine ⟨_, rfl, _, rfl, _, _, rfl, rfl, _, rfl, ite2 (fun c1 => ?_) (fun c1 => ?_)⟩
      · refine ⟨_, rfl, _, rfl, _, _, rfl, rfl, _, rfl, ite2 (fun c2 => ?_) (fun c2 => ?_)⟩
        · have c3 : wIn b e j = true := decide_eq_true ⟨of_decide_eq_true c1, of_decide_eq_true c2⟩
          rw [if_pos c3] at fm
          refine ⟨_, rfl, _, eD, ?_, same_new nD sm, ?_⟩
          · rw [List.length_map, List.length_map]
            have := List.length_filter_le (wIn b e) (js.take i)
            rw [List.length_take] at this
            exact small1000 (by omega)
          · rw [upd_same, fm, List.map_append]
            rfl
        · have c3 : ¬ wIn b e j = true := fun z => c2 (decide_eq_true (of_decide_eq_true z).2)
          rw [if_neg c3, List.append_nil] at fm
          exact ⟨sm, by rw [fm]; exact eD⟩
      · have c3 : ¬ wIn b e j = true := fun z => c1 (decide_eq_true (of_decide_eq_true z).1)
        rw [if_neg c3, List.append_nil] at fm
        exact iteF ⟨sm, by rw [fm]; exact eD⟩
    · rintro H1 ⟨sm, eD⟩
      rw [List.take_of_length_le (by omega)] at eD
      exact ⟨D, _, rfl, .inl (.inl eD), q _ sm⟩
end
end K55

set_option Elab.async false
set_option linter.all false
set_option maxRecDepth 100000
set_option maxHeartbeats 2000000
namespace K55
open PySem PySem.Spec PyProof.Rows L2 TB

theorem scBe : FnScope ["_law_coil_here", "_law_stuff", "_law_at", "_law_part"] ["_law_coil_here", "_law_stuff"] (defScope sBe) := ⟨rfl, rfl, rfl, by decide +kernel, rfl, by decide +kernel, by decide +kernel⟩
section
variable {P : Program} {w : World} {K : PySem.W.Frag} {mg : Str → Option Value} {base : Heap}
theorem len2 {xs : List V} (a b c d : Option Int) (h : xs.length ≤ 200) : (cutV xs a b).length + (cutV xs c d).length ≤ sizeLine := by
  have := cutV_length xs a b
  have := cutV_length xs c d
  exact Nat.le_of_lt (small1000 (by omega))
theorem len3 {xs : List V} (a b c d e f : Option Int) (h : xs.length ≤ 200) : (cutV xs a b ++ cutV xs c d).length + (cutV xs e f).length ≤ sizeLine := by
  have := cutV_length xs a b
  have := cutV_length xs c d
  have := cutV_length xs e f
  rw [List.length_append]
  exact Nat.le_of_lt (small1000 (by omega))
/-! ### _law_bent: things of a depth below k -/
def spBe (K : PySem.W.Frag) : Nat → Sp
  | 0 => fun _ _ _ _ => False
  | k + 1 => fun vs H Q _ => ∃ (L S : Addr) (T : Int) (v : V) (d : PyData) (F : List Addr) (n : Nat), vs = [.ref L, v] ∧ Coil H L S T ∧ T + 3 * (k + 1) < 900000 ∧ L ∈ F ∧ Took F H ∧ Dp K (hid F H) v d ∧ Gd n k d ∧ 2 ≤ n ∧ n ≤ 200 ∧
    ∀ (H' : Hp) (r : V) (d' : PyData), But L H H' → Coil H' L S (T + 3 * (k + 1)) → Dp K (hid F H') r d' → Gd (3 * n) (k + 1) d' → Q r H'
theorem ok_be {f fR fW : Addr} {fd fdR fdW : FuncData} (F : Fun K "_law_bent" "_law_bent" sBe f fd) (kBe : PySem.W.keepIn K (.ref f) = true) (bBe : Binds K fd ["_law_coil_here", "_law_stuff"] []) (gBe : mg "_law_bent" = some (.ref f))
    (GR : FnOk P w K mg base CX0 1 fR fdR ["_law_coil_here", "_law_many"] spPull) (kR : PySem.W.keepIn K (.ref fR) = true) (bR : Binds K fdR ["_law_coil_here", "_law_many"] []) (gR : mg "_law_pull" = some (.ref fR))
    (GWh : FnOk P w K mg base CX0 1 fW fdW ["_law_stuff"] (spKind K isNum)) (kWh : PySem.W.keepIn K (.ref fW) = true) (bWh : Binds K fdW ["_law_stuff"] []) (gWh : mg "_law_whole" = some (.ref fW))
    (m_isinstance : mg "isinstance" = none) (m_tuple : mg "tuple" = none) (m_len : mg "len" = none) (m_list : mg "list" = none) :
    ∀ k, k ≤ 20 → FnOk P w K mg base CX0 (k + 1) f fd ["_law_coil_here", "_law_stuff"] (spBe K k) := by
  intro k
  induction k with
  | zero =>
    intro _
    exact ⟨fun xs G R Z h => h.elim, fun A outer s H args us vs Q E hr e0 hb r h => h.elim⟩
  | succ k ih =>
  intro hk
  have GBe := ih (by omega)
  refine F.ok scBe (fun vs H Q E h => ?_) (fun cdv A outer s H vs Q E hr h => ?_)
  · obtain ⟨L, S, T, v, d, F', n, rfl, _⟩ := h
    rfl
  · obtain ⟨L, S, T, v, d, F', n, rfl, hC, hT, hL, tk, hd, gd, n2, n200, q⟩ := h
    refine ⟨_, (pss_cons (ps_if (PW.pt (pw_and (pt_val (pe_callB call_isi (by rfl) m_isinstance (by decide +kernel) (pa_cons (pv 1) (pa_cons (pe_bltn (v := .ty "tuple") (u := .type "tuple") (by rfl) m_tuple (by decide +kernel) rfl) pa_nil)))) (pw_and (pt_cmpR (op_neD hr.units) (pv 1) (pe_tup pa_nil) (nomark _)) (pw_and1 (pt_cmpR op_gt (pe_call GR (hr.mono (by omega)) (by rfl) gR kR bR .nil pass0 (pa_cons (pv 0) (pa_cons pe_int pa_nil))) pe_int (nomark _)))))) (pss_cons (ps_set (i := 2) scBe.nd rfl (.inl rfl) (pe_call GR (hr.mono (by omega)) (by rfl) gR kR bR .nil pass0 (pa_cons (pv 0) (pa_cons (pe_callB call_len_seq (by rfl) m_len (by decide +kernel) (pa_cons (pv 1) pa_nil)) pa_nil))))
      (pss_one (ps_ret (pe_op op_catA (pe_op op_catA (pe_slice sl_tupA (pv 1) po_none (po_some (pv 2))) (pe_tup (pa_cons (pe_call GBe (hr.mono (by omega)) (by rfl) gBe kBe bBe .nil pass0 (pa_cons (pv 0) (pa_cons (pe_ix ix_tup (pv 1) (pv 2) (fun _ _ => rfl)) pa_nil))) pa_nil))) (pe_slice sl_tupA (pv 1) (po_some (pe_op op_add (pv 2) pe_int)) po_none))))) pss_nil)
      (pss_cons (ps_if (pt_val (pe_callB call_isi (by rfl) m_isinstance (by decide +kernel) (pa_cons (pv 1) (pa_cons (pe_bltn (v := .ty "tuple") (u := .type "tuple") (by rfl) m_tuple (by decide +kernel) rfl) pa_nil)))) (pss_cons (ps_set (i := 2) scBe.nd rfl (.inl rfl) (pe_call GR (hr.mono (by omega)) (by rfl) gR kR bR .nil pass0 (pa_cons (pv 0) (pa_cons (pe_op op_add (pe_callB call_len_seq (by rfl) m_len (by decide +kernel) (pa_cons (pv 1) pa_nil)) pe_int) pa_nil))))
      (pss_cons (ps_set (i := 3) scBe.nd rfl (.inl rfl) (pe_lst (pa_cons (pe_op op_catA (pe_slice sl_tupA (pv 1) po_none (po_some (pv 2))) (pe_slice sl_tupA (pv 1) (po_some (pe_op op_add (pv 2) pe_int)) po_none)) (pa_cons (pe_op op_catA (pe_op op_catA (pe_slice sl_tupA (pv 1) po_none (po_some (pv 2))) (pe_slice sl_tupA (pv 1) (po_some (pv 2)) (po_some (pe_op op_add (pv 2) pe_int)))) (pe_slice sl_tupA (pv 1) (po_some (pv 2)) po_none)) (pa_cons (pe_callTy call_list_of (by rfl) m_list (by decide +kernel) (pa_cons (pv 1) pa_nil)) (pa_cons (pe_revT (pv 1)) pa_nil))))))
      (pss_one (ps_ret (pe_ix ix_list (pe_op op_cat (pv 3) (pe_lst (pa_cons (pe_tup pa_nil) (pa_cons (pe_op op_catA (pv 1) (pe_tup (pa_cons pe_int pa_nil))) (pa_cons pe_non (pa_cons (pe_op op_catA (pe_slice sl_tupA (pv 1) (po_some (pv 2)) po_none) (pe_slice sl_tupA (pv 1) po_none (po_some (pv 2)))) pa_nil)))))) (pe_call GR (hr.mono (by omega)) (by rfl) gR kR bR .nil pass0 (pa_cons (pv 0) (pa_cons pe_int pa_nil))) (fun _ _ => rfl)))))) pss_nil)
      (pss_cons (ps_if (pt_val (pe_call GWh (hr.mono (by omega)) (by rfl) gWh kWh bWh .nil pass0 (pa_cons (pv 1) pa_nil))) (pss_one (ps_ret (pe_ix ix_list (pe_lst (pa_cons (pe_op op_add (pv 1) pe_int) (pa_cons (pe_op op_sub (pv 1) pe_int) (pa_cons (pe_op op_sub pe_int (pv 1)) (pa_cons (pe_cmpR op_eq (pv 1) pe_int (nomark _)) (pa_cons pe_non (pa_cons pe_str (pa_cons (pe_op op_pow pe_int pe_int) (pa_cons (pe_op op_sub pe_int (pe_op op_pow pe_int pe_int)) pa_nil))))))))) (pe_call GR (hr.mono (by omega)) (by rfl) gR kR bR .nil pass0 (pa_cons (pv 0) (pa_cons pe_int pa_nil))) (fun _ _ => rfl)))) pss_nil)
      (pss_one (ps_ret (pe_ix ix_list (pe_lst (pa_cons pe_int (pa_cons (pe_tup pa_nil) (pa_cons (pe_tup (pa_cons pe_int (pa_cons pe_int pa_nil))) (pa_cons (pe_tup (pa_cons pe_int (pa_cons pe_int pa_nil))) pa_nil))))) (pe_call GR (hr.mono (by omega)) (by rfl) gR kR bR .nil pass0 (pa_cons (pv 0) (pa_cons pe_int pa_nil))) (fun _ _ => rfl))))))), ?_⟩
    have rm : ∀ {H1 : Hp}, But L H H1 → Same (hid F' H) (hid F' H1) := fun k => hid_but hL k
    have back : ∀ (H' : Hp) (r : V) (d' : PyData), But L H H' → (∃ j : Nat, j ≤ 3 ∧ Coil H' L S (T + j)) → Dp K (hid F' H') r d' → Gd (3 * n) (k + 1) d' → Q r H' := fun H' r d' a b c e => by
      obtain ⟨j, hj, b⟩ := b
      exact q H' r d' a (b.mono (by omega)) c e
    have tkb : ∀ {H1 : Hp} {T1 : Int}, But L H H1 → Coil H1 L S T1 → Took F' H1 := fun k c => by
      obtain ⟨zs, ez⟩ := c.there
      exact tk.but k ez
    obtain ⟨ty, hty, kty⟩ := isiT (Dp.same hid_sub _ _ hd)
    refine ⟨_, rfl, _, .ty "tuple", ty, .type "tuple", _, rfl, .ty _, hty, kty, _, rfl, ?_⟩
    -- what comes behind the two ifs: numbers and the others
    cases hd with
    | @tup a xs ds hA dA =>
      obtain ⟨l, rfl, hl, hds⟩ := gd.tup_inv
      have xl0 := DpAll.len dA
      have xl : xs.length ≤ 200 := by omega
      refine iteT ?_
      -- stuff != ()
      refine ⟨_, rfl, Nat.zero_le _, fun p0 n0 => ?_⟩
      have s0 := same_upd (o := .tup []) n0
      have e0 : (upd H p0 (.tup [])) p0 = some (.tup []) := upd_same
      generalize upd H p0 (.tup []) = H0 at *
      have b0 : But L H H0 := But.of s0
      refine ⟨.tuple ds, .tuple [], .tup (TB.Same.tup (hid_sub.trans s0) hA) (DpAll.same (hid_sub.trans s0) _ _ dA), .tup (.inl (.inl e0)) .nil, gd.shaped (by omega), rfl, _, rfl, ?_⟩
      rw [eqv_void]
      change ite _ _ _
      refine ite2 (fun c => ?_) (fun c => ?_)
      · have ne : 0 < ds.length := by
          cases ds with
          | nil => exact absurd c (by decide)
          | cons x xs => simp
        refine ⟨_, rfl, L, S, 5, T, rfl, by decide, by decide, hC.same s0, by omega, fun H1 v1 k1 f1 l1 u1 => ?_⟩
        have kk1 : But L H H1 := b0.trans k1
        refine ⟨_, _, rfl, rfl, _, rfl, ?_⟩
        change ite _ _ _
        refine ite2 (fun c1 => ?_) (fun c1 => ?_)
        · have hA1 : SqT K (hid F' H1) a xs := TB.Same.tup (rm kk1) hA
          refine ⟨_, rfl, _, rfl, a, _, rfl, .inr (TB.Same.tup hid_sub hA1), L, S, (xs.length : Int), _, rfl, by omega, by omega, f1, by omega, fun H2 at_ k2 f2 l2 u2 => ?_⟩
          have kk2 : But L H H2 := kk1.trans k2
          have hA2 : SqT K (hid F' H2) a xs := TB.Same.tup (rm kk2) hA
          have dA2 : DpAll K (hid F' H2) xs ds := DpAll.same (rm kk2) _ _ dA
          have t2 := tkb kk2 f2
          refine ⟨_, rfl, _, rfl, _, rfl, ?_⟩
          show rSlA _ _ none (some at_) _ _
          refine slH t2 hA2 fun H3 r1 s3 h1 => ?_
          have t3 := t2.same s3
          have dA3 : DpAll K (hid F' H3) xs ds := DpAll.same (hid_same s3) _ _ dA2
          obtain ⟨x, dx, ex, hx, mx⟩ := pickD dA3 l2 u2
          refine ⟨_, rfl, _, rfl, _, rfl, a, _, _, _, rfl, rfl, TB.Same.tup hid_sub (TB.Same.tup (hid_same s3) hA2), ex, ?_⟩
          refine ⟨L, S, T + 2, x, dx, F', n, rfl, (f2.same s3).mono (by omega), by omega, hL, t3, hx, hds _ mx, n2, n200, fun H4 r d' k4 f4 hr4 g4 => ?_⟩
          have t4 : Took F' H4 := by
            obtain ⟨zs, ez⟩ := f4.there
            exact t3.but k4 ez
          refine ⟨by show (1 : Nat) ≤ sizeLine; decide, fun p5 n5 => ?_⟩
          have s5 := same_upd (o := .tup [r]) n5
          have t5 := t4.same s5
          have h5 : SqT K (hid F' (upd H4 p5 (.tup [r]))) p5 [r] := newT t4 n5
          generalize upd H4 p5 (.tup [r]) = H5 at *
          have w35 : Same (hid F' H3) (hid F' H5) := (hid_but hL k4).trans (hid_same s5)
          refine catH t5 (TB.Same.tup w35 h1) h5 (by have := cutV_length xs none (some at_); show _ + 1 ≤ sizeLine; exact Nat.le_of_lt (small1000 (by omega))) fun H6 r2 s6 h6 => ?_
          have t6 := t5.same s6
          have w36 : Same (hid F' H3) (hid F' H6) := w35.trans (hid_same s6)
          refine ⟨_, rfl, _, rfl, _, _, rfl, rfl, _, rfl, ?_⟩
          try (show tNoPart _ _ _; unfold tNoPart)
          show rSlA _ _ (some (at_ + 1)) none _ _
          refine slH t6 (TB.Same.tup w36 (TB.Same.tup (hid_same s3) hA2)) fun H7 r3 s7 h7 => ?_
          have t7 := t6.same s7
          refine catH t7 (TB.Same.tup (hid_same s7) h6) h7 (by have := cutV_length xs none (some at_); have := cutV_length xs (some (at_ + 1)) none; rw [List.length_append]; show _ + 1 + _ ≤ sizeLine; exact Nat.le_of_lt (small1000 (by omega))) fun H8 r4 s8 h8 => ?_
          have w38 : Same (hid F' H3) (hid F' H8) := (w36.trans (hid_same s7)).trans (hid_same s8)
          have dA8 : DpAll K (hid F' H8) xs ds := DpAll.same w38 _ _ dA3
          refine q _ _ (.tuple ((cutD ds none (some at_) ++ [d']) ++ cutD ds (some (at_ + 1)) none)) ?_ ?_ (.tup h8 (DpAll.app (DpAll.app (DpAll.cut dA8) (.cons (Dp.same (hid_same (((s5.trans s6).trans s7).trans s8)) _ _ hr4) .nil)) (DpAll.cut dA8))) ?_
          · exact ((kk2.same s3).trans k4).same (((s5.trans s6).trans s7).trans s8)
          · exact (f4.same (((s5.trans s6).trans s7).trans s8)).mono (by omega)
          · refine Gd.tup ?_ fun e he => ?_
            · have := cutD_len ds none (some at_)
              have := cutD_len ds (some (at_ + 1)) none
              rw [List.length_append, List.length_append]
              show _ + 1 + _ ≤ 3 * n
              omega
            · have up : ∀ {e : PyData}, e ∈ ds → Gd (3 * n) (l + 1) e := fun he => Gd.mono (by omega) (by omega) (hds _ he)
              rcases List.mem_append.mp he with z | z
              · rcases List.mem_append.mp z with z | z
                · exact up (cutD_mem z)
                · rw [List.mem_singleton.mp z]
                  exact g4
              · exact up (cutD_mem z)
        · have hA1 : SqT K (hid F' H1) a xs := TB.Same.tup (rm kk1) hA
          have dA1 : DpAll K (hid F' H1) xs ds := DpAll.same (rm kk1) _ _ dA
          refine ⟨_, rfl, _, .ty "tuple", _, .type "tuple", true, rfl, .ty _, ty_tup (TB.Same.tup hid_sub hA1), kit_ty (by decide +kernel), _, rfl, iteT ?_⟩
          refine ⟨_, rfl, _, rfl, a, _, rfl, .inr (TB.Same.tup hid_sub hA1), _, _, rfl, rfl, L, S, (xs.length : Int) + 1, _, rfl, by omega, by omega, f1, by omega, fun H2 at_ k2 f2 l2 u2 => ?_⟩
          have kk2 : But L H H2 := But.trans kk1 k2
          show tSeq _ _ _ [some (.ref L), some (.ref a), some (.int at_), none] _
          have hA2 : SqT K (hid F' H2) a xs := TB.Same.tup (rm kk2) hA
          have dA2 : DpAll K (hid F' H2) xs ds := DpAll.same (rm kk2) _ _ dA
          have t2 := tkb kk2 f2
          -- without one
          refine ⟨_, rfl, _, rfl, _, rfl, ?_⟩
          show rSlA _ _ none (some at_) _ _
          refine slH t2 hA2 fun H3 r1 s3 h1 => ?_
          have t3 := t2.same s3
          refine ⟨_, rfl, _, rfl, _, _, rfl, rfl, _, rfl, ?_⟩
          try (show tNoPart _ _ _; unfold tNoPart)
          show rSlA _ _ (some (at_ + 1)) none _ _
          refine slH t3 (TB.Same.tup (hid_same s3) hA2) fun H4 r2 s4 h2 => ?_
          have t4 := t3.same s4
          refine catH t4 (TB.Same.tup (hid_same s4) h1) h2 (len2 _ _ _ _ xl) fun H5 r3 s5 h3 => ?_
          have t5 := t4.same s5
          have w5 : Same H2 H5 := (s3.trans s4).trans s5
          -- one twice
          refine ⟨_, rfl, _, rfl, _, rfl, ?_⟩
          show rSlA _ _ none (some at_) _ _
          refine slH t5 (TB.Same.tup (hid_same w5) hA2) fun H6 r4 s6 h4 => ?_
          have t6 := t5.same s6
          refine ⟨_, rfl, _, rfl, _, rfl, _, rfl, _, _, rfl, rfl, _, rfl, ?_⟩
          show rSlA _ _ (some at_) (some (at_ + 1)) _ _
          refine slH t6 (TB.Same.tup (hid_same (w5.trans s6)) hA2) fun H7 r5 s7 h5 => ?_
          have t7 := t6.same s7
          refine catH t7 (TB.Same.tup (hid_same s7) h4) h5 (len2 _ _ _ _ xl) fun H8 r6 s8 h6 => ?_
          have t8 := t7.same s8
          have w8 : Same H2 H8 := ((w5.trans s6).trans s7).trans s8
          refine ⟨_, rfl, _, rfl, _, rfl, ?_⟩
          try (show tNoPart _ _ _; unfold tNoPart)
          show rSlA _ _ (some at_) none _ _
          refine slH t8 (TB.Same.tup (hid_same w8) hA2) fun H9 r7 s9 h7 => ?_
          have t9 := t8.same s9
          refine catH t9 (TB.Same.tup (hid_same s9) h6) h7 (len3 _ _ _ _ _ _ xl) fun H10 r8 s10 h8 => ?_
          have t10 := t9.same s10
          have w10 : Same H2 H10 := (w8.trans s9).trans s10
          -- the list, the other way round
          refine ⟨_, rfl, a, _, rfl, .inr (TB.Same.tup hid_sub (TB.Same.tup (hid_same w10) hA2)), fun q1 nq1 => ?_⟩
          have s11 := same_upd (o := .lst xs) nq1
          have t11 := t10.same s11
          refine ⟨_, rfl, a, _, rfl, TB.Same.tup hid_sub (TB.Same.tup (hid_same (w10.trans s11)) hA2), fun q2 nq2 => ?_⟩
          have s12 := same_upd (o := .tup xs.reverse) nq2
          have t12 := t11.same s12
          refine ⟨by show (4 : Nat) ≤ sizeLine; decide, fun q3 nq3 => ?_⟩
          have s13 := same_upd (o := .lst [.ref r3, .ref r8, .ref q1, .ref q2]) nq3
          have t13 := t12.same s13
          have e13 : (upd (upd (upd H10 q1 (.lst xs)) q2 (.tup xs.reverse)) q3 (.lst [.ref r3, .ref r8, .ref q1, .ref q2])) q3 = some (.lst [.ref r3, .ref r8, .ref q1, .ref q2]) := upd_same
          have hL11 : SqL K (hid F' (upd H10 q1 (.lst xs))) q1 xs := newL t10 nq1
          have hT12 : SqT K (hid F' (upd (upd H10 q1 (.lst xs)) q2 (.tup xs.reverse))) q2 xs.reverse := newT t11 nq2
          generalize upd (upd (upd H10 q1 (.lst xs)) q2 (.tup xs.reverse)) q3 (.lst [.ref r3, .ref r8, .ref q1, .ref q2]) = H13 at *
          generalize upd (upd H10 q1 (.lst xs)) q2 (.tup xs.reverse) = H12 at *
          generalize upd H10 q1 (.lst xs) = H11 at *
          have w13 : Same H2 H13 := ((w10.trans s11).trans s12).trans s13
          -- (), one more, None, turned
          refine ⟨_, rfl, Nat.zero_le _, fun q4 nq4 => ?_⟩
          have s14 := same_upd (o := .tup []) nq4
          have t14 := t13.same s14
          have hT14 : SqT K (hid F' (upd H13 q4 (.tup []))) q4 [] := newT t13 nq4
          generalize upd H13 q4 (.tup []) = H14 at *
          refine ⟨_, rfl, by show (1 : Nat) ≤ sizeLine; decide, fun q5 nq5 => ?_⟩
          have s15 := same_upd (o := .tup [.int 0]) nq5
          have t15 := t14.same s15
          have hT15 : SqT K (hid F' (upd H14 q5 (.tup [.int 0]))) q5 [.int 0] := newT t14 nq5
          generalize upd H14 q5 (.tup [.int 0]) = H15 at *
          have w15 : Same H2 H15 := (w13.trans s14).trans s15
          refine catH t15 (TB.Same.tup (hid_same w15) hA2) hT15 (by show xs.length + 1 ≤ sizeLine; exact Nat.le_of_lt (small1000 (by omega))) fun H16 r9 s16 h9 => ?_
          have t16 := t15.same s16
          refine ⟨_, rfl, _, rfl, _, rfl, ?_⟩
          try (show tNoPart _ _ _; unfold tNoPart)
          show rSlA _ _ (some at_) none _ _
          refine slH t16 (TB.Same.tup (hid_same (w15.trans s16)) hA2) fun H17 r10 s17 h10 => ?_
          have t17 := t16.same s17
          refine ⟨_, rfl, _, rfl, _, rfl, ?_⟩
          show rSlA _ _ none (some at_) _ _
          refine slH t17 (TB.Same.tup (hid_same ((w15.trans s16).trans s17)) hA2) fun H18 r11 s18 h11 => ?_
          have t18 := t17.same s18
          refine catH t18 (TB.Same.tup (hid_same s18) h10) h11 (len2 _ _ _ _ xl) fun H19 r12 s19 h12 => ?_
          have t19 := t18.same s19
          refine ⟨by show (4 : Nat) ≤ sizeLine; decide, fun q6 nq6 => ?_⟩
          have s20 := same_upd (o := .lst [.ref q4, .ref r9, .non, .ref r12]) nq6
          have e20 : (upd H19 q6 (.lst [.ref q4, .ref r9, .non, .ref r12])) q6 = some (.lst [.ref q4, .ref r9, .non, .ref r12]) := upd_same
          generalize upd H19 q6 (.lst [.ref q4, .ref r9, .non, .ref r12]) = H20 at *
          have g19 : Same H19 H20 := s20
          have g16 : Same H16 H20 := ((s17.trans s18).trans s19).trans s20
          have g14 : Same H14 H20 := (s15.trans s16).trans g16
          have g13 : Same H13 H20 := s14.trans g14
          have g12 : Same H12 H20 := s13.trans g13
          have g11 : Same H11 H20 := s12.trans g12
          have g10 : Same H10 H20 := s11.trans g11
          have g5 : Same H5 H20 := ((((s6.trans s7).trans s8).trans s9).trans s10).trans g10
          have w20 : Same H2 H20 := w13.trans g13
          refine ⟨q3, q6, _, _, rfl, rfl, g13 _ _ e13, e20, by show (8 : Nat) ≤ sizeLine; decide, fun q7 nq7 => ?_⟩
          have s21 := same_upd (o := .lst ([.ref r3, .ref r8, .ref q1, .ref q2] ++ [.ref q4, .ref r9, .non, .ref r12])) nq7
          have e21 : (upd H20 q7 (.lst ([.ref r3, .ref r8, .ref q1, .ref q2] ++ [.ref q4, .ref r9, .non, .ref r12]))) q7 = some (.lst ([.ref r3, .ref r8, .ref q1, .ref q2] ++ [.ref q4, .ref r9, .non, .ref r12])) := upd_same
          have f20 : Coil H20 L S _ := f2.same w20
          have nq7L := (f20.ne nq7).1
          generalize upd H20 q7 (.lst ([.ref r3, .ref r8, .ref q1, .ref q2] ++ [.ref q4, .ref r9, .non, .ref r12])) = H21 at *
          refine ⟨_, rfl, L, S, 8, _, rfl, by decide, by decide, f20.same s21, by omega, fun H22 v22 k22 f22 l22 u22 => ?_⟩
          have gg : ∀ {Hx : Hp}, Same Hx H20 → Same (hid F' Hx) (hid F' H22) := fun z => (hid_same (z.trans s21)).trans (hid_but hL k22)
          have dAt : ∀ {Hx : Hp}, Same H2 Hx → DpAll K (hid F' Hx) xs ds := fun z => DpAll.same (hid_same z) _ _ dA2
          have dv : DpAll K (hid F' H22) ([.ref r3, .ref r8, .ref q1, .ref q2] ++ [.ref q4, .ref r9, .non, .ref r12])
              [.tuple (cutD ds none (some at_) ++ cutD ds (some (at_ + 1)) none), .tuple ((cutD ds none (some at_) ++ cutD ds (some at_) (some (at_ + 1))) ++ cutD ds (some at_) none), .list ds, .tuple ds.reverse, .tuple [], .tuple (ds ++ [.int 0]), .none, .tuple (cutD ds (some at_) none ++ cutD ds none (some at_))] := by
            have dA22 : DpAll K (hid F' H22) xs ds := DpAll.same (gg w20) _ _ dA2
            refine .cons (.tup (TB.Same.tup (gg g5) h3) (DpAll.app (DpAll.cut dA22) (DpAll.cut dA22))) ?_
            refine .cons (.tup (TB.Same.tup (gg g10) h8) (DpAll.app (DpAll.app (DpAll.cut dA22) (DpAll.cut dA22)) (DpAll.cut dA22))) ?_
            refine .cons (.lst ((gg g11).seq hL11) dA22) (.cons (.tup (TB.Same.tup (gg g12) hT12) (DpAll.rev dA22)) ?_)
            refine .cons (.tup (TB.Same.tup (gg g14) hT14) .nil) (.cons (.tup (TB.Same.tup (gg g16) h9) (DpAll.app dA22 (.cons (.int _) .nil))) ?_)
            exact .cons .non (.cons (.tup (TB.Same.tup (gg g19) h12) (DpAll.app (DpAll.cut dA22) (DpAll.cut dA22))) .nil)
          obtain ⟨x, dx, ex, hx, mx⟩ := pickD dv l22 u22
          refine ⟨q7, _, _, _, rfl, rfl, .inl (.inl (k22 _ _ nq7L e21)), ex, back _ _ _ ((kk2.same (w20.trans s21)).trans k22) ⟨3, by decide, f22.mono (by omega)⟩ hx ?_⟩
          have up : ∀ {e : PyData}, e ∈ ds → Gd (3 * n) (l + 1) e := fun he => Gd.mono (by omega) (by omega) (hds _ he)
          have c1 := fun lo hi => cutD_len ds lo hi
          simp only [List.mem_cons, List.not_mem_nil, or_false] at mx
          rcases mx with rfl | rfl | rfl | rfl | rfl | rfl | rfl | rfl
          · refine Gd.tup ?_ fun e he => ?_
            · rw [List.length_append]
              have := c1 none (some at_)
              have := c1 (some (at_ + 1)) none
              omega
            · rcases List.mem_append.mp he with z | z
              · exact up (cutD_mem z)
              · exact up (cutD_mem z)
          · refine Gd.tup ?_ fun e he => ?_
            · rw [List.length_append, List.length_append]
              have := c1 none (some at_)
              have := c1 (some at_) (some (at_ + 1))
              have := c1 (some at_) none
              omega
            · rcases List.mem_append.mp he with z | z
              · rcases List.mem_append.mp z with z | z
                · exact up (cutD_mem z)
                · exact up (cutD_mem z)
              · exact up (cutD_mem z)
          · exact Gd.lst (by omega) fun e he => up he
          · exact Gd.tup (by rw [List.length_reverse]; omega) fun e he => up (List.mem_reverse.mp he)
          · exact Gd.tup (Nat.zero_le _) fun e he => by cases he
          · refine Gd.tup (by rw [List.length_append]; show ds.length + 1 ≤ 3 * n; omega) fun e he => ?_
            rcases List.mem_append.mp he with z | z
            · exact up z
            · rw [List.mem_singleton.mp z]
              exact Gd.atom trivial
          · exact Gd.atom trivial
          · refine Gd.tup ?_ fun e he => ?_
            · rw [List.length_append]
              have := c1 none (some at_)
              have := c1 (some at_) none
              omega
            · rcases List.mem_append.mp he with z | z
              · exact up (cutD_mem z)
              · exact up (cutD_mem z)
      · refine iteF ?_
        have hA1 : SqT K (hid F' H0) a xs := TB.Same.tup (rm b0) hA
        have dA1 : DpAll K (hid F' H0) xs ds := DpAll.same (rm b0) _ _ dA
        refine ⟨_, rfl, _, .ty "tuple", _, .type "tuple", true, rfl, .ty _, ty_tup (TB.Same.tup hid_sub hA1), kit_ty (by decide +kernel), _, rfl, iteT ?_⟩
        refine ⟨_, rfl, _, rfl, a, _, rfl, .inr (TB.Same.tup hid_sub hA1), _, _, rfl, rfl, L, S, (xs.length : Int) + 1, _, rfl, by omega, by omega, hC.same s0, by omega, fun H2 at_ k2 f2 l2 u2 => ?_⟩
        have kk2 : But L H H2 := But.trans b0 k2
        show tSeq _ _ _ [some (.ref L), some (.ref a), some (.int at_), none] _
        have hA2 : SqT K (hid F' H2) a xs := TB.Same.tup (rm kk2) hA
        have dA2 : DpAll K (hid F' H2) xs ds := DpAll.same (rm kk2) _ _ dA
        have t2 := tkb kk2 f2
        -- without one
        refine ⟨_, rfl, _, rfl, _, rfl, ?_⟩
        show rSlA _ _ none (some at_) _ _
        refine slH t2 hA2 fun H3 r1 s3 h1 => ?_
        have t3 := t2.same s3
        refine ⟨_, rfl, _, rfl, _, _, rfl, rfl, _, rfl, ?_⟩
        try (show tNoPart _ _ _; unfold tNoPart)
        show rSlA _ _ (some (at_ + 1)) none _ _
        refine slH t3 (TB.Same.tup (hid_same s3) hA2) fun H4 r2 s4 h2 => ?_
        have t4 := t3.same s4
        refine catH t4 (TB.Same.tup (hid_same s4) h1) h2 (len2 _ _ _ _ xl) fun H5 r3 s5 h3 => ?_
        have t5 := t4.same s5
        have w5 : Same H2 H5 := (s3.trans s4).trans s5
        -- one twice
        refine ⟨_, rfl, _, rfl, _, rfl, ?_⟩
        show rSlA _ _ none (some at_) _ _
        refine slH t5 (TB.Same.tup (hid_same w5) hA2) fun H6 r4 s6 h4 => ?_
        have t6 := t5.same s6
        refine ⟨_, rfl, _, rfl, _, rfl, _, rfl, _, _, rfl, rfl, _, rfl, ?_⟩
        show rSlA _ _ (some at_) (some (at_ + 1)) _ _
        refine slH t6 (TB.Same.tup (hid_same (w5.trans s6)) hA2) fun H7 r5 s7 h5 => ?_
        have t7 := t6.same s7
        refine catH t7 (TB.Same.tup (hid_same s7) h4) h5 (len2 _ _ _ _ xl) fun H8 r6 s8 h6 => ?_
        have t8 := t7.same s8
        have w8 : Same H2 H8 := ((w5.trans s6).trans s7).trans s8
        refine ⟨_, rfl, _, rfl, _, rfl, ?_⟩
        try (show tNoPart _ _ _; unfold tNoPart)
        show rSlA _ _ (some at_) none _ _
        refine slH t8 (TB.Same.tup (hid_same w8) hA2) fun H9 r7 s9 h7 => ?_
        have t9 := t8.same s9
        refine catH t9 (TB.Same.tup (hid_same s9) h6) h7 (len3 _ _ _ _ _ _ xl) fun H10 r8 s10 h8 => ?_
        have t10 := t9.same s10
        have w10 : Same H2 H10 := (w8.trans s9).trans s10
        -- the list, the other way round
        refine ⟨_, rfl, a, _, rfl, .inr (TB.Same.tup hid_sub (TB.Same.tup (hid_same w10) hA2)), fun q1 nq1 => ?_⟩
        have s11 := same_upd (o := .lst xs) nq1
        have t11 := t10.same s11
        refine ⟨_, rfl, a, _, rfl, TB.Same.tup hid_sub (TB.Same.tup (hid_same (w10.trans s11)) hA2), fun q2 nq2 => ?_⟩
        have s12 := same_upd (o := .tup xs.reverse) nq2
        have t12 := t11.same s12
        refine ⟨by show (4 : Nat) ≤ sizeLine; decide, fun q3 nq3 => ?_⟩
        have s13 := same_upd (o := .lst [.ref r3, .ref r8, .ref q1, .ref q2]) nq3
        have t13 := t12.same s13
        have e13 : (upd (upd (upd H10 q1 (.lst xs)) q2 (.tup xs.reverse)) q3 (.lst [.ref r3, .ref r8, .ref q1, .ref q2])) q3 = some (.lst [.ref r3, .ref r8, .ref q1, .ref q2]) := upd_same
        have hL11 : SqL K (hid F' (upd H10 q1 (.lst xs))) q1 xs := newL t10 nq1
        have hT12 : SqT K (hid F' (upd (upd H10 q1 (.lst xs)) q2 (.tup xs.reverse))) q2 xs.reverse := newT t11 nq2
        generalize upd (upd (upd H10 q1 (.lst xs)) q2 (.tup xs.reverse)) q3 (.lst [.ref r3, .ref r8, .ref q1, .ref q2]) = H13 at *
        generalize upd (upd H10 q1 (.lst xs)) q2 (.tup xs.reverse) = H12 at *
        generalize upd H10 q1 (.lst xs) = H11 at *
        have w13 : Same H2 H13 := ((w10.trans s11).trans s12).trans s13
        -- (), one more, None, turned
        refine ⟨_, rfl, Nat.zero_le _, fun q4 nq4 => ?_⟩
        have s14 := same_upd (o := .tup []) nq4
        have t14 := t13.same s14
        have hT14 : SqT K (hid F' (upd H13 q4 (.tup []))) q4 [] := newT t13 nq4
        generalize upd H13 q4 (.tup []) = H14 at *
        refine ⟨_, rfl, by show (1 : Nat) ≤ sizeLine; decide, fun q5 nq5 => ?_⟩
        have s15 := same_upd (o := .tup [.int 0]) nq5
        have t15 := t14.same s15
        have hT15 : SqT K (hid F' (upd H14 q5 (.tup [.int 0]))) q5 [.int 0] := newT t14 nq5
        generalize upd H14 q5 (.tup [.int 0]) = H15 at *
        have w15 : Same H2 H15 := (w13.trans s14).trans s15
        refine catH t15 (TB.Same.tup (hid_same w15) hA2) hT15 (by show xs.length + 1 ≤ sizeLine; exact Nat.le_of_lt (small1000 (by omega))) fun H16 r9 s16 h9 => ?_
        have t16 := t15.same s16
        refine ⟨_, rfl, _, rfl, _, rfl, ?_⟩
        try (show tNoPart _ _ _; unfold tNoPart)
        show rSlA _ _ (some at_) none _ _
        refine slH t16 (TB.Same.tup (hid_same (w15.trans s16)) hA2) fun H17 r10 s17 h10 => ?_
        have t17 := t16.same s17
        refine ⟨_, rfl, _, rfl, _, rfl, ?_⟩
        show rSlA _ _ none (some at_) _ _
        refine slH t17 (TB.Same.tup (hid_same ((w15.trans s16).trans s17)) hA2) fun H18 r11 s18 h11 => ?_
        have t18 := t17.same s18
        refine catH t18 (TB.Same.tup (hid_same s18) h10) h11 (len2 _ _ _ _ xl) fun H19 r12 s19 h12 => ?_
        have t19 := t18.same s19
        refine ⟨by show (4 : Nat) ≤ sizeLine; decide, fun q6 nq6 => ?_⟩
        have s20 := same_upd (o := .lst [.ref q4, .ref r9, .non, .ref r12]) nq6
        have e20 : (upd H19 q6 (.lst [.ref q4, .ref r9, .non, .ref r12])) q6 = some (.lst [.ref q4, .ref r9, .non, .ref r12]) := upd_same
        generalize upd H19 q6 (.lst [.ref q4, .ref r9, .non, .ref r12]) = H20 at *
        have g19 : Same H19 H20 := s20
        have g16 : Same H16 H20 := ((s17.trans s18).trans s19).trans s20
        have g14 : Same H14 H20 := (s15.trans s16).trans g16
        have g13 : Same H13 H20 := s14.trans g14
        have g12 : Same H12 H20 := s13.trans g13
        have g11 : Same H11 H20 := s12.trans g12
        have g10 : Same H10 H20 := s11.trans g11
        have g5 : Same H5 H20 := ((((s6.trans s7).trans s8).trans s9).trans s10).trans g10
        have w20 : Same H2 H20 := w13.trans g13
        refine ⟨q3, q6, _, _, rfl, rfl, g13 _ _ e13, e20, by show (8 : Nat) ≤ sizeLine; decide, fun q7 nq7 => ?_⟩
        have s21 := same_upd (o := .lst ([.ref r3, .ref r8, .ref q1, .ref q2] ++ [.ref q4, .ref r9, .non, .ref r12])) nq7
        have e21 : (upd H20 q7 (.lst ([.ref r3, .ref r8, .ref q1, .ref q2] ++ [.ref q4, .ref r9, .non, .ref r12]))) q7 = some (.lst ([.ref r3, .ref r8, .ref q1, .ref q2] ++ [.ref q4, .ref r9, .non, .ref r12])) := upd_same
        have f20 : Coil H20 L S _ := f2.same w20
        have nq7L := (f20.ne nq7).1
        generalize upd H20 q7 (.lst ([.ref r3, .ref r8, .ref q1, .ref q2] ++ [.ref q4, .ref r9, .non, .ref r12])) = H21 at *
        refine ⟨_, rfl, L, S, 8, _, rfl, by decide, by decide, f20.same s21, by omega, fun H22 v22 k22 f22 l22 u22 => ?_⟩
        have gg : ∀ {Hx : Hp}, Same Hx H20 → Same (hid F' Hx) (hid F' H22) := fun z => (hid_same (z.trans s21)).trans (hid_but hL k22)
        have dAt : ∀ {Hx : Hp}, Same H2 Hx → DpAll K (hid F' Hx) xs ds := fun z => DpAll.same (hid_same z) _ _ dA2
        have dv : DpAll K (hid F' H22) ([.ref r3, .ref r8, .ref q1, .ref q2] ++ [.ref q4, .ref r9, .non, .ref r12])
            [.tuple (cutD ds none (some at_) ++ cutD ds (some (at_ + 1)) none), .tuple ((cutD ds none (some at_) ++ cutD ds (some at_) (some (at_ + 1))) ++ cutD ds (some at_) none), .list ds, .tuple ds.reverse, .tuple [], .tuple (ds ++ [.int 0]), .none, .tuple (cutD ds (some at_) none ++ cutD ds none (some at_))] := by
          have dA22 : DpAll K (hid F' H22) xs ds := DpAll.same (gg w20) _ _ dA2
          refine .cons (.tup (TB.Same.tup (gg g5) h3) (DpAll.app (DpAll.cut dA22) (DpAll.cut dA22))) ?_
          refine .cons (.tup (TB.Same.tup (gg g10) h8) (DpAll.app (DpAll.app (DpAll.cut dA22) (DpAll.cut dA22)) (DpAll.cut dA22))) ?_
          refine .cons (.lst ((gg g11).seq hL11) dA22) (.cons (.tup (TB.Same.tup (gg g12) hT12) (DpAll.rev dA22)) ?_)
          refine .cons (.tup (TB.Same.tup (gg g14) hT14) .nil) (.cons (.tup (TB.Same.tup (gg g16) h9) (DpAll.app dA22 (.cons (.int _) .nil))) ?_)
          exact .cons .non (.cons (.tup (TB.Same.tup (gg g19) h12) (DpAll.app (DpAll.cut dA22) (DpAll.cut dA22))) .nil)
        obtain ⟨x, dx, ex, hx, mx⟩ := pickD dv l22 u22
        refine ⟨q7, _, _, _, rfl, rfl, .inl (.inl (k22 _ _ nq7L e21)), ex, back _ _ _ ((kk2.same (w20.trans s21)).trans k22) ⟨2, by decide, f22.mono (by omega)⟩ hx ?_⟩
        have up : ∀ {e : PyData}, e ∈ ds → Gd (3 * n) (l + 1) e := fun he => Gd.mono (by omega) (by omega) (hds _ he)
        have c1 := fun lo hi => cutD_len ds lo hi
        simp only [List.mem_cons, List.not_mem_nil, or_false] at mx
        rcases mx with rfl | rfl | rfl | rfl | rfl | rfl | rfl | rfl
        · refine Gd.tup ?_ fun e he => ?_
          · rw [List.length_append]
            have := c1 none (some at_)
            have := c1 (some (at_ + 1)) none
            omega
          · rcases List.mem_append.mp he with z | z
            · exact up (cutD_mem z)
            · exact up (cutD_mem z)
        · refine Gd.tup ?_ fun e he => ?_
          · rw [List.length_append, List.length_append]
            have := c1 none (some at_)
            have := c1 (some at_) (some (at_ + 1))
            have := c1 (some at_) none
            omega
          · rcases List.mem_append.mp he with z | z
            · rcases List.mem_append.mp z with z | z
              · exact up (cutD_mem z)
              · exact up (cutD_mem z)
            · exact up (cutD_mem z)
        · exact Gd.lst (by omega) fun e he => up he
        · exact Gd.tup (by rw [List.length_reverse]; omega) fun e he => up (List.mem_reverse.mp he)
        · exact Gd.tup (Nat.zero_le _) fun e he => by cases he
        · refine Gd.tup (by rw [List.length_append]; show ds.length + 1 ≤ 3 * n; omega) fun e he => ?_
          rcases List.mem_append.mp he with z | z
          · exact up z
          · rw [List.mem_singleton.mp z]
            exact Gd.atom trivial
        · exact Gd.atom trivial
        · refine Gd.tup ?_ fun e he => ?_
          · rw [List.length_append]
            have := c1 none (some at_)
            have := c1 (some at_) none
            omega
          · rcases List.mem_append.mp he with z | z
            · exact up (cutD_mem z)
            · exact up (cutD_mem z)
    | non =>
      refine iteF ?_
      change ite _ _ _
      refine iteF ?_
      refine ⟨_, rfl, _, .ty "tuple", ty, .type "tuple", _, rfl, .ty _, hty, kty, _, rfl, iteF ?_⟩
      refine ⟨_, rfl, _, _, rfl, .non, fun H1 s1 => ⟨_, rfl, iteF ?_⟩⟩
      refine ⟨Nat.zero_le _, fun p1 n1 => ⟨by show (2 : Nat) ≤ sizeLine; decide, fun p2 n2 => ⟨by show (2 : Nat) ≤ sizeLine; decide, fun p3 n3 => ⟨by show (4 : Nat) ≤ sizeLine; decide, fun p np => ?_⟩⟩⟩⟩
      have z1 := same_upd (o := .tup []) n1
      have z2 := same_upd (o := .tup [.int 0, .int 0]) n2
      have z3 := same_upd (o := .tup [.int 0, .int 1]) n3
      have z4 := same_upd (o := .lst [.int 0, .ref p1, .ref p2, .ref p3]) np
      have c1 := hC.same s1
      have t1 := tk.same s1
      have t2 := t1.same z1
      have t3 := t2.same z2
      have t4 := t3.same z3
      refine ⟨_, rfl, L, S, 4, T, rfl, by decide, by decide, ((((c1.same z1).same z2).same z3).same z4), by omega, fun H2 v2 k2 f2 l2 u2 => ?_⟩
      have e2 := k2 _ _ (((c1.same z1).same z2).same z3 |>.ne np).1 upd_same
      have w4 := hid_but hL k2
      have dv : DpAll K (hid F' H2) [.int 0, .ref p1, .ref p2, .ref p3] [.int 0, .tuple [], .tuple [.int 0, .int 0], .tuple [.int 0, .int 1]] :=
        .cons (.int _) (.cons (.tup (TB.Same.tup ((hid_same ((z2.trans z3).trans z4)).trans w4) (newT t1 n1)) .nil) (.cons (.tup (TB.Same.tup ((hid_same (z3.trans z4)).trans w4) (newT t2 n2)) (.cons (.int _) (.cons (.int _) .nil)))
          (.cons (.tup (TB.Same.tup ((hid_same z4).trans w4) (newT t3 n3)) (.cons (.int _) (.cons (.int _) .nil))) .nil)))
      obtain ⟨x, dx, ex, hx, mx⟩ := pickD dv l2 u2
      refine ⟨p, _, _, _, rfl, rfl, .inl (.inl e2), ex, back _ _ _ ((But.of (s1.trans (((z1.trans z2).trans z3).trans z4))).trans k2) ⟨1, by decide, f2⟩ hx ?_⟩
      have two : ∀ a b : Int, Gd (3 * n) (k + 1) (.tuple [.int a, .int b]) := fun a b => Gd.tup (by show (2 : Nat) ≤ 3 * n; omega) fun e he => Gd.atom (by
        simp only [List.mem_cons, List.not_mem_nil, or_false] at he
        rcases he with rfl | rfl
        · exact trivial
        · exact trivial)
      simp only [List.mem_cons, List.not_mem_nil, or_false] at mx
      rcases mx with rfl | rfl | rfl | rfl
      · exact Gd.atom trivial
      · exact Gd.tup (Nat.zero_le _) fun e he => by cases he
      · exact two 0 0
      · exact two 0 1
    | bl b =>
      refine iteF ?_
      change ite _ _ _
      refine iteF ?_
      refine ⟨_, rfl, _, .ty "tuple", ty, .type "tuple", _, rfl, .ty _, hty, kty, _, rfl, iteF ?_⟩
      refine ⟨_, rfl, _, _, rfl, .bl b, fun H1 s1 => ⟨_, rfl, iteF ?_⟩⟩
      refine ⟨Nat.zero_le _, fun p1 n1 => ⟨by show (2 : Nat) ≤ sizeLine; decide, fun p2 n2 => ⟨by show (2 : Nat) ≤ sizeLine; decide, fun p3 n3 => ⟨by show (4 : Nat) ≤ sizeLine; decide, fun p np => ?_⟩⟩⟩⟩
      have z1 := same_upd (o := .tup []) n1
      have z2 := same_upd (o := .tup [.int 0, .int 0]) n2
      have z3 := same_upd (o := .tup [.int 0, .int 1]) n3
      have z4 := same_upd (o := .lst [.int 0, .ref p1, .ref p2, .ref p3]) np
      have c1 := hC.same s1
      have t1 := tk.same s1
      have t2 := t1.same z1
      have t3 := t2.same z2
      have t4 := t3.same z3
      refine ⟨_, rfl, L, S, 4, T, rfl, by decide, by decide, ((((c1.same z1).same z2).same z3).same z4), by omega, fun H2 v2 k2 f2 l2 u2 => ?_⟩
      have e2 := k2 _ _ (((c1.same z1).same z2).same z3 |>.ne np).1 upd_same
      have w4 := hid_but hL k2
      have dv : DpAll K (hid F' H2) [.int 0, .ref p1, .ref p2, .ref p3] [.int 0, .tuple [], .tuple [.int 0, .int 0], .tuple [.int 0, .int 1]] :=
        .cons (.int _) (.cons (.tup (TB.Same.tup ((hid_same ((z2.trans z3).trans z4)).trans w4) (newT t1 n1)) .nil) (.cons (.tup (TB.Same.tup ((hid_same (z3.trans z4)).trans w4) (newT t2 n2)) (.cons (.int _) (.cons (.int _) .nil)))
          (.cons (.tup (TB.Same.tup ((hid_same z4).trans w4) (newT t3 n3)) (.cons (.int _) (.cons (.int _) .nil))) .nil)))
      obtain ⟨x, dx, ex, hx, mx⟩ := pickD dv l2 u2
      refine ⟨p, _, _, _, rfl, rfl, .inl (.inl e2), ex, back _ _ _ ((But.of (s1.trans (((z1.trans z2).trans z3).trans z4))).trans k2) ⟨1, by decide, f2⟩ hx ?_⟩
      have two : ∀ a b : Int, Gd (3 * n) (k + 1) (.tuple [.int a, .int b]) := fun a b => Gd.tup (by show (2 : Nat) ≤ 3 * n; omega) fun e he => Gd.atom (by
        simp only [List.mem_cons, List.not_mem_nil, or_false] at he
        rcases he with rfl | rfl
        · exact trivial
        · exact trivial)
      simp only [List.mem_cons, List.not_mem_nil, or_false] at mx
      rcases mx with rfl | rfl | rfl | rfl
      · exact Gd.atom trivial
      · exact Gd.tup (Nat.zero_le _) fun e he => by cases he
      · exact two 0 0
      · exact two 0 1
    | int i =>
      refine iteF ?_
      change ite _ _ _
      refine iteF ?_
      refine ⟨_, rfl, _, .ty "tuple", ty, .type "tuple", _, rfl, .ty _, hty, kty, _, rfl, iteF ?_⟩
      refine ⟨_, rfl, .int i, .int i, rfl, .int i, fun H1 s1 => ⟨_, rfl, iteT ?_⟩⟩
      refine ⟨_, rfl, _, _, rfl, rfl, _, rfl, _, _, rfl, rfl, _, rfl, _, _, rfl, rfl, _, rfl, rfl, ?_⟩
      refine ⟨_, _, rfl, rfl, ⟨by decide, by decide, by decide⟩, _, _, rfl, rfl, ⟨by decide, by decide, by decide⟩, _, _, rfl, rfl, ?_⟩
      refine ⟨by show (8 : Nat) ≤ sizeLine; decide, fun p np => ?_⟩
      have sp := same_upd (o := .lst [.int (i + 1), .int (i - 1), .int (0 - i), .bl (decide (V.int i = V.int 1)), .non, .str "1", .int (10 ^ Int.toNat 60), .int (0 - 10 ^ Int.toNat 60)]) np
      refine ⟨_, rfl, L, S, 8, T, rfl, by decide, by decide, (hC.same s1).same sp, by omega, fun H2 v2 k2 f2 l2 u2 => ?_⟩
      have e2 := k2 _ _ ((hC.same s1).ne np).1 upd_same
      have dv : DpAll K (hid F' H2) [.int (i + 1), .int (i - 1), .int (0 - i), .bl (decide (V.int i = V.int 1)), .non, .str "1", .int (10 ^ Int.toNat 60), .int (0 - 10 ^ Int.toNat 60)]
          [.int (i + 1), .int (i - 1), .int (0 - i), .bool (decide (V.int i = V.int 1)), .none, .str "1", .int (10 ^ Int.toNat 60), .int (0 - 10 ^ Int.toNat 60)] :=
        .cons (.int _) (.cons (.int _) (.cons (.int _) (.cons (.bl _) (.cons .non (.cons (.str _) (.cons (.int _) (.cons (.int _) .nil)))))))
      obtain ⟨x, dx, ex, hx, mx⟩ := pickD dv l2 u2
      refine ⟨p, _, _, _, rfl, rfl, .inl (.inl e2), ex, back _ _ _ ((But.of (s1.trans sp)).trans k2) ⟨1, by decide, f2⟩ hx (Gd.atom ?_)⟩
      simp only [List.mem_cons, List.not_mem_nil, or_false] at mx
      rcases mx with rfl | rfl | rfl | rfl | rfl | rfl | rfl | rfl
      · exact trivial
      · exact trivial
      · exact trivial
      · exact trivial
      · exact trivial
      · exact (by decide +kernel : PyData.strOk "1" = true)
      · exact trivial
      · exact trivial
    | str x =>
      refine iteF ?_
      change ite _ _ _
      refine iteF ?_
      refine ⟨_, rfl, _, .ty "tuple", ty, .type "tuple", _, rfl, .ty _, hty, kty, _, rfl, iteF ?_⟩
      refine ⟨_, rfl, _, _, rfl, .str x, fun H1 s1 => ⟨_, rfl, iteF ?_⟩⟩
      refine ⟨Nat.zero_le _, fun p1 n1 => ⟨by show (2 : Nat) ≤ sizeLine; decide, fun p2 n2 => ⟨by show (2 : Nat) ≤ sizeLine; decide, fun p3 n3 => ⟨by show (4 : Nat) ≤ sizeLine; decide, fun p np => ?_⟩⟩⟩⟩
      have z1 := same_upd (o := .tup []) n1
      have z2 := same_upd (o := .tup [.int 0, .int 0]) n2
      have z3 := same_upd (o := .tup [.int 0, .int 1]) n3
      have z4 := same_upd (o := .lst [.int 0, .ref p1, .ref p2, .ref p3]) np
      have c1 := hC.same s1
      have t1 := tk.same s1
      have t2 := t1.same z1
      have t3 := t2.same z2
      have t4 := t3.same z3
      refine ⟨_, rfl, L, S, 4, T, rfl, by decide, by decide, ((((c1.same z1).same z2).same z3).same z4), by omega, fun H2 v2 k2 f2 l2 u2 => ?_⟩
      have e2 := k2 _ _ (((c1.same z1).same z2).same z3 |>.ne np).1 upd_same
      have w4 := hid_but hL k2
      have dv : DpAll K (hid F' H2) [.int 0, .ref p1, .ref p2, .ref p3] [.int 0, .tuple [], .tuple [.int 0, .int 0], .tuple [.int 0, .int 1]] :=
        .cons (.int _) (.cons (.tup (TB.Same.tup ((hid_same ((z2.trans z3).trans z4)).trans w4) (newT t1 n1)) .nil) (.cons (.tup (TB.Same.tup ((hid_same (z3.trans z4)).trans w4) (newT t2 n2)) (.cons (.int _) (.cons (.int _) .nil)))
          (.cons (.tup (TB.Same.tup ((hid_same z4).trans w4) (newT t3 n3)) (.cons (.int _) (.cons (.int _) .nil))) .nil)))
      obtain ⟨y, dx, ex, hx, mx⟩ := pickD dv l2 u2
      refine ⟨p, _, _, _, rfl, rfl, .inl (.inl e2), ex, back _ _ _ ((But.of (s1.trans (((z1.trans z2).trans z3).trans z4))).trans k2) ⟨1, by decide, f2⟩ hx ?_⟩
      have two : ∀ a b : Int, Gd (3 * n) (k + 1) (.tuple [.int a, .int b]) := fun a b => Gd.tup (by show (2 : Nat) ≤ 3 * n; omega) fun e he => Gd.atom (by
        simp only [List.mem_cons, List.not_mem_nil, or_false] at he
        rcases he with rfl | rfl
        · exact trivial
        · exact trivial)
      simp only [List.mem_cons, List.not_mem_nil, or_false] at mx
      rcases mx with rfl | rfl | rfl | rfl
      · exact Gd.atom trivial
      · exact Gd.tup (Nat.zero_le _) fun e he => by cases he
      · exact two 0 0
      · exact two 0 1
    | lst hA dA =>
      refine iteF ?_
      change ite _ _ _
      refine iteF ?_
      refine ⟨_, rfl, _, .ty "tuple", ty, .type "tuple", _, rfl, .ty _, hty, kty, _, rfl, iteF ?_⟩
      refine ⟨_, rfl, _, _, rfl, .lst (hid_sub.seq hA) (DpAll.same hid_sub _ _ dA), fun H1 s1 => ⟨_, rfl, iteF ?_⟩⟩
      refine ⟨Nat.zero_le _, fun p1 n1 => ⟨by show (2 : Nat) ≤ sizeLine; decide, fun p2 n2 => ⟨by show (2 : Nat) ≤ sizeLine; decide, fun p3 n3 => ⟨by show (4 : Nat) ≤ sizeLine; decide, fun p np => ?_⟩⟩⟩⟩
      have z1 := same_upd (o := .tup []) n1
      have z2 := same_upd (o := .tup [.int 0, .int 0]) n2
      have z3 := same_upd (o := .tup [.int 0, .int 1]) n3
      have z4 := same_upd (o := .lst [.int 0, .ref p1, .ref p2, .ref p3]) np
      have c1 := hC.same s1
      have t1 := tk.same s1
      have t2 := t1.same z1
      have t3 := t2.same z2
      have t4 := t3.same z3
      refine ⟨_, rfl, L, S, 4, T, rfl, by decide, by decide, ((((c1.same z1).same z2).same z3).same z4), by omega, fun H2 v2 k2 f2 l2 u2 => ?_⟩
      have e2 := k2 _ _ (((c1.same z1).same z2).same z3 |>.ne np).1 upd_same
      have w4 := hid_but hL k2
      have dv : DpAll K (hid F' H2) [.int 0, .ref p1, .ref p2, .ref p3] [.int 0, .tuple [], .tuple [.int 0, .int 0], .tuple [.int 0, .int 1]] :=
        .cons (.int _) (.cons (.tup (TB.Same.tup ((hid_same ((z2.trans z3).trans z4)).trans w4) (newT t1 n1)) .nil) (.cons (.tup (TB.Same.tup ((hid_same (z3.trans z4)).trans w4) (newT t2 n2)) (.cons (.int _) (.cons (.int _) .nil)))
          (.cons (.tup (TB.Same.tup ((hid_same z4).trans w4) (newT t3 n3)) (.cons (.int _) (.cons (.int _) .nil))) .nil)))
      obtain ⟨x, dx, ex, hx, mx⟩ := pickD dv l2 u2
      refine ⟨p, _, _, _, rfl, rfl, .inl (.inl e2), ex, back _ _ _ ((But.of (s1.trans (((z1.trans z2).trans z3).trans z4))).trans k2) ⟨1, by decide, f2⟩ hx ?_⟩
      have two : ∀ a b : Int, Gd (3 * n) (k + 1) (.tuple [.int a, .int b]) := fun a b => Gd.tup (by show (2 : Nat) ≤ 3 * n; omega) fun e he => Gd.atom (by
        simp only [List.mem_cons, List.not_mem_nil, or_false] at he
        rcases he with rfl | rfl
        · exact trivial
        · exact trivial)
      simp only [List.mem_cons, List.not_mem_nil, or_false] at mx
      rcases mx with rfl | rfl | rfl | rfl
      · exact Gd.atom trivial
      · exact Gd.tup (Nat.zero_le _) fun e he => by cases he
      · exact two 0 0
      · exact two 0 1
end
end K55

set_option Elab.async false
set_option linter.all false
set_option maxRecDepth 100000
set_option maxHeartbeats 2000000
namespace K55
open PySem PySem.Spec PyProof.Rows L2 TB

theorem scAj : FnScope ["_law_stuff", "_law_one", "_law_number"] ["_law_stuff"] (defScope sAj) := ⟨rfl, rfl, rfl, by decide +kernel, rfl, by decide +kernel, by decide +kernel⟩
theorem in_false : ∀ bs : List Bool, inV (.bl false) (bs.map V.bl) = !bs.all id
  | [] => rfl
  | b :: bs => by
    have ih := in_false bs
    show (eqV (.bl b) (.bl false) || inV (.bl false) (bs.map V.bl)) = _
    rw [ih, List.all_cons]
    cases b <;> rfl
theorem nums_ints : ∀ {ds : List PyData}, ds.all isNum = true → ∃ ns : List Int, ds = dInts ns
  | [], _ => ⟨[], rfl⟩
  | d :: ds, h => by
    rw [List.all_cons, Bool.and_eq_true] at h
    obtain ⟨ns, rfl⟩ := nums_ints h.2
    cases d with
    | int i => exact ⟨i :: ns, rfl⟩
    | _ => exact nomatch (show false = true from h.1)
theorem nums3 {ds : List PyData} (h : ds.all isNum = true) (hl : ds.length = 3) : ∃ a b c : Int, ds = [.int a, .int b, .int c] := by
  obtain ⟨ns, rfl⟩ := nums_ints h
  unfold dInts at hl ⊢
  rw [List.length_map] at hl
  match ns, hl with
  | [a, b, c], _ => exact ⟨a, b, c, rfl⟩
  | [], hl => simp at hl
  | [_], hl => simp at hl
  | [_, _], hl => simp at hl
  | _ :: _ :: _ :: _ :: r, hl => simp at hl
theorem isJob3 (a b c : Int) : isJob (.tuple [.int a, .int b, .int c]) = decide (0 ≤ a ∧ 0 ≤ b ∧ 0 ≤ c ∧ a ≤ b) := by
  show ((decide ((3 : Int) = 3) && (decide (0 ≤ a) && (decide (0 ≤ b) && (decide (0 ≤ c) && true)))) && decide (a ≤ b)) = _
  by_cases h1 : 0 ≤ a <;> by_cases h2 : 0 ≤ b <;> by_cases h3 : 0 ≤ c <;> by_cases h4 : a ≤ b <;> simp [h1, h2, h3, h4]
theorem no_job {ds : List PyData} (h : ¬ (ds.length : Int) = 3) : isJob (.tuple ds) = false := by
  unfold isJob
  rw [cnts_tup, decide_eq_false h]
  rfl
theorem cnt_num {d : PyData} (h : isCnt d = true) : isNum d = true := by
  cases d with
  | int i => rfl
  | _ => exact nomatch (show false = true from h)
theorem no_nums {ds : List PyData} (h : ds.all isNum = false) : isJob (.tuple ds) = false := by
  have : ds.all isCnt = false := by
    cases e : ds.all isCnt with
    | false => rfl
    | true =>
      have : ds.all isNum = true := List.all_eq_true.mpr fun d hd => cnt_num (List.all_eq_true.mp e d hd)
      rw [this] at h
      cases h
  unfold isJob
  rw [cnts_tup, this, Bool.and_false]
  rfl
section
variable {P : Program} {w : World} {K : PySem.W.Frag} {mg : Str → Option Value} {base : Heap}
theorem ok_aj {f fW : Addr} {fd fdW : FuncData} (F : Fun K "_law_are_jobs" "_law_are_jobs" sAj f fd)
    (GWh : FnOk P w K mg base CX0 1 fW fdW ["_law_stuff"] (spKind K isNum)) (kWh : PySem.W.keepIn K (.ref fW) = true) (bWh : Binds K fdW ["_law_stuff"] []) (gWh : mg "_law_whole" = some (.ref fW))
    (m_isinstance : mg "isinstance" = none) (m_tuple : mg "tuple" = none) (m_len : mg "len" = none) (m_min : mg "min" = none) :
    FnOk P w K mg base CX0 2 f fd ["_law_stuff"] (spJobs K) := by
  refine F.ok scAj (fun vs H Q E h => ?_) (fun cdv A outer s H vs Q E hr h => ?_)
  · obtain ⟨v, d, rfl, _⟩ := h
    rfl
  · obtain ⟨v, d, rfl, hd, hz, q⟩ := h
    refine ⟨_, (pss_cons (ps_if (pt_not (pt_val (pe_callB call_isi (by rfl) m_isinstance (by decide +kernel) (pa_cons (pv 0) (pa_cons (pe_bltn (v := .ty "tuple") (u := .type "tuple") (by rfl) m_tuple (by decide +kernel) rfl) pa_nil))))) (pss_one (ps_ret pe_bl)) pss_nil)
      (pss_cons (ps_for PassesOwn.never rfl (pi_tup (pv 0)) (pg_name (i := 1) scAj.nd rfl (.inl rfl)) (pss_cons (ps_if (PW.pt (pw_or (pt_not (pt_val (pe_callB call_isi (by rfl) m_isinstance (by decide +kernel) (pa_cons (pv 1) (pa_cons (pe_bltn (v := .ty "tuple") (u := .type "tuple") (by rfl) m_tuple (by decide +kernel) rfl) pa_nil))))) (pw_or (pt_cmpR op_ne (pe_callB call_len_seq (by rfl) m_len (by decide +kernel) (pa_cons (pv 1) pa_nil)) pe_int (nomark _)) (pw_or1 (pt_cmpR op_in_seq pe_bl (pe_lc (own := [("_law_number", 2)]) (g := gName 2) (tt := tYes) rfl scAj.nd (pi_tup (pv 1)) (blkOk_by (own := [("_law_number", 2)]) (N := ["_law_stuff", "_law_one", "_law_number"]) (sc := defScope sAj) (by decide +kernel)) (fun _ _ _ _ _ => (pg_name (i := 2) scAj.nd rfl (.inl rfl))) (fun _ _ _ _ _ => pts_nil) (fun _ _ _ _ _ => (pe_call GWh (hr.mono (by decide)) (by rfl) gWh kWh bWh .nil pass0 (pa_cons (pv 2) pa_nil)))) (by rfl)))))) (pss_one (ps_ret pe_bl)) pss_nil)
      (pss_one (ps_if (PW.pt (pw_or (pt_cmpR op_lt (pe_callB (call_minT rfl) (by rfl) m_min (by decide +kernel) (pa_cons (pv 1) pa_nil)) pe_int (nomark _)) (pw_or1 (pt_cmpR op_gt (pe_ix ix_tup (pv 1) pe_int (fun _ _ => rfl)) (pe_ix ix_tup (pv 1) pe_int (fun _ _ => rfl)) (nomark _))))) (pss_one (ps_ret pe_bl)) pss_nil))))
      (pss_one (ps_ret pe_bl)))), ?_⟩
    obtain ⟨ty, hty, kty⟩ := isiT hd
    refine ⟨_, rfl, _, .ty "tuple", ty, .type "tuple", _, rfl, .ty _, hty, kty, _, rfl, ?_⟩
    have q1 := q H (Same.refl H)
    cases hd with
    | non => exact iteT q1
    | bl b => exact iteT q1
    | int i => exact iteT q1
    | str x => exact iteT q1
    | lst h _ => exact iteT q1
    | @tup a xs ds hA dA =>
      refine iteF ?_
      have xl := DpAll.len dA
      have no : ∀ {i : Nat} {d : PyData} {H' : Hp}, ds[i]? = some d → isJob d = false → Same H H' → Q (.bl false) H' := fun {i d H'} hi hj sm => by
        have := q H' sm
        rw [isJobs_tup] at this
        have z : ds.all isJob = false := by
          cases e : ds.all isJob with
          | false => rfl
          | true =>
            rw [List.all_eq_true.mp e d (List.mem_of_getElem? hi)] at hj
            cases hj
        rw [z] at this
        exact this
      refine ⟨.ref a, rfl, a, rfl, ⟨_, hA⟩, ?_⟩
      refine for_tup (xs := xs) (fun i σ H1 => ∃ y1, σ = [some (.ref a), y1, none] ∧ Same H H1 ∧ (ds.take i).all isJob = true) ⟨_, rfl, Same.refl H, rfl⟩ ?_ ?_ ?_
      · rintro i σ H1 _ ⟨y1, _, sm, _⟩
        exact TB.Same.tup sm hA
      · rintro i x σ H1 hx ⟨y1, rfl, sm, al⟩
        obtain ⟨d, hi, dx⟩ := DpAll.get dA hx
        have dx1 := Dp.same sm _ _ dx
        show tSeq _ _ _ [some (.ref a), some x, none] _
        obtain ⟨ty1, hty1, kty1⟩ := isiT dx1
        refine ⟨_, rfl, _, .ty "tuple", ty1, .type "tuple", _, rfl, .ty _, hty1, kty1, _, rfl, ?_⟩
        cases dx1 with
        | non => exact iteT (no hi rfl sm)
        | bl b => exact iteT (no hi rfl sm)
        | int i => exact iteT (no hi rfl sm)
        | str x => exact iteT (no hi rfl sm)
        | lst h _ => exact iteT (no hi rfl sm)
        | @tup p ys es hP dP =>
          refine iteF ?_
          have yl := DpAll.len dP
          refine ⟨_, rfl, p, _, rfl, .inr hP, rfl, _, rfl, ?_⟩
          change ite _ _ _
          refine ite2 (fun c => ?_) (fun c => ?_)
          · refine iteT (no hi (no_job fun z => ?_) sm)
            have : V.int (ys.length : Int) = V.int 3 := by rw [yl, z]
            rw [decide_eq_true this] at c
            cases c
          · have e3 : es.length = 3 := by
              by_cases z : V.int (ys.length : Int) = V.int 3
              · have := V.int.inj z
                omega
              · exact absurd (by rw [decide_eq_false z]; rfl) c
            refine ⟨_, rfl, p, rfl, ⟨_, hP⟩, fun D nD => ?_⟩
            refine lc_tup (xs := ys) (fun n H2 => Same H1 H2 ∧ H2 D = some (.lst (((es.take n).map isNum).map V.bl))) ⟨same_upd nD, upd_same⟩ (fun n H2 _ hP2 => TB.Same.tup hP2.1 hP) (fun n x H2 hx hP2 => ?_) (fun H2 hP2 => ?_)
            · obtain ⟨s2, e2⟩ := hP2
              obtain ⟨d, hdi, dx⟩ := DpAll.get dP hx
              refine ⟨rfl, yes (iteT ?_)⟩
              refine ⟨_, rfl, x, d, rfl, Dp.same s2 _ _ dx, fun H3 s3 => ?_⟩
              refine ⟨_, s3 _ _ e2, ?_, same_new nD (s2.trans s3), ?_⟩
              · rw [List.length_map, List.length_map]
                have := List.length_take_le' n es
                exact small1000 (by omega)
              · rw [upd_same, map_take_more hdi, List.map_append]
                rfl
            · obtain ⟨s2, e2⟩ := hP2
              rw [List.take_of_length_le (by omega)] at e2
              have flat : ((es.map isNum).map V.bl).all flatV = true := by
                rw [List.all_map]
                exact List.all_eq_true.mpr fun b _ => rfl
              refine ⟨D, _, rfl, .inl (.inl (.inl e2)), rfl, flat, _, rfl, ?_⟩
              change ite (inV (.bl false) ((es.map isNum).map V.bl) = true) _ _
              rw [in_false, List.all_map]
              refine ite2 (fun c2 => ?_) (fun c2 => ?_)
              · refine no hi (no_nums ?_) (sm.trans s2)
                cases e : es.all isNum with
                | false => rfl
                | true =>
                  have e' : (es.all (id ∘ isNum)) = true := e
                  rw [e'] at c2
                  cases c2
              · have nm : es.all isNum = true := by
                  cases e : es.all isNum with
                  | true => rfl
                  | false =>
                    have e' : (es.all (id ∘ isNum)) = false := e
                    rw [e'] at c2
                    exact absurd rfl c2
                obtain ⟨n1, n2, n3, rfl⟩ := nums3 nm e3
                obtain ⟨p', ep, hp⟩ := Dp.three (.tup hP dP)
                cases ep
                have hp2 := TB.Same.tup s2 hp
                refine ⟨_, rfl, p, [n1, n2, n3], rfl, hp2, Nat.succ_pos _, fun m hm hl => ?_⟩
                refine ⟨_, _, rfl, rfl, _, rfl, ?_⟩
                change ite _ _ _
                have l1 := hl n1 (by simp)
                have l2 := hl n2 (by simp)
                have l3 := hl n3 (by simp)
                have hm' : m = n1 ∨ m = n2 ∨ m = n3 := by simpa using hm
                refine ite2 (fun c3 => ?_) (fun c3 => ?_)
                · have c4 : m < 0 := of_decide_eq_true c3
                  refine iteT (no hi ?_ (sm.trans s2))
                  rw [isJob3]
                  exact decide_eq_false (by omega)
                · have c4 : ¬ m < 0 := fun z => c3 (decide_eq_true z)
                  refine ⟨_, rfl, p, _, 0, _, rfl, rfl, hp2, atI_nat (j := 0) rfl, _, rfl, p, _, 1, _, rfl, rfl, hp2, atI_nat (j := 1) rfl, _, _, rfl, rfl, _, rfl, ?_⟩
                  change ite _ _ _
                  refine ite2 (fun c5 => ?_) (fun c5 => ?_)
                  · have c6 : n2 < n1 := of_decide_eq_true c5
                    refine no hi ?_ (sm.trans s2)
                    rw [isJob3]
                    exact decide_eq_false (by omega)
                  · have c6 : ¬ n2 < n1 := fun z => c5 (decide_eq_true z)
                    refine ⟨_, rfl, sm.trans s2, ?_⟩
                    rw [take_more hi, List.all_append, al, Bool.true_and]
                    show (isJob (.tuple [.int n1, .int n2, .int n3]) && true) = true
                    rw [isJob3, decide_eq_true (by omega)]
                    rfl
      · rintro σ H1 ⟨y1, rfl, sm, al⟩
        rw [List.take_of_length_le (by omega)] at al
        have := q H1 sm
        rw [isJobs_tup, al] at this
        exact this
end
end K55

set_option Elab.async false
set_option linter.all false
set_option maxRecDepth 100000
set_option maxHeartbeats 4000000
namespace K55
open PySem PySem.Spec PyProof.Rows L2 TB

theorem scLaw : FnScope ["_law_script", "_law_coil_here", "_law_tasks", "_law_seen", "_law_things", "_law_k", "_law_stuff", "_law_meant", "_law_start", "_law_stop", "_law_due", "_law_many", "_law_told", "_law_side", "_law_job"] ["_law_script"] (defScope sLaw) := ⟨rfl, rfl, rfl, by decide +kernel, rfl, by decide +kernel, by decide +kernel⟩
def bTxt (b : Bool) : Str := if b then "True" else "False"
theorem call_reprB {X : Cx} : CallR X (.builtin "repr") (fun xs H Q => ∃ b, xs = [.bl b] ∧ Q (.str (bTxt b)) H) := by
  intro pins s σ H xs us Q I rel h
  obtain ⟨b, rfl, q⟩ := h
  obtain ⟨u, rfl, r1⟩ := vals1 rel
  cases (show u = Value.bool b from r1)
  exact PySem.P.repr_of_bool ⟨.str (bTxt b), H, I.tok _, ⟨_, rfl⟩, q⟩
theorem atI_last {us : List V} {x : V} : atI (us ++ [x]) (-1) = some x := by
  unfold atI ixN
  rw [if_neg (by decide), if_pos (by rw [List.length_append, List.length_singleton]; omega), Option.bind_some, List.length_append, List.length_singleton]
  have : (-1 + ((us.length + 1 : Nat) : Int)).toNat = us.length := by omega
  rw [this]
  simp
theorem sh_jobs {js : List J3} (h : ∀ j ∈ js, j.1.natAbs < 2 ^ 100 ∧ j.2.1.natAbs < 2 ^ 100 ∧ j.2.2.natAbs < 2 ^ 100) (hl : js.length ≤ 40) : Sh 2 300000 (dJobs js) := by
  refine (sh_tup (k := 1) (n := 6000) fun d hd => ?_).mono (by omega) ?_
  · obtain ⟨j, hj, rfl⟩ := List.mem_map.mp hd
    obtain ⟨a, b, c⟩ := h j hj
    refine (sh_tup (ds := [.int j.1, .int j.2.1, .int j.2.2]) (k := 0) (n := 1921) fun d hd => ?_).mono (by omega) (by show 3 * 1921 + 2 * 3 + 3 ≤ 6000; decide)
    simp only [List.mem_cons, List.not_mem_nil, or_false] at hd
    rcases hd with rfl | rfl | rfl
    · exact sh_int a
    · exact sh_int b
    · exact sh_int c
  · rw [List.length_map]
    omega
theorem okJ_abs {j : J3} (h : okJ j) : j.1.natAbs < 2 ^ 100 ∧ j.2.1.natAbs < 2 ^ 100 ∧ j.2.2.natAbs < 2 ^ 100 := by
  obtain ⟨a, b, c, d, e⟩ := h
  exact ⟨by omega, by omega, by omega⟩
theorem okJ_lt {j : J3} {l : Int} (h : okJ j) (h0 : 0 ≤ l) (h1 : l < 1000) : (ltJ l j).1.natAbs < 2 ^ 100 ∧ (ltJ l j).2.1.natAbs < 2 ^ 100 ∧ (ltJ l j).2.2.natAbs < 2 ^ 100 := by
  obtain ⟨a, b, c, d, e⟩ := h
  unfold ltJ
  exact ⟨by omega, by show (j.2.1 + l).natAbs < _; omega, by show j.2.2.natAbs < _; omega⟩
theorem gd_jobs {js : List J3} (hl : js.length ≤ 12) : Gd 12 2 (dJobs js) := by
  refine Gd.tup (by rw [List.length_map]; exact hl) fun d hd => ?_
  obtain ⟨j, _, rfl⟩ := List.mem_map.mp hd
  refine Gd.tup (by show (3 : Nat) ≤ 12; decide) fun e he => ?_
  simp only [List.mem_cons, List.not_mem_nil, or_false] at he
  rcases he with rfl | rfl | rfl
  · exact trivial
  · exact trivial
  · exact trivial
theorem gd_top {n k : Nat} {d : PyData} (h : Gd n k d) : topLen d ≤ n := by
  cases d with
  | tuple ds =>
    obtain ⟨_, _, hl, _⟩ := h.tup_inv
    exact hl
  | _ => exact Nat.zero_le _
theorem wSum_pos {js : List J3} {b e : Int} (h : ∀ j ∈ js, okJ j) : 0 ≤ wSum js b e ∧ wSum js b e ≤ 2000 * js.length := by
  induction js with
  | nil => exact ⟨Int.le_refl _, by show (0 : Int) ≤ 2000 * 0; decide⟩
  | cons j js ih =>
    obtain ⟨a, c⟩ := ih fun x hx => h x (List.mem_cons_of_mem _ hx)
    obtain ⟨_, _, _, p, q⟩ := h j List.mem_cons_self
    unfold wSum at a c ⊢
    rw [List.filter_cons, List.length_cons]
    by_cases z : wIn b e j = true
    · rw [if_pos z, List.map_cons, List.sum_cons]
      exact ⟨by omega, by push_cast; omega⟩
    · rw [if_neg z]
      exact ⟨a, by push_cast; omega⟩
theorem wSum_log {js : List J3} {b e : Int} (h : ∀ j ∈ js, okJ j) (hl : js.length ≤ 12) : (wSum js b e).natAbs.log2 < 1920 := by
  obtain ⟨a, c⟩ := wSum_pos (b := b) (e := e) h
  by_cases h0 : (wSum js b e).natAbs = 0
  · rw [h0]
    decide
  · exact (Nat.log2_lt h0).2 (Nat.lt_of_lt_of_le (show (wSum js b e).natAbs < 2 ^ 100 by omega) (Nat.pow_le_pow_right (by decide) (by decide)))
/-! the things: at W, with the coil at L -/
structure Th (K : PySem.W.Frag) (H : Hp) (L W : Addr) (n : Nat) : Prop where
  ex : ∃ us ds, H W = some (.lst us) ∧ DpAll K (hid [L, W] H) us ds ∧ (∀ d ∈ ds, Gd 200 6 d) ∧ ds.length = n
section
variable {P : Program} {w : World} {K : PySem.W.Frag} {mg : Str → Option Value} {base : Heap}
theorem memL {L W : Addr} : L ∈ [L, W] := List.mem_cons_self
theorem memW {L W : Addr} : W ∈ [L, W] := List.mem_cons_of_mem _ List.mem_cons_self
theorem Th.but {H H' : Hp} {L W : Addr} {n : Nat} (t : Th K H L W n) (k : But L H H') (nW : W ≠ L) : Th K H' L W n := by
  obtain ⟨us, ds, a, b, c⟩ := t.ex
  exact ⟨⟨us, ds, k _ _ nW a, DpAll.same (hid_but memL k) _ _ b, c⟩⟩
theorem Th.same {H H' : Hp} {L W : Addr} {n : Nat} (t : Th K H L W n) (k : Same H H') : Th K H' L W n := by
  obtain ⟨us, ds, a, b, c⟩ := t.ex
  exact ⟨⟨us, ds, k _ _ a, DpAll.same (hid_same k) _ _ b, c⟩⟩
/-- one more -/
theorem Th.more {H : Hp} {L W : Addr} {n : Nat} {us ds} {x : V} {d : PyData} (a : H W = some (.lst us)) (b : DpAll K (hid [L, W] H) us ds) (c : (∀ d ∈ ds, Gd 200 6 d) ∧ ds.length = n) (hx : Dp K (hid [L, W] H) x d) (gx : Gd 200 6 d) :
    Th K (upd H W (.lst (us ++ [x]))) L W (n + 1) := by
  refine ⟨⟨us ++ [x], ds ++ [d], upd_same, ?_, fun e he => ?_, ?_⟩⟩
  · rw [hid_upd memW]
    exact DpAll.snoc hx b
  · rcases List.mem_append.mp he with z | z
    · exact c.1 e z
    · rw [List.mem_singleton.mp z]
      exact gx
  · rw [List.length_append, c.2]
    rfl
theorem hid_tup {H : Hp} {L a : Addr} {xs zs : List V} (eL : H L = some (.lst zs)) (h : SqT K H a xs) : SqT K (hid [L] H) a xs := by
  have no : ∀ {b : Addr} {o : HO}, H b = some o → (∀ ys, o ≠ .lst ys) → hid [L] H b = some o := fun {b o} e ne => by
    have : b ∉ [L] := fun z => by
      rw [List.mem_singleton.mp z, eL] at e
      exact ne zs (Option.some.inj e).symm
    rw [hid_at this]
    exact e
  rcases h with (h | ⟨u, h⟩) | h
  · exact .inl (.inl (no h fun ys z => nomatch z))
  · exact .inl (.inr ⟨u, no h fun ys z => nomatch z⟩)
  · exact .inr h
mutual
theorem hid_dp {H : Hp} {L : Addr} {zs : List V} (eL : H L = some (.lst zs)) : ∀ (d : PyData) (v : V), noL d = true → Dp K H v d → Dp K (hid [L] H) v d
  | .none, _, _, .non => .non
  | .bool _, _, _, .bl b => .bl b
  | .int _, _, _, .int i => .int i
  | .str _, _, _, .str x => .str x
  | .list ds, _, n, _ => by simp [noL] at n
  | .tuple ds, _, n, .tup h a => .tup (hid_tup eL h) (hid_dps eL ds _ (by simpa only [noL] using n) a)
theorem hid_dps {H : Hp} {L : Addr} {zs : List V} (eL : H L = some (.lst zs)) : ∀ (ds : List PyData) (vs : List V), noLs ds = true → DpAll K H vs ds → DpAll K (hid [L] H) vs ds
  | [], _, _, .nil => .nil
  | d :: ds, _, n, .cons h t => by
    simp only [noLs, Bool.and_eq_true] at n
    exact .cons (hid_dp eL d _ n.1 h) (hid_dps eL ds _ n.2 t)
end
theorem hid_new {H H' : Hp} {F : List Addr} {L W : Addr} {o : HO} (hL : L ∈ F) (sm : Same H H') (n : H' W = none) : Same (hid F H) (hid [L, W] (upd H' W o)) := fun b x e => by
  have nF : b ∉ F := fun z => by
    unfold hid at e
    rw [if_pos z] at e
    cases e
  rw [hid_at nF] at e
  have e' := sm _ _ e
  have nW : b ≠ W := fun z => by
    rw [z, n] at e'
    cases e'
  have nb : b ∉ [L, W] := fun z => by
    rcases List.mem_cons.mp z with rfl | z
    · exact nF hL
    · exact nW (List.mem_singleton.mp z)
  rw [hid_at nb, upd_ne nW]
  exact e'
theorem Th.mk0 {H : Hp} {L W : Addr} {n : Nat} {us ds} (dv : DpAll K (hid [L] H) us ds) (g : ∀ d ∈ ds, Gd 200 6 d) (ln : ds.length = n) (nW : H W = none) : Th K (upd H W (.lst us)) L W n :=
  ⟨⟨us, ds, upd_same, DpAll.same (hid_new List.mem_cons_self (Same.refl H) nW) _ _ dv, g, ln⟩⟩
theorem Th.cat {H : Hp} {L W W2 : Addr} {n m : Nat} {us ds zs es} (dv : DpAll K (hid [L, W] H) us ds) (g : ∀ d ∈ ds, Gd 200 6 d) (ln : ds.length = n) (dz : DpAll K (hid [L, W] H) zs es) (gz : ∀ d ∈ es, Gd 200 6 d) (lz : es.length = m) (nW : H W2 = none) :
    Th K (upd H W2 (.lst (us ++ zs))) L W2 (n + m) := by
  refine ⟨⟨us ++ zs, ds ++ es, upd_same, DpAll.same (hid_new memL (Same.refl H) nW) _ _ (DpAll.app dv dz), fun d hd => ?_, by rw [List.length_append, ln, lz]⟩⟩
  rcases List.mem_append.mp hd with z | z
  · exact g d z
  · exact gz d z
theorem Th.took {H : Hp} {L W S : Addr} {n : Nat} {T : Int} (t : Th K H L W n) (f : Coil H L S T) : Took [L, W] H := fun b hb z => by
  rcases List.mem_cons.mp hb with rfl | hb
  · obtain ⟨zs, ez⟩ := f.there
    rw [ez] at z
    cases z
  · obtain ⟨us, ds, e, _⟩ := t.ex
    rw [List.mem_singleton.mp hb, e] at z
    cases z
theorem gd_ints (k : Nat) (ns : List Int) (h : ns.length ≤ 200) : Gd 200 (k + 1) (.tuple (dInts ns)) := by
  refine Gd.tup (by unfold dInts; rw [List.length_map]; exact h) fun e he => ?_
  obtain ⟨i, _, rfl⟩ := List.mem_map.mp he
  exact Gd.atom trivial
theorem gd_one {k : Nat} {d : PyData} (h : Gd 200 k d) : Gd 200 (k + 1) (.tuple [d]) := Gd.tup (by show (1 : Nat) ≤ 200; decide) fun e he => by
  rw [List.mem_singleton.mp he]
  exact h
/-! ### the law -/
def spLaw (K : PySem.W.Frag) : Sp := fun vs H Q _ => ∃ (a : Addr) (ns : List Int), vs = [.ref a] ∧ SqL K H a (ns.map V.int) ∧ ns.length ≤ 63 ∧ ∀ H', Q (.bl true) H'
theorem ok_law {f fCo fR fJo fBe fJs fAj fW fL fLa : Addr} {fd fdCo fdR fdJo fdBe fdJs fdAj fdW fdL fdLa : FuncData} {ds : List Value} {g1 g2 g3 g4 : List Value → List Value → List Value} (F : Fun K "law" "law" sLaw f fd)
    (GCo : FnOk P w K mg base CX0 1 fCo fdCo ["_law_script"] (spCoil K)) (kCo : PySem.W.keepIn K (.ref fCo) = true) (bCo : Binds K fdCo ["_law_script"] []) (gCo : mg "_law_coil" = some (.ref fCo))
    (GR : FnOk P w K mg base CX0 1 fR fdR ["_law_coil_here", "_law_many"] spPull) (kR : PySem.W.keepIn K (.ref fR) = true) (bR : Binds K fdR ["_law_coil_here", "_law_many"] []) (gR : mg "_law_pull" = some (.ref fR))
    (GJo : FnOk P w K mg base CX0 2 fJo fdJo ["_law_coil_here", "_law_many_now"] (spJo K)) (kJo : PySem.W.keepIn K (.ref fJo) = true) (bJo : Binds K fdJo ["_law_coil_here", "_law_many_now"] []) (gJo : mg "_law_jobs" = some (.ref fJo))
    (GBe : FnOk P w K mg base CX0 4 fBe fdBe ["_law_coil_here", "_law_stuff"] (spBe K 3)) (GBf : FnOk P w K mg base CX0 5 fBe fdBe ["_law_coil_here", "_law_stuff"] (spBe K 4)) (kBe : PySem.W.keepIn K (.ref fBe) = true) (bBe : Binds K fdBe ["_law_coil_here", "_law_stuff"] []) (gBe : mg "_law_bent" = some (.ref fBe))
    (GJs : FnOk P w K mg base CX0 5 fJs fdJs ["thing"] (spJobs K)) (kJs : PySem.W.keepIn K (.ref fJs) = true) (bJs : Binds K fdJs ["thing"] []) (gJs : mg "is_jobs" = some (.ref fJs)) (nJs : KBn K fdJs ["thing"] 0 ["thing"] g1 (fun _ zs => zs))
    (GAj : FnOk P w K mg base CX0 2 fAj fdAj ["_law_stuff"] (spJobs K)) (kAj : PySem.W.keepIn K (.ref fAj) = true) (bAj : Binds K fdAj ["_law_stuff"] []) (gAj : mg "_law_are_jobs" = some (.ref fAj))
    (GW : FnOk P w K mg base CX0 1 fW fdW ["jobs", "begin", "end"] (spWi K)) (kW : PySem.W.keepIn K (.ref fW) = true) (bW : Binds K fdW ["jobs", "begin", "end"] []) (gW : mg "within" = some (.ref fW)) (nW : KBn K fdW ["jobs", "begin", "end"] 1 ["end", "begin"] g2 (fun vs zs => vs ++ zs.reverse))
    (GL : FnOk P w K mg base CX0 1 fL fdL ["jobs", "by"] (spLt K)) (kL : PySem.W.keepIn K (.ref fL) = true) (bL : Binds K fdL ["jobs", "by"] []) (gL : mg "later_jobs" = some (.ref fL)) (bL1 : Binds K fdL ["jobs", "by"] ds) (vL1 : Vals [.int 1] ds)
    (nL1 : KBn K fdL ["jobs", "by"] 1 ["by"] g3 (fun vs zs => vs ++ zs)) (nL2 : KBn K fdL ["jobs", "by"] 0 ["by", "jobs"] g4 (fun _ zs => zs.reverse))
    (GLa : FnOk P w K mg base CX0 1 fLa fdLa ["_law_tasks", "_law_many"] (spLt K)) (kLa : PySem.W.keepIn K (.ref fLa) = true) (bLa : Binds K fdLa ["_law_tasks", "_law_many"] []) (gLa : mg "_law_later" = some (.ref fLa))
    (m_range : mg "range" = none) (m_tuple : mg "tuple" = none) (m_repr : mg "repr" = none) (m_list : mg "list" = none) (m_len : mg "len" = none) (m_sum : mg "sum" = none) :
    FnG P w K mg base CX0 6 f fd ["_law_script"] (spLaw K) := by
  refine gok F scLaw (fun vs H Q E h => ?_) (fun cdv A gd outer s H vs Q E hr h => ?_)
  · obtain ⟨a, ns, rfl, _⟩ := h
    rfl
  · obtain ⟨a, ns, rfl, hS, hlen, q⟩ := h
    refine ⟨_, (pss_cons (ps_set (i := 1) scLaw.nd rfl (.inr rfl) (pe_call GCo (hr.mono (by decide)) (by rfl) gCo kCo bCo .nil pass0 (pa_cons (pv 0) pa_nil)))
      (pss_cons (ps_set (i := 2) scLaw.nd rfl (.inl rfl) (pe_call GJo (hr.mono (by decide)) (by rfl) gJo kJo bJo .nil pass0 (pa_cons (pv 1) (pa_cons pe_int pa_nil))))
      (pss_cons (ps_cut (ps_if (pt_cmpR op_eq (pe_call GR (hr.mono (by decide)) (by rfl) gR kR bR .nil pass0 (pa_cons (pv 1) (pa_cons pe_int pa_nil))) pe_int (nomark _)) (pss_one (ps_set (i := 2) scLaw.nd rfl (.inl rfl) (pe_op op_catA (pv 2) (pe_callTy call_tuple_of (by rfl) m_tuple (by decide +kernel) (pa_cons (pe_lc (own := [("_law_k", 5)]) (g := gName 5) (tt := tYes) rfl scLaw.nd (pi_range1 (by rfl) m_range (pa_cons pe_int pa_nil)) (blkOk_by (own := [("_law_k", 5)]) (N := ["_law_script", "_law_coil_here", "_law_tasks", "_law_seen", "_law_things", "_law_k", "_law_stuff", "_law_meant", "_law_start", "_law_stop", "_law_due", "_law_many", "_law_told", "_law_side", "_law_job"]) (sc := defScope sLaw) (by decide +kernel)) (fun _ _ _ _ _ => (pg_name (i := 5) scLaw.nd rfl (.inl rfl))) (fun _ _ _ _ _ => pts_nil) (fun _ _ _ _ _ => (pe_tup (pa_cons (pv 5) (pa_cons (pe_op op_sub pe_int (pv 5)) (pa_cons pe_int pa_nil)))))) pa_nil))))) pss_nil))
      (pss_cons (ps_set (i := 3) scLaw.nd rfl (.inl rfl) (pe_callB (call_reprT gd hr.units) (by rfl) m_repr (by decide +kernel) (pa_cons (pv 2) pa_nil)))
      (pss_cons (ps_set (i := 4) scLaw.nd rfl (.inl rfl) (pe_lst (pa_cons (pv 2) (pa_cons (pe_tup pa_nil) (pa_cons pe_non (pa_cons (pe_lst (pa_cons (pv 2) pa_nil)) (pa_cons (pe_callTy call_list_of (by rfl) m_list (by decide +kernel) (pa_cons (pv 2) pa_nil)) (pa_cons (pe_tup (pa_cons pe_int (pa_cons pe_int (pa_cons pe_int pa_nil)))) (pa_cons (pe_tup (pa_cons (pe_tup (pa_cons pe_int (pa_cons pe_int (pa_cons pe_int pa_nil)))) pa_nil)) (pa_cons (pe_tup (pa_cons (pe_tup (pa_cons pe_int (pa_cons pe_int (pa_cons pe_int pa_nil)))) pa_nil)) (pa_cons (pe_tup (pa_cons (pe_tup (pa_cons pe_int (pa_cons pe_int (pa_cons pe_int pa_nil)))) pa_nil)) pa_nil)))))))))))
      (pss_cons (ps_expr (pe_bm PySem.F.plainAttrs_list PySem.F.slot_list_append PySem.F.type_list_append mt_append (pv 4) (pa_cons (pe_tup (pa_cons (pe_tup (pa_cons pe_int (pa_cons pe_int (pa_cons pe_bl pa_nil)))) pa_nil)) pa_nil)))
      (pss_cons (ps_set (i := 4) scLaw.nd rfl (.inl rfl) (pe_op op_cat (pv 4) (pe_lst (pa_cons (pe_tup (pa_cons (pe_tup (pa_cons (pe_op op_pow pe_int pe_int) (pa_cons (pe_op op_pow pe_int pe_int) (pa_cons (pe_op op_pow pe_int pe_int) pa_nil)))) pa_nil)) (pa_cons (pe_tup (pa_cons (pe_tup (pa_cons pe_int (pa_cons pe_int (pa_cons (pe_un un_neg pe_int) pa_nil)))) pa_nil)) (pa_cons (pe_tup (pa_cons (pe_tup (pa_cons pe_int (pa_cons pe_int pa_nil))) pa_nil)) (pa_cons (pe_tup (pa_cons (pe_lst (pa_cons pe_int (pa_cons pe_int (pa_cons pe_int pa_nil)))) pa_nil)) (pa_cons (pe_tup (pa_cons (pe_tup (pa_cons pe_int (pa_cons pe_int (pa_cons pe_int (pa_cons pe_int pa_nil))))) pa_nil)) pa_nil))))))))
      (pss_cons (ps_for PassesOwn.never rfl (pi_range1 (by rfl) m_range (pa_cons pe_int pa_nil)) (pg_name (i := 5) scLaw.nd rfl (.inl rfl)) (pss_cons (ps_expr (pe_bm PySem.F.plainAttrs_list PySem.F.slot_list_append PySem.F.type_list_append mt_append (pv 4) (pa_cons (pe_call GBe (hr.mono (by decide)) (by rfl) gBe kBe bBe .nil pass0 (pa_cons (pv 1) (pa_cons (pv 2) pa_nil))) pa_nil)))
      (pss_one (ps_expr (pe_bm PySem.F.plainAttrs_list PySem.F.slot_list_append PySem.F.type_list_append mt_append (pv 4) (pa_cons (pe_call GBf (hr.mono (by decide)) (by rfl) gBe kBe bBe .nil pass0 (pa_cons (pv 1) (pa_cons (pe_ix ix_list (pv 4) (pe_un un_neg pe_int) (fun _ _ => rfl)) pa_nil))) pa_nil))))))
      (pss_cons (ps_for PassesOwn.never rfl (pi_list (pv 4)) (pg_name (i := 6) scLaw.nd rfl (.inl rfl)) (pss_cons (ps_set (i := 7) scLaw.nd rfl (.inl rfl) (pe_callB call_reprB (by rfl) m_repr (by decide +kernel) (pa_cons (pe_call GAj (hr.mono (by decide)) (by rfl) gAj kAj bAj .nil pass0 (pa_cons (pv 6) pa_nil)) pa_nil)))
      (pss_one (ps_if (PW.pt (pw_or (pt_cmpR op_ne (pe_callB call_reprB (by rfl) m_repr (by decide +kernel) (pa_cons (pe_call GJs (hr.mono (by decide)) (by rfl) gJs kJs bJs .nil pass0 (pa_cons (pv 6) pa_nil)) pa_nil)) (pv 7) (nomark _)) (pw_or1 (pt_cmpR op_ne (pe_callB call_reprB (by rfl) m_repr (by decide +kernel) (pa_cons (pe_callN0 GJs (hr.mono (by decide)) (by rfl) gJs kJs nJs pass0 (pk_cons (pv 6) pk_nil)) pa_nil)) (pv 7) (nomark _))))) (pss_one (ps_ret pe_bl)) pss_nil))))
      (pss_cons (ps_for PassesOwn.never rfl (pi_range1 (by rfl) m_range (pa_cons pe_int pa_nil)) (pg_name (i := 5) scLaw.nd rfl (.inl rfl)) (pss_cons (ps_asg (pe_lc (own := [("_law_side", 13)]) (g := gName 13) (tt := tYes) rfl scLaw.nd (pi_range1 (by rfl) m_range (pa_cons pe_int pa_nil)) (blkOk_by (own := [("_law_side", 13)]) (N := ["_law_script", "_law_coil_here", "_law_tasks", "_law_seen", "_law_things", "_law_k", "_law_stuff", "_law_meant", "_law_start", "_law_stop", "_law_due", "_law_many", "_law_told", "_law_side", "_law_job"]) (sc := defScope sLaw) (by decide +kernel)) (fun _ _ _ _ _ => (pg_name (i := 13) scLaw.nd rfl (.inl rfl))) (fun _ _ _ _ _ => pts_nil) (fun _ _ _ _ _ => (pe_ifExp (pt_cmpR op_eq (pe_call GR (hr.mono (by decide)) (by rfl) gR kR bR .nil pass0 (pa_cons (pv 1) (pa_cons pe_int pa_nil))) pe_int (nomark _)) (pe_call GR (hr.mono (by decide)) (by rfl) gR kR bR .nil pass0 (pa_cons (pv 1) (pa_cons pe_int pa_nil))) (pe_call GR (hr.mono (by decide)) (by rfl) gR kR bR .nil pass0 (pa_cons (pv 1) (pa_cons pe_int pa_nil)))))) (pg_unl rfl (pgs_cons (pg_name (i := 8) scLaw.nd rfl (.inr rfl)) (pgs_cons (pg_name (i := 9) scLaw.nd rfl (.inr rfl)) pgs_nil))))
      (pss_cons (ps_cut (ps_if (PW.pt (pw_and (pt_cmpR (op_neD hr.units) (pv 2) (pe_tup pa_nil) (nomark _)) (pw_and1 (pt_cmpR op_eq (pe_call GR (hr.mono (by decide)) (by rfl) gR kR bR .nil pass0 (pa_cons (pv 1) (pa_cons pe_int pa_nil))) pe_int (nomark _))))) (pss_one (ps_asg (pe_tup (pa_cons (pe_ix ix_tup (pe_ix ix_tup (pv 2) (pe_call GR (hr.mono (by decide)) (by rfl) gR kR bR .nil pass0 (pa_cons (pv 1) (pa_cons (pe_callB call_len_seq (by rfl) m_len (by decide +kernel) (pa_cons (pv 2) pa_nil)) pa_nil))) (fun _ _ => rfl)) pe_int (fun _ _ => rfl)) (pa_cons (pe_ix ix_tup (pe_ix ix_tup (pv 2) (pe_call GR (hr.mono (by decide)) (by rfl) gR kR bR .nil pass0 (pa_cons (pv 1) (pa_cons (pe_callB call_len_seq (by rfl) m_len (by decide +kernel) (pa_cons (pv 2) pa_nil)) pa_nil))) (fun _ _ => rfl)) pe_int (fun _ _ => rfl)) pa_nil))) (pg_tup rfl (pgs_cons (pg_name (i := 8) scLaw.nd rfl (.inr rfl)) (pgs_cons (pg_name (i := 9) scLaw.nd rfl (.inr rfl)) pgs_nil))))) pss_nil))
      (pss_cons (ps_set (i := 10) scLaw.nd rfl (.inl rfl) (pe_callB (cr_sum rfl) (by rfl) m_sum (by decide +kernel) (pa_cons (pe_lc (own := [("_law_job", 14)]) (g := gName 14) (tt := tAnd (tTest (tOp (rI0 fun i j => .bl (decide (j ≤ i))) (tOp (rIxT K) (tVar 14) (tC (.int 0))) (tVar 8))) (tTest (tOp (rI0 fun i j => .bl (decide (i ≤ j))) (tOp (rIxT K) (tVar 14) (tC (.int 1))) (tVar 9)))) (te := tOp (rIxT K) (tVar 14) (tC (.int 2))) rfl scLaw.nd (pi_tup (pv 2)) (blkOk_by (own := [("_law_job", 14)]) (N := ["_law_script", "_law_coil_here", "_law_tasks", "_law_seen", "_law_things", "_law_k", "_law_stuff", "_law_meant", "_law_start", "_law_stop", "_law_due", "_law_many", "_law_told", "_law_side", "_law_job"]) (sc := defScope sLaw) (by decide +kernel)) (fun _ _ _ _ _ => (pg_name (i := 14) scLaw.nd rfl (.inl rfl))) (fun _ _ _ _ _ => (pts_one (PW.pt (pw_and (pt_cmpR op_ge (pe_ix ix_tup (pv 14) pe_int (fun _ _ => rfl)) (pv 8) (nomark _)) (pw_and1 (pt_cmpR op_le (pe_ix ix_tup (pv 14) pe_int (fun _ _ => rfl)) (pv 9) (nomark _))))))) (fun _ _ _ _ _ => (pe_ix ix_tup (pv 14) pe_int (fun _ _ => rfl)))) pa_nil)))
      (pss_one (ps_if (PW.pt (pw_or (pt_cmpR op_ne (pe_callB SkE.call_repr_int (by rfl) m_repr (by decide +kernel) (pa_cons (pe_call GW (hr.mono (by decide)) (by rfl) gW kW bW .nil pass0 (pa_cons (pv 2) (pa_cons (pv 8) (pa_cons (pv 9) pa_nil)))) pa_nil)) (pe_callB SkE.call_repr_int (by rfl) m_repr (by decide +kernel) (pa_cons (pv 10) pa_nil)) (nomark _)) (pw_or1 (pt_cmpR op_ne (pe_callB SkE.call_repr_int (by rfl) m_repr (by decide +kernel) (pa_cons (pe_callN GW (hr.mono (by decide)) (by rfl) gW kW nW pass0 (pa_cons (pv 2) pa_nil) (pk_cons (pv 9) (pk_cons (pv 8) pk_nil))) pa_nil)) (pe_callB SkE.call_repr_int (by rfl) m_repr (by decide +kernel) (pa_cons (pv 10) pa_nil)) (nomark _))))) (pss_one (ps_ret pe_bl)) pss_nil))))))
      (pss_cons (ps_set (i := 11) scLaw.nd rfl (.inl rfl) (pe_call GR (hr.mono (by decide)) (by rfl) gR kR bR .nil pass0 (pa_cons (pv 1) (pa_cons pe_int pa_nil))))
      (pss_cons (ps_set (i := 12) scLaw.nd rfl (.inl rfl) (pe_lst (pa_cons (pe_call GL (hr.mono (by decide)) (by rfl) gL kL bL .nil pass0 (pa_cons (pv 2) (pa_cons (pv 11) pa_nil))) (pa_cons (pe_callN GL (hr.mono (by decide)) (by rfl) gL kL nL1 pass0 (pa_cons (pv 2) pa_nil) (pk_cons (pv 11) pk_nil)) (pa_cons (pe_callN0 GL (hr.mono (by decide)) (by rfl) gL kL nL2 pass0 (pk_cons (pv 11) (pk_cons (pv 2) pk_nil))) (pa_cons (pe_call GL (hr.mono (by decide)) (by rfl) gL kL bL1 vL1 pass0 (pa_cons (pv 2) pa_nil)) pa_nil))))))
      (pss_cons (ps_if (pt_cmpR op_ne (pe_callB (call_reprT gd hr.units) (by rfl) m_repr (by decide +kernel) (pa_cons (pv 12) pa_nil)) (pe_callB (call_reprT gd hr.units) (by rfl) m_repr (by decide +kernel) (pa_cons (pe_op op_cat (pe_op op_rep (pe_lst (pa_cons (pe_call GLa (hr.mono (by decide)) (by rfl) gLa kLa bLa .nil pass0 (pa_cons (pv 2) (pa_cons (pv 11) pa_nil))) pa_nil)) pe_int) (pe_lst (pa_cons (pe_call GLa (hr.mono (by decide)) (by rfl) gLa kLa bLa .nil pass0 (pa_cons (pv 2) (pa_cons pe_int pa_nil))) pa_nil))) pa_nil)) (nomark _)) (pss_one (ps_ret pe_bl)) pss_nil)
      (pss_one (ps_ret (pe_and (pe_cmpR op_eq (pe_callB (call_reprT gd hr.units) (by rfl) m_repr (by decide +kernel) (pa_cons (pe_callN GL (hr.mono (by decide)) (by rfl) gL kL nL1 pass0 (pa_cons (pv 2) pa_nil) (pk_cons pe_int pk_nil)) pa_nil)) (pv 3) (nomark _)) (pe_one (pe_cmpR op_eq (pe_callB (call_reprT gd hr.units) (by rfl) m_repr (by decide +kernel) (pa_cons (pv 2) pa_nil)) (pv 3) (nomark _))))))))))))))))))), ?_⟩
    refine ⟨_, rfl, a, ns, rfl, hS, by omega, fun H0 L S s0 nL f0 => ?_⟩
    refine ⟨_, rfl, L, S, 0, rfl, f0, by decide, fun H1 tv0 js0 k1 f1 d1 ok1 len1 => ?_⟩
    show tSeq _ _ _ [some (.ref a), some (.ref L), some tv0, none, none, none, none, none, none, none, none, none, none, none, none] _
    refine ⟨fun σ' H' => ∃ tv js, σ' = [some (.ref a), some (.ref L), some tv, none, none, none, none, none, none, none, none, none, none, none, none] ∧ Coil H' L S 60 ∧ Dp K H' tv (dJobs js) ∧ (∀ j ∈ js, okJ j) ∧ js.length ≤ 12, ?_, ?_⟩
    · refine ⟨_, rfl, L, S, 8, _, rfl, by decide, by decide, f1, by decide, fun H2 v2 k2 f2 l2 u2 => ?_⟩
      obtain ⟨z1, ez1⟩ := f1.there
      have d2 : Dp K H2 tv0 (dJobs js0) := Dp.but k2 ez1 _ _ (noL_jobs js0) d1
      refine ⟨rfl, _, rfl, ite2 (fun c => ?_) (fun c => ?_)⟩
      · obtain ⟨t0, xs0, rfl, h0, dx0⟩ := Dp.tup_inv d2
        have xl0 := DpAll.len dx0
        rw [List.length_map] at xl0
        refine ⟨_, rfl, 6, rfl, by decide, by decide, fun D nD => ?_⟩
        refine lc_range (lo := 0) (n := (6 : Int).toNat) (fun i H3 => Same H2 H3 ∧ Acc K H3 D (((List.range i).map fun k : Nat => ((k : Int), 400 - (k : Int), (60 : Int))).map dJob)) ⟨same_upd nD, Acc.start⟩ (fun i H3 hi hP => ?_) (fun H3 hP => ?_)
        · obtain ⟨sm, ac⟩ := hP
          have hi' : i < 6 := hi
          refine ⟨rfl, yes (iteT ?_)⟩
          refine ⟨_, rfl, _, rfl, _, _, rfl, rfl, by show (3 : Nat) ≤ sizeLine; decide, fun t4 n4 => ?_⟩
          refine Acc.turn nD sm ac (same_upd n4) (d := dJob ((i : Int), 400 - (i : Int), (60 : Int))) ?_ rfl (by rw [List.length_map, List.length_map, List.length_range]; omega) (by rw [List.range_succ, List.map_append, List.map_append]; rfl)
          have z : (0 : Int) + (i : Int) = i := Int.zero_add _
          refine .tup (.inl (.inl ?_)) (.cons (.int _) (.cons (.int _) (.cons (.int _) .nil)))
          show (upd H3 t4 (.tup [.int (0 + (i : Int)), .int (400 - (0 + (i : Int))), .int 60])) t4 = _
          rw [upd_same, z]
        · obtain ⟨sm, ac⟩ := hP
          obtain ⟨us, eD, dv⟩ := ac.ex
          refine ⟨D, _, rfl, .inl ⟨.inl (.inl eD), fun t4 n4 => ?_⟩⟩
          have s4 := same_upd (o := .tup us) n4
          have ul := DpAll.len dv
          refine catA (TB.Same.tup (sm.trans s4) h0) (.inl (.inl upd_same)) ?_ fun H5 r5 s5 h5 => ?_
          · rw [ul, List.length_map, List.length_map, List.length_range]
            show _ + 6 ≤ sizeLine
            exact Nat.le_of_lt (small1000 (by omega))
          · refine ⟨.ref r5, js0 ++ ((List.range 6).map fun k : Nat => ((k : Int), 400 - (k : Int), (60 : Int))), rfl, (f2.same ((sm.trans s4).trans s5)).mono (by omega), ?_, ?_, ?_⟩
            · unfold dJobs
              rw [List.map_append]
              exact .tup h5 (DpAll.app (DpAll.same ((sm.trans s4).trans s5) _ _ dx0) (DpAll.same (s4.trans s5) _ _ dv))
            · intro j hj
              rcases List.mem_append.mp hj with z | z
              · exact ok1 j z
              · obtain ⟨k, hk, rfl⟩ := List.mem_map.mp z
                have := List.mem_range.mp hk
                exact ⟨by show (0 : Int) ≤ k; omega, by show (k : Int) ≤ 400 - k; omega, by show 400 - (k : Int) < 2000; omega, by show (0 : Int) ≤ 60; decide, by show (60 : Int) < 2000; decide⟩
            · rw [List.length_append]
              show _ + 6 ≤ 12
              omega
      · exact ⟨tv0, js0, rfl, f2.mono (by omega), d2, ok1, by omega⟩
    rintro _ H1 ⟨tv, js, rfl, f1, dT, okJs, lenJ⟩
    clear d1
    have shT : Sh 2 300000 (dJobs js) := sh_jobs (fun j hj => okJ_abs (okJs j hj)) (by omega)
    obtain ⟨t0, xs0, rfl, hT0, dx0⟩ := Dp.tup_inv dT
    have gT : Gd 200 5 (dJobs js) := Gd.mono (by omega) (by omega) (gd_jobs lenJ)
    have gdA : ∀ d ∈ [dJobs js, .tuple [], .none, .list [dJobs js], .list (js.map dJob), .tuple (dInts [1, 2, 3]), .tuple [.tuple (dInts [1, 2, 3])], .tuple [.tuple (dInts [2, 1, 3])], .tuple [.tuple (dInts [1, 1, 0])]], Gd 200 6 d := by
      intro d hd
      simp only [List.mem_cons, List.not_mem_nil, or_false] at hd
      rcases hd with rfl | rfl | rfl | rfl | rfl | rfl | rfl | rfl | rfl
      · exact Gd.mono (by omega) (by omega) gT
      · exact Gd.tup (Nat.zero_le _) fun e he => by cases he
      · exact Gd.atom trivial
      · exact Gd.lst (by show (1 : Nat) ≤ 200; decide) fun e he => by
          rw [List.mem_singleton.mp he]
          exact gT
      · obtain ⟨l, el, hl, h⟩ := gT.tup_inv
        cases el
        exact Gd.lst hl fun e he => Gd.mono (by omega) (by omega) (h e he)
      · exact gd_ints 5 _ (by decide)
      · exact gd_one (gd_ints 4 _ (by decide))
      · exact gd_one (gd_ints 4 _ (by decide))
      · exact gd_one (gd_ints 4 _ (by decide))
    have tk1 : Took [L] H1 := fun f hf z => by
      obtain ⟨zs, ez⟩ := f1.there
      rw [List.mem_singleton.mp hf, ez] at z
      cases z
    have noLT : Same (hid [L] H1) H1 := hid_sub
    obtain ⟨z1, ez1⟩ := f1.there
    have dTh : Dp K (hid [L] H1) (.ref t0) (dJobs js) := hid_dp ez1 _ _ (noL_jobs js) dT
    have dxh : DpAll K (hid [L] H1) xs0 (js.map dJob) := hid_dps ez1 _ _ (noL_jobs js) dx0
    -- seen
    refine ⟨_, rfl, t0, _, rfl, dT, shT.sh, shT.nd, Nat.le_trans shT.dp (by omega), Nat.le_trans shT.ln (by rw [sizeLine_eq]; decide), ?_⟩
    show tSeq _ _ _ [some (.ref a), some (.ref L), some (.ref t0), some (.str (txt (dJobs js))), none, none, none, none, none, none, none, none, none, none, none] _
    -- things
    refine ⟨_, rfl, Nat.zero_le _, fun a1 na1 => ?_⟩
    have sa1 := same_upd (o := .tup []) na1
    have ta1 := tk1.same sa1
    have ha1 : SqT K (hid [L] (upd H1 a1 (.tup []))) a1 [] := newT tk1 na1
    generalize upd H1 a1 (.tup []) = Ha1 at *
    refine ⟨_, rfl, by show (1 : Nat) ≤ sizeLine; decide, fun a2 na2 => ?_⟩
    have sa2 := same_upd (o := .lst [.ref t0]) na2
    have ta2 := ta1.same sa2
    have ha2 : SqL K (hid [L] (upd Ha1 a2 (.lst [.ref t0]))) a2 [.ref t0] := newL ta1 na2
    generalize upd Ha1 a2 (.lst [.ref t0]) = Ha2 at *
    refine ⟨_, rfl, t0, _, rfl, .inr (TB.Same.tup (sa1.trans sa2) hT0), fun a3 na3 => ?_⟩
    have sa3 := same_upd (o := .lst xs0) na3
    have ta3 := ta2.same sa3
    have ha3 : SqL K (hid [L] (upd Ha2 a3 (.lst xs0))) a3 xs0 := newL ta2 na3
    generalize upd Ha2 a3 (.lst xs0) = Ha3 at *
    refine ⟨by show (3 : Nat) ≤ sizeLine; decide, fun a4 na4 => ?_⟩
    have sa4 := same_upd (o := .tup [.int 1, .int 2, .int 3]) na4
    have ta4 := ta3.same sa4
    have ha4 : SqT K (hid [L] (upd Ha3 a4 (.tup [.int 1, .int 2, .int 3]))) a4 [.int 1, .int 2, .int 3] := newT ta3 na4
    generalize upd Ha3 a4 (.tup [.int 1, .int 2, .int 3]) = Ha4 at *
    refine ⟨by show (3 : Nat) ≤ sizeLine; decide, fun a5 na5 => ?_⟩
    have sa5 := same_upd (o := .tup [.int 1, .int 2, .int 3]) na5
    have ta5 := ta4.same sa5
    have ha5 : SqT K (hid [L] (upd Ha4 a5 (.tup [.int 1, .int 2, .int 3]))) a5 [.int 1, .int 2, .int 3] := newT ta4 na5
    generalize upd Ha4 a5 (.tup [.int 1, .int 2, .int 3]) = Ha5 at *
    refine ⟨by show (1 : Nat) ≤ sizeLine; decide, fun a6 na6 => ?_⟩
    have sa6 := same_upd (o := .tup [.ref a5]) na6
    have ta6 := ta5.same sa6
    have ha6 : SqT K (hid [L] (upd Ha5 a6 (.tup [.ref a5]))) a6 [.ref a5] := newT ta5 na6
    generalize upd Ha5 a6 (.tup [.ref a5]) = Ha6 at *
    refine ⟨by show (3 : Nat) ≤ sizeLine; decide, fun a7 na7 => ?_⟩
    have sa7 := same_upd (o := .tup [.int 2, .int 1, .int 3]) na7
    have ta7 := ta6.same sa7
    have ha7 : SqT K (hid [L] (upd Ha6 a7 (.tup [.int 2, .int 1, .int 3]))) a7 [.int 2, .int 1, .int 3] := newT ta6 na7
    generalize upd Ha6 a7 (.tup [.int 2, .int 1, .int 3]) = Ha7 at *
    refine ⟨by show (1 : Nat) ≤ sizeLine; decide, fun a8 na8 => ?_⟩
    have sa8 := same_upd (o := .tup [.ref a7]) na8
    have ta8 := ta7.same sa8
    have ha8 : SqT K (hid [L] (upd Ha7 a8 (.tup [.ref a7]))) a8 [.ref a7] := newT ta7 na8
    generalize upd Ha7 a8 (.tup [.ref a7]) = Ha8 at *
    refine ⟨by show (3 : Nat) ≤ sizeLine; decide, fun a9 na9 => ?_⟩
    have sa9 := same_upd (o := .tup [.int 1, .int 1, .int 0]) na9
    have ta9 := ta8.same sa9
    have ha9 : SqT K (hid [L] (upd Ha8 a9 (.tup [.int 1, .int 1, .int 0]))) a9 [.int 1, .int 1, .int 0] := newT ta8 na9
    generalize upd Ha8 a9 (.tup [.int 1, .int 1, .int 0]) = Ha9 at *
    refine ⟨by show (1 : Nat) ≤ sizeLine; decide, fun a10 na10 => ?_⟩
    have sa10 := same_upd (o := .tup [.ref a9]) na10
    have ta10 := ta9.same sa10
    have ha10 : SqT K (hid [L] (upd Ha9 a10 (.tup [.ref a9]))) a10 [.ref a9] := newT ta9 na10
    generalize upd Ha9 a10 (.tup [.ref a9]) = Ha10 at *
    have ga10 : Same Ha10 Ha10 := Same.refl _
    have ga9 : Same Ha9 Ha10 := sa10.trans ga10
    have ga8 : Same Ha8 Ha10 := sa9.trans ga9
    have ga7 : Same Ha7 Ha10 := sa8.trans ga8
    have ga6 : Same Ha6 Ha10 := sa7.trans ga7
    have ga5 : Same Ha5 Ha10 := sa6.trans ga6
    have ga4 : Same Ha4 Ha10 := sa5.trans ga5
    have ga3 : Same Ha3 Ha10 := sa4.trans ga4
    have ga2 : Same Ha2 Ha10 := sa3.trans ga3
    have ga1 : Same Ha1 Ha10 := sa2.trans ga2
    have ga0 : Same H1 Ha10 := sa1.trans ga1
    refine ⟨by show (9 : Nat) ≤ sizeLine; decide, fun W1 nW1 => ?_⟩
    have dA : DpAll K (hid [L] Ha10) [.ref t0, .ref a1, .non, .ref a2, .ref a3, .ref a4, .ref a6, .ref a8, .ref a10] [dJobs js, .tuple [], .none, .list [dJobs js], .list (js.map dJob), .tuple (dInts [1, 2, 3]), .tuple [.tuple (dInts [1, 2, 3])], .tuple [.tuple (dInts [2, 1, 3])], .tuple [.tuple (dInts [1, 1, 0])]] := by
      have dT1 : Dp K (hid [L] Ha10) (.ref t0) (dJobs js) := Dp.same (hid_same ga0) _ _ dTh
      have dx1 : DpAll K (hid [L] Ha10) xs0 (js.map dJob) := DpAll.same (hid_same ga0) _ _ dxh
      refine .cons dT1 (.cons (.tup (TB.Same.tup (hid_same ga1) ha1) .nil) (.cons .non (.cons (.lst ((hid_same ga2).seq ha2) (.cons dT1 .nil)) (.cons (.lst ((hid_same ga3).seq ha3) dx1) ?_))))
      refine .cons (.tup (TB.Same.tup (hid_same ga4) ha4) (dp_ints [1, 2, 3])) (.cons (.tup (TB.Same.tup (hid_same ga6) ha6) (.cons (.tup (TB.Same.tup (hid_same ga5) ha5) (dp_ints [1, 2, 3])) .nil)) ?_)
      refine .cons (.tup (TB.Same.tup (hid_same ga8) ha8) (.cons (.tup (TB.Same.tup (hid_same ga7) ha7) (dp_ints [2, 1, 3])) .nil)) (.cons (.tup (TB.Same.tup (hid_same ga10) ha10) (.cons (.tup (TB.Same.tup (hid_same ga9) ha9) (dp_ints [1, 1, 0])) .nil)) .nil)
    have th1 := Th.mk0 (n := 9) dA gdA rfl nW1
    have nWL : W1 ≠ L := ((f1.same ga0).ne nW1).1
    have nWS : W1 ≠ S := ((f1.same ga0).ne nW1).2
    have sW1 := same_upd (o := .lst [.ref t0, .ref a1, .non, .ref a2, .ref a3, .ref a4, .ref a6, .ref a8, .ref a10]) nW1
    have dTW : Dp K (hid [L, W1] (upd Ha10 W1 (.lst [.ref t0, .ref a1, .non, .ref a2, .ref a3, .ref a4, .ref a6, .ref a8, .ref a10]))) (.ref t0) (dJobs js) := Dp.same (hid_new List.mem_cons_self ga0 nW1) _ _ dTh
    generalize upd Ha10 W1 (.lst [.ref t0, .ref a1, .non, .ref a2, .ref a3, .ref a4, .ref a6, .ref a8, .ref a10]) = HW1 at *
    have tkW1 : Took [L, W1] HW1 := Th.took th1 (f1.same (ga0.trans sW1))
    have fW1 := f1.same (ga0.trans sW1)
    show tSeq _ _ _ [some (.ref a), some (.ref L), some (.ref t0), some (.str (txt (dJobs js))), some (.ref W1), none, none, none, none, none, none, none, none, none, none] _
    -- one more
    obtain ⟨us1, ds1, e1, dv1, gd1⟩ := th1.ex
    refine ⟨_, rfl, .inl ⟨rfl, _, .inl (.inl e1)⟩, ?_⟩
    refine ⟨by show (3 : Nat) ≤ sizeLine; decide, fun b1 nb1 => ?_⟩
    have sb1 := same_upd (o := .tup [.int 0, .int 0, .bl true]) nb1
    have tb1 := tkW1.same sb1
    have hb1 : SqT K (hid [L, W1] (upd HW1 b1 (.tup [.int 0, .int 0, .bl true]))) b1 [.int 0, .int 0, .bl true] := newT tkW1 nb1
    generalize upd HW1 b1 (.tup [.int 0, .int 0, .bl true]) = Hb1 at *
    refine ⟨by show (1 : Nat) ≤ sizeLine; decide, fun b2 nb2 => ?_⟩
    have sb2 := same_upd (o := .tup [.ref b1]) nb2
    have tb2 := tb1.same sb2
    have hb2 : SqT K (hid [L, W1] (upd Hb1 b2 (.tup [.ref b1]))) b2 [.ref b1] := newT tb1 nb2
    generalize upd Hb1 b2 (.tup [.ref b1]) = Hb2 at *
    have gb2 : Same Hb2 Hb2 := Same.refl _
    have gb1 : Same Hb1 Hb2 := sb2.trans gb2
    have gb0 : Same HW1 Hb2 := sb1.trans gb1
    have dB : Dp K (hid [L, W1] Hb2) (.ref b2) (.tuple [.tuple [.int 0, .int 0, .bool true]]) := .tup hb2 (.cons (.tup (TB.Same.tup (hid_same gb1) hb1) (.cons (.int _) (.cons (.int _) (.cons (.bl _) .nil)))) .nil)
    have ul1 : us1.length = 9 := by
      rw [DpAll.len dv1]
      exact gd1.2
    refine ⟨W1, _, _, rfl, rfl, gb0 _ _ e1, by rw [ul1]; exact small1000 (by decide), ?_⟩
    have th2 := Th.more (gb0 _ _ e1) (DpAll.same (hid_same gb0) _ _ dv1) gd1 dB (gd_one (Gd.tup (by show (3 : Nat) ≤ 200; decide) fun e he => by
      simp only [List.mem_cons, List.not_mem_nil, or_false] at he
      rcases he with rfl | rfl | rfl
      · exact Gd.atom trivial
      · exact Gd.atom trivial
      · exact Gd.atom trivial))
    have fp1 : Coil (upd Hb2 W1 (.lst (us1 ++ [.ref b2]))) L S 60 := (fW1.same gb0).upd ⟨nWL, nWS⟩
    have dTp : Dp K (hid [L, W1] (upd Hb2 W1 (.lst (us1 ++ [.ref b2])))) (.ref t0) (dJobs js) := by
      rw [hid_upd memW]
      exact Dp.same (hid_same gb0) _ _ dTW
    generalize upd Hb2 W1 (.lst (us1 ++ [.ref b2])) = Hp1 at *
    have tp1 : Took [L, W1] Hp1 := Th.took th2 fp1
    obtain ⟨us2, ds2, e2, dv2, gd2, ln2⟩ := th2.ex
    -- five more
    refine ⟨_, rfl, _, _, rfl, rfl, ⟨by decide, by decide, by decide⟩, _, _, rfl, rfl, ⟨by decide, by decide, by decide⟩, _, _, rfl, rfl, ⟨by decide, by decide, by decide⟩, by show (3 : Nat) ≤ sizeLine; decide, fun c1 nc1 => ?_⟩
    have sc1 := same_upd (o := .tup [.int (10 ^ Int.toNat 60), .int (10 ^ Int.toNat 61), .int (10 ^ Int.toNat 62)]) nc1
    have tc1 := tp1.same sc1
    have hc1 : SqT K (hid [L, W1] (upd Hp1 c1 (.tup [.int (10 ^ Int.toNat 60), .int (10 ^ Int.toNat 61), .int (10 ^ Int.toNat 62)]))) c1 [.int (10 ^ Int.toNat 60), .int (10 ^ Int.toNat 61), .int (10 ^ Int.toNat 62)] := newT tp1 nc1
    generalize upd Hp1 c1 (.tup [.int (10 ^ Int.toNat 60), .int (10 ^ Int.toNat 61), .int (10 ^ Int.toNat 62)]) = Hc1 at *
    refine ⟨by show (1 : Nat) ≤ sizeLine; decide, fun c2 nc2 => ?_⟩
    have sc2 := same_upd (o := .tup [.ref c1]) nc2
    have tc2 := tc1.same sc2
    have hc2 : SqT K (hid [L, W1] (upd Hc1 c2 (.tup [.ref c1]))) c2 [.ref c1] := newT tc1 nc2
    generalize upd Hc1 c2 (.tup [.ref c1]) = Hc2 at *
    refine ⟨_, rfl, by show (3 : Nat) ≤ sizeLine; decide, fun c3 nc3 => ?_⟩
    have sc3 := same_upd (o := .tup [.int 0, .int 1, .int (-1)]) nc3
    have tc3 := tc2.same sc3
    have hc3 : SqT K (hid [L, W1] (upd Hc2 c3 (.tup [.int 0, .int 1, .int (-1)]))) c3 [.int 0, .int 1, .int (-1)] := newT tc2 nc3
    generalize upd Hc2 c3 (.tup [.int 0, .int 1, .int (-1)]) = Hc3 at *
    refine ⟨by show (1 : Nat) ≤ sizeLine; decide, fun c4 nc4 => ?_⟩
    have sc4 := same_upd (o := .tup [.ref c3]) nc4
    have tc4 := tc3.same sc4
    have hc4 : SqT K (hid [L, W1] (upd Hc3 c4 (.tup [.ref c3]))) c4 [.ref c3] := newT tc3 nc4
    generalize upd Hc3 c4 (.tup [.ref c3]) = Hc4 at *
    refine ⟨by show (2 : Nat) ≤ sizeLine; decide, fun c5 nc5 => ?_⟩
    have sc5 := same_upd (o := .tup [.int 0, .int 1]) nc5
    have tc5 := tc4.same sc5
    have hc5 : SqT K (hid [L, W1] (upd Hc4 c5 (.tup [.int 0, .int 1]))) c5 [.int 0, .int 1] := newT tc4 nc5
    generalize upd Hc4 c5 (.tup [.int 0, .int 1]) = Hc5 at *
    refine ⟨by show (1 : Nat) ≤ sizeLine; decide, fun c6 nc6 => ?_⟩
    have sc6 := same_upd (o := .tup [.ref c5]) nc6
    have tc6 := tc5.same sc6
    have hc6 : SqT K (hid [L, W1] (upd Hc5 c6 (.tup [.ref c5]))) c6 [.ref c5] := newT tc5 nc6
    generalize upd Hc5 c6 (.tup [.ref c5]) = Hc6 at *
    refine ⟨by show (3 : Nat) ≤ sizeLine; decide, fun c7 nc7 => ?_⟩
    have sc7 := same_upd (o := .lst [.int 0, .int 1, .int 2]) nc7
    have tc7 := tc6.same sc7
    have hc7 : SqL K (hid [L, W1] (upd Hc6 c7 (.lst [.int 0, .int 1, .int 2]))) c7 [.int 0, .int 1, .int 2] := newL tc6 nc7
    generalize upd Hc6 c7 (.lst [.int 0, .int 1, .int 2]) = Hc7 at *
    refine ⟨by show (1 : Nat) ≤ sizeLine; decide, fun c8 nc8 => ?_⟩
    have sc8 := same_upd (o := .tup [.ref c7]) nc8
    have tc8 := tc7.same sc8
    have hc8 : SqT K (hid [L, W1] (upd Hc7 c8 (.tup [.ref c7]))) c8 [.ref c7] := newT tc7 nc8
    generalize upd Hc7 c8 (.tup [.ref c7]) = Hc8 at *
    refine ⟨by show (4 : Nat) ≤ sizeLine; decide, fun c9 nc9 => ?_⟩
    have sc9 := same_upd (o := .tup [.int 0, .int 1, .int 2, .int 3]) nc9
    have tc9 := tc8.same sc9
    have hc9 : SqT K (hid [L, W1] (upd Hc8 c9 (.tup [.int 0, .int 1, .int 2, .int 3]))) c9 [.int 0, .int 1, .int 2, .int 3] := newT tc8 nc9
    generalize upd Hc8 c9 (.tup [.int 0, .int 1, .int 2, .int 3]) = Hc9 at *
    refine ⟨by show (1 : Nat) ≤ sizeLine; decide, fun c10 nc10 => ?_⟩
    have sc10 := same_upd (o := .tup [.ref c9]) nc10
    have tc10 := tc9.same sc10
    have hc10 : SqT K (hid [L, W1] (upd Hc9 c10 (.tup [.ref c9]))) c10 [.ref c9] := newT tc9 nc10
    generalize upd Hc9 c10 (.tup [.ref c9]) = Hc10 at *
    have gc10 : Same Hc10 Hc10 := Same.refl _
    have gc9 : Same Hc9 Hc10 := sc10.trans gc10
    have gc8 : Same Hc8 Hc10 := sc9.trans gc9
    have gc7 : Same Hc7 Hc10 := sc8.trans gc8
    have gc6 : Same Hc6 Hc10 := sc7.trans gc7
    have gc5 : Same Hc5 Hc10 := sc6.trans gc6
    have gc4 : Same Hc4 Hc10 := sc5.trans gc5
    have gc3 : Same Hc3 Hc10 := sc4.trans gc4
    have gc2 : Same Hc2 Hc10 := sc3.trans gc3
    have gc1 : Same Hc1 Hc10 := sc2.trans gc2
    have gc0 : Same Hp1 Hc10 := sc1.trans gc1
    refine ⟨by show (5 : Nat) ≤ sizeLine; decide, fun cl ncl => ?_⟩
    have scl := same_upd (o := .lst [.ref c2, .ref c4, .ref c6, .ref c8, .ref c10]) ncl
    have ecl : (upd Hc10 cl (.lst [.ref c2, .ref c4, .ref c6, .ref c8, .ref c10])) cl = some (.lst [.ref c2, .ref c4, .ref c6, .ref c8, .ref c10]) := upd_same
    generalize upd Hc10 cl (.lst [.ref c2, .ref c4, .ref c6, .ref c8, .ref c10]) = Hc at *
    have dC : DpAll K (hid [L, W1] Hc) [.ref c2, .ref c4, .ref c6, .ref c8, .ref c10] [.tuple [.tuple (dInts [10 ^ Int.toNat 60, 10 ^ Int.toNat 61, 10 ^ Int.toNat 62])], .tuple [.tuple (dInts [0, 1, -1])], .tuple [.tuple (dInts [0, 1])], .tuple [.list (dInts [0, 1, 2])], .tuple [.tuple (dInts [0, 1, 2, 3])]] := by
      have hh : ∀ {Hx : Hp}, Same Hx Hc10 → Same (hid [L, W1] Hx) (hid [L, W1] Hc) := fun z => hid_same (z.trans scl)
      refine .cons (.tup (TB.Same.tup (hh gc2) hc2) (.cons (.tup (TB.Same.tup (hh gc1) hc1) (dp_ints [10 ^ Int.toNat 60, 10 ^ Int.toNat 61, 10 ^ Int.toNat 62])) .nil)) (.cons (.tup (TB.Same.tup (hh gc4) hc4) (.cons (.tup (TB.Same.tup (hh gc3) hc3) (dp_ints [0, 1, -1])) .nil)) ?_)
      refine .cons (.tup (TB.Same.tup (hh gc6) hc6) (.cons (.tup (TB.Same.tup (hh gc5) hc5) (dp_ints [0, 1])) .nil)) (.cons (.tup (TB.Same.tup (hh gc8) hc8) (.cons (.lst ((hh gc7).seq hc7) (dp_ints [0, 1, 2])) .nil)) (.cons (.tup (TB.Same.tup (hh gc10) hc10) (.cons (.tup (TB.Same.tup (hh gc9) hc9) (dp_ints [0, 1, 2, 3])) .nil)) .nil))
    have gC : ∀ d ∈ [PyData.tuple [.tuple (dInts [10 ^ Int.toNat 60, 10 ^ Int.toNat 61, 10 ^ Int.toNat 62])], .tuple [.tuple (dInts [0, 1, -1])], .tuple [.tuple (dInts [0, 1])], .tuple [.list (dInts [0, 1, 2])], .tuple [.tuple (dInts [0, 1, 2, 3])]], Gd 200 6 d := by
      intro d hd
      simp only [List.mem_cons, List.not_mem_nil, or_false] at hd
      rcases hd with rfl | rfl | rfl | rfl | rfl
      · exact gd_one (gd_ints 4 _ (by show (3 : Nat) ≤ 200; decide))
      · exact gd_one (gd_ints 4 _ (by decide))
      · exact gd_one (gd_ints 4 _ (by decide))
      · refine gd_one (k := 5) (Gd.lst (by show (3 : Nat) ≤ 200; decide) fun e he => ?_)
        obtain ⟨i, _, rfl⟩ := List.mem_map.mp he
        exact Gd.atom trivial
      · exact gd_one (gd_ints 4 _ (by decide))
    have ul2 : us2.length = 10 := by
      rw [DpAll.len dv2]
      exact ln2
    refine ⟨W1, cl, _, _, rfl, rfl, scl _ _ (gc0 _ _ e2), ecl, by rw [ul2]; show (15 : Nat) ≤ sizeLine; decide, fun W nW => ?_⟩
    have th3 := Th.cat (m := 5) (DpAll.same (hid_same (gc0.trans scl)) _ _ dv2) gd2 ln2 dC gC rfl nW
    have sW := same_upd (o := .lst (us2 ++ [.ref c2, .ref c4, .ref c6, .ref c8, .ref c10])) nW
    have dTc : Dp K (hid [L, W] (upd Hc W (.lst (us2 ++ [.ref c2, .ref c4, .ref c6, .ref c8, .ref c10])))) (.ref t0) (dJobs js) := Dp.same (hid_new memL (gc0.trans scl) nW) _ _ dTp
    have fc : Coil Hc L S 60 := fp1.same (gc0.trans scl)
    have nWL2 := fc.ne nW
    have fW := fc.same sW
    generalize upd Hc W (.lst (us2 ++ [.ref c2, .ref c4, .ref c6, .ref c8, .ref c10])) = HW at *
    show tSeq _ _ _ [some (.ref a), some (.ref L), some (.ref t0), some (.str (txt (dJobs js))), some (.ref W), none, none, none, none, none, none, none, none, none, none] _
    -- bent ones
    refine ⟨6, rfl, by decide, by decide, ?_⟩
    refine for_range (lo := 0) (n := (6 : Int).toNat) (fun i σ H2 => ∃ y5, σ = [some (.ref a), some (.ref L), some (.ref t0), some (.str (txt (dJobs js))), some (.ref W), y5, none, none, none, none, none, none, none, none, none] ∧ Coil H2 L S (60 + 30 * i) ∧ Th K H2 L W (15 + 2 * i) ∧ Dp K (hid [L, W] H2) (.ref t0) (dJobs js)) ⟨_, rfl, fW.mono (by omega), th3, dTc⟩ ?_ ?_
    · rintro i σ H2 hi ⟨y5, rfl, f2, t2, d2⟩
      have hi' : i < 6 := hi
      show tSeq _ _ _ [some (.ref a), some (.ref L), some (.ref t0), some (.str (txt (dJobs js))), some (.ref W), some (.int (0 + (i : Int))), none, none, none, none, none, none, none, none, none] _
      obtain ⟨us, ds, e, dv, gd0, ln⟩ := t2.ex
      refine ⟨_, rfl, .inl ⟨rfl, _, .inl (.inl e)⟩, ?_⟩
      refine ⟨_, rfl, _, rfl, L, S, 60 + 30 * (i : Int), .ref t0, dJobs js, [L, W], 12, rfl, f2, by show 60 + 30 * (i : Int) + 9 < 900000; omega, memL, t2.took f2, d2, gd_jobs lenJ, by decide, by decide, fun H3 r3 d3 k3 f3 dr3 g3 => ?_⟩
      have f3 : Coil H3 L S (60 + 30 * (i : Int) + 9) := f3
      have g3 : Gd 36 3 d3 := g3
      have t3 := t2.but k3 nWL2.1
      obtain ⟨us3, ds3, e3, dv3, gd3, ln3⟩ := t3.ex
      have ul3 : us3.length = 15 + 2 * i := by
        rw [DpAll.len dv3]
        exact ln3
      refine ⟨W, _, _, rfl, rfl, e3, small1000 (by omega), ?_⟩
      have t4 := Th.more e3 dv3 ⟨gd3, ln3⟩ dr3 (Gd.mono (by omega) (by omega) g3)
      have f4 := f3.upd (o := .lst (us3 ++ [r3])) nWL2
      have d4 : Dp K (hid [L, W] (upd H3 W (.lst (us3 ++ [r3])))) (.ref t0) (dJobs js) := by
        rw [hid_upd memW]
        exact Dp.same (hid_but memL k3) _ _ d2
      have dr4 : Dp K (hid [L, W] (upd H3 W (.lst (us3 ++ [r3])))) r3 d3 := by
        rw [hid_upd memW]
        exact dr3
      have e4 : (upd H3 W (.lst (us3 ++ [r3]))) W = some (.lst (us3 ++ [r3])) := upd_same
      generalize upd H3 W (.lst (us3 ++ [r3])) = H4 at *
      refine ⟨_, rfl, .inl ⟨rfl, _, .inl (.inl e4)⟩, ?_⟩
      refine ⟨_, rfl, _, rfl, 1, rfl, W, _, _, _, rfl, rfl, .inl (.inl e4), atI_last, L, S, _, r3, d3, [L, W], 36, rfl, f4, by show 60 + 30 * (i : Int) + 9 + 12 < 900000; omega, memL, t4.took f4, dr4, g3, by decide, by decide, fun H5 r5 d5 k5 f5 dr5 g5 => ?_⟩
      have f5 : Coil H5 L S (60 + 30 * (i : Int) + 9 + 12) := f5
      have g5 : Gd 108 4 d5 := g5
      have t5 := t4.but k5 nWL2.1
      obtain ⟨us5, ds5, e5, dv5, gd5, ln5⟩ := t5.ex
      have ul5 : us5.length = 15 + 2 * i + 1 := by
        rw [DpAll.len dv5]
        exact ln5
      refine ⟨W, _, _, rfl, rfl, e5, small1000 (by omega), ?_⟩
      have t6 := Th.more e5 dv5 ⟨gd5, ln5⟩ dr5 (Gd.mono (by omega) (by omega) g5)
      refine ⟨_, rfl, (f5.upd nWL2).mono (by omega), ?_, ?_⟩
      · rw [show 15 + 2 * (i + 1) = 15 + 2 * i + 1 + 1 by omega]
        exact t6
      · rw [hid_upd memW]
        exact Dp.same (hid_but memL k5) _ _ d4
    rintro σ H2 ⟨y5, rfl, f2, t2, d2⟩
    obtain ⟨us, ds, e, dv, gd0, ln⟩ := t2.ex
    have dv' : DpAll K H2 us ds := DpAll.same hid_sub _ _ dv
    refine ⟨.ref W, rfl, W, rfl, ⟨_, .inl (.inl e)⟩, ?_⟩
    refine for_list (xs := us) (fun i σ H3 => ∃ y6 y7, σ = [some (.ref a), some (.ref L), some (.ref t0), some (.str (txt (dJobs js))), some (.ref W), y5, y6, y7, none, none, none, none, none, none, none] ∧ Same H2 H3) ⟨_, _, rfl, Same.refl _⟩ ?_ ?_ ?_
    · rintro i σ H3 _ ⟨y6, y7, rfl, s3⟩
      exact .inl (.inl (s3 _ _ e))
    · rintro i x σ H3 hx ⟨y6, y7, rfl, s3⟩
      obtain ⟨d, hdi, dx⟩ := DpAll.get dv' hx
      have gx := gd0 d (List.mem_of_getElem? hdi)
      have tl : topLen d ≤ 900 := Nat.le_trans (gd_top gx) (by decide)
      have dx3 := Dp.same s3 _ _ dx
      show tSeq _ _ _ [some (.ref a), some (.ref L), some (.ref t0), some (.str (txt (dJobs js))), some (.ref W), y5, some x, y7, none, none, none, none, none, none, none] _
      refine ⟨_, rfl, x, d, rfl, dx3, tl, fun H4 s4 => ⟨_, rfl, ?_⟩⟩
      refine ⟨_, rfl, x, d, rfl, Dp.same s4 _ _ dx3, tl, fun H5 s5 => ⟨_, rfl, ?_⟩⟩
      refine ⟨_, rfl, rfl, _, rfl, iteNS rfl ?_⟩
      refine ⟨_, rfl, rfl, rfl, x, d, rfl, Dp.same (s4.trans s5) _ _ dx3, tl, fun H6 s6 => ⟨_, rfl, ?_⟩⟩
      refine ⟨_, rfl, rfl, _, rfl, ?_⟩
      change ite _ _ _
      refine iteNS rfl ?_
      exact ⟨_, _, rfl, s3.trans (s4.trans (s5.trans s6))⟩
    rintro σ H3 ⟨y6, y7, rfl, s3⟩
    have f3 : Coil H3 L S 300 := (f2.same s3).mono (by decide)
    have dT3 : Dp K H3 (.ref t0) (dJobs js) := Dp.same (hid_sub.trans s3) _ _ d2
    clear f2 t2 d2 e dv dv' th3 dTc fW
    refine ⟨6, rfl, by decide, by decide, ?_⟩
    refine for_range (lo := 0) (n := (6 : Int).toNat) (fun i σ H4 => ∃ y5 y8 y9 y10, σ = [some (.ref a), some (.ref L), some (.ref t0), some (.str (txt (dJobs js))), some (.ref W), y5, y6, y7, y8, y9, y10, none, none, none, none] ∧ Coil H4 L S (300 + 30 * i) ∧ Dp K H4 (.ref t0) (dJobs js)) ⟨_, _, _, _, rfl, f3.mono (by omega), dT3⟩ ?_ ?_
    · rintro i σ H4 hi ⟨y5', y8, y9, y10, rfl, f4, d4⟩
      have hi' : i < 6 := hi
      generalize hTT : (300 + 30 * (i : Int)) = T at f4
      have hT : T < 1000 := by omega
      show tSeq _ _ _ [some (.ref a), some (.ref L), some (.ref t0), some (.str (txt (dJobs js))), some (.ref W), some (.int (0 + (i : Int))), y6, y7, y8, y9, y10, none, none, none, none] _
      refine ⟨2, rfl, by decide, by decide, fun D nD => ?_⟩
      have nDL := f4.ne nD
      refine lc_range (lo := 0) (n := (2 : Int).toNat) (fun j H5 => Coil H5 L S (T + 2 * j) ∧ Dp K H5 (.ref t0) (dJobs js) ∧ ∃ vs : List Int, vs.length = j ∧ H5 D = some (.lst (vs.map V.int)))
        ⟨(f4.same (same_upd nD)).mono (by omega), Dp.same (same_upd nD) _ _ d4, [], rfl, upd_same⟩ (fun j H5 hj hP => ?_) (fun H5 hP => ?_)
      · obtain ⟨f5, d5, vs, hl, eD⟩ := hP
        have hj' : j < 2 := hj
        obtain ⟨z5, ez5⟩ := f5.there
        refine ⟨rfl, yes (iteT ?_)⟩
        refine ⟨_, rfl, L, S, 3, _, rfl, by decide, by decide, f5, by omega, fun H6 v6 k6 f6 l6 u6 => ⟨rfl, _, rfl, ?_⟩⟩
        obtain ⟨z6, ez6⟩ := f6.there
        have d6 := Dp.but k6 ez5 _ _ (noL_jobs js) d5
        have eD6 := k6 _ _ nDL.1 eD
        have fin : ∀ (H7 : Hp) (v7 : Int), But L H6 H7 → Coil H7 L S (T + 2 * j + 1 + 1) → ∃ acc, H7 D = some (.lst acc) ∧ acc.length < sizeLine ∧ (Coil (upd H7 D (.lst (acc ++ [.int v7]))) L S (T + 2 * ((j + 1 : Nat) : Int)) ∧ Dp K (upd H7 D (.lst (acc ++ [.int v7]))) (.ref t0) (dJobs js) ∧ ∃ vs : List Int, vs.length = j + 1 ∧ (upd H7 D (.lst (acc ++ [.int v7]))) D = some (.lst (vs.map V.int))) := fun H7 v7 k7 f7 => by
          have eD7 := k7 _ _ nDL.1 eD6
          have d7 := Dp.but k7 ez6 _ _ (noL_jobs js) d6
          refine ⟨_, eD7, by rw [List.length_map]; exact small1000 (by omega), (f7.upd nDL).mono (by omega), Dp.but But.upd eD7 _ _ (noL_jobs js) d7, vs ++ [v7], by rw [List.length_append, hl]; rfl, ?_⟩
          rw [upd_same, List.map_append]
          rfl
        refine ite2 (fun c => ?_) (fun c => ?_)
        · exact ⟨_, rfl, L, S, 400, _, rfl, by decide, by decide, f6, by omega, fun H7 v7 k7 f7 l7 u7 => fin H7 v7 k7 f7⟩
        · exact ⟨_, rfl, L, S, 40, _, rfl, by decide, by decide, f6, by omega, fun H7 v7 k7 f7 l7 u7 => fin H7 v7 k7 f7⟩
      · obtain ⟨f5, d5, vs, hl, eD⟩ := hP
        have f5 : Coil H5 L S (T + 4) := f5
        obtain ⟨b0, e0, rfl⟩ : ∃ b0 e0, vs = [b0, e0] := by
          match vs, hl with
          | [b, e], _ => exact ⟨b, e, rfl⟩
        refine ⟨D, _, rfl, .inl (.inl eD), rfl, _, _, rfl, _, _, rfl, rfl, ?_⟩
        show tSeq _ _ _ [some (.ref a), some (.ref L), some (.ref t0), some (.str (txt (dJobs js))), some (.ref W), some (.int (0 + (i : Int))), y6, y7, some (.int b0), some (.int e0), y10, none, none, none, none] _
        refine ⟨fun σ' H' => ∃ b e : Int, σ' = [some (.ref a), some (.ref L), some (.ref t0), some (.str (txt (dJobs js))), some (.ref W), some (.int (0 + (i : Int))), y6, y7, some (.int b), some (.int e), y10, none, none, none, none] ∧ Coil H' L S (T + 10) ∧ Dp K H' (.ref t0) (dJobs js), ?_, ?_⟩
        · refine ⟨_, rfl, Nat.zero_le _, fun p6 n6 => ?_⟩
          have s6 := same_upd (o := .tup []) n6
          have e6 : (upd H5 p6 (.tup [])) p6 = some (.tup []) := upd_same
          generalize upd H5 p6 (.tup []) = H6 at *
          have d6 := Dp.same s6 _ _ d5
          have f6 := f5.same s6
          refine ⟨dJobs js, .tuple [], d6, .tup (.inl (.inl e6)) .nil, gT.shaped (by omega), rfl, _, rfl, ?_⟩
          unfold dJobs at d6 ⊢
          rw [eqv_void]
          change ite _ _ _
          refine ite2 (fun c => ?_) (fun c => ?_)
          · have ne : 0 < js.length := by
              cases js with
              | nil => exact absurd c (by decide)
              | cons x xs => simp
            refine ⟨_, rfl, L, S, 2, _, rfl, by decide, by decide, f6, by omega, fun H7 v7 k7 f7 l7 u7 => ⟨rfl, _, rfl, ?_⟩⟩
            obtain ⟨z6, ez6⟩ := f6.there
            have d7 : Dp K H7 (.ref t0) (dJobs js) := Dp.but k7 ez6 _ _ (noL_jobs js) d6
            change ite _ _ _
            refine ite2 (fun c2 => ?_) (fun c2 => ?_)
            · obtain ⟨t0', xs7, et, h7, dx7⟩ := Dp.tup_inv d7
              cases et
              have xl7 := DpAll.len dx7
              rw [List.length_map] at xl7
              refine ⟨_, rfl, _, rfl, _, rfl, t0, _, rfl, .inr h7, L, S, (xs7.length : Int), _, rfl, by omega, by omega, f7, by omega, fun H8 v8 k8 f8 l8 u8 => ?_⟩
              obtain ⟨z7, ez7⟩ := f7.there
              have d8 : Dp K H8 (.ref t0) (dJobs js) := Dp.but k8 ez7 _ _ (noL_jobs js) d7
              obtain ⟨t0', xs8, et, h8, dx8⟩ := Dp.tup_inv d8
              cases et
              have xl8 := DpAll.len dx8
              rw [List.length_map] at xl8
              obtain ⟨x8, j8, ex8, dj8, mj8⟩ := pickD dx8 l8 (by omega)
              obtain ⟨j, _, rfl⟩ := List.mem_map.mp mj8
              obtain ⟨p8, rfl, hp8⟩ := Dp.three dj8
              refine ⟨t0, _, _, _, rfl, rfl, h8, ex8, p8, _, 0, _, rfl, rfl, hp8, atI_nat (j := 0) rfl, ?_⟩
              refine ⟨_, rfl, _, rfl, _, rfl, t0, _, rfl, .inr h8, L, S, (xs8.length : Int), _, rfl, by omega, by omega, f8, by omega, fun H9 v9 k9 f9 l9 u9 => ?_⟩
              obtain ⟨z8, ez8⟩ := f8.there
              have d9 : Dp K H9 (.ref t0) (dJobs js) := Dp.but k9 ez8 _ _ (noL_jobs js) d8
              obtain ⟨t0', xs9, et, h9, dx9⟩ := Dp.tup_inv d9
              cases et
              have xl9 := DpAll.len dx9
              rw [List.length_map] at xl9
              obtain ⟨x9, j9, ex9, dj9, mj9⟩ := pickD dx9 l9 (by omega)
              obtain ⟨jj, _, rfl⟩ := List.mem_map.mp mj9
              obtain ⟨p9, rfl, hp9⟩ := Dp.three dj9
              refine ⟨t0, _, _, _, rfl, rfl, h9, ex9, p9, _, 1, _, rfl, rfl, hp9, atI_nat (j := 1) rfl, ?_⟩
              refine ⟨by show (2 : Nat) ≤ sizeLine; decide, fun q9 nq9 => ?_⟩
              refine ⟨q9, _, rfl, .inl (.inl upd_same), rfl, _, _, rfl, _, _, rfl, rfl, ?_⟩
              exact ⟨_, _, rfl, (f9.same (same_upd nq9)).mono (by omega), Dp.same (same_upd nq9) _ _ d9⟩
            · exact ⟨_, _, rfl, f7.mono (by omega), d7⟩
          · exact iteF ⟨_, _, rfl, f6.mono (by omega), d6⟩
        · rintro σ' H6 ⟨b, e, rfl, f6, d6⟩
          obtain ⟨t0', xs, et, hA, dA⟩ := Dp.tup_inv d6
          cases et
          have hxl := DpAll.len dA
          rw [List.length_map] at hxl
          refine ⟨_, rfl, t0, rfl, ⟨_, hA⟩, fun D2 nD2 => ?_⟩
          refine lc_tup (xs := xs) (fun n H1 => Same H6 H1 ∧ H1 D2 = some (.lst ((((js.take n).filter (wIn b e)).map fun j => j.2.2).map V.int))) ⟨same_upd nD2, upd_same⟩ ?_ ?_ ?_
          · rintro n H1 _ ⟨sm, _⟩
            exact TB.Same.tup sm hA
          · rintro n x H1 hx ⟨sm, eD⟩
            obtain ⟨d, hd, dx⟩ := DpAll.get dA hx
            obtain ⟨j, hj, rfl⟩ := map_get hd
            obtain ⟨t, rfl, hT1⟩ := Dp.three dx
            have hT2 := TB.Same.tup sm hT1
            have fm := filt_more (p := wIn b e) (f := fun j : J3 => j.2.2) hj
            refine ⟨rfl, ?_⟩
            refine ⟨_, rfl, t, _, 0, _, rfl, rfl, hT2, atI_nat (j := 0) rfl, _, rfl, _, _, rfl, rfl, _, rfl, ite2 (fun c1 => ?_) (fun c1 => ?_)⟩
            · refine ⟨_, rfl, t, _, 1, _, rfl, rfl, hT2, atI_nat (j := 1) rfl, _, rfl, _, _, rfl, rfl, _, rfl, ite2 (fun c2 => ?_) (fun c2 => ?_)⟩
              · have c3 : wIn b e j = true := decide_eq_true ⟨of_decide_eq_true c1, of_decide_eq_true c2⟩
                rw [if_pos c3] at fm
                refine ⟨_, rfl, t, _, 2, _, rfl, rfl, hT2, atI_nat (j := 2) rfl, _, eD, ?_, same_new nD2 sm, ?_⟩
                · rw [List.length_map, List.length_map]
                  have := List.length_filter_le (wIn b e) (js.take n)
                  rw [List.length_take] at this
                  exact small1000 (by omega)
                · rw [upd_same, fm, List.map_append]
                  rfl
              · have c3 : ¬ wIn b e j = true := fun z => c2 (decide_eq_true (of_decide_eq_true z).2)
                rw [if_neg c3, List.append_nil] at fm
                exact ⟨sm, by rw [fm]; exact eD⟩
            · have c3 : ¬ wIn b e j = true := fun z => c1 (decide_eq_true (of_decide_eq_true z).1)
              rw [if_neg c3, List.append_nil] at fm
              exact iteF ⟨sm, by rw [fm]; exact eD⟩
          · rintro H7 ⟨s7, eD⟩
            rw [List.take_of_length_le (by omega)] at eD
            refine ⟨D2, _, rfl, .inl (.inl eD), ?_⟩
            have d7 := Dp.same s7 _ _ d6
            have hz := wSum_log (b := b) (e := e) okJs lenJ
            show tSeq _ _ _ [some (.ref a), some (.ref L), some (.ref t0), some (.str (txt (dJobs js))), some (.ref W), some (.int (0 + (i : Int))), y6, y7, some (.int b), some (.int e), some (.int (wSum js b e)), none, none, none, none] _
            refine ⟨_, rfl, _, rfl, _, rfl, .ref t0, js, b, e, rfl, d7, by omega, fun H8 s8 => ⟨_, rfl, hz, ?_⟩⟩
            refine ⟨_, rfl, _, rfl, hz, rfl, _, rfl, iteNS rfl ?_⟩
            refine ⟨_, rfl, _, rfl, _, rfl, rfl, rfl, .ref t0, js, b, e, rfl, Dp.same s8 _ _ d7, by omega, fun H9 s9 => ⟨_, rfl, hz, ?_⟩⟩
            refine ⟨_, rfl, _, rfl, hz, rfl, _, rfl, ?_⟩
            change ite _ _ _
            refine iteNS rfl ?_
            exact ⟨_, _, _, _, rfl, (f6.same (s7.trans (s8.trans s9))).mono (by omega), Dp.same (s8.trans s9) _ _ d7⟩
    rintro σ H4 ⟨y5', y8, y9, y10, rfl, f4, d4⟩
    have f4 : Coil H4 L S 480 := f4.mono (by decide)
    -- later
    refine ⟨_, rfl, L, S, 500, _, rfl, by decide, by decide, f4, by decide, fun H5 v5 k5 f5 l5 u5 => ?_⟩
    obtain ⟨z4, ez4⟩ := f4.there
    have d5 := Dp.but k5 ez4 _ _ (noL_jobs js) d4
    show tSeq _ _ _ [some (.ref a), some (.ref L), some (.ref t0), some (.str (txt (dJobs js))), some (.ref W), y5', y6, y7, y8, y9, y10, some (.int v5), none, none, none] _
    refine ⟨_, rfl, _, rfl, .ref t0, js, v5, rfl, d5, by omega, fun H6 r6 s6 d6 => ?_⟩
    have c6 := Dp.same s6 _ _ d5
    refine ⟨_, rfl, _, rfl, rfl, rfl, .ref t0, js, v5, rfl, c6, by omega, fun H7 r7 s7 d7 => ?_⟩
    have c7 := Dp.same s7 _ _ c6
    refine ⟨_, rfl, _, rfl, rfl, rfl, .ref t0, js, v5, rfl, c7, by omega, fun H8 r8 s8 d8 => ?_⟩
    have c8 := Dp.same s8 _ _ c7
    refine ⟨_, rfl, .ref t0, js, 1, rfl, c8, by omega, fun H9 r9 s9 d9 => ?_⟩
    have c9 := Dp.same s9 _ _ c8
    refine ⟨by show (4 : Nat) ≤ sizeLine; decide, fun Z nZ => ?_⟩
    have sZ := same_upd (o := .lst [r6, r7, r8, r9]) nZ
    have cZ := Dp.same sZ _ _ c9
    have shL : ∀ l : Int, 0 ≤ l → l < 1000 → Sh 2 300000 (dJobs (js.map (ltJ l))) := fun l h0 h1 => sh_jobs (fun j hj => by
      obtain ⟨j', hj', rfl⟩ := List.mem_map.mp hj
      exact okJ_lt (okJs j' hj') h0 h1) (by rw [List.length_map]; omega)
    have sh4 : Sh 3 2000000 (.list [dJobs (js.map (ltJ v5)), dJobs (js.map (ltJ v5)), dJobs (js.map (ltJ v5)), dJobs (js.map (ltJ 1))]) := by
      refine (sh_lst (k := 2) (n := 300000) fun d hd => ?_).mono (by omega) (by show 4 * 300000 + 2 * 4 + 3 ≤ 2000000; decide)
      simp only [List.mem_cons, List.not_mem_nil, or_false] at hd
      rcases hd with rfl | rfl | rfl | rfl
      · exact shL v5 l5 (by omega)
      · exact shL v5 l5 (by omega)
      · exact shL v5 l5 (by omega)
      · exact shL 1 (by decide) (by decide)
    have dZ : Dp K (upd H9 Z (.lst [r6, r7, r8, r9])) (.ref Z) (.list [dJobs (js.map (ltJ v5)), dJobs (js.map (ltJ v5)), dJobs (js.map (ltJ v5)), dJobs (js.map (ltJ 1))]) :=
      .lst (.inl (.inl upd_same)) (.cons (Dp.same (s7.trans (s8.trans (s9.trans sZ))) _ _ d6) (.cons (Dp.same (s8.trans (s9.trans sZ)) _ _ d7) (.cons (Dp.same (s9.trans sZ) _ _ d8) (.cons (Dp.same sZ _ _ d9) .nil))))
    generalize upd H9 Z (.lst [r6, r7, r8, r9]) = HZ at *
    show tSeq _ _ _ [some (.ref a), some (.ref L), some (.ref t0), some (.str (txt (dJobs js))), some (.ref W), y5', y6, y7, y8, y9, y10, some (.int v5), some (.ref Z), none, none] _
    refine ⟨_, rfl, Z, _, rfl, dZ, sh4.sh, sh4.nd, Nat.le_trans sh4.dp (by omega), Nat.le_trans sh4.ln (by rw [sizeLine_eq]; decide), ?_⟩
    refine ⟨_, rfl, _, rfl, .ref t0, js, v5, rfl, cZ, by omega, fun G1 q1 t1 e1 => ?_⟩
    refine ⟨by show (1 : Nat) ≤ sizeLine; decide, fun Y1 nY1 => ?_⟩
    have sY1 := same_upd (o := .lst [q1]) nY1
    have eY1 : (upd G1 Y1 (.lst [q1])) Y1 = some (.lst [q1]) := upd_same
    generalize upd G1 Y1 (.lst [q1]) = G2 at *
    refine ⟨Y1, _, _, rfl, rfl, eY1, by decide, by decide, by show 1 * 3 ≤ sizeLine; decide, fun Y2 nY2 => ?_⟩
    have sY2 : Same G2 (upd G2 Y2 (.lst (List.replicate (3 : Int).toNat [q1]).flatten)) := same_upd nY2
    have eY2 : (upd G2 Y2 (.lst (List.replicate (3 : Int).toNat [q1]).flatten)) Y2 = some (.lst [q1, q1, q1]) := upd_same
    generalize upd G2 Y2 (.lst (List.replicate (3 : Int).toNat [q1]).flatten) = G3 at *
    refine ⟨_, rfl, .ref t0, js, 1, rfl, Dp.same (t1.trans (sY1.trans sY2)) _ _ cZ, by omega, fun G4 q4 t4 e4 => ?_⟩
    refine ⟨by show (1 : Nat) ≤ sizeLine; decide, fun Y3 nY3 => ?_⟩
    have sY3 := same_upd (o := .lst [q4]) nY3
    have eY3 : (upd G4 Y3 (.lst [q4])) Y3 = some (.lst [q4]) := upd_same
    generalize upd G4 Y3 (.lst [q4]) = G5 at *
    refine ⟨Y2, Y3, _, _, rfl, rfl, sY3 _ _ (t4 _ _ eY2), eY3, by show (4 : Nat) ≤ sizeLine; decide, fun Y nY => ?_⟩
    have sY := same_upd (o := .lst [q1, q1, q1, q4]) nY
    have eq1 : Dp K (upd G5 Y (.lst [q1, q1, q1, q4])) q1 (dJobs (js.map (ltJ v5))) := Dp.same (sY1.trans (sY2.trans (t4.trans (sY3.trans sY)))) _ _ e1
    have dY : Dp K (upd G5 Y (.lst [q1, q1, q1, q4])) (.ref Y) (.list [dJobs (js.map (ltJ v5)), dJobs (js.map (ltJ v5)), dJobs (js.map (ltJ v5)), dJobs (js.map (ltJ 1))]) :=
      .lst (.inl (.inl upd_same)) (.cons eq1 (.cons eq1 (.cons eq1 (.cons (Dp.same (sY3.trans sY) _ _ e4) .nil))))
    have cY : Dp K (upd G5 Y (.lst [q1, q1, q1, q4])) (.ref t0) (dJobs js) := Dp.same (t1.trans (sY1.trans (sY2.trans (t4.trans (sY3.trans sY))))) _ _ cZ
    refine ⟨Y, _, rfl, dY, sh4.sh, sh4.nd, Nat.le_trans sh4.dp (by omega), Nat.le_trans sh4.ln (by rw [sizeLine_eq]; decide), rfl, _, rfl, iteNS rfl ?_⟩
    clear dY eq1
    refine ⟨_, rfl, rfl, rfl, .ref t0, js, 0, rfl, cY, by omega, fun HF rF sF dF => ?_⟩
    have l0 : js.map (ltJ 0) = js := by
      have : ltJ 0 = id := by
        funext j
        unfold ltJ
        rw [Int.add_zero]
        rfl
      rw [this, List.map_id]
    rw [l0] at dF
    obtain ⟨tF, _, rfl, _, _⟩ := Dp.tup_inv dF
    refine ⟨tF, _, rfl, dF, shT.sh, shT.nd, Nat.le_trans shT.dp (by omega), Nat.le_trans shT.ln (by rw [sizeLine_eq]; decide), _, rfl, rfl, _, rfl, ?_⟩
    change ite _ _ _
    refine iteS rfl ?_
    refine ⟨_, rfl, t0, _, rfl, Dp.same sF _ _ cY, shT.sh, shT.nd, Nat.le_trans shT.dp (by omega), Nat.le_trans shT.ln (by rw [sizeLine_eq]; decide), _, rfl, rfl, ?_⟩
    show Q (.bl (decide (V.str (txt (dJobs js)) = V.str (txt (dJobs js))))) _
    rw [decide_eq_true rfl]
    exact q _
end
end K55

set_option Elab.async false
set_option linter.all false
set_option maxRecDepth 100000
namespace K55
open PySem PySem.Spec PyProof.Rows L2 TB
theorem all_mk {l : PySem.W.OpenLaw} {w : World} {K : PySem.W.Frag} {h : Heap} {mg : Str → Option Value} {fa : Addr} (X : K.In h) (G : h.Ns mainGlobals mg) (hfa : mg "law" = some (.ref fa))
    {f1 : Addr} {od1 an1 : Option Addr} {sl1 : Array (Option Value)} {oc1 kV1 dc1 pm1 cd1 ct1 : Value}
    {f2 : Addr} {od2 an2 : Option Addr} {sl2 : Array (Option Value)} {oc2 kV2 dc2 pm2 cd2 ct2 : Value}
    {f3 : Addr} {od3 an3 : Option Addr} {sl3 : Array (Option Value)} {oc3 kV3 dc3 pm3 cd3 ct3 : Value}
    {f4 : Addr} {od4 an4 : Option Addr} {sl4 : Array (Option Value)} {oc4 kV4 dc4 pm4 cd4 ct4 : Value}
    {f5 : Addr} {od5 an5 : Option Addr} {sl5 : Array (Option Value)} {oc5 kV5 dc5 pm5 cd5 ct5 : Value}
    {f6 : Addr} {od6 an6 : Option Addr} {sl6 : Array (Option Value)} {oc6 kV6 dc6 pm6 cd6 ct6 : Value}
    {f7 : Addr} {od7 an7 : Option Addr} {sl7 : Array (Option Value)} {oc7 kV7 dc7 pm7 cd7 ct7 : Value}
    {f8 : Addr} {od8 an8 : Option Addr} {sl8 : Array (Option Value)} {oc8 kV8 dc8 pm8 cd8 ct8 : Value} {T8 : Addr} {tc8 : Value} {td8 : Option Addr} {ts8 : Array (Option Value)} {tn8 : Nat} {tk8_0 : Tok}
    {f9 : Addr} {od9 an9 : Option Addr} {sl9 : Array (Option Value)} {oc9 kV9 dc9 pm9 cd9 ct9 : Value}
    {f10 : Addr} {od10 an10 : Option Addr} {sl10 : Array (Option Value)} {oc10 kV10 dc10 pm10 cd10 ct10 : Value}
    {f11 : Addr} {od11 an11 : Option Addr} {sl11 : Array (Option Value)} {oc11 kV11 dc11 pm11 cd11 ct11 : Value}
    {f12 : Addr} {od12 an12 : Option Addr} {sl12 : Array (Option Value)} {oc12 kV12 dc12 pm12 cd12 ct12 : Value}
    {f13 : Addr} {od13 an13 : Option Addr} {sl13 : Array (Option Value)} {oc13 kV13 dc13 pm13 cd13 ct13 : Value}
    {f14 : Addr} {od14 an14 : Option Addr} {sl14 : Array (Option Value)} {oc14 kV14 dc14 pm14 cd14 ct14 : Value}
    {f15 : Addr} {od15 an15 : Option Addr} {sl15 : Array (Option Value)} {oc15 kV15 dc15 pm15 cd15 ct15 : Value}
    {f16 : Addr} {od16 an16 : Option Addr} {sl16 : Array (Option Value)} {oc16 kV16 dc16 pm16 cd16 ct16 : Value}
    (a1 : PySem.W.nsIn K mainGlobals "is_number" = some (some (.ref f1)))
    (l1 : K.lookup f1 = some ⟨oc1, od1, .func (PySem.W.fnOf "is_number" "is_number" (defArgs sN) (defBody sN) (defScope sN) .none kV1 dc1 pm1 an1 cd1 ct1), sl1⟩)
    (c1 : PySem.W.codeIn K cd1 "is_number" = true) (k1 : PySem.W.keepIn K (.ref f1) = true)
    (a2 : PySem.W.nsIn K mainGlobals "is_count" = some (some (.ref f2)))
    (l2 : K.lookup f2 = some ⟨oc2, od2, .func (PySem.W.fnOf "is_count" "is_count" (defArgs sC) (defBody sC) (defScope sC) .none kV2 dc2 pm2 an2 cd2 ct2), sl2⟩)
    (c2 : PySem.W.codeIn K cd2 "is_count" = true) (k2 : PySem.W.keepIn K (.ref f2) = true)
    (a3 : PySem.W.nsIn K mainGlobals "is_tuple_of" = some (some (.ref f3)))
    (l3 : K.lookup f3 = some ⟨oc3, od3, .func (PySem.W.fnOf "is_tuple_of" "is_tuple_of" (defArgs sT) (defBody sT) (defScope sT) .none kV3 dc3 pm3 an3 cd3 ct3), sl3⟩)
    (c3 : PySem.W.codeIn K cd3 "is_tuple_of" = true) (k3 : PySem.W.keepIn K (.ref f3) = true)
    (a4 : PySem.W.nsIn K mainGlobals "are_counts" = some (some (.ref f4)))
    (l4 : K.lookup f4 = some ⟨oc4, od4, .func (PySem.W.fnOf "are_counts" "are_counts" (defArgs sAc) (defBody sAc) (defScope sAc) .none kV4 dc4 pm4 an4 cd4 ct4), sl4⟩)
    (c4 : PySem.W.codeIn K cd4 "are_counts" = true) (k4 : PySem.W.keepIn K (.ref f4) = true)
    (a5 : PySem.W.nsIn K mainGlobals "is_jobs" = some (some (.ref f5)))
    (l5 : K.lookup f5 = some ⟨oc5, od5, .func (PySem.W.fnOf "is_jobs" "is_jobs" (defArgs sJs) (defBody sJs) (defScope sJs) .none kV5 dc5 pm5 an5 cd5 ct5), sl5⟩)
    (c5 : PySem.W.codeIn K cd5 "is_jobs" = true) (k5 : PySem.W.keepIn K (.ref f5) = true)
    (a6 : PySem.W.nsIn K mainGlobals "is_job" = some (some (.ref f6)))
    (l6 : K.lookup f6 = some ⟨oc6, od6, .func (PySem.W.fnOf "is_job" "is_job" (defArgs sJ) (defBody sJ) (defScope sJ) .none kV6 dc6 pm6 an6 cd6 ct6), sl6⟩)
    (c6 : PySem.W.codeIn K cd6 "is_job" = true) (k6 : PySem.W.keepIn K (.ref f6) = true)
    (a7 : PySem.W.nsIn K mainGlobals "within" = some (some (.ref f7)))
    (l7 : K.lookup f7 = some ⟨oc7, od7, .func (PySem.W.fnOf "within" "within" (defArgs sWi) (defBody sWi) (defScope sWi) .none kV7 dc7 pm7 an7 cd7 ct7), sl7⟩)
    (c7 : PySem.W.codeIn K cd7 "within" = true) (k7 : PySem.W.keepIn K (.ref f7) = true)
    (a8 : PySem.W.nsIn K mainGlobals "later_jobs" = some (some (.ref f8)))
    (l8 : K.lookup f8 = some ⟨oc8, od8, .func (PySem.W.fnOf "later_jobs" "later_jobs" (defArgs sLj) (defBody sLj) (defScope sLj) (.ref T8) kV8 dc8 pm8 an8 cd8 ct8), sl8⟩)
    (c8 : PySem.W.codeIn K cd8 "later_jobs" = true) (k8 : PySem.W.keepIn K (.ref f8) = true)
    (t8 : K.lookup T8 = some ⟨tc8, td8, .seq #[.int 1 tk8_0] tn8, ts8⟩)
    (a9 : PySem.W.nsIn K mainGlobals "_law_coil" = some (some (.ref f9)))
    (l9 : K.lookup f9 = some ⟨oc9, od9, .func (PySem.W.fnOf "_law_coil" "_law_coil" (defArgs sCo) (defBody sCo) (defScope sCo) .none kV9 dc9 pm9 an9 cd9 ct9), sl9⟩)
    (c9 : PySem.W.codeIn K cd9 "_law_coil" = true) (k9 : PySem.W.keepIn K (.ref f9) = true)
    (a10 : PySem.W.nsIn K mainGlobals "_law_pull" = some (some (.ref f10)))
    (l10 : K.lookup f10 = some ⟨oc10, od10, .func (PySem.W.fnOf "_law_pull" "_law_pull" (defArgs sPu) (defBody sPu) (defScope sPu) .none kV10 dc10 pm10 an10 cd10 ct10), sl10⟩)
    (c10 : PySem.W.codeIn K cd10 "_law_pull" = true) (k10 : PySem.W.keepIn K (.ref f10) = true)
    (a11 : PySem.W.nsIn K mainGlobals "_law_whole" = some (some (.ref f11)))
    (l11 : K.lookup f11 = some ⟨oc11, od11, .func (PySem.W.fnOf "_law_whole" "_law_whole" (defArgs sWh) (defBody sWh) (defScope sWh) .none kV11 dc11 pm11 an11 cd11 ct11), sl11⟩)
    (c11 : PySem.W.codeIn K cd11 "_law_whole" = true) (k11 : PySem.W.keepIn K (.ref f11) = true)
    (a12 : PySem.W.nsIn K mainGlobals "_law_jobs" = some (some (.ref f12)))
    (l12 : K.lookup f12 = some ⟨oc12, od12, .func (PySem.W.fnOf "_law_jobs" "_law_jobs" (defArgs sJo) (defBody sJo) (defScope sJo) .none kV12 dc12 pm12 an12 cd12 ct12), sl12⟩)
    (c12 : PySem.W.codeIn K cd12 "_law_jobs" = true) (k12 : PySem.W.keepIn K (.ref f12) = true)
    (a13 : PySem.W.nsIn K mainGlobals "_law_bent" = some (some (.ref f13)))
    (l13 : K.lookup f13 = some ⟨oc13, od13, .func (PySem.W.fnOf "_law_bent" "_law_bent" (defArgs sBe) (defBody sBe) (defScope sBe) .none kV13 dc13 pm13 an13 cd13 ct13), sl13⟩)
    (c13 : PySem.W.codeIn K cd13 "_law_bent" = true) (k13 : PySem.W.keepIn K (.ref f13) = true)
    (a14 : PySem.W.nsIn K mainGlobals "_law_are_jobs" = some (some (.ref f14)))
    (l14 : K.lookup f14 = some ⟨oc14, od14, .func (PySem.W.fnOf "_law_are_jobs" "_law_are_jobs" (defArgs sAj) (defBody sAj) (defScope sAj) .none kV14 dc14 pm14 an14 cd14 ct14), sl14⟩)
    (c14 : PySem.W.codeIn K cd14 "_law_are_jobs" = true) (k14 : PySem.W.keepIn K (.ref f14) = true)
    (a15 : PySem.W.nsIn K mainGlobals "_law_later" = some (some (.ref f15)))
    (l15 : K.lookup f15 = some ⟨oc15, od15, .func (PySem.W.fnOf "_law_later" "_law_later" (defArgs sLa) (defBody sLa) (defScope sLa) .none kV15 dc15 pm15 an15 cd15 ct15), sl15⟩)
    (c15 : PySem.W.codeIn K cd15 "_law_later" = true) (k15 : PySem.W.keepIn K (.ref f15) = true)
    (a16 : PySem.W.nsIn K mainGlobals "law" = some (some (.ref f16)))
    (l16 : K.lookup f16 = some ⟨oc16, od16, .func (PySem.W.fnOf "law" "law" (defArgs sLaw) (defBody sLaw) (defScope sLaw) .none kV16 dc16 pm16 an16 cd16 ct16), sl16⟩)
    (c16 : PySem.W.codeIn K cd16 "law" = true) (k16 : PySem.W.keepIn K (.ref f16) = true)
    (z_isinstance : PySem.W.nsIn K mainGlobals "isinstance" = some none)
    (z_int : PySem.W.nsIn K mainGlobals "int" = some none)
    (z_bool : PySem.W.nsIn K mainGlobals "bool" = some none)
    (z_tuple : PySem.W.nsIn K mainGlobals "tuple" = some none)
    (z_len : PySem.W.nsIn K mainGlobals "len" = some none)
    (z_all : PySem.W.nsIn K mainGlobals "all" = some none)
    (z_sum : PySem.W.nsIn K mainGlobals "sum" = some none)
    (z_list : PySem.W.nsIn K mainGlobals "list" = some none)
    (z_range : PySem.W.nsIn K mainGlobals "range" = some none)
    (z_repr : PySem.W.nsIn K mainGlobals "repr" = some none)
    (z_min : PySem.W.nsIn K mainGlobals "min" = some none) :
    ∃ fd : FuncData, (∀ (s : Shared) (v : Value), BindsTo s fd ⟨[v], []⟩ [("_law_script", v)]) ∧ ∀ base : Heap, K.In base → base.Ns mainGlobals mg → FnG l.prog w K mg base CX0 6 fa fd ["_law_script"] (spLaw K) := by
  have e := hfa.symm.trans (PySem.W.mg_of X G a16)
  cases e
  have F1 := fun_mk (st := sN) l1 c1 k1
  have b1 := F1.binds (ps := ["thing"]) fun _ _ _ _ _ _ us hl => match us, hl with | [_], _ => rfl
  have g1 := PySem.W.mg_of X G a1
  have F2 := fun_mk (st := sC) l2 c2 k2
  have b2 := F2.binds (ps := ["thing"]) fun _ _ _ _ _ _ us hl => match us, hl with | [_], _ => rfl
  have g2 := PySem.W.mg_of X G a2
  have F3 := fun_mk (st := sT) l3 c3 k3
  have b3 := F3.binds (ps := ["thing", "many"]) fun _ _ _ _ _ _ us hl => match us, hl with | [_, _], _ => rfl
  have g3 := PySem.W.mg_of X G a3
  have F4 := fun_mk (st := sAc) l4 c4 k4
  have b4 := F4.binds (ps := ["thing", "many"]) fun _ _ _ _ _ _ us hl => match us, hl with | [_, _], _ => rfl
  have g4 := PySem.W.mg_of X G a4
  have F5 := fun_mk (st := sJs) l5 c5 k5
  have b5 := F5.binds (ps := ["thing"]) fun _ _ _ _ _ _ us hl => match us, hl with | [_], _ => rfl
  have g5 := PySem.W.mg_of X G a5
  have F6 := fun_mk (st := sJ) l6 c6 k6
  have b6 := F6.binds (ps := ["thing"]) fun _ _ _ _ _ _ us hl => match us, hl with | [_], _ => rfl
  have g6 := PySem.W.mg_of X G a6
  have F7 := fun_mk (st := sWi) l7 c7 k7
  have b7 := F7.binds (ps := ["jobs", "begin", "end"]) fun _ _ _ _ _ _ us hl => match us, hl with | [_, _, _], _ => rfl
  have g7 := PySem.W.mg_of X G a7
  have F8 : FunD K "later_jobs" "later_jobs" (defArgs sLj) (defBody sLj) (defScope sLj) [.int 1] [] f8 (PySem.W.fnOf "later_jobs" "later_jobs" (defArgs sLj) (defBody sLj) (defScope sLj) (.ref T8) kV8 dc8 pm8 an8 cd8 ct8) :=
    ⟨⟨oc8, od8, _, _, _, _, _, _, _, sl8, rfl, l8, c8, .inr ⟨fun z => (nomatch z), T8, _, [.int 1 tk8_0], tn8, rfl, t8, rfl, .cons ⟨_, rfl⟩ (.nil)⟩, .inl rfl⟩, k8⟩
  have b8 : Binds K (PySem.W.fnOf "later_jobs" "later_jobs" (defArgs sLj) (defBody sLj) (defScope sLj) (.ref T8) kV8 dc8 pm8 an8 cd8 ct8) ["jobs", "by"] [] := by
    obtain ⟨ds, vd, bd⟩ := F8.binds1 (ps := ["jobs", "by"]) 2 1 (fun z => (nomatch z)) rfl (fun T kV doc pm an cdv ct us its hu hi => match us, hu, its, hi with | [_, _], _, [_], _ => ⟨_, rfl, rfl⟩)
    cases vd
    exact bd
  have g8 := PySem.W.mg_of X G a8
  have F9 := fun_mk (st := sCo) l9 c9 k9
  have b9 := F9.binds (ps := ["_law_script"]) fun _ _ _ _ _ _ us hl => match us, hl with | [_], _ => rfl
  have g9 := PySem.W.mg_of X G a9
  have F10 := fun_mk (st := sPu) l10 c10 k10
  have b10 := F10.binds (ps := ["_law_coil_here", "_law_many"]) fun _ _ _ _ _ _ us hl => match us, hl with | [_, _], _ => rfl
  have g10 := PySem.W.mg_of X G a10
  have F11 := fun_mk (st := sWh) l11 c11 k11
  have b11 := F11.binds (ps := ["_law_stuff"]) fun _ _ _ _ _ _ us hl => match us, hl with | [_], _ => rfl
  have g11 := PySem.W.mg_of X G a11
  have F12 := fun_mk (st := sJo) l12 c12 k12
  have b12 := F12.binds (ps := ["_law_coil_here", "_law_many_now"]) fun _ _ _ _ _ _ us hl => match us, hl with | [_, _], _ => rfl
  have g12 := PySem.W.mg_of X G a12
  have F13 := fun_mk (st := sBe) l13 c13 k13
  have b13 := F13.binds (ps := ["_law_coil_here", "_law_stuff"]) fun _ _ _ _ _ _ us hl => match us, hl with | [_, _], _ => rfl
  have g13 := PySem.W.mg_of X G a13
  have F14 := fun_mk (st := sAj) l14 c14 k14
  have b14 := F14.binds (ps := ["_law_stuff"]) fun _ _ _ _ _ _ us hl => match us, hl with | [_], _ => rfl
  have g14 := PySem.W.mg_of X G a14
  have F15 := fun_mk (st := sLa) l15 c15 k15
  have b15 := F15.binds (ps := ["_law_tasks", "_law_many"]) fun _ _ _ _ _ _ us hl => match us, hl with | [_, _], _ => rfl
  have g15 := PySem.W.mg_of X G a15
  have F16 := fun_mk (st := sLaw) l16 c16 k16
  have b16 := F16.binds (ps := ["_law_script"]) fun _ _ _ _ _ _ us hl => match us, hl with | [_], _ => rfl
  have g16 := PySem.W.mg_of X G a16
  have m_isinstance := PySem.W.mg_none_of X G z_isinstance
  have m_int := PySem.W.mg_none_of X G z_int
  have m_bool := PySem.W.mg_none_of X G z_bool
  have m_tuple := PySem.W.mg_none_of X G z_tuple
  have m_len := PySem.W.mg_none_of X G z_len
  have m_all := PySem.W.mg_none_of X G z_all
  have m_sum := PySem.W.mg_none_of X G z_sum
  have m_list := PySem.W.mg_none_of X G z_list
  have m_range := PySem.W.mg_none_of X G z_range
  have m_repr := PySem.W.mg_none_of X G z_repr
  have m_min := PySem.W.mg_none_of X G z_min
  refine ⟨PySem.W.fnOf "law" "law" (defArgs sLaw) (defBody sLaw) (defScope sLaw) .none kV16 dc16 pm16 an16 cd16 ct16, fun s v => .of_eq rfl, fun base _ _ => ?_⟩
  have nJs : KBn K (PySem.W.fnOf "is_jobs" "is_jobs" (defArgs sJs) (defBody sJs) (defScope sJs) .none kV5 dc5 pm5 an5 cd5 ct5) ["thing"] 0 ["thing"] (fun _ ws => ws) (fun _ zs => zs) := ⟨fun s us ws X l1 l2 => match us, l1, ws, l2 with | [], _, [_], _ => .of_eq rfl, fun r1 r2 => r2⟩
  have nW : KBn K (PySem.W.fnOf "within" "within" (defArgs sWi) (defBody sWi) (defScope sWi) .none kV7 dc7 pm7 an7 cd7 ct7) ["jobs", "begin", "end"] 1 ["end", "begin"] (fun us ws => us ++ ws.reverse) (fun vs zs => vs ++ zs.reverse) := ⟨fun s us ws X l1 l2 => match us, l1, ws, l2 with | [_], _, [_, _], _ => .of_eq rfl, fun r1 r2 => r1.append r2.reverse⟩
  obtain ⟨ds, vd, bd⟩ := F8.binds1 (ps := ["jobs", "by"]) 1 0 (fun z => (nomatch z)) rfl (fun T kV doc pm an cdv ct us its hu hi => match us, hu, its, hi with | [_], _, [_], _ => ⟨_, rfl, rfl⟩)
  obtain ⟨i1, n1⟩ := F8.kbindsD (ps := ["jobs", "by"]) 1 ["by"] (fun {_} us its ws => us ++ ws) (fun z => (nomatch z)) (fun r1 r2 r3 => r1.append r3)
    (fun T kV doc pm an cdv ct us its ws hu hi hw => match us, hu, its, hi, ws, hw with | [_], _, [_], _, [_], _ => ⟨_, rfl, rfl⟩)
  obtain ⟨i2, n2⟩ := F8.kbindsD (ps := ["jobs", "by"]) 0 ["by", "jobs"] (fun {_} us its ws => ws.reverse) (fun z => (nomatch z)) (fun r1 r2 r3 => r3.reverse)
    (fun T kV doc pm an cdv ct us its ws hu hi hw => match us, hu, its, hi, ws, hw with | [], _, [_], _, [_, _], _ => ⟨_, rfl, rfl⟩)
  have GN := ok_n (P := l.prog) (w := w) (base := base) (k := 0) F1 m_isinstance m_int m_bool
  have GC := ok_c (P := l.prog) (w := w) (base := base) F2 GN k1 b1 g1
  have GT := ok_t (P := l.prog) (w := w) (base := base) (k := 0) F3 m_isinstance m_tuple m_len
  have GA := ok_ac (P := l.prog) (w := w) (base := base) F4 GC k2 b2 g2 GT k3 b3 g3 m_all
  have GJ := ok_j (P := l.prog) (w := w) (base := base) F6 GA k4 b4 g4
  have GJs := ok_js (P := l.prog) (w := w) (base := base) F5 GJ k6 b6 g6 m_isinstance m_tuple m_all
  have GW := ok_wi (P := l.prog) (w := w) (mg := mg) (base := base) (k := 0) F7 m_sum
  have GL := ok_lt (P := l.prog) (w := w) (mg := mg) (base := base) (k := 0) F8 m_tuple
  have GCo := ok_coil (P := l.prog) (w := w) (mg := mg) (base := base) (k := 0) F9
  have GR := ok_pull (P := l.prog) (w := w) (mg := mg) (base := base) (k := 0) F10 m_len
  have GWh := ok_wh (P := l.prog) (w := w) (mg := mg) (base := base) (k := 0) F11 m_isinstance m_int m_bool
  have GJo := ok_jo (P := l.prog) (w := w) (base := base) F12 GR k10 b10 g10 m_range m_tuple
  have GB := ok_be (P := l.prog) (w := w) (base := base) F13 k13 b13 g13 GR k10 b10 g10 GWh k11 b11 g11 m_isinstance m_tuple m_len m_list
  have GAj := ok_aj (P := l.prog) (w := w) (base := base) F14 GWh k11 b11 g11 m_isinstance m_tuple m_len m_min
  have GLa := ok_la (P := l.prog) (w := w) (mg := mg) (base := base) (k := 0) F15 m_tuple
  exact ok_law F16 GCo k9 b9 g9 GR k10 b10 g10 GJo k12 b12 g12 (GB 3 (by decide)) (GB 4 (by decide)) k13 b13 g13 GJs k5 b5 g5 nJs GAj k14 b14 g14 GW k7 b7 g7 nW GL k8 b8 g8 bd vd n1 n2 GLa k15 b15 g15 m_range m_tuple m_repr m_list m_len m_sum
end K55
open PySem PySem.W PyProof.Rows
set_option maxHeartbeats 0 in
theorem PySem.Challenge.cw_tablebills_k55_jobs_by_kind_holds : PySem.Challenge.rw_tablebills_k55_jobs_by_kind.Holds := by
  w_on; o_law; k_head; (case hw => w_witness2)
  k_fill
  refine TB.walkG (l := PySem.Challenge.rw_tablebills_k55_jobs_by_kind) (n := 63) (k := 6) (x := "_law_script") (sp := fun w => K55.spLaw _) rfl (by decide) rfl (fun w h Y => PySem.W.kIn_of Y) ⟨rfl, by decide, by decide⟩ ?F (fun _ _ a ns hl hS => ⟨a, ns, rfl, hS, hl, fun _ => rfl⟩)
  case F =>
    intro w mg fa h KX G hmg
    refine' K55.all_mk KX G hmg ?a1 ?l1 ?c1 ?k1 ?a2 ?l2 ?c2 ?k2 ?a3 ?l3 ?c3 ?k3 ?a4 ?l4 ?c4 ?k4 ?a5 ?l5 ?c5 ?k5 ?a6 ?l6 ?c6 ?k6 ?a7 ?l7 ?c7 ?k7 ?a8 ?l8 ?c8 ?k8 ?t8 ?a9 ?l9 ?c9 ?k9 ?a10 ?l10 ?c10 ?k10 ?a11 ?l11 ?c11 ?k11 ?a12 ?l12 ?c12 ?k12 ?a13 ?l13 ?c13 ?k13 ?a14 ?l14 ?c14 ?k14 ?a15 ?l15 ?c15 ?k15 ?a16 ?l16 ?c16 ?k16 ?z_isinstance ?z_int ?z_bool ?z_tuple ?z_len ?z_all ?z_sum ?z_list ?z_range ?z_repr ?z_min
    (case a1 => k_is); (case l1 => k_is); (case c1 => k_is); (case k1 => k_is); (case a2 => k_is); (case l2 => k_is); (case c2 => k_is); (case k2 => k_is); (case a3 => k_is); (case l3 => k_is); (case c3 => k_is); (case k3 => k_is); (case a4 => k_is); (case l4 => k_is); (case c4 => k_is); (case k4 => k_is); (case a5 => k_is); (case l5 => k_is); (case c5 => k_is); (case k5 => k_is); (case a6 => k_is); (case l6 => k_is); (case c6 => k_is); (case k6 => k_is); (case a7 => k_is); (case l7 => k_is); (case c7 => k_is); (case k7 => k_is); (case a8 => k_is); (case l8 => k_is); (case c8 => k_is); (case k8 => k_is); (case t8 => k_is); (case a9 => k_is); (case l9 => k_is); (case c9 => k_is); (case k9 => k_is); (case a10 => k_is); (case l10 => k_is); (case c10 => k_is); (case k10 => k_is); (case a11 => k_is); (case l11 => k_is); (case c11 => k_is); (case k11 => k_is); (case a12 => k_is); (case l12 => k_is); (case c12 => k_is); (case k12 => k_is); (case a13 => k_is); (case l13 => k_is); (case c13 => k_is); (case k13 => k_is); (case a14 => k_is); (case l14 => k_is); (case c14 => k_is); (case k14 => k_is); (case a15 => k_is); (case l15 => k_is); (case c15 => k_is); (case k15 => k_is); (case a16 => k_is); (case l16 => k_is); (case c16 => k_is); (case k16 => k_is); (case z_isinstance => k_is); (case z_int => k_is); (case z_bool => k_is); (case z_tuple => k_is); (case z_len => k_is); (case z_all => k_is); (case z_sum => k_is); (case z_list => k_is); (case z_range => k_is); (case z_repr => k_is); (case z_min => k_is)
