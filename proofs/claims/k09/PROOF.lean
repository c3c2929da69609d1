import PyProof.Rows.All
import Wide.All
import OpenK.AllK
import Wide.FinOn
import HandS.ForMost
import HandS.Wide
import HandS.Defaults
import HandS.Flow
import HandS.Style
import HandS.IsInst
import HandS.MakeKw
import HandS.Zip
import HandS.TupAny
import HandS.RaiseMore
import KE.GoesMore
import HandS.Walk
import HandS.SortRule
import PySem.Challenge.RW_tablebills_k09_splits_told
set_option Elab.async false
set_option linter.all false
set_option maxRecDepth 100000
namespace TB
open PySem PySem.Spec PyProof.Rows L2

/-! A def's promise, where no repr is under way around it. -/
section
variable (P : Program) (w : World) (K : PySem.W.Frag) (mg : Str → Option Value) (base : Heap)
structure FnG (CX : CXT) (k : Nat) (f : Addr) (fd : FuncData) (ps : List Str) (sp : Sp) : Prop where
  len : ∀ xs G R Z, sp xs G R Z → xs.length = ps.length
  run : ∀ (A : Around), A.guards = some [] → Room k A →
    ∀ (outer : List Env) (s : Shared) (H : Hp), Env0 P w K mg base A outer s H →
    ∀ (args : Args) (us : List Value) (vs : List V), BindsTo s fd args (ps.zip us) → Vals vs us →
    ∀ (Q : VK) (E : XK), sp vs H Q E →
      codeAny (model P w) A (Code.call (Value.ref f) args)
        (CR CX outer P w H s Q E) s
end

section
variable {P : Program} {w : World} {K : PySem.W.Frag} {mg : Str → Option Value} {base : Heap} {CX : CXT}
theorem FnG.of {k : Nat} {f : Addr} {fd : FuncData} {ps : List Str} {sp : Sp}
    (F : FnOk P w K mg base CX k f fd ps sp) : FnG P w K mg base CX k f fd ps sp :=
  ⟨F.len, fun A _ hr outer s H e0 args us vs hb r Q E h => F.run A outer s H args us vs Q E hr e0 hb r h⟩

/-- the body's walk gives the promise -/
theorem gfn {k : Nat} {f : Addr} {nm qual : Str} {prm : Arguments} {bd : List Stmt} {sc : Scope} {dV kV doc pm cdv ct oc : Value} {an od : Option Addr}
    {osl : Array (Option Value)} {N : List Str} {ps : List Str} {sp : Sp}
    (lk : K.lookup f = some ⟨oc, od, .func (PySem.W.fnOf nm qual prm bd sc dV kV doc pm an cdv ct), osl⟩)
    (hcd : PySem.W.codeIn K cdv qual = true) (S : FnScope N ps sc) (len : ∀ vs H Q E, sp vs H Q E → vs.length = ps.length)
    (walk : ∀ (A : Around), A.guards = some [] → ∀ (outer : List Env) (s : Shared) (H : Hp) (vs : List V) (Q : VK) (E : XK),
      Room k (A.deeper (envOfC qual sc s.heap.objs.size f cdv)) → sp vs H Q E →
      ∃ t, PSs (cxOf CX P w K mg base N qual sc f cdv A outer s H E) bd t ∧ t ⟨fun _ H' => Q .non H', Q, fun _ _ => False, fun _ _ => False⟩ (start N vs) H) :
    FnG P w K mg base CX (k + 1) f (PySem.W.fnOf nm qual prm bd sc dV kV doc pm an cdv ct) ps sp := by
  constructor
  · exact len
  intro A hg hr outer s H e0 args us vs hb r Q E hsp
  have keeps : ∀ b o, base.get? b = some o → s.heap.get? b = some o := fun b o e => (e0.bs b o e).1
  have KX : K.In s.heap := e0.mod.kin.keeps keeps
  have lim : s.heap.NoLimit := e0.mod.nolimit.keeps keeps
  obtain ⟨t, ht, hq⟩ := walk A hg outer s H vs Q E (hr.deeper _) hsp
  have crec := PySem.W.codeRec_of KX hcd
  refine codeAny_call_function hr.depth (KX _ _ lk) rfl S.co S.gen rfl crec (hb _ _ _ _ ?_)
  refine wpAny_newFunctionEnv_cells S.kind ?_ ?_
  · rintro ⟨n, v⟩ hy
    have q := S.par n (List.of_mem_zip hy).1
    cases q with
    | inl q => exact Or.inl q
    | inr q => exact Or.inr ⟨q, PySem.W.cellsFrom_some _ _ _ (Or.inl q)⟩
  · intro env he s1 x
    cases he
    have I := inv_start (CX := CX) (P := P) (w := w) (mg := mg) (N := N) (qual := qual) (f := f) (cd := cdv) (E := E) S hr.hd e0 (len _ _ _ _ hsp) r x
    refine ⟨lim.keeps x.toInCall.keep, codeAny_func (wpAny_mono (ht.run [] s1 (start N vs) H _ I hq) ?_ (fun e s' hs => hs))⟩
    intro fl s' hs
    match fl, hs with
    | .ret u, ⟨v, _, H', J, rv, q⟩ => exact ⟨v, H', J.os, J.bare, J.base, J.hok, rv, q⟩
    | .next, ⟨_, H', J, q⟩ => exact ⟨V.non, H', J.os, J.bare, J.base, J.hok, rfl, q⟩
    | .brk, ⟨_, _, _, q⟩ => exact q.elim
    | .cont, ⟨_, _, _, q⟩ => exact q.elim

theorem gok {x qual : Str} {st : Stmt} {f : Addr} {fd : FuncData} {N ps : List Str} {k : Nat} {sp : Sp} (F : Fun K x qual st f fd)
    (S : FnScope N ps (defScope st)) (len : ∀ vs H Q E, sp vs H Q E → vs.length = ps.length)
    (walk : ∀ (cdv : Value) (A : Around), A.guards = some [] → ∀ (outer : List Env) (s : Shared) (H : Hp) (vs : List V) (Q : VK) (E : XK),
      Room k (A.deeper (envOfC qual (defScope st) s.heap.objs.size f cdv)) → sp vs H Q E →
      ∃ t, PSs (cxOf CX0 P w K mg base N qual (defScope st) f cdv A outer s H E).nox (defBody st) t ∧
        t ⟨fun _ H' => Q .non H', Q, fun _ _ => False, fun _ _ => False⟩ (start N vs) H) :
    FnG P w K mg base CX0 (k + 1) f fd ps sp := by
  obtain ⟨_, _, _, _, _, _, cdv, _, _, rfl, lk, hcd⟩ := F.ex
  refine gfn lk hcd S len fun A hg outer s H vs Q E hr hsp => ?_
  obtain ⟨t, a, b⟩ := walk cdv A hg outer s H vs Q E hr hsp
  exact ⟨t, a.nox, b⟩
end

section
variable {X : Cx} {CX : CXT} {k : Nat} {f : Addr} {fd : FuncData} {ps : List Str} {sp : Sp} {dvs : List V} {ds : List Value} {E : XK} {x : Str} {p pos : Pos} {e : Expr} {es : List Expr} {t : TA}
/-- f(e, ..) of such a def -/
theorem pe_callG (F : FnG X.prog X.w X.K X.mg X.base CX k f fd ps sp) (gd : X.A.guards = some []) (hr : Room k X.A) (hg : Gl X x) (hm : X.mg x = some (.ref f))
    (hk : PySem.W.keepIn X.K (.ref f) = true) (hb : Binds X.K fd ps ds) (hd : Vals dvs ds) (hx : Passes CX X E) (ha : PA X (e :: es) t)
    (he : starEach (e :: es) X.env = (false, eval e X.env) :: starEach es X.env := by rfl) (hdb : (x == ("__debug__" : Str)) = false := by decide)
    (hpl : (backTo pos (starEach es X.env)).any (·.1) = false := by rfl) : PE X (.Call (.Name x p) (e :: es) [] pos) (tCall sp dvs E t) := by
  constructor
  intro pins s σ H Q I h
  refine wpAny_Call_Name_kw (ld_glob I hg hm (PySem.W.callWith_K (h₀ := X.base) I.ok.mod.kin hk (thn (ha.run pos pins s σ H _ I h) ?_) he hpl) hdb)
  rintro us s1 ⟨vs, H1, I1, r, q⟩
  have r2 := r.append hd
  have hl : (us ++ ds).length = ps.length := r2.length.symm.trans (F.len _ _ _ _ q)
  refine ⟨I1.kIn, wpAny_call (codeAny_mono (F.run X.A gd hr X.stack s1 H1 I1.env0 ⟨us, []⟩ _ _ (hb s1 us I1.kIn hl) r2 Q E q) ?_)⟩
  intro res s' hq
  match res, hq with
  | .error e, hq => exact hx pins σ H1 s1 e s' I1 hq
  | .ok (.ret u), hq => exact I1.after hq
  | .ok .next, hq => exact hq.elim
  | .ok .brk, hq => exact hq.elim
  | .ok .cont, hq => exact hq.elim
end

/-! repr of plain data -/
section
variable {X : Cx}
def rRepr (K : PySem.W.Frag) : List V → Hp → VK → Prop := fun xs H Q => ∃ a d, xs = [.ref a] ∧ Dp K H (.ref a) d ∧ d.showable = true ∧ d.hasDict = false ∧ d.depth ≤ 60 ∧ d.shown.length ≤ sizeLine ∧ Q (.str d.shown) H
theorem call_reprD (gd : X.A.guards = some []) (hu : X.A.units + 64 < cLine) : CallR X (.builtin "repr") (rRepr X.K) := by
  intro pins s σ H args us Q I r h
  obtain ⟨a, d, rfl, hd, hs, hn, hp, hz, q⟩ := h
  cases r with
  | cons r1 r2 =>
    cases r2
    have e := r1
    obtain rfl := show _ = Value.ref a from e
    obtain ⟨as, rd⟩ := Dp.reads I d _ _ hd rfl
    refine repr_of_reads' rd hs (PyData.noDict_hsm hn) gd (by omega) (fun _ _ z => z) (fun h' u tk k => ?_) hz
    exact ⟨.str d.shown, H, I.kept k, ⟨u, rfl⟩, q⟩

/-- xs[i] read, i no less than 0, by values -/
def rGetN (K : PySem.W.Frag) : V → V → Hp → VK → Prop := fun o i H Q => ∃ (p : Addr) (xs : List V) (j : Nat) (v : V), o = .ref p ∧ i = .int (j : Int) ∧ SqL K H p xs ∧ xs[j]? = some v ∧ Q v H
theorem get_list : PGet X (rGetN X.K) := by
  intro pins s σ H o i ov iv Q I ro ri h
  obtain ⟨p, xs, j, z, rfl, rfl, hq, he, q⟩ := h
  cases ro
  obtain ⟨t, rfl⟩ := ri
  obtain ⟨its, rl, pl, hz⟩ := I.list hq
  obtain ⟨v, ev, rv⟩ := rl.get he
  have hl := rl.length
  have hj : j < xs.length := (List.getElem?_eq_some_iff.mp he).1
  have hn := line63
  exact wpAny_getItem_list pl.isList (by omega) (by omega) (by rw [Int.toNat_natCast]; simpa using ev) ⟨z, H, I, rv, q⟩
end

/-! the law's own call, at the top's end -/
section
variable {P : Program} {w : World} {K : PySem.W.Frag} {mg mb : Str → Option Value} {k : Nat} {fa a : Addr} {fd : FuncData} {x : Str} {sp : Sp} {s1 : Shared} {vs : List Value} {ns : List Int}
/-- the abstract heap that tracks the script alone, or nothing -/
theorem lawG0 {H : Hp} (KX : K.In s1.heap) (hns : s1.heap.Ns mainGlobals mg) (hb : s1.heap.Ns builtinsNs mb)
    (hbb : ∀ y : Str, y ≠ "__name__" → mb y = bootBuiltins y) (hlim : s1.heap.NoLimit) (hg : s1.gens = #[])
    (ha : s1.heap.get? a = some { cls := .type "list", data := .seq vs.toArray }) (hr : Room k callerA)
    (F : ∀ base : Heap, K.In base → base.Ns mainGlobals mg → FnG P w K mg base CX0 k fa fd [x] sp)
    (hbind : ∀ (s : Shared) (u : Value), BindsTo s fd ⟨[u], []⟩ [(x, u)])
    (hO : Only H) (hok : HOk P w H s1.heap) (onlyA : ∀ b, H b ≠ none → b = a) (notK : H a ≠ none → K.lookup a = none)
    (hsp : sp [.ref a] H (fun v _ => v = .bl true) fun _ _ _ => False) :
    codeAny (model P w) callerA (.call (.ref fa) ⟨[.ref a], []⟩)
      (fun r s' => r = .ok (.ret (.bool true)) ∧ OldK s1.heap s'.heap ∧ s'.os = s1.os ∧ AllBare s'.gens) s1 := by
  have free : ∀ (b : Addr), (b = a → H b = none) → H b = none := by
    intro b hb
    by_cases e : H b = none
    · exact e
    · exact hb (onlyA b e)
  have nsB : ∀ {b : Addr} {m : Str → Option Value}, s1.heap.Ns b m → (hidT s1.heap H).Ns b m := by
    rintro b m ⟨o, es, ep, e, d, r⟩
    refine ⟨o, es, ep, hidT_get e (free b ?_), d, r⟩
    rintro rfl
    have q := Option.some.inj (e.symm.trans ha)
    rw [q] at d
    exact nomatch d
  have kinB : K.In (hidT s1.heap H) := by
    intro b o e
    refine hidT_get (KX b o e) (free b ?_)
    rintro rfl
    by_cases z : H b = none
    · exact z
    · exact absurd ((notK z).symm.trans e) (fun q => nomatch q)
  obtain ⟨mc, hl1, hl2⟩ := hlim
  have M : Mod K mg (hidT s1.heap H) := ⟨kinB, nsB hns, ⟨mb, nsB hb, hbb⟩, ⟨mc, nsB hl1, hl2⟩⟩
  have e0 : Env0 P w K mg (hidT s1.heap H) callerA [] s1 H :=
    { frames := rfl, mod := M, bs := fun b o e => of_hidT e, bsz := Nat.le_of_eq (hidT_size _ _), funs := trivial,
      frf := fun b hb => (nomatch (show b ∈ ([] : List Addr) from hb)), hok := hok, bare := .of_eq hg }
  have run := (F _ kinB (nsB hns)).run callerA rfl hr [] s1 H e0 ⟨[.ref a], []⟩ [.ref a] [.ref a] (hbind s1 _) (.cons rfl .nil) _ _ hsp
  refine codeAny_mono run ?_
  intro r s' h
  match r, h with
  | .ok (.ret u), ⟨v, H', os, bare, un, hok', rv, q⟩ =>
    have q' : v = V.bl true := q
    subst q'
    have eu : u = Value.bool true := rv
    subst eu
    refine ⟨rfl, OldK.of_keep ?_, os, bare⟩
    intro b o e
    by_cases z : H b = none
    · exact un.keep b o e z (fun q => nomatch (show b ∈ ([] : List Addr) from q)) (fun q => nomatch q)
    · rcases hO b with z1 | ⟨ob, xs, z1⟩
      · exact absurd z1 z
      · have e1 := (hok b _ z1).1
        have e2 := (hok' b _ (un.frzs b ob _ z1)).1
        rw [Option.some.inj (e.symm.trans e1)]
        exact e2

theorem lawG (KX : K.In s1.heap) (hns : s1.heap.Ns mainGlobals mg) (hb : s1.heap.Ns builtinsNs mb)
    (hbb : ∀ y : Str, y ≠ "__name__" → mb y = bootBuiltins y) (hlim : s1.heap.NoLimit) (hg : s1.gens = #[])
    (ha : s1.heap.get? a = some { cls := .type "list", data := .seq vs.toArray }) (hi : IntsAre vs ns) (hl : ns.length ≤ sizeLine) (hr : Room k callerA)
    (F : ∀ base : Heap, K.In base → base.Ns mainGlobals mg → FnG P w K mg base CX0 k fa fd [x] sp)
    (hbind : ∀ (s : Shared) (u : Value), BindsTo s fd ⟨[u], []⟩ [(x, u)])
    (hsp : ∀ H : Hp, SqL K H a (ns.map V.int) → sp [.ref a] H (fun v _ => v = .bl true) fun _ _ _ => False) :
    codeAny (model P w) callerA (.call (.ref fa) ⟨[.ref a], []⟩)
      (fun r s' => r = .ok (.ret (.bool true)) ∧ OldK s1.heap s'.heap ∧ s'.os = s1.os ∧ AllBare s'.gens) s1 := by
  have rv := vals_ints hi
  by_cases hk : K.lookup a = none
  · let ob : Obj := { cls := .type "list", data := .seq vs.toArray }
    let H : Hp := upd (fun _ => none) a (.frz ob (.lst (ns.map V.int)))
    have hA : H a = some (.frz ob (.lst (ns.map V.int))) := upd_same
    have hN : ∀ b, b ≠ a → H b = none := fun b ne => upd_ne ne
    refine lawG0 (H := H) KX hns hb hbb hlim hg ha hr F hbind ?_ ?_ ?_ (fun _ => hk) (hsp H (.inl (.inr ⟨ob, hA⟩)))
    · intro b
      by_cases e : b = a
      · exact .inr ⟨ob, _, e ▸ hA⟩
      · exact .inl (hN b e)
    · intro b u q
      by_cases e : b = a
      · subst e
        cases Option.some.inj (q.symm.trans hA)
        exact ⟨ha, Nat.le_trans (Nat.le_of_eq (List.length_map V.int)) hl, vs, _, rv, ha⟩
      · exact nomatch (hN b e).symm.trans q
    · intro b q
      by_cases e : b = a
      · exact e
      · exact absurd (hN b e) q
  · obtain ⟨o, ho⟩ := Option.ne_none_iff_exists'.mp hk
    have eo := Option.some.inj ((KX a o ho).symm.trans ha)
    subst eo
    refine lawG0 (H := fun _ => none) KX hns hb hbb hlim hg ha hr F hbind (fun _ => .inl rfl) (fun b u q => nomatch q) (fun b q => absurd rfl q) (fun q => absurd rfl q) (hsp _ (.inr ?_))
    exact ⟨_, vs.toArray, _, ho, rfl, rfl, rfl, by rw [List.size_toArray, hi.length]; exact hl, rv⟩
end

theorem walkG {l : PySem.W.OpenLaw} {n k : Nat} {q : Program} {loose : List Str} {XP : (Str → Option Value) → Heap → Prop} {YP : World → Heap → Prop} {d : DefRec} {K : Params → PySem.W.Frag} {sp : World → Sp} {x : Str}
    (hn : l.most = some n) (hn2 : n ≤ sizeLine) (hdf : d.params.defaults = [])
    (hY : ∀ (w : World) (h : Heap), YP w h → (K w.params).In h) (hr : Room k callerA)
    (F : ∀ (w : World) (mg : Str → Option Value) (fa : Addr) (g : Heap), (K w.params).In g → g.Ns mainGlobals mg → mg d.name = some (.ref fa) →
      ∃ fd : FuncData, (∀ (s : Shared) (v : Value), BindsTo s fd ⟨[v], []⟩ [(x, v)]) ∧
        ∀ base : Heap, (K w.params).In base → base.Ns mainGlobals mg → FnG l.prog w (K w.params) mg base CX0 k fa fd [x] (sp w))
    (hsp : ∀ (w : World) (H : Hp) (a : Addr) (ns : List Int), ns.length ≤ n → SqL (K w.params) H a (ns.map V.int) → sp w [.ref a] H (fun v _ => v = .bl true) fun _ _ _ => False) :
    PySem.W.WalkO q loose XP YP l.row.toRowW d [] fun f us => PySem.call f us := by
  refine Att.attach_call hn hdf ?_
  intro w s₀ s₁ mg mb fa o pm cd doc a vs ns G Y ho hd hcd hmg hobj hints hlen hg
  have KX := hY w _ Y
  obtain ⟨fd, bnd, prom⟩ := F w mg fa _ KX G.T.g hmg
  exact lawG KX G.T.g G.T.b G.T.builtins G.T.nolimit hg hobj hints (Nat.le_trans hlen hn2) hr prom bnd (fun H hS => hsp w H a ns hlen hS)
end TB

set_option Elab.async false
set_option linter.all false
set_option maxRecDepth 100000
namespace TB
open PySem PySem.Spec PyProof.Rows L2

/-! ### what is shown -/
structure Sh (k n : Nat) (d : PyData) : Prop where
  sh : d.showable = true
  nd : d.hasDict = false
  dp : d.depth ≤ k
  ln : d.shown.length ≤ n
theorem sh_int {i : Int} (h : i.natAbs < 2 ^ 100) : Sh 0 1921 (.int i) := by
  have hl : i.natAbs.log2 < 1920 := by
    by_cases h0 : i.natAbs = 0
    · rw [h0]; decide
    · exact (Nat.log2_lt h0).2 (Nat.lt_of_lt_of_le h (Nat.pow_le_pow_right (by decide) (by decide)))
  refine ⟨by simp only [PyData.showable, decide_eq_true_eq]; exact hl, by simp only [PyData.hasDict], by simp [PyData.depth], ?_⟩
  simp only [PyData.shown]
  exact int_text_len_1921 hl
theorem all_len {ds : List PyData} {k n : Nat} (h : ∀ d ∈ ds, Sh k n d) : PyData.showableAll ds = true ∧ PyData.hasDictAll ds = false ∧ PyData.depthAll ds ≤ k ∧ ((PyData.shownAll ds).map (·.length)).sum ≤ ds.length * n ∧ (PyData.shownAll ds).length = ds.length := by
  induction ds with
  | nil => simp [PyData.showableAll, PyData.hasDictAll, PyData.depthAll, PyData.shownAll]
  | cons d ds ih =>
    obtain ⟨a, b, c, e, f⟩ := ih fun x hx => h x (List.mem_cons_of_mem _ hx)
    have g := h d List.mem_cons_self
    refine ⟨by simp only [PyData.showableAll, g.sh, a, Bool.and_self], by simp only [PyData.hasDictAll, g.nd, b, Bool.or_self], ?_, ?_, ?_⟩
    · simp only [PyData.depthAll]
      have := g.dp
      omega
    · simp only [PyData.shownAll, List.map_cons, List.sum_cons, List.length_cons]
      have := g.ln
      rw [Nat.add_mul]
      omega
    · simp only [PyData.shownAll, List.length_cons, f]
theorem sh_tup {ds : List PyData} {k n : Nat} (h : ∀ d ∈ ds, Sh k n d) : Sh (k + 1) (ds.length * n + 2 * ds.length + 3) (.tuple ds) := by
  obtain ⟨a, b, c, e, f⟩ := all_len h
  refine ⟨by simp only [PyData.showable, a], by simp only [PyData.hasDict, b], by simp only [PyData.depth]; omega, ?_⟩
  simp only [PyData.shown]
  refine Nat.le_trans (tupleText_len_le _) ?_
  rw [f]
  omega
theorem sh_lst {ds : List PyData} {k n : Nat} (h : ∀ d ∈ ds, Sh k n d) : Sh (k + 1) (ds.length * n + 2 * ds.length + 3) (.list ds) := by
  obtain ⟨a, b, c, e, f⟩ := all_len h
  refine ⟨by simp only [PyData.showable, a], by simp only [PyData.hasDict, b], by simp only [PyData.depth]; omega, ?_⟩
  simp only [PyData.shown]
  refine Nat.le_trans (listText_len_le _) ?_
  rw [f]
  omega
theorem Sh.mono {k k' n n' : Nat} {d : PyData} (h : Sh k n d) (a : k ≤ k') (b : n ≤ n') : Sh k' n' d :=
  ⟨h.sh, h.nd, Nat.le_trans h.dp a, Nat.le_trans h.ln b⟩
def dInts (ns : List Int) : List PyData := ns.map PyData.int
theorem sh_ints {ns : List Int} (h : ∀ v ∈ ns, v.natAbs < 2 ^ 100) (hl : ns.length ≤ 100) : Sh 1 200000 (.tuple (dInts ns)) := by
  refine (sh_tup (k := 0) (n := 1921) fun d hd => ?_).mono (by omega) ?_
  · obtain ⟨v, hv, rfl⟩ := List.mem_map.mp hd
    exact sh_int (h v hv)
  · unfold dInts
    rw [List.length_map]
    omega
theorem dp_ints {K : PySem.W.Frag} {H : Hp} : ∀ ns : List Int, DpAll K H (ns.map V.int) (dInts ns)
  | [] => DpAll.nil
  | n :: ns => DpAll.cons (Dp.int n) (dp_ints ns)

/-- a comprehension without an if -/
theorem yes {σ : L2.St} {H : Hp} {R : Bool → Hp → Prop} (h : R true H) : tYes σ H R := h
theorem iteS {c A B : Prop} [Decidable c] (hc : c) (h : A) : if decide c = true then A else B := by
  rw [if_pos (decide_eq_true hc)]
  exact h
theorem ixN_nat {n k : Nat} (h : k < n) : ixN n (k : Int) = some k := by
  unfold ixN
  rw [if_pos (by omega), if_pos (by omega)]
  simp
theorem take_more {α : Type} {xs : List α} {i : Nat} {x : α} (h : xs[i]? = some x) : xs.take (i + 1) = xs.take i ++ [x] := by
  rw [List.take_add_one, h]
  rfl

theorem map_get {α β : Type} {f : α → β} {xs : List α} {i : Nat} {d : β} (h : (xs.map f)[i]? = some d) : ∃ p, xs[i]? = some p ∧ d = f p := by
  rw [List.getElem?_map] at h
  cases e : xs[i]? with
  | none => rw [e] at h; cases h
  | some p => rw [e] at h; exact ⟨p, rfl, (Option.some.inj h).symm⟩
theorem map_take_more {α β : Type} {f : α → β} {xs : List α} {i : Nat} {x : α} (h : xs[i]? = some x) : (xs.take (i + 1)).map f = (xs.take i).map f ++ [f x] := by
  rw [take_more h, List.map_append]
  rfl

/-! ### heaps -/
theorem same_upd {H : Hp} {p : Addr} {o : HO} (h : H p = none) : Same H (upd H p o) := fun b x e => by
  rw [upd_ne (ne_of_none e h)]
  exact e
theorem Same.tup {K : PySem.W.Frag} {H H' : Hp} {a : Addr} {xs : List V} (e : Same H H') (h : SqT K H a xs) : SqT K H' a xs := by
  rcases h with (h | ⟨o, h⟩) | h
  · exact .inl (.inl (e _ _ h))
  · exact .inl (.inr ⟨o, e _ _ h⟩)
  · exact .inr h
/-- all that was tracked is as it was, but what stands at f -/
def But (f : Addr) (H H' : Hp) : Prop := ∀ b o, b ≠ f → H b = some o → H' b = some o
theorem But.refl (f : Addr) (H : Hp) : But f H H := fun _ _ _ h => h
theorem But.trans {f : Addr} {H H1 H2 : Hp} (a : But f H H1) (b : But f H1 H2) : But f H H2 := fun c o n h => b c o n (a c o n h)
theorem But.same {f : Addr} {H H1 H2 : Hp} (a : But f H H1) (b : Same H1 H2) : But f H H2 := fun c o n h => b c o (a c o n h)
theorem But.of {f : Addr} {H H' : Hp} (a : Same H H') : But f H H' := fun c o _ h => a c o h
theorem But.upd {f : Addr} {H : Hp} {o : HO} : But f H (upd H f o) := fun b x n e => by
  rw [upd_ne n]
  exact e
theorem But.free {f : Addr} {H H' : Hp} {zs : List V} (e : But f H H') (hf : H' f = some (.lst zs)) {l : Addr} (h : H' l = none) : H l = none := by
  cases q : H l with
  | none => rfl
  | some o =>
    have n : l ≠ f := fun z => by
      rw [z, hf] at h
      cases h
    rw [e l o n q] at h
    cases h
mutual
theorem Dp.same {K : PySem.W.Frag} {H H' : Hp} (e : Same H H') : ∀ (d : PyData) (v : V), Dp K H v d → Dp K H' v d
  | .none, _, .non => .non
  | .bool _, _, .bl b => .bl b
  | .int _, _, .int i => .int i
  | .str _, _, .str x => .str x
  | .list ds, _, .lst h a => .lst (e.seq h) (DpAll.same e ds _ a)
  | .tuple ds, _, .tup h a => .tup (TB.Same.tup e h) (DpAll.same e ds _ a)
theorem DpAll.same {K : PySem.W.Frag} {H H' : Hp} (e : Same H H') : ∀ (ds : List PyData) (vs : List V), DpAll K H vs ds → DpAll K H' vs ds
  | [], _, .nil => .nil
  | d :: ds, _, .cons h t => .cons (Dp.same e d _ h) (DpAll.same e ds _ t)
end
theorem DpAll.snoc {K : PySem.W.Frag} {H : Hp} {v : V} {d : PyData} (h : Dp K H v d) : ∀ {vs : List V} {ds : List PyData}, DpAll K H vs ds → DpAll K H (vs ++ [v]) (ds ++ [d])
  | _, _, .nil => .cons h .nil
  | _, _, .cons a t => .cons a (DpAll.snoc h t)
theorem DpAll.len {K : PySem.W.Frag} {H : Hp} : ∀ {vs : List V} {ds : List PyData}, DpAll K H vs ds → vs.length = ds.length
  | _, _, .nil => rfl
  | _, _, .cons _ t => congrArg Nat.succ (DpAll.len t)
theorem DpAll.get {K : PySem.W.Frag} {H : Hp} : ∀ {vs : List V} {ds : List PyData} {i : Nat} {v : V}, DpAll K H vs ds → vs[i]? = some v → ∃ d, ds[i]? = some d ∧ Dp K H v d
  | _, _, _, _, .nil, h => by simp at h
  | _, _, 0, _, .cons a _, h => ⟨_, rfl, by simp at h; subst h; exact a⟩
  | _, _, i + 1, _, .cons _ t, h => by
    obtain ⟨d, e, q⟩ := DpAll.get t (i := i) (by simpa using h)
    exact ⟨d, by simpa using e, q⟩
theorem Dp.tup_inv {K : PySem.W.Frag} {H : Hp} {v : V} {ds : List PyData} (h : Dp K H v (.tuple ds)) : ∃ a xs, v = .ref a ∧ SqT K H a xs ∧ DpAll K H xs ds := by
  cases h with
  | tup h a => exact ⟨_, _, rfl, h, a⟩
theorem Dp.lst_inv {K : PySem.W.Frag} {H : Hp} {v : V} {ds : List PyData} (h : Dp K H v (.list ds)) : ∃ a xs, v = .ref a ∧ SqL K H a xs ∧ DpAll K H xs ds := by
  cases h with
  | lst h a => exact ⟨_, _, rfl, h, a⟩
theorem DpAll.cons_inv {K : PySem.W.Frag} {H : Hp} {xs : List V} {d : PyData} {ds : List PyData} (h : DpAll K H xs (d :: ds)) : ∃ v vs, xs = v :: vs ∧ Dp K H v d ∧ DpAll K H vs ds := by
  cases h with
  | cons a t => exact ⟨_, _, rfl, a, t⟩
theorem DpAll.nil_inv {K : PySem.W.Frag} {H : Hp} {xs : List V} (h : DpAll K H xs []) : xs = [] := by
  cases h
  rfl
theorem Dp.int_inv {K : PySem.W.Frag} {H : Hp} {v : V} {i : Int} (h : Dp K H v (.int i)) : v = .int i := by
  cases h
  rfl
theorem Dp.str_inv {K : PySem.W.Frag} {H : Hp} {v : V} {i : Str} (h : Dp K H v (.str i)) : v = .str i := by
  cases h
  rfl
theorem dp_strs {K : PySem.W.Frag} {H : Hp} : ∀ ns : List Str, DpAll K H (ns.map V.str) (ns.map PyData.str)
  | [] => DpAll.nil
  | n :: ns => DpAll.cons (Dp.str n) (dp_strs ns)

/-! no list stands in it -/
mutual
def noL : PyData → Bool
  | .list _ => false
  | .tuple xs => noLs xs
  | .dict _ => false
  | _ => true
def noLs : List PyData → Bool
  | [] => true
  | x :: xs => noL x && noLs xs
end
theorem SqT.but {K : PySem.W.Frag} {H H' : Hp} {o a : Addr} {xs zs : List V} (e : But o H H') (ho : H o = some (.lst zs)) (h : SqT K H a xs) : SqT K H' a xs := by
  rcases h with (h | ⟨u, h⟩) | h
  · exact .inl (.inl (e _ _ (ne_of h ho (fun z => nomatch z)) h))
  · exact .inl (.inr ⟨u, e _ _ (ne_of h ho (fun z => nomatch z)) h⟩)
  · exact .inr h
mutual
theorem Dp.but {K : PySem.W.Frag} {H H' : Hp} {o : Addr} {zs : List V} (e : But o H H') (ho : H o = some (.lst zs)) : ∀ (d : PyData) (v : V), noL d = true → Dp K H v d → Dp K H' v d
  | .none, _, _, .non => .non
  | .bool _, _, _, .bl b => .bl b
  | .int _, _, _, .int i => .int i
  | .str _, _, _, .str x => .str x
  | .list ds, _, n, _ => by simp [noL] at n
  | .tuple ds, _, n, .tup h a => .tup (TB.SqT.but e ho h) (DpAll.but e ho ds _ (by simpa only [noL] using n) a)
theorem DpAll.but {K : PySem.W.Frag} {H H' : Hp} {o : Addr} {zs : List V} (e : But o H H') (ho : H o = some (.lst zs)) : ∀ (ds : List PyData) (vs : List V), noLs ds = true → DpAll K H vs ds → DpAll K H' vs ds
  | [], _, _, .nil => .nil
  | d :: ds, _, n, .cons h t => by
    simp only [noLs, Bool.and_eq_true] at n
    exact .cons (Dp.but e ho d _ n.1 h) (DpAll.but e ho ds _ n.2 t)
end
theorem noLs_of {ds : List PyData} (h : ∀ d ∈ ds, noL d = true) : noLs ds = true := by
  induction ds with
  | nil => rfl
  | cons d ds ih => simp only [noLs, h d List.mem_cons_self, ih fun x hx => h x (List.mem_cons_of_mem _ hx), Bool.and_self]
theorem noLs_snoc {ds : List PyData} {d : PyData} (h : noLs ds = true) (n : noL d = true) : noLs (ds ++ [d]) = true := by
  induction ds with
  | nil => simp only [List.nil_append, noLs, n, Bool.and_true]
  | cons x ds ih =>
    simp only [noLs, Bool.and_eq_true] at h
    simp only [List.cons_append, noLs, h.1, ih h.2, Bool.and_self]

/-! ### a list that is being filled: at D, with these data -/
structure Acc (K : PySem.W.Frag) (H : Hp) (D : Addr) (ds : List PyData) : Prop where
  ex : ∃ us, H D = some (.lst us) ∧ DpAll K H us ds
  nl : noLs ds = true
theorem Acc.start {K : PySem.W.Frag} {H : Hp} {D : Addr} : Acc K (upd H D (.lst [])) D [] := ⟨⟨[], upd_same, .nil⟩, rfl⟩
theorem Acc.same {K : PySem.W.Frag} {H H' : Hp} {D : Addr} {ds : List PyData} (h : Acc K H D ds) (e : Same H H') : Acc K H' D ds := by
  obtain ⟨us, a, b⟩ := h.ex
  exact ⟨⟨us, e _ _ a, DpAll.same e _ _ b⟩, h.nl⟩
theorem Acc.but {K : PySem.W.Frag} {H H' : Hp} {D F : Addr} {ds : List PyData} {zs : List V} (h : Acc K H D ds) (e : But F H H') (hF : H F = some (.lst zs)) (n : D ≠ F) : Acc K H' D ds := by
  obtain ⟨us, a, b⟩ := h.ex
  exact ⟨⟨us, e _ _ n a, DpAll.but e hF _ _ h.nl b⟩, h.nl⟩
/-- one more -/
theorem Acc.more {K : PySem.W.Frag} {H : Hp} {D : Addr} {ds : List PyData} {v : V} {d : PyData} (h : Acc K H D ds) (dv : Dp K H v d) (n : noL d = true) (hl : ds.length ≤ 900) :
    ∃ us, H D = some (.lst us) ∧ us.length < sizeLine ∧ Acc K (upd H D (.lst (us ++ [v]))) D (ds ++ [d]) := by
  obtain ⟨us, a, b⟩ := h.ex
  have bu : But D H (upd H D (.lst (us ++ [v]))) := But.upd
  exact ⟨us, a, by rw [DpAll.len b]; exact small1000 (by omega), ⟨us ++ [v], upd_same, DpAll.snoc (Dp.but bu a _ _ n dv) (DpAll.but bu a _ _ h.nl b)⟩, noLs_snoc h.nl n⟩

theorem same_new {H H2 : Hp} {D : Addr} {o : HO} (nD : H D = none) (sm : Same H H2) : Same H (upd H2 D o) := fun c x e => by
  rw [upd_ne (ne_of_none e nD)]
  exact sm c x e
/-- a turn of a comprehension that changes nothing else -/
theorem Acc.turn {K : PySem.W.Frag} {H H1 H2 : Hp} {D : Addr} {ds ds' : List PyData} {v : V} {d : PyData} (nD : H D = none) (sm : Same H H1) (ac : Acc K H1 D ds) (s2 : Same H1 H2) (dv : Dp K H2 v d) (n : noL d = true) (hl : ds.length ≤ 900) (he : ds' = ds ++ [d]) :
    ∃ acc, H2 D = some (.lst acc) ∧ acc.length < sizeLine ∧ (Same H (upd H2 D (.lst (acc ++ [v]))) ∧ Acc K (upd H2 D (.lst (acc ++ [v]))) D ds') := by
  obtain ⟨us, a, b, c⟩ := (ac.same s2).more dv n hl
  exact ⟨us, a, b, same_new nD (sm.trans s2), he ▸ c⟩
/-- the tuple of all that was filled in -/
theorem Acc.tuple {K : PySem.W.Frag} {H : Hp} {D t : Addr} {us : List V} {ds : List PyData} (dv : DpAll K H us ds) (nt : H t = none) : Dp K (upd H t (.tup us)) (.ref t) (.tuple ds) :=
  .tup (.inl (.inl upd_same)) (DpAll.same (same_upd nt) _ _ dv)

/-! ### repr, its text kept shut -/
@[irreducible] def txt (d : PyData) : Str := d.shown
theorem txt_eq (d : PyData) : txt d = d.shown := by
  unfold txt
  rfl
section
variable {X : Cx}
def rReprT (K : PySem.W.Frag) : List V → Hp → VK → Prop := fun xs H Q => ∃ a d, xs = [.ref a] ∧ Dp K H (.ref a) d ∧ d.showable = true ∧ d.hasDict = false ∧ d.depth ≤ 60 ∧ d.shown.length ≤ sizeLine ∧ Q (.str (txt d)) H
theorem call_reprT (gd : X.A.guards = some []) (hu : X.A.units + 64 < cLine) : CallR X (.builtin "repr") (rReprT X.K) := by
  intro pins s σ H args us Q I r h
  obtain ⟨a, d, e, hd, hs, hn, hp, hz, q⟩ := h
  refine call_reprD gd hu pins s σ H args us Q I r ⟨a, d, e, hd, hs, hn, hp, hz, ?_⟩
  rw [← txt_eq]
  exact q
end

/-! ### a call by names alone -/
section
variable {X : Cx} {CX : CXT} {k : Nat} {f : Addr} {fd : FuncData} {ps ks : List Str} {sp : Sp} {E : XK} {x : Str} {p pos : Pos} {kws : List Keyword} {tk : TA} {g : List Value → List Value → List Value} {gV : List V → List V → List V}
theorem pe_callN0 (F : FnOk X.prog X.w X.K X.mg X.base CX k f fd ps sp) (hr : Room k X.A) (hg : Gl X x) (hm : X.mg x = some (.ref f)) (hk : PySem.W.keepIn X.K (.ref f) = true) (hb : KBn X.K fd ps 0 ks g gV) (hx : Passes CX X E) (hkw : PK X kws tk)
    (hks : (backToKw pos (keywordEach kws X.env)).filterMap (·.1) = ks := by rfl) (hall : (backToKw pos (keywordEach kws X.env)).all (·.1.isSome) = true := by rfl)
    (hpl : ((backTo pos (starEach [] X.env)).any (·.1) || (backToKw pos (keywordEach kws X.env)).any (·.1.isNone)) = false := by rfl) (hdb : (x == ("__debug__" : Str)) = false := by decide) :
    PE X (.Call (.Name x p) [] kws pos) (tCallN 0 ks.length sp gV E tNil tk) := by
  constructor
  intro pins s σ H Q I h
  refine wpAny_Call_Name_kw (ld_glob I hg hm (PySem.W.callWith_KW0 (h₀ := X.base) I.ok.mod.kin hk hall (thn (hkw.run pos pins s σ H _ I h) ?_) hpl) hdb)
  rintro ws s2 ⟨zs, H2, I2, rz, l1, l2, q2⟩
  rw [hks]
  exact ⟨I2.kIn, run_fnN (us := []) (vs := []) F hr hb hx I2 .nil rz l1 l2 q2⟩
end
end TB

set_option Elab.async false
set_option linter.all false
set_option maxRecDepth 100000
set_option maxHeartbeats 1000000
namespace TB
open PySem PySem.Spec PyProof.Rows L2

/-! ### sum, min, max of a tuple of numbers -/
section
variable {l : Addr} {its : List Value} {ns : List Int} {prog : Program} {w : World} {A : Around} {s : Shared} {Q E : Value → Shared → Prop}
theorem tup_old {h' : Heap} {ob : Obj} (kept : ∀ b o, b ∉ [s.heap.objs.size] → (s.heap.push ob).get? b = some o → h'.get? b = some o) : ∀ b o, s.heap.get? b = some o → h'.get? b = some o := fun b o e =>
  kept b o (fun z => by
    have z' : b = s.heap.objs.size := by simpa using z
    have := Heap.lt_size e
    rw [z'] at this
    exact Nat.lt_irrefl _ this) (Heap.get?_push_of_some _ e)
theorem tup_fp {ob : Obj} {xs : Array Value} (hl : s.heap.IsTuple l xs) : l < s.heap.objs.size ∧ ∀ b ∈ [s.heap.objs.size, l], b < (s.heap.push ob).objs.size := by
  obtain ⟨o, ho, _⟩ := hl
  have lt := Heap.lt_size ho
  refine ⟨lt, fun b hb => ?_⟩
  rw [Heap.size_push]
  have : b = s.heap.objs.size ∨ b = l := by simpa using hb
  rcases this with rfl | rfl
  · exact Nat.lt_succ_self _
  · exact Nat.lt_succ_of_lt lt
theorem sum_tupR (hh : A.handled = none) (hl : s.heap.IsTuple l its.toArray) (hi : IntsAre its ns)
    (told : ∀ h' tk t', (∀ b o, s.heap.get? b = some o → h'.get? b = some o) → Q (.int ns.sum t') { s with heap := h', toks := tk }) : wpAny (model prog w) A (call (.builtin "sum") [.ref l]) Q E s := by
  obtain ⟨pairs, e⟩ := hi.allInts.items
  have nums : numsOf (intItems pairs).toList = ns := by rw [← e]; exact hi.numsOf
  rw [nums_intItems] at nums
  rw [e] at hl
  refine call_sum_walkG (wpAny_pyIter_tuple hl ?_)
  refine ⟨_, [_, l], [_], _, _, _, numAt pairs, rfl, Walks.tuple (A := A.in1) hh _ l (Nat.ne_of_lt (tup_fp (ob := default) hl).1) (intItems pairs), ⟨⟨_, Heap.get?_push_size _ rfl, rfl, rfl⟩, hl.push _⟩, (tup_fp hl).2, fun _ _ => intItems_at, fun h' tk t' hk => ?_⟩
  have q := told h' tk t' (tup_old hk)
  have ez : (intItems pairs).size = pairs.size := by simp [intItems]
  rw [ez, preSum_eq, List.take_of_length_le (by simp), nums]
  exact q
theorem min_tupR (hh : A.handled = none) (hl : s.heap.IsTuple l its.toArray) (hi : IntsAre its ns) (hne : 0 < ns.length)
    (told : ∀ h' tk M t', (∀ b o, s.heap.get? b = some o → h'.get? b = some o) → M ∈ ns → (∀ a, a ∈ ns → M ≤ a) → Q (.int M t') { s with heap := h', toks := tk }) : wpAny (model prog w) A (call (.builtin "min") [.ref l]) Q E s := by
  obtain ⟨pairs, e⟩ := hi.allInts.items
  have nums : numsOf (intItems pairs).toList = ns := by rw [← e]; exact hi.numsOf
  rw [nums_intItems] at nums
  subst nums
  rw [e] at hl
  have some1 : 0 < pairs.size := by simpa using hne
  refine call_min_walk (wpAny_pyIter_tuple hl ?_)
  refine ⟨_, [_, l], [_], _, _, _, _, rfl, Walks.tuple (A := A.in1) hh _ l (Nat.ne_of_lt (tup_fp (ob := default) hl).1) (intItems pairs), ⟨⟨_, Heap.get?_push_size _ rfl, rfl, rfl⟩, hl.push _⟩, (tup_fp hl).2, by simpa [intItems] using some1, CmpOf.ints_lt (numAt pairs) (fun _ _ => intItems_at), fun v h' tk hP hk => ?_⟩
  have ez : (intItems pairs).size = pairs.size := by simp [intItems]
  rw [ez] at hP
  obtain ⟨t, rfl⟩ := intItems_at hP
  obtain ⟨_, least⟩ := argBest_lt (numAt pairs) (pairs.size - 1)
  refine told h' tk _ t (tup_old hk) ?_ fun a ha => ?_
  · rw [numAt_eq]
    exact PySem.getD_mem (by rw [List.length_map, Array.length_toList]; omega)
  · obtain ⟨i, hi', rfl⟩ := mem_getD ha
    have lt : i < pairs.toList.length := by simpa using hi'
    rw [Array.length_toList] at lt
    exact numAt_eq .. ▸ least i (by omega)
theorem max_tupR (hh : A.handled = none) (hl : s.heap.IsTuple l its.toArray) (hi : IntsAre its ns) (hne : 0 < ns.length)
    (told : ∀ h' tk M t', (∀ b o, s.heap.get? b = some o → h'.get? b = some o) → M ∈ ns → (∀ a, a ∈ ns → a ≤ M) → Q (.int M t') { s with heap := h', toks := tk }) : wpAny (model prog w) A (call (.builtin "max") [.ref l]) Q E s := by
  obtain ⟨pairs, e⟩ := hi.allInts.items
  have nums : numsOf (intItems pairs).toList = ns := by rw [← e]; exact hi.numsOf
  rw [nums_intItems] at nums
  subst nums
  rw [e] at hl
  have some1 : 0 < pairs.size := by simpa using hne
  refine call_max_walk (wpAny_pyIter_tuple hl ?_)
  refine ⟨_, [_, l], [_], _, _, _, _, rfl, Walks.tuple (A := A.in1) hh _ l (Nat.ne_of_lt (tup_fp (ob := default) hl).1) (intItems pairs), ⟨⟨_, Heap.get?_push_size _ rfl, rfl, rfl⟩, hl.push _⟩, (tup_fp hl).2, by simpa [intItems] using some1, CmpOf.ints_gt (numAt pairs) (fun _ _ => intItems_at), fun v h' tk hP hk => ?_⟩
  have ez : (intItems pairs).size = pairs.size := by simp [intItems]
  rw [ez] at hP
  obtain ⟨t, rfl⟩ := intItems_at hP
  obtain ⟨_, most⟩ := argBest_gt (numAt pairs) (pairs.size - 1)
  refine told h' tk _ t (tup_old hk) ?_ fun a ha => ?_
  · rw [numAt_eq]
    exact PySem.getD_mem (by rw [List.length_map, Array.length_toList]; omega)
  · obtain ⟨i, hi', rfl⟩ := mem_getD ha
    have lt : i < pairs.toList.length := by simpa using hi'
    rw [Array.length_toList] at lt
    exact numAt_eq .. ▸ most i (by omega)
end
section
variable {X : Cx}
def rSumT (K : PySem.W.Frag) : List V → Hp → VK → Prop := fun vs H Q => ∃ (a : Addr) (ns : List Int), vs = [V.ref a] ∧ SqT K H a (ns.map V.int) ∧ Q (.int ns.sum) H
def rMaxT (K : PySem.W.Frag) : List V → Hp → VK → Prop := fun vs H Q => ∃ (a : Addr) (ns : List Int), vs = [V.ref a] ∧ SqT K H a (ns.map V.int) ∧ 0 < ns.length ∧ ∀ m, m ∈ ns → (∀ y, y ∈ ns → y ≤ m) → Q (.int m) H
def rMinT (K : PySem.W.Frag) : List V → Hp → VK → Prop := fun vs H Q => ∃ (a : Addr) (ns : List Int), vs = [V.ref a] ∧ SqT K H a (ns.map V.int) ∧ 0 < ns.length ∧ ∀ m, m ∈ ns → (∀ y, y ∈ ns → m ≤ y) → Q (.int m) H
theorem call_sumT (hc : X.calm = true) : CallR X (.builtin "sum") (rSumT X.K) := by
  intro pins s σ H vs us Q I rel h
  obtain ⟨t, ns, rfl, at_t, q⟩ := h
  obtain ⟨its, rv, hl, _⟩ := I.tuple at_t
  rw [Vals.ref1 rel]
  exact sum_tupR (I.ok.hd hc) hl rv.ints fun h' tk t' hk => ⟨.int _, H, I.kept hk, ⟨_, rfl⟩, q⟩
theorem call_maxT (hc : X.calm = true) : CallR X (.builtin "max") (rMaxT X.K) := by
  intro pins s σ H vs us Q I rel h
  obtain ⟨t, ns, rfl, at_t, hne, q⟩ := h
  obtain ⟨its, rv, hl, _⟩ := I.tuple at_t
  rw [Vals.ref1 rel]
  exact max_tupR (I.ok.hd hc) hl rv.ints hne fun h' tk m t' hk h1 h2 => ⟨.int m, H, I.kept hk, ⟨_, rfl⟩, q m h1 h2⟩
theorem call_minT (hc : X.calm = true) : CallR X (.builtin "min") (rMinT X.K) := by
  intro pins s σ H vs us Q I rel h
  obtain ⟨t, ns, rfl, at_t, hne, q⟩ := h
  obtain ⟨its, rv, hl, _⟩ := I.tuple at_t
  rw [Vals.ref1 rel]
  exact min_tupR (I.ok.hd hc) hl rv.ints hne fun h' tk m t' hk h1 h2 => ⟨.int m, H, I.kept hk, ⟨_, rfl⟩, q m h1 h2⟩
end

/-! ### zip of a tuple and a list: one step of any two iterators -/
section
variable {w : World} {prog : Program} {s : Shared} {A : Around}
/-- nextOf i tells x and leaves T, from any state that keeps what s has but at the places off -/
def NextIs (prog : Program) (w : World) (s : Shared) (off : List Addr) (i : Addr) (x : Value) (T : Heap → Prop) : Prop :=
  ∀ (B : Around) (u : Shared) (Q : Value → Shared → Prop) (E : Value → Shared → Prop), (∀ c o, c ∉ off → s.heap.get? c = some o → u.heap.get? c = some o) →
    (∀ g, T g → Heap.SameBut i u.heap g → Q x { u with heap := g }) → wpAny (model prog w) B (Builtin.SmallTypes.nextOf (.ref i)) Q E u
/-- nextOf i stops -/
def NextEnds (prog : Program) (w : World) (s : Shared) (off : List Addr) (i : Addr) : Prop :=
  ∀ (B : Around) (u : Shared) (Q : Value → Shared → Prop) (E : Value → Shared → Prop), B.handled = none → (∀ c o, c ∉ off → s.heap.get? c = some o → u.heap.get? c = some o) →
    (∀ g e, Heap.ExtBut i u.heap g → (∃ o, g.get? e = some o ∧ o.cls = .type "StopIteration") → E (.ref e) { u with heap := g }) → wpAny (model prog w) B (Builtin.SmallTypes.nextOf (.ref i)) Q E u
/-- the five places of a zip are five -/
structure Five (z TI TO i j : Addr) : Prop where
  a : TI ≠ z
  b : TO ≠ z
  c : i ≠ z
  d : j ≠ z
  e : TO ≠ i
  f : TO ≠ j
  g : i ≠ j

theorem zip_step {E : Value → Shared → Prop} {z TI TO i j : Addr} {x y a b : Value} {T1 T2 : Heap → Prop} {Q : Option Value → Shared → Prop} (F : Five z TI TO i j)
    (hz : IsZip s.heap z TI TO .none) (hTI : IsPair s.heap TI (.ref i) (.ref j)) (hTO : IsPair s.heap TO a b)
    (lt : i < s.heap.objs.size ∧ j < s.heap.objs.size)
    (n1 : NextIs prog w s [z] i x T1) (n2 : NextIs prog w s [z, i, TO] j y T2)
    (k1 : ∀ g g' : Heap, T1 g → (∀ o, g.get? i = some o → g'.get? i = some o) → T1 g') (k2 : ∀ g g' : Heap, T2 g → (∀ o, g.get? j = some o → g'.get? j = some o) → T2 g')
    (hQ : ∀ g, IsZip g z TI TO (rawInt s.heap.objs.size) → IsPair g TO x y → T1 g → T2 g → IsPair g s.heap.objs.size x y → g.objs.size = s.heap.objs.size + 1 →
      (∀ c o, c ∉ [z, TO, i, j] → s.heap.get? c = some o → g.get? c = some o) → Q (some (.ref s.heap.objs.size)) { s with heap := g }) :
    wpAny (model prog w) A (pyNext (Value.ref z)) Q E s := by
  have isZ : s.TypeIs (.ref z) "zip" := ⟨_, hz, rfl⟩
  unfold pyNext
  refine wpAny_bind (wpAny_attempt (wpAny_callSpecial?_slot (name := Str.ofString "__next__") isZ PySem.F.slot_zip_next (wpAny_call_entry PySem.F.slot_zip_next isZ PySem.F.entry_zip_next ?_ (PySem.F.args_zip_next_1 _))))
  show wpAny _ _ (field (Value.ref z) 2 >>= _) _ _ _
  apply wpAny_bind
  refine wpAny_field hz rfl (x := .bool false) rfl ?_
  show wpAny _ _ (field (Value.ref z) 3 >>= _) _ _ _
  apply wpAny_bind
  refine wpAny_field hz rfl (x := .ref TI) rfl ?_
  apply wpAny_bind
  refine wpAny_seqItems hTI rfl ?_
  show wpAny _ _ (Builtin.SmallTypes.ownedTupleIsFree (Value.ref z) >>= _) _ _ _
  apply wpAny_bind; unfold Builtin.SmallTypes.ownedTupleIsFree; apply wpAny_bind
  refine wpAny_field hz rfl (x := .none) rfl (wpAny_pure ?_)
  simp only [if_true]
  apply wpAny_bind
  refine wpAny_rule ?_
  apply wpAny_bind
  refine wpAny_field hz rfl (x := .ref TO) rfl ?_
  apply wpAny_bind
  refine wpAny_setField_rec hz (by simp) fun g1 z1 s1 => ?_
  replace z1 : IsZip g1 z TI TO .ellipsis := z1
  apply wpAny_bind
  simp only [List.forIn_cons, List.forIn_nil, List.zipIdx_cons, List.zipIdx_nil]
  iterate 2 apply wpAny_bind
  apply wpAny_onRaise
  show wpAny _ _ (Builtin.SmallTypes.nextOf (.ref i) >>= _) _ _ _
  apply wpAny_bind
  refine n1 _ _ _ _ (fun c o n e => s1.extBut _ _ (by simpa using n) e) fun g2 t2 s2 => wpAny_pure ?_
  have o2 : IsPair g2 TO a b := s2.extBut _ _ F.e (s1.extBut _ _ F.b hTO)
  apply wpAny_bind
  refine wpAny_seqItems o2 rfl ?_
  apply wpAny_bind
  refine wpAny_updateSeq_pair o2 fun g3 o3 s3 => ?_
  replace o3 : IsPair g3 TO x b := o3
  apply wpAny_bind
  refine wpAny_letGo (wpAny_pure ?_)
  iterate 2 apply wpAny_bind
  apply wpAny_onRaise
  show wpAny _ _ (Builtin.SmallTypes.nextOf (.ref j) >>= _) _ _ _
  apply wpAny_bind
  refine n2 _ _ _ _ (fun c o n e => ?_) fun g4 t4 s4 => wpAny_pure ?_
  · have n' : c ≠ z ∧ c ≠ i ∧ c ≠ TO := by simpa using n
    exact s3.extBut _ _ n'.2.2 (s2.extBut _ _ n'.2.1 (s1.extBut _ _ n'.1 e))
  have o4 : IsPair g4 TO x b := s4.extBut _ _ F.f o3
  apply wpAny_bind
  refine wpAny_seqItems o4 rfl ?_
  apply wpAny_bind
  refine wpAny_updateSeq_pair o4 fun g5 o5 s5 => ?_
  replace o5 : IsPair g5 TO x y := o5
  apply wpAny_bind
  refine wpAny_letGo (wpAny_pure (wpAny_pure ?_))
  apply wpAny_bind
  refine wpAny_seqItems o5 rfl ?_
  apply wpAny_bind
  refine wpAny_newTuple ?_
  have size5 : g5.objs.size = s.heap.objs.size := by rw [s5.1, s4.1, s3.1, s2.1, s1.1]
  have z5 : IsZip g5 z TI TO .ellipsis := s5.extBut _ _ F.b.symm (s4.extBut _ _ F.d.symm (s3.extBut _ _ F.b.symm (s2.extBut _ _ F.c.symm z1)))
  have kept5 : ∀ c o, c ∉ [z, TO, i, j] → s.heap.get? c = some o → g5.get? c = some o := fun c o n e => by
    have n' : c ≠ z ∧ c ≠ TO ∧ c ≠ i ∧ c ≠ j := by simpa using n
    exact s5.extBut _ _ n'.2.1 (s4.extBut _ _ n'.2.2.2 (s3.extBut _ _ n'.2.1 (s2.extBut _ _ n'.2.2.1 (s1.extBut _ _ n'.1 e))))
  have u1 : T1 g5 := k1 _ _ t2 fun o e => s5.extBut _ _ F.e.symm (s4.extBut _ _ F.g (s3.extBut _ _ F.e.symm e))
  have u2 : T2 g5 := k2 _ _ t4 fun o e => s5.extBut _ _ F.f.symm e
  have zl : z < g5.objs.size := Heap.lt_size z5
  show wpAny _ _ (Builtin.SmallTypes.ownedTupleHandOut (.ref z) (.ref g5.objs.size) >>= _) _ _ _
  apply wpAny_bind; unfold Builtin.SmallTypes.ownedTupleHandOut
  have z6 : IsZip (g5.push { cls := .type "tuple", data := .seq #[x, y] }) z TI TO .ellipsis := Heap.get?_push_of_some _ z5
  apply wpAny_bind
  refine wpAny_setField_rec z6 (by simp) fun g7 z7 s7 => ?_
  replace z7 : IsZip g7 z TI TO (rawInt g5.objs.size) := z7
  refine wpAny_setField_rec z7 (by simp) fun g8 z8 s8 => ?_
  replace z8 : IsZip g8 z TI TO (rawInt g5.objs.size) := z8
  have up : ∀ c o, c ≠ z → g5.get? c = some o → g8.get? c = some o := fun c o n e => s8.extBut _ _ n (s7.extBut _ _ n (Heap.get?_push_of_some _ e))
  have pair8 : IsPair g8 g5.objs.size x y := s8.extBut _ _ (Nat.ne_of_gt zl) (s7.extBut _ _ (Nat.ne_of_gt zl) (Heap.get?_push_size _ rfl))
  have size8 : g8.objs.size = g5.objs.size + 1 := by rw [s8.1, s7.1, Heap.size_push]
  rw [size5] at z8 pair8 size8
  refine wpAny_pure ⟨_, rfl, wpAny_pure ?_⟩
  show Q (some (.ref g5.objs.size)) _
  rw [size5]
  exact hQ g8 z8 (up _ _ F.b o5) (k1 _ _ u1 fun o e => up _ o F.c e) (k2 _ _ u2 fun o e => up _ o F.d e) pair8 size8 fun c o n e => up c o (by simp at n; exact n.1) (kept5 c o n e)

theorem zip_stop0 {E : Value → Shared → Prop} {z TI TO i j : Addr} {a b : Value} {Q : Fin → Shared → Prop} (hh : A.handled = none) (F : Five z TI TO i j)
    (hz : IsZip s.heap z TI TO .none) (hTI : IsPair s.heap TI (.ref i) (.ref j)) (hTO : IsPair s.heap TO a b)
    (n : NextEnds prog w s [z] i ∨ (∃ (x : Value) (T : Heap → Prop), NextIs prog w s [z] i x T) ∧ NextEnds prog w s [z, i, TO] j)
    (fin : ∀ (g : Heap) (e : Addr), (∃ o, g.get? e = some o ∧ o.cls = .type "StopIteration") → (∀ c o, c ∉ [z, TO, i, j] → s.heap.get? c = some o → g.get? c = some o) → E (.ref e) { s with heap := g }) :
    wpAny (model prog w) A (Builtin.«zip.__next__» ⟨[Value.ref z], []⟩) Q E s := by
  show wpAny _ _ (field (Value.ref z) 2 >>= _) _ _ _
  apply wpAny_bind
  refine wpAny_field hz rfl (x := .bool false) rfl ?_
  show wpAny _ _ (field (Value.ref z) 3 >>= _) _ _ _
  apply wpAny_bind
  refine wpAny_field hz rfl (x := .ref TI) rfl ?_
  apply wpAny_bind
  refine wpAny_seqItems hTI rfl ?_
  show wpAny _ _ (Builtin.SmallTypes.ownedTupleIsFree (Value.ref z) >>= _) _ _ _
  apply wpAny_bind; unfold Builtin.SmallTypes.ownedTupleIsFree; apply wpAny_bind
  refine wpAny_field hz rfl (x := .none) rfl (wpAny_pure ?_)
  simp only [if_true]
  apply wpAny_bind
  refine wpAny_rule ?_
  apply wpAny_bind
  refine wpAny_field hz rfl (x := .ref TO) rfl ?_
  apply wpAny_bind
  refine wpAny_setField_rec hz (by simp) fun g1 z1 s1 => ?_
  replace z1 : IsZip g1 z TI TO .ellipsis := z1
  apply wpAny_bind
  simp only [List.forIn_cons, List.forIn_nil, List.zipIdx_cons, List.zipIdx_nil]
  iterate 2 apply wpAny_bind
  apply wpAny_onRaise
  show wpAny _ _ (Builtin.SmallTypes.nextOf (.ref i) >>= _) _ _ _
  rcases n with n | ⟨⟨x, T, n⟩, n'⟩
  · apply wpAny_bind
    refine n _ _ _ _ hh (fun c o m e => s1.extBut _ _ (by simpa using m) e) fun g2 e s2 he => ?_
    obtain ⟨oe, hoe, hce⟩ := he
    have z2 : IsZip g2 z TI TO .ellipsis := s2 _ _ F.c.symm z1
    have nez : e ≠ z := fun q => by subst q; rw [z2] at hoe; cases hoe; simp at hce
    refine wpAny_setField_rec z2 (by simp) fun g3 _ s3 => ?_
    refine fin g3 e ⟨oe, s3.extBut _ _ nez hoe, hce⟩ fun c o m q => ?_
    have m' : c ≠ z ∧ c ≠ TO ∧ c ≠ i ∧ c ≠ j := by simpa using m
    exact s3.extBut _ _ m'.1 (s2 _ _ m'.2.2.1 (s1.extBut _ _ m'.1 q))
  · apply wpAny_bind
    refine n _ _ _ _ (fun c o m e => s1.extBut _ _ (by simpa using m) e) fun g2 t2 s2 => wpAny_pure ?_
    have o2 : IsPair g2 TO a b := s2.extBut _ _ F.e (s1.extBut _ _ F.b hTO)
    apply wpAny_bind
    refine wpAny_seqItems o2 rfl ?_
    apply wpAny_bind
    refine wpAny_updateSeq_pair o2 fun g3 o3 s3 => ?_
    apply wpAny_bind
    refine wpAny_letGo (wpAny_pure ?_)
    iterate 2 apply wpAny_bind
    apply wpAny_onRaise
    show wpAny _ _ (Builtin.SmallTypes.nextOf (.ref j) >>= _) _ _ _
    apply wpAny_bind
    refine n' _ _ _ _ hh (fun c o m e => ?_) fun g4 e s4 he => ?_
    · have m' : c ≠ z ∧ c ≠ i ∧ c ≠ TO := by simpa using m
      exact s3.extBut _ _ m'.2.2 (s2.extBut _ _ m'.2.1 (s1.extBut _ _ m'.1 e))
    obtain ⟨oe, hoe, hce⟩ := he
    have z4 : IsZip g4 z TI TO .ellipsis := s4 _ _ F.d.symm (s3.extBut _ _ F.b.symm (s2.extBut _ _ F.c.symm z1))
    have nez : e ≠ z := fun q => by subst q; rw [z4] at hoe; cases hoe; simp at hce
    refine wpAny_setField_rec z4 (by simp) fun g5 _ s5 => ?_
    refine fin g5 e ⟨oe, s5.extBut _ _ nez hoe, hce⟩ fun c o m q => ?_
    have m' : c ≠ z ∧ c ≠ TO ∧ c ≠ i ∧ c ≠ j := by simpa using m
    exact s5.extBut _ _ m'.1 (s4 _ _ m'.2.2.2 (s3.extBut _ _ m'.2.1 (s2.extBut _ _ m'.2.2.1 (s1.extBut _ _ m'.1 q))))
theorem zip_stop {E : Value → Shared → Prop} {z TI TO i j : Addr} {a b : Value} {Q : Option Value → Shared → Prop} (hh : A.handled = none) (F : Five z TI TO i j)
    (hz : IsZip s.heap z TI TO .none) (hTI : IsPair s.heap TI (.ref i) (.ref j)) (hTO : IsPair s.heap TO a b)
    (n : NextEnds prog w s [z] i ∨ (∃ (x : Value) (T : Heap → Prop), NextIs prog w s [z] i x T) ∧ NextEnds prog w s [z, i, TO] j)
    (hQ : ∀ g, (∀ c o, c ∉ [z, TO, i, j] → s.heap.get? c = some o → g.get? c = some o) → Q none { s with heap := g }) :
    wpAny (model prog w) A (pyNext (Value.ref z)) Q E s := by
  have isZ : s.TypeIs (.ref z) "zip" := ⟨_, hz, rfl⟩
  unfold pyNext
  refine wpAny_bind (wpAny_attempt (wpAny_callSpecial?_slot (name := Str.ofString "__next__") isZ PySem.F.slot_zip_next (wpAny_call_entry PySem.F.slot_zip_next isZ PySem.F.entry_zip_next ?_ (PySem.F.args_zip_next_1 _))))
  refine zip_stop0 (A := A.in1) hh F hz hTI hTO n fun g e he hk => ?_
  obtain ⟨o, ho, hc⟩ := he
  apply wpAny_bind
  exact wpAny_isInstance (T := "StopIteration") (b := true) ⟨o, ho, hc⟩ isSubtype_stop (wpAny_pure (hQ _ hk))

/-! a tuple's and a list's -/
theorem next_tup {i l : Addr} {k : Nat} {xs : Array Value} {x : Value} {off : List Addr} (hi : s.heap.IsTupleIter i l k) (hl : s.heap.IsTuple l xs) (hx : xs[k]? = some x) (ni : i ∉ off) (nl : l ∉ off) :
    NextIs prog w s off i x (fun g => g.IsTupleIter i l (k + 1)) := fun B u Q E hk h =>
  RZ.nextOf_tuple_item (hi.at fun o e => hk _ o ni e) (hl.at fun o e => hk _ o nl e) hx h
theorem next_lst {i l : Addr} {k : Nat} {xs : Array Value} {x : Value} {off : List Addr} (hi : s.heap.IsListIter i l k) (hl : s.heap.IsList l xs) (hx : xs[k]? = some x) (ni : i ∉ off) (nl : l ∉ off) :
    NextIs prog w s off i x (fun g => g.IsListIter i l (k + 1)) := fun B u Q E hk h =>
  wpAny_nextOf_list_item (hi.at fun o e => hk _ o ni e) (hl.at fun o e => hk _ o nl e) hx h
theorem ends_tup {i l : Addr} {k : Nat} {xs : Array Value} {off : List Addr} (hi : s.heap.IsTupleIter i l k) (hl : s.heap.IsTuple l xs) (hx : xs[k]? = none) (ni : i ∉ off) (nl : l ∉ off) :
    NextEnds prog w s off i := fun B u Q E hh hk h =>
  RZ.nextOf_tuple_end hh (hi.at fun o e => hk _ o ni e) (hl.at fun o e => hk _ o nl e) hx h
theorem ends_lst {i l : Addr} {k : Nat} {xs : Array Value} {off : List Addr} (hi : s.heap.IsListIter i l k) (hl : s.heap.IsList l xs) (hx : xs[k]? = none) (ni : i ∉ off) (nl : l ∉ off) :
    NextEnds prog w s off i := fun B u Q E hh hk h =>
  wpAny_nextOf_list_end hh (hi.at fun o e => hk _ o ni e) (hl.at fun o e => hk _ o nl e) hx h
end

/-! zip(t, xs), t a tuple, xs a list -/
abbrev zTL1 (h : Heap) (a : Addr) : Heap := h.push { cls := .type "tuple_iterator", data := .fields #[.ref a, .int 0 0] }
abbrev zTL2 (h : Heap) (a b : Addr) : Heap := (zTL1 h a).push { cls := .type "list_iterator", data := .fields #[.ref b, .int 0 0] }
abbrev zTL3 (h : Heap) (a b : Addr) : Heap := (zTL2 h a b).push { cls := .type "tuple", data := .seq #[.ref h.objs.size, .ref (zTL1 h a).objs.size] }
abbrev zTL4 (h : Heap) (a b : Addr) : Heap := (zTL3 h a b).push { cls := .type "tuple", data := .seq #[.none, .none] }
abbrev zTL5 (h : Heap) (a b : Addr) : Heap := (zTL4 h a b).push { cls := .type "zip", data := .fields #[.none, .bool false, .bool false, .ref (zTL2 h a b).objs.size, .ref (zTL3 h a b).objs.size] }
theorem zTL_new (a b : Addr) (xs ys : Array Value) :
    Meets (Builtin.«zip.__new__» ⟨[.type "zip", .ref a, .ref b], []⟩) (fun _ R s => s.heap.IsTuple a xs ∧ s.heap.IsList b ys ∧ R (.ok (.ret (.ref (zTL4 s.heap a b).objs.size))) { s with heap := zTL5 s.heap a b }) :=
  .of_wp fun prog w A R st h => by
    obtain ⟨hp, g, d, tk, os⟩ := st
    obtain ⟨ha, hb, h⟩ := h
    have sub := sub_zip
    have iA : Heap.IsTuple (Shared.heap ⟨hp, g, d, tk, os⟩) a xs := ha
    have iB : Heap.IsList (Shared.heap ⟨hp.push { cls := .type "tuple_iterator", data := .fields #[.ref a, .int 0 0] }, g, d, tk, os⟩) b ys := Heap.IsList.push hb _
    wp_walk using wpAny_pyIter_tuple iA, wpAny_pyIter_list iB
    exact ⟨_, rfl, h⟩
section
variable {prog : Program} {w : World} {A : Around} {E : Value → Shared → Prop} {s : Shared}
theorem call_zTL {a b : Addr} {xs ys : Array Value} {Q : Value → Shared → Prop} (ha : s.heap.IsTuple a xs) (hb : s.heap.IsList b ys)
    (h : ∀ (n : Nat) (g : Heap), n = s.heap.objs.size → IsZip g (n + 4) (n + 2) (n + 3) .none → IsPair g (n + 2) (.ref n) (.ref (n + 1)) → IsPair g (n + 3) .none .none → g.IsTupleIter n a 0 → g.IsListIter (n + 1) b 0 →
      (∀ c o, s.heap.get? c = some o → g.get? c = some o) → Q (.ref (n + 4)) { s with heap := g }) :
    wpAny (model prog w) A (call (.type "zip") [.ref a, .ref b]) Q E s := by
  refine callType_new PySem.F.called_zip (by decide) (PySem.F.typeCall_zip_2 _ _) (PySem.F.newCall_zip_2 _ _) (fun o => PySem.F.args_object_init_3 o _ _) PySem.F.entry_zip_new (zTL_new a b xs ys) ⟨ha, hb, ?_⟩
  have e1 : (zTL1 s.heap a).objs.size = s.heap.objs.size + 1 := Heap.size_push ..
  have e2 : (zTL2 s.heap a b).objs.size = s.heap.objs.size + 2 := by rw [Heap.size_push, e1]
  have e3 : (zTL3 s.heap a b).objs.size = s.heap.objs.size + 3 := by rw [Heap.size_push, e2]
  have e4 : (zTL4 s.heap a b).objs.size = s.heap.objs.size + 4 := by rw [Heap.size_push, e3]
  have g5 : (zTL5 s.heap a b).get? (zTL4 s.heap a b).objs.size = some _ := Heap.get?_push_size _ rfl
  have g4 : (zTL5 s.heap a b).get? (zTL3 s.heap a b).objs.size = some _ := Heap.get?_push_of_some _ (Heap.get?_push_size _ rfl)
  have g3 : (zTL5 s.heap a b).get? (zTL2 s.heap a b).objs.size = some _ := Heap.get?_push_of_some _ (Heap.get?_push_of_some _ (Heap.get?_push_size _ rfl))
  have g2 : (zTL5 s.heap a b).get? (zTL1 s.heap a).objs.size = some _ := Heap.get?_push_of_some _ (Heap.get?_push_of_some _ (Heap.get?_push_of_some _ (Heap.get?_push_size _ rfl)))
  have g1 : (zTL5 s.heap a b).get? s.heap.objs.size = some _ := Heap.get?_push_of_some _ (Heap.get?_push_of_some _ (Heap.get?_push_of_some _ (Heap.get?_push_of_some _ (Heap.get?_push_size _ rfl))))
  show _ ∧ _
  rw [e2, e3, e4] at g5
  rw [e1, e2] at g3
  rw [e3] at g4
  rw [e1] at g2
  rw [e4]
  refine ⟨⟨_, g5, rfl⟩, h _ _ rfl g5 g3 g4 ⟨_, g1, rfl, rfl⟩ ⟨_, g2, rfl, rfl⟩ fun c o x => ?_⟩
  iterate 5 apply Heap.get?_push_of_some
  exact x
end

/-- what a turn over zip(t, xs) is -/
def ItTL (K : PySem.W.Frag) (a b : Addr) : It :=
  ⟨fun i H => ∃ (xs ys : List V) (x y : V), SqT K H a xs ∧ SqL K H b ys ∧ xs[i]? = some x ∧ ys[i]? = some y,
    fun i H v H' => ∃ T x y, v = .ref T ∧ H T = none ∧ H' = upd H T (.tup [x, y]) ∧ (∀ xs, SqT K H a xs → xs[i]? = some x) ∧ ∀ ys, SqL K H b ys → ys[i]? = some y,
    fun i H => ∃ xs ys : List V, SqT K H a xs ∧ SqL K H b ys ∧ (xs.length ≤ i ∨ ys.length ≤ i)⟩
theorem turn_TL {P : Program} {w : World} {K : PySem.W.Frag} {elts : List Expr} {kk : Nat} {tpos : Pos} {a b z TI TO i1 i2 : Addr} (V5 : Five z TI TO i1 i2) (nI : TI ≠ TO ∧ TI ≠ i1 ∧ TI ≠ i2) (na : a ∉ [z, TO, i1, i2]) (nb : b ∉ [z, TO, i1, i2]) :
    Turn P w K (.Tuple elts kk tpos) (ItTL K a b) [z, TI, TO, i1, i2] z (fun i h => IsZip h z TI TO .none ∧ IsPair h TI (.ref i1) (.ref i2) ∧ (∃ x y, IsPair h TO x y) ∧ h.IsTupleIter i1 a i ∧ h.IsListIter i2 b i) where
  mem := by simp
  obj := fun i h st c hc => by
    obtain ⟨isz, pI, ⟨x, y, pO⟩, ⟨o1, e1, _, d1⟩, ⟨o2, e2, _, d2⟩⟩ := st
    have five : c = z ∨ c = TI ∨ c = TO ∨ c = i1 ∨ c = i2 := by simpa using hc
    rcases five with rfl | rfl | rfl | rfl | rfl
    · exact ⟨_, isz, fun v q => nomatch q⟩
    · exact ⟨_, pI, fun v q => nomatch q⟩
    · exact ⟨_, pO, fun v q => nomatch q⟩
    · exact ⟨o1, e1, fun v q => by rw [d1] at q; cases q⟩
    · exact ⟨o2, e2, fun v q => by rw [d2] at q; cases q⟩
  keep := fun i h h' st k => by
    obtain ⟨isz, pI, ⟨x, y, pO⟩, h1, h2⟩ := st
    exact ⟨k _ (by simp) _ isz, k _ (by simp) _ pI, ⟨x, y, k _ (by simp) _ pO⟩, h1.at fun o q => k _ (by simp) o q, h2.at fun o q => k _ (by simp) o q⟩
  item := by
    intro X eP eW eK hc i pins s σ H E I hf st hg
    subst eP eW eK
    obtain ⟨isz, pI, ⟨x0, y0, pO⟩, h1, h2⟩ := st
    obtain ⟨xs, ys, x, y, qx, qy, hx, hy⟩ := hg
    obtain ⟨its, rv, p1, _⟩ := I.tuple qx
    obtain ⟨jts, rw_, p2, _⟩ := I.list qy
    obtain ⟨u, at_u, ru⟩ := rv.get hx
    obtain ⟨v, hv, rv2⟩ := rw_.get hy
    have zl : z < s.heap.objs.size := Heap.lt_size isz
    have l1 : i1 < s.heap.objs.size := by obtain ⟨_, e, _⟩ := h1; exact Heap.lt_size e
    have l2 : i2 < s.heap.objs.size := by obtain ⟨_, e, _⟩ := h2; exact Heap.lt_size e
    have na' : a ≠ z ∧ a ≠ TO ∧ a ≠ i1 ∧ a ≠ i2 := by simpa using na
    have nb' : b ≠ z ∧ b ≠ TO ∧ b ≠ i1 ∧ b ≠ i2 := by simpa using nb
    refine zip_step (T1 := fun g => g.IsTupleIter i1 a (i + 1)) (T2 := fun g => g.IsListIter i2 b (i + 1)) V5 isz pI pO ⟨l1, l2⟩ (next_tup h1 p1 (x := u) (by simpa using at_u) (by simpa using V5.c) (by simpa using na'.1))
      (next_lst h2 p2.isList (x := v) (by simpa using hv) (by simpa using ⟨V5.d, V5.g.symm, V5.f.symm⟩) (by simpa using ⟨nb'.1, nb'.2.2.1, nb'.2.1⟩)) (fun g g' t k => t.at k) (fun g g' t k => t.at k) fun g z' TO' t1 t2 hT hsz hk => ?_
    refine ⟨_, rfl, wpAny_letOwnedTupleGo_zip (s := { s with heap := g }) z' fun g2 z2 sb => ?_⟩
    have hT2 : g2.get? s.heap.objs.size = some { cls := .type "tuple", data := .seq #[u, v] } := (sb.2 _ (Nat.ne_of_gt zl)).trans hT
    have new : ObjOk X.prog X.w (upd H s.heap.objs.size (.tup [x, y])) g2 s.heap.objs.size (.tup [x, y]) := ⟨by show 2 ≤ sizeLine; decide, [u, v], .cons ru (.cons rv2 .nil), ⟨_, hT2, rfl, _, rfl⟩⟩
    have I1 : Inv X pins σ (upd H s.heap.objs.size (.tup [x, y])) { s with heap := g2 } := by
      refine I.turnedNew (t' := s.toks) (ch := [z, TI, TO, i1, i2]) (fun c o hb q => ?_) hf (Nat.le_refl _) new
      have n5 : c ≠ z ∧ c ≠ TI ∧ c ≠ TO ∧ c ≠ i1 ∧ c ≠ i2 := by simpa using hb
      exact (sb.2 c n5.1).trans (hk c o (by simpa using ⟨n5.1, n5.2.2.1, n5.2.2.2.1, n5.2.2.2.2⟩) q)
    have up : ∀ c o, c ≠ z → g.get? c = some o → g2.get? c = some o := fun c o n q => (sb.2 c n).trans q
    refine ⟨.ref s.heap.objs.size, _, I1, rfl, ⟨_, x, y, rfl, I.hok.fresh (Nat.le_refl _), rfl, fun l hl => by rw [I.tuple_inj hl qx]; exact hx, fun l hl => by rw [I.list_inj hl qy]; exact hy⟩, ⟨z2, ?_, ⟨u, v, up _ _ V5.b TO'⟩, t1.at fun o q => up _ o V5.c q, t2.at fun o q => up _ o V5.d q⟩, fun c hcm => ?_⟩
    · exact up _ _ V5.a (hk _ _ (by simpa using ⟨V5.a, nI.1, nI.2.1, nI.2.2⟩) pI)
    · have five : c = z ∨ c = TI ∨ c = TO ∨ c = i1 ∨ c = i2 := by simpa using hcm
      have lt : c < s.heap.objs.size := by
        rcases five with rfl | rfl | rfl | rfl | rfl
        · exact zl
        · exact Heap.lt_size pI
        · exact Heap.lt_size pO
        · exact l1
        · exact l2
      rw [upd_ne (Nat.ne_of_lt lt)]
      exact (hf c hcm).1
  done := by
    intro X eP eW eK hc i pins s σ H E I hf st hg
    subst eP eW eK
    obtain ⟨isz, pI, ⟨x0, y0, pO⟩, h1, h2⟩ := st
    obtain ⟨xs, ys, qx, qy, hend⟩ := hg
    obtain ⟨its, rv, p1, _⟩ := I.tuple qx
    obtain ⟨jts, rw_, p2, _⟩ := I.list qy
    have m1 := rv.length
    have m2 := rw_.length
    have na' : a ≠ z ∧ a ≠ TO ∧ a ≠ i1 ∧ a ≠ i2 := by simpa using na
    have nb' : b ≠ z ∧ b ≠ TO ∧ b ≠ i1 ∧ b ≠ i2 := by simpa using nb
    have n : NextEnds X.prog X.w s [z] i1 ∨ (∃ (x : Value) (T : Heap → Prop), NextIs X.prog X.w s [z] i1 x T) ∧ NextEnds X.prog X.w s [z, i1, TO] i2 := by
      by_cases c : xs.length ≤ i
      · exact .inl (ends_tup h1 p1 (by simp; omega) (by simpa using V5.c) (by simpa using na'.1))
      · have c2 : ys.length ≤ i := by omega
        exact .inr ⟨⟨its[i]'(by omega), _, next_tup h1 p1 (by simp) (by simpa using V5.c) (by simpa using na'.1)⟩, ends_lst h2 p2.isList (by simp; omega) (by simpa using ⟨V5.d, V5.g.symm, V5.f.symm⟩) (by simpa using ⟨nb'.1, nb'.2.2.1, nb'.2.1⟩)⟩
    refine zip_stop (I.ok.hd hc) V5 isz pI pO n fun g hk => ⟨rfl, I.turnedL (t' := s.toks) (ch := [z, TI, TO, i1, i2]) (fun c o hb q => ?_) hf⟩
    have n5 : c ≠ z ∧ c ≠ TI ∧ c ≠ TO ∧ c ≠ i1 ∧ c ≠ i2 := by simpa using hb
    exact hk c o (by simpa using ⟨n5.1, n5.2.2.1, n5.2.2.2.1, n5.2.2.2.2⟩) q
  self := fun _ _ _ _ _ st h => wpAny_pyIter_zip st.1 h

theorem five_at (n : Nat) : Five (n + 4) (n + 2) (n + 3) n (n + 1) := by
  constructor
  · show (n + 2 : Nat) ≠ n + 4; omega
  · show (n + 3 : Nat) ≠ n + 4; omega
  · show (n : Nat) ≠ n + 4; omega
  · show (n + 1 : Nat) ≠ n + 4; omega
  · show (n + 3 : Nat) ≠ n; omega
  · show (n + 3 : Nat) ≠ n + 1; omega
  · show (n : Nat) ≠ n + 1; omega
theorem six_at (n : Nat) : (n + 2 : Nat) ≠ n + 3 ∧ (n + 2 : Nat) ≠ n ∧ (n + 2 : Nat) ≠ n + 1 := by omega
theorem five_out {n a : Nat} (h : a < n) : a ∉ [n + 4, n + 3, n, n + 1] := by
  simp
  omega
def iTL (K : PySem.W.Frag) (ta : TA) : TI := fun σ H R => ta σ H fun vs H1 => ∃ a b xs ys, vs = [.ref a, .ref b] ∧ SqT K H1 a xs ∧ SqL K H1 b ys ∧ R (ItTL K a b) H1
theorem pi_zipTL {X : Cx} {e e2 : Expr} {ta : TA} {p pos tpos : Pos} {elts : List Expr} {kk : Nat} (hg : Gl X "zip") (hm : X.mg "zip" = none) (ha : PA X [e, e2] ta)
    (hs : starEach [e, e2] X.env = (false, eval e X.env) :: starEach [e2] X.env := by rfl) (hpl : (backTo pos (starEach [e2] X.env)).any (·.1) = false := by rfl) : PI X (.Tuple elts kk tpos) (.Call (.Name "zip" p) [e, e2] [] pos) (iTL X.K ta) := by
  refine ⟨fun pins s0 σ H R I h => ?_⟩
  refine Call_ (ld_blt I hg hm PyProof.Rows.boot_zip (PyProof.Rows.callWith_type1 (thn (ha.run pos pins s0 σ H _ I h) fun us u ⟨vs, H1, I1, r1, q1⟩ => ?_) hs hpl))
  obtain ⟨a, b, xs, ys, rfl, qx, qy, q⟩ := q1
  cases r1 with
  | cons r rr =>
    cases rr with
    | cons r' rr =>
      cases rr
      cases r
      cases r'
      obtain ⟨its, rv, p1, _⟩ := I1.tuple qx
      obtain ⟨jts, rw_, p2, _⟩ := I1.list qy
      have la : a < u.heap.objs.size := by obtain ⟨o, ho, _⟩ := id p1; exact Heap.lt_size ho
      have lb : b < u.heap.objs.size := p2.lt
      refine call_zTL (xs := its.toArray) p1 p2.isList fun n g hn hz hTI hTO h1 h2 hk => wpAny_pyIter_zip hz ?_
      have I2 : Inv X pins σ H1 { u with heap := g } := I1.kept (t' := u.toks) hk
      have fr : ∀ c, c ∈ [n + 4, n + 2, n + 3, n, n + 1] → FpOk X pins H1 c := fun c hcm => by
        have five : c = n + 4 ∨ c = n + 2 ∨ c = n + 3 ∨ c = n ∨ c = n + 1 := by simpa using hcm
        have le : u.heap.objs.size ≤ c := by rw [← hn]; omega
        exact I1.fpOk le (I1.hok.fresh le)
      refine ⟨n + 4, [n + 4, n + 2, n + 3, n, n + 1], _, _, H1, rfl, I2, turn_TL (z := n + 4) (TI := n + 2) (TO := n + 3) (i1 := n) (i2 := n + 1) (five_at n) (six_at n) (five_out (by rw [hn]; exact la)) (five_out (by rw [hn]; exact lb)), ⟨hz, hTI, ⟨_, _, hTO⟩, h1, h2⟩, fr, q⟩
/-- a loop over it, both of one length -/
theorem for_TL {K : PySem.W.Frag} {a b : Addr} {xs ys : List V} {g : TG} {tb : TS} {D : Ends} {σ : L2.St} {H : Hp} (hl : xs.length = ys.length) (Inv0 : Nat → L2.St → Hp → Prop) (h0 : Inv0 0 σ H) (hq : ∀ i σ H, Inv0 i σ H → SqT K H a xs ∧ SqL K H b ys)
    (hs : ∀ (i : Nat) (x y : V) (T : Addr) (σ : L2.St) (H : Hp), xs[i]? = some x → ys[i]? = some y → Inv0 i σ H → H T = none → g (.ref T) σ (upd H T (.tup [x, y])) fun σ2 H2 => tb { D with nx := Inv0 (i + 1), ct := Inv0 (i + 1), bk := D.nx } σ2 H2) (hd : ∀ σ H, Inv0 xs.length σ H → D.nx σ H) :
    ∃ Z : Nat → Nat → L2.St → Hp → Prop, (∃ m, Z 0 m σ H) ∧ ∀ i m σ H, Z i m σ H →
      ((ItTL K a b).stop i H ∧ D.nx σ H) ∨ ((ItTL K a b).go i H ∧ ∃ N : L2.St → Hp → Prop, (∀ σ' H', N σ' H' → ∃ m', m' < m ∧ Z (i + 1) m' σ' H') ∧ ∀ v H', (ItTL K a b).yld i H v H' → g v σ H' fun σ2 H2 => tb { D with nx := N, ct := N, bk := D.nx } σ2 H2) := by
  refine ⟨fun i m σ H => m = xs.length - i ∧ i ≤ xs.length ∧ Inv0 i σ H, ⟨xs.length, rfl, Nat.zero_le _, h0⟩, ?_⟩
  rintro i m σ H ⟨rfl, hi, p⟩
  obtain ⟨qx, qy⟩ := hq i σ H p
  by_cases lt : i < xs.length
  · have lt2 : i < ys.length := by omega
    refine .inr ⟨⟨xs, ys, _, _, qx, qy, List.getElem?_eq_getElem lt, List.getElem?_eq_getElem lt2⟩, Inv0 (i + 1), fun σ' H' p' => ⟨xs.length - (i + 1), by omega, rfl, lt, p'⟩, fun v H' y => ?_⟩
    obtain ⟨T, u1, u2, rfl, nT, rfl, f1, f2⟩ := y
    exact hs i u1 u2 T σ H (f1 xs qx) (f2 ys qy) p nT
  · obtain rfl : i = xs.length := by omega
    exact .inl ⟨⟨xs, ys, qx, qy, .inl (Nat.le_refl _)⟩, hd σ H p⟩
/-! ### slices and sums of tuples, whichever way they come -/
theorem slA {K : PySem.W.Frag} {H : Hp} {a : Addr} {xs : List V} {lo hi : Option Int} {Q : VK} (h : SqT K H a xs) (q : ∀ H' r, Same H H' → SqT K H' r (cutV xs lo hi) → Q (.ref r) H') : rSlA K (.ref a) lo hi H Q := by
  refine ⟨a, xs, rfl, h, fun hw => q H a (Same.refl H) ?_, fun _ p np => q _ p (same_upd np) (.inl (.inl upd_same))⟩
  unfold cutV
  rw [hw.1, hw.2, List.drop_zero, Nat.sub_zero, List.take_length]
  exact h
theorem catA {K : PySem.W.Frag} {H : Hp} {a b : Addr} {xs ys : List V} {Q : VK} (ha : SqT K H a xs) (hb : SqT K H b ys) (hl : xs.length + ys.length ≤ sizeLine) (q : ∀ H' r, Same H H' → SqT K H' r (xs ++ ys) → Q (.ref r) H') : rCatA K (.ref a) (.ref b) H Q := by
  refine ⟨a, b, xs, ys, rfl, rfl, ha, hb, hl, fun e => q H b (Same.refl H) ?_, fun _ e => q H a (Same.refl H) ?_, fun _ _ p np => q _ p (same_upd np) (.inl (.inl upd_same))⟩
  · rw [e, List.nil_append]
    exact hb
  · rw [e, List.append_nil]
    exact ha
theorem cut_last (xs : List V) (v : V) : cutV (xs ++ [v]) (some (-1)) none = [v] := by
  have e : HT.sIx (xs ++ [v]).length 0 (some (-1)) = xs.length := by
    show (if (-1 : Int) < 0 then (-1 + ((xs ++ [v]).length : Int)).toNat else min (-1 : Int).toNat (xs ++ [v]).length) = xs.length
    rw [if_pos (by decide), List.length_append, List.length_singleton]
    omega
  unfold cutV
  rw [e, HT.sIx_none, List.drop_left, List.length_append, List.length_singleton, Nat.add_sub_cancel_left]
  rfl
theorem cut_init (xs : List V) (v : V) : cutV (xs ++ [v]) none (some (-1)) = xs := by
  have e : HT.sIx (xs ++ [v]).length (xs ++ [v]).length (some (-1)) = xs.length := by
    show (if (-1 : Int) < 0 then (-1 + ((xs ++ [v]).length : Int)).toNat else min (-1 : Int).toNat (xs ++ [v]).length) = xs.length
    rw [if_pos (by decide), List.length_append, List.length_singleton]
    omega
  unfold cutV
  rw [e, HT.sIx_none, List.drop_zero, Nat.sub_zero, List.take_left]
end TB

set_option Elab.async false
set_option linter.all false
set_option maxRecDepth 100000
namespace TB
open PySem PySem.Spec PyProof.Rows L2 HT

/-! ### t[::-1] of a tuple -/
theorem back_adjust (n : Nat) : Builtin.Slice.sliceAdjust none none (-1) (n : Int) = ((n : Int) - 1, -1) := by
  simp [Builtin.Slice.sliceAdjust]
theorem back_places (n : Nat) : Builtin.Slice.slicePlaces ((n : Int) - 1) (-1) (-1) = n := by
  have no : ¬ ((-1 : Int) > 0) := by decide
  simp only [Builtin.Slice.slicePlaces, no, if_false]
  by_cases c : (n : Int) - 1 > -1
  · rw [if_pos c, show (- -1 : Int) = 1 by decide, Int.ediv_one]
    omega
  · rw [if_neg c]
    omega
theorem fm_congr {α β : Type} {f g : α → Option β} : ∀ {l : List α}, (∀ a ∈ l, f a = g a) → l.filterMap f = l.filterMap g
  | [], _ => rfl
  | x :: l, h => by
    rw [List.filterMap_cons, List.filterMap_cons, h x List.mem_cons_self, fm_congr fun a ha => h a (List.mem_cons_of_mem _ ha)]
theorem back_pick (xs : Array Value) : ((List.range xs.size).filterMap fun (m : Nat) => xs[(((xs.size : Int) - 1) + (m : Int) * (-1)).toNat]?).toArray = xs.toList.reverse.toArray := by
  have e : (List.range xs.size).filterMap (fun (m : Nat) => xs[(((xs.size : Int) - 1) + (m : Int) * (-1)).toNat]?) = ((List.range xs.size).map fun m => xs.size - 1 - m).filterMap (xs[·]?) := by
    rw [List.filterMap_map]
    refine fm_congr fun m hm => ?_
    have : (((xs.size : Int) - 1) + (m : Int) * (-1)).toNat = xs.size - 1 - m := by
      have := List.mem_range.mp hm
      omega
    rw [this]
    rfl
  rw [e, PySem.W.krv_range, List.filterMap_reverse, PySem.W.krv_all]
section
variable {w : World} {prog : Program} {s : Shared} {A : Around} {E : Value → Shared → Prop}
theorem back_applied {sl : Addr} {vs : Value} {n : Nat} {Q : Int × Int × Nat → Shared → Prop} (hs : s.heap.IsSliceOf sl .none .none vs) (ps : IsPart vs (some (-1))) (h : Q ((n : Int) - 1, -1, n) s) :
    wpAny (model prog w) A (Builtin.Slice.sliceApplied (Value.ref sl) (pure (n : Int))) Q E s := by
  obtain ⟨o, ho, _, hd⟩ := id hs
  unfold Builtin.Slice.sliceApplied
  unfold Builtin.Slice.sliceFields
  refine wpAny_bind (wpAny_bind (wpAny_field ho hd (x := .none) rfl (wpAny_bind (wpAny_field ho hd (x := .none) rfl (wpAny_bind (wpAny_field ho hd (x := vs) rfl (wpAny_pure ?_)))))))
  apply wpAny_bind
  refine slicePart_ ps ?_
  show wpAny _ _ (if ((-1 : Int) == 0) = true then _ else _) _ _ s
  rw [if_neg (by decide)]
  apply wpAny_bind
  refine slicePart_ .none ?_
  apply wpAny_bind
  refine slicePart_ .none ?_
  apply wpAny_bind
  refine wpAny_pure ?_
  show wpAny _ _ (match Builtin.Slice.sliceAdjust none none (-1) (n : Int) with | (lo, hi) => pure (lo, (-1 : Int), Builtin.Slice.slicePlaces lo hi (-1))) _ _ s
  rw [back_adjust]
  show wpAny _ _ (pure ((n : Int) - 1, (-1 : Int), Builtin.Slice.slicePlaces ((n : Int) - 1) (-1) (-1))) _ _ s
  rw [back_places]
  exact wpAny_pure h
theorem back_item {t sl : Addr} {items : Array Value} {vs : Value} {Q : Value → Shared → Prop} (ht : IsTup s.heap t items) (hs : s.heap.IsSliceOf sl .none .none vs) (ps : IsPart vs (some (-1)))
    (h : Q (.ref s.heap.objs.size) { s with heap := s.heap.push { cls := .type "tuple", data := .seq items.toList.reverse.toArray } }) (hsz : items.size ≤ sizeLine) : wpAny (model prog w) A (getItem (.ref t) (.ref sl)) Q E s := by
  have fits : sizeOk (.seq items.toList.reverse.toArray) := by
    show items.toList.reverse.toArray.size ≤ sizeLine
    rw [List.size_toArray, List.length_reverse, Array.length_toList]
    exact hsz
  obtain ⟨o, ho, hc, hd⟩ := id hs
  have isS : s.TypeIs (.ref sl) "slice" := ⟨o, ho, hc⟩
  unfold getItem
  try with_reducible apply wpAny_holding
  try refine wpAny_bind (wpAny_pure ?_)
  apply wpAny_bind
  refine wpAny_sequenceKey ht.typeIs (by decide) ?_
  apply wpAny_bind
  refine wpAny_callSpecial?_slot (name := Str.ofString "__getitem__") ht.typeIs PyProof.Rows.slot_tuple_getitem (wpAny_call_entry PyProof.Rows.slot_tuple_getitem ht.typeIs entry_tuple_getitem ?_ (args_tuple_getitem _ _))
  show wpAny _ _ (Builtin.Tuple.tupleItemsOf (Value.ref t) >>= _) _ _ s
  apply wpAny_bind
  refine tupleItemsOf_ ht ?_
  apply wpAny_bind
  refine wpAny_typeOf isS ?_
  rw [if_pos (by decide)]
  apply wpAny_bind
  refine back_applied hs ps ?_
  show wpAny _ _ (if (((items.size : Int) - 1) == 0 && (-1 : Int) == 1 && items.size == items.size) = true then _ else _) _ _ s
  rw [if_neg (by simp), back_pick]
  first
    | exact wpAny_bind (m := Builtin.Tuple.tupleExact _) (wpAny_newObj_type (wpAny_pure ⟨_, rfl, wpAny_pure h⟩) fits)
    | exact wpAny_bind (m := Builtin.Tuple.tupleExact _) (wpAny_newObj_type (wpAny_bind (wpAny_pure (wpAny_pure ⟨_, rfl, wpAny_pure h⟩))) fits)
    | exact wpAny_bind (wpAny_bind (m := Builtin.Tuple.tupleExact _) (wpAny_newObj_type (wpAny_pure (wpAny_pure ⟨_, rfl, wpAny_pure h⟩)) fits))
    | exact wpAny_bind (wpAny_bind (m := Builtin.Tuple.tupleExact _) (wpAny_newObj_type (wpAny_pure ⟨_, rfl, wpAny_pure h⟩) fits))
end
def tRevT (K : PySem.W.Frag) (te : TE) : TE := fun σ H Q => te σ H fun x H1 => ∃ a xs, x = .ref a ∧ SqT K H1 a xs ∧ ∀ p, H1 p = none → Q (.ref p) (upd H1 p (.tup xs.reverse))
section
variable {X : Cx}
theorem pe_revT {e : Expr} {te : TE} {k : Nat} {p1 p2 p3 pos : Pos} (he : PE X e te) : PE X (.Subscript e (.Slice none none (some (.UnaryOp .USub (.Constant (.int 1) k p1) p2)) p3) pos) (tRevT X.K te) := by
  refine ⟨fun pins s0 σ H Q I h => ?_⟩
  refine Subscript_ (thn (he.run pins s0 σ H _ I h) fun v s1 ⟨x, H1, I1, r1, q1⟩ => ?_)
  obtain ⟨a, xs, rfl, hx, q⟩ := q1
  cases r1
  have step : PO X (some (.UnaryOp .USub (.Constant (.int 1) k p1) p2)) (tPart (tUn (rU fun i => .int (-i)) (tC (.int 1)))) := po_some (pe_un un_neg pe_int)
  refine wpAny_Slice (thn (po_none.run pins s1 σ H1 (fun o G => o = none ∧ G = H1) I1 ⟨rfl, rfl⟩) fun vl s2 ⟨l, G2, I2, pl, el, e2⟩ => ?_)
  subst el e2
  refine thn (po_none.run pins s2 σ G2 (fun o G => o = none ∧ G = G2) I2 ⟨rfl, rfl⟩) fun vu s3 ⟨u, G3, I3, pu, eu, e3⟩ => ?_
  subst eu e3
  refine thn (step.run pins s3 σ G3 (fun o G => o = some (-1) ∧ G = G3) I3 ⟨1, rfl, -1, rfl, rfl, rfl⟩) fun vs s4 ⟨o, G4, I4, ps, eo, e4⟩ => ?_
  subst eo e4
  cases pl
  cases pu
  have I5 : Inv X pins σ G4 { s4 with heap := s4.heap.push { cls := .type "slice", data := .fields #[.none, .none, vs] } } := I4.kept (t' := s4.toks) fun b ob z => Heap.get?_push_of_some _ z
  obtain ⟨its, r, ht, hz⟩ := I5.tuple hx
  have lens := r.length
  show wpAny (model X.prog X.w) X.A (subscriptTail e (.Slice none none (some (.UnaryOp .USub (.Constant (.int 1) k p1) p2)) p3) (.ref a) (.ref s4.heap.objs.size)) (EP X pins σ Q) X.xe { s4 with heap := s4.heap.push { cls := .type "slice", data := .fields #[.none, .none, vs] } }
  refine tail_any (ops := [.ref a, .ref s4.heap.objs.size]) ht.typeIs (PyProof.Rows.slot_tuple_getitem.lookup) ?_ (by with_unfolding_all rfl)
  refine back_item ht (Heap.IsSliceOf.new _ .none .none vs) ps ?_ (by rw [List.size_toArray]; omega)
  refine ⟨.ref _, _, I5.laid (t' := s4.toks) (o := .tup xs.reverse) (fun b ob z => Heap.get?_push_of_some _ z) (Nat.le_refl _) ?_, rfl, q _ (I5.hok.fresh (Nat.le_refl _))⟩
  exact ⟨by rw [List.length_reverse]; exact hz, its.reverse, r.reverse, ⟨_, Heap.get?_push_size _ rfl, rfl, 0, rfl⟩⟩
end
end TB

set_option Elab.async false
set_option linter.all false
set_option maxRecDepth 100000
set_option maxHeartbeats 1000000
namespace TB
open PySem PySem.Spec PyProof.Rows L2

/-! ### heaps without some places -/
def hid (F : List Addr) (H : Hp) : Hp := fun b => if b ∈ F then none else H b
theorem hid_at {F : List Addr} {H : Hp} {b : Addr} (n : b ∉ F) : hid F H b = H b := if_neg n
theorem hid_sub {F : List Addr} {H : Hp} : Same (hid F H) H := fun b o e => by
  unfold hid at e
  by_cases h : b ∈ F
  · rw [if_pos h] at e
    cases e
  · rw [if_neg h] at e
    exact e
theorem hid_mono {F : List Addr} {H H' : Hp} (k : ∀ b o, b ∉ F → H b = some o → H' b = some o) : Same (hid F H) (hid F H') := fun b o e => by
  unfold hid at e
  by_cases h : b ∈ F
  · rw [if_pos h] at e
    cases e
  · rw [if_neg h] at e
    rw [hid_at h]
    exact k b o h e
theorem hid_same {F : List Addr} {H H' : Hp} (s : Same H H') : Same (hid F H) (hid F H') := hid_mono fun b o _ e => s b o e
theorem hid_but {F : List Addr} {L : Addr} {H H' : Hp} (hL : L ∈ F) (k : But L H H') : Same (hid F H) (hid F H') := hid_mono fun b o nb e => k b o (fun z => nb (z ▸ hL)) e
theorem hid_upd {F : List Addr} {H : Hp} {W : Addr} {o : HO} (h : W ∈ F) : hid F (upd H W o) = hid F H := by
  funext b
  unfold hid
  by_cases c : b ∈ F
  · rw [if_pos c, if_pos c]
  · have ne : b ≠ W := fun z => c (z ▸ h)
    rw [if_neg c, if_neg c, upd_ne ne]
/-- the places that are hidden are taken -/
def Took (F : List Addr) (H : Hp) : Prop := ∀ f ∈ F, H f ≠ none
theorem Took.out {F : List Addr} {H : Hp} {p : Addr} (t : Took F H) (n : H p = none) : p ∉ F := fun z => t p z n
theorem Took.same {F : List Addr} {H H' : Hp} (t : Took F H) (s : Same H H') : Took F H' := fun f hf z => by
  cases e : H f with
  | none => exact t f hf e
  | some o =>
    rw [s f o e] at z
    cases z
theorem Took.but {F : List Addr} {L : Addr} {H H' : Hp} {zs : List V} (t : Took F H) (k : But L H H') (e : H' L = some (.lst zs)) : Took F H' := fun f hf z => t f hf (k.free e z)

/-! ### slices, sums of tuples, all outside the hidden places -/
section
variable {K : PySem.W.Frag} {F : List Addr} {H : Hp}
theorem slH {a : Addr} {xs : List V} {lo hi : Option Int} {Q : VK} (t : Took F H) (h : SqT K (hid F H) a xs) (q : ∀ H' r, Same H H' → SqT K (hid F H') r (cutV xs lo hi) → Q (.ref r) H') : rSlA K (.ref a) lo hi H Q := by
  refine ⟨a, xs, rfl, Same.tup hid_sub h, fun hw => q H a (Same.refl H) ?_, fun _ p np => q _ p (same_upd np) (.inl (.inl ?_))⟩
  · unfold cutV
    rw [hw.1, hw.2, List.drop_zero, Nat.sub_zero, List.take_length]
    exact h
  · rw [hid_at (t.out np)]
    exact upd_same
theorem catH {a b : Addr} {xs ys : List V} {Q : VK} (t : Took F H) (ha : SqT K (hid F H) a xs) (hb : SqT K (hid F H) b ys) (hl : xs.length + ys.length ≤ sizeLine) (q : ∀ H' r, Same H H' → SqT K (hid F H') r (xs ++ ys) → Q (.ref r) H') : rCatA K (.ref a) (.ref b) H Q := by
  refine ⟨a, b, xs, ys, rfl, rfl, Same.tup hid_sub ha, Same.tup hid_sub hb, hl, fun e => q H b (Same.refl H) ?_, fun _ e => q H a (Same.refl H) ?_, fun _ _ p np => q _ p (same_upd np) (.inl (.inl ?_))⟩
  · rw [e, List.nil_append]
    exact hb
  · rw [e, List.append_nil]
    exact ha
  · rw [hid_at (t.out np)]
    exact upd_same
theorem newT {p : Addr} {xs : List V} (t : Took F H) (n : H p = none) : SqT K (hid F (upd H p (.tup xs))) p xs := .inl (.inl (by
  rw [hid_at (t.out n)]
  exact upd_same))
theorem newL {p : Addr} {xs : List V} (t : Took F H) (n : H p = none) : SqL K (hid F (upd H p (.lst xs))) p xs := .inl (.inl (by
  rw [hid_at (t.out n)]
  exact upd_same))
end
/-! ### the data of slices -/
def cutD (ds : List PyData) (lo hi : Option Int) : List PyData := (ds.drop (HT.sIx ds.length 0 lo)).take (HT.sIx ds.length ds.length hi - HT.sIx ds.length 0 lo)
theorem cutD_mem {ds : List PyData} {lo hi : Option Int} {d : PyData} (h : d ∈ cutD ds lo hi) : d ∈ ds := List.mem_of_mem_drop (List.mem_of_mem_take h)
theorem cutD_len (ds : List PyData) (lo hi : Option Int) : (cutD ds lo hi).length ≤ ds.length := by
  unfold cutD
  rw [List.length_take, List.length_drop]
  omega
theorem DpAll.drop {K : PySem.W.Frag} {H : Hp} : ∀ {vs : List V} {ds : List PyData} (i : Nat), DpAll K H vs ds → DpAll K H (vs.drop i) (ds.drop i)
  | _, _, 0, h => h
  | _, _, _ + 1, .nil => .nil
  | _, _, i + 1, .cons _ t => DpAll.drop i t
theorem DpAll.take {K : PySem.W.Frag} {H : Hp} : ∀ {vs : List V} {ds : List PyData} (i : Nat), DpAll K H vs ds → DpAll K H (vs.take i) (ds.take i)
  | _, _, 0, _ => by
    rw [List.take_zero, List.take_zero]
    exact .nil
  | _, _, _ + 1, .nil => .nil
  | _, _, i + 1, .cons a t => .cons a (DpAll.take i t)
theorem DpAll.cut {K : PySem.W.Frag} {H : Hp} {vs : List V} {ds : List PyData} {lo hi : Option Int} (h : DpAll K H vs ds) : DpAll K H (cutV vs lo hi) (cutD ds lo hi) := by
  unfold cutV cutD
  rw [DpAll.len h]
  exact DpAll.take _ (DpAll.drop _ h)
theorem DpAll.app {K : PySem.W.Frag} {H : Hp} : ∀ {vs ws : List V} {ds es : List PyData}, DpAll K H vs ds → DpAll K H ws es → DpAll K H (vs ++ ws) (ds ++ es)
  | _, _, _, _, .nil, h => h
  | _, _, _, _, .cons a t, h => .cons a (DpAll.app t h)
theorem DpAll.rev {K : PySem.W.Frag} {H : Hp} : ∀ {vs : List V} {ds : List PyData}, DpAll K H vs ds → DpAll K H vs.reverse ds.reverse
  | _, _, .nil => .nil
  | _, _, .cons a t => by
    rw [List.reverse_cons, List.reverse_cons]
    exact DpAll.snoc a (DpAll.rev t)
/-- one of a list's things, by a place that was drawn -/
theorem pickD {K : PySem.W.Frag} {H : Hp} {us : List V} {ds : List PyData} {v : Int} (h : DpAll K H us ds) (h0 : 0 ≤ v) (h1 : v < us.length) : ∃ x d, atI us v = some x ∧ Dp K H x d ∧ d ∈ ds := by
  obtain ⟨j, rfl⟩ : ∃ j : Nat, v = (j : Int) := ⟨v.toNat, (Int.toNat_of_nonneg h0).symm⟩
  have hj : j < us.length := by omega
  obtain ⟨d, e, dx⟩ := DpAll.get h (List.getElem?_eq_getElem hj)
  exact ⟨us[j], d, atI_nat (List.getElem?_eq_getElem hj), dx, List.mem_of_getElem? e⟩
/-! ### things of this depth and width -/
def atom : PyData → Prop
  | .none => True
  | .bool _ => True
  | .int _ => True
  | .str z => PyData.strOk z = true
  | _ => False
def Gd (n : Nat) : Nat → PyData → Prop
  | 0, d => atom d
  | k + 1, d => atom d ∨ ∃ ds, (d = .tuple ds ∨ d = .list ds) ∧ ds.length ≤ n ∧ ∀ e ∈ ds, Gd n k e
theorem Gd.atom {n k : Nat} {d : PyData} (h : atom d) : Gd n k d := by
  cases k with
  | zero => exact h
  | succ k => exact .inl h
theorem Gd.mono {n m : Nat} (hn : n ≤ m) : ∀ {k l : Nat} {d : PyData}, k ≤ l → Gd n k d → Gd m l d
  | 0, _, _, _, h => Gd.atom h
  | k + 1, 0, _, h, _ => by omega
  | k + 1, l + 1, _, hk, .inl h => .inl h
  | k + 1, l + 1, _, hk, .inr ⟨ds, e, hl, h⟩ => .inr ⟨ds, e, Nat.le_trans hl hn, fun d hd => Gd.mono hn (Nat.le_of_succ_le_succ hk) (h d hd)⟩
theorem Gd.tup {n k : Nat} {ds : List PyData} (hl : ds.length ≤ n) (h : ∀ e ∈ ds, Gd n k e) : Gd n (k + 1) (.tuple ds) := .inr ⟨ds, .inl rfl, hl, h⟩
theorem Gd.lst {n k : Nat} {ds : List PyData} (hl : ds.length ≤ n) (h : ∀ e ∈ ds, Gd n k e) : Gd n (k + 1) (.list ds) := .inr ⟨ds, .inr rfl, hl, h⟩
theorem Gd.tup_inv {n k : Nat} {ds : List PyData} (h : Gd n k (.tuple ds)) : ∃ l, k = l + 1 ∧ ds.length ≤ n ∧ ∀ e ∈ ds, Gd n l e := by
  cases k with
  | zero => exact absurd h id
  | succ k =>
    rcases h with h | ⟨es, e | e, hl, h⟩
    · exact absurd h id
    · cases e
      exact ⟨k, rfl, hl, h⟩
    · cases e
theorem Gd.lays {n : Nat} : ∀ {k : Nat} {d : PyData}, Gd n k d → PyData.canLay0 d = true ∧ PyData.depth d ≤ k
  | k, d, h => by
    have at_ : ∀ {d : PyData}, TB.atom d → PyData.canLay0 d = true ∧ PyData.depth d = 0 := by
      intro d h
      cases d with
      | none => exact ⟨rfl, rfl⟩
      | bool b => exact ⟨rfl, rfl⟩
      | int i => exact ⟨rfl, rfl⟩
      | str z => exact ⟨h, rfl⟩
      | list ds => exact absurd h id
      | tuple ds => exact absurd h id
      | dict ds => exact absurd h id
    cases k with
    | zero =>
      obtain ⟨a, b⟩ := at_ h
      exact ⟨a, by omega⟩
    | succ k =>
      rcases h with h | ⟨ds, e, _, h⟩
      · obtain ⟨a, b⟩ := at_ h
        exact ⟨a, by omega⟩
      · have all : ∀ es : List PyData, (∀ e ∈ es, Gd n k e) → PyData.canLayAll0 es = true ∧ PyData.depthAll es ≤ k := by
          intro es
          induction es with
          | nil => exact fun _ => ⟨rfl, Nat.zero_le _⟩
          | cons e es ih =>
            intro he
            obtain ⟨a, b⟩ := ih fun x hx => he x (List.mem_cons_of_mem _ hx)
            obtain ⟨c, d⟩ := Gd.lays (he e List.mem_cons_self)
            refine ⟨by simp only [PyData.canLayAll0, a, c, Bool.and_self], ?_⟩
            simp only [PyData.depthAll]
            omega
        obtain ⟨a, b⟩ := all ds h
        rcases e with rfl | rfl
        · exact ⟨by simp only [PyData.canLay0, a], by simp only [PyData.depth]; omega⟩
        · exact ⟨by simp only [PyData.canLay0, a], by simp only [PyData.depth]; omega⟩
theorem Gd.shaped {n k : Nat} {d : PyData} (h : Gd n k d) (hk : k ≤ 60) : SeqAt.shaped d = true := by
  obtain ⟨a, b⟩ := h.lays
  unfold SeqAt.shaped
  rw [a, decide_eq_true (by omega)]
  rfl
theorem eqv_void : ∀ ds : List PyData, PyData.eqv (.tuple ds) (.tuple []) = decide (ds = [])
  | [] => by simp [PyData.eqv, PyData.eqvAll]
  | d :: ds => by simp [PyData.eqv, PyData.eqvAll]
/-! ### a statement, and what is known behind it -/
def tCut (t : TS) : TS := fun D σ H => ∃ R : L2.St → Hp → Prop, t { D with nx := R } σ H ∧ ∀ σ' H', R σ' H' → D.nx σ' H'
theorem ps_cut {X : Cx} {st : Stmt} {t : TS} (h : PS X st t) : PS X st (tCut t) := by
  refine ⟨fun pins s0 σ H D I hw => ?_⟩
  obtain ⟨R, a, b⟩ := hw
  refine thn (h.run pins s0 σ H _ I a) fun fl s1 z => ?_
  cases fl with
  | next =>
    obtain ⟨σ', H', I2, z⟩ := z
    exact ⟨σ', H', I2, b _ _ z⟩
  | brk => exact z
  | cont => exact z
  | ret v => exact z
end TB

set_option Elab.async false
set_option linter.all false
set_option maxRecDepth 100000
set_option maxHeartbeats 1000000
namespace TB
open PySem PySem.Spec PyProof.Rows L2

/-! ### enumerate(t), t a tuple -/
abbrev eT1 (h : Heap) (a : Addr) : Heap := h.push { cls := .type "tuple_iterator", data := .fields #[.ref a, .int 0 0] }
abbrev eT2 (h : Heap) (a : Addr) : Heap := (eT1 h a).push { cls := .type "enumerate", data := .fields #[.none, .bool false, .ref h.objs.size, rawInt 0, .none, .none] }
theorem enT_new (a : Addr) (xs : Array Value) (n : Nat) (dct : Option Addr) (sl : Array (Option Value)) :
    Meets (Builtin.«enumerate.__new__» ⟨[.type "enumerate", .ref a], []⟩) (fun _ R s => s.heap.get? a = some { cls := .type "tuple", dict := dct, data := .seq xs n, slots := sl } ∧ R (.ok (.ret (.ref (eT1 s.heap a).objs.size))) { s with heap := eT2 s.heap a }) :=
  .of_wp fun prog w A R st h => by
    obtain ⟨hp, g, d, tk, os⟩ := st
    obtain ⟨ha, h⟩ := h
    have sub := sub_enumerate
    have iA : Heap.IsTuple (Shared.heap ⟨hp, g, d, tk, os⟩) a xs := ⟨_, ha, rfl, n, rfl⟩
    wp_walk using AutoSeq1.wpAny_loadPart' ha
    refine wpAny_stack_any fun st => wpAny_pure ?_
    split
    · rename_i c _ _ _ _ _
      cases (c == Value.type "enumerate")
      · wp_walk using AutoSeq1.wpAny_loadPart' ha, wpAny_pyIter_tuple iA
        exact ⟨_, rfl, h⟩
      · wp_walk using AutoSeq1.wpAny_loadPart' ha, wpAny_pyIter_tuple iA
        exact ⟨_, rfl, h⟩
    · wp_walk using AutoSeq1.wpAny_loadPart' ha, wpAny_pyIter_tuple iA
      exact ⟨_, rfl, h⟩
section
variable {prog : Program} {w : World} {A : Around} {E : Value → Shared → Prop} {s : Shared}
theorem call_enT {a : Addr} {xs : Array Value} {Q : Value → Shared → Prop} (ha : s.heap.IsTuple a xs)
    (h : ∀ (n : Nat) (g : Heap), n = s.heap.objs.size → IsEnum g (n + 1) n 0 .none → g.IsTupleIter n a 0 → (∀ c o, s.heap.get? c = some o → g.get? c = some o) → Q (.ref (n + 1)) { s with heap := g }) :
    wpAny (model prog w) A (call (.type "enumerate") [.ref a]) Q E s := by
  obtain ⟨⟨c, dct, dt, sl⟩, ho, hc, n, hd⟩ := ha
  obtain rfl : c = .type "tuple" := hc
  obtain rfl : dt = .seq xs n := hd
  refine callType_new F.called_enumerate (by decide) (F.typeCall_enumerate_1 _) (F.newCall_enumerate_1 _) (fun ob => F.args_object_init_2 ob _) F.entry_enumerate_new (enT_new a xs n dct sl) ⟨ho, ?_⟩
  have e1 : (eT1 s.heap a).objs.size = s.heap.objs.size + 1 := Heap.size_push ..
  have g2 : (eT2 s.heap a).get? (eT1 s.heap a).objs.size = some _ := Heap.get?_push_size _ rfl
  have g1 : (eT2 s.heap a).get? s.heap.objs.size = some _ := Heap.get?_push_of_some _ (Heap.get?_push_size _ rfl)
  show _ ∧ _
  rw [e1] at g2
  rw [e1]
  exact ⟨⟨_, g2, rfl⟩, h _ _ rfl g2 ⟨_, g1, rfl, rfl⟩ fun c o z => Heap.get?_push_of_some _ (Heap.get?_push_of_some _ z)⟩
end
/-- a turn over it: a new pair of the place and the thing there -/
def ItET (K : PySem.W.Frag) (a : Addr) : It :=
  ⟨fun i H => ∃ (xs : List V) (x : V), SqT K H a xs ∧ xs[i]? = some x, fun i H v H' => ∃ T x, v = .ref T ∧ H T = none ∧ H' = upd H T (.tup [.int (i : Nat), x]) ∧ ∀ xs, SqT K H a xs → xs[i]? = some x, fun i H => ∃ xs : List V, SqT K H a xs ∧ xs.length ≤ i⟩
theorem turn_ET {P : Program} {w : World} {K : PySem.W.Frag} {elts : List Expr} {kk : Nat} {tpos : Pos} {a e it : Addr} (nei : e ≠ it) (na : a ≠ it) (nae : a ≠ e) :
    Turn P w K (.Tuple elts kk tpos) (ItET K a) [e, it] e (fun i h => (∃ old, IsEnum h e it ((i : Nat) : Int) old) ∧ h.IsTupleIter it a i) where
  mem := by simp
  obj := fun i h st b hb => by
    obtain ⟨⟨old, he⟩, ⟨o, ho, hc, hd⟩⟩ := st
    have two : b = e ∨ b = it := by simpa using hb
    rcases two with rfl | rfl
    · exact ⟨_, he, fun v q => nomatch q⟩
    · exact ⟨o, ho, fun v q => by rw [hd] at q; cases q⟩
  keep := fun i h h' st k => by
    obtain ⟨⟨old, he⟩, hi⟩ := st
    exact ⟨⟨old, k _ (by simp) _ he⟩, hi.at fun o q => k _ (by simp) o q⟩
  item := by
    intro X eP eW eK hc i pins s σ H E I hf st hg
    subst eP eW eK
    obtain ⟨⟨old, he⟩, hit⟩ := st
    obtain ⟨xs, x, hq, hx⟩ := hg
    obtain ⟨its, rv, p, hz⟩ := I.tuple hq
    obtain ⟨u, hu, ru⟩ := rv.get hx
    have el : e < s.heap.objs.size := Heap.lt_size he
    have il : it < s.heap.objs.size := by obtain ⟨_, q, _⟩ := hit; exact Heap.lt_size q
    have ilt : i < its.toArray.size := by
      rw [List.size_toArray]
      exact (List.getElem?_eq_some_iff.mp hu).1
    have D := Draws.tuple (prog := X.prog) (w := X.w) (A := X.A.in1) (I.ok.hd hc) it a na its.toArray
    refine wpAny_pyNext_enum_itemD D he ⟨hit, p⟩ ilt nei (by simp; exact ⟨nei, nae.symm⟩) fun y g tk hP ho st2 hT hsz hk => ?_
    have yu : y = u := by
      have z : some y = some u := by
        rw [← hu, ← hP]
        simp
      exact Option.some.inj z
    subst yu
    refine ⟨_, rfl, wpAny_letOwnedTupleGo_enum (s := { s with heap := g, toks := tk + 1 }) ho fun g2 he2 sb => ?_⟩
    have hT2 : g2.get? s.heap.objs.size = some { cls := .type "tuple", data := .seq #[.int i tk, y] } := (sb.2 _ (Nat.ne_of_gt el)).trans hT
    have new : ObjOk X.prog X.w (upd H s.heap.objs.size (.tup [.int (i : Nat), x])) g2 s.heap.objs.size (.tup [.int (i : Nat), x]) := ⟨by show 2 ≤ sizeLine; decide, [.int i tk, y], .cons ⟨_, rfl⟩ (.cons ru .nil), ⟨_, hT2, rfl, _, rfl⟩⟩
    have I1 : Inv X pins σ (upd H s.heap.objs.size (.tup [.int (i : Nat), x])) { s with heap := g2, toks := tk + 1 } := by
      refine I.turnedNew (ch := [e, it]) (fun b ob hb q => ?_) hf (Nat.le_refl _) new
      have n2 : b ≠ e ∧ b ≠ it := by simpa using hb
      exact (sb.2 b n2.1).trans (hk b ob n2.1 n2.2 q)
    refine ⟨.ref s.heap.objs.size, _, I1, rfl, ⟨_, x, rfl, I.hok.fresh (Nat.le_refl _), rfl, fun l hl => by rw [I.tuple_inj hl hq]; exact hx⟩, ⟨⟨y, ?_⟩, st2.1.at fun o q => (sb.2 it (Ne.symm nei)).trans q⟩, fun b hb => ?_⟩
    · have i1 : ((i + 1 : Nat) : Int) = (i : Int) + 1 := by omega
      rw [i1]
      exact he2
    · have two : b = e ∨ b = it := by simpa using hb
      have lt : b < s.heap.objs.size := by
        rcases two with rfl | rfl
        · exact el
        · exact il
      rw [upd_ne (Nat.ne_of_lt lt)]
      exact (hf b hb).1
  done := by
    intro X eP eW eK hc i pins s σ H E I hf st hg
    subst eP eW eK
    obtain ⟨⟨old, he⟩, hit⟩ := st
    obtain ⟨xs, hq, hx⟩ := hg
    obtain ⟨its, rv, p, hz⟩ := I.tuple hq
    have hl := rv.length
    obtain ⟨f0, f1, f2, f3, f4, f5⟩ := hf it (by simp)
    have hT : s.TypeIs (.ref e) "enumerate" := ⟨_, he, rfl⟩
    unfold pyNext
    refine wpAny_bind (wpAny_attempt (wpAny_callSpecial?_slot (name := Str.ofString "__next__") hT F.slot_enumerate_next (wpAny_call_entry F.slot_enumerate_next hT F.entry_enumerate_next ?_ (F.args_enumerate_next_1 _))))
    show wpAny _ _ (field (.ref e) 2 >>= _) _ _ _
    refine wpAny_bind (wpAny_field he rfl (x := .ref it) rfl ?_)
    refine wpAny_bind (wpAny_nextOf_tuple_end (A := X.A.in1) (I.ok.hd hc) hit p (by simp; omega) fun g ex eb hx' => ?_)
    obtain ⟨o, ho, hce⟩ := hx'
    refine wpAny_bind (wpAny_isInstance (T := "StopIteration") (b := true) ⟨o, ho, hce⟩ isSubtype_stop ?_)
    exact wpAny_pure ⟨rfl, I.turned (t' := s.toks) (fun b o hb q => eb b o hb q) f0 f1 f3 f4 f5⟩
  self := fun A i s Q E st h => by
    obtain ⟨⟨_, he⟩, _⟩ := st
    exact wpAny_pyIter_enum he h
def iET (K : PySem.W.Frag) (ta : TA) : TI := fun σ H R => ta σ H fun vs H1 => ∃ a xs, vs = [.ref a] ∧ SqT K H1 a xs ∧ R (ItET K a) H1
theorem pi_enumT {X : Cx} {e : Expr} {ta : TA} {p pos tpos : Pos} {elts : List Expr} {kk : Nat} (hg : Gl X "enumerate") (hm : X.mg "enumerate" = none) (ha : PA X [e] ta)
    (hs : starEach [e] X.env = [(false, eval e X.env)] := by rfl) : PI X (.Tuple elts kk tpos) (.Call (.Name "enumerate" p) [e] [] pos) (iET X.K ta) := by
  refine ⟨fun pins s0 σ H R I h => ?_⟩
  refine Call_ (ld_blt I hg hm boot_enumerate (PyProof.Rows.callWith_type1 (thn (ha.run pos pins s0 σ H _ I h) fun us u ⟨vs, H1, I1, r1, q1⟩ => ?_) hs rfl))
  obtain ⟨a, xs, rfl, hq, q⟩ := q1
  cases r1 with
  | cons r rr =>
    cases rr
    cases r
    obtain ⟨its, rv, p1, _⟩ := I1.tuple hq
    have la : a < u.heap.objs.size := by obtain ⟨o, ho, _⟩ := id p1; exact Heap.lt_size ho
    refine call_enT (xs := its.toArray) p1 fun n g hn he hi hk => wpAny_pyIter_enum he ?_
    have I2 : Inv X pins σ H1 { u with heap := g } := I1.kept (t' := u.toks) hk
    have fr : ∀ c, c ∈ [n + 1, n] → FpOk X pins H1 c := fun c hcm => by
      have two : c = n + 1 ∨ c = n := by simpa using hcm
      have le : u.heap.objs.size ≤ c := by rw [← hn]; omega
      exact I1.fpOk le (I1.hok.fresh le)
    exact ⟨n + 1, [n + 1, n], _, _, H1, rfl, I2, turn_ET (e := n + 1) (it := n) (Nat.succ_ne_self _) (by rw [hn]; exact Nat.ne_of_lt la) (by rw [hn]; exact Nat.ne_of_lt (Nat.lt_succ_of_lt la)), ⟨⟨.none, he⟩, hi⟩, fr, q⟩
section
variable {K : PySem.W.Frag} {a b : Addr} {xs ys : List V}
theorem walk_ET : Walk (ItET K a) xs.length (fun H => SqT K H a xs) (YPair (fun i => some (.int (i : Nat))) (fun i => xs[i]?)) := by
  refine ⟨fun i _ hi q => ⟨xs, xs[i], q, by simp [hi]⟩, fun _ q => ⟨xs, q, Nat.le_refl _⟩, fun i H x H' _ q y => ?_⟩
  obtain ⟨T, z, h1, h2, h3, h4⟩ := y
  exact ⟨T, _, z, h1, h2, h3, rfl, h4 xs q⟩
theorem walk_zT {n : Nat} (hn : n = min xs.length ys.length) : Walk (RZ.ItzT K a b) n (fun H => SqT K H a xs ∧ SqT K H b ys) (YPair (fun i => xs[i]?) (fun i => ys[i]?)) := by
  refine ⟨fun i H hi q => ?_, fun H q => ?_, fun i H x H' hi q y => ?_⟩
  · have h1 : i < xs.length := by omega
    have h2 : i < ys.length := by omega
    exact ⟨xs, ys, xs[i], ys[i], q.1, q.2, by simp [h1], by simp [h2]⟩
  · exact ⟨xs, ys, q.1, q.2, by omega⟩
  · obtain ⟨T, u, v, h1, h2, h3, h4, h5⟩ := y
    exact ⟨T, u, v, h1, h2, h3, h4 xs q.1, h5 ys q.2⟩
theorem walk_TL {n : Nat} (hn : n = min xs.length ys.length) : Walk (ItTL K a b) n (fun H => SqT K H a xs ∧ SqL K H b ys) (YPair (fun i => xs[i]?) (fun i => ys[i]?)) := by
  refine ⟨fun i H hi q => ?_, fun H q => ?_, fun i H x H' hi q y => ?_⟩
  · have h1 : i < xs.length := by omega
    have h2 : i < ys.length := by omega
    exact ⟨xs, ys, xs[i], ys[i], q.1, q.2, by simp [h1], by simp [h2]⟩
  · exact ⟨xs, ys, q.1, q.2, by omega⟩
  · obtain ⟨T, u, v, h1, h2, h3, h4, h5⟩ := y
    exact ⟨T, u, v, h1, h2, h3, h4 xs q.1, h5 ys q.2⟩
end
end TB

set_option Elab.async false
set_option linter.all false
set_option maxRecDepth 100000
set_option maxHeartbeats 1000000
namespace K09
open PySem PySem.Spec PyProof.Rows L2 TB

/-! ### the split, by numbers alone -/
def lows (t : Int) (ws : List Int) : List Int := ws.map fun w => t * w / ws.sum
def rsts (t : Int) (ws : List Int) : List Int := ws.map fun w => t * w - t * w / ws.sum * ws.sum
def leR (rs : List Int) (a b : Nat) : Bool := decide (rs.getD b 0 < rs.getD a 0 ∨ (rs.getD a 0 = rs.getD b 0 ∧ a ≤ b))
def ats (rs : List Int) : List Nat := (List.range rs.length).mergeSort (leR rs)
def bump (ls : List Int) (S : List Nat) : List Int := (List.range ls.length).map fun i => ls.getD i 0 + if i ∈ S then 1 else 0
def odd (t : Int) (ws : List Int) : Nat := (t - (lows t ws).sum).toNat
def parts (t : Int) (ws : List Int) : List Int := bump (lows t ws) ((ats (rsts t ws)).take (odd t ws))
structure OkW (t : Int) (ws : List Int) : Prop where
  t0 : 0 ≤ t
  t1 : t ≤ 1000000000000
  n0 : 0 < ws.length
  n1 : ws.length ≤ 12
  w0 : ∀ w ∈ ws, 0 ≤ w ∧ w ≤ 1000000000
  s0 : 0 < ws.sum
theorem leR_iff {rs : List Int} {a b : Nat} : leR rs a b = true ↔ (rs.getD b 0 < rs.getD a 0 ∨ (rs.getD a 0 = rs.getD b 0 ∧ a ≤ b)) := by
  unfold leR
  exact decide_eq_true_iff
theorem leR_tr (rs : List Int) (a b c : Nat) (h1 : leR rs a b = true) (h2 : leR rs b c = true) : leR rs a c = true := by
  rw [leR_iff] at *
  omega
theorem leR_tot (rs : List Int) (a b : Nat) : (leR rs a b || leR rs b a) = true := by
  rw [Bool.or_eq_true, leR_iff, leR_iff]
  omega
theorem leR_anti {rs : List Int} {a b : Nat} (h1 : leR rs a b = true) (h2 : leR rs b a = true) : a = b := by
  rw [leR_iff] at *
  omega
theorem ats_perm (rs : List Int) : (ats rs).Perm (List.range rs.length) := List.mergeSort_perm _ _
theorem ats_len (rs : List Int) : (ats rs).length = rs.length := by
  rw [(ats_perm rs).length_eq, List.length_range]
theorem ats_sorted (rs : List Int) : (ats rs).Pairwise fun a b => leR rs a b = true := List.pairwise_mergeSort (leR_tr rs) (leR_tot rs) _
theorem ats_eq {rs : List Int} {l : List Nat} (p : l.Perm (List.range rs.length)) (s : l.Pairwise fun a b => leR rs a b = true) : ats rs = l :=
  List.Perm.eq_of_pairwise (fun a b _ _ h1 h2 => leR_anti h1 h2) (ats_sorted rs) s ((ats_perm rs).trans p.symm)
theorem ats_nodup (rs : List Int) : (ats rs).Nodup := (ats_perm rs).symm.nodup List.nodup_range
theorem ats_lt {rs : List Int} {a : Nat} (h : a ∈ ats rs) : a < rs.length := List.mem_range.mp ((ats_perm rs).mem_iff.mp h)
theorem bump_len (ls : List Int) (S : List Nat) : (bump ls S).length = ls.length := by
  unfold bump
  rw [List.length_map, List.length_range]
theorem bump_get {ls : List Int} {S : List Nat} {i : Nat} (h : i < ls.length) : (bump ls S)[i]? = some (ls.getD i 0 + if i ∈ S then 1 else 0) := by
  unfold bump
  rw [List.getElem?_map, List.getElem?_range h]
  rfl
theorem getD_of {ls : List Int} {i : Nat} (h : i < ls.length) : ls[i]? = some (ls.getD i 0) := by
  rw [List.getElem?_eq_getElem h, List.getD_eq_getElem?_getD, List.getElem?_eq_getElem h]
  rfl
theorem bump_nil (ls : List Int) : bump ls [] = ls := by
  refine List.ext_getElem? fun i => ?_
  by_cases h : i < ls.length
  · rw [bump_get h, getD_of h]
    simp
  · rw [List.getElem?_eq_none (by rw [bump_len]; omega), List.getElem?_eq_none (by omega)]
theorem bump_more {ls : List Int} {S : List Nat} {a : Nat} (h : a < ls.length) (n : a ∉ S) : (bump ls S).set a (ls.getD a 0 + 1) = bump ls (S ++ [a]) := by
  refine List.ext_getElem? fun i => ?_
  rw [List.getElem?_set]
  by_cases e : a = i
  · subst e
    rw [if_pos rfl, if_pos (by rw [bump_len]; exact h), bump_get h, if_pos (by simp)]
  · rw [if_neg e]
    by_cases hi : i < ls.length
    · rw [bump_get hi, bump_get hi]
      have : (i ∈ S ++ [a]) ↔ i ∈ S := by
        simp
        exact fun z => absurd z.symm e
      simp only [this]
    · rw [List.getElem?_eq_none (by rw [bump_len]; omega), List.getElem?_eq_none (by rw [bump_len]; omega)]
theorem take_not {l : List Nat} (h : l.Nodup) {i a : Nat} (e : l[i]? = some a) : a ∉ l.take i := by
  intro hm
  obtain ⟨j, hj⟩ := List.mem_iff_getElem?.mp hm
  have hjl : j < (l.take i).length := (List.getElem?_eq_some_iff.mp hj).1
  rw [List.length_take] at hjl
  rw [List.getElem?_take, if_pos (by omega)] at hj
  have hjn : j < l.length := (List.getElem?_eq_some_iff.mp hj).1
  have := (List.getElem?_inj hjn h).mp (hj.trans e.symm)
  omega
/-- what is not among the first i comes behind the i-th -/
theorem ats_first {rs : List Int} {i a k : Nat} (e : (ats rs)[i]? = some a) (hk : k < rs.length) (n : k ∉ (ats rs).take i) : leR rs a k = true := by
  have km : k ∈ ats rs := (ats_perm rs).mem_iff.mpr (List.mem_range.mpr hk)
  obtain ⟨j, hj⟩ := List.mem_iff_getElem?.mp km
  have jl : j < (ats rs).length := (List.getElem?_eq_some_iff.mp hj).1
  have il : i < (ats rs).length := (List.getElem?_eq_some_iff.mp e).1
  have ij : i ≤ j := by
    refine Nat.le_of_not_lt fun z => n ?_
    refine List.mem_iff_getElem?.mpr ⟨j, ?_⟩
    rw [List.getElem?_take, if_pos z]
    exact hj
  by_cases c : i = j
  · subst c
    rw [Option.some.inj (e.symm.trans hj)]
    rw [leR_iff]
    omega
  · have p := List.pairwise_iff_getElem.mp (ats_sorted rs) i j il jl (by omega)
    rw [(List.getElem?_eq_some_iff.mp e).2, (List.getElem?_eq_some_iff.mp hj).2] at p
    exact p
/-! ### how many are odd -/
theorem sum_rst (t W : Int) : ∀ ws : List Int, (ws.map fun w => t * w - t * w / W * W).sum = t * ws.sum - (ws.map fun w => t * w / W).sum * W
  | [] => by simp
  | w :: ws => by
    rw [List.map_cons, List.sum_cons, List.map_cons, List.sum_cons, List.sum_cons, sum_rst t W ws, Int.mul_add, Int.add_mul]
    omega
theorem rst_mod (x W : Int) : x - x / W * W = x % W := by
  have := Int.emod_add_mul_ediv x W
  rw [Int.mul_comm] at this
  omega
theorem sum_mod (W : Int) (hW : 0 < W) (t : Int) : ∀ ws : List Int, 0 ≤ (ws.map fun w => t * w - t * w / W * W).sum ∧ (ws.map fun w => t * w - t * w / W * W).sum ≤ ws.length * (W - 1)
  | [] => by simp
  | w :: ws => by
    obtain ⟨a, b⟩ := sum_mod W hW t ws
    rw [List.map_cons, List.sum_cons, List.length_cons, rst_mod]
    have c := Int.emod_nonneg (t * w) (show W ≠ 0 by omega)
    have d := Int.emod_lt_of_pos (t * w) hW
    refine ⟨by omega, ?_⟩
    have : ((ws.length + 1 : Nat) : Int) * (W - 1) = ws.length * (W - 1) + (W - 1) := by
      push_cast
      rw [Int.add_mul, Int.one_mul]
    omega
theorem odd_at {t : Int} {ws : List Int} (h : OkW t ws) : (odd t ws : Int) = t - (lows t ws).sum ∧ odd t ws < ws.length := by
  have hW := h.s0
  obtain ⟨a, b⟩ := sum_mod ws.sum hW t ws
  rw [sum_rst] at a b
  have e : t * ws.sum - (ws.map fun w => t * w / ws.sum).sum * ws.sum = (t - (lows t ws).sum) * ws.sum := by
    unfold lows
    rw [Int.sub_mul]
  rw [e] at a b
  have d0 : 0 ≤ t - (lows t ws).sum := Int.le_of_not_gt fun z => by
    have := Int.mul_neg_of_neg_of_pos z hW
    omega
  have d1 : t - (lows t ws).sum < ws.length := Int.lt_of_not_ge fun z => by
    have m := Int.mul_le_mul_of_nonneg_right z (Int.le_of_lt hW)
    have n0 := h.n0
    have : (ws.length : Int) * (ws.sum - 1) = ws.length * ws.sum - ws.length := by rw [Int.mul_sub, Int.mul_one]
    omega
  unfold odd
  exact ⟨by omega, by omega⟩
theorem lows_len (t : Int) (ws : List Int) : (lows t ws).length = ws.length := List.length_map _
theorem rsts_len (t : Int) (ws : List Int) : (rsts t ws).length = ws.length := List.length_map _
theorem parts_len (t : Int) (ws : List Int) : (parts t ws).length = ws.length := by
  unfold parts
  rw [bump_len, lows_len]
theorem sum_ge : ∀ {ws : List Int} {w : Int}, (∀ w ∈ ws, 0 ≤ w) → w ∈ ws → 0 ≤ ws.sum ∧ w ≤ ws.sum
  | x :: ws, w, h, hm => by
    have x0 := h x List.mem_cons_self
    have s0 : 0 ≤ ws.sum := by
      clear hm
      induction ws with
      | nil => simp
      | cons y ys ih =>
        have := h y (by simp)
        have := ih fun z hz => h z (by
          rcases List.mem_cons.mp hz with r | r
          · simp [r]
          · simp [r])
        rw [List.sum_cons]
        omega
    rw [List.sum_cons]
    rcases List.mem_cons.mp hm with rfl | hm
    · omega
    · have := (sum_ge (fun z hz => h z (List.mem_cons_of_mem _ hz)) hm).2
      omega
theorem sum_le : ∀ {ws : List Int}, (∀ w ∈ ws, 0 ≤ w ∧ w ≤ 1000000000) → 0 ≤ ws.sum ∧ ws.sum ≤ 1000000000 * ws.length
  | [], _ => by simp
  | x :: ws, h => by
    have := h x List.mem_cons_self
    have := sum_le fun w hw => h w (List.mem_cons_of_mem _ hw)
    rw [List.sum_cons, List.length_cons]
    push_cast
    omega
theorem low_bound {t : Int} {ws : List Int} (h : OkW t ws) {w : Int} (hw : w ∈ ws) : 0 ≤ t * w / ws.sum ∧ t * w / ws.sum ≤ t := by
  obtain ⟨w0, w1⟩ := h.w0 w hw
  have ws0 := (sum_ge (fun z hz => (h.w0 z hz).1) hw).2
  have s0 := h.s0
  have t0 := h.t0
  refine ⟨Int.ediv_nonneg (Int.mul_nonneg t0 w0) (by omega), ?_⟩
  refine Int.le_of_lt_add_one ((Int.ediv_lt_iff_lt_mul s0).mpr ?_)
  have := Int.mul_le_mul_of_nonneg_left ws0 t0
  rw [Int.add_mul, Int.one_mul]
  omega
theorem rst_bound {t : Int} {ws : List Int} (h : OkW t ws) {r : Int} (hr : r ∈ rsts t ws) : 0 ≤ r ∧ r < 20000000000 := by
  obtain ⟨w, hw, rfl⟩ := List.mem_map.mp hr
  have s0 := h.s0
  obtain ⟨_, s1⟩ := sum_le h.w0
  have n1 := h.n1
  show 0 ≤ t * w - t * w / ws.sum * ws.sum ∧ t * w - t * w / ws.sum * ws.sum < _
  rw [rst_mod]
  exact ⟨Int.emod_nonneg _ (by omega), Int.lt_of_lt_of_le (Int.emod_lt_of_pos _ s0) (by omega)⟩
theorem part_bound {t : Int} {ws : List Int} (h : OkW t ws) {p : Int} (hp : p ∈ parts t ws) : 0 ≤ p ∧ p ≤ 1000000000001 := by
  unfold parts bump at hp
  obtain ⟨i, hi, rfl⟩ := List.mem_map.mp hp
  have hl := List.mem_range.mp hi
  have g := getD_of hl
  have m := List.mem_of_getElem? g
  unfold lows at m
  obtain ⟨w, hw, e⟩ := List.mem_map.mp m
  obtain ⟨a, b⟩ := low_bound h hw
  have t1 := h.t1
  unfold lows
  rw [← e]
  by_cases c : i ∈ List.take (odd t ws) (ats (rsts t ws))
  · rw [if_pos c]
    omega
  · rw [if_neg c]
    omega
theorem rst_get {t : Int} {ws : List Int} {i : Nat} {w : Int} (h : ws[i]? = some w) : (rsts t ws)[i]? = some (t * w - t * w / ws.sum * ws.sum) := by
  unfold rsts
  rw [List.getElem?_map, h]
  rfl
theorem low_get {t : Int} {ws : List Int} {i : Nat} {w : Int} (h : ws[i]? = some w) : (lows t ws)[i]? = some (t * w / ws.sum) := by
  unfold lows
  rw [List.getElem?_map, h]
  rfl
end K09

set_option Elab.async false
set_option linter.all false
set_option maxRecDepth 100000
set_option maxHeartbeats 1000000
namespace K09
open PySem PySem.Spec PyProof.Rows L2 TB

/-! ### the text -/
def topS (i : Nat) : Stmt := PySem.Challenge.pw_tablebills_k09_splits_told.main.body.getD i (.Pass ⟨0, 0, 0, 0⟩)
abbrev sCu : Stmt := topS 1
abbrev sRe : Stmt := topS 2
abbrev sSp : Stmt := topS 3
abbrev sFeed : Stmt := topS 5
abbrev sDraw : Stmt := topS 6
abbrev sWe : Stmt := topS 7
abbrev sTo : Stmt := topS 8
abbrev sPa : Stmt := topS 9
abbrev sRi : Stmt := topS 10
abbrev sHa : Stmt := topS 11
abbrev sLaw : Stmt := topS 12
theorem scFeed : FnScope ["_law_script"] ["_law_script"] (defScope sFeed) := ⟨rfl, rfl, rfl, by decide +kernel, rfl, by decide +kernel, by decide +kernel⟩
theorem scDraw : FnScope ["_law_feed_here", "_law_many", "_law_told", "_law_cell", "_law_turn", "_law_mixed"] ["_law_feed_here", "_law_many"] (defScope sDraw) := ⟨rfl, rfl, rfl, by decide +kernel, rfl, by decide +kernel, by decide +kernel⟩

/-! ### the feed: the script's numbers, a place, a rest, how many draws -/
structure Feed (H : Hp) (F S : Addr) (T : Int) : Prop where
  ex : ∃ (ns : List Int) (p r t : Int), H F = some (.lst [.ref S, .int p, .int r, .int t]) ∧ S ≠ F ∧ H S = some (.lst (ns.map V.int)) ∧ ns.length ≤ 1000 ∧ 0 ≤ p ∧ 0 ≤ r ∧ 0 ≤ t ∧ t ≤ T
theorem Feed.same {H H' : Hp} {F S : Addr} {T : Int} (e : Same H H') (h : Feed H F S T) : Feed H' F S T := by
  obtain ⟨ns, p, r, t, a, n, b, c⟩ := h.ex
  exact ⟨⟨ns, p, r, t, e _ _ a, n, e _ _ b, c⟩⟩
theorem Feed.there {H : Hp} {F S : Addr} {T : Int} (h : Feed H F S T) : ∃ zs, H F = some (.lst zs) := by
  obtain ⟨ns, p, r, t, a, _⟩ := h.ex
  exact ⟨_, a⟩
/-- a new place is neither the feed nor its numbers -/
theorem Feed.ne {H : Hp} {F S D : Addr} {T : Int} (h : Feed H F S T) (n : H D = none) : D ≠ F ∧ D ≠ S := by
  obtain ⟨ns, p, r, t, a, _, b, _⟩ := h.ex
  exact ⟨(ne_of_none a n).symm, (ne_of_none b n).symm⟩
theorem Feed.upd {H : Hp} {F S D : Addr} {T : Int} {o : HO} (h : Feed H F S T) (n : D ≠ F ∧ D ≠ S) : Feed (upd H D o) F S T := by
  obtain ⟨ns, p, r, t, a, k, b, c⟩ := h.ex
  exact ⟨⟨ns, p, r, t, by rw [upd_ne n.1.symm]; exact a, k, by rw [upd_ne n.2.symm]; exact b, c⟩⟩
theorem Feed.mono {H : Hp} {F S : Addr} {T T' : Int} (h : Feed H F S T) (l : T ≤ T') : Feed H F S T' := by
  obtain ⟨ns, p, r, t, a, n, b, c, d, e, f, g⟩ := h.ex
  exact ⟨⟨ns, p, r, t, a, n, b, c, d, e, f, by omega⟩⟩
section
variable {P : Program} {w : World} {K : PySem.W.Frag} {mg : Str → Option Value} {base : Heap}
/-! ### _law_feed -/
def spFeed (K : PySem.W.Frag) : Sp := fun vs H Q _ => ∃ (a : Addr) (ns : List Int), vs = [.ref a] ∧ SqL K H a (ns.map V.int) ∧ ns.length ≤ 1000 ∧
  ∀ H' F S, Same H H' → H F = none → Feed H' F S 0 → Q (.ref F) H'
theorem cutV_ints (ns : List Int) (lo hi : Option Int) : ∃ ms : List Int, cutV (ns.map V.int) lo hi = ms.map V.int ∧ ms.length ≤ ns.length := by
  unfold cutV
  refine ⟨(ns.drop (HT.sIx (ns.map V.int).length 0 lo)).take (HT.sIx (ns.map V.int).length (ns.map V.int).length hi - HT.sIx (ns.map V.int).length 0 lo), ?_, ?_⟩
  · rw [List.map_take, List.map_drop]
  · rw [List.length_take, List.length_drop]
    omega
theorem ok_feed {f : Addr} {fd : FuncData} {k : Nat} (F : Fun K "_law_feed" "_law_feed" sFeed f fd) : FnOk P w K mg base CX0 (k + 1) f fd ["_law_script"] (spFeed K) := by
  refine F.ok scFeed (fun vs H Q E h => ?_) (fun cdv A outer s H vs Q E hr h => ?_)
  · obtain ⟨a, ns, rfl, _⟩ := h
    rfl
  · obtain ⟨a, ns, rfl, hS, hl, q⟩ := h
    refine ⟨_, pss_one (ps_ret (pe_lst (pa_cons (pe_slice sl_list (pv 0) po_none (po_some pe_int)) (pa_cons pe_int (pa_cons pe_int (pa_cons pe_int pa_nil)))))), ?_⟩
    obtain ⟨ms, em, hm⟩ := cutV_ints ns none (some 63)
    refine ⟨.ref a, rfl, 63, rfl, a, _, rfl, hS, fun S nS => ⟨by show (4 : Nat) ≤ sizeLine; decide, fun L nL => ?_⟩⟩
    have s1 : Same H (upd H S (.lst (cutV (ns.map V.int) none (some 63)))) := same_upd nS
    have nSL : S ≠ L := fun e => by
      rw [← e, upd_same] at nL
      cases nL
    refine q _ L S (s1.trans (same_upd nL)) (s1.free nL) ⟨⟨ms, 0, 0, 0, upd_same, nSL, ?_, by omega, by omega, by omega, by omega, by omega⟩⟩
    rw [upd_ne nSL, upd_same, em]

/-! ### _law_draw -/
def spDraw : Sp := fun vs H Q _ => ∃ (F S : Addr) (m T : Int), vs = [.ref F, .int m] ∧ 0 < m ∧ m < 2 ^ 50 ∧ Feed H F S T ∧ T < 2 ^ 40 ∧
  ∀ H' v, But F H H' → Feed H' F S (T + 1) → 0 ≤ v → v < m → Q (.int v) H'
theorem eqv_nil : ∀ ns : List Int, PyData.eqv (.list (dInts ns)) (.list []) = decide (ns = [])
  | [] => by simp [dInts, PyData.eqv, PyData.eqvAll]
  | n :: ns => by simp [dInts, PyData.eqv, PyData.eqvAll]
theorem shaped_ints (ns : List Int) : SeqAt.shaped (.list (dInts ns)) = true := by
  have h : ∀ ms : List Int, PyData.canLayAll0 (dInts ms) = true ∧ PyData.depthAll (dInts ms) = 0 := by
    intro ms
    induction ms with
    | nil => exact ⟨rfl, rfl⟩
    | cons m ms ih => exact ⟨by simpa [dInts, PyData.canLayAll0, PyData.canLay0] using ih.1, by simpa [dInts, PyData.depthAll, PyData.depth] using ih.2⟩
  unfold SeqAt.shaped
  simp only [PyData.canLay0, PyData.depth, (h ns).1, (h ns).2]
  decide
theorem ok_draw {f : Addr} {fd : FuncData} {k : Nat} (F : Fun K "_law_draw" "_law_draw" sDraw f fd) (m_len : mg "len" = none) : FnOk P w K mg base CX0 (k + 1) f fd ["_law_feed_here", "_law_many"] spDraw := by
  refine F.ok scDraw (fun vs H Q E h => ?_) (fun cdv A outer s H vs Q E hr h => ?_)
  · obtain ⟨a, S, m, T, rfl, _⟩ := h
    rfl
  · obtain ⟨L, S, m, T, rfl, m0, m1, hF, hT, q⟩ := h
    refine ⟨_, (pss_cons (ps_augS (pv 0) pe_int get_list pe_int ip_add set_list)
      (pss_cons (ps_if (pt_cmpR op_gt (pe_ix ix_list (pv 0) pe_int (fun _ _ => rfl)) pe_int (nomark _)) (pss_cons (ps_set (i := 2) scDraw.nd rfl (.inl rfl) (pe_op op_mod (pe_ix ix_list (pv 0) pe_int (fun _ _ => rfl)) (pv 1)))
      (pss_cons (ps_asg (pe_op op_fdivW (pe_ix ix_list (pv 0) pe_int (fun _ _ => rfl)) (pv 1)) (pg_sub (pv 0) pe_int set_list))
      (pss_one (ps_ret (pv 2))))) pss_nil)
      (pss_cons (ps_set (i := 3) scDraw.nd rfl (.inl rfl) (pe_ifExp (pt_cmpR (op_eqD hr.units) (pe_ix ix_list (pv 0) pe_int (fun _ _ => rfl)) (pe_lst pa_nil) (nomark _)) pe_int (pe_ix ix_list (pe_ix ix_list (pv 0) pe_int (fun _ _ => rfl)) (pe_op op_mod (pe_ix ix_list (pv 0) pe_int (fun _ _ => rfl)) (pe_callB call_len_seq (by rfl) m_len (by decide +kernel) (pa_cons (pe_ix ix_list (pv 0) pe_int (fun _ _ => rfl)) pa_nil))) (fun _ _ => rfl))))
      (pss_cons (ps_augS (pv 0) pe_int get_list pe_int ip_add set_list)
      (pss_cons (ps_if (PW.pt (pw_and (pt_cmpR op_ge (pv 3) (pe_op op_pow pe_int pe_int) (nomark _)) (pw_and1 (pt_cmpR op_le (pe_ix ix_list (pv 0) pe_int (fun _ _ => rfl)) (pe_callB call_len_seq (by rfl) m_len (by decide +kernel) (pa_cons (pe_ix ix_list (pv 0) pe_int (fun _ _ => rfl)) pa_nil)) (nomark _))))) (pss_cons (ps_asg (pe_op op_fdivW (pv 3) (pv 1)) (pg_sub (pv 0) pe_int set_list))
      (pss_one (ps_ret (pe_op op_mod (pv 3) (pv 1))))) pss_nil)
      (pss_cons (ps_set (i := 4) scDraw.nd rfl (.inl rfl) (pe_ix ix_list (pv 0) pe_int (fun _ _ => rfl)))
      (pss_cons (ps_set (i := 5) scDraw.nd rfl (.inl rfl) (pe_op op_mod (pe_op op_add (pe_op op_add (pe_op op_mod (pv 3) pe_int) (pe_op op_mul (pe_op op_mul pe_int (pv 4)) (pv 4))) (pe_op op_mul pe_int (pv 4))) pe_int))
      (pss_cons (ps_set (i := 5) scDraw.nd rfl (.inl rfl) (pe_op op_mod (pe_op op_add (pe_op op_mul (pv 5) (pv 5)) (pe_op op_mul pe_int (pv 4))) pe_int))
      (pss_cons (ps_set (i := 5) scDraw.nd rfl (.inl rfl) (pe_op op_mod (pe_op op_add (pe_op op_mul (pv 5) (pv 5)) (pe_op op_mul pe_int (pv 4))) pe_int))
      (pss_one (ps_ret (pe_op op_mod (pe_op op_fdivW (pe_op op_mod (pe_op op_add (pe_op op_mul (pv 5) (pv 5)) (pv 4)) pe_int) pe_int) (pv 1))))))))))))), ?_⟩
    obtain ⟨ns, p, r, t, eF, nSF, hS, hn, p0, r0, t0, tT⟩ := hF.ex
    -- feed[3] += 1
    refine ⟨.ref L, rfl, L, _, 3, _, rfl, rfl, .inl (.inl eF), rfl, _, _, rfl, rfl, L, _, 3, 3, rfl, rfl, eF, rfl, ?_⟩
    generalize hH1 : upd H L (.lst (List.set [V.ref S, V.int p, V.int r, V.int t] 3 (V.int ((fun i j => i + j) t 1)))) = H1
    have e1 : H1 L = some (.lst [.ref S, .int p, .int r, .int (t + 1)]) := by
      rw [← hH1]
      exact upd_same
    have b1 : But L H H1 := by
      rw [← hH1]
      exact But.upd
    clear hH1
    have hS1 := b1 _ _ nSF hS
    have back : ∀ (H2 : Hp) (p' r' : Int) (v : Int), But L H H2 → H2 S = some (.lst (ns.map V.int)) → H2 L = some (.lst [.ref S, .int p', .int r', .int (t + 1)]) → 0 ≤ p' → 0 ≤ r' → 0 ≤ v → v < m → Q (.int v) H2 :=
      fun H2 p' r' v a hs b c d x y => q H2 v a ⟨⟨ns, p', r', t + 1, b, nSF, hs, hn, c, d, by omega, by omega⟩⟩ x y
    -- if feed[2] > 0
    refine ⟨.ref L, rfl, L, _, 2, _, rfl, rfl, .inl (.inl e1), atI_nat (j := 2) rfl, _, _, rfl, rfl, _, rfl, ite2 (fun c => ?_) (fun c => ?_)⟩
    · refine ⟨.ref L, rfl, L, _, 2, _, rfl, rfl, .inl (.inl e1), atI_nat (j := 2) rfl, _, rfl, r, m, rfl, rfl, m0, ?_⟩
      refine ⟨.ref L, rfl, L, _, 2, _, rfl, rfl, .inl (.inl e1), atI_nat (j := 2) rfl, _, rfl, r, m, rfl, rfl, wide_div (b := 60) m0 (by omega) (by omega) (by omega), ?_⟩
      refine ⟨.ref L, rfl, L, _, 2, 2, rfl, rfl, e1, rfl, ?_⟩
      have b2 : But L H1 (upd H1 L (.lst [.ref S, .int p, .int (r / m), .int (t + 1)])) := But.upd
      refine ⟨_, rfl, ?_⟩
      exact back _ p (r / m) (r % m) (b1.trans b2) (b2 _ _ nSF hS1) upd_same p0 (Int.ediv_nonneg r0 (by omega)) (Int.emod_nonneg _ (by omega)) (Int.emod_lt_of_pos _ m0)
    · -- the cell
      refine ⟨.ref L, rfl, L, _, 0, _, rfl, rfl, .inl (.inl e1), atI_nat (j := 0) rfl, Nat.zero_le _, fun z nz => ?_⟩
      have sz : Same H1 (upd H1 z (.lst [])) := same_upd nz
      generalize hH2 : upd H1 z (.lst []) = H2 at sz
      have ez : H2 z = some (.lst []) := by
        rw [← hH2]
        exact upd_same
      have b2 : But L H H2 := b1.same sz
      have e2 := sz _ _ e1
      have hS2 := sz _ _ hS1
      clear hH2
      refine ⟨.list (dInts ns), .list [], .lst (.inl (.inl hS2)) (dp_ints ns), .lst (.inl (.inl ez)) .nil, shaped_ints ns, rfl, _, rfl, ?_⟩
      rw [eqv_nil]
      refine ite2 (fun c => ?_) (fun c => ?_)
      rotate_left
      have hne : 0 < (ns.map V.int).length := by
        cases ns with
        | nil => exact absurd rfl c
        | cons x xs => simp
      have i0 := Int.emod_nonneg p (show ((ns.map V.int).length : Int) ≠ 0 by omega)
      have i1 := Int.emod_lt_of_pos p (show (0 : Int) < (ns.map V.int).length by omega)
      obtain ⟨j, hj⟩ : ∃ j : Nat, p % ((ns.map V.int).length : Int) = (j : Int) := ⟨_, (Int.toNat_of_nonneg i0).symm⟩
      have hjl : j < ns.length := by
        rw [hj, List.length_map] at i1
        omega
      have gj : (ns.map V.int)[j]? = some (.int ns[j]) := by
        rw [List.getElem?_map, List.getElem?_eq_getElem hjl]
        rfl
      refine ⟨.ref L, rfl, L, _, 0, _, rfl, rfl, .inl (.inl e2), atI_nat (j := 0) rfl, .ref L, rfl, L, _, 1, _, rfl, rfl, .inl (.inl e2), atI_nat (j := 1) rfl, .ref L, rfl, L, _, 0, _, rfl, rfl, .inl (.inl e2), atI_nat (j := 0) rfl, S, _, rfl, .inl (.inl (.inl hS2)), p, _, rfl, rfl, by omega, S, _, _, _, rfl, rfl, .inl (.inl hS2), (by rw [hj]; exact atI_nat gj), ?_⟩
      all_goals
        -- feed[1] += 1
        refine ⟨.ref L, rfl, L, _, 1, _, rfl, rfl, .inl (.inl e2), rfl, _, _, rfl, rfl, L, _, 1, 1, rfl, rfl, e2, rfl, ?_⟩
        generalize hH3 : upd H2 L (.lst (List.set [V.ref S, V.int p, V.int r, V.int (t + 1)] 1 (V.int ((fun i j => i + j) p 1)))) = H3
        have e3 : H3 L = some (.lst [.ref S, .int (p + 1), .int r, .int (t + 1)]) := by
          rw [← hH3]
          exact upd_same
        have b23 : But L H2 H3 := by
          rw [← hH3]
          exact But.upd
        have b3 := b2.trans b23
        have hS3 := b23 _ _ nSF hS2
        clear hH3
        have back3 : ∀ r' v : Int, 0 ≤ r' → 0 ≤ v → v < m → Q (.int v) (upd H3 L (.lst [.ref S, .int (p + 1), .int r', .int (t + 1)])) := fun r' v x y z =>
          have b34 : But L H3 (upd H3 L (.lst [.ref S, .int (p + 1), .int r', .int (t + 1)])) := But.upd
          back _ (p + 1) r' v (b3.trans b34) (b34 _ _ nSF hS3) upd_same (by omega) x y z
        -- if cell >= 10 ** 18 and ..
        refine ⟨_, rfl, _, _, rfl, rfl, ⟨by decide, by decide, by decide⟩, _, _, rfl, rfl, _, rfl, ite2 (fun c1 => ?_) (fun c1 => ?_)⟩
        · refine ⟨.ref L, rfl, L, _, 1, _, rfl, rfl, .inl (.inl e3), atI_nat (j := 1) rfl, .ref L, rfl, L, _, 0, _, rfl, rfl, .inl (.inl e3), atI_nat (j := 0) rfl, S, _, rfl, .inl (.inl (.inl hS3)), _, _, rfl, rfl, _, rfl, ite2 (fun c2 => ?_) (fun c2 => ?_)⟩
          · refine ⟨_, rfl, _, rfl, _, _, rfl, rfl, wide_div (b := 60) m0 (by omega) (by omega) (by omega), .ref L, rfl, L, _, 2, 2, rfl, rfl, e3, rfl, ?_⟩
            refine ⟨_, rfl, _, rfl, _, _, rfl, rfl, m0, ?_⟩
            exact back3 _ _ (Int.ediv_nonneg (Int.le_trans (by decide) (of_decide_eq_true c1)) (by omega)) (Int.emod_nonneg _ (by omega)) (Int.emod_lt_of_pos _ m0)
          · refine ⟨.ref L, rfl, L, _, 3, _, rfl, rfl, .inl (.inl e3), atI_nat (j := 3) rfl, ?_⟩
            refine ⟨_, rfl, _, _, rfl, rfl, (by show (0 : Int) < _; decide), _, rfl, _, _, rfl, rfl, .inl ⟨by decide, by decide⟩, _, rfl, _, _, rfl, rfl, .inr ⟨by omega, by omega⟩, _, _, rfl, rfl, _, rfl, _, _, rfl, rfl, .inl ⟨by decide, by decide⟩, _, _, rfl, rfl, _, _, rfl, rfl, (by show (0 : Int) < _; decide), ?_⟩
            refine ⟨_, rfl, _, rfl, _, _, rfl, rfl, .inl ⟨by omega, by omega⟩, _, rfl, _, _, rfl, rfl, .inl ⟨by decide, by decide⟩, _, _, rfl, rfl, _, _, rfl, rfl, (by show (0 : Int) < _; decide), ?_⟩
            refine ⟨_, rfl, _, rfl, _, _, rfl, rfl, .inl ⟨by omega, by omega⟩, _, rfl, _, _, rfl, rfl, .inl ⟨by decide, by decide⟩, _, _, rfl, rfl, _, _, rfl, rfl, (by show (0 : Int) < _; decide), ?_⟩
            refine ⟨_, rfl, _, rfl, _, _, rfl, rfl, .inl ⟨by omega, by omega⟩, _, rfl, _, _, rfl, rfl, _, _, rfl, rfl, (by show (0 : Int) < _; decide), _, _, rfl, rfl, wide_div (b := 60) (by decide) (by decide) (by omega) (by omega), _, rfl, _, _, rfl, rfl, m0, ?_⟩
            exact back H3 (p + 1) r _ b3 hS3 e3 (by omega) r0 (Int.emod_nonneg _ (by omega)) (Int.emod_lt_of_pos _ m0)
        · refine ⟨.ref L, rfl, L, _, 3, _, rfl, rfl, .inl (.inl e3), atI_nat (j := 3) rfl, ?_⟩
          refine ⟨_, rfl, _, _, rfl, rfl, (by show (0 : Int) < _; decide), _, rfl, _, _, rfl, rfl, .inl ⟨by decide, by decide⟩, _, rfl, _, _, rfl, rfl, .inr ⟨by omega, by omega⟩, _, _, rfl, rfl, _, rfl, _, _, rfl, rfl, .inl ⟨by decide, by decide⟩, _, _, rfl, rfl, _, _, rfl, rfl, (by show (0 : Int) < _; decide), ?_⟩
          refine ⟨_, rfl, _, rfl, _, _, rfl, rfl, .inl ⟨by omega, by omega⟩, _, rfl, _, _, rfl, rfl, .inl ⟨by decide, by decide⟩, _, _, rfl, rfl, _, _, rfl, rfl, (by show (0 : Int) < _; decide), ?_⟩
          refine ⟨_, rfl, _, rfl, _, _, rfl, rfl, .inl ⟨by omega, by omega⟩, _, rfl, _, _, rfl, rfl, .inl ⟨by decide, by decide⟩, _, _, rfl, rfl, _, _, rfl, rfl, (by show (0 : Int) < _; decide), ?_⟩
          refine ⟨_, rfl, _, rfl, _, _, rfl, rfl, .inl ⟨by omega, by omega⟩, _, rfl, _, _, rfl, rfl, _, _, rfl, rfl, (by show (0 : Int) < _; decide), _, _, rfl, rfl, wide_div (b := 60) (by decide) (by decide) (by omega) (by omega), _, rfl, _, _, rfl, rfl, m0, ?_⟩
          exact back H3 (p + 1) r _ b3 hS3 e3 (by omega) r0 (Int.emod_nonneg _ (by omega)) (Int.emod_lt_of_pos _ m0)
end
theorem scCu : FnScope ["total", "weights", "whole", "weight"] ["total", "weights"] (defScope sCu) := ⟨rfl, rfl, rfl, by decide +kernel, rfl, by decide +kernel, by decide +kernel⟩
theorem scRe : FnScope ["total", "weights", "whole", "weight", "cut"] ["total", "weights"] (defScope sRe) := ⟨rfl, rfl, rfl, by decide +kernel, rfl, by decide +kernel, by decide +kernel⟩
theorem map_int {ns : List Int} {i : Nat} {x : V} (h : (ns.map V.int)[i]? = some x) : ∃ n, ns[i]? = some n ∧ x = .int n := map_get h
section
variable {P : Program} {w : World} {K : PySem.W.Frag} {mg : Str → Option Value} {base : Heap}
/-! ### cuts, rests -/
def spL (K : PySem.W.Frag) (g : Int → List Int → List Int) : Sp := fun vs H Q _ => ∃ (a : Addr) (t : Int) (ws : List Int), vs = [.int t, .ref a] ∧ SqT K H a (ws.map V.int) ∧ OkW t ws ∧
  ∀ H' r, Same H H' → H r = none → H' r = some (.tup ((g t ws).map V.int)) → Q (.ref r) H'
theorem mul_ok {t w : Int} {ws : List Int} (h : OkW t ws) : -(2 ^ 64) < t ∧ t < 2 ^ 64 := ⟨by have := h.t0; omega, by have := h.t1; omega⟩
theorem sum_ok {t : Int} {ws : List Int} (h : OkW t ws) : ws.sum.natAbs < 2 ^ 60 := by
  have := sum_le h.w0
  have := h.n1
  omega
theorem ok_cu {f : Addr} {fd : FuncData} {k : Nat} (F : Fun K "cuts" "cuts" sCu f fd) (m_sum : mg "sum" = none) (m_tuple : mg "tuple" = none) : FnOk P w K mg base CX0 (k + 1) f fd ["total", "weights"] (spL K lows) := by
  refine F.ok scCu (fun vs H Q E h => ?_) (fun cdv A outer s H vs Q E hr h => ?_)
  · obtain ⟨a, t, ws, rfl, _⟩ := h
    rfl
  · obtain ⟨a, t, ws, rfl, hA, ok, q⟩ := h
    refine ⟨_, (pss_cons (ps_set (i := 2) scCu.nd rfl (.inr rfl) (pe_callB (call_sumT rfl) (by rfl) m_sum (by decide +kernel) (pa_cons (pv 1) pa_nil)))
      (pss_one (ps_ret (pe_callTy call_tuple_of (by rfl) m_tuple (by decide +kernel) (pa_cons (pe_lc (own := [("weight", 3)]) (g := gName 3) (tt := tYes) rfl scCu.nd (pi_tup (pv 1)) (blkOk_by (own := [("weight", 3)]) (N := ["total", "weights", "whole", "weight"]) (sc := defScope sCu) (by decide +kernel)) (fun _ _ _ _ _ => (pg_name (i := 3) scCu.nd rfl (.inl rfl))) (fun _ _ _ _ _ => pts_nil) (fun _ _ _ _ _ => (pe_op op_fdivW (pe_op op_mul (pv 0) (pv 3)) (pv 2)))) pa_nil))))), ?_⟩
    refine ⟨_, rfl, a, ws, rfl, hA, ?_⟩
    refine ⟨_, rfl, a, rfl, ⟨_, hA⟩, fun D nD => ?_⟩
    refine lc_tup (xs := ws.map V.int) (fun i H1 => Same H H1 ∧ H1 D = some (.lst (((ws.take i).map fun w => t * w / ws.sum).map V.int))) ⟨same_upd nD, upd_same⟩ ?_ ?_ ?_
    · rintro i H1 _ ⟨sm, _⟩
      exact TB.Same.tup sm hA
    · rintro i x H1 hx ⟨sm, eD⟩
      obtain ⟨w, hw, rfl⟩ := map_int hx
      refine ⟨rfl, yes (iteT ?_)⟩
      refine ⟨_, rfl, _, rfl, _, _, rfl, rfl, .inl (mul_ok (w := w) ok), _, rfl, _, _, rfl, rfl, wide_div (b := 60) ok.s0 (sum_ok ok) (by omega) (by omega), ?_⟩
      refine ⟨_, eD, ?_, same_new nD sm, ?_⟩
      · rw [List.length_map, List.length_map]
        have := List.length_take_le' i ws
        have := ok.n1
        exact small1000 (by omega)
      · rw [upd_same, map_take_more hw, List.map_append]
        rfl
    · rintro H1 ⟨sm, eD⟩
      rw [List.length_map, List.take_length] at eD
      exact ⟨D, _, rfl, .inl ⟨.inl (.inl eD), fun r nr => q _ r (sm.trans (same_upd nr)) (sm.free nr) upd_same⟩⟩
theorem ok_re {f fC : Addr} {fd fdC : FuncData} (F : Fun K "rests" "rests" sRe f fd)
    (GC : FnOk P w K mg base CX0 1 fC fdC ["total", "weights"] (spL K lows)) (kC : PySem.W.keepIn K (.ref fC) = true) (bC : Binds K fdC ["total", "weights"] []) (gC : mg "cuts" = some (.ref fC))
    (m_sum : mg "sum" = none) (m_tuple : mg "tuple" = none) (m_zip : mg "zip" = none) : FnOk P w K mg base CX0 2 f fd ["total", "weights"] (spL K rsts) := by
  refine F.ok scRe (fun vs H Q E h => ?_) (fun cdv A outer s H vs Q E hr h => ?_)
  · obtain ⟨a, t, ws, rfl, _⟩ := h
    rfl
  · obtain ⟨a, t, ws, rfl, hA, ok, q⟩ := h
    refine ⟨_, (pss_cons (ps_set (i := 2) scRe.nd rfl (.inr rfl) (pe_callB (call_sumT rfl) (by rfl) m_sum (by decide +kernel) (pa_cons (pv 1) pa_nil)))
      (pss_one (ps_ret (pe_callTy call_tuple_of (by rfl) m_tuple (by decide +kernel) (pa_cons (pe_lc (own := [("weight", 3), ("cut", 4)]) (g := gTup K 2 (gCons (gName 3) (gCons (gName 4) gNil))) (tt := tYes) rfl scRe.nd (RZ.pi_zipA (by rfl) m_zip (pa_cons (pv 1) (pa_cons (pe_call GC (hr.mono (by decide)) (by rfl) gC kC bC .nil pass0 (pa_cons (pv 0) (pa_cons (pv 1) pa_nil))) pa_nil))) (blkOk_by (own := [("weight", 3), ("cut", 4)]) (N := ["total", "weights", "whole", "weight", "cut"]) (sc := defScope sRe) (by decide +kernel)) (fun _ _ _ _ _ => (pg_tup rfl (pgs_cons (pg_name (i := 3) scRe.nd rfl (.inl rfl)) (pgs_cons (pg_name (i := 4) scRe.nd rfl (.inl rfl)) pgs_nil)))) (fun _ _ _ _ _ => pts_nil) (fun _ _ _ _ _ => (pe_op op_sub (pe_op op_mul (pv 0) (pv 3)) (pe_op op_mul (pv 4) (pv 2))))) pa_nil))))), ?_⟩
    refine ⟨_, rfl, a, ws, rfl, hA, ?_⟩
    refine ⟨_, rfl, _, rfl, _, rfl, a, t, ws, rfl, hA, ok, fun H1 r s1 nr er => ?_⟩
    refine ⟨a, r, _, _, rfl, .inr ⟨TB.Same.tup s1 hA, .inl (.inl er), fun D nD => ?_⟩⟩
    have ll := lows_len t ws
    refine lc_it (walk_zT (xs := ws.map V.int) (ys := (lows t ws).map V.int) (n := ws.length) (by rw [List.length_map, List.length_map, ll]; omega)) (fun i H2 => Same H1 H2 ∧ H2 D = some (.lst (((ws.take i).map fun w => t * w - t * w / ws.sum * ws.sum).map V.int))) ⟨same_upd nD, upd_same⟩ ?_ ?_ ?_
    · rintro i H2 _ ⟨sm, _⟩
      exact ⟨TB.Same.tup (s1.trans sm) hA, .inl (.inl (sm _ _ er))⟩
    · rintro i x H2 H3 hi ⟨sm, eD⟩ ⟨T, u, v, rfl, nT, rfl, hu, hv⟩
      obtain ⟨w, hw, rfl⟩ := map_int hu
      obtain ⟨c, hc, rfl⟩ := map_int hv
      obtain rfl := Option.some.inj ((low_get hw).symm.trans hc)
      have lb := low_bound ok (List.mem_of_getElem? hw)
      have t1 := ok.t1
      refine ⟨T, _, rfl, .inl (.inl upd_same), rfl, _, _, rfl, _, _, rfl, rfl, rfl, yes (iteT ?_)⟩
      refine ⟨_, rfl, _, rfl, _, _, rfl, rfl, .inl (mul_ok (w := w) ok), _, rfl, _, rfl, _, _, rfl, rfl, .inl ⟨by omega, by omega⟩, _, _, rfl, rfl, ?_⟩
      have sT := same_upd (o := .tup [.int w, .int (t * w / ws.sum)]) nT
      refine ⟨_, sT _ _ eD, ?_, same_new nD (sm.trans sT), ?_⟩
      · rw [List.length_map, List.length_map]
        have := List.length_take_le' i ws
        have := ok.n1
        exact small1000 (by omega)
      · rw [upd_same, map_take_more hw, List.map_append]
        rfl
    · rintro H2 ⟨sm, eD⟩
      rw [List.take_length] at eD
      exact ⟨D, _, rfl, .inl ⟨.inl (.inl eD), fun z nz => q _ z (s1.trans (sm.trans (same_upd nz))) ((s1.trans sm).free nz) upd_same⟩⟩
end
end K09

set_option Elab.async false
set_option linter.all false
set_option maxRecDepth 100000
set_option maxHeartbeats 1000000
namespace K09
open PySem PySem.Spec PyProof.Rows L2 TB

theorem scSp : FnScope ["total", "weights", "parts", "left", "odd", "turn", "rest", "at"] ["total", "weights"] (defScope sSp) := ⟨rfl, rfl, rfl, by decide +kernel, rfl, by decide +kernel, by decide +kernel⟩
/-! ### pairs of a rest and its place -/
def keyOf (H : Hp) : V → Int × Int
  | .ref T => match H T with
    | some (.tup [.int i, .int j]) => (i, j)
    | _ => (0, 0)
  | _ => (0, 0)
theorem keyOf_at {H : Hp} {T : Addr} {i j : Int} (h : H T = some (.tup [.int i, .int j])) : keyOf H (.ref T) = (i, j) := by
  simp only [keyOf, h]
structure Prs (H : Hp) (us : List V) (rs : List Int) : Prop where
  len : us.length = rs.length
  at_ : ∀ (j : Nat) (r : Int), rs[j]? = some r → ∃ T : Addr, us[j]? = some (.ref T) ∧ H T = some (.tup [.int (-r), .int (j : Int)])
theorem Prs.mem {H : Hp} {us : List V} {rs : List Int} (h : Prs H us rs) {x : V} (hx : x ∈ us) : ∃ (T : Addr) (r : Int) (j : Nat), x = .ref T ∧ rs[j]? = some r ∧ H T = some (.tup [.int (-r), .int (j : Int)]) := by
  obtain ⟨j, hj⟩ := List.mem_iff_getElem?.mp hx
  have jl : j < rs.length := by
    rw [← h.len]
    exact (List.getElem?_eq_some_iff.mp hj).1
  obtain ⟨T, e, f⟩ := h.at_ j _ (List.getElem?_eq_getElem jl)
  exact ⟨T, _, j, Option.some.inj (hj.symm.trans e), List.getElem?_eq_getElem jl, f⟩
theorem getD_at {rs : List Int} {j : Nat} {r : Int} (h : rs[j]? = some r) : rs.getD j 0 = r := by
  rw [List.getD_eq_getElem?_getD, h]
  rfl
theorem pairs_sorted {H : Hp} {us ys : List V} {rs : List Int} (h : Prs H us rs) (s : SrtO.Srtd (ltP (keyOf H)) ys) (b : SrtO.Stb (ltP (keyOf H)) ys us) :
    ys.length = rs.length ∧ ∀ (i a : Nat), (ats rs)[i]? = some a → ∃ (T : Addr) (r : Int), ys[i]? = some (.ref T) ∧ rs[a]? = some r ∧ H T = some (.tup [.int (-r), .int (a : Int)]) := by
  have yl : ys.length = rs.length := by rw [b.perm.length_eq, h.len]
  have eu : us.map (fun y => (keyOf H y).2.toNat) = List.range rs.length := by
    refine List.ext_getElem? fun j => ?_
    by_cases hj : j < rs.length
    · obtain ⟨T, e, f⟩ := h.at_ j _ (List.getElem?_eq_getElem hj)
      rw [List.getElem?_map, e, List.getElem?_range hj]
      show some (keyOf H (.ref T)).2.toNat = _
      rw [keyOf_at f]
      simp
    · rw [List.getElem?_eq_none (by rw [List.length_map, h.len]; omega), List.getElem?_eq_none (by rw [List.length_range]; omega)]
  have pr : (ys.map fun y => (keyOf H y).2.toNat).Perm (List.range rs.length) := by
    rw [← eu]
    exact b.perm.map _
  have so : (ys.map fun y => (keyOf H y).2.toNat).Pairwise fun a b => leR rs a b = true := by
    rw [List.pairwise_map]
    refine List.Pairwise.imp_of_mem (fun {x y} hx hy hs => ?_) s
    obtain ⟨T, r, j, rfl, hr, eT⟩ := h.mem (b.perm.mem_iff.mp hx)
    obtain ⟨T', r', j', rfl, hr', eT'⟩ := h.mem (b.perm.mem_iff.mp hy)
    have hs' : SrtO.lexB (keyOf H (.ref T')) (keyOf H (.ref T)) = false := hs
    rw [keyOf_at eT, keyOf_at eT'] at hs'
    have := SrtO.lexB_no.mp hs'
    rw [keyOf_at eT, keyOf_at eT', leR_iff]
    show rs.getD (j' : Int).toNat 0 < rs.getD (j : Int).toNat 0 ∨ _
    rw [Int.toNat_natCast, Int.toNat_natCast, getD_at hr, getD_at hr']
    simp only at this
    omega
  have ea := ats_eq pr so
  refine ⟨yl, fun i a hi => ?_⟩
  rw [ea, List.getElem?_map] at hi
  cases e : ys[i]? with
  | none => rw [e] at hi; cases hi
  | some y =>
    rw [e] at hi
    have hi' := Option.some.inj hi
    obtain ⟨T, r, j, rfl, hr, eT⟩ := h.mem (b.perm.mem_iff.mp (List.mem_of_getElem? e))
    have hi' : (keyOf H (.ref T)).2.toNat = a := hi'
    rw [keyOf_at eT] at hi'
    obtain rfl : j = a := by simpa using hi'
    exact ⟨T, r, rfl, hr, eT⟩
theorem cut_take (xs : List V) (n : Nat) : cutV xs none (some (n : Int)) = xs.take n := by
  have e : HT.sIx xs.length xs.length (some (n : Int)) = min n xs.length := by
    show (if (n : Int) < 0 then ((n : Int) + xs.length).toNat else min (n : Int).toNat xs.length) = _
    rw [if_neg (by omega), Int.toNat_natCast]
  unfold cutV
  rw [e, HT.sIx_none, List.drop_zero, Nat.sub_zero]
  by_cases c : n ≤ xs.length
  · rw [Nat.min_eq_left c]
  · rw [Nat.min_eq_right (by omega), List.take_length, List.take_of_length_le (by omega)]
theorem but_new {H H1 H2 : Hp} {p : Addr} (n : H p = none) (s : Same H H1) (b : But p H1 H2) : Same H H2 := fun c o e => b c o (ne_of_none e n) (s c o e)
section
variable {P : Program} {w : World} {K : PySem.W.Frag} {mg : Str → Option Value} {base : Heap}
theorem ok_sp {f fC fR : Addr} {fd fdC fdR : FuncData} (F : Fun K "split" "split" sSp f fd)
    (GC : FnOk P w K mg base CX0 1 fC fdC ["total", "weights"] (spL K lows)) (kC : PySem.W.keepIn K (.ref fC) = true) (bC : Binds K fdC ["total", "weights"] []) (gC : mg "cuts" = some (.ref fC))
    (GR : FnOk P w K mg base CX0 2 fR fdR ["total", "weights"] (spL K rsts)) (kR : PySem.W.keepIn K (.ref fR) = true) (bR : Binds K fdR ["total", "weights"] []) (gR : mg "rests" = some (.ref fR))
    (m_list : mg "list" = none) (m_sum : mg "sum" = none) (m_sorted : mg "sorted" = none) (m_enumerate : mg "enumerate" = none) (m_tuple : mg "tuple" = none) : FnOk P w K mg base CX0 3 f fd ["total", "weights"] (spL K parts) := by
  refine F.ok scSp (fun vs H Q E h => ?_) (fun cdv A outer s H vs Q E hr h => ?_)
  · obtain ⟨a, t, ws, rfl, _⟩ := h
    rfl
  · obtain ⟨a, t, ws, rfl, hA, ok, q⟩ := h
    refine ⟨_, (pss_cons (ps_set (i := 2) scSp.nd rfl (.inl rfl) (pe_callTy call_list_of (by rfl) m_list (by decide +kernel) (pa_cons (pe_call GC (hr.mono (by decide)) (by rfl) gC kC bC .nil pass0 (pa_cons (pv 0) (pa_cons (pv 1) pa_nil))) pa_nil)))
      (pss_cons (ps_set (i := 3) scSp.nd rfl (.inl rfl) (pe_call GR (hr.mono (by decide)) (by rfl) gR kR bR .nil pass0 (pa_cons (pv 0) (pa_cons (pv 1) pa_nil))))
      (pss_cons (ps_set (i := 4) scSp.nd rfl (.inl rfl) (pe_op op_sub (pv 0) (pe_callB (cr_sum rfl) (by rfl) m_sum (by decide +kernel) (pa_cons (pv 2) pa_nil))))
      (pss_cons (ps_set (i := 5) scSp.nd rfl (.inl rfl) (pe_callB cr_sortedPO (by rfl) m_sorted (by decide +kernel) (pa_cons (pe_lc (own := [("at", 7), ("rest", 6)]) (g := gTup K 2 (gCons (gName 7) (gCons (gName 6) gNil))) (tt := tYes) rfl scSp.nd (pi_enumT (by rfl) m_enumerate (pa_cons (pv 3) pa_nil)) (blkOk_by (own := [("at", 7), ("rest", 6)]) (N := ["total", "weights", "parts", "left", "odd", "turn", "rest", "at"]) (sc := defScope sSp) (by decide +kernel)) (fun _ _ _ _ _ => (pg_tup rfl (pgs_cons (pg_name (i := 7) scSp.nd rfl (.inl rfl)) (pgs_cons (pg_name (i := 6) scSp.nd rfl (.inl rfl)) pgs_nil)))) (fun _ _ _ _ _ => pts_nil) (fun _ _ _ _ _ => (pe_tup (pa_cons (pe_un un_neg (pv 6)) (pa_cons (pv 7) pa_nil))))) pa_nil)))
      (pss_cons (ps_for PassesOwn.never rfl (pi_list (pe_slice sl_list (pv 5) po_none (po_some (pv 4)))) (pg_tup rfl (pgs_cons (pg_name (i := 6) scSp.nd rfl (.inl rfl)) (pgs_cons (pg_name (i := 7) scSp.nd rfl (.inl rfl)) pgs_nil))) (pss_one (ps_augS (pv 2) (pv 7) get_list pe_int ip_add set_list)))
      (pss_one (ps_ret (pe_callTy call_tuple_of (by rfl) m_tuple (by decide +kernel) (pa_cons (pv 2) pa_nil))))))))), ?_⟩
    obtain ⟨eo, lo⟩ := odd_at ok
    have n1 := ok.n1
    have ll := lows_len t ws
    have rl := rsts_len t ws
    -- parts
    refine ⟨_, rfl, _, rfl, a, t, ws, rfl, hA, ok, fun H1 r s1 nr er => ?_⟩
    refine ⟨r, _, rfl, .inr (.inl (.inl er)), fun P0 nP => ?_⟩
    have nP0 : H P0 = none := s1.free nP
    have s2 := s1.trans (same_upd (o := .lst ((lows t ws).map V.int)) nP)
    have eP : (upd H1 P0 (.lst ((lows t ws).map V.int))) P0 = some (.lst ((lows t ws).map V.int)) := upd_same
    generalize upd H1 P0 (.lst ((lows t ws).map V.int)) = H2 at *
    -- left
    refine ⟨_, rfl, _, rfl, a, t, ws, rfl, TB.Same.tup s2 hA, ok, fun H3 l s3 nl el => ?_⟩
    have eP3 := s3 _ _ eP
    -- odd
    refine ⟨_, rfl, _, rfl, P0, lows t ws, rfl, .inl (.inl eP3), _, _, rfl, rfl, ?_⟩
    show tSeq _ _ _ [some (.int t), some (.ref a), some (.ref P0), some (.ref l), some (.int (t - (lows t ws).sum)), none, none, none] _
    rw [← eo]
    -- turn
    refine ⟨_, rfl, l, _, rfl, .inl (.inl el), fun D nD => ?_⟩
    refine lc_it (walk_ET (xs := (rsts t ws).map V.int)) (fun i H4 => Same H3 H4 ∧ ∃ us : List V, H4 D = some (.lst us) ∧ us.length = i ∧ ∀ (j : Nat) (r : Int), j < i → (rsts t ws)[j]? = some r → ∃ T : Addr, us[j]? = some (.ref T) ∧ H4 T = some (.tup [.int (-r), .int (j : Int)]))
      ⟨same_upd nD, [], upd_same, rfl, fun j r hj => absurd hj (Nat.not_lt_zero _)⟩ ?_ ?_ ?_
    · rintro i H4 _ ⟨sm, _⟩
      exact .inl (.inl (sm _ _ el))
    · rintro i x H4 H5 hi ⟨sm, us, eD, ul, hus⟩ ⟨T, u, v, rfl, nT, rfl, hu, hv⟩
      obtain ⟨r0, hr0, rfl⟩ := map_int hv
      obtain rfl := Option.some.inj hu
      rw [List.length_map, rl] at hi
      have sT := same_upd (o := .tup [.int (i : Nat), .int r0]) nT
      refine ⟨T, _, rfl, .inl (.inl upd_same), rfl, _, _, rfl, _, _, rfl, rfl, rfl, yes (iteT ?_)⟩
      refine ⟨_, rfl, _, rfl, _, rfl, by show (2 : Nat) ≤ sizeLine; decide, fun T2 nT2 => ?_⟩
      have s2' := sT.trans (same_upd (o := .tup [.int (-r0), .int (i : Nat)]) nT2)
      have eT2 : (upd (upd H4 T (.tup [.int (i : Nat), .int r0])) T2 (.tup [.int (-r0), .int (i : Nat)])) T2 = some (.tup [.int (-r0), .int (i : Nat)]) := upd_same
      have eD2 := s2' _ _ eD
      refine ⟨us, eD2, by rw [ul]; exact small1000 (by omega), same_new nD (sm.trans s2'), us ++ [.ref T2], upd_same, by rw [List.length_append, ul]; rfl, fun j r hj hr => ?_⟩
      by_cases c : j < i
      · obtain ⟨T3, e3, f3⟩ := hus j r c hr
        have f4 := s2' _ _ f3
        refine ⟨T3, ?_, ?_⟩
        · rw [List.getElem?_append_left (by omega)]
          exact e3
        · rw [upd_ne (ne_of f4 eD2 fun z => nomatch z)]
          exact f4
      · obtain rfl : j = i := by omega
        obtain rfl := Option.some.inj (hr0.symm.trans hr)
        refine ⟨T2, ?_, ?_⟩
        · rw [← ul]
          simp
        · rw [upd_ne (ne_of eT2 eD2 fun z => nomatch z)]
          exact eT2
    · rintro H4 ⟨s4, us, eD, ul, hus⟩
      rw [List.length_map] at ul hus
      have pa : Prs H4 us (rsts t ws) := ⟨ul, fun j r hr => hus j r (List.getElem?_eq_some_iff.mp hr).1 hr⟩
      refine ⟨D, us, keyOf H4, rfl, .inl (.inl eD), fun x hx => ?_, fun ys p srt stb np => ?_⟩
      · obtain ⟨T, r, j, rfl, _, eT⟩ := pa.mem hx
        exact ⟨T, rfl, by rw [keyOf_at eT]; exact eT⟩
      obtain ⟨yl, hys⟩ := pairs_sorted pa srt stb
      have s5 := same_upd (o := .lst ys) np
      have ep : (upd H4 p (.lst ys)) p = some (.lst ys) := upd_same
      generalize upd H4 p (.lst ys) = H5 at *
      -- the loop
      refine ⟨_, rfl, _, rfl, _, rfl, p, _, rfl, .inl (.inl ep), fun S nS => ?_⟩
      rw [cut_take]
      have s6 := same_upd (o := .lst (ys.take (odd t ws))) nS
      have eS : (upd H5 S (.lst (ys.take (odd t ws)))) S = some (.lst (ys.take (odd t ws))) := upd_same
      generalize upd H5 S (.lst (ys.take (odd t ws))) = H6 at *
      have eP6 := s6 _ _ (s5 _ _ (s4 _ _ eP3))
      have nSP : S ≠ P0 := fun z => by
        rw [z, s5 _ _ (s4 _ _ eP3)] at nS
        cases nS
      refine ⟨S, rfl, ⟨_, .inl (.inl eS)⟩, ?_⟩
      have tl : (ys.take (odd t ws)).length = odd t ws := by
        rw [List.length_take]
        omega
      refine for_list (xs := ys.take (odd t ws)) (fun i σ H7 => ∃ y6 y7, σ = [some (.int t), some (.ref a), some (.ref P0), some (.ref l), some (.int (odd t ws : Int)), some (.ref p), y6, y7] ∧ But P0 H6 H7 ∧ H7 P0 = some (.lst ((bump (lows t ws) ((ats (rsts t ws)).take i)).map V.int)))
        ⟨_, _, rfl, But.refl _ _, by rw [List.take_zero, bump_nil]; exact eP6⟩ ?_ ?_ ?_
      · rintro i σ H7 _ ⟨y6, y7, rfl, bu, _⟩
        exact .inl (.inl (bu _ _ nSP eS))
      · rintro i x σ H7 hx ⟨y6, y7, rfl, bu, eP7⟩
        have hi : i < odd t ws := by
          rw [← tl]
          exact (List.getElem?_eq_some_iff.mp hx).1
        rw [List.getElem?_take, if_pos hi] at hx
        have il : i < (ats (rsts t ws)).length := by
          rw [ats_len]
          omega
        have ea := List.getElem?_eq_getElem il
        generalize (ats (rsts t ws))[i] = b at ea
        obtain ⟨T, r1, eT, hr1, fT⟩ := hys i b ea
        obtain rfl := Option.some.inj (hx.symm.trans eT)
        have fT6 := s6 _ _ (s5 _ _ fT)
        have fT7 := bu _ _ (ne_of fT6 eP6 fun z => nomatch z) fT6
        have bl : b < (lows t ws).length := by
          have := ats_lt (List.mem_of_getElem? ea)
          omega
        have nb := take_not (ats_nodup _) ea
        have gb : (bump (lows t ws) ((ats (rsts t ws)).take i))[b]? = some ((lows t ws).getD b 0) := by
          rw [bump_get bl, if_neg nb, Int.add_zero]
        refine ⟨T, _, rfl, .inl (.inl fT7), rfl, _, _, rfl, _, _, rfl, rfl, ?_⟩
        refine ⟨_, rfl, _, rfl, P0, _, b, .int ((lows t ws).getD b 0), rfl, rfl, .inl (.inl eP7), by rw [List.getElem?_map, gb]; rfl, _, _, rfl, rfl, P0, _, _, b, rfl, rfl, eP7, ixN_nat (by rw [List.length_map, bump_len]; exact bl), ?_⟩
        refine ⟨_, _, rfl, bu.trans But.upd, ?_⟩
        rw [upd_same, take_more ea, ← bump_more bl nb, List.map_set]
      · rintro σ H7 ⟨y6, y7, rfl, bu, eP7⟩
        rw [tl] at eP7
        refine ⟨_, rfl, P0, _, rfl, .inl ⟨.inl (.inl eP7), fun z nz => ?_⟩⟩
        have s7 : Same H H7 := but_new nP0 (s2.trans (s3.trans (s4.trans (s5.trans s6)))) bu
        exact q _ z (s7.trans (same_upd nz)) (s7.free nz) upd_same
end
end K09

set_option Elab.async false
set_option linter.all false
set_option maxRecDepth 100000
set_option maxHeartbeats 2000000
namespace K09
open PySem PySem.Spec PyProof.Rows L2 TB

theorem scWe : FnScope ["_law_feed_here", "_law_many", "_law_style", "_law_found", "_law_k", "_law_near"] ["_law_feed_here", "_law_many"] (defScope sWe) := ⟨rfl, rfl, rfl, by decide +kernel, rfl, by decide +kernel, by decide +kernel⟩
theorem scTo : FnScope ["_law_feed_here", "_law_weights_here", "_law_far", "_law_near", "_law_some"] ["_law_feed_here", "_law_weights_here"] (defScope sTo) := ⟨rfl, rfl, rfl, by decide +kernel, rfl, by decide +kernel, by decide +kernel⟩
structure Ws (ws : List Int) : Prop where
  n0 : 0 < ws.length
  n1 : ws.length ≤ 12
  w0 : ∀ w ∈ ws, 0 ≤ w ∧ w ≤ 1000000000
  s0 : 0 < ws.sum
theorem Ws.ok {ws : List Int} {t : Int} (h : Ws ws) (t0 : 0 ≤ t) (t1 : t ≤ 1000000000000) : OkW t ws := ⟨t0, t1, h.n0, h.n1, h.w0, h.s0⟩
theorem but_upd {H H' : Hp} {L O : Addr} {o : HO} (n : H O = none) (b : But L H H') : But L H (upd H' O o) := fun c x m e => by
  rw [upd_ne (ne_of_none e n)]
  exact b c x m e
theorem ixN_last {n : Nat} (h : 0 < n) : ixN n (-1) = some (n - 1) := by
  unfold ixN
  rw [if_neg (by decide), if_pos (by omega)]
  congr 1
  omega
theorem mem_set {ws : List Int} {j : Nat} {v w : Int} (h : w ∈ ws.set j v) : w ∈ ws ∨ w = v := by
  rcases List.mem_or_eq_of_mem_set h with z | z
  · exact .inl z
  · exact .inr z
theorem pick6 {a b c d e f v : Int} (h0 : 0 ≤ v) (h1 : v < 6) : ∃ x, atI [V.int a, V.int b, V.int c, V.int d, V.int e, V.int f] v = some (.int x) ∧ (x = a ∨ x = b ∨ x = c ∨ x = d ∨ x = e ∨ x = f) := by
  have z : v = 0 ∨ v = 1 ∨ v = 2 ∨ v = 3 ∨ v = 4 ∨ v = 5 := by omega
  rcases z with rfl | rfl | rfl | rfl | rfl | rfl
  · exact ⟨a, rfl, by simp⟩
  · exact ⟨b, rfl, by simp⟩
  · exact ⟨c, rfl, by simp⟩
  · exact ⟨d, rfl, by simp⟩
  · exact ⟨e, rfl, by simp⟩
  · exact ⟨f, rfl, by simp⟩
section
variable {P : Program} {w : World} {K : PySem.W.Frag} {mg : Str → Option Value} {base : Heap}
/-! ### _law_weights -/
def spWe : Sp := fun vs H Q _ => ∃ (F S : Addr) (m T : Int), vs = [.ref F, .int m] ∧ 0 < m ∧ m ≤ 12 ∧ Feed H F S T ∧ T < 100000 ∧
  ∀ (H' : Hp) (r : Addr) (ws : List Int), But F H H' → Feed H' F S (T + 150) → H' r = some (.tup (ws.map V.int)) → Ws ws → Q (.ref r) H'
theorem ok_we {f fR : Addr} {fd fdR : FuncData} (F : Fun K "_law_weights" "_law_weights" sWe f fd)
    (GDr : FnOk P w K mg base CX0 1 fR fdR ["_law_feed_here", "_law_many"] spDraw) (kDr : PySem.W.keepIn K (.ref fR) = true) (bDr : Binds K fdR ["_law_feed_here", "_law_many"] []) (gDr : mg "_law_draw" = some (.ref fR))
    (m_range : mg "range" = none) (m_sum : mg "sum" = none) (m_len : mg "len" = none) (m_tuple : mg "tuple" = none) : FnOk P w K mg base CX0 2 f fd ["_law_feed_here", "_law_many"] spWe := by
  refine F.ok scWe (fun vs H Q E h => ?_) (fun cdv A outer s H vs Q E hr h => ?_)
  · obtain ⟨a, S, m, T, rfl, _⟩ := h
    rfl
  · obtain ⟨L, S, m, T, rfl, m0, m1, hF, hT, q⟩ := h
    refine ⟨_, (pss_cons (ps_set (i := 2) scWe.nd rfl (.inl rfl) (pe_call GDr (hr.mono (by decide)) (by rfl) gDr kDr bDr .nil pass0 (pa_cons (pv 0) (pa_cons pe_int pa_nil))))
      (pss_cons (ps_set (i := 3) scWe.nd rfl (.inl rfl) (pe_lst pa_nil))
      (pss_cons (ps_for PassesOwn.never rfl (pi_range1 (by rfl) m_range (pa_cons (pe_op op_add pe_int (pe_call GDr (hr.mono (by decide)) (by rfl) gDr kDr bDr .nil pass0 (pa_cons (pv 0) (pa_cons (pv 1) pa_nil)))) pa_nil)) (pg_name (i := 4) scWe.nd rfl (.inl rfl)) (pss_cons (ps_set (i := 5) scWe.nd rfl (.inl rfl) (pe_op op_sub (pe_op op_pow pe_int pe_int) (pe_call GDr (hr.mono (by decide)) (by rfl) gDr kDr bDr .nil pass0 (pa_cons (pv 0) (pa_cons pe_int pa_nil)))))
      (pss_cons (ps_expr (pe_bm PySem.F.plainAttrs_list PySem.F.slot_list_append PySem.F.type_list_append mt_append (pv 3) (pa_cons (pe_ix ix_tup (pe_tup (pa_cons (pe_call GDr (hr.mono (by decide)) (by rfl) gDr kDr bDr .nil pass0 (pa_cons (pv 0) (pa_cons pe_int pa_nil))) (pa_cons pe_int (pa_cons (pe_call GDr (hr.mono (by decide)) (by rfl) gDr kDr bDr .nil pass0 (pa_cons (pv 0) (pa_cons pe_int pa_nil))) (pa_cons (pv 5) (pa_cons (pe_op op_add pe_int (pe_call GDr (hr.mono (by decide)) (by rfl) gDr kDr bDr .nil pass0 (pa_cons (pv 0) (pa_cons (pe_op op_pow pe_int pe_int) pa_nil)))) (pa_cons (pv 5) pa_nil))))))) (pv 2) (fun _ _ => rfl)) pa_nil)))
      (pss_one (ps_cut (ps_if (PW.pt (pw_and (pt_cmpR op_eq (pv 2) pe_int (nomark _)) (pw_and1 (pt_cmpR op_eq (pe_call GDr (hr.mono (by decide)) (by rfl) gDr kDr bDr .nil pass0 (pa_cons (pv 0) (pa_cons pe_int pa_nil))) pe_int (nomark _))))) (pss_one (ps_asg (pe_call GDr (hr.mono (by decide)) (by rfl) gDr kDr bDr .nil pass0 (pa_cons (pv 0) (pa_cons pe_int pa_nil))) (pg_sub (pv 3) (pe_un un_neg pe_int) set_list))) pss_nil))))))
      (pss_cons (ps_cut (ps_if (pt_cmpR op_eq (pe_callB (cr_sum rfl) (by rfl) m_sum (by decide +kernel) (pa_cons (pv 3) pa_nil)) pe_int (nomark _)) (pss_one (ps_asg (pe_op op_add pe_int (pe_call GDr (hr.mono (by decide)) (by rfl) gDr kDr bDr .nil pass0 (pa_cons (pv 0) (pa_cons pe_int pa_nil)))) (pg_sub (pv 3) (pe_call GDr (hr.mono (by decide)) (by rfl) gDr kDr bDr .nil pass0 (pa_cons (pv 0) (pa_cons (pe_callB call_len_seq (by rfl) m_len (by decide +kernel) (pa_cons (pv 3) pa_nil)) pa_nil))) set_list))) pss_nil))
      (pss_one (ps_ret (pe_callTy call_tuple_of (by rfl) m_tuple (by decide +kernel) (pa_cons (pv 3) pa_nil)))))))), ?_⟩
    refine ⟨_, rfl, L, S, 6, T, rfl, by decide, by decide, hF, by omega, fun H1 st k1 f1 l1 u1 => ?_⟩
    refine ⟨Nat.zero_le _, fun O nO => ?_⟩
    obtain ⟨z1, ez1⟩ := f1.there
    have nO0 : H O = none := k1.free ez1 nO
    have nOL := f1.ne nO
    have k2 : But L H (upd H1 O (.lst [])) := but_upd nO0 k1
    have f2 := f1.same (same_upd (o := .lst []) nO)
    have eO : (upd H1 O (.lst [])) O = some (.lst (([] : List Int).map V.int)) := upd_same
    generalize upd H1 O (.lst []) = H2 at *
    show tSeq _ _ _ [some (.ref L), some (.int m), some (.int st), some (.ref O), none, none] _
    refine ⟨_, rfl, _, rfl, L, S, m, _, rfl, m0, by omega, f2, by omega, fun H3 v3 k3 f3 l3 u3 => ⟨_, _, rfl, rfl, 1 + v3, rfl, by omega, by omega, ?_⟩⟩
    have eO3 := k3 _ _ nOL.1 eO
    refine for_range (lo := 0) (n := (1 + v3).toNat) (fun i σ H4 => ∃ y4 y5, σ = [some (.ref L), some (.int m), some (.int st), some (.ref O), y4, y5] ∧ Feed H4 L S (T + 2 + 10 * i) ∧ But L H H4 ∧ ∃ ws : List Int, ws.length = i ∧ (∀ w ∈ ws, 0 ≤ w ∧ w ≤ 1000000000) ∧ H4 O = some (.lst (ws.map V.int)))
      ⟨_, _, rfl, f3.mono (by omega), k2.trans k3, [], rfl, (fun w hw => by cases hw), eO3⟩ ?_ ?_
    · rintro i σ H4 hi ⟨y4, y5, rfl, f4, k4, ws, wl, hw, eO4⟩
      have hi' : i < 12 := by omega
      generalize hTT : T + 2 + 10 * (i : Int) = T4 at f4
      have hT4 : T4 < 200000 := by omega
      refine ⟨_, _, rfl, rfl, ⟨by decide, by decide, by decide⟩, _, rfl, L, S, 3, _, rfl, by decide, by decide, f4, by omega, fun H5 v5 k5 f5 l5 u5 => ⟨_, _, rfl, rfl, ?_⟩⟩
      have near : (10 : Int) ^ Int.toNat 9 = 1000000000 := by decide
      show tSeq _ _ _ [some (.ref L), some (.int m), some (.int st), some (.ref O), some (.int (0 + (i : Int))), some (.int ((10 : Int) ^ Int.toNat 9 - v5))] _
      rw [near]
      have eO5 := k5 _ _ nOL.1 eO4
      refine ⟨_, rfl, .inl ⟨rfl, _, .inl (.inl eO5)⟩, ?_⟩
      refine ⟨_, rfl, L, S, 4, _, rfl, by decide, by decide, f5, by omega, fun H6 v6 k6 f6 l6 u6 => ?_⟩
      refine ⟨_, rfl, L, S, 50, _, rfl, by decide, by decide, f6, by omega, fun H7 v7 k7 f7 l7 u7 => ?_⟩
      refine ⟨_, rfl, _, rfl, _, _, rfl, rfl, ⟨by decide, by decide, by decide⟩, L, S, 10 ^ 9, _, rfl, by decide, by decide, f7, by omega, fun H8 v8 k8 f8 l8 u8 => ⟨_, _, rfl, rfl, _, rfl, by show (6 : Nat) ≤ sizeLine; decide, fun tp ntp => ?_⟩⟩
      have s9 := same_upd (o := .tup [.int v6, .int 1, .int v7, .int (1000000000 - v5), .int (1 + v8), .int (1000000000 - v5)]) ntp
      have etp : (upd H8 tp (.tup [.int v6, .int 1, .int v7, .int (1000000000 - v5), .int (1 + v8), .int (1000000000 - v5)])) tp = some (.tup [.int v6, .int 1, .int v7, .int (1000000000 - v5), .int (1 + v8), .int (1000000000 - v5)]) := upd_same
      have u8' : v8 < 1000000000 := u8
      obtain ⟨x, hx, x6⟩ := pick6 (a := v6) (b := 1) (c := v7) (d := 1000000000 - v5) (e := 1 + v8) (f := 1000000000 - v5) l1 u1
      have x0 : 0 ≤ x ∧ x ≤ 1000000000 := by omega
      refine ⟨_, rfl, tp, _, st, .int x, rfl, rfl, .inl (.inl etp), hx, ?_⟩
      have k9 : But L H4 (upd H8 tp (.tup [.int v6, .int 1, .int v7, .int (1000000000 - v5), .int (1 + v8), .int (1000000000 - v5)])) := (((k5.trans k6).trans k7).trans k8).same s9
      have f9 := f8.same s9
      generalize upd H8 tp (.tup [.int v6, .int 1, .int v7, .int (1000000000 - v5), .int (1 + v8), .int (1000000000 - v5)]) = H9 at *
      have eO9 := k9 _ _ nOL.1 eO4
      refine ⟨O, _, _, rfl, rfl, eO9, by rw [List.length_map, wl]; exact small1000 (by omega), ?_⟩
      have f10 := f9.upd (o := .lst (ws.map V.int ++ [.int x])) nOL
      have k10 : But L H (upd H9 O (.lst (ws.map V.int ++ [.int x]))) := but_upd nO0 (k4.trans k9)
      have eO10 : (upd H9 O (.lst (ws.map V.int ++ [.int x]))) O = some (.lst ((ws ++ [x]).map V.int)) := by
        rw [upd_same, List.map_append]
        rfl
      generalize upd H9 O (.lst (ws.map V.int ++ [.int x])) = H10 at *
      have hw2 : ∀ w ∈ ws ++ [x], 0 ≤ w ∧ w ≤ 1000000000 := fun w hm => by
        rcases List.mem_append.mp hm with z | z
        · exact hw w z
        · rw [List.mem_singleton.mp z]
          exact x0
      have wl2 : (ws ++ [x]).length = i + 1 := by
        rw [List.length_append, wl]
        rfl
      refine ⟨fun σ' H' => ∃ y4 y5, σ' = [some (.ref L), some (.int m), some (.int st), some (.ref O), y4, y5] ∧ Feed H' L S (T + 2 + 10 * ((i + 1 : Nat) : Int)) ∧ But L H H' ∧ ∃ ws : List Int, ws.length = i + 1 ∧ (∀ w ∈ ws, 0 ≤ w ∧ w ≤ 1000000000) ∧ H' O = some (.lst (ws.map V.int)), ?_, fun _ _ z => z⟩
      refine ⟨_, rfl, rfl, _, rfl, ?_⟩
      change ite _ _ _
      refine ite2 (fun c => ?_) (fun c => ?_)
      · refine ⟨_, rfl, L, S, 2, _, rfl, by decide, by decide, f10, by omega, fun H11 v11 k11 f11 l11 u11 => ⟨rfl, _, rfl, ?_⟩⟩
        change ite _ _ _
        have eO11 := k11 _ _ nOL.1 eO10
        refine ite2 (fun c2 => ?_) (fun c2 => ?_)
        · refine ⟨_, rfl, L, S, 3, _, rfl, by decide, by decide, f11, by omega, fun H12 v12 k12 f12 l12 u12 => ?_⟩
          have eO12 := k12 _ _ nOL.1 eO11
          refine ⟨_, rfl, 1, rfl, O, _, _, _, rfl, rfl, eO12, ixN_last (by rw [List.length_map, wl2]; omega), ?_⟩
          refine ⟨_, _, rfl, (f12.upd nOL).mono (by omega), but_upd nO0 ((k10.trans k11).trans k12), (ws ++ [x]).set (((ws ++ [x]).map V.int).length - 1) v12, by rw [List.length_set, wl2], fun w hm => ?_, ?_⟩
          · rcases mem_set hm with z | z
            · exact hw2 w z
            · rw [z]
              omega
          · rw [upd_same, List.map_set]
        · exact ⟨_, _, rfl, f11.mono (by omega), k10.trans k11, _, wl2, hw2, eO11⟩
      · exact iteF ⟨_, _, rfl, f10.mono (by omega), k10, _, wl2, hw2, eO10⟩
    · rintro σ H4 ⟨y4, y5, rfl, f4, k4, ws, wl, hw, eO4⟩
      have wn : 0 < ws.length := by omega
      have wn12 : ws.length ≤ 12 := by omega
      have f4 : Feed H4 L S (T + 130) := f4.mono (by omega)
      refine ⟨fun σ' H' => ∃ ws : List Int, σ' = [some (.ref L), some (.int m), some (.int st), some (.ref O), y4, y5] ∧ Feed H' L S (T + 150) ∧ But L H H' ∧ Ws ws ∧ H' O = some (.lst (ws.map V.int)), ?_, ?_⟩
      · refine ⟨_, rfl, O, ws, rfl, .inl (.inl eO4), rfl, _, rfl, ?_⟩
        refine ite2 (fun c => ?_) (fun c => ?_)
        · refine ⟨_, rfl, L, S, 3, _, rfl, by decide, by decide, f4, by omega, fun H5 v5 k5 f5 l5 u5 => ⟨_, _, rfl, rfl, ?_⟩⟩
          have eO5 := k5 _ _ nOL.1 eO4
          refine ⟨_, rfl, _, rfl, _, rfl, O, _, rfl, .inl (.inl (.inl eO5)), L, S, ((ws.map V.int).length : Int), _, rfl, by rw [List.length_map]; omega, by rw [List.length_map]; omega, f5, by omega, fun H6 v6 k6 f6 l6 u6 => ?_⟩
          have eO6 := k6 _ _ nOL.1 eO5
          obtain ⟨j, rfl⟩ : ∃ j : Nat, v6 = (j : Int) := ⟨v6.toNat, (Int.toNat_of_nonneg l6).symm⟩
          rw [List.length_map] at u6
          have jl : j < ws.length := by omega
          refine ⟨O, _, _, j, rfl, rfl, eO6, ixN_nat (by rw [List.length_map]; exact jl), ?_⟩
          have hw3 : ∀ w ∈ ws.set j (1 + v5), 0 ≤ w ∧ w ≤ 1000000000 := fun w hm => by
            rcases mem_set hm with z | z
            · exact hw w z
            · rw [z]
              omega
          refine ⟨ws.set j (1 + v5), rfl, (f6.upd nOL).mono (by omega), but_upd nO0 ((k4.trans k5).trans k6), ⟨by rw [List.length_set]; exact wn, by rw [List.length_set]; exact wn12, hw3, ?_⟩, ?_⟩
          · have mm : (1 + v5) ∈ ws.set j (1 + v5) := by
              refine List.mem_iff_getElem?.mpr ⟨j, ?_⟩
              rw [List.getElem?_set, if_pos rfl, if_pos jl]
            have := (sum_ge (fun z hz => (hw3 z hz).1) mm).2
            omega
          · rw [upd_same, List.map_set]
        · refine ⟨ws, rfl, f4.mono (by omega), k4, ⟨wn, wn12, hw, ?_⟩, eO4⟩
          have s0 := (sum_le hw).1
          have : ws.sum ≠ 0 := fun z => c (decide_eq_true (by rw [z]))
          omega
      · rintro σ' H5 ⟨ws, rfl, f5, k5, hws, eO5⟩
        refine ⟨_, rfl, O, _, rfl, .inl ⟨.inl (.inl eO5), fun r nr => ?_⟩⟩
        exact q _ r ws (k5.same (same_upd nr)) (f5.same (same_upd nr)) upd_same hws
/-! ### _law_total -/
def spTo : Sp := fun vs H Q _ => ∃ (F S a : Addr) (T : Int) (ws : List Int), vs = [.ref F, .ref a] ∧ Feed H F S T ∧ T < 100000 ∧ H a = some (.tup (ws.map V.int)) ∧ Ws ws ∧
  ∀ (H' : Hp) (t : Int), But F H H' → Feed H' F S (T + 10) → 0 ≤ t → t ≤ 1000000000000 → Q (.int t) H'
theorem ok_to {f fR : Addr} {fd fdR : FuncData} (F : Fun K "_law_total" "_law_total" sTo f fd)
    (GDr : FnOk P w K mg base CX0 1 fR fdR ["_law_feed_here", "_law_many"] spDraw) (kDr : PySem.W.keepIn K (.ref fR) = true) (bDr : Binds K fdR ["_law_feed_here", "_law_many"] []) (gDr : mg "_law_draw" = some (.ref fR))
    (m_sum : mg "sum" = none) (m_len : mg "len" = none) : FnOk P w K mg base CX0 2 f fd ["_law_feed_here", "_law_weights_here"] spTo := by
  refine F.ok scTo (fun vs H Q E h => ?_) (fun cdv A outer s H vs Q E hr h => ?_)
  · obtain ⟨a, S, b, T, ws, rfl, _⟩ := h
    rfl
  · obtain ⟨L, S, a, T, ws, rfl, hF, hT, ea, hw, q⟩ := h
    refine ⟨_, (pss_cons (ps_set (i := 2) scTo.nd rfl (.inl rfl) (pe_op op_sub (pe_op op_pow pe_int pe_int) (pe_call GDr (hr.mono (by decide)) (by rfl) gDr kDr bDr .nil pass0 (pa_cons (pv 0) (pa_cons pe_int pa_nil)))))
      (pss_cons (ps_set (i := 3) scTo.nd rfl (.inl rfl) (pe_op op_add (pe_op op_mul (pe_callB (call_sumT rfl) (by rfl) m_sum (by decide +kernel) (pa_cons (pv 1) pa_nil)) (pe_call GDr (hr.mono (by decide)) (by rfl) gDr kDr bDr .nil pass0 (pa_cons (pv 0) (pa_cons pe_int pa_nil)))) (pe_call GDr (hr.mono (by decide)) (by rfl) gDr kDr bDr .nil pass0 (pa_cons (pv 0) (pa_cons pe_int pa_nil)))))
      (pss_cons (ps_set (i := 4) scTo.nd rfl (.inl rfl) (pe_tup (pa_cons pe_int (pa_cons (pe_call GDr (hr.mono (by decide)) (by rfl) gDr kDr bDr .nil pass0 (pa_cons (pv 0) (pa_cons (pe_op op_add (pe_callB call_len_seq (by rfl) m_len (by decide +kernel) (pa_cons (pv 1) pa_nil)) pe_int) pa_nil))) (pa_cons (pe_call GDr (hr.mono (by decide)) (by rfl) gDr kDr bDr .nil pass0 (pa_cons (pv 0) (pa_cons pe_int pa_nil))) (pa_cons (pv 3) (pa_cons (pe_call GDr (hr.mono (by decide)) (by rfl) gDr kDr bDr .nil pass0 (pa_cons (pv 0) (pa_cons (pe_op op_pow pe_int pe_int) pa_nil))) (pa_cons (pv 2) pa_nil))))))))
      (pss_one (ps_ret (pe_ix ix_tup (pv 4) (pe_call GDr (hr.mono (by decide)) (by rfl) gDr kDr bDr .nil pass0 (pa_cons (pv 0) (pa_cons pe_int pa_nil))) (fun _ _ => rfl))))))), ?_⟩
    have naL : a ≠ L := by
      obtain ⟨z, ez⟩ := hF.there
      exact ne_of ea ez fun z => nomatch z
    have n1 := hw.n1
    have n0 := hw.n0
    have sl := sum_le hw.w0
    refine ⟨_, _, rfl, rfl, ⟨by decide, by decide, by decide⟩, _, rfl, L, S, 9, T, rfl, by decide, by decide, hF, by omega, fun H1 v1 k1 f1 l1 u1 => ⟨_, _, rfl, rfl, ?_⟩⟩
    have far : (10 : Int) ^ Int.toNat 12 = 1000000000000 := by decide
    show tSeq _ _ _ [some (.ref L), some (.ref a), some (.int ((10 : Int) ^ Int.toNat 12 - v1)), none, none] _
    rw [far]
    have e1 := k1 _ _ naL ea
    refine ⟨_, rfl, a, ws, rfl, .inl (.inl e1), _, rfl, L, S, 3, _, rfl, by decide, by decide, f1, by omega, fun H2 v2 k2 f2 l2 u2 => ⟨_, _, rfl, rfl, .inl ⟨by omega, by omega⟩, ?_⟩⟩
    refine ⟨_, rfl, L, S, 4, _, rfl, by decide, by decide, f2, by omega, fun H3 v3 k3 f3 l3 u3 => ⟨_, _, rfl, rfl, ?_⟩⟩
    have nr : 0 ≤ ws.sum * v2 + v3 ∧ ws.sum * v2 + v3 ≤ 1000000000000 := by
      have z : v2 = 0 ∨ v2 = 1 ∨ v2 = 2 := by omega
      rcases z with rfl | rfl | rfl <;> omega
    show tSeq _ _ _ [some (.ref L), some (.ref a), some (.int (1000000000000 - v1)), some (.int (ws.sum * v2 + v3)), none] _
    generalize ws.sum * v2 + v3 = x at *
    have e3 := k3 _ _ naL (k2 _ _ naL e1)
    refine ⟨_, rfl, _, rfl, a, _, rfl, .inr (.inl (.inl e3)), _, _, rfl, rfl, L, S, ((ws.map V.int).length : Int) + 1, _, rfl, by omega, by rw [List.length_map]; omega, f3, by omega, fun H4 v4 k4 f4 l4 u4 => ?_⟩
    rw [List.length_map] at u4
    refine ⟨_, rfl, L, S, 1000, _, rfl, by decide, by decide, f4, by omega, fun H5 v5 k5 f5 l5 u5 => ⟨_, rfl, ?_⟩⟩
    refine ⟨_, rfl, _, _, rfl, rfl, ⟨by decide, by decide, by decide⟩, L, S, 10 ^ 12, _, rfl, by decide, by decide, f5, by omega, fun H6 v6 k6 f6 l6 u6 => ⟨_, rfl, by show (6 : Nat) ≤ sizeLine; decide, fun tp ntp => ?_⟩⟩
    have u6' : v6 < 1000000000000 := u6
    have s7 := same_upd (o := .tup [.int 0, .int v4, .int v5, .int x, .int v6, .int (1000000000000 - v1)]) ntp
    have etp : (upd H6 tp (.tup [.int 0, .int v4, .int v5, .int x, .int v6, .int (1000000000000 - v1)])) tp = some (.tup [.int 0, .int v4, .int v5, .int x, .int v6, .int (1000000000000 - v1)]) := upd_same
    have nt := f6.ne ntp
    refine ⟨_, rfl, _, rfl, L, S, 6, _, rfl, by decide, by decide, f6.same s7, by omega, fun H8 v8 k8 f8 l8 u8 => ?_⟩
    obtain ⟨y, hy, y6⟩ := pick6 (a := 0) (b := v4) (c := v5) (d := x) (e := v6) (f := 1000000000000 - v1) l8 u8
    refine ⟨tp, _, v8, .int y, rfl, rfl, .inl (.inl (k8 _ _ nt.1 etp)), hy, ?_⟩
    exact q _ y ((((((k1.trans k2).trans k3).trans k4).trans k5).trans k6).same s7 |>.trans k8) (f8.mono (by omega)) (by omega) (by omega)
end
end K09

set_option Elab.async false
set_option linter.all false
set_option maxRecDepth 100000
set_option maxHeartbeats 2000000
namespace K09
open PySem PySem.Spec PyProof.Rows L2 TB

theorem scPa : FnScope ["_law_total_here", "_law_weights_here", "_law_entire", "_law_low", "_law_left", "_law_told", "_law_turn", "_law_own", "_law_bar", "_law_weight", "_law_k"] ["_law_total_here", "_law_weights_here"] (defScope sPa) := ⟨rfl, rfl, rfl, by decide +kernel, rfl, by decide +kernel, by decide +kernel⟩
theorem scRi : FnScope ["_law_total_here", "_law_weights_here", "_law_low", "_law_left", "_law_parts_here", "_law_told"] ["_law_total_here", "_law_weights_here"] (defScope sRi) := ⟨rfl, rfl, rfl, by decide +kernel, rfl, by decide +kernel, by decide +kernel⟩
/-! ### the next one by the law -/
def ownL (n : Nat) (S : List Nat) : List Nat := (List.range n).filter fun k => decide (k ∉ S)
theorem ownL_mem {n : Nat} {S : List Nat} {k : Nat} : k ∈ ownL n S ↔ k < n ∧ k ∉ S := by
  unfold ownL
  rw [List.mem_filter, List.mem_range, decide_eq_true_iff]
theorem ownL_len (n : Nat) (S : List Nat) : (ownL n S).length ≤ n := by
  unfold ownL
  exact Nat.le_trans (List.length_filter_le _ _) (by rw [List.length_range]; exact Nat.le_refl _)
theorem ownL_up (n : Nat) (S : List Nat) : (ownL n S).Pairwise (· < ·) := List.Pairwise.filter _ List.pairwise_lt_range
theorem first_least {l : List Nat} {a : Nat} (h : l.Pairwise (· < ·)) (m : a ∈ l) (le : ∀ k ∈ l, a ≤ k) : l[0]? = some a := by
  cases l with
  | nil => cases m
  | cons x xs =>
    rcases List.mem_cons.mp m with rfl | m
    · rfl
    · have := (List.pairwise_cons.mp h).1 a m
      have := le x List.mem_cons_self
      omega
theorem own_pick {rs : List Int} {i a : Nat} (e : (ats rs)[i]? = some a) :
    a ∈ ownL rs.length ((ats rs).take i) ∧ (∀ k ∈ ownL rs.length ((ats rs).take i), rs.getD k 0 ≤ rs.getD a 0) ∧
    ((ownL rs.length ((ats rs).take i)).filter fun k => decide (rs.getD k 0 = rs.getD a 0))[0]? = some a := by
  have am : a ∈ ownL rs.length ((ats rs).take i) := ownL_mem.mpr ⟨ats_lt (List.mem_of_getElem? e), take_not (ats_nodup rs) e⟩
  have le : ∀ k ∈ ownL rs.length ((ats rs).take i), leR rs a k = true := fun k hk => by
    obtain ⟨k1, k2⟩ := ownL_mem.mp hk
    exact ats_first e k1 k2
  refine ⟨am, fun k hk => ?_, first_least (List.Pairwise.filter _ (ownL_up _ _)) (List.mem_filter.mpr ⟨am, decide_eq_true rfl⟩) fun k hk => ?_⟩
  · have := leR_iff.mp (le k hk)
    omega
  · obtain ⟨k1, k2⟩ := List.mem_filter.mp hk
    have := leR_iff.mp (le k k1)
    have k3 : rs.getD k 0 = rs.getD a 0 := of_decide_eq_true k2
    omega
theorem filt_more {α β : Type} {p : α → Bool} {f : α → β} {xs : List α} {i : Nat} {x : α} (h : xs[i]? = some x) : ((xs.take (i + 1)).filter p).map f = ((xs.take i).filter p).map f ++ (if p x = true then [f x] else []) := by
  rw [take_more h, List.filter_append, List.map_append]
  congr 1
  by_cases c : p x = true
  · rw [if_pos c, List.filter_cons, if_pos c]
    rfl
  · rw [if_neg c, List.filter_cons, if_neg c]
    rfl
theorem ownL_more (n : Nat) (S : List Nat) (f : Nat → V) : (ownL (n + 1) S).map f = (ownL n S).map f ++ if n ∉ S then [f n] else [] := by
  unfold ownL
  rw [List.range_succ, List.filter_append, List.map_append]
  congr 1
  by_cases c : n ∈ S
  · rw [if_neg (by simp [c]), List.filter_cons, if_neg (by simp [c])]
    rfl
  · rw [if_pos c, List.filter_cons, if_pos (decide_eq_true c)]
    rfl
theorem ty_tup {K : PySem.W.Frag} {H : Hp} {a : Addr} {xs : List V} (h : SqT K H a xs) : TyX K H (.ref a) (.type "tuple") := by
  rcases h with (h | ⟨o, h⟩) | ⟨o, its, n, e, c, _⟩
  · exact .base (.tup h)
  · exact .fTuple h
  · exact .kTuple e c
theorem gInt {ns : List Int} {i : Nat} (h : i < ns.length) : (ns.map V.int)[i]? = some (.int (ns.getD i 0)) := by
  rw [List.getElem?_map, getD_of h]
  rfl
section
variable {P : Program} {w : World} {K : PySem.W.Frag} {mg : Str → Option Value} {base : Heap}
/-! ### _law_parts -/
def spPa (K : PySem.W.Frag) : Sp := fun vs H Q _ => ∃ (a : Addr) (t : Int) (ws : List Int), vs = [.int t, .ref a] ∧ SqT K H a (ws.map V.int) ∧ OkW t ws ∧
  ∀ (H' : Hp) (r x y z : Addr), Same H H' → H' r = some (.tup [.ref x, .ref y, .ref z]) → H' y = some (.lst ((rsts t ws).map V.int)) → H' z = some (.lst ((parts t ws).map V.int)) → Q (.ref r) H'
theorem ok_pa {f : Addr} {fd : FuncData} {k : Nat} (F : Fun K "_law_parts" "_law_parts" sPa f fd)
    (m_sum : mg "sum" = none) (m_zip : mg "zip" = none) (m_list : mg "list" = none) (m_range : mg "range" = none) (m_len : mg "len" = none) (m_max : mg "max" = none) : FnOk P w K mg base CX0 (k + 1) f fd ["_law_total_here", "_law_weights_here"] (spPa K) := by
  refine F.ok scPa (fun vs H Q E h => ?_) (fun cdv A outer s H vs Q E hr h => ?_)
  · obtain ⟨a, t, ws, rfl, _⟩ := h
    rfl
  · obtain ⟨a, t, ws, rfl, hA, ok, q⟩ := h
    refine ⟨_, (pss_cons (ps_set (i := 2) scPa.nd rfl (.inr rfl) (pe_callB (call_sumT rfl) (by rfl) m_sum (by decide +kernel) (pa_cons (pv 1) pa_nil)))
      (pss_cons (ps_set (i := 3) scPa.nd rfl (.inr rfl) (pe_lc (own := [("_law_weight", 9)]) (g := gName 9) (tt := tYes) rfl scPa.nd (pi_tup (pv 1)) (blkOk_by (own := [("_law_weight", 9)]) (N := ["_law_total_here", "_law_weights_here", "_law_entire", "_law_low", "_law_left", "_law_told", "_law_turn", "_law_own", "_law_bar", "_law_weight", "_law_k"]) (sc := defScope sPa) (by decide +kernel)) (fun _ _ _ _ _ => (pg_name (i := 9) scPa.nd rfl (.inl rfl))) (fun _ _ _ _ _ => pts_nil) (fun _ _ _ _ _ => (pe_op op_fdivW (pe_op op_mul (pv 0) (pv 9)) (pv 2)))))
      (pss_cons (ps_set (i := 4) scPa.nd rfl (.inr rfl) (pe_lc (own := [("_law_weight", 9), ("_law_own", 7)]) (g := gTup K 2 (gCons (gName 9) (gCons (gName 7) gNil))) (tt := tYes) rfl scPa.nd (pi_zipTL (by rfl) m_zip (pa_cons (pv 1) (pa_cons (pv 3) pa_nil))) (blkOk_by (own := [("_law_weight", 9), ("_law_own", 7)]) (N := ["_law_total_here", "_law_weights_here", "_law_entire", "_law_low", "_law_left", "_law_told", "_law_turn", "_law_own", "_law_bar", "_law_weight", "_law_k"]) (sc := defScope sPa) (by decide +kernel)) (fun _ _ _ _ _ => (pg_tup rfl (pgs_cons (pg_name (i := 9) scPa.nd rfl (.inl rfl)) (pgs_cons (pg_name (i := 7) scPa.nd rfl (.inl rfl)) pgs_nil)))) (fun _ _ _ _ _ => pts_nil) (fun _ _ _ _ _ => (pe_op op_sub (pe_op op_mul (pv 0) (pv 9)) (pe_op op_mul (pv 7) (pv 2))))))
      (pss_cons (ps_set (i := 5) scPa.nd rfl (.inr rfl) (pe_callTy call_list_of (by rfl) m_list (by decide +kernel) (pa_cons (pv 3) pa_nil)))
      (pss_cons (ps_for PassesOwn.never rfl (pi_range1 (by rfl) m_range (pa_cons (pe_op op_sub (pv 0) (pe_callB (cr_sum rfl) (by rfl) m_sum (by decide +kernel) (pa_cons (pv 3) pa_nil))) pa_nil)) (pg_name (i := 6) scPa.nd rfl (.inl rfl)) (pss_cons (ps_setLc (i := 7) (own := [("_law_k", 10)]) (g := gName 10) (tt := tTest (tOp rEq (tOp (rIxL K) (tVar 5) (tVar 10)) (tOp (rIxL K) (tVar 3) (tVar 10)))) rfl scPa.nd rfl rfl (sw_true rfl rfl rfl (by decide +kernel)) (pi_range1 (by rfl) m_range (pa_cons (pe_callB call_len_seq (by rfl) m_len (by decide +kernel) (pa_cons (pv 3) pa_nil)) pa_nil)) (blkOk_by (own := [("_law_k", 10)]) (N := ["_law_total_here", "_law_weights_here", "_law_entire", "_law_low", "_law_left", "_law_told", "_law_turn", "_law_own", "_law_bar", "_law_weight", "_law_k"]) (sc := defScope sPa) (by decide +kernel)) (fun _ _ _ _ _ => (pg_name (i := 10) scPa.nd rfl (.inl rfl))) (fun _ _ _ _ _ => (pts_one (pt_cmpR op_eq (pe_ix ix_list (pv 5) (pv 10) (fun _ _ => rfl)) (pe_ix ix_list (pv 3) (pv 10) (fun _ _ => rfl)) (nomark _)))) (fun _ _ _ _ _ => (pv 10)))
      (pss_cons (ps_set (i := 8) scPa.nd rfl (.inr rfl) (pe_callB (cr_max rfl) (by rfl) m_max (by decide +kernel) (pa_cons (pe_lc (own := [("_law_k", 10)]) (g := gName 10) (tt := tYes) (te := tOp (rIxL K) (tVar 4) (tVar 10)) rfl scPa.nd (pi_list (pv 7)) (blkOk_by (own := [("_law_k", 10)]) (N := ["_law_total_here", "_law_weights_here", "_law_entire", "_law_low", "_law_left", "_law_told", "_law_turn", "_law_own", "_law_bar", "_law_weight", "_law_k"]) (sc := defScope sPa) (by decide +kernel)) (fun _ _ _ _ _ => (pg_name (i := 10) scPa.nd rfl (.inl rfl))) (fun _ _ _ _ _ => pts_nil) (fun _ _ _ _ _ => (pe_ix ix_list (pv 4) (pv 10) (fun _ _ => rfl)))) pa_nil)))
      (pss_one (ps_augS (pv 5) (pe_ix ix_list (pe_lc (own := [("_law_k", 10)]) (g := gName 10) (tt := tTest (tOp rEq (tOp (rIxL K) (tVar 4) (tVar 10)) (tVar 8))) rfl scPa.nd (pi_list (pv 7)) (blkOk_by (own := [("_law_k", 10)]) (N := ["_law_total_here", "_law_weights_here", "_law_entire", "_law_low", "_law_left", "_law_told", "_law_turn", "_law_own", "_law_bar", "_law_weight", "_law_k"]) (sc := defScope sPa) (by decide +kernel)) (fun _ _ _ _ _ => (pg_name (i := 10) scPa.nd rfl (.inl rfl))) (fun _ _ _ _ _ => (pts_one (pt_cmpR op_eq (pe_ix ix_list (pv 4) (pv 10) (fun _ _ => rfl)) (pv 8) (nomark _)))) (fun _ _ _ _ _ => (pv 10))) pe_int (fun _ _ => rfl)) get_list pe_int ip_add set_list)))))
      (pss_one (ps_ret (pe_tup (pa_cons (pv 3) (pa_cons (pv 4) (pa_cons (pv 5) pa_nil))))))))))), ?_⟩
    obtain ⟨eo, lo⟩ := odd_at ok
    have n1 := ok.n1
    have ll := lows_len t ws
    have rl := rsts_len t ws
    have t1 := ok.t1
    refine ⟨_, rfl, a, ws, rfl, hA, ?_⟩
    -- low
    refine ⟨_, rfl, a, rfl, ⟨_, hA⟩, fun Lo nLo => ?_⟩
    refine lc_tup (xs := ws.map V.int) (fun i H1 => Same H H1 ∧ H1 Lo = some (.lst (((ws.take i).map fun w => t * w / ws.sum).map V.int))) ⟨same_upd nLo, upd_same⟩ ?_ ?_ ?_
    · rintro i H1 _ ⟨sm, _⟩
      exact TB.Same.tup sm hA
    · rintro i x H1 hx ⟨sm, eD⟩
      obtain ⟨w, hw, rfl⟩ := map_int hx
      refine ⟨rfl, yes (iteT ?_)⟩
      refine ⟨_, rfl, _, rfl, _, _, rfl, rfl, .inl (mul_ok (w := w) ok), _, rfl, _, _, rfl, rfl, wide_div (b := 60) ok.s0 (sum_ok ok) (by omega) (by omega), ?_⟩
      refine ⟨_, eD, ?_, same_new nLo sm, ?_⟩
      · rw [List.length_map, List.length_map]
        have := List.length_take_le' i ws
        exact small1000 (by omega)
      · rw [upd_same, map_take_more hw, List.map_append]
        rfl
    rintro H1 ⟨s1, eLo⟩
    rw [List.length_map, List.take_length] at eLo
    have eLo : H1 Lo = some (.lst ((lows t ws).map V.int)) := eLo
    show tSeq _ _ _ [some (.int t), some (.ref a), some (.int ws.sum), some (.ref Lo), none, none, none, none, none, none, none] _
    -- left
    refine ⟨_, rfl, _, rfl, a, Lo, _, _, rfl, TB.Same.tup s1 hA, .inl (.inl eLo), fun Le nLe => ?_⟩
    refine lc_it (walk_TL (xs := ws.map V.int) (ys := (lows t ws).map V.int) (n := ws.length) (by rw [List.length_map, List.length_map, ll]; omega)) (fun i H2 => Same H1 H2 ∧ H2 Le = some (.lst (((ws.take i).map fun w => t * w - t * w / ws.sum * ws.sum).map V.int))) ⟨same_upd nLe, upd_same⟩ ?_ ?_ ?_
    · rintro i H2 _ ⟨sm, _⟩
      exact ⟨TB.Same.tup (s1.trans sm) hA, .inl (.inl (sm _ _ eLo))⟩
    · rintro i x H2 H3 hi ⟨sm, eD⟩ ⟨T, u, v, rfl, nT, rfl, hu, hv⟩
      obtain ⟨w, hw, rfl⟩ := map_int hu
      obtain ⟨c, hc, rfl⟩ := map_int hv
      obtain rfl := Option.some.inj ((low_get hw).symm.trans hc)
      have lb := low_bound ok (List.mem_of_getElem? hw)
      refine ⟨T, _, rfl, .inl (.inl upd_same), rfl, _, _, rfl, _, _, rfl, rfl, rfl, yes (iteT ?_)⟩
      refine ⟨_, rfl, _, rfl, _, _, rfl, rfl, .inl (mul_ok (w := w) ok), _, rfl, _, rfl, _, _, rfl, rfl, .inl ⟨by omega, by omega⟩, _, _, rfl, rfl, ?_⟩
      have sT := same_upd (o := .tup [.int w, .int (t * w / ws.sum)]) nT
      refine ⟨_, sT _ _ eD, ?_, same_new nLe (sm.trans sT), ?_⟩
      · rw [List.length_map, List.length_map]
        have := List.length_take_le' i ws
        exact small1000 (by omega)
      · rw [upd_same, map_take_more hw, List.map_append]
        rfl
    rintro H2 ⟨s2, eLe⟩
    rw [List.take_length] at eLe
    have eLe : H2 Le = some (.lst ((rsts t ws).map V.int)) := eLe
    have eLo2 := s2 _ _ eLo
    show tSeq _ _ _ [some (.int t), some (.ref a), some (.int ws.sum), some (.ref Lo), some (.ref Le), none, none, none, none, none, none] _
    -- told
    refine ⟨_, rfl, Lo, _, rfl, .inl (.inl (.inl eLo2)), fun To nTo => ?_⟩
    have s3 := same_upd (o := .lst ((lows t ws).map V.int)) nTo
    have eTo : (upd H2 To (.lst ((lows t ws).map V.int))) To = some (.lst ((lows t ws).map V.int)) := upd_same
    have nLoTo : Lo ≠ To := fun z => by
      rw [← z, eLo2] at nTo
      cases nTo
    have nLeTo : Le ≠ To := fun z => by
      rw [← z, eLe] at nTo
      cases nTo
    have nTo0 : H To = none := (s1.trans s2).free nTo
    generalize upd H2 To (.lst ((lows t ws).map V.int)) = H3 at *
    have eLo3 := s3 _ _ eLo2
    have eLe3 := s3 _ _ eLe
    show tSeq _ _ _ [some (.int t), some (.ref a), some (.int ws.sum), some (.ref Lo), some (.ref Le), some (.ref To), none, none, none, none, none] _
    refine ⟨_, rfl, _, rfl, Lo, lows t ws, rfl, .inl (.inl eLo3), _, _, rfl, rfl, ?_⟩
    refine ⟨_, rfl, by omega, by omega, ?_⟩
    rw [show (t - (lows t ws).sum) = (odd t ws : Int) from eo.symm]
    refine for_range (lo := 0) (n := (odd t ws : Int).toNat) (fun i σ H4 => ∃ y6 y7 y8, σ = [some (.int t), some (.ref a), some (.int ws.sum), some (.ref Lo), some (.ref Le), some (.ref To), y6, y7, y8, none, none] ∧ But To H3 H4 ∧ H4 To = some (.lst ((bump (lows t ws) ((ats (rsts t ws)).take i)).map V.int)))
      ⟨_, _, _, rfl, But.refl _ _, by rw [List.take_zero, bump_nil]; exact eTo⟩ ?_ ?_
    · rintro i σ H4 hi ⟨y6, y7, y8, rfl, k4, eTo4⟩
      rw [Int.toNat_natCast] at hi
      have eLo4 := k4 _ _ nLoTo eLo3
      have eLe4 := k4 _ _ nLeTo eLe3
      have il : i < (ats (rsts t ws)).length := by
        rw [ats_len]
        omega
      have ea := List.getElem?_eq_getElem il
      generalize (ats (rsts t ws))[i] = b at ea
      obtain ⟨bm, ble, bfi⟩ := own_pick ea
      rw [rl] at bm ble bfi
      have bl : b < ws.length := (ownL_mem.mp bm).1
      have nb := take_not (ats_nodup _) ea
      generalize hS : (ats (rsts t ws)).take i = S at *
      show tSeq _ _ _ [some (.int t), some (.ref a), some (.int ws.sum), some (.ref Lo), some (.ref Le), some (.ref To), some (.int (0 + (i : Int))), y7, y8, none, none] _
      -- own
      refine ⟨_, rfl, Lo, _, rfl, .inl (.inl (.inl eLo4)), ((((lows t ws).map V.int).length : Nat) : Int), rfl, by omega, by rw [List.length_map]; omega, fun D nD => ?_⟩
      refine lc_range (lo := 0) (n := ((((lows t ws).map V.int).length : Nat) : Int).toNat) (fun j H5 => Same H4 H5 ∧ H5 D = some (.lst ((ownL j S).map fun k : Nat => V.int (k : Int)))) ⟨same_upd nD, upd_same⟩ (fun j H5 hj hP => ?_) (fun H5 hP => ?_)
      · obtain ⟨sm, eD⟩ := hP
        rw [Int.toNat_natCast, List.length_map, ll] at hj
        have z0 : (0 : Int) + (j : Int) = j := Int.zero_add _
        have g1 : ((bump (lows t ws) S).map V.int)[j]? = some (.int ((lows t ws).getD j 0 + if j ∈ S then 1 else 0)) := by
          rw [List.getElem?_map, bump_get (by omega)]
          rfl
        refine ⟨rfl, ?_⟩
        refine ⟨_, rfl, _, rfl, To, _, _, _, rfl, rfl, .inl (.inl (sm _ _ eTo4)), (by rw [z0]; exact atI_nat g1), _, rfl, _, rfl, Lo, _, _, _, rfl, rfl, .inl (.inl (sm _ _ eLo4)), (by rw [z0]; exact atI_nat (gInt (by omega))), rfl, _, rfl, ite2 (fun c => ?_) (fun c => ?_)⟩
        · have c' := V.int.inj (of_decide_eq_true c)
          have nj : j ∉ S := fun z => by
            rw [if_pos z] at c'
            omega
          refine ⟨_, rfl, _, eD, ?_, same_new nD sm, ?_⟩
          · rw [List.length_map]
            have := ownL_len j S
            exact small1000 (by omega)
          · rw [upd_same, ownL_more, if_pos nj, z0]
        · have nj : ¬ j ∉ S := fun z => c (decide_eq_true (by rw [if_neg z, Int.add_zero]))
          refine ⟨sm, ?_⟩
          rw [ownL_more, if_neg nj, List.append_nil]
          exact eD
      obtain ⟨s5, eD⟩ := hP
      rw [Int.toNat_natCast, List.length_map, ll] at eD
      have ol := ownL_len ws.length S
      have eLe5 := s5 _ _ eLe4
      have eTo5 := s5 _ _ eTo4
      show tSeq _ _ _ [some (.int t), some (.ref a), some (.int ws.sum), some (.ref Lo), some (.ref Le), some (.ref To), some (.int (0 + (i : Int))), some (.ref D), y8, none, none] _
      -- bar
      refine ⟨_, rfl, D, rfl, ⟨_, .inl (.inl eD)⟩, fun D2 nD2 => ?_⟩
      refine lc_list (xs := (ownL ws.length S).map fun k : Nat => V.int (k : Int)) (fun j H6 => Same H5 H6 ∧ H6 D2 = some (.lst ((((ownL ws.length S).take j).map fun k => (rsts t ws).getD k 0).map V.int))) ⟨same_upd nD2, upd_same⟩ ?_ ?_ ?_
      · rintro j H6 _ ⟨sm, _⟩
        exact .inl (.inl (sm _ _ eD))
      · rintro j x H6 hx ⟨sm, eD2⟩
        obtain ⟨k, hk, rfl⟩ := map_get hx
        obtain ⟨kl, _⟩ := ownL_mem.mp (List.mem_of_getElem? hk)
        refine ⟨rfl, yes (iteT ?_)⟩
        refine ⟨_, rfl, _, rfl, Le, _, _, _, rfl, rfl, .inl (.inl (sm _ _ eLe5)), atI_nat (gInt (by omega)), _, eD2, ?_, same_new nD2 sm, ?_⟩
        · rw [List.length_map, List.length_map]
          have := List.length_take_le' j (ownL ws.length S)
          exact small1000 (by omega)
        · rw [upd_same, map_take_more hk, List.map_append]
          rfl
      rintro H6 ⟨s6, eD2⟩
      rw [List.length_map, List.take_length] at eD2
      refine ⟨D2, _, rfl, .inl (.inl eD2), ?_, fun m hm hmax => ?_⟩
      · rw [List.length_map]
        exact List.length_pos_of_mem bm
      have em : m = (rsts t ws).getD b 0 := by
        have h1 := hmax ((rsts t ws).getD b 0) (List.mem_map.mpr ⟨b, bm, rfl⟩)
        obtain ⟨k, hk, rfl⟩ := List.mem_map.mp hm
        have h2 := ble k hk
        omega
      subst em
      have eD6 := s6 _ _ eD
      have eLe6 := s6 _ _ eLe5
      have eTo6 := s6 _ _ eTo5
      refine ⟨_, rfl, _, rfl, D, rfl, ⟨_, .inl (.inl eD6)⟩, fun D3 nD3 => ?_⟩
      refine lc_list (xs := (ownL ws.length S).map fun k : Nat => V.int (k : Int)) (fun j H7 => Same H6 H7 ∧ H7 D3 = some (.lst ((((ownL ws.length S).take j).filter fun k => decide ((rsts t ws).getD k 0 = (rsts t ws).getD b 0)).map fun k : Nat => V.int (k : Int)))) ⟨same_upd nD3, upd_same⟩ ?_ ?_ ?_
      · rintro j H7 _ ⟨sm, _⟩
        exact .inl (.inl (sm _ _ eD6))
      · rintro j x H7 hx ⟨sm, eD3⟩
        obtain ⟨k, hk, rfl⟩ := map_get hx
        obtain ⟨kl, _⟩ := ownL_mem.mp (List.mem_of_getElem? hk)
        have fm := filt_more (p := fun k => decide ((rsts t ws).getD k 0 = (rsts t ws).getD b 0)) (f := fun k : Nat => V.int (k : Int)) hk
        refine ⟨rfl, ?_⟩
        refine ⟨_, rfl, _, rfl, Le, _, _, _, rfl, rfl, .inl (.inl (sm _ _ eLe6)), atI_nat (gInt (by omega)), _, rfl, rfl, _, rfl, ite2 (fun c => ?_) (fun c => ?_)⟩
        · have c' := V.int.inj (of_decide_eq_true c)
          rw [if_pos (decide_eq_true c')] at fm
          refine ⟨_, rfl, _, eD3, ?_, same_new nD3 sm, ?_⟩
          · rw [List.length_map]
            have := List.length_filter_le (fun k => decide ((rsts t ws).getD k 0 = (rsts t ws).getD b 0)) ((ownL ws.length S).take j)
            have := List.length_take_le' j (ownL ws.length S)
            exact small1000 (by omega)
          · rw [upd_same, fm]
        · have c' : ¬ decide ((rsts t ws).getD k 0 = (rsts t ws).getD b 0) = true := fun z => c (decide_eq_true (congrArg V.int (of_decide_eq_true z)))
          rw [if_neg c', List.append_nil] at fm
          exact ⟨sm, by rw [fm]; exact eD3⟩
      rintro H7 ⟨s7, eD3⟩
      rw [List.length_map, List.take_length] at eD3
      have g0 : ((((ownL ws.length S).filter fun k => decide ((rsts t ws).getD k 0 = (rsts t ws).getD b 0)).map fun k : Nat => V.int (k : Int)))[0]? = some (.int (b : Int)) := by
        rw [List.getElem?_map, bfi]
        rfl
      have eTo7 := s7 _ _ eTo6
      have gb : ((bump (lows t ws) S).map V.int)[b]? = some (.int ((lows t ws).getD b 0)) := by
        rw [List.getElem?_map, bump_get (by omega), if_neg nb, Int.add_zero]
        rfl
      refine ⟨D3, _, 0, .int (b : Int), rfl, rfl, .inl (.inl eD3), atI_nat (j := 0) g0, ?_⟩
      refine ⟨To, _, b, _, rfl, rfl, .inl (.inl eTo7), gb, _, _, rfl, rfl, To, _, _, b, rfl, rfl, eTo7, ixN_nat (by rw [List.length_map, bump_len]; omega), ?_⟩
      refine ⟨_, _, _, rfl, ?_, ?_⟩
      · exact (k4.same (s5.trans (s6.trans s7))).trans But.upd
      · rw [upd_same, take_more ea, hS, ← bump_more (by omega) nb, List.map_set]
    · rintro σ H4 ⟨y6, y7, y8, rfl, k4, eTo4⟩
      rw [Int.toNat_natCast] at eTo4
      have eLe4 := k4 _ _ nLeTo eLe3
      refine ⟨_, rfl, _, rfl, _, rfl, by show (3 : Nat) ≤ sizeLine; decide, fun r nr => ?_⟩
      have sr := same_upd (o := .tup [.ref Lo, .ref Le, .ref To]) nr
      exact q _ r Lo Le To ((but_new nTo0 (s1.trans (s2.trans s3)) k4).trans sr) upd_same (sr _ _ eLe4) (sr _ _ eTo4)
/-! ### _law_right -/
def spRi (K : PySem.W.Frag) : Sp := fun vs H Q _ => ∃ (a : Addr) (t : Int) (ws : List Int), vs = [.int t, .ref a] ∧ SqT K H a (ws.map V.int) ∧ OkW t ws ∧ ∀ H', Same H H' → Q (.bl true) H'
theorem ok_ri {f fP fS fR : Addr} {fd fdP fdS fdR : FuncData} (F : Fun K "_law_right" "_law_right" sRi f fd)
    (GP : FnOk P w K mg base CX0 1 fP fdP ["_law_total_here", "_law_weights_here"] (spPa K)) (kP : PySem.W.keepIn K (.ref fP) = true) (bP : Binds K fdP ["_law_total_here", "_law_weights_here"] []) (gP : mg "_law_parts" = some (.ref fP))
    (GS : FnOk P w K mg base CX0 3 fS fdS ["total", "weights"] (spL K parts)) (kS : PySem.W.keepIn K (.ref fS) = true) (bS : Binds K fdS ["total", "weights"] []) (gS : mg "split" = some (.ref fS))
    (GR : FnOk P w K mg base CX0 2 fR fdR ["total", "weights"] (spL K rsts)) (kR : PySem.W.keepIn K (.ref fR) = true) (bR : Binds K fdR ["total", "weights"] []) (gR : mg "rests" = some (.ref fR))
    (m_isinstance : mg "isinstance" = none) (m_tuple : mg "tuple" = none) (m_repr : mg "repr" = none) : FnG P w K mg base CX0 4 f fd ["_law_total_here", "_law_weights_here"] (spRi K) := by
  refine gok F scRi (fun vs H Q E h => ?_) (fun cdv A gd outer s H vs Q E hr h => ?_)
  · obtain ⟨a, t, ws, rfl, _⟩ := h
    rfl
  · obtain ⟨a, t, ws, rfl, hA, ok, q⟩ := h
    refine ⟨_, (pss_cons (ps_asg (pe_call GP (hr.mono (by decide)) (by rfl) gP kP bP .nil pass0 (pa_cons (pv 0) (pa_cons (pv 1) pa_nil))) (pg_tup rfl (pgs_cons (pg_name (i := 2) scRi.nd rfl (.inl rfl)) (pgs_cons (pg_name (i := 3) scRi.nd rfl (.inl rfl)) (pgs_cons (pg_name (i := 4) scRi.nd rfl (.inl rfl)) pgs_nil)))))
      (pss_cons (ps_set (i := 5) scRi.nd rfl (.inl rfl) (pe_call GS (hr.mono (by decide)) (by rfl) gS kS bS .nil pass0 (pa_cons (pv 0) (pa_cons (pv 1) pa_nil))))
      (pss_cons (ps_if (PW.pt (pw_or (pt_not (pt_val (pe_callB call_isi (by rfl) m_isinstance (by decide +kernel) (pa_cons (pv 5) (pa_cons (pe_bltn (v := .ty "tuple") (u := .type "tuple") (by rfl) m_tuple (by decide +kernel) rfl) pa_nil))))) (pw_or1 (pt_cmpR op_ne (pe_callB (call_reprT gd hr.units) (by rfl) m_repr (by decide +kernel) (pa_cons (pv 5) pa_nil)) (pe_callB (call_reprT gd hr.units) (by rfl) m_repr (by decide +kernel) (pa_cons (pe_callTy call_tuple_of (by rfl) m_tuple (by decide +kernel) (pa_cons (pv 4) pa_nil)) pa_nil)) (nomark _))))) (pss_one (ps_ret pe_bl)) pss_nil)
      (pss_one (ps_ret (pe_cmpR op_eq (pe_callB (call_reprT gd hr.units) (by rfl) m_repr (by decide +kernel) (pa_cons (pe_call GR (hr.mono (by decide)) (by rfl) gR kR bR .nil pass0 (pa_cons (pv 0) (pa_cons (pv 1) pa_nil))) pa_nil)) (pe_callB (call_reprT gd hr.units) (by rfl) m_repr (by decide +kernel) (pa_cons (pe_callTy call_tuple_of (by rfl) m_tuple (by decide +kernel) (pa_cons (pv 3) pa_nil)) pa_nil)) (nomark _))))))), ?_⟩
    have n1 := ok.n1
    have shP : Sh 1 200000 (.tuple (dInts (parts t ws))) := sh_ints (fun v hv => by have := part_bound ok hv; omega) (by rw [parts_len]; omega)
    have shR : Sh 1 200000 (.tuple (dInts (rsts t ws))) := sh_ints (fun v hv => by have := rst_bound ok hv; omega) (by rw [rsts_len]; omega)
    have sz : 200000 ≤ sizeLine := by rw [sizeLine_eq]; decide
    refine ⟨_, rfl, _, rfl, a, t, ws, rfl, hA, ok, fun H1 r x y z s1 er ey ez => ?_⟩
    refine ⟨r, _, rfl, .inl (.inl er), rfl, _, _, rfl, _, _, rfl, _, _, rfl, rfl, ?_⟩
    show tSeq _ _ _ [some (.int t), some (.ref a), some (.ref x), some (.ref y), some (.ref z), none] _
    refine ⟨_, rfl, _, rfl, a, t, ws, rfl, TB.Same.tup s1 hA, ok, fun H2 p s2 np ep => ?_⟩
    show tSeq _ _ _ [some (.int t), some (.ref a), some (.ref x), some (.ref y), some (.ref z), some (.ref p)] _
    have hp : SqT K H2 p ((parts t ws).map V.int) := .inl (.inl ep)
    refine ⟨_, rfl, _, .ty "tuple", .type "tuple", .type "tuple", true, rfl, .ty _, ty_tup hp, kit_ty (by decide +kernel), _, rfl, ?_⟩
    refine iteF ?_
    refine ⟨_, rfl, p, .tuple (dInts (parts t ws)), rfl, .tup hp (dp_ints _), shP.sh, shP.nd, Nat.le_trans shP.dp (by omega), Nat.le_trans shP.ln sz, ?_⟩
    refine ⟨_, rfl, z, _, rfl, .inl ⟨.inl (.inl (s2 _ _ ez)), fun u nu => ?_⟩⟩
    have s3 := same_upd (o := .tup ((parts t ws).map V.int)) nu
    refine ⟨u, .tuple (dInts (parts t ws)), rfl, .tup (.inl (.inl upd_same)) (dp_ints _), shP.sh, shP.nd, Nat.le_trans shP.dp (by omega), Nat.le_trans shP.ln sz, rfl, _, rfl, ?_⟩
    change ite _ _ _
    refine iteNS rfl ?_
    have s13 := s1.trans (s2.trans s3)
    refine ⟨_, rfl, _, rfl, a, t, ws, rfl, TB.Same.tup s13 hA, ok, fun H4 v s4 nv ev => ?_⟩
    refine ⟨v, .tuple (dInts (rsts t ws)), rfl, .tup (.inl (.inl ev)) (dp_ints _), shR.sh, shR.nd, Nat.le_trans shR.dp (by omega), Nat.le_trans shR.ln sz, ?_⟩
    refine ⟨_, rfl, y, _, rfl, .inl ⟨.inl (.inl (s4 _ _ (s3 _ _ (s2 _ _ ey)))), fun b nb => ?_⟩⟩
    refine ⟨b, .tuple (dInts (rsts t ws)), rfl, .tup (.inl (.inl upd_same)) (dp_ints _), shR.sh, shR.nd, Nat.le_trans shR.dp (by omega), Nat.le_trans shR.ln sz, rfl, ?_⟩
    show Q (.bl (decide (V.str (txt (.tuple (dInts (rsts t ws)))) = V.str (txt (.tuple (dInts (rsts t ws))))))) _
    rw [decide_eq_true rfl]
    exact q _ (s13.trans (s4.trans (same_upd nb)))
end
end K09

set_option Elab.async false
set_option linter.all false
set_option maxRecDepth 100000
set_option maxHeartbeats 2000000
namespace TB
open PySem PySem.Spec PyProof.Rows L2
section
variable {X : Cx} {CX : CXT} {k : Nat} {f : Addr} {fd : FuncData} {ps : List Str} {sp : Sp} {dvs : List V} {ds : List Value} {E : XK} {x : Str} {p pos : Pos}
/-- f() of such a def -/
theorem pe_call0G (F : FnG X.prog X.w X.K X.mg X.base CX k f fd ps sp) (gd : X.A.guards = some []) (hr : Room k X.A) (hg : Gl X x) (hm : X.mg x = some (.ref f))
    (hk : PySem.W.keepIn X.K (.ref f) = true) (hb : Binds X.K fd ps ds) (hd : Vals dvs ds) (hx : Passes CX X E)
    (hdb : (x == ("__debug__" : Str)) = false := by decide) : PE X (.Call (.Name x p) [] [] pos) (tCall sp dvs E tNil) := by
  constructor
  intro pins s σ H Q I h
  refine wpAny_Call_Name_kw (ld_glob I hg hm ?_ hdb)
  have hl : ds.length = ps.length := hd.length.symm.trans (F.len _ _ _ _ h)
  refine PySem.W.callWith_K0 I.kIn hk ?_
  refine wpAny_call (codeAny_mono (F.run X.A gd hr X.stack s H I.env0 ⟨[], []⟩ _ _ (hb s [] I.kIn hl) hd Q E h) ?_)
  intro res s' hq
  match res, hq with
  | .error e, hq => exact hx pins σ H s e s' I hq
  | .ok (.ret u), hq => exact I.after hq
  | .ok .next, hq => exact hq.elim
  | .ok .brk, hq => exact hq.elim
  | .ok .cont, hq => exact hq.elim
end
end TB
namespace K09
open PySem PySem.Spec PyProof.Rows L2 TB

theorem scHa : FnScope ["_law_cases", "_law_total_here", "_law_weights_here", "_law_parts_here"] [] (defScope sHa) := ⟨rfl, rfl, rfl, by decide +kernel, rfl, by decide +kernel, by decide +kernel⟩
theorem scLaw : FnScope ["_law_script", "_law_feed_here", "_law_turn", "_law_weights_here", "_law_total_here", "_law_kept"] ["_law_script"] (defScope sLaw) := ⟨rfl, rfl, rfl, by decide +kernel, rfl, by decide +kernel, by decide +kernel⟩
/-! ### by hand -/
theorem parts_of {t : Int} {ws : List Int} {l : List Nat} (p : l.Perm (List.range (rsts t ws).length)) (s : l.Pairwise fun a b => leR (rsts t ws) a b = true) : parts t ws = bump (lows t ws) (l.take (odd t ws)) := by
  unfold parts
  rw [ats_eq p s]
theorem ok1 : OkW 10 [1, 1, 1] := ⟨by decide, by decide, by decide, by decide, by decide, by decide⟩
theorem pt1 : [4, 3, 3] = parts 10 [1, 1, 1] := ((parts_of (l := [0, 1, 2]) (by decide) (by decide)).trans (by decide)).symm
theorem ok2 : OkW 11 [1, 1, 1] := ⟨by decide, by decide, by decide, by decide, by decide, by decide⟩
theorem pt2 : [4, 4, 3] = parts 11 [1, 1, 1] := ((parts_of (l := [0, 1, 2]) (by decide) (by decide)).trans (by decide)).symm
theorem ok3 : OkW 5 [0, 3, 0] := ⟨by decide, by decide, by decide, by decide, by decide, by decide⟩
theorem pt3 : [0, 5, 0] = parts 5 [0, 3, 0] := ((parts_of (l := [0, 1, 2]) (by decide) (by decide)).trans (by decide)).symm
theorem ok4 : OkW 1 [1, 2, 2] := ⟨by decide, by decide, by decide, by decide, by decide, by decide⟩
theorem pt4 : [0, 1, 0] = parts 1 [1, 2, 2] := ((parts_of (l := [1, 2, 0]) (by decide) (by decide)).trans (by decide)).symm
theorem ok5 : OkW 3 [2, 2, 1] := ⟨by decide, by decide, by decide, by decide, by decide, by decide⟩
theorem pt5 : [1, 1, 1] = parts 3 [2, 2, 1] := ((parts_of (l := [2, 0, 1]) (by decide) (by decide)).trans (by decide)).symm
theorem ok6 : OkW 0 [5] := ⟨by decide, by decide, by decide, by decide, by decide, by decide⟩
theorem pt6 : [0] = parts 0 [5] := ((parts_of (l := [0]) (by decide) (by decide)).trans (by decide)).symm
theorem ok7 : OkW 7 [3, 2, 1] := ⟨by decide, by decide, by decide, by decide, by decide, by decide⟩
theorem pt7 : [4, 2, 1] = parts 7 [3, 2, 1] := ((parts_of (l := [0, 1, 2]) (by decide) (by decide)).trans (by decide)).symm
def Case (H : Hp) (x : V) : Prop := ∃ (T A B : Addr) (t : Int) (ws : List Int), x = .ref T ∧ H T = some (.tup [.int t, .ref A, .ref B]) ∧ H A = some (.tup (ws.map V.int)) ∧ H B = some (.tup ((parts t ws).map V.int)) ∧ OkW t ws
theorem Case.same {H H' : Hp} {x : V} (h : Case H x) (s : Same H H') : Case H' x := by
  obtain ⟨T, A, B, t, ws, e, a, b, c, d⟩ := h
  exact ⟨T, A, B, t, ws, e, s _ _ a, s _ _ b, s _ _ c, d⟩
theorem Case.but {H H' : Hp} {x : V} {C : Addr} {zs : List V} (h : Case H x) (k : But C H H') (eC : H C = some (.lst zs)) : Case H' x := by
  obtain ⟨T, A, B, t, ws, e, a, b, c, d⟩ := h
  exact ⟨T, A, B, t, ws, e, k _ _ (ne_of a eC fun z => nomatch z) a, k _ _ (ne_of b eC fun z => nomatch z) b, k _ _ (ne_of c eC fun z => nomatch z) c, d⟩
theorem case_new {H : Hp} {a b c : Addr} {t : Int} {us vs : List V} {ws ps : List Int} (na : H a = none) (nb : upd H a (.tup us) b = none) (nc : upd (upd H a (.tup us)) b (.tup vs) c = none) (eu : us = ws.map V.int) (ev : vs = ps.map V.int) (ok : OkW t ws) (e : ps = parts t ws) :
    Same H (upd (upd (upd H a (.tup us)) b (.tup vs)) c (.tup [.int t, .ref a, .ref b])) ∧ Case (upd (upd (upd H a (.tup us)) b (.tup vs)) c (.tup [.int t, .ref a, .ref b])) (.ref c) := by
  have s1 := same_upd (o := .tup us) na
  have s2 := same_upd (o := .tup vs) nb
  have s3 := same_upd (o := .tup [.int t, .ref a, .ref b]) nc
  refine ⟨s1.trans (s2.trans s3), c, a, b, t, ws, rfl, upd_same, ?_, ?_, ok⟩
  · rw [← eu]
    exact s3 _ _ (s2 _ _ upd_same)
  · rw [← e, ← ev]
    exact s3 _ _ upd_same
theorem shaped_tup (ns : List Int) : SeqAt.shaped (.tuple (dInts ns)) = true := by
  have h : ∀ ms : List Int, PyData.canLayAll0 (dInts ms) = true ∧ PyData.depthAll (dInts ms) = 0 := by
    intro ms
    induction ms with
    | nil => exact ⟨rfl, rfl⟩
    | cons m ms ih => exact ⟨by simpa [dInts, PyData.canLayAll0, PyData.canLay0] using ih.1, by simpa [dInts, PyData.depthAll, PyData.depth] using ih.2⟩
  unfold SeqAt.shaped
  simp only [PyData.canLay0, PyData.depth, (h ns).1, (h ns).2]
  decide
theorem eqv_tup (ns : List Int) : PyData.eqv (.tuple (dInts ns)) (.tuple (dInts ns)) = true := by
  have h : ∀ ms : List Int, PyData.eqvAll (dInts ms) (dInts ms) = true := by
    intro ms
    induction ms with
    | nil => rfl
    | cons m ms ih => simpa [dInts, PyData.eqvAll, PyData.eqv] using ih
  simpa [PyData.eqv] using h ns
section
variable {P : Program} {w : World} {K : PySem.W.Frag} {mg : Str → Option Value} {base : Heap}
def spHa : Sp := fun vs H Q _ => vs = [] ∧ ∀ H', Same H H' → Q (.bl true) H'
theorem ok_ha {f fS fRi fR : Addr} {fd fdS fdRi fdR : FuncData} (F : Fun K "_law_by_hand" "_law_by_hand" sHa f fd)
    (GS : FnOk P w K mg base CX0 3 fS fdS ["total", "weights"] (spL K parts)) (kS : PySem.W.keepIn K (.ref fS) = true) (bS : Binds K fdS ["total", "weights"] []) (gS : mg "split" = some (.ref fS))
    (GRi : FnG P w K mg base CX0 4 fRi fdRi ["_law_total_here", "_law_weights_here"] (spRi K)) (kRi : PySem.W.keepIn K (.ref fRi) = true) (bRi : Binds K fdRi ["_law_total_here", "_law_weights_here"] []) (gRi : mg "_law_right" = some (.ref fRi))
    (GR : FnOk P w K mg base CX0 2 fR fdR ["total", "weights"] (spL K rsts)) (kR : PySem.W.keepIn K (.ref fR) = true) (bR : Binds K fdR ["total", "weights"] []) (gR : mg "rests" = some (.ref fR)) :
    FnG P w K mg base CX0 5 f fd [] spHa := by
  refine gok F scHa (fun vs H Q E h => ?_) (fun cdv A gd outer s H vs Q E hr h => ?_)
  · obtain ⟨rfl, _⟩ := h
    rfl
  · obtain ⟨rfl, q⟩ := h
    refine ⟨_, (pss_cons (ps_set (i := 0) scHa.nd rfl (.inl rfl) (pe_lst (pa_cons (pe_tup (pa_cons pe_int (pa_cons (pe_tup (pa_cons pe_int (pa_cons pe_int (pa_cons pe_int pa_nil)))) (pa_cons (pe_tup (pa_cons pe_int (pa_cons pe_int (pa_cons pe_int pa_nil)))) pa_nil)))) (pa_cons (pe_tup (pa_cons pe_int (pa_cons (pe_tup (pa_cons pe_int (pa_cons pe_int (pa_cons pe_int pa_nil)))) (pa_cons (pe_tup (pa_cons pe_int (pa_cons pe_int (pa_cons pe_int pa_nil)))) pa_nil)))) (pa_cons (pe_tup (pa_cons pe_int (pa_cons (pe_tup (pa_cons pe_int (pa_cons pe_int (pa_cons pe_int pa_nil)))) (pa_cons (pe_tup (pa_cons pe_int (pa_cons pe_int (pa_cons pe_int pa_nil)))) pa_nil)))) pa_nil)))))
      (pss_cons (ps_expr (pe_bm PySem.F.plainAttrs_list PySem.F.slot_list_extend PySem.F.type_list_extend mt_extend (pv 0) (pa_cons (pe_lst (pa_cons (pe_tup (pa_cons pe_int (pa_cons (pe_tup (pa_cons pe_int (pa_cons pe_int (pa_cons pe_int pa_nil)))) (pa_cons (pe_tup (pa_cons pe_int (pa_cons pe_int (pa_cons pe_int pa_nil)))) pa_nil)))) (pa_cons (pe_tup (pa_cons pe_int (pa_cons (pe_tup (pa_cons pe_int (pa_cons pe_int (pa_cons pe_int pa_nil)))) (pa_cons (pe_tup (pa_cons pe_int (pa_cons pe_int (pa_cons pe_int pa_nil)))) pa_nil)))) (pa_cons (pe_tup (pa_cons pe_int (pa_cons (pe_tup (pa_cons pe_int pa_nil)) (pa_cons (pe_tup (pa_cons pe_int pa_nil)) pa_nil)))) (pa_cons (pe_tup (pa_cons pe_int (pa_cons (pe_tup (pa_cons pe_int (pa_cons pe_int (pa_cons pe_int pa_nil)))) (pa_cons (pe_tup (pa_cons pe_int (pa_cons pe_int (pa_cons pe_int pa_nil)))) pa_nil)))) pa_nil))))) pa_nil)))
      (pss_cons (ps_for PassesOwn.never rfl (pi_list (pv 0)) (pg_tup rfl (pgs_cons (pg_name (i := 1) scHa.nd rfl (.inl rfl)) (pgs_cons (pg_name (i := 2) scHa.nd rfl (.inl rfl)) (pgs_cons (pg_name (i := 3) scHa.nd rfl (.inl rfl)) pgs_nil)))) (pss_one (ps_if (PW.pt (pw_or (pt_cmpR (op_neD hr.units) (pe_call GS (hr.mono (by decide)) (by rfl) gS kS bS .nil pass0 (pa_cons (pv 1) (pa_cons (pv 2) pa_nil))) (pv 3) (nomark _)) (pw_or1 (pt_not (pt_val (pe_callG GRi gd (hr.mono (by decide)) (by rfl) gRi kRi bRi .nil pass0 (pa_cons (pv 1) (pa_cons (pv 2) pa_nil)))))))) (pss_one (ps_ret pe_bl)) pss_nil)))
      (pss_one (ps_ret (pe_and (pe_cmpR (op_eqD hr.units) (pe_call GR (hr.mono (by decide)) (by rfl) gR kR bR .nil pass0 (pa_cons pe_int (pa_cons (pe_tup (pa_cons pe_int (pa_cons pe_int (pa_cons pe_int pa_nil)))) pa_nil))) (pe_tup (pa_cons pe_int (pa_cons pe_int (pa_cons pe_int pa_nil)))) (nomark _)) (pe_one (pe_cmpR (op_eqD hr.units) (pe_call GR (hr.mono (by decide)) (by rfl) gR kR bR .nil pass0 (pa_cons pe_int (pa_cons (pe_tup (pa_cons pe_int (pa_cons pe_int (pa_cons pe_int pa_nil)))) pa_nil))) (pe_tup (pa_cons pe_int (pa_cons pe_int (pa_cons pe_int pa_nil)))) (nomark _))))))))), ?_⟩
    refine ⟨by show (3 : Nat) ≤ sizeLine; decide, fun a1 na1 => ⟨by show (3 : Nat) ≤ sizeLine; decide, fun b1 nb1 => ⟨by show (3 : Nat) ≤ sizeLine; decide, fun c1 nc1 => ?_⟩⟩⟩
    obtain ⟨s1, q1⟩ := case_new (t := 10) (ws := [1, 1, 1]) (ps := [4, 3, 3]) na1 nb1 nc1 rfl rfl ok1 pt1
    generalize hh1 : upd (upd (upd H a1 (.tup [.int 1, .int 1, .int 1])) b1 (.tup [.int 4, .int 3, .int 3])) c1 (.tup [.int 10, .ref a1, .ref b1]) = H1 at *
    refine ⟨by show (3 : Nat) ≤ sizeLine; decide, fun a2 na2 => ⟨by show (3 : Nat) ≤ sizeLine; decide, fun b2 nb2 => ⟨by show (3 : Nat) ≤ sizeLine; decide, fun c2 nc2 => ?_⟩⟩⟩
    obtain ⟨s2, q2⟩ := case_new (t := 11) (ws := [1, 1, 1]) (ps := [4, 4, 3]) na2 nb2 nc2 rfl rfl ok2 pt2
    generalize hh2 : upd (upd (upd H1 a2 (.tup [.int 1, .int 1, .int 1])) b2 (.tup [.int 4, .int 4, .int 3])) c2 (.tup [.int 11, .ref a2, .ref b2]) = H2 at *
    refine ⟨by show (3 : Nat) ≤ sizeLine; decide, fun a3 na3 => ⟨by show (3 : Nat) ≤ sizeLine; decide, fun b3 nb3 => ⟨by show (3 : Nat) ≤ sizeLine; decide, fun c3 nc3 => ?_⟩⟩⟩
    obtain ⟨s3, q3⟩ := case_new (t := 5) (ws := [0, 3, 0]) (ps := [0, 5, 0]) na3 nb3 nc3 rfl rfl ok3 pt3
    generalize hh3 : upd (upd (upd H2 a3 (.tup [.int 0, .int 3, .int 0])) b3 (.tup [.int 0, .int 5, .int 0])) c3 (.tup [.int 5, .ref a3, .ref b3]) = H3 at *
    refine ⟨by show (3 : Nat) ≤ sizeLine; decide, fun C nC => ?_⟩
    have sC := same_upd (o := .lst [.ref c1, .ref c2, .ref c3]) nC
    have eC : (upd H3 C (.lst [.ref c1, .ref c2, .ref c3])) C = some (.lst [.ref c1, .ref c2, .ref c3]) := upd_same
    have sC0 : Same H (upd H3 C (.lst [.ref c1, .ref c2, .ref c3])) := s1.trans (s2.trans (s3.trans sC))
    have nC0 : H C = none := (s1.trans (s2.trans s3)).free nC
    have r1 := q1.same (s2.trans (s3.trans sC))
    have r2 := q2.same (s3.trans sC)
    have r3 := q3.same sC
    generalize upd H3 C (.lst [.ref c1, .ref c2, .ref c3]) = HC at *
    refine ⟨_, rfl, .inl ⟨rfl, _, .inl (.inl eC)⟩, ?_⟩
    refine ⟨by show (3 : Nat) ≤ sizeLine; decide, fun a4 na4 => ⟨by show (3 : Nat) ≤ sizeLine; decide, fun b4 nb4 => ⟨by show (3 : Nat) ≤ sizeLine; decide, fun c4 nc4 => ?_⟩⟩⟩
    obtain ⟨s4, q4⟩ := case_new (t := 1) (ws := [1, 2, 2]) (ps := [0, 1, 0]) na4 nb4 nc4 rfl rfl ok4 pt4
    generalize hh4 : upd (upd (upd HC a4 (.tup [.int 1, .int 2, .int 2])) b4 (.tup [.int 0, .int 1, .int 0])) c4 (.tup [.int 1, .ref a4, .ref b4]) = H4 at *
    refine ⟨by show (3 : Nat) ≤ sizeLine; decide, fun a5 na5 => ⟨by show (3 : Nat) ≤ sizeLine; decide, fun b5 nb5 => ⟨by show (3 : Nat) ≤ sizeLine; decide, fun c5 nc5 => ?_⟩⟩⟩
    obtain ⟨s5, q5⟩ := case_new (t := 3) (ws := [2, 2, 1]) (ps := [1, 1, 1]) na5 nb5 nc5 rfl rfl ok5 pt5
    generalize hh5 : upd (upd (upd H4 a5 (.tup [.int 2, .int 2, .int 1])) b5 (.tup [.int 1, .int 1, .int 1])) c5 (.tup [.int 3, .ref a5, .ref b5]) = H5 at *
    refine ⟨by show (1 : Nat) ≤ sizeLine; decide, fun a6 na6 => ⟨by show (1 : Nat) ≤ sizeLine; decide, fun b6 nb6 => ⟨by show (3 : Nat) ≤ sizeLine; decide, fun c6 nc6 => ?_⟩⟩⟩
    obtain ⟨s6, q6⟩ := case_new (t := 0) (ws := [5]) (ps := [0]) na6 nb6 nc6 rfl rfl ok6 pt6
    generalize hh6 : upd (upd (upd H5 a6 (.tup [.int 5])) b6 (.tup [.int 0])) c6 (.tup [.int 0, .ref a6, .ref b6]) = H6 at *
    refine ⟨by show (3 : Nat) ≤ sizeLine; decide, fun a7 na7 => ⟨by show (3 : Nat) ≤ sizeLine; decide, fun b7 nb7 => ⟨by show (3 : Nat) ≤ sizeLine; decide, fun c7 nc7 => ?_⟩⟩⟩
    obtain ⟨s7, q7⟩ := case_new (t := 7) (ws := [3, 2, 1]) (ps := [4, 2, 1]) na7 nb7 nc7 rfl rfl ok7 pt7
    generalize hh7 : upd (upd (upd H6 a7 (.tup [.int 3, .int 2, .int 1])) b7 (.tup [.int 4, .int 2, .int 1])) c7 (.tup [.int 7, .ref a7, .ref b7]) = H7 at *
    refine ⟨by show (4 : Nat) ≤ sizeLine; decide, fun D nD => ?_⟩
    have sD := same_upd (o := .lst [.ref c4, .ref c5, .ref c6, .ref c7]) nD
    have eD : (upd H7 D (.lst [.ref c4, .ref c5, .ref c6, .ref c7])) D = some (.lst [.ref c4, .ref c5, .ref c6, .ref c7]) := upd_same
    have sCD : Same HC (upd H7 D (.lst [.ref c4, .ref c5, .ref c6, .ref c7])) := s4.trans (s5.trans (s6.trans (s7.trans sD)))
    have u4 := q4.same (s5.trans (s6.trans (s7.trans sD)))
    have u5 := q5.same (s6.trans (s7.trans sD))
    have u6 := q6.same (s7.trans sD)
    have u7 := q7.same sD
    generalize upd H7 D (.lst [.ref c4, .ref c5, .ref c6, .ref c7]) = HD at *
    have eC2 := sCD _ _ eC
    refine ⟨C, D, _, _, rfl, rfl, eC2, eD, by show (7 : Nat) ≤ sizeLine; decide, ?_⟩
    have kE : But C HD (upd HD C (.lst ([.ref c1, .ref c2, .ref c3] ++ [.ref c4, .ref c5, .ref c6, .ref c7]))) := But.upd
    have eE : (upd HD C (.lst ([.ref c1, .ref c2, .ref c3] ++ [.ref c4, .ref c5, .ref c6, .ref c7]))) C = some (.lst [.ref c1, .ref c2, .ref c3, .ref c4, .ref c5, .ref c6, .ref c7]) := upd_same
    have sE : Same H (upd HD C (.lst ([.ref c1, .ref c2, .ref c3] ++ [.ref c4, .ref c5, .ref c6, .ref c7]))) := but_new nC0 (sC0.trans sCD) kE
    have w1 := (r1.same sCD).but kE eC2
    have w2 := (r2.same sCD).but kE eC2
    have w3 := (r3.same sCD).but kE eC2
    have w4 := u4.but kE eC2
    have w5 := u5.but kE eC2
    have w6 := u6.but kE eC2
    have w7 := u7.but kE eC2
    generalize upd HD C (.lst ([.ref c1, .ref c2, .ref c3] ++ [.ref c4, .ref c5, .ref c6, .ref c7])) = HE at *
    have all : ∀ x ∈ [V.ref c1, V.ref c2, V.ref c3, V.ref c4, V.ref c5, V.ref c6, V.ref c7], Case HE x := fun x hx => by
      simp only [List.mem_cons, List.not_mem_nil, or_false] at hx
      rcases hx with rfl | rfl | rfl | rfl | rfl | rfl | rfl
      · exact w1
      · exact w2
      · exact w3
      · exact w4
      · exact w5
      · exact w6
      · exact w7
    generalize [V.ref c1, V.ref c2, V.ref c3, V.ref c4, V.ref c5, V.ref c6, V.ref c7] = us at *
    refine ⟨.ref C, rfl, C, rfl, ⟨_, .inl (.inl eE)⟩, ?_⟩
    refine for_list (xs := us) (fun i σ G1 => ∃ y1 y2 y3, σ = [some (.ref C), y1, y2, y3] ∧ Same HE G1) ⟨_, _, _, rfl, Same.refl _⟩ ?_ ?_ ?_
    · rintro i σ G1 _ ⟨y1, y2, y3, rfl, g1⟩
      exact .inl (.inl (g1 _ _ eE))
    · rintro i x σ G1 hx ⟨y1, y2, y3, rfl, g1⟩
      obtain ⟨T, A, B, t, ws, rfl, eT, eA, eB, ok⟩ := (all x (List.mem_of_getElem? hx)).same g1
      refine ⟨T, _, rfl, .inl (.inl eT), rfl, _, _, rfl, _, _, rfl, _, _, rfl, rfl, ?_⟩
      refine ⟨_, rfl, _, rfl, A, t, ws, rfl, .inl (.inl eA), ok, fun G2 p g2 np ep => ⟨_, rfl, ?_⟩⟩
      refine ⟨.tuple (dInts (parts t ws)), .tuple (dInts (parts t ws)), .tup (.inl (.inl ep)) (dp_ints _), .tup (.inl (.inl (g2 _ _ eB))) (dp_ints _), shaped_tup _, shaped_tup _, _, rfl, ?_⟩
      rw [eqv_tup]
      refine iteF ?_
      refine ⟨_, rfl, _, rfl, A, t, ws, rfl, .inl (.inl (g2 _ _ eA)), ok, fun G3 g3 => ⟨true, rfl, ?_⟩⟩
      exact iteF ⟨_, _, _, rfl, g1.trans (g2.trans g3)⟩
    · rintro σ G1 ⟨y1, y2, y3, rfl, g1⟩
      refine ⟨by show (3 : Nat) ≤ sizeLine; decide, fun a na => ?_⟩
      refine ⟨a, 10, [1, 1, 1], rfl, .inl (.inl upd_same), ok1, fun G2 r g2 nr er => ?_⟩
      rw [show rsts 10 [1, 1, 1] = [1, 1, 1] by decide] at er
      refine ⟨by show (3 : Nat) ≤ sizeLine; decide, fun b nb => ?_⟩
      have g3 := same_upd (o := .tup [.int 1, .int 1, .int 1]) nb
      refine ⟨.tuple (dInts [1, 1, 1]), .tuple (dInts [1, 1, 1]), .tup (.inl (.inl (g3 _ _ er))) (dp_ints _), .tup (.inl (.inl upd_same)) (dp_ints [1, 1, 1]), shaped_tup _, shaped_tup _, _, rfl, ?_⟩
      rw [eqv_tup]
      refine iteT ?_
      refine ⟨by show (3 : Nat) ≤ sizeLine; decide, fun c nc => ?_⟩
      refine ⟨c, 7, [3, 2, 1], rfl, .inl (.inl upd_same), ok7, fun G4 v g4 nv ev => ?_⟩
      rw [show rsts 7 [3, 2, 1] = [3, 2, 1] by decide] at ev
      refine ⟨by show (3 : Nat) ≤ sizeLine; decide, fun d nd => ?_⟩
      have g5 := same_upd (o := .tup [.int 3, .int 2, .int 1]) nd
      refine ⟨.tuple (dInts [3, 2, 1]), .tuple (dInts [3, 2, 1]), .tup (.inl (.inl (g5 _ _ ev))) (dp_ints _), .tup (.inl (.inl upd_same)) (dp_ints [3, 2, 1]), shaped_tup _, shaped_tup _, ?_⟩
      rw [eqv_tup]
      exact q _ (sE.trans (g1.trans ((same_upd na).trans (g2.trans (g3.trans ((same_upd nc).trans (g4.trans g5)))))))
/-! ### the law -/
def spLaw (K : PySem.W.Frag) : Sp := fun vs H Q _ => ∃ (a : Addr) (ns : List Int), vs = [.ref a] ∧ SqL K H a (ns.map V.int) ∧ ns.length ≤ 63 ∧ ∀ H', Q (.bl true) H'
theorem ok_law {f fFd fR fW fT fRi fHa : Addr} {fd fdFd fdR fdW fdT fdRi fdHa : FuncData} (F : Fun K "law" "law" sLaw f fd)
    (GFd : FnOk P w K mg base CX0 1 fFd fdFd ["_law_script"] (spFeed K)) (kFd : PySem.W.keepIn K (.ref fFd) = true) (bFd : Binds K fdFd ["_law_script"] []) (gFd : mg "_law_feed" = some (.ref fFd))
    (GDr : FnOk P w K mg base CX0 1 fR fdR ["_law_feed_here", "_law_many"] spDraw) (kDr : PySem.W.keepIn K (.ref fR) = true) (bDr : Binds K fdR ["_law_feed_here", "_law_many"] []) (gDr : mg "_law_draw" = some (.ref fR))
    (GW : FnOk P w K mg base CX0 2 fW fdW ["_law_feed_here", "_law_many"] spWe) (kW : PySem.W.keepIn K (.ref fW) = true) (bW : Binds K fdW ["_law_feed_here", "_law_many"] []) (gW : mg "_law_weights" = some (.ref fW))
    (GT : FnOk P w K mg base CX0 2 fT fdT ["_law_feed_here", "_law_weights_here"] spTo) (kT : PySem.W.keepIn K (.ref fT) = true) (bT : Binds K fdT ["_law_feed_here", "_law_weights_here"] []) (gT : mg "_law_total" = some (.ref fT))
    (GRi : FnG P w K mg base CX0 4 fRi fdRi ["_law_total_here", "_law_weights_here"] (spRi K)) (kRi : PySem.W.keepIn K (.ref fRi) = true) (bRi : Binds K fdRi ["_law_total_here", "_law_weights_here"] []) (gRi : mg "_law_right" = some (.ref fRi))
    (GHa : FnG P w K mg base CX0 5 fHa fdHa [] spHa) (kHa : PySem.W.keepIn K (.ref fHa) = true) (bHa : Binds K fdHa [] []) (gHa : mg "_law_by_hand" = some (.ref fHa))
    (m_range : mg "range" = none) (m_repr : mg "repr" = none) (m_min : mg "min" = none) : FnG P w K mg base CX0 6 f fd ["_law_script"] (spLaw K) := by
  refine gok F scLaw (fun vs H Q E h => ?_) (fun cdv A gd outer s H vs Q E hr h => ?_)
  · obtain ⟨a, ns, rfl, _⟩ := h
    rfl
  · obtain ⟨a, ns, rfl, hS, hlen, q⟩ := h
    refine ⟨_, (pss_cons (ps_set (i := 1) scLaw.nd rfl (.inl rfl) (pe_call GFd (hr.mono (by decide)) (by rfl) gFd kFd bFd .nil pass0 (pa_cons (pv 0) pa_nil)))
      (pss_cons (ps_for PassesOwn.never rfl (pi_range1 (by rfl) m_range (pa_cons pe_int pa_nil)) (pg_name (i := 2) scLaw.nd rfl (.inl rfl)) (pss_cons (ps_set (i := 3) scLaw.nd rfl (.inl rfl) (pe_call GW (hr.mono (by decide)) (by rfl) gW kW bW .nil pass0 (pa_cons (pv 1) (pa_cons (pe_ix ix_tup (pe_tup (pa_cons pe_int (pa_cons pe_int pa_nil))) (pe_call GDr (hr.mono (by decide)) (by rfl) gDr kDr bDr .nil pass0 (pa_cons (pv 1) (pa_cons pe_int pa_nil))) (fun _ _ => rfl)) pa_nil))))
      (pss_cons (ps_set (i := 4) scLaw.nd rfl (.inl rfl) (pe_call GT (hr.mono (by decide)) (by rfl) gT kT bT .nil pass0 (pa_cons (pv 1) (pa_cons (pv 3) pa_nil))))
      (pss_cons (ps_set (i := 5) scLaw.nd rfl (.inl rfl) (pe_callB (call_reprT gd hr.units) (by rfl) m_repr (by decide +kernel) (pa_cons (pv 3) pa_nil)))
      (pss_one (ps_if (PW.pt (pw_or (pt_not (pt_val (pe_callG GRi gd (hr.mono (by decide)) (by rfl) gRi kRi bRi .nil pass0 (pa_cons (pe_callB (call_min2 rfl) (by rfl) m_min (by decide +kernel) (pa_cons (pv 4) (pa_cons (pe_op op_pow pe_int pe_int) pa_nil))) (pa_cons (pv 3) pa_nil))))) (pw_or1 (pt_cmpR op_ne (pe_callB (call_reprT gd hr.units) (by rfl) m_repr (by decide +kernel) (pa_cons (pv 3) pa_nil)) (pv 5) (nomark _))))) (pss_one (ps_ret pe_bl)) pss_nil))))))
      (pss_one (ps_ret (pe_call0G GHa gd (hr.mono (by decide)) (by rfl) gHa kHa bHa .nil pass0))))), ?_⟩
    have sz : 200000 ≤ sizeLine := by rw [sizeLine_eq]; decide
    refine ⟨_, rfl, a, ns, rfl, hS, by omega, fun H0 L S s0 nL f0 => ?_⟩
    refine ⟨8, rfl, by decide, by decide, ?_⟩
    refine for_range (lo := 0) (n := (8 : Int).toNat) (fun i σ H1 => ∃ y2 y3 y4 y5, σ = [some (.ref a), some (.ref L), y2, y3, y4, y5] ∧ Feed H1 L S (200 * i)) ⟨_, _, _, _, rfl, f0.mono (by omega)⟩ ?_ ?_
    · rintro i σ H1 hi ⟨y2, y3, y4, y5, rfl, f1⟩
      have hi' : i < 8 := hi
      generalize hTT : 200 * (i : Int) = T at f1
      have hT : T < 2000 := by omega
      refine ⟨_, rfl, by show (2 : Nat) ≤ sizeLine; decide, fun tp ntp => ?_⟩
      have s2 := same_upd (o := .tup [.int 12, .int 4]) ntp
      have etp : (upd H1 tp (.tup [.int 12, .int 4])) tp = some (.tup [.int 12, .int 4]) := upd_same
      have ntL := (f1.ne ntp).1
      have f2 := f1.same s2
      generalize upd H1 tp (.tup [.int 12, .int 4]) = H2 at *
      refine ⟨_, rfl, L, S, 2, _, rfl, by decide, by decide, f2, by omega, fun H3 v3 k3 f3 l3 u3 => ?_⟩
      have etp3 := k3 _ _ ntL etp
      obtain ⟨m, hm, m0, m1⟩ : ∃ m : Int, atI [V.int 12, V.int 4] v3 = some (.int m) ∧ 0 < m ∧ m ≤ 12 := by
        have c : v3 = 0 ∨ v3 = 1 := by omega
        rcases c with rfl | rfl
        · exact ⟨12, rfl, by decide, by decide⟩
        · exact ⟨4, rfl, by decide, by decide⟩
      refine ⟨tp, _, v3, .int m, rfl, rfl, .inl (.inl etp3), hm, L, S, m, _, rfl, m0, m1, f3, by omega, fun H4 r ws k4 f4 er hws => ?_⟩
      have nrL : r ≠ L := by
        obtain ⟨z, ez⟩ := f4.there
        exact ne_of er ez fun z => nomatch z
      show tSeq _ _ _ [some (.ref a), some (.ref L), some (.int (0 + (i : Int))), some (.ref r), y4, y5] _
      refine ⟨_, rfl, _, rfl, L, S, r, _, ws, rfl, f4, by omega, er, hws, fun H5 t k5 f5 t0 t1 => ?_⟩
      have er5 := k5 _ _ nrL er
      have hr5 : SqT K H5 r (ws.map V.int) := .inl (.inl er5)
      have shW : Sh 1 200000 (.tuple (dInts ws)) := sh_ints (fun v hv => by have := hws.w0 v hv; omega) (by have := hws.n1; omega)
      show tSeq _ _ _ [some (.ref a), some (.ref L), some (.int (0 + (i : Int))), some (.ref r), some (.int t), y5] _
      refine ⟨_, rfl, r, .tuple (dInts ws), rfl, .tup hr5 (dp_ints _), shW.sh, shW.nd, Nat.le_trans shW.dp (by omega), Nat.le_trans shW.ln sz, ?_⟩
      have far : (10 : Int) ^ Int.toNat 12 = 1000000000000 := by decide
      have et : (if (10 : Int) ^ Int.toNat 12 < t then (10 : Int) ^ Int.toNat 12 else t) = t := by
        rw [far, if_neg (by omega)]
      refine ⟨_, rfl, _, _, rfl, rfl, ⟨by decide, by decide, by decide⟩, t, (10 : Int) ^ Int.toNat 12, rfl, ?_⟩
      rw [et]
      refine ⟨_, rfl, r, t, ws, rfl, hr5, hws.ok t0 t1, fun H6 s6 => ⟨true, rfl, iteF ?_⟩⟩
      have hr6 := TB.Same.tup s6 hr5
      refine ⟨_, rfl, r, .tuple (dInts ws), rfl, .tup hr6 (dp_ints _), shW.sh, shW.nd, Nat.le_trans shW.dp (by omega), Nat.le_trans shW.ln sz, _, rfl, rfl, _, rfl, ?_⟩
      change ite _ _ _
      refine iteNS rfl ?_
      exact ⟨_, _, _, _, rfl, (f5.same s6).mono (by omega)⟩
    · rintro σ H1 ⟨y2, y3, y4, y5, rfl, _⟩
      exact ⟨rfl, fun H' _ => q H'⟩
end
end K09

set_option Elab.async false
set_option linter.all false
set_option maxRecDepth 100000
namespace K09
open PySem PySem.Spec PyProof.Rows L2 TB
theorem all_mk {l : PySem.W.OpenLaw} {w : World} {K : PySem.W.Frag} {h : Heap} {mg : Str → Option Value} {fa : Addr} (X : K.In h) (G : h.Ns mainGlobals mg) (hfa : mg "law" = some (.ref fa))
    {f1 : Addr} {od1 an1 : Option Addr} {sl1 : Array (Option Value)} {oc1 kV1 dc1 pm1 cd1 ct1 : Value}
    {f2 : Addr} {od2 an2 : Option Addr} {sl2 : Array (Option Value)} {oc2 kV2 dc2 pm2 cd2 ct2 : Value}
    {f3 : Addr} {od3 an3 : Option Addr} {sl3 : Array (Option Value)} {oc3 kV3 dc3 pm3 cd3 ct3 : Value}
    {f4 : Addr} {od4 an4 : Option Addr} {sl4 : Array (Option Value)} {oc4 kV4 dc4 pm4 cd4 ct4 : Value}
    {f5 : Addr} {od5 an5 : Option Addr} {sl5 : Array (Option Value)} {oc5 kV5 dc5 pm5 cd5 ct5 : Value}
    {f6 : Addr} {od6 an6 : Option Addr} {sl6 : Array (Option Value)} {oc6 kV6 dc6 pm6 cd6 ct6 : Value}
    {f7 : Addr} {od7 an7 : Option Addr} {sl7 : Array (Option Value)} {oc7 kV7 dc7 pm7 cd7 ct7 : Value}
    {f8 : Addr} {od8 an8 : Option Addr} {sl8 : Array (Option Value)} {oc8 kV8 dc8 pm8 cd8 ct8 : Value}
    {f9 : Addr} {od9 an9 : Option Addr} {sl9 : Array (Option Value)} {oc9 kV9 dc9 pm9 cd9 ct9 : Value}
    {f10 : Addr} {od10 an10 : Option Addr} {sl10 : Array (Option Value)} {oc10 kV10 dc10 pm10 cd10 ct10 : Value}
    {f11 : Addr} {od11 an11 : Option Addr} {sl11 : Array (Option Value)} {oc11 kV11 dc11 pm11 cd11 ct11 : Value}
    (a1 : PySem.W.nsIn K mainGlobals "cuts" = some (some (.ref f1)))
    (l1 : K.lookup f1 = some ⟨oc1, od1, .func (PySem.W.fnOf "cuts" "cuts" (defArgs sCu) (defBody sCu) (defScope sCu) .none kV1 dc1 pm1 an1 cd1 ct1), sl1⟩)
    (c1 : PySem.W.codeIn K cd1 "cuts" = true) (k1 : PySem.W.keepIn K (.ref f1) = true)
    (a2 : PySem.W.nsIn K mainGlobals "rests" = some (some (.ref f2)))
    (l2 : K.lookup f2 = some ⟨oc2, od2, .func (PySem.W.fnOf "rests" "rests" (defArgs sRe) (defBody sRe) (defScope sRe) .none kV2 dc2 pm2 an2 cd2 ct2), sl2⟩)
    (c2 : PySem.W.codeIn K cd2 "rests" = true) (k2 : PySem.W.keepIn K (.ref f2) = true)
    (a3 : PySem.W.nsIn K mainGlobals "split" = some (some (.ref f3)))
    (l3 : K.lookup f3 = some ⟨oc3, od3, .func (PySem.W.fnOf "split" "split" (defArgs sSp) (defBody sSp) (defScope sSp) .none kV3 dc3 pm3 an3 cd3 ct3), sl3⟩)
    (c3 : PySem.W.codeIn K cd3 "split" = true) (k3 : PySem.W.keepIn K (.ref f3) = true)
    (a4 : PySem.W.nsIn K mainGlobals "_law_feed" = some (some (.ref f4)))
    (l4 : K.lookup f4 = some ⟨oc4, od4, .func (PySem.W.fnOf "_law_feed" "_law_feed" (defArgs sFeed) (defBody sFeed) (defScope sFeed) .none kV4 dc4 pm4 an4 cd4 ct4), sl4⟩)
    (c4 : PySem.W.codeIn K cd4 "_law_feed" = true) (k4 : PySem.W.keepIn K (.ref f4) = true)
    (a5 : PySem.W.nsIn K mainGlobals "_law_draw" = some (some (.ref f5)))
    (l5 : K.lookup f5 = some ⟨oc5, od5, .func (PySem.W.fnOf "_law_draw" "_law_draw" (defArgs sDraw) (defBody sDraw) (defScope sDraw) .none kV5 dc5 pm5 an5 cd5 ct5), sl5⟩)
    (c5 : PySem.W.codeIn K cd5 "_law_draw" = true) (k5 : PySem.W.keepIn K (.ref f5) = true)
    (a6 : PySem.W.nsIn K mainGlobals "_law_weights" = some (some (.ref f6)))
    (l6 : K.lookup f6 = some ⟨oc6, od6, .func (PySem.W.fnOf "_law_weights" "_law_weights" (defArgs sWe) (defBody sWe) (defScope sWe) .none kV6 dc6 pm6 an6 cd6 ct6), sl6⟩)
    (c6 : PySem.W.codeIn K cd6 "_law_weights" = true) (k6 : PySem.W.keepIn K (.ref f6) = true)
    (a7 : PySem.W.nsIn K mainGlobals "_law_total" = some (some (.ref f7)))
    (l7 : K.lookup f7 = some ⟨oc7, od7, .func (PySem.W.fnOf "_law_total" "_law_total" (defArgs sTo) (defBody sTo) (defScope sTo) .none kV7 dc7 pm7 an7 cd7 ct7), sl7⟩)
    (c7 : PySem.W.codeIn K cd7 "_law_total" = true) (k7 : PySem.W.keepIn K (.ref f7) = true)
    (a8 : PySem.W.nsIn K mainGlobals "_law_parts" = some (some (.ref f8)))
    (l8 : K.lookup f8 = some ⟨oc8, od8, .func (PySem.W.fnOf "_law_parts" "_law_parts" (defArgs sPa) (defBody sPa) (defScope sPa) .none kV8 dc8 pm8 an8 cd8 ct8), sl8⟩)
    (c8 : PySem.W.codeIn K cd8 "_law_parts" = true) (k8 : PySem.W.keepIn K (.ref f8) = true)
    (a9 : PySem.W.nsIn K mainGlobals "_law_right" = some (some (.ref f9)))
    (l9 : K.lookup f9 = some ⟨oc9, od9, .func (PySem.W.fnOf "_law_right" "_law_right" (defArgs sRi) (defBody sRi) (defScope sRi) .none kV9 dc9 pm9 an9 cd9 ct9), sl9⟩)
    (c9 : PySem.W.codeIn K cd9 "_law_right" = true) (k9 : PySem.W.keepIn K (.ref f9) = true)
    (a10 : PySem.W.nsIn K mainGlobals "_law_by_hand" = some (some (.ref f10)))
    (l10 : K.lookup f10 = some ⟨oc10, od10, .func (PySem.W.fnOf "_law_by_hand" "_law_by_hand" (defArgs sHa) (defBody sHa) (defScope sHa) .none kV10 dc10 pm10 an10 cd10 ct10), sl10⟩)
    (c10 : PySem.W.codeIn K cd10 "_law_by_hand" = true) (k10 : PySem.W.keepIn K (.ref f10) = true)
    (a11 : PySem.W.nsIn K mainGlobals "law" = some (some (.ref f11)))
    (l11 : K.lookup f11 = some ⟨oc11, od11, .func (PySem.W.fnOf "law" "law" (defArgs sLaw) (defBody sLaw) (defScope sLaw) .none kV11 dc11 pm11 an11 cd11 ct11), sl11⟩)
    (c11 : PySem.W.codeIn K cd11 "law" = true) (k11 : PySem.W.keepIn K (.ref f11) = true)
    (z_sum : PySem.W.nsIn K mainGlobals "sum" = some none)
    (z_tuple : PySem.W.nsIn K mainGlobals "tuple" = some none)
    (z_zip : PySem.W.nsIn K mainGlobals "zip" = some none)
    (z_list : PySem.W.nsIn K mainGlobals "list" = some none)
    (z_sorted : PySem.W.nsIn K mainGlobals "sorted" = some none)
    (z_enumerate : PySem.W.nsIn K mainGlobals "enumerate" = some none)
    (z_len : PySem.W.nsIn K mainGlobals "len" = some none)
    (z_range : PySem.W.nsIn K mainGlobals "range" = some none)
    (z_max : PySem.W.nsIn K mainGlobals "max" = some none)
    (z_min : PySem.W.nsIn K mainGlobals "min" = some none)
    (z_isinstance : PySem.W.nsIn K mainGlobals "isinstance" = some none)
    (z_repr : PySem.W.nsIn K mainGlobals "repr" = some none) :
    ∃ fd : FuncData, (∀ (s : Shared) (v : Value), BindsTo s fd ⟨[v], []⟩ [("_law_script", v)]) ∧ ∀ base : Heap, K.In base → base.Ns mainGlobals mg → FnG l.prog w K mg base CX0 6 fa fd ["_law_script"] (spLaw K) := by
  have e := hfa.symm.trans (PySem.W.mg_of X G a11)
  cases e
  have F1 := fun_mk (st := sCu) l1 c1 k1
  have b1 := F1.binds (ps := ["total", "weights"]) fun _ _ _ _ _ _ us hl => match us, hl with | [_, _], _ => rfl
  have g1 := PySem.W.mg_of X G a1
  have F2 := fun_mk (st := sRe) l2 c2 k2
  have b2 := F2.binds (ps := ["total", "weights"]) fun _ _ _ _ _ _ us hl => match us, hl with | [_, _], _ => rfl
  have g2 := PySem.W.mg_of X G a2
  have F3 := fun_mk (st := sSp) l3 c3 k3
  have b3 := F3.binds (ps := ["total", "weights"]) fun _ _ _ _ _ _ us hl => match us, hl with | [_, _], _ => rfl
  have g3 := PySem.W.mg_of X G a3
  have F4 := fun_mk (st := sFeed) l4 c4 k4
  have b4 := F4.binds (ps := ["_law_script"]) fun _ _ _ _ _ _ us hl => match us, hl with | [_], _ => rfl
  have g4 := PySem.W.mg_of X G a4
  have F5 := fun_mk (st := sDraw) l5 c5 k5
  have b5 := F5.binds (ps := ["_law_feed_here", "_law_many"]) fun _ _ _ _ _ _ us hl => match us, hl with | [_, _], _ => rfl
  have g5 := PySem.W.mg_of X G a5
  have F6 := fun_mk (st := sWe) l6 c6 k6
  have b6 := F6.binds (ps := ["_law_feed_here", "_law_many"]) fun _ _ _ _ _ _ us hl => match us, hl with | [_, _], _ => rfl
  have g6 := PySem.W.mg_of X G a6
  have F7 := fun_mk (st := sTo) l7 c7 k7
  have b7 := F7.binds (ps := ["_law_feed_here", "_law_weights_here"]) fun _ _ _ _ _ _ us hl => match us, hl with | [_, _], _ => rfl
  have g7 := PySem.W.mg_of X G a7
  have F8 := fun_mk (st := sPa) l8 c8 k8
  have b8 := F8.binds (ps := ["_law_total_here", "_law_weights_here"]) fun _ _ _ _ _ _ us hl => match us, hl with | [_, _], _ => rfl
  have g8 := PySem.W.mg_of X G a8
  have F9 := fun_mk (st := sRi) l9 c9 k9
  have b9 := F9.binds (ps := ["_law_total_here", "_law_weights_here"]) fun _ _ _ _ _ _ us hl => match us, hl with | [_, _], _ => rfl
  have g9 := PySem.W.mg_of X G a9
  have F10 := fun_mk (st := sHa) l10 c10 k10
  have b10 := F10.binds (ps := []) fun _ _ _ _ _ _ us hl => match us, hl with | [], _ => rfl
  have g10 := PySem.W.mg_of X G a10
  have F11 := fun_mk (st := sLaw) l11 c11 k11
  have b11 := F11.binds (ps := ["_law_script"]) fun _ _ _ _ _ _ us hl => match us, hl with | [_], _ => rfl
  have g11 := PySem.W.mg_of X G a11
  have m_sum := PySem.W.mg_none_of X G z_sum
  have m_tuple := PySem.W.mg_none_of X G z_tuple
  have m_zip := PySem.W.mg_none_of X G z_zip
  have m_list := PySem.W.mg_none_of X G z_list
  have m_sorted := PySem.W.mg_none_of X G z_sorted
  have m_enumerate := PySem.W.mg_none_of X G z_enumerate
  have m_len := PySem.W.mg_none_of X G z_len
  have m_range := PySem.W.mg_none_of X G z_range
  have m_max := PySem.W.mg_none_of X G z_max
  have m_min := PySem.W.mg_none_of X G z_min
  have m_isinstance := PySem.W.mg_none_of X G z_isinstance
  have m_repr := PySem.W.mg_none_of X G z_repr
  refine ⟨PySem.W.fnOf "law" "law" (defArgs sLaw) (defBody sLaw) (defScope sLaw) .none kV11 dc11 pm11 an11 cd11 ct11, fun s v => .of_eq rfl, fun base _ _ => ?_⟩
  have GC := ok_cu (P := l.prog) (w := w) (mg := mg) (base := base) (k := 0) F1 m_sum m_tuple
  have GR := ok_re (P := l.prog) (w := w) (base := base) F2 GC k1 b1 g1 m_sum m_tuple m_zip
  have GS := ok_sp (P := l.prog) (w := w) (base := base) F3 GC k1 b1 g1 GR k2 b2 g2 m_list m_sum m_sorted m_enumerate m_tuple
  have GFd := ok_feed (P := l.prog) (w := w) (mg := mg) (base := base) (k := 0) F4
  have GDr := ok_draw (P := l.prog) (w := w) (mg := mg) (base := base) (k := 0) F5 m_len
  have GW := ok_we (P := l.prog) (w := w) (base := base) F6 GDr k5 b5 g5 m_range m_sum m_len m_tuple
  have GT := ok_to (P := l.prog) (w := w) (base := base) F7 GDr k5 b5 g5 m_sum m_len
  have GP := ok_pa (P := l.prog) (w := w) (mg := mg) (base := base) (k := 0) F8 m_sum m_zip m_list m_range m_len m_max
  have GRi := ok_ri (P := l.prog) (w := w) (base := base) F9 GP k8 b8 g8 GS k3 b3 g3 GR k2 b2 g2 m_isinstance m_tuple m_repr
  have GHa := ok_ha (P := l.prog) (w := w) (base := base) F10 GS k3 b3 g3 GRi k9 b9 g9 GR k2 b2 g2
  exact ok_law F11 GFd k4 b4 g4 GDr k5 b5 g5 GW k6 b6 g6 GT k7 b7 g7 GRi k9 b9 g9 GHa k10 b10 g10 m_range m_repr m_min
end K09
open PySem PySem.W PyProof.Rows
set_option maxHeartbeats 0 in
theorem PySem.Challenge.cw_tablebills_k09_splits_told_holds : PySem.Challenge.rw_tablebills_k09_splits_told.Holds := by
  w_on; o_law; k_head; (case hw => w_witness2)
  k_fill
  refine TB.walkG (l := PySem.Challenge.rw_tablebills_k09_splits_told) (n := 63) (k := 6) (x := "_law_script") (sp := fun w => K09.spLaw _) rfl (by decide) rfl (fun w h Y => PySem.W.kIn_of Y) ⟨rfl, by decide, by decide⟩ ?F (fun _ _ a ns hl hS => ⟨a, ns, rfl, hS, hl, fun _ => rfl⟩)
  case F =>
    intro w mg fa h KX G hmg
    refine' K09.all_mk KX G hmg ?a1 ?l1 ?c1 ?k1 ?a2 ?l2 ?c2 ?k2 ?a3 ?l3 ?c3 ?k3 ?a4 ?l4 ?c4 ?k4 ?a5 ?l5 ?c5 ?k5 ?a6 ?l6 ?c6 ?k6 ?a7 ?l7 ?c7 ?k7 ?a8 ?l8 ?c8 ?k8 ?a9 ?l9 ?c9 ?k9 ?a10 ?l10 ?c10 ?k10 ?a11 ?l11 ?c11 ?k11 ?z_sum ?z_tuple ?z_zip ?z_list ?z_sorted ?z_enumerate ?z_len ?z_range ?z_max ?z_min ?z_isinstance ?z_repr
    (case a1 => k_is); (case l1 => k_is); (case c1 => k_is); (case k1 => k_is); (case a2 => k_is); (case l2 => k_is); (case c2 => k_is); (case k2 => k_is); (case a3 => k_is); (case l3 => k_is); (case c3 => k_is); (case k3 => k_is); (case a4 => k_is); (case l4 => k_is); (case c4 => k_is); (case k4 => k_is); (case a5 => k_is); (case l5 => k_is); (case c5 => k_is); (case k5 => k_is); (case a6 => k_is); (case l6 => k_is); (case c6 => k_is); (case k6 => k_is); (case a7 => k_is); (case l7 => k_is); (case c7 => k_is); (case k7 => k_is); (case a8 => k_is); (case l8 => k_is); (case c8 => k_is); (case k8 => k_is); (case a9 => k_is); (case l9 => k_is); (case c9 => k_is); (case k9 => k_is); (case a10 => k_is); (case l10 => k_is); (case c10 => k_is); (case k10 => k_is); (case a11 => k_is); (case l11 => k_is); (case c11 => k_is); (case k11 => k_is); (case z_sum => k_is); (case z_tuple => k_is); (case z_zip => k_is); (case z_list => k_is); (case z_sorted => k_is); (case z_enumerate => k_is); (case z_len => k_is); (case z_range => k_is); (case z_max => k_is); (case z_min => k_is); (case z_isinstance => k_is); (case z_repr => k_is)
