import PyProof.Rows.All
import Wide.All
import OpenK.AllK
import Wide.FinOn
import HandS.ForMost
import HandS.Wide
import HandS.Defaults
import HandS.Flow
import HandS.Style
import HandS.IsInst
import HandS.MakeKw
import HandS.Zip
import HandS.TupAny
import HandS.RaiseMore
import KE.GoesMore
import HandS.Walk
import KE.GoesEnum
import HandS.SortRule
import HandS.ForExc
import HandS.ExcInit
import PySem.Challenge.RW_tablebills_k11_whole_no_nearer_split
set_option Elab.async false
set_option linter.all false
set_option maxRecDepth 100000
namespace TB
open PySem PySem.Spec PyProof.Rows L2

/-! A def's promise, where no repr is under way around it. -/
section
variable (P : Program) (w : World) (K : PySem.W.Frag) (mg : Str → Option Value) (base : Heap)
structure FnG (CX : CXT) (k : Nat) (f : Addr) (fd : FuncData) (ps : List Str) (sp : Sp) : Prop where
  len : ∀ xs G R Z, sp xs G R Z → xs.length = ps.length
  run : ∀ (A : Around), A.guards = some [] → Room k A →
    ∀ (outer : List Env) (s : Shared) (H : Hp), Env0 P w K mg base A outer s H →
    ∀ (args : Args) (us : List Value) (vs : List V), BindsTo s fd args (ps.zip us) → Vals vs us →
    ∀ (Q : VK) (E : XK), sp vs H Q E →
      codeAny (model P w) A (Code.call (Value.ref f) args)
        (CR CX outer P w H s Q E) s
end

section
variable {P : Program} {w : World} {K : PySem.W.Frag} {mg : Str → Option Value} {base : Heap} {CX : CXT}
theorem FnG.of {k : Nat} {f : Addr} {fd : FuncData} {ps : List Str} {sp : Sp}
    (F : FnOk P w K mg base CX k f fd ps sp) : FnG P w K mg base CX k f fd ps sp :=
  ⟨F.len, fun A _ hr outer s H e0 args us vs hb r Q E h => F.run A outer s H args us vs Q E hr e0 hb r h⟩

/-- the body's walk gives the promise -/
theorem gfn {k : Nat} {f : Addr} {nm qual : Str} {prm : Arguments} {bd : List Stmt} {sc : Scope} {dV kV doc pm cdv ct oc : Value} {an od : Option Addr}
    {osl : Array (Option Value)} {N : List Str} {ps : List Str} {sp : Sp}
    (lk : K.lookup f = some ⟨oc, od, .func (PySem.W.fnOf nm qual prm bd sc dV kV doc pm an cdv ct), osl⟩)
    (hcd : PySem.W.codeIn K cdv qual = true) (S : FnScope N ps sc) (len : ∀ vs H Q E, sp vs H Q E → vs.length = ps.length)
    (walk : ∀ (A : Around), A.guards = some [] → ∀ (outer : List Env) (s : Shared) (H : Hp) (vs : List V) (Q : VK) (E : XK),
      Room k (A.deeper (envOfC qual sc s.heap.objs.size f cdv)) → sp vs H Q E →
      ∃ t, PSs (cxOf CX P w K mg base N qual sc f cdv A outer s H E) bd t ∧ t ⟨fun _ H' => Q .non H', Q, fun _ _ => False, fun _ _ => False⟩ (start N vs) H) :
    FnG P w K mg base CX (k + 1) f (PySem.W.fnOf nm qual prm bd sc dV kV doc pm an cdv ct) ps sp := by
  constructor
  · exact len
  intro A hg hr outer s H e0 args us vs hb r Q E hsp
  have keeps : ∀ b o, base.get? b = some o → s.heap.get? b = some o := fun b o e => (e0.bs b o e).1
  have KX : K.In s.heap := e0.mod.kin.keeps keeps
  have lim : s.heap.NoLimit := e0.mod.nolimit.keeps keeps
  obtain ⟨t, ht, hq⟩ := walk A hg outer s H vs Q E (hr.deeper _) hsp
  have crec := PySem.W.codeRec_of KX hcd
  refine codeAny_call_function hr.depth (KX _ _ lk) rfl S.co S.gen rfl crec (hb _ _ _ _ ?_)
  refine wpAny_newFunctionEnv_cells S.kind ?_ ?_
  · rintro ⟨n, v⟩ hy
    have q := S.par n (List.of_mem_zip hy).1
    cases q with
    | inl q => exact Or.inl q
    | inr q => exact Or.inr ⟨q, PySem.W.cellsFrom_some _ _ _ (Or.inl q)⟩
  · intro env he s1 x
    cases he
    have I := inv_start (CX := CX) (P := P) (w := w) (mg := mg) (N := N) (qual := qual) (f := f) (cd := cdv) (E := E) S hr.hd e0 (len _ _ _ _ hsp) r x
    refine ⟨lim.keeps x.toInCall.keep, codeAny_func (wpAny_mono (ht.run [] s1 (start N vs) H _ I hq) ?_ (fun e s' hs => hs))⟩
    intro fl s' hs
    match fl, hs with
    | .ret u, ⟨v, _, H', J, rv, q⟩ => exact ⟨v, H', J.os, J.bare, J.base, J.hok, rv, q⟩
    | .next, ⟨_, H', J, q⟩ => exact ⟨V.non, H', J.os, J.bare, J.base, J.hok, rfl, q⟩
    | .brk, ⟨_, _, _, q⟩ => exact q.elim
    | .cont, ⟨_, _, _, q⟩ => exact q.elim

theorem gok {x qual : Str} {st : Stmt} {f : Addr} {fd : FuncData} {N ps : List Str} {k : Nat} {sp : Sp} (F : Fun K x qual st f fd)
    (S : FnScope N ps (defScope st)) (len : ∀ vs H Q E, sp vs H Q E → vs.length = ps.length)
    (walk : ∀ (cdv : Value) (A : Around), A.guards = some [] → ∀ (outer : List Env) (s : Shared) (H : Hp) (vs : List V) (Q : VK) (E : XK),
      Room k (A.deeper (envOfC qual (defScope st) s.heap.objs.size f cdv)) → sp vs H Q E →
      ∃ t, PSs (cxOf CX0 P w K mg base N qual (defScope st) f cdv A outer s H E).nox (defBody st) t ∧
        t ⟨fun _ H' => Q .non H', Q, fun _ _ => False, fun _ _ => False⟩ (start N vs) H) :
    FnG P w K mg base CX0 (k + 1) f fd ps sp := by
  obtain ⟨_, _, _, _, _, _, cdv, _, _, rfl, lk, hcd⟩ := F.ex
  refine gfn lk hcd S len fun A hg outer s H vs Q E hr hsp => ?_
  obtain ⟨t, a, b⟩ := walk cdv A hg outer s H vs Q E hr hsp
  exact ⟨t, a.nox, b⟩
end

section
variable {X : Cx} {CX : CXT} {k : Nat} {f : Addr} {fd : FuncData} {ps : List Str} {sp : Sp} {dvs : List V} {ds : List Value} {E : XK} {x : Str} {p pos : Pos} {e : Expr} {es : List Expr} {t : TA}
/-- f(e, ..) of such a def -/
theorem pe_callG (F : FnG X.prog X.w X.K X.mg X.base CX k f fd ps sp) (gd : X.A.guards = some []) (hr : Room k X.A) (hg : Gl X x) (hm : X.mg x = some (.ref f))
    (hk : PySem.W.keepIn X.K (.ref f) = true) (hb : Binds X.K fd ps ds) (hd : Vals dvs ds) (hx : Passes CX X E) (ha : PA X (e :: es) t)
    (he : starEach (e :: es) X.env = (false, eval e X.env) :: starEach es X.env := by rfl) (hdb : (x == ("__debug__" : Str)) = false := by decide)
    (hpl : (backTo pos (starEach es X.env)).any (·.1) = false := by rfl) : PE X (.Call (.Name x p) (e :: es) [] pos) (tCall sp dvs E t) := by
  constructor
  intro pins s σ H Q I h
  refine wpAny_Call_Name_kw (ld_glob I hg hm (PySem.W.callWith_K (h₀ := X.base) I.ok.mod.kin hk (thn (ha.run pos pins s σ H _ I h) ?_) he hpl) hdb)
  rintro us s1 ⟨vs, H1, I1, r, q⟩
  have r2 := r.append hd
  have hl : (us ++ ds).length = ps.length := r2.length.symm.trans (F.len _ _ _ _ q)
  refine ⟨I1.kIn, wpAny_call (codeAny_mono (F.run X.A gd hr X.stack s1 H1 I1.env0 ⟨us, []⟩ _ _ (hb s1 us I1.kIn hl) r2 Q E q) ?_)⟩
  intro res s' hq
  match res, hq with
  | .error e, hq => exact hx pins σ H1 s1 e s' I1 hq
  | .ok (.ret u), hq => exact I1.after hq
  | .ok .next, hq => exact hq.elim
  | .ok .brk, hq => exact hq.elim
  | .ok .cont, hq => exact hq.elim
end

/-! repr of plain data -/
section
variable {X : Cx}
def rRepr (K : PySem.W.Frag) : List V → Hp → VK → Prop := fun xs H Q => ∃ a d, xs = [.ref a] ∧ Dp K H (.ref a) d ∧ d.showable = true ∧ d.hasDict = false ∧ d.depth ≤ 60 ∧ d.shown.length ≤ sizeLine ∧ Q (.str d.shown) H
theorem call_reprD (gd : X.A.guards = some []) (hu : X.A.units + 64 < cLine) : CallR X (.builtin "repr") (rRepr X.K) := by
  intro pins s σ H args us Q I r h
  obtain ⟨a, d, rfl, hd, hs, hn, hp, hz, q⟩ := h
  cases r with
  | cons r1 r2 =>
    cases r2
    have e := r1
    obtain rfl := show _ = Value.ref a from e
    obtain ⟨as, rd⟩ := Dp.reads I d _ _ hd rfl
    refine repr_of_reads' rd hs (PyData.noDict_hsm hn) gd (by omega) (fun _ _ z => z) (fun h' u tk k => ?_) hz
    exact ⟨.str d.shown, H, I.kept k, ⟨u, rfl⟩, q⟩

/-- xs[i] read, i no less than 0, by values -/
def rGetN (K : PySem.W.Frag) : V → V → Hp → VK → Prop := fun o i H Q => ∃ (p : Addr) (xs : List V) (j : Nat) (v : V), o = .ref p ∧ i = .int (j : Int) ∧ SqL K H p xs ∧ xs[j]? = some v ∧ Q v H
theorem get_list : PGet X (rGetN X.K) := by
  intro pins s σ H o i ov iv Q I ro ri h
  obtain ⟨p, xs, j, z, rfl, rfl, hq, he, q⟩ := h
  cases ro
  obtain ⟨t, rfl⟩ := ri
  obtain ⟨its, rl, pl, hz⟩ := I.list hq
  obtain ⟨v, ev, rv⟩ := rl.get he
  have hl := rl.length
  have hj : j < xs.length := (List.getElem?_eq_some_iff.mp he).1
  have hn := line63
  exact wpAny_getItem_list pl.isList (by omega) (by omega) (by rw [Int.toNat_natCast]; simpa using ev) ⟨z, H, I, rv, q⟩
end

/-! the law's own call, at the top's end -/
section
variable {P : Program} {w : World} {K : PySem.W.Frag} {mg mb : Str → Option Value} {k : Nat} {fa a : Addr} {fd : FuncData} {x : Str} {sp : Sp} {s1 : Shared} {vs : List Value} {ns : List Int}
/-- the abstract heap that tracks the script alone, or nothing -/
theorem lawG0 {H : Hp} (KX : K.In s1.heap) (hns : s1.heap.Ns mainGlobals mg) (hb : s1.heap.Ns builtinsNs mb)
    (hbb : ∀ y : Str, y ≠ "__name__" → mb y = bootBuiltins y) (hlim : s1.heap.NoLimit) (hg : s1.gens = #[])
    (ha : s1.heap.get? a = some { cls := .type "list", data := .seq vs.toArray }) (hr : Room k callerA)
    (F : ∀ base : Heap, K.In base → base.Ns mainGlobals mg → FnG P w K mg base CX0 k fa fd [x] sp)
    (hbind : ∀ (s : Shared) (u : Value), BindsTo s fd ⟨[u], []⟩ [(x, u)])
    (hO : Only H) (hok : HOk P w H s1.heap) (onlyA : ∀ b, H b ≠ none → b = a) (notK : H a ≠ none → K.lookup a = none)
    (hsp : sp [.ref a] H (fun v _ => v = .bl true) fun _ _ _ => False) :
    codeAny (model P w) callerA (.call (.ref fa) ⟨[.ref a], []⟩)
      (fun r s' => r = .ok (.ret (.bool true)) ∧ OldK s1.heap s'.heap ∧ s'.os = s1.os ∧ AllBare s'.gens) s1 := by
  have free : ∀ (b : Addr), (b = a → H b = none) → H b = none := by
    intro b hb
    by_cases e : H b = none
    · exact e
    · exact hb (onlyA b e)
  have nsB : ∀ {b : Addr} {m : Str → Option Value}, s1.heap.Ns b m → (hidT s1.heap H).Ns b m := by
    rintro b m ⟨o, es, ep, e, d, r⟩
    refine ⟨o, es, ep, hidT_get e (free b ?_), d, r⟩
    rintro rfl
    have q := Option.some.inj (e.symm.trans ha)
    rw [q] at d
    exact nomatch d
  have kinB : K.In (hidT s1.heap H) := by
    intro b o e
    refine hidT_get (KX b o e) (free b ?_)
    rintro rfl
    by_cases z : H b = none
    · exact z
    · exact absurd ((notK z).symm.trans e) (fun q => nomatch q)
  obtain ⟨mc, hl1, hl2⟩ := hlim
  have M : Mod K mg (hidT s1.heap H) := ⟨kinB, nsB hns, ⟨mb, nsB hb, hbb⟩, ⟨mc, nsB hl1, hl2⟩⟩
  have e0 : Env0 P w K mg (hidT s1.heap H) callerA [] s1 H :=
    { frames := rfl, mod := M, bs := fun b o e => of_hidT e, bsz := Nat.le_of_eq (hidT_size _ _), funs := trivial,
      frf := fun b hb => (nomatch (show b ∈ ([] : List Addr) from hb)), hok := hok, bare := .of_eq hg }
  have run := (F _ kinB (nsB hns)).run callerA rfl hr [] s1 H e0 ⟨[.ref a], []⟩ [.ref a] [.ref a] (hbind s1 _) (.cons rfl .nil) _ _ hsp
  refine codeAny_mono run ?_
  intro r s' h
  match r, h with
  | .ok (.ret u), ⟨v, H', os, bare, un, hok', rv, q⟩ =>
    have q' : v = V.bl true := q
    subst q'
    have eu : u = Value.bool true := rv
    subst eu
    refine ⟨rfl, OldK.of_keep ?_, os, bare⟩
    intro b o e
    by_cases z : H b = none
    · exact un.keep b o e z (fun q => nomatch (show b ∈ ([] : List Addr) from q)) (fun q => nomatch q)
    · rcases hO b with z1 | ⟨ob, xs, z1⟩
      · exact absurd z1 z
      · have e1 := (hok b _ z1).1
        have e2 := (hok' b _ (un.frzs b ob _ z1)).1
        rw [Option.some.inj (e.symm.trans e1)]
        exact e2

theorem lawG (KX : K.In s1.heap) (hns : s1.heap.Ns mainGlobals mg) (hb : s1.heap.Ns builtinsNs mb)
    (hbb : ∀ y : Str, y ≠ "__name__" → mb y = bootBuiltins y) (hlim : s1.heap.NoLimit) (hg : s1.gens = #[])
    (ha : s1.heap.get? a = some { cls := .type "list", data := .seq vs.toArray }) (hi : IntsAre vs ns) (hl : ns.length ≤ sizeLine) (hr : Room k callerA)
    (F : ∀ base : Heap, K.In base → base.Ns mainGlobals mg → FnG P w K mg base CX0 k fa fd [x] sp)
    (hbind : ∀ (s : Shared) (u : Value), BindsTo s fd ⟨[u], []⟩ [(x, u)])
    (hsp : ∀ H : Hp, SqL K H a (ns.map V.int) → sp [.ref a] H (fun v _ => v = .bl true) fun _ _ _ => False) :
    codeAny (model P w) callerA (.call (.ref fa) ⟨[.ref a], []⟩)
      (fun r s' => r = .ok (.ret (.bool true)) ∧ OldK s1.heap s'.heap ∧ s'.os = s1.os ∧ AllBare s'.gens) s1 := by
  have rv := vals_ints hi
  by_cases hk : K.lookup a = none
  · let ob : Obj := { cls := .type "list", data := .seq vs.toArray }
    let H : Hp := upd (fun _ => none) a (.frz ob (.lst (ns.map V.int)))
    have hA : H a = some (.frz ob (.lst (ns.map V.int))) := upd_same
    have hN : ∀ b, b ≠ a → H b = none := fun b ne => upd_ne ne
    refine lawG0 (H := H) KX hns hb hbb hlim hg ha hr F hbind ?_ ?_ ?_ (fun _ => hk) (hsp H (.inl (.inr ⟨ob, hA⟩)))
    · intro b
      by_cases e : b = a
      · exact .inr ⟨ob, _, e ▸ hA⟩
      · exact .inl (hN b e)
    · intro b u q
      by_cases e : b = a
      · subst e
        cases Option.some.inj (q.symm.trans hA)
        exact ⟨ha, Nat.le_trans (Nat.le_of_eq (List.length_map V.int)) hl, vs, _, rv, ha⟩
      · exact nomatch (hN b e).symm.trans q
    · intro b q
      by_cases e : b = a
      · exact e
      · exact absurd (hN b e) q
  · obtain ⟨o, ho⟩ := Option.ne_none_iff_exists'.mp hk
    have eo := Option.some.inj ((KX a o ho).symm.trans ha)
    subst eo
    refine lawG0 (H := fun _ => none) KX hns hb hbb hlim hg ha hr F hbind (fun _ => .inl rfl) (fun b u q => nomatch q) (fun b q => absurd rfl q) (fun q => absurd rfl q) (hsp _ (.inr ?_))
    exact ⟨_, vs.toArray, _, ho, rfl, rfl, rfl, by rw [List.size_toArray, hi.length]; exact hl, rv⟩
end

theorem walkG {l : PySem.W.OpenLaw} {n k : Nat} {q : Program} {loose : List Str} {XP : (Str → Option Value) → Heap → Prop} {YP : World → Heap → Prop} {d : DefRec} {K : Params → PySem.W.Frag} {sp : World → Sp} {x : Str}
    (hn : l.most = some n) (hn2 : n ≤ sizeLine) (hdf : d.params.defaults = [])
    (hY : ∀ (w : World) (h : Heap), YP w h → (K w.params).In h) (hr : Room k callerA)
    (F : ∀ (w : World) (mg : Str → Option Value) (fa : Addr) (g : Heap), (K w.params).In g → g.Ns mainGlobals mg → mg d.name = some (.ref fa) →
      ∃ fd : FuncData, (∀ (s : Shared) (v : Value), BindsTo s fd ⟨[v], []⟩ [(x, v)]) ∧
        ∀ base : Heap, (K w.params).In base → base.Ns mainGlobals mg → FnG l.prog w (K w.params) mg base CX0 k fa fd [x] (sp w))
    (hsp : ∀ (w : World) (H : Hp) (a : Addr) (ns : List Int), ns.length ≤ n → SqL (K w.params) H a (ns.map V.int) → sp w [.ref a] H (fun v _ => v = .bl true) fun _ _ _ => False) :
    PySem.W.WalkO q loose XP YP l.row.toRowW d [] fun f us => PySem.call f us := by
  refine Att.attach_call hn hdf ?_
  intro w s₀ s₁ mg mb fa o pm cd doc a vs ns G Y ho hd hcd hmg hobj hints hlen hg
  have KX := hY w _ Y
  obtain ⟨fd, bnd, prom⟩ := F w mg fa _ KX G.T.g hmg
  exact lawG KX G.T.g G.T.b G.T.builtins G.T.nolimit hg hobj hints (Nat.le_trans hlen hn2) hr prom bnd (fun H hS => hsp w H a ns hlen hS)
end TB

set_option Elab.async false
set_option linter.all false
set_option maxRecDepth 100000
namespace TB
open PySem PySem.Spec PyProof.Rows L2

/-! ### what is shown -/
structure Sh (k n : Nat) (d : PyData) : Prop where
  sh : d.showable = true
  nd : d.hasDict = false
  dp : d.depth ≤ k
  ln : d.shown.length ≤ n
theorem sh_int {i : Int} (h : i.natAbs < 2 ^ 100) : Sh 0 1921 (.int i) := by
  have hl : i.natAbs.log2 < 1920 := by
    by_cases h0 : i.natAbs = 0
    · rw [h0]; decide
    · exact (Nat.log2_lt h0).2 (Nat.lt_of_lt_of_le h (Nat.pow_le_pow_right (by decide) (by decide)))
  refine ⟨by simp only [PyData.showable, decide_eq_true_eq]; exact hl, by simp only [PyData.hasDict], by simp [PyData.depth], ?_⟩
  simp only [PyData.shown]
  exact int_text_len_1921 hl
theorem all_len {ds : List PyData} {k n : Nat} (h : ∀ d ∈ ds, Sh k n d) : PyData.showableAll ds = true ∧ PyData.hasDictAll ds = false ∧ PyData.depthAll ds ≤ k ∧ ((PyData.shownAll ds).map (·.length)).sum ≤ ds.length * n ∧ (PyData.shownAll ds).length = ds.length := by
  induction ds with
  | nil => simp [PyData.showableAll, PyData.hasDictAll, PyData.depthAll, PyData.shownAll]
  | cons d ds ih =>
    obtain ⟨a, b, c, e, f⟩ := ih fun x hx => h x (List.mem_cons_of_mem _ hx)
    have g := h d List.mem_cons_self
    refine ⟨by simp only [PyData.showableAll, g.sh, a, Bool.and_self], by simp only [PyData.hasDictAll, g.nd, b, Bool.or_self], ?_, ?_, ?_⟩
    · simp only [PyData.depthAll]
      have := g.dp
      omega
    · simp only [PyData.shownAll, List.map_cons, List.sum_cons, List.length_cons]
      have := g.ln
      rw [Nat.add_mul]
      omega
    · simp only [PyData.shownAll, List.length_cons, f]
theorem sh_tup {ds : List PyData} {k n : Nat} (h : ∀ d ∈ ds, Sh k n d) : Sh (k + 1) (ds.length * n + 2 * ds.length + 3) (.tuple ds) := by
  obtain ⟨a, b, c, e, f⟩ := all_len h
  refine ⟨by simp only [PyData.showable, a], by simp only [PyData.hasDict, b], by simp only [PyData.depth]; omega, ?_⟩
  simp only [PyData.shown]
  refine Nat.le_trans (tupleText_len_le _) ?_
  rw [f]
  omega
theorem sh_lst {ds : List PyData} {k n : Nat} (h : ∀ d ∈ ds, Sh k n d) : Sh (k + 1) (ds.length * n + 2 * ds.length + 3) (.list ds) := by
  obtain ⟨a, b, c, e, f⟩ := all_len h
  refine ⟨by simp only [PyData.showable, a], by simp only [PyData.hasDict, b], by simp only [PyData.depth]; omega, ?_⟩
  simp only [PyData.shown]
  refine Nat.le_trans (listText_len_le _) ?_
  rw [f]
  omega
theorem Sh.mono {k k' n n' : Nat} {d : PyData} (h : Sh k n d) (a : k ≤ k') (b : n ≤ n') : Sh k' n' d :=
  ⟨h.sh, h.nd, Nat.le_trans h.dp a, Nat.le_trans h.ln b⟩
def dInts (ns : List Int) : List PyData := ns.map PyData.int
theorem sh_ints {ns : List Int} (h : ∀ v ∈ ns, v.natAbs < 2 ^ 100) (hl : ns.length ≤ 100) : Sh 1 200000 (.tuple (dInts ns)) := by
  refine (sh_tup (k := 0) (n := 1921) fun d hd => ?_).mono (by omega) ?_
  · obtain ⟨v, hv, rfl⟩ := List.mem_map.mp hd
    exact sh_int (h v hv)
  · unfold dInts
    rw [List.length_map]
    omega
theorem dp_ints {K : PySem.W.Frag} {H : Hp} : ∀ ns : List Int, DpAll K H (ns.map V.int) (dInts ns)
  | [] => DpAll.nil
  | n :: ns => DpAll.cons (Dp.int n) (dp_ints ns)

/-- a comprehension without an if -/
theorem yes {σ : L2.St} {H : Hp} {R : Bool → Hp → Prop} (h : R true H) : tYes σ H R := h
theorem iteS {c A B : Prop} [Decidable c] (hc : c) (h : A) : if decide c = true then A else B := by
  rw [if_pos (decide_eq_true hc)]
  exact h
theorem ixN_nat {n k : Nat} (h : k < n) : ixN n (k : Int) = some k := by
  unfold ixN
  rw [if_pos (by omega), if_pos (by omega)]
  simp
theorem take_more {α : Type} {xs : List α} {i : Nat} {x : α} (h : xs[i]? = some x) : xs.take (i + 1) = xs.take i ++ [x] := by
  rw [List.take_add_one, h]
  rfl

theorem map_get {α β : Type} {f : α → β} {xs : List α} {i : Nat} {d : β} (h : (xs.map f)[i]? = some d) : ∃ p, xs[i]? = some p ∧ d = f p := by
  rw [List.getElem?_map] at h
  cases e : xs[i]? with
  | none => rw [e] at h; cases h
  | some p => rw [e] at h; exact ⟨p, rfl, (Option.some.inj h).symm⟩
theorem map_take_more {α β : Type} {f : α → β} {xs : List α} {i : Nat} {x : α} (h : xs[i]? = some x) : (xs.take (i + 1)).map f = (xs.take i).map f ++ [f x] := by
  rw [take_more h, List.map_append]
  rfl

/-! ### heaps -/
theorem same_upd {H : Hp} {p : Addr} {o : HO} (h : H p = none) : Same H (upd H p o) := fun b x e => by
  rw [upd_ne (ne_of_none e h)]
  exact e
theorem Same.tup {K : PySem.W.Frag} {H H' : Hp} {a : Addr} {xs : List V} (e : Same H H') (h : SqT K H a xs) : SqT K H' a xs := by
  rcases h with (h | ⟨o, h⟩) | h
  · exact .inl (.inl (e _ _ h))
  · exact .inl (.inr ⟨o, e _ _ h⟩)
  · exact .inr h
/-- all that was tracked is as it was, but what stands at f -/
def But (f : Addr) (H H' : Hp) : Prop := ∀ b o, b ≠ f → H b = some o → H' b = some o
theorem But.refl (f : Addr) (H : Hp) : But f H H := fun _ _ _ h => h
theorem But.trans {f : Addr} {H H1 H2 : Hp} (a : But f H H1) (b : But f H1 H2) : But f H H2 := fun c o n h => b c o n (a c o n h)
theorem But.same {f : Addr} {H H1 H2 : Hp} (a : But f H H1) (b : Same H1 H2) : But f H H2 := fun c o n h => b c o (a c o n h)
theorem But.of {f : Addr} {H H' : Hp} (a : Same H H') : But f H H' := fun c o _ h => a c o h
theorem But.upd {f : Addr} {H : Hp} {o : HO} : But f H (upd H f o) := fun b x n e => by
  rw [upd_ne n]
  exact e
theorem But.free {f : Addr} {H H' : Hp} {zs : List V} (e : But f H H') (hf : H' f = some (.lst zs)) {l : Addr} (h : H' l = none) : H l = none := by
  cases q : H l with
  | none => rfl
  | some o =>
    have n : l ≠ f := fun z => by
      rw [z, hf] at h
      cases h
    rw [e l o n q] at h
    cases h
mutual
theorem Dp.same {K : PySem.W.Frag} {H H' : Hp} (e : Same H H') : ∀ (d : PyData) (v : V), Dp K H v d → Dp K H' v d
  | .none, _, .non => .non
  | .bool _, _, .bl b => .bl b
  | .int _, _, .int i => .int i
  | .str _, _, .str x => .str x
  | .list ds, _, .lst h a => .lst (e.seq h) (DpAll.same e ds _ a)
  | .tuple ds, _, .tup h a => .tup (TB.Same.tup e h) (DpAll.same e ds _ a)
theorem DpAll.same {K : PySem.W.Frag} {H H' : Hp} (e : Same H H') : ∀ (ds : List PyData) (vs : List V), DpAll K H vs ds → DpAll K H' vs ds
  | [], _, .nil => .nil
  | d :: ds, _, .cons h t => .cons (Dp.same e d _ h) (DpAll.same e ds _ t)
end
theorem DpAll.snoc {K : PySem.W.Frag} {H : Hp} {v : V} {d : PyData} (h : Dp K H v d) : ∀ {vs : List V} {ds : List PyData}, DpAll K H vs ds → DpAll K H (vs ++ [v]) (ds ++ [d])
  | _, _, .nil => .cons h .nil
  | _, _, .cons a t => .cons a (DpAll.snoc h t)
theorem DpAll.len {K : PySem.W.Frag} {H : Hp} : ∀ {vs : List V} {ds : List PyData}, DpAll K H vs ds → vs.length = ds.length
  | _, _, .nil => rfl
  | _, _, .cons _ t => congrArg Nat.succ (DpAll.len t)
theorem DpAll.get {K : PySem.W.Frag} {H : Hp} : ∀ {vs : List V} {ds : List PyData} {i : Nat} {v : V}, DpAll K H vs ds → vs[i]? = some v → ∃ d, ds[i]? = some d ∧ Dp K H v d
  | _, _, _, _, .nil, h => by simp at h
  | _, _, 0, _, .cons a _, h => ⟨_, rfl, by simp at h; subst h; exact a⟩
  | _, _, i + 1, _, .cons _ t, h => by
    obtain ⟨d, e, q⟩ := DpAll.get t (i := i) (by simpa using h)
    exact ⟨d, by simpa using e, q⟩
theorem Dp.tup_inv {K : PySem.W.Frag} {H : Hp} {v : V} {ds : List PyData} (h : Dp K H v (.tuple ds)) : ∃ a xs, v = .ref a ∧ SqT K H a xs ∧ DpAll K H xs ds := by
  cases h with
  | tup h a => exact ⟨_, _, rfl, h, a⟩
theorem Dp.lst_inv {K : PySem.W.Frag} {H : Hp} {v : V} {ds : List PyData} (h : Dp K H v (.list ds)) : ∃ a xs, v = .ref a ∧ SqL K H a xs ∧ DpAll K H xs ds := by
  cases h with
  | lst h a => exact ⟨_, _, rfl, h, a⟩
theorem DpAll.cons_inv {K : PySem.W.Frag} {H : Hp} {xs : List V} {d : PyData} {ds : List PyData} (h : DpAll K H xs (d :: ds)) : ∃ v vs, xs = v :: vs ∧ Dp K H v d ∧ DpAll K H vs ds := by
  cases h with
  | cons a t => exact ⟨_, _, rfl, a, t⟩
theorem DpAll.nil_inv {K : PySem.W.Frag} {H : Hp} {xs : List V} (h : DpAll K H xs []) : xs = [] := by
  cases h
  rfl
theorem Dp.int_inv {K : PySem.W.Frag} {H : Hp} {v : V} {i : Int} (h : Dp K H v (.int i)) : v = .int i := by
  cases h
  rfl
theorem Dp.str_inv {K : PySem.W.Frag} {H : Hp} {v : V} {i : Str} (h : Dp K H v (.str i)) : v = .str i := by
  cases h
  rfl
theorem dp_strs {K : PySem.W.Frag} {H : Hp} : ∀ ns : List Str, DpAll K H (ns.map V.str) (ns.map PyData.str)
  | [] => DpAll.nil
  | n :: ns => DpAll.cons (Dp.str n) (dp_strs ns)

/-! no list stands in it -/
mutual
def noL : PyData → Bool
  | .list _ => false
  | .tuple xs => noLs xs
  | .dict _ => false
  | _ => true
def noLs : List PyData → Bool
  | [] => true
  | x :: xs => noL x && noLs xs
end
theorem SqT.but {K : PySem.W.Frag} {H H' : Hp} {o a : Addr} {xs zs : List V} (e : But o H H') (ho : H o = some (.lst zs)) (h : SqT K H a xs) : SqT K H' a xs := by
  rcases h with (h | ⟨u, h⟩) | h
  · exact .inl (.inl (e _ _ (ne_of h ho (fun z => nomatch z)) h))
  · exact .inl (.inr ⟨u, e _ _ (ne_of h ho (fun z => nomatch z)) h⟩)
  · exact .inr h
mutual
theorem Dp.but {K : PySem.W.Frag} {H H' : Hp} {o : Addr} {zs : List V} (e : But o H H') (ho : H o = some (.lst zs)) : ∀ (d : PyData) (v : V), noL d = true → Dp K H v d → Dp K H' v d
  | .none, _, _, .non => .non
  | .bool _, _, _, .bl b => .bl b
  | .int _, _, _, .int i => .int i
  | .str _, _, _, .str x => .str x
  | .list ds, _, n, _ => by simp [noL] at n
  | .tuple ds, _, n, .tup h a => .tup (TB.SqT.but e ho h) (DpAll.but e ho ds _ (by simpa only [noL] using n) a)
theorem DpAll.but {K : PySem.W.Frag} {H H' : Hp} {o : Addr} {zs : List V} (e : But o H H') (ho : H o = some (.lst zs)) : ∀ (ds : List PyData) (vs : List V), noLs ds = true → DpAll K H vs ds → DpAll K H' vs ds
  | [], _, _, .nil => .nil
  | d :: ds, _, n, .cons h t => by
    simp only [noLs, Bool.and_eq_true] at n
    exact .cons (Dp.but e ho d _ n.1 h) (DpAll.but e ho ds _ n.2 t)
end
theorem noLs_of {ds : List PyData} (h : ∀ d ∈ ds, noL d = true) : noLs ds = true := by
  induction ds with
  | nil => rfl
  | cons d ds ih => simp only [noLs, h d List.mem_cons_self, ih fun x hx => h x (List.mem_cons_of_mem _ hx), Bool.and_self]
theorem noLs_snoc {ds : List PyData} {d : PyData} (h : noLs ds = true) (n : noL d = true) : noLs (ds ++ [d]) = true := by
  induction ds with
  | nil => simp only [List.nil_append, noLs, n, Bool.and_true]
  | cons x ds ih =>
    simp only [noLs, Bool.and_eq_true] at h
    simp only [List.cons_append, noLs, h.1, ih h.2, Bool.and_self]

/-! ### a list that is being filled: at D, with these data -/
structure Acc (K : PySem.W.Frag) (H : Hp) (D : Addr) (ds : List PyData) : Prop where
  ex : ∃ us, H D = some (.lst us) ∧ DpAll K H us ds
  nl : noLs ds = true
theorem Acc.start {K : PySem.W.Frag} {H : Hp} {D : Addr} : Acc K (upd H D (.lst [])) D [] := ⟨⟨[], upd_same, .nil⟩, rfl⟩
theorem Acc.same {K : PySem.W.Frag} {H H' : Hp} {D : Addr} {ds : List PyData} (h : Acc K H D ds) (e : Same H H') : Acc K H' D ds := by
  obtain ⟨us, a, b⟩ := h.ex
  exact ⟨⟨us, e _ _ a, DpAll.same e _ _ b⟩, h.nl⟩
theorem Acc.but {K : PySem.W.Frag} {H H' : Hp} {D F : Addr} {ds : List PyData} {zs : List V} (h : Acc K H D ds) (e : But F H H') (hF : H F = some (.lst zs)) (n : D ≠ F) : Acc K H' D ds := by
  obtain ⟨us, a, b⟩ := h.ex
  exact ⟨⟨us, e _ _ n a, DpAll.but e hF _ _ h.nl b⟩, h.nl⟩
/-- one more -/
theorem Acc.more {K : PySem.W.Frag} {H : Hp} {D : Addr} {ds : List PyData} {v : V} {d : PyData} (h : Acc K H D ds) (dv : Dp K H v d) (n : noL d = true) (hl : ds.length ≤ 900) :
    ∃ us, H D = some (.lst us) ∧ us.length < sizeLine ∧ Acc K (upd H D (.lst (us ++ [v]))) D (ds ++ [d]) := by
  obtain ⟨us, a, b⟩ := h.ex
  have bu : But D H (upd H D (.lst (us ++ [v]))) := But.upd
  exact ⟨us, a, by rw [DpAll.len b]; exact small1000 (by omega), ⟨us ++ [v], upd_same, DpAll.snoc (Dp.but bu a _ _ n dv) (DpAll.but bu a _ _ h.nl b)⟩, noLs_snoc h.nl n⟩

theorem same_new {H H2 : Hp} {D : Addr} {o : HO} (nD : H D = none) (sm : Same H H2) : Same H (upd H2 D o) := fun c x e => by
  rw [upd_ne (ne_of_none e nD)]
  exact sm c x e
/-- a turn of a comprehension that changes nothing else -/
theorem Acc.turn {K : PySem.W.Frag} {H H1 H2 : Hp} {D : Addr} {ds ds' : List PyData} {v : V} {d : PyData} (nD : H D = none) (sm : Same H H1) (ac : Acc K H1 D ds) (s2 : Same H1 H2) (dv : Dp K H2 v d) (n : noL d = true) (hl : ds.length ≤ 900) (he : ds' = ds ++ [d]) :
    ∃ acc, H2 D = some (.lst acc) ∧ acc.length < sizeLine ∧ (Same H (upd H2 D (.lst (acc ++ [v]))) ∧ Acc K (upd H2 D (.lst (acc ++ [v]))) D ds') := by
  obtain ⟨us, a, b, c⟩ := (ac.same s2).more dv n hl
  exact ⟨us, a, b, same_new nD (sm.trans s2), he ▸ c⟩
/-- the tuple of all that was filled in -/
theorem Acc.tuple {K : PySem.W.Frag} {H : Hp} {D t : Addr} {us : List V} {ds : List PyData} (dv : DpAll K H us ds) (nt : H t = none) : Dp K (upd H t (.tup us)) (.ref t) (.tuple ds) :=
  .tup (.inl (.inl upd_same)) (DpAll.same (same_upd nt) _ _ dv)

/-! ### repr, its text kept shut -/
@[irreducible] def txt (d : PyData) : Str := d.shown
theorem txt_eq (d : PyData) : txt d = d.shown := by
  unfold txt
  rfl
section
variable {X : Cx}
def rReprT (K : PySem.W.Frag) : List V → Hp → VK → Prop := fun xs H Q => ∃ a d, xs = [.ref a] ∧ Dp K H (.ref a) d ∧ d.showable = true ∧ d.hasDict = false ∧ d.depth ≤ 60 ∧ d.shown.length ≤ sizeLine ∧ Q (.str (txt d)) H
theorem call_reprT (gd : X.A.guards = some []) (hu : X.A.units + 64 < cLine) : CallR X (.builtin "repr") (rReprT X.K) := by
  intro pins s σ H args us Q I r h
  obtain ⟨a, d, e, hd, hs, hn, hp, hz, q⟩ := h
  refine call_reprD gd hu pins s σ H args us Q I r ⟨a, d, e, hd, hs, hn, hp, hz, ?_⟩
  rw [← txt_eq]
  exact q
end

/-! ### a call by names alone -/
section
variable {X : Cx} {CX : CXT} {k : Nat} {f : Addr} {fd : FuncData} {ps ks : List Str} {sp : Sp} {E : XK} {x : Str} {p pos : Pos} {kws : List Keyword} {tk : TA} {g : List Value → List Value → List Value} {gV : List V → List V → List V}
theorem pe_callN0 (F : FnOk X.prog X.w X.K X.mg X.base CX k f fd ps sp) (hr : Room k X.A) (hg : Gl X x) (hm : X.mg x = some (.ref f)) (hk : PySem.W.keepIn X.K (.ref f) = true) (hb : KBn X.K fd ps 0 ks g gV) (hx : Passes CX X E) (hkw : PK X kws tk)
    (hks : (backToKw pos (keywordEach kws X.env)).filterMap (·.1) = ks := by rfl) (hall : (backToKw pos (keywordEach kws X.env)).all (·.1.isSome) = true := by rfl)
    (hpl : ((backTo pos (starEach [] X.env)).any (·.1) || (backToKw pos (keywordEach kws X.env)).any (·.1.isNone)) = false := by rfl) (hdb : (x == ("__debug__" : Str)) = false := by decide) :
    PE X (.Call (.Name x p) [] kws pos) (tCallN 0 ks.length sp gV E tNil tk) := by
  constructor
  intro pins s σ H Q I h
  refine wpAny_Call_Name_kw (ld_glob I hg hm (PySem.W.callWith_KW0 (h₀ := X.base) I.ok.mod.kin hk hall (thn (hkw.run pos pins s σ H _ I h) ?_) hpl) hdb)
  rintro ws s2 ⟨zs, H2, I2, rz, l1, l2, q2⟩
  rw [hks]
  exact ⟨I2.kIn, run_fnN (us := []) (vs := []) F hr hb hx I2 .nil rz l1 l2 q2⟩
end
end TB

set_option Elab.async false
set_option linter.all false
set_option maxRecDepth 100000
set_option maxHeartbeats 1000000
namespace TB
open PySem PySem.Spec PyProof.Rows L2

/-! ### sum, min, max of a tuple of numbers -/
section
variable {l : Addr} {its : List Value} {ns : List Int} {prog : Program} {w : World} {A : Around} {s : Shared} {Q E : Value → Shared → Prop}
theorem tup_old {h' : Heap} {ob : Obj} (kept : ∀ b o, b ∉ [s.heap.objs.size] → (s.heap.push ob).get? b = some o → h'.get? b = some o) : ∀ b o, s.heap.get? b = some o → h'.get? b = some o := fun b o e =>
  kept b o (fun z => by
    have z' : b = s.heap.objs.size := by simpa using z
    have := Heap.lt_size e
    rw [z'] at this
    exact Nat.lt_irrefl _ this) (Heap.get?_push_of_some _ e)
theorem tup_fp {ob : Obj} {xs : Array Value} (hl : s.heap.IsTuple l xs) : l < s.heap.objs.size ∧ ∀ b ∈ [s.heap.objs.size, l], b < (s.heap.push ob).objs.size := by
  obtain ⟨o, ho, _⟩ := hl
  have lt := Heap.lt_size ho
  refine ⟨lt, fun b hb => ?_⟩
  rw [Heap.size_push]
  have : b = s.heap.objs.size ∨ b = l := by simpa using hb
  rcases this with rfl | rfl
  · exact Nat.lt_succ_self _
  · exact Nat.lt_succ_of_lt lt
theorem sum_tupR (hh : A.handled = none) (hl : s.heap.IsTuple l its.toArray) (hi : IntsAre its ns)
    (told : ∀ h' tk t', (∀ b o, s.heap.get? b = some o → h'.get? b = some o) → Q (.int ns.sum t') { s with heap := h', toks := tk }) : wpAny (model prog w) A (call (.builtin "sum") [.ref l]) Q E s := by
  obtain ⟨pairs, e⟩ := hi.allInts.items
  have nums : numsOf (intItems pairs).toList = ns := by rw [← e]; exact hi.numsOf
  rw [nums_intItems] at nums
  rw [e] at hl
  refine call_sum_walkG (wpAny_pyIter_tuple hl ?_)
  refine ⟨_, [_, l], [_], _, _, _, numAt pairs, rfl, Walks.tuple (A := A.in1) hh _ l (Nat.ne_of_lt (tup_fp (ob := default) hl).1) (intItems pairs), ⟨⟨_, Heap.get?_push_size _ rfl, rfl, rfl⟩, hl.push _⟩, (tup_fp hl).2, fun _ _ => intItems_at, fun h' tk t' hk => ?_⟩
  have q := told h' tk t' (tup_old hk)
  have ez : (intItems pairs).size = pairs.size := by simp [intItems]
  rw [ez, preSum_eq, List.take_of_length_le (by simp), nums]
  exact q
theorem min_tupR (hh : A.handled = none) (hl : s.heap.IsTuple l its.toArray) (hi : IntsAre its ns) (hne : 0 < ns.length)
    (told : ∀ h' tk M t', (∀ b o, s.heap.get? b = some o → h'.get? b = some o) → M ∈ ns → (∀ a, a ∈ ns → M ≤ a) → Q (.int M t') { s with heap := h', toks := tk }) : wpAny (model prog w) A (call (.builtin "min") [.ref l]) Q E s := by
  obtain ⟨pairs, e⟩ := hi.allInts.items
  have nums : numsOf (intItems pairs).toList = ns := by rw [← e]; exact hi.numsOf
  rw [nums_intItems] at nums
  subst nums
  rw [e] at hl
  have some1 : 0 < pairs.size := by simpa using hne
  refine call_min_walk (wpAny_pyIter_tuple hl ?_)
  refine ⟨_, [_, l], [_], _, _, _, _, rfl, Walks.tuple (A := A.in1) hh _ l (Nat.ne_of_lt (tup_fp (ob := default) hl).1) (intItems pairs), ⟨⟨_, Heap.get?_push_size _ rfl, rfl, rfl⟩, hl.push _⟩, (tup_fp hl).2, by simpa [intItems] using some1, CmpOf.ints_lt (numAt pairs) (fun _ _ => intItems_at), fun v h' tk hP hk => ?_⟩
  have ez : (intItems pairs).size = pairs.size := by simp [intItems]
  rw [ez] at hP
  obtain ⟨t, rfl⟩ := intItems_at hP
  obtain ⟨_, least⟩ := argBest_lt (numAt pairs) (pairs.size - 1)
  refine told h' tk _ t (tup_old hk) ?_ fun a ha => ?_
  · rw [numAt_eq]
    exact PySem.getD_mem (by rw [List.length_map, Array.length_toList]; omega)
  · obtain ⟨i, hi', rfl⟩ := mem_getD ha
    have lt : i < pairs.toList.length := by simpa using hi'
    rw [Array.length_toList] at lt
    exact numAt_eq .. ▸ least i (by omega)
theorem max_tupR (hh : A.handled = none) (hl : s.heap.IsTuple l its.toArray) (hi : IntsAre its ns) (hne : 0 < ns.length)
    (told : ∀ h' tk M t', (∀ b o, s.heap.get? b = some o → h'.get? b = some o) → M ∈ ns → (∀ a, a ∈ ns → a ≤ M) → Q (.int M t') { s with heap := h', toks := tk }) : wpAny (model prog w) A (call (.builtin "max") [.ref l]) Q E s := by
  obtain ⟨pairs, e⟩ := hi.allInts.items
  have nums : numsOf (intItems pairs).toList = ns := by rw [← e]; exact hi.numsOf
  rw [nums_intItems] at nums
  subst nums
  rw [e] at hl
  have some1 : 0 < pairs.size := by simpa using hne
  refine call_max_walk (wpAny_pyIter_tuple hl ?_)
  refine ⟨_, [_, l], [_], _, _, _, _, rfl, Walks.tuple (A := A.in1) hh _ l (Nat.ne_of_lt (tup_fp (ob := default) hl).1) (intItems pairs), ⟨⟨_, Heap.get?_push_size _ rfl, rfl, rfl⟩, hl.push _⟩, (tup_fp hl).2, by simpa [intItems] using some1, CmpOf.ints_gt (numAt pairs) (fun _ _ => intItems_at), fun v h' tk hP hk => ?_⟩
  have ez : (intItems pairs).size = pairs.size := by simp [intItems]
  rw [ez] at hP
  obtain ⟨t, rfl⟩ := intItems_at hP
  obtain ⟨_, most⟩ := argBest_gt (numAt pairs) (pairs.size - 1)
  refine told h' tk _ t (tup_old hk) ?_ fun a ha => ?_
  · rw [numAt_eq]
    exact PySem.getD_mem (by rw [List.length_map, Array.length_toList]; omega)
  · obtain ⟨i, hi', rfl⟩ := mem_getD ha
    have lt : i < pairs.toList.length := by simpa using hi'
    rw [Array.length_toList] at lt
    exact numAt_eq .. ▸ most i (by omega)
end
section
variable {X : Cx}
def rSumT (K : PySem.W.Frag) : List V → Hp → VK → Prop := fun vs H Q => ∃ (a : Addr) (ns : List Int), vs = [V.ref a] ∧ SqT K H a (ns.map V.int) ∧ Q (.int ns.sum) H
def rMaxT (K : PySem.W.Frag) : List V → Hp → VK → Prop := fun vs H Q => ∃ (a : Addr) (ns : List Int), vs = [V.ref a] ∧ SqT K H a (ns.map V.int) ∧ 0 < ns.length ∧ ∀ m, m ∈ ns → (∀ y, y ∈ ns → y ≤ m) → Q (.int m) H
def rMinT (K : PySem.W.Frag) : List V → Hp → VK → Prop := fun vs H Q => ∃ (a : Addr) (ns : List Int), vs = [V.ref a] ∧ SqT K H a (ns.map V.int) ∧ 0 < ns.length ∧ ∀ m, m ∈ ns → (∀ y, y ∈ ns → m ≤ y) → Q (.int m) H
theorem call_sumT (hc : X.calm = true) : CallR X (.builtin "sum") (rSumT X.K) := by
  intro pins s σ H vs us Q I rel h
  obtain ⟨t, ns, rfl, at_t, q⟩ := h
  obtain ⟨its, rv, hl, _⟩ := I.tuple at_t
  rw [Vals.ref1 rel]
  exact sum_tupR (I.ok.hd hc) hl rv.ints fun h' tk t' hk => ⟨.int _, H, I.kept hk, ⟨_, rfl⟩, q⟩
theorem call_maxT (hc : X.calm = true) : CallR X (.builtin "max") (rMaxT X.K) := by
  intro pins s σ H vs us Q I rel h
  obtain ⟨t, ns, rfl, at_t, hne, q⟩ := h
  obtain ⟨its, rv, hl, _⟩ := I.tuple at_t
  rw [Vals.ref1 rel]
  exact max_tupR (I.ok.hd hc) hl rv.ints hne fun h' tk m t' hk h1 h2 => ⟨.int m, H, I.kept hk, ⟨_, rfl⟩, q m h1 h2⟩
theorem call_minT (hc : X.calm = true) : CallR X (.builtin "min") (rMinT X.K) := by
  intro pins s σ H vs us Q I rel h
  obtain ⟨t, ns, rfl, at_t, hne, q⟩ := h
  obtain ⟨its, rv, hl, _⟩ := I.tuple at_t
  rw [Vals.ref1 rel]
  exact min_tupR (I.ok.hd hc) hl rv.ints hne fun h' tk m t' hk h1 h2 => ⟨.int m, H, I.kept hk, ⟨_, rfl⟩, q m h1 h2⟩
end

/-! ### zip of a tuple and a list: one step of any two iterators -/
section
variable {w : World} {prog : Program} {s : Shared} {A : Around}
/-- nextOf i tells x and leaves T, from any state that keeps what s has but at the places off -/
def NextIs (prog : Program) (w : World) (s : Shared) (off : List Addr) (i : Addr) (x : Value) (T : Heap → Prop) : Prop :=
  ∀ (B : Around) (u : Shared) (Q : Value → Shared → Prop) (E : Value → Shared → Prop), (∀ c o, c ∉ off → s.heap.get? c = some o → u.heap.get? c = some o) →
    (∀ g, T g → Heap.SameBut i u.heap g → Q x { u with heap := g }) → wpAny (model prog w) B (Builtin.SmallTypes.nextOf (.ref i)) Q E u
/-- nextOf i stops -/
def NextEnds (prog : Program) (w : World) (s : Shared) (off : List Addr) (i : Addr) : Prop :=
  ∀ (B : Around) (u : Shared) (Q : Value → Shared → Prop) (E : Value → Shared → Prop), B.handled = none → (∀ c o, c ∉ off → s.heap.get? c = some o → u.heap.get? c = some o) →
    (∀ g e, Heap.ExtBut i u.heap g → (∃ o, g.get? e = some o ∧ o.cls = .type "StopIteration") → E (.ref e) { u with heap := g }) → wpAny (model prog w) B (Builtin.SmallTypes.nextOf (.ref i)) Q E u
/-- the five places of a zip are five -/
structure Five (z TI TO i j : Addr) : Prop where
  a : TI ≠ z
  b : TO ≠ z
  c : i ≠ z
  d : j ≠ z
  e : TO ≠ i
  f : TO ≠ j
  g : i ≠ j

theorem zip_step {E : Value → Shared → Prop} {z TI TO i j : Addr} {x y a b : Value} {T1 T2 : Heap → Prop} {Q : Option Value → Shared → Prop} (F : Five z TI TO i j)
    (hz : IsZip s.heap z TI TO .none) (hTI : IsPair s.heap TI (.ref i) (.ref j)) (hTO : IsPair s.heap TO a b)
    (lt : i < s.heap.objs.size ∧ j < s.heap.objs.size)
    (n1 : NextIs prog w s [z] i x T1) (n2 : NextIs prog w s [z, i, TO] j y T2)
    (k1 : ∀ g g' : Heap, T1 g → (∀ o, g.get? i = some o → g'.get? i = some o) → T1 g') (k2 : ∀ g g' : Heap, T2 g → (∀ o, g.get? j = some o → g'.get? j = some o) → T2 g')
    (hQ : ∀ g, IsZip g z TI TO (rawInt s.heap.objs.size) → IsPair g TO x y → T1 g → T2 g → IsPair g s.heap.objs.size x y → g.objs.size = s.heap.objs.size + 1 →
      (∀ c o, c ∉ [z, TO, i, j] → s.heap.get? c = some o → g.get? c = some o) → Q (some (.ref s.heap.objs.size)) { s with heap := g }) :
    wpAny (model prog w) A (pyNext (Value.ref z)) Q E s := by
  have isZ : s.TypeIs (.ref z) "zip" := ⟨_, hz, rfl⟩
  unfold pyNext
  refine wpAny_bind (wpAny_attempt (wpAny_callSpecial?_slot (name := Str.ofString "__next__") isZ PySem.F.slot_zip_next (wpAny_call_entry PySem.F.slot_zip_next isZ PySem.F.entry_zip_next ?_ (PySem.F.args_zip_next_1 _))))
  show wpAny _ _ (field (Value.ref z) 2 >>= _) _ _ _
  apply wpAny_bind
  refine wpAny_field hz rfl (x := .bool false) rfl ?_
  show wpAny _ _ (field (Value.ref z) 3 >>= _) _ _ _
  apply wpAny_bind
  refine wpAny_field hz rfl (x := .ref TI) rfl ?_
  apply wpAny_bind
  refine wpAny_seqItems hTI rfl ?_
  show wpAny _ _ (Builtin.SmallTypes.ownedTupleIsFree (Value.ref z) >>= _) _ _ _
  apply wpAny_bind; unfold Builtin.SmallTypes.ownedTupleIsFree; apply wpAny_bind
  refine wpAny_field hz rfl (x := .none) rfl (wpAny_pure ?_)
  simp only [if_true]
  apply wpAny_bind
  refine wpAny_rule ?_
  apply wpAny_bind
  refine wpAny_field hz rfl (x := .ref TO) rfl ?_
  apply wpAny_bind
  refine wpAny_setField_rec hz (by simp) fun g1 z1 s1 => ?_
  replace z1 : IsZip g1 z TI TO .ellipsis := z1
  apply wpAny_bind
  simp only [List.forIn_cons, List.forIn_nil, List.zipIdx_cons, List.zipIdx_nil]
  iterate 2 apply wpAny_bind
  apply wpAny_onRaise
  show wpAny _ _ (Builtin.SmallTypes.nextOf (.ref i) >>= _) _ _ _
  apply wpAny_bind
  refine n1 _ _ _ _ (fun c o n e => s1.extBut _ _ (by simpa using n) e) fun g2 t2 s2 => wpAny_pure ?_
  have o2 : IsPair g2 TO a b := s2.extBut _ _ F.e (s1.extBut _ _ F.b hTO)
  apply wpAny_bind
  refine wpAny_seqItems o2 rfl ?_
  apply wpAny_bind
  refine wpAny_updateSeq_pair o2 fun g3 o3 s3 => ?_
  replace o3 : IsPair g3 TO x b := o3
  apply wpAny_bind
  refine wpAny_letGo (wpAny_pure ?_)
  iterate 2 apply wpAny_bind
  apply wpAny_onRaise
  show wpAny _ _ (Builtin.SmallTypes.nextOf (.ref j) >>= _) _ _ _
  apply wpAny_bind
  refine n2 _ _ _ _ (fun c o n e => ?_) fun g4 t4 s4 => wpAny_pure ?_
  · have n' : c ≠ z ∧ c ≠ i ∧ c ≠ TO := by simpa using n
    exact s3.extBut _ _ n'.2.2 (s2.extBut _ _ n'.2.1 (s1.extBut _ _ n'.1 e))
  have o4 : IsPair g4 TO x b := s4.extBut _ _ F.f o3
  apply wpAny_bind
  refine wpAny_seqItems o4 rfl ?_
  apply wpAny_bind
  refine wpAny_updateSeq_pair o4 fun g5 o5 s5 => ?_
  replace o5 : IsPair g5 TO x y := o5
  apply wpAny_bind
  refine wpAny_letGo (wpAny_pure (wpAny_pure ?_))
  apply wpAny_bind
  refine wpAny_seqItems o5 rfl ?_
  apply wpAny_bind
  refine wpAny_newTuple ?_
  have size5 : g5.objs.size = s.heap.objs.size := by rw [s5.1, s4.1, s3.1, s2.1, s1.1]
  have z5 : IsZip g5 z TI TO .ellipsis := s5.extBut _ _ F.b.symm (s4.extBut _ _ F.d.symm (s3.extBut _ _ F.b.symm (s2.extBut _ _ F.c.symm z1)))
  have kept5 : ∀ c o, c ∉ [z, TO, i, j] → s.heap.get? c = some o → g5.get? c = some o := fun c o n e => by
    have n' : c ≠ z ∧ c ≠ TO ∧ c ≠ i ∧ c ≠ j := by simpa using n
    exact s5.extBut _ _ n'.2.1 (s4.extBut _ _ n'.2.2.2 (s3.extBut _ _ n'.2.1 (s2.extBut _ _ n'.2.2.1 (s1.extBut _ _ n'.1 e))))
  have u1 : T1 g5 := k1 _ _ t2 fun o e => s5.extBut _ _ F.e.symm (s4.extBut _ _ F.g (s3.extBut _ _ F.e.symm e))
  have u2 : T2 g5 := k2 _ _ t4 fun o e => s5.extBut _ _ F.f.symm e
  have zl : z < g5.objs.size := Heap.lt_size z5
  show wpAny _ _ (Builtin.SmallTypes.ownedTupleHandOut (.ref z) (.ref g5.objs.size) >>= _) _ _ _
  apply wpAny_bind; unfold Builtin.SmallTypes.ownedTupleHandOut
  have z6 : IsZip (g5.push { cls := .type "tuple", data := .seq #[x, y] }) z TI TO .ellipsis := Heap.get?_push_of_some _ z5
  apply wpAny_bind
  refine wpAny_setField_rec z6 (by simp) fun g7 z7 s7 => ?_
  replace z7 : IsZip g7 z TI TO (rawInt g5.objs.size) := z7
  refine wpAny_setField_rec z7 (by simp) fun g8 z8 s8 => ?_
  replace z8 : IsZip g8 z TI TO (rawInt g5.objs.size) := z8
  have up : ∀ c o, c ≠ z → g5.get? c = some o → g8.get? c = some o := fun c o n e => s8.extBut _ _ n (s7.extBut _ _ n (Heap.get?_push_of_some _ e))
  have pair8 : IsPair g8 g5.objs.size x y := s8.extBut _ _ (Nat.ne_of_gt zl) (s7.extBut _ _ (Nat.ne_of_gt zl) (Heap.get?_push_size _ rfl))
  have size8 : g8.objs.size = g5.objs.size + 1 := by rw [s8.1, s7.1, Heap.size_push]
  rw [size5] at z8 pair8 size8
  refine wpAny_pure ⟨_, rfl, wpAny_pure ?_⟩
  show Q (some (.ref g5.objs.size)) _
  rw [size5]
  exact hQ g8 z8 (up _ _ F.b o5) (k1 _ _ u1 fun o e => up _ o F.c e) (k2 _ _ u2 fun o e => up _ o F.d e) pair8 size8 fun c o n e => up c o (by simp at n; exact n.1) (kept5 c o n e)

theorem zip_stop0 {E : Value → Shared → Prop} {z TI TO i j : Addr} {a b : Value} {Q : Fin → Shared → Prop} (hh : A.handled = none) (F : Five z TI TO i j)
    (hz : IsZip s.heap z TI TO .none) (hTI : IsPair s.heap TI (.ref i) (.ref j)) (hTO : IsPair s.heap TO a b)
    (n : NextEnds prog w s [z] i ∨ (∃ (x : Value) (T : Heap → Prop), NextIs prog w s [z] i x T) ∧ NextEnds prog w s [z, i, TO] j)
    (fin : ∀ (g : Heap) (e : Addr), (∃ o, g.get? e = some o ∧ o.cls = .type "StopIteration") → (∀ c o, c ∉ [z, TO, i, j] → s.heap.get? c = some o → g.get? c = some o) → E (.ref e) { s with heap := g }) :
    wpAny (model prog w) A (Builtin.«zip.__next__» ⟨[Value.ref z], []⟩) Q E s := by
  show wpAny _ _ (field (Value.ref z) 2 >>= _) _ _ _
  apply wpAny_bind
  refine wpAny_field hz rfl (x := .bool false) rfl ?_
  show wpAny _ _ (field (Value.ref z) 3 >>= _) _ _ _
  apply wpAny_bind
  refine wpAny_field hz rfl (x := .ref TI) rfl ?_
  apply wpAny_bind
  refine wpAny_seqItems hTI rfl ?_
  show wpAny _ _ (Builtin.SmallTypes.ownedTupleIsFree (Value.ref z) >>= _) _ _ _
  apply wpAny_bind; unfold Builtin.SmallTypes.ownedTupleIsFree; apply wpAny_bind
  refine wpAny_field hz rfl (x := .none) rfl (wpAny_pure ?_)
  simp only [if_true]
  apply wpAny_bind
  refine wpAny_rule ?_
  apply wpAny_bind
  refine wpAny_field hz rfl (x := .ref TO) rfl ?_
  apply wpAny_bind
  refine wpAny_setField_rec hz (by simp) fun g1 z1 s1 => ?_
  replace z1 : IsZip g1 z TI TO .ellipsis := z1
  apply wpAny_bind
  simp only [List.forIn_cons, List.forIn_nil, List.zipIdx_cons, List.zipIdx_nil]
  iterate 2 apply wpAny_bind
  apply wpAny_onRaise
  show wpAny _ _ (Builtin.SmallTypes.nextOf (.ref i) >>= _) _ _ _
  rcases n with n | ⟨⟨x, T, n⟩, n'⟩
  · apply wpAny_bind
    refine n _ _ _ _ hh (fun c o m e => s1.extBut _ _ (by simpa using m) e) fun g2 e s2 he => ?_
    obtain ⟨oe, hoe, hce⟩ := he
    have z2 : IsZip g2 z TI TO .ellipsis := s2 _ _ F.c.symm z1
    have nez : e ≠ z := fun q => by subst q; rw [z2] at hoe; cases hoe; simp at hce
    refine wpAny_setField_rec z2 (by simp) fun g3 _ s3 => ?_
    refine fin g3 e ⟨oe, s3.extBut _ _ nez hoe, hce⟩ fun c o m q => ?_
    have m' : c ≠ z ∧ c ≠ TO ∧ c ≠ i ∧ c ≠ j := by simpa using m
    exact s3.extBut _ _ m'.1 (s2 _ _ m'.2.2.1 (s1.extBut _ _ m'.1 q))
  · apply wpAny_bind
    refine n _ _ _ _ (fun c o m e => s1.extBut _ _ (by simpa using m) e) fun g2 t2 s2 => wpAny_pure ?_
    have o2 : IsPair g2 TO a b := s2.extBut _ _ F.e (s1.extBut _ _ F.b hTO)
    apply wpAny_bind
    refine wpAny_seqItems o2 rfl ?_
    apply wpAny_bind
    refine wpAny_updateSeq_pair o2 fun g3 o3 s3 => ?_
    apply wpAny_bind
    refine wpAny_letGo (wpAny_pure ?_)
    iterate 2 apply wpAny_bind
    apply wpAny_onRaise
    show wpAny _ _ (Builtin.SmallTypes.nextOf (.ref j) >>= _) _ _ _
    apply wpAny_bind
    refine n' _ _ _ _ hh (fun c o m e => ?_) fun g4 e s4 he => ?_
    · have m' : c ≠ z ∧ c ≠ i ∧ c ≠ TO := by simpa using m
      exact s3.extBut _ _ m'.2.2 (s2.extBut _ _ m'.2.1 (s1.extBut _ _ m'.1 e))
    obtain ⟨oe, hoe, hce⟩ := he
    have z4 : IsZip g4 z TI TO .ellipsis := s4 _ _ F.d.symm (s3.extBut _ _ F.b.symm (s2.extBut _ _ F.c.symm z1))
    have nez : e ≠ z := fun q => by subst q; rw [z4] at hoe; cases hoe; simp at hce
    refine wpAny_setField_rec z4 (by simp) fun g5 _ s5 => ?_
    refine fin g5 e ⟨oe, s5.extBut _ _ nez hoe, hce⟩ fun c o m q => ?_
    have m' : c ≠ z ∧ c ≠ TO ∧ c ≠ i ∧ c ≠ j := by simpa using m
    exact s5.extBut _ _ m'.1 (s4 _ _ m'.2.2.2 (s3.extBut _ _ m'.2.1 (s2.extBut _ _ m'.2.2.1 (s1.extBut _ _ m'.1 q))))
theorem zip_stop {E : Value → Shared → Prop} {z TI TO i j : Addr} {a b : Value} {Q : Option Value → Shared → Prop} (hh : A.handled = none) (F : Five z TI TO i j)
    (hz : IsZip s.heap z TI TO .none) (hTI : IsPair s.heap TI (.ref i) (.ref j)) (hTO : IsPair s.heap TO a b)
    (n : NextEnds prog w s [z] i ∨ (∃ (x : Value) (T : Heap → Prop), NextIs prog w s [z] i x T) ∧ NextEnds prog w s [z, i, TO] j)
    (hQ : ∀ g, (∀ c o, c ∉ [z, TO, i, j] → s.heap.get? c = some o → g.get? c = some o) → Q none { s with heap := g }) :
    wpAny (model prog w) A (pyNext (Value.ref z)) Q E s := by
  have isZ : s.TypeIs (.ref z) "zip" := ⟨_, hz, rfl⟩
  unfold pyNext
  refine wpAny_bind (wpAny_attempt (wpAny_callSpecial?_slot (name := Str.ofString "__next__") isZ PySem.F.slot_zip_next (wpAny_call_entry PySem.F.slot_zip_next isZ PySem.F.entry_zip_next ?_ (PySem.F.args_zip_next_1 _))))
  refine zip_stop0 (A := A.in1) hh F hz hTI hTO n fun g e he hk => ?_
  obtain ⟨o, ho, hc⟩ := he
  apply wpAny_bind
  exact wpAny_isInstance (T := "StopIteration") (b := true) ⟨o, ho, hc⟩ isSubtype_stop (wpAny_pure (hQ _ hk))

/-! a tuple's and a list's -/
theorem next_tup {i l : Addr} {k : Nat} {xs : Array Value} {x : Value} {off : List Addr} (hi : s.heap.IsTupleIter i l k) (hl : s.heap.IsTuple l xs) (hx : xs[k]? = some x) (ni : i ∉ off) (nl : l ∉ off) :
    NextIs prog w s off i x (fun g => g.IsTupleIter i l (k + 1)) := fun B u Q E hk h =>
  RZ.nextOf_tuple_item (hi.at fun o e => hk _ o ni e) (hl.at fun o e => hk _ o nl e) hx h
theorem next_lst {i l : Addr} {k : Nat} {xs : Array Value} {x : Value} {off : List Addr} (hi : s.heap.IsListIter i l k) (hl : s.heap.IsList l xs) (hx : xs[k]? = some x) (ni : i ∉ off) (nl : l ∉ off) :
    NextIs prog w s off i x (fun g => g.IsListIter i l (k + 1)) := fun B u Q E hk h =>
  wpAny_nextOf_list_item (hi.at fun o e => hk _ o ni e) (hl.at fun o e => hk _ o nl e) hx h
theorem ends_tup {i l : Addr} {k : Nat} {xs : Array Value} {off : List Addr} (hi : s.heap.IsTupleIter i l k) (hl : s.heap.IsTuple l xs) (hx : xs[k]? = none) (ni : i ∉ off) (nl : l ∉ off) :
    NextEnds prog w s off i := fun B u Q E hh hk h =>
  RZ.nextOf_tuple_end hh (hi.at fun o e => hk _ o ni e) (hl.at fun o e => hk _ o nl e) hx h
theorem ends_lst {i l : Addr} {k : Nat} {xs : Array Value} {off : List Addr} (hi : s.heap.IsListIter i l k) (hl : s.heap.IsList l xs) (hx : xs[k]? = none) (ni : i ∉ off) (nl : l ∉ off) :
    NextEnds prog w s off i := fun B u Q E hh hk h =>
  wpAny_nextOf_list_end hh (hi.at fun o e => hk _ o ni e) (hl.at fun o e => hk _ o nl e) hx h
end

/-! zip(t, xs), t a tuple, xs a list -/
abbrev zTL1 (h : Heap) (a : Addr) : Heap := h.push { cls := .type "tuple_iterator", data := .fields #[.ref a, .int 0 0] }
abbrev zTL2 (h : Heap) (a b : Addr) : Heap := (zTL1 h a).push { cls := .type "list_iterator", data := .fields #[.ref b, .int 0 0] }
abbrev zTL3 (h : Heap) (a b : Addr) : Heap := (zTL2 h a b).push { cls := .type "tuple", data := .seq #[.ref h.objs.size, .ref (zTL1 h a).objs.size] }
abbrev zTL4 (h : Heap) (a b : Addr) : Heap := (zTL3 h a b).push { cls := .type "tuple", data := .seq #[.none, .none] }
abbrev zTL5 (h : Heap) (a b : Addr) : Heap := (zTL4 h a b).push { cls := .type "zip", data := .fields #[.none, .bool false, .bool false, .ref (zTL2 h a b).objs.size, .ref (zTL3 h a b).objs.size] }
theorem zTL_new (a b : Addr) (xs ys : Array Value) :
    Meets (Builtin.«zip.__new__» ⟨[.type "zip", .ref a, .ref b], []⟩) (fun _ R s => s.heap.IsTuple a xs ∧ s.heap.IsList b ys ∧ R (.ok (.ret (.ref (zTL4 s.heap a b).objs.size))) { s with heap := zTL5 s.heap a b }) :=
  .of_wp fun prog w A R st h => by
    obtain ⟨hp, g, d, tk, os⟩ := st
    obtain ⟨ha, hb, h⟩ := h
    have sub := sub_zip
    have iA : Heap.IsTuple (Shared.heap ⟨hp, g, d, tk, os⟩) a xs := ha
    have iB : Heap.IsList (Shared.heap ⟨hp.push { cls := .type "tuple_iterator", data := .fields #[.ref a, .int 0 0] }, g, d, tk, os⟩) b ys := Heap.IsList.push hb _
    wp_walk using wpAny_pyIter_tuple iA, wpAny_pyIter_list iB
    exact ⟨_, rfl, h⟩
section
variable {prog : Program} {w : World} {A : Around} {E : Value → Shared → Prop} {s : Shared}
theorem call_zTL {a b : Addr} {xs ys : Array Value} {Q : Value → Shared → Prop} (ha : s.heap.IsTuple a xs) (hb : s.heap.IsList b ys)
    (h : ∀ (n : Nat) (g : Heap), n = s.heap.objs.size → IsZip g (n + 4) (n + 2) (n + 3) .none → IsPair g (n + 2) (.ref n) (.ref (n + 1)) → IsPair g (n + 3) .none .none → g.IsTupleIter n a 0 → g.IsListIter (n + 1) b 0 →
      (∀ c o, s.heap.get? c = some o → g.get? c = some o) → Q (.ref (n + 4)) { s with heap := g }) :
    wpAny (model prog w) A (call (.type "zip") [.ref a, .ref b]) Q E s := by
  refine callType_new PySem.F.called_zip (by decide) (PySem.F.typeCall_zip_2 _ _) (PySem.F.newCall_zip_2 _ _) (fun o => PySem.F.args_object_init_3 o _ _) PySem.F.entry_zip_new (zTL_new a b xs ys) ⟨ha, hb, ?_⟩
  have e1 : (zTL1 s.heap a).objs.size = s.heap.objs.size + 1 := Heap.size_push ..
  have e2 : (zTL2 s.heap a b).objs.size = s.heap.objs.size + 2 := by rw [Heap.size_push, e1]
  have e3 : (zTL3 s.heap a b).objs.size = s.heap.objs.size + 3 := by rw [Heap.size_push, e2]
  have e4 : (zTL4 s.heap a b).objs.size = s.heap.objs.size + 4 := by rw [Heap.size_push, e3]
  have g5 : (zTL5 s.heap a b).get? (zTL4 s.heap a b).objs.size = some _ := Heap.get?_push_size _ rfl
  have g4 : (zTL5 s.heap a b).get? (zTL3 s.heap a b).objs.size = some _ := Heap.get?_push_of_some _ (Heap.get?_push_size _ rfl)
  have g3 : (zTL5 s.heap a b).get? (zTL2 s.heap a b).objs.size = some _ := Heap.get?_push_of_some _ (Heap.get?_push_of_some _ (Heap.get?_push_size _ rfl))
  have g2 : (zTL5 s.heap a b).get? (zTL1 s.heap a).objs.size = some _ := Heap.get?_push_of_some _ (Heap.get?_push_of_some _ (Heap.get?_push_of_some _ (Heap.get?_push_size _ rfl)))
  have g1 : (zTL5 s.heap a b).get? s.heap.objs.size = some _ := Heap.get?_push_of_some _ (Heap.get?_push_of_some _ (Heap.get?_push_of_some _ (Heap.get?_push_of_some _ (Heap.get?_push_size _ rfl))))
  show _ ∧ _
  rw [e2, e3, e4] at g5
  rw [e1, e2] at g3
  rw [e3] at g4
  rw [e1] at g2
  rw [e4]
  refine ⟨⟨_, g5, rfl⟩, h _ _ rfl g5 g3 g4 ⟨_, g1, rfl, rfl⟩ ⟨_, g2, rfl, rfl⟩ fun c o x => ?_⟩
  iterate 5 apply Heap.get?_push_of_some
  exact x
end

/-- what a turn over zip(t, xs) is -/
def ItTL (K : PySem.W.Frag) (a b : Addr) : It :=
  ⟨fun i H => ∃ (xs ys : List V) (x y : V), SqT K H a xs ∧ SqL K H b ys ∧ xs[i]? = some x ∧ ys[i]? = some y,
    fun i H v H' => ∃ T x y, v = .ref T ∧ H T = none ∧ H' = upd H T (.tup [x, y]) ∧ (∀ xs, SqT K H a xs → xs[i]? = some x) ∧ ∀ ys, SqL K H b ys → ys[i]? = some y,
    fun i H => ∃ xs ys : List V, SqT K H a xs ∧ SqL K H b ys ∧ (xs.length ≤ i ∨ ys.length ≤ i)⟩
theorem turn_TL {P : Program} {w : World} {K : PySem.W.Frag} {elts : List Expr} {kk : Nat} {tpos : Pos} {a b z TI TO i1 i2 : Addr} (V5 : Five z TI TO i1 i2) (nI : TI ≠ TO ∧ TI ≠ i1 ∧ TI ≠ i2) (na : a ∉ [z, TO, i1, i2]) (nb : b ∉ [z, TO, i1, i2]) :
    Turn P w K (.Tuple elts kk tpos) (ItTL K a b) [z, TI, TO, i1, i2] z (fun i h => IsZip h z TI TO .none ∧ IsPair h TI (.ref i1) (.ref i2) ∧ (∃ x y, IsPair h TO x y) ∧ h.IsTupleIter i1 a i ∧ h.IsListIter i2 b i) where
  mem := by simp
  obj := fun i h st c hc => by
    obtain ⟨isz, pI, ⟨x, y, pO⟩, ⟨o1, e1, _, d1⟩, ⟨o2, e2, _, d2⟩⟩ := st
    have five : c = z ∨ c = TI ∨ c = TO ∨ c = i1 ∨ c = i2 := by simpa using hc
    rcases five with rfl | rfl | rfl | rfl | rfl
    · exact ⟨_, isz, fun v q => nomatch q⟩
    · exact ⟨_, pI, fun v q => nomatch q⟩
    · exact ⟨_, pO, fun v q => nomatch q⟩
    · exact ⟨o1, e1, fun v q => by rw [d1] at q; cases q⟩
    · exact ⟨o2, e2, fun v q => by rw [d2] at q; cases q⟩
  keep := fun i h h' st k => by
    obtain ⟨isz, pI, ⟨x, y, pO⟩, h1, h2⟩ := st
    exact ⟨k _ (by simp) _ isz, k _ (by simp) _ pI, ⟨x, y, k _ (by simp) _ pO⟩, h1.at fun o q => k _ (by simp) o q, h2.at fun o q => k _ (by simp) o q⟩
  item := by
    intro X eP eW eK hc i pins s σ H E I hf st hg
    subst eP eW eK
    obtain ⟨isz, pI, ⟨x0, y0, pO⟩, h1, h2⟩ := st
    obtain ⟨xs, ys, x, y, qx, qy, hx, hy⟩ := hg
    obtain ⟨its, rv, p1, _⟩ := I.tuple qx
    obtain ⟨jts, rw_, p2, _⟩ := I.list qy
    obtain ⟨u, at_u, ru⟩ := rv.get hx
    obtain ⟨v, hv, rv2⟩ := rw_.get hy
    have zl : z < s.heap.objs.size := Heap.lt_size isz
    have l1 : i1 < s.heap.objs.size := by obtain ⟨_, e, _⟩ := h1; exact Heap.lt_size e
    have l2 : i2 < s.heap.objs.size := by obtain ⟨_, e, _⟩ := h2; exact Heap.lt_size e
    have na' : a ≠ z ∧ a ≠ TO ∧ a ≠ i1 ∧ a ≠ i2 := by simpa using na
    have nb' : b ≠ z ∧ b ≠ TO ∧ b ≠ i1 ∧ b ≠ i2 := by simpa using nb
    refine zip_step (T1 := fun g => g.IsTupleIter i1 a (i + 1)) (T2 := fun g => g.IsListIter i2 b (i + 1)) V5 isz pI pO ⟨l1, l2⟩ (next_tup h1 p1 (x := u) (by simpa using at_u) (by simpa using V5.c) (by simpa using na'.1))
      (next_lst h2 p2.isList (x := v) (by simpa using hv) (by simpa using ⟨V5.d, V5.g.symm, V5.f.symm⟩) (by simpa using ⟨nb'.1, nb'.2.2.1, nb'.2.1⟩)) (fun g g' t k => t.at k) (fun g g' t k => t.at k) fun g z' TO' t1 t2 hT hsz hk => ?_
    refine ⟨_, rfl, wpAny_letOwnedTupleGo_zip (s := { s with heap := g }) z' fun g2 z2 sb => ?_⟩
    have hT2 : g2.get? s.heap.objs.size = some { cls := .type "tuple", data := .seq #[u, v] } := (sb.2 _ (Nat.ne_of_gt zl)).trans hT
    have new : ObjOk X.prog X.w (upd H s.heap.objs.size (.tup [x, y])) g2 s.heap.objs.size (.tup [x, y]) := ⟨by show 2 ≤ sizeLine; decide, [u, v], .cons ru (.cons rv2 .nil), ⟨_, hT2, rfl, _, rfl⟩⟩
    have I1 : Inv X pins σ (upd H s.heap.objs.size (.tup [x, y])) { s with heap := g2 } := by
      refine I.turnedNew (t' := s.toks) (ch := [z, TI, TO, i1, i2]) (fun c o hb q => ?_) hf (Nat.le_refl _) new
      have n5 : c ≠ z ∧ c ≠ TI ∧ c ≠ TO ∧ c ≠ i1 ∧ c ≠ i2 := by simpa using hb
      exact (sb.2 c n5.1).trans (hk c o (by simpa using ⟨n5.1, n5.2.2.1, n5.2.2.2.1, n5.2.2.2.2⟩) q)
    have up : ∀ c o, c ≠ z → g.get? c = some o → g2.get? c = some o := fun c o n q => (sb.2 c n).trans q
    refine ⟨.ref s.heap.objs.size, _, I1, rfl, ⟨_, x, y, rfl, I.hok.fresh (Nat.le_refl _), rfl, fun l hl => by rw [I.tuple_inj hl qx]; exact hx, fun l hl => by rw [I.list_inj hl qy]; exact hy⟩, ⟨z2, ?_, ⟨u, v, up _ _ V5.b TO'⟩, t1.at fun o q => up _ o V5.c q, t2.at fun o q => up _ o V5.d q⟩, fun c hcm => ?_⟩
    · exact up _ _ V5.a (hk _ _ (by simpa using ⟨V5.a, nI.1, nI.2.1, nI.2.2⟩) pI)
    · have five : c = z ∨ c = TI ∨ c = TO ∨ c = i1 ∨ c = i2 := by simpa using hcm
      have lt : c < s.heap.objs.size := by
        rcases five with rfl | rfl | rfl | rfl | rfl
        · exact zl
        · exact Heap.lt_size pI
        · exact Heap.lt_size pO
        · exact l1
        · exact l2
      rw [upd_ne (Nat.ne_of_lt lt)]
      exact (hf c hcm).1
  done := by
    intro X eP eW eK hc i pins s σ H E I hf st hg
    subst eP eW eK
    obtain ⟨isz, pI, ⟨x0, y0, pO⟩, h1, h2⟩ := st
    obtain ⟨xs, ys, qx, qy, hend⟩ := hg
    obtain ⟨its, rv, p1, _⟩ := I.tuple qx
    obtain ⟨jts, rw_, p2, _⟩ := I.list qy
    have m1 := rv.length
    have m2 := rw_.length
    have na' : a ≠ z ∧ a ≠ TO ∧ a ≠ i1 ∧ a ≠ i2 := by simpa using na
    have nb' : b ≠ z ∧ b ≠ TO ∧ b ≠ i1 ∧ b ≠ i2 := by simpa using nb
    have n : NextEnds X.prog X.w s [z] i1 ∨ (∃ (x : Value) (T : Heap → Prop), NextIs X.prog X.w s [z] i1 x T) ∧ NextEnds X.prog X.w s [z, i1, TO] i2 := by
      by_cases c : xs.length ≤ i
      · exact .inl (ends_tup h1 p1 (by simp; omega) (by simpa using V5.c) (by simpa using na'.1))
      · have c2 : ys.length ≤ i := by omega
        exact .inr ⟨⟨its[i]'(by omega), _, next_tup h1 p1 (by simp) (by simpa using V5.c) (by simpa using na'.1)⟩, ends_lst h2 p2.isList (by simp; omega) (by simpa using ⟨V5.d, V5.g.symm, V5.f.symm⟩) (by simpa using ⟨nb'.1, nb'.2.2.1, nb'.2.1⟩)⟩
    refine zip_stop (I.ok.hd hc) V5 isz pI pO n fun g hk => ⟨rfl, I.turnedL (t' := s.toks) (ch := [z, TI, TO, i1, i2]) (fun c o hb q => ?_) hf⟩
    have n5 : c ≠ z ∧ c ≠ TI ∧ c ≠ TO ∧ c ≠ i1 ∧ c ≠ i2 := by simpa using hb
    exact hk c o (by simpa using ⟨n5.1, n5.2.2.1, n5.2.2.2.1, n5.2.2.2.2⟩) q
  self := fun _ _ _ _ _ st h => wpAny_pyIter_zip st.1 h

theorem five_at (n : Nat) : Five (n + 4) (n + 2) (n + 3) n (n + 1) := by
  constructor
  · show (n + 2 : Nat) ≠ n + 4; omega
  · show (n + 3 : Nat) ≠ n + 4; omega
  · show (n : Nat) ≠ n + 4; omega
  · show (n + 1 : Nat) ≠ n + 4; omega
  · show (n + 3 : Nat) ≠ n; omega
  · show (n + 3 : Nat) ≠ n + 1; omega
  · show (n : Nat) ≠ n + 1; omega
theorem six_at (n : Nat) : (n + 2 : Nat) ≠ n + 3 ∧ (n + 2 : Nat) ≠ n ∧ (n + 2 : Nat) ≠ n + 1 := by omega
theorem five_out {n a : Nat} (h : a < n) : a ∉ [n + 4, n + 3, n, n + 1] := by
  simp
  omega
def iTL (K : PySem.W.Frag) (ta : TA) : TI := fun σ H R => ta σ H fun vs H1 => ∃ a b xs ys, vs = [.ref a, .ref b] ∧ SqT K H1 a xs ∧ SqL K H1 b ys ∧ R (ItTL K a b) H1
theorem pi_zipTL {X : Cx} {e e2 : Expr} {ta : TA} {p pos tpos : Pos} {elts : List Expr} {kk : Nat} (hg : Gl X "zip") (hm : X.mg "zip" = none) (ha : PA X [e, e2] ta)
    (hs : starEach [e, e2] X.env = (false, eval e X.env) :: starEach [e2] X.env := by rfl) (hpl : (backTo pos (starEach [e2] X.env)).any (·.1) = false := by rfl) : PI X (.Tuple elts kk tpos) (.Call (.Name "zip" p) [e, e2] [] pos) (iTL X.K ta) := by
  refine ⟨fun pins s0 σ H R I h => ?_⟩
  refine Call_ (ld_blt I hg hm PyProof.Rows.boot_zip (PyProof.Rows.callWith_type1 (thn (ha.run pos pins s0 σ H _ I h) fun us u ⟨vs, H1, I1, r1, q1⟩ => ?_) hs hpl))
  obtain ⟨a, b, xs, ys, rfl, qx, qy, q⟩ := q1
  cases r1 with
  | cons r rr =>
    cases rr with
    | cons r' rr =>
      cases rr
      cases r
      cases r'
      obtain ⟨its, rv, p1, _⟩ := I1.tuple qx
      obtain ⟨jts, rw_, p2, _⟩ := I1.list qy
      have la : a < u.heap.objs.size := by obtain ⟨o, ho, _⟩ := id p1; exact Heap.lt_size ho
      have lb : b < u.heap.objs.size := p2.lt
      refine call_zTL (xs := its.toArray) p1 p2.isList fun n g hn hz hTI hTO h1 h2 hk => wpAny_pyIter_zip hz ?_
      have I2 : Inv X pins σ H1 { u with heap := g } := I1.kept (t' := u.toks) hk
      have fr : ∀ c, c ∈ [n + 4, n + 2, n + 3, n, n + 1] → FpOk X pins H1 c := fun c hcm => by
        have five : c = n + 4 ∨ c = n + 2 ∨ c = n + 3 ∨ c = n ∨ c = n + 1 := by simpa using hcm
        have le : u.heap.objs.size ≤ c := by rw [← hn]; omega
        exact I1.fpOk le (I1.hok.fresh le)
      refine ⟨n + 4, [n + 4, n + 2, n + 3, n, n + 1], _, _, H1, rfl, I2, turn_TL (z := n + 4) (TI := n + 2) (TO := n + 3) (i1 := n) (i2 := n + 1) (five_at n) (six_at n) (five_out (by rw [hn]; exact la)) (five_out (by rw [hn]; exact lb)), ⟨hz, hTI, ⟨_, _, hTO⟩, h1, h2⟩, fr, q⟩
/-- a loop over it, both of one length -/
theorem for_TL {K : PySem.W.Frag} {a b : Addr} {xs ys : List V} {g : TG} {tb : TS} {D : Ends} {σ : L2.St} {H : Hp} (hl : xs.length = ys.length) (Inv0 : Nat → L2.St → Hp → Prop) (h0 : Inv0 0 σ H) (hq : ∀ i σ H, Inv0 i σ H → SqT K H a xs ∧ SqL K H b ys)
    (hs : ∀ (i : Nat) (x y : V) (T : Addr) (σ : L2.St) (H : Hp), xs[i]? = some x → ys[i]? = some y → Inv0 i σ H → H T = none → g (.ref T) σ (upd H T (.tup [x, y])) fun σ2 H2 => tb { D with nx := Inv0 (i + 1), ct := Inv0 (i + 1), bk := D.nx } σ2 H2) (hd : ∀ σ H, Inv0 xs.length σ H → D.nx σ H) :
    ∃ Z : Nat → Nat → L2.St → Hp → Prop, (∃ m, Z 0 m σ H) ∧ ∀ i m σ H, Z i m σ H →
      ((ItTL K a b).stop i H ∧ D.nx σ H) ∨ ((ItTL K a b).go i H ∧ ∃ N : L2.St → Hp → Prop, (∀ σ' H', N σ' H' → ∃ m', m' < m ∧ Z (i + 1) m' σ' H') ∧ ∀ v H', (ItTL K a b).yld i H v H' → g v σ H' fun σ2 H2 => tb { D with nx := N, ct := N, bk := D.nx } σ2 H2) := by
  refine ⟨fun i m σ H => m = xs.length - i ∧ i ≤ xs.length ∧ Inv0 i σ H, ⟨xs.length, rfl, Nat.zero_le _, h0⟩, ?_⟩
  rintro i m σ H ⟨rfl, hi, p⟩
  obtain ⟨qx, qy⟩ := hq i σ H p
  by_cases lt : i < xs.length
  · have lt2 : i < ys.length := by omega
    refine .inr ⟨⟨xs, ys, _, _, qx, qy, List.getElem?_eq_getElem lt, List.getElem?_eq_getElem lt2⟩, Inv0 (i + 1), fun σ' H' p' => ⟨xs.length - (i + 1), by omega, rfl, lt, p'⟩, fun v H' y => ?_⟩
    obtain ⟨T, u1, u2, rfl, nT, rfl, f1, f2⟩ := y
    exact hs i u1 u2 T σ H (f1 xs qx) (f2 ys qy) p nT
  · obtain rfl : i = xs.length := by omega
    exact .inl ⟨⟨xs, ys, qx, qy, .inl (Nat.le_refl _)⟩, hd σ H p⟩
/-! ### slices and sums of tuples, whichever way they come -/
theorem slA {K : PySem.W.Frag} {H : Hp} {a : Addr} {xs : List V} {lo hi : Option Int} {Q : VK} (h : SqT K H a xs) (q : ∀ H' r, Same H H' → SqT K H' r (cutV xs lo hi) → Q (.ref r) H') : rSlA K (.ref a) lo hi H Q := by
  refine ⟨a, xs, rfl, h, fun hw => q H a (Same.refl H) ?_, fun _ p np => q _ p (same_upd np) (.inl (.inl upd_same))⟩
  unfold cutV
  rw [hw.1, hw.2, List.drop_zero, Nat.sub_zero, List.take_length]
  exact h
theorem catA {K : PySem.W.Frag} {H : Hp} {a b : Addr} {xs ys : List V} {Q : VK} (ha : SqT K H a xs) (hb : SqT K H b ys) (hl : xs.length + ys.length ≤ sizeLine) (q : ∀ H' r, Same H H' → SqT K H' r (xs ++ ys) → Q (.ref r) H') : rCatA K (.ref a) (.ref b) H Q := by
  refine ⟨a, b, xs, ys, rfl, rfl, ha, hb, hl, fun e => q H b (Same.refl H) ?_, fun _ e => q H a (Same.refl H) ?_, fun _ _ p np => q _ p (same_upd np) (.inl (.inl upd_same))⟩
  · rw [e, List.nil_append]
    exact hb
  · rw [e, List.append_nil]
    exact ha
theorem cut_last (xs : List V) (v : V) : cutV (xs ++ [v]) (some (-1)) none = [v] := by
  have e : HT.sIx (xs ++ [v]).length 0 (some (-1)) = xs.length := by
    show (if (-1 : Int) < 0 then (-1 + ((xs ++ [v]).length : Int)).toNat else min (-1 : Int).toNat (xs ++ [v]).length) = xs.length
    rw [if_pos (by decide), List.length_append, List.length_singleton]
    omega
  unfold cutV
  rw [e, HT.sIx_none, List.drop_left, List.length_append, List.length_singleton, Nat.add_sub_cancel_left]
  rfl
theorem cut_init (xs : List V) (v : V) : cutV (xs ++ [v]) none (some (-1)) = xs := by
  have e : HT.sIx (xs ++ [v]).length (xs ++ [v]).length (some (-1)) = xs.length := by
    show (if (-1 : Int) < 0 then (-1 + ((xs ++ [v]).length : Int)).toNat else min (-1 : Int).toNat (xs ++ [v]).length) = xs.length
    rw [if_pos (by decide), List.length_append, List.length_singleton]
    omega
  unfold cutV
  rw [e, HT.sIx_none, List.drop_zero, Nat.sub_zero, List.take_left]
end TB

set_option Elab.async false
set_option linter.all false
set_option maxRecDepth 100000
namespace TB
open PySem PySem.Spec PyProof.Rows L2 HT

/-! ### t[::-1] of a tuple -/
theorem back_adjust (n : Nat) : Builtin.Slice.sliceAdjust none none (-1) (n : Int) = ((n : Int) - 1, -1) := by
  simp [Builtin.Slice.sliceAdjust]
theorem back_places (n : Nat) : Builtin.Slice.slicePlaces ((n : Int) - 1) (-1) (-1) = n := by
  have no : ¬ ((-1 : Int) > 0) := by decide
  simp only [Builtin.Slice.slicePlaces, no, if_false]
  by_cases c : (n : Int) - 1 > -1
  · rw [if_pos c, show (- -1 : Int) = 1 by decide, Int.ediv_one]
    omega
  · rw [if_neg c]
    omega
theorem fm_congr {α β : Type} {f g : α → Option β} : ∀ {l : List α}, (∀ a ∈ l, f a = g a) → l.filterMap f = l.filterMap g
  | [], _ => rfl
  | x :: l, h => by
    rw [List.filterMap_cons, List.filterMap_cons, h x List.mem_cons_self, fm_congr fun a ha => h a (List.mem_cons_of_mem _ ha)]
theorem back_pick (xs : Array Value) : ((List.range xs.size).filterMap fun (m : Nat) => xs[(((xs.size : Int) - 1) + (m : Int) * (-1)).toNat]?).toArray = xs.toList.reverse.toArray := by
  have e : (List.range xs.size).filterMap (fun (m : Nat) => xs[(((xs.size : Int) - 1) + (m : Int) * (-1)).toNat]?) = ((List.range xs.size).map fun m => xs.size - 1 - m).filterMap (xs[·]?) := by
    rw [List.filterMap_map]
    refine fm_congr fun m hm => ?_
    have : (((xs.size : Int) - 1) + (m : Int) * (-1)).toNat = xs.size - 1 - m := by
      have := List.mem_range.mp hm
      omega
    rw [this]
    rfl
  rw [e, PySem.W.krv_range, List.filterMap_reverse, PySem.W.krv_all]
section
variable {w : World} {prog : Program} {s : Shared} {A : Around} {E : Value → Shared → Prop}
theorem back_applied {sl : Addr} {vs : Value} {n : Nat} {Q : Int × Int × Nat → Shared → Prop} (hs : s.heap.IsSliceOf sl .none .none vs) (ps : IsPart vs (some (-1))) (h : Q ((n : Int) - 1, -1, n) s) :
    wpAny (model prog w) A (Builtin.Slice.sliceApplied (Value.ref sl) (pure (n : Int))) Q E s := by
  obtain ⟨o, ho, _, hd⟩ := id hs
  unfold Builtin.Slice.sliceApplied
  unfold Builtin.Slice.sliceFields
  refine wpAny_bind (wpAny_bind (wpAny_field ho hd (x := .none) rfl (wpAny_bind (wpAny_field ho hd (x := .none) rfl (wpAny_bind (wpAny_field ho hd (x := vs) rfl (wpAny_pure ?_)))))))
  apply wpAny_bind
  refine slicePart_ ps ?_
  show wpAny _ _ (if ((-1 : Int) == 0) = true then _ else _) _ _ s
  rw [if_neg (by decide)]
  apply wpAny_bind
  refine slicePart_ .none ?_
  apply wpAny_bind
  refine slicePart_ .none ?_
  apply wpAny_bind
  refine wpAny_pure ?_
  show wpAny _ _ (match Builtin.Slice.sliceAdjust none none (-1) (n : Int) with | (lo, hi) => pure (lo, (-1 : Int), Builtin.Slice.slicePlaces lo hi (-1))) _ _ s
  rw [back_adjust]
  show wpAny _ _ (pure ((n : Int) - 1, (-1 : Int), Builtin.Slice.slicePlaces ((n : Int) - 1) (-1) (-1))) _ _ s
  rw [back_places]
  exact wpAny_pure h
theorem back_item {t sl : Addr} {items : Array Value} {vs : Value} {Q : Value → Shared → Prop} (ht : IsTup s.heap t items) (hs : s.heap.IsSliceOf sl .none .none vs) (ps : IsPart vs (some (-1)))
    (h : Q (.ref s.heap.objs.size) { s with heap := s.heap.push { cls := .type "tuple", data := .seq items.toList.reverse.toArray } }) (hsz : items.size ≤ sizeLine) : wpAny (model prog w) A (getItem (.ref t) (.ref sl)) Q E s := by
  have fits : sizeOk (.seq items.toList.reverse.toArray) := by
    show items.toList.reverse.toArray.size ≤ sizeLine
    rw [List.size_toArray, List.length_reverse, Array.length_toList]
    exact hsz
  obtain ⟨o, ho, hc, hd⟩ := id hs
  have isS : s.TypeIs (.ref sl) "slice" := ⟨o, ho, hc⟩
  unfold getItem
  try with_reducible apply wpAny_holding
  try refine wpAny_bind (wpAny_pure ?_)
  apply wpAny_bind
  refine wpAny_sequenceKey ht.typeIs (by decide) ?_
  apply wpAny_bind
  refine wpAny_callSpecial?_slot (name := Str.ofString "__getitem__") ht.typeIs PyProof.Rows.slot_tuple_getitem (wpAny_call_entry PyProof.Rows.slot_tuple_getitem ht.typeIs entry_tuple_getitem ?_ (args_tuple_getitem _ _))
  show wpAny _ _ (Builtin.Tuple.tupleItemsOf (Value.ref t) >>= _) _ _ s
  apply wpAny_bind
  refine tupleItemsOf_ ht ?_
  apply wpAny_bind
  refine wpAny_typeOf isS ?_
  rw [if_pos (by decide)]
  apply wpAny_bind
  refine back_applied hs ps ?_
  show wpAny _ _ (if (((items.size : Int) - 1) == 0 && (-1 : Int) == 1 && items.size == items.size) = true then _ else _) _ _ s
  rw [if_neg (by simp), back_pick]
  first
    | exact wpAny_bind (m := Builtin.Tuple.tupleExact _) (wpAny_newObj_type (wpAny_pure ⟨_, rfl, wpAny_pure h⟩) fits)
    | exact wpAny_bind (m := Builtin.Tuple.tupleExact _) (wpAny_newObj_type (wpAny_bind (wpAny_pure (wpAny_pure ⟨_, rfl, wpAny_pure h⟩))) fits)
    | exact wpAny_bind (wpAny_bind (m := Builtin.Tuple.tupleExact _) (wpAny_newObj_type (wpAny_pure (wpAny_pure ⟨_, rfl, wpAny_pure h⟩)) fits))
    | exact wpAny_bind (wpAny_bind (m := Builtin.Tuple.tupleExact _) (wpAny_newObj_type (wpAny_pure ⟨_, rfl, wpAny_pure h⟩) fits))
end
def tRevT (K : PySem.W.Frag) (te : TE) : TE := fun σ H Q => te σ H fun x H1 => ∃ a xs, x = .ref a ∧ SqT K H1 a xs ∧ ∀ p, H1 p = none → Q (.ref p) (upd H1 p (.tup xs.reverse))
section
variable {X : Cx}
theorem pe_revT {e : Expr} {te : TE} {k : Nat} {p1 p2 p3 pos : Pos} (he : PE X e te) : PE X (.Subscript e (.Slice none none (some (.UnaryOp .USub (.Constant (.int 1) k p1) p2)) p3) pos) (tRevT X.K te) := by
  refine ⟨fun pins s0 σ H Q I h => ?_⟩
  refine Subscript_ (thn (he.run pins s0 σ H _ I h) fun v s1 ⟨x, H1, I1, r1, q1⟩ => ?_)
  obtain ⟨a, xs, rfl, hx, q⟩ := q1
  cases r1
  have step : PO X (some (.UnaryOp .USub (.Constant (.int 1) k p1) p2)) (tPart (tUn (rU fun i => .int (-i)) (tC (.int 1)))) := po_some (pe_un un_neg pe_int)
  refine wpAny_Slice (thn (po_none.run pins s1 σ H1 (fun o G => o = none ∧ G = H1) I1 ⟨rfl, rfl⟩) fun vl s2 ⟨l, G2, I2, pl, el, e2⟩ => ?_)
  subst el e2
  refine thn (po_none.run pins s2 σ G2 (fun o G => o = none ∧ G = G2) I2 ⟨rfl, rfl⟩) fun vu s3 ⟨u, G3, I3, pu, eu, e3⟩ => ?_
  subst eu e3
  refine thn (step.run pins s3 σ G3 (fun o G => o = some (-1) ∧ G = G3) I3 ⟨1, rfl, -1, rfl, rfl, rfl⟩) fun vs s4 ⟨o, G4, I4, ps, eo, e4⟩ => ?_
  subst eo e4
  cases pl
  cases pu
  have I5 : Inv X pins σ G4 { s4 with heap := s4.heap.push { cls := .type "slice", data := .fields #[.none, .none, vs] } } := I4.kept (t' := s4.toks) fun b ob z => Heap.get?_push_of_some _ z
  obtain ⟨its, r, ht, hz⟩ := I5.tuple hx
  have lens := r.length
  show wpAny (model X.prog X.w) X.A (subscriptTail e (.Slice none none (some (.UnaryOp .USub (.Constant (.int 1) k p1) p2)) p3) (.ref a) (.ref s4.heap.objs.size)) (EP X pins σ Q) X.xe { s4 with heap := s4.heap.push { cls := .type "slice", data := .fields #[.none, .none, vs] } }
  refine tail_any (ops := [.ref a, .ref s4.heap.objs.size]) ht.typeIs (PyProof.Rows.slot_tuple_getitem.lookup) ?_ (by with_unfolding_all rfl)
  refine back_item ht (Heap.IsSliceOf.new _ .none .none vs) ps ?_ (by rw [List.size_toArray]; omega)
  refine ⟨.ref _, _, I5.laid (t' := s4.toks) (o := .tup xs.reverse) (fun b ob z => Heap.get?_push_of_some _ z) (Nat.le_refl _) ?_, rfl, q _ (I5.hok.fresh (Nat.le_refl _))⟩
  exact ⟨by rw [List.length_reverse]; exact hz, its.reverse, r.reverse, ⟨_, Heap.get?_push_size _ rfl, rfl, 0, rfl⟩⟩
end
end TB

set_option Elab.async false
set_option linter.all false
set_option maxRecDepth 100000
set_option maxHeartbeats 1000000
namespace TB
open PySem PySem.Spec PyProof.Rows L2

/-! ### heaps without some places -/
def hid (F : List Addr) (H : Hp) : Hp := fun b => if b ∈ F then none else H b
theorem hid_at {F : List Addr} {H : Hp} {b : Addr} (n : b ∉ F) : hid F H b = H b := if_neg n
theorem hid_sub {F : List Addr} {H : Hp} : Same (hid F H) H := fun b o e => by
  unfold hid at e
  by_cases h : b ∈ F
  · rw [if_pos h] at e
    cases e
  · rw [if_neg h] at e
    exact e
theorem hid_mono {F : List Addr} {H H' : Hp} (k : ∀ b o, b ∉ F → H b = some o → H' b = some o) : Same (hid F H) (hid F H') := fun b o e => by
  unfold hid at e
  by_cases h : b ∈ F
  · rw [if_pos h] at e
    cases e
  · rw [if_neg h] at e
    rw [hid_at h]
    exact k b o h e
theorem hid_same {F : List Addr} {H H' : Hp} (s : Same H H') : Same (hid F H) (hid F H') := hid_mono fun b o _ e => s b o e
theorem hid_but {F : List Addr} {L : Addr} {H H' : Hp} (hL : L ∈ F) (k : But L H H') : Same (hid F H) (hid F H') := hid_mono fun b o nb e => k b o (fun z => nb (z ▸ hL)) e
theorem hid_upd {F : List Addr} {H : Hp} {W : Addr} {o : HO} (h : W ∈ F) : hid F (upd H W o) = hid F H := by
  funext b
  unfold hid
  by_cases c : b ∈ F
  · rw [if_pos c, if_pos c]
  · have ne : b ≠ W := fun z => c (z ▸ h)
    rw [if_neg c, if_neg c, upd_ne ne]
/-- the places that are hidden are taken -/
def Took (F : List Addr) (H : Hp) : Prop := ∀ f ∈ F, H f ≠ none
theorem Took.out {F : List Addr} {H : Hp} {p : Addr} (t : Took F H) (n : H p = none) : p ∉ F := fun z => t p z n
theorem Took.same {F : List Addr} {H H' : Hp} (t : Took F H) (s : Same H H') : Took F H' := fun f hf z => by
  cases e : H f with
  | none => exact t f hf e
  | some o =>
    rw [s f o e] at z
    cases z
theorem Took.but {F : List Addr} {L : Addr} {H H' : Hp} {zs : List V} (t : Took F H) (k : But L H H') (e : H' L = some (.lst zs)) : Took F H' := fun f hf z => t f hf (k.free e z)

/-! ### slices, sums of tuples, all outside the hidden places -/
section
variable {K : PySem.W.Frag} {F : List Addr} {H : Hp}
theorem slH {a : Addr} {xs : List V} {lo hi : Option Int} {Q : VK} (t : Took F H) (h : SqT K (hid F H) a xs) (q : ∀ H' r, Same H H' → SqT K (hid F H') r (cutV xs lo hi) → Q (.ref r) H') : rSlA K (.ref a) lo hi H Q := by
  refine ⟨a, xs, rfl, Same.tup hid_sub h, fun hw => q H a (Same.refl H) ?_, fun _ p np => q _ p (same_upd np) (.inl (.inl ?_))⟩
  · unfold cutV
    rw [hw.1, hw.2, List.drop_zero, Nat.sub_zero, List.take_length]
    exact h
  · rw [hid_at (t.out np)]
    exact upd_same
theorem catH {a b : Addr} {xs ys : List V} {Q : VK} (t : Took F H) (ha : SqT K (hid F H) a xs) (hb : SqT K (hid F H) b ys) (hl : xs.length + ys.length ≤ sizeLine) (q : ∀ H' r, Same H H' → SqT K (hid F H') r (xs ++ ys) → Q (.ref r) H') : rCatA K (.ref a) (.ref b) H Q := by
  refine ⟨a, b, xs, ys, rfl, rfl, Same.tup hid_sub ha, Same.tup hid_sub hb, hl, fun e => q H b (Same.refl H) ?_, fun _ e => q H a (Same.refl H) ?_, fun _ _ p np => q _ p (same_upd np) (.inl (.inl ?_))⟩
  · rw [e, List.nil_append]
    exact hb
  · rw [e, List.append_nil]
    exact ha
  · rw [hid_at (t.out np)]
    exact upd_same
theorem newT {p : Addr} {xs : List V} (t : Took F H) (n : H p = none) : SqT K (hid F (upd H p (.tup xs))) p xs := .inl (.inl (by
  rw [hid_at (t.out n)]
  exact upd_same))
theorem newL {p : Addr} {xs : List V} (t : Took F H) (n : H p = none) : SqL K (hid F (upd H p (.lst xs))) p xs := .inl (.inl (by
  rw [hid_at (t.out n)]
  exact upd_same))
end
/-! ### the data of slices -/
def cutD (ds : List PyData) (lo hi : Option Int) : List PyData := (ds.drop (HT.sIx ds.length 0 lo)).take (HT.sIx ds.length ds.length hi - HT.sIx ds.length 0 lo)
theorem cutD_mem {ds : List PyData} {lo hi : Option Int} {d : PyData} (h : d ∈ cutD ds lo hi) : d ∈ ds := List.mem_of_mem_drop (List.mem_of_mem_take h)
theorem cutD_len (ds : List PyData) (lo hi : Option Int) : (cutD ds lo hi).length ≤ ds.length := by
  unfold cutD
  rw [List.length_take, List.length_drop]
  omega
theorem DpAll.drop {K : PySem.W.Frag} {H : Hp} : ∀ {vs : List V} {ds : List PyData} (i : Nat), DpAll K H vs ds → DpAll K H (vs.drop i) (ds.drop i)
  | _, _, 0, h => h
  | _, _, _ + 1, .nil => .nil
  | _, _, i + 1, .cons _ t => DpAll.drop i t
theorem DpAll.take {K : PySem.W.Frag} {H : Hp} : ∀ {vs : List V} {ds : List PyData} (i : Nat), DpAll K H vs ds → DpAll K H (vs.take i) (ds.take i)
  | _, _, 0, _ => by
    rw [List.take_zero, List.take_zero]
    exact .nil
  | _, _, _ + 1, .nil => .nil
  | _, _, i + 1, .cons a t => .cons a (DpAll.take i t)
theorem DpAll.cut {K : PySem.W.Frag} {H : Hp} {vs : List V} {ds : List PyData} {lo hi : Option Int} (h : DpAll K H vs ds) : DpAll K H (cutV vs lo hi) (cutD ds lo hi) := by
  unfold cutV cutD
  rw [DpAll.len h]
  exact DpAll.take _ (DpAll.drop _ h)
theorem DpAll.app {K : PySem.W.Frag} {H : Hp} : ∀ {vs ws : List V} {ds es : List PyData}, DpAll K H vs ds → DpAll K H ws es → DpAll K H (vs ++ ws) (ds ++ es)
  | _, _, _, _, .nil, h => h
  | _, _, _, _, .cons a t, h => .cons a (DpAll.app t h)
theorem DpAll.rev {K : PySem.W.Frag} {H : Hp} : ∀ {vs : List V} {ds : List PyData}, DpAll K H vs ds → DpAll K H vs.reverse ds.reverse
  | _, _, .nil => .nil
  | _, _, .cons a t => by
    rw [List.reverse_cons, List.reverse_cons]
    exact DpAll.snoc a (DpAll.rev t)
/-- one of a list's things, by a place that was drawn -/
theorem pickD {K : PySem.W.Frag} {H : Hp} {us : List V} {ds : List PyData} {v : Int} (h : DpAll K H us ds) (h0 : 0 ≤ v) (h1 : v < us.length) : ∃ x d, atI us v = some x ∧ Dp K H x d ∧ d ∈ ds := by
  obtain ⟨j, rfl⟩ : ∃ j : Nat, v = (j : Int) := ⟨v.toNat, (Int.toNat_of_nonneg h0).symm⟩
  have hj : j < us.length := by omega
  obtain ⟨d, e, dx⟩ := DpAll.get h (List.getElem?_eq_getElem hj)
  exact ⟨us[j], d, atI_nat (List.getElem?_eq_getElem hj), dx, List.mem_of_getElem? e⟩
/-! ### things of this depth and width -/
def atom : PyData → Prop
  | .none => True
  | .bool _ => True
  | .int _ => True
  | .str z => PyData.strOk z = true
  | _ => False
def Gd (n : Nat) : Nat → PyData → Prop
  | 0, d => atom d
  | k + 1, d => atom d ∨ ∃ ds, (d = .tuple ds ∨ d = .list ds) ∧ ds.length ≤ n ∧ ∀ e ∈ ds, Gd n k e
theorem Gd.atom {n k : Nat} {d : PyData} (h : atom d) : Gd n k d := by
  cases k with
  | zero => exact h
  | succ k => exact .inl h
theorem Gd.mono {n m : Nat} (hn : n ≤ m) : ∀ {k l : Nat} {d : PyData}, k ≤ l → Gd n k d → Gd m l d
  | 0, _, _, _, h => Gd.atom h
  | k + 1, 0, _, h, _ => by omega
  | k + 1, l + 1, _, hk, .inl h => .inl h
  | k + 1, l + 1, _, hk, .inr ⟨ds, e, hl, h⟩ => .inr ⟨ds, e, Nat.le_trans hl hn, fun d hd => Gd.mono hn (Nat.le_of_succ_le_succ hk) (h d hd)⟩
theorem Gd.tup {n k : Nat} {ds : List PyData} (hl : ds.length ≤ n) (h : ∀ e ∈ ds, Gd n k e) : Gd n (k + 1) (.tuple ds) := .inr ⟨ds, .inl rfl, hl, h⟩
theorem Gd.lst {n k : Nat} {ds : List PyData} (hl : ds.length ≤ n) (h : ∀ e ∈ ds, Gd n k e) : Gd n (k + 1) (.list ds) := .inr ⟨ds, .inr rfl, hl, h⟩
theorem Gd.tup_inv {n k : Nat} {ds : List PyData} (h : Gd n k (.tuple ds)) : ∃ l, k = l + 1 ∧ ds.length ≤ n ∧ ∀ e ∈ ds, Gd n l e := by
  cases k with
  | zero => exact absurd h id
  | succ k =>
    rcases h with h | ⟨es, e | e, hl, h⟩
    · exact absurd h id
    · cases e
      exact ⟨k, rfl, hl, h⟩
    · cases e
theorem Gd.lays {n : Nat} : ∀ {k : Nat} {d : PyData}, Gd n k d → PyData.canLay0 d = true ∧ PyData.depth d ≤ k
  | k, d, h => by
    have at_ : ∀ {d : PyData}, TB.atom d → PyData.canLay0 d = true ∧ PyData.depth d = 0 := by
      intro d h
      cases d with
      | none => exact ⟨rfl, rfl⟩
      | bool b => exact ⟨rfl, rfl⟩
      | int i => exact ⟨rfl, rfl⟩
      | str z => exact ⟨h, rfl⟩
      | list ds => exact absurd h id
      | tuple ds => exact absurd h id
      | dict ds => exact absurd h id
    cases k with
    | zero =>
      obtain ⟨a, b⟩ := at_ h
      exact ⟨a, by omega⟩
    | succ k =>
      rcases h with h | ⟨ds, e, _, h⟩
      · obtain ⟨a, b⟩ := at_ h
        exact ⟨a, by omega⟩
      · have all : ∀ es : List PyData, (∀ e ∈ es, Gd n k e) → PyData.canLayAll0 es = true ∧ PyData.depthAll es ≤ k := by
          intro es
          induction es with
          | nil => exact fun _ => ⟨rfl, Nat.zero_le _⟩
          | cons e es ih =>
            intro he
            obtain ⟨a, b⟩ := ih fun x hx => he x (List.mem_cons_of_mem _ hx)
            obtain ⟨c, d⟩ := Gd.lays (he e List.mem_cons_self)
            refine ⟨by simp only [PyData.canLayAll0, a, c, Bool.and_self], ?_⟩
            simp only [PyData.depthAll]
            omega
        obtain ⟨a, b⟩ := all ds h
        rcases e with rfl | rfl
        · exact ⟨by simp only [PyData.canLay0, a], by simp only [PyData.depth]; omega⟩
        · exact ⟨by simp only [PyData.canLay0, a], by simp only [PyData.depth]; omega⟩
theorem Gd.shaped {n k : Nat} {d : PyData} (h : Gd n k d) (hk : k ≤ 60) : SeqAt.shaped d = true := by
  obtain ⟨a, b⟩ := h.lays
  unfold SeqAt.shaped
  rw [a, decide_eq_true (by omega)]
  rfl
theorem eqv_void : ∀ ds : List PyData, PyData.eqv (.tuple ds) (.tuple []) = decide (ds = [])
  | [] => by simp [PyData.eqv, PyData.eqvAll]
  | d :: ds => by simp [PyData.eqv, PyData.eqvAll]
/-! ### a statement, and what is known behind it -/
def tCut (t : TS) : TS := fun D σ H => ∃ R : L2.St → Hp → Prop, t { D with nx := R } σ H ∧ ∀ σ' H', R σ' H' → D.nx σ' H'
theorem ps_cut {X : Cx} {st : Stmt} {t : TS} (h : PS X st t) : PS X st (tCut t) := by
  refine ⟨fun pins s0 σ H D I hw => ?_⟩
  obtain ⟨R, a, b⟩ := hw
  refine thn (h.run pins s0 σ H _ I a) fun fl s1 z => ?_
  cases fl with
  | next =>
    obtain ⟨σ', H', I2, z⟩ := z
    exact ⟨σ', H', I2, b _ _ z⟩
  | brk => exact z
  | cont => exact z
  | ret v => exact z
end TB

set_option Elab.async false
set_option linter.all false
set_option maxRecDepth 100000
set_option maxHeartbeats 1000000
namespace TB
open PySem PySem.Spec PyProof.Rows L2

/-! ### enumerate(t), t a tuple -/
abbrev eT1 (h : Heap) (a : Addr) : Heap := h.push { cls := .type "tuple_iterator", data := .fields #[.ref a, .int 0 0] }
abbrev eT2 (h : Heap) (a : Addr) : Heap := (eT1 h a).push { cls := .type "enumerate", data := .fields #[.none, .bool false, .ref h.objs.size, rawInt 0, .none, .none] }
theorem enT_new (a : Addr) (xs : Array Value) (n : Nat) (dct : Option Addr) (sl : Array (Option Value)) :
    Meets (Builtin.«enumerate.__new__» ⟨[.type "enumerate", .ref a], []⟩) (fun _ R s => s.heap.get? a = some { cls := .type "tuple", dict := dct, data := .seq xs n, slots := sl } ∧ R (.ok (.ret (.ref (eT1 s.heap a).objs.size))) { s with heap := eT2 s.heap a }) :=
  .of_wp fun prog w A R st h => by
    obtain ⟨hp, g, d, tk, os⟩ := st
    obtain ⟨ha, h⟩ := h
    have sub := sub_enumerate
    have iA : Heap.IsTuple (Shared.heap ⟨hp, g, d, tk, os⟩) a xs := ⟨_, ha, rfl, n, rfl⟩
    wp_walk using AutoSeq1.wpAny_loadPart' ha
    refine wpAny_stack_any fun st => wpAny_pure ?_
    split
    · rename_i c _ _ _ _ _
      cases (c == Value.type "enumerate")
      · wp_walk using AutoSeq1.wpAny_loadPart' ha, wpAny_pyIter_tuple iA
        exact ⟨_, rfl, h⟩
      · wp_walk using AutoSeq1.wpAny_loadPart' ha, wpAny_pyIter_tuple iA
        exact ⟨_, rfl, h⟩
    · wp_walk using AutoSeq1.wpAny_loadPart' ha, wpAny_pyIter_tuple iA
      exact ⟨_, rfl, h⟩
section
variable {prog : Program} {w : World} {A : Around} {E : Value → Shared → Prop} {s : Shared}
theorem call_enT {a : Addr} {xs : Array Value} {Q : Value → Shared → Prop} (ha : s.heap.IsTuple a xs)
    (h : ∀ (n : Nat) (g : Heap), n = s.heap.objs.size → IsEnum g (n + 1) n 0 .none → g.IsTupleIter n a 0 → (∀ c o, s.heap.get? c = some o → g.get? c = some o) → Q (.ref (n + 1)) { s with heap := g }) :
    wpAny (model prog w) A (call (.type "enumerate") [.ref a]) Q E s := by
  obtain ⟨⟨c, dct, dt, sl⟩, ho, hc, n, hd⟩ := ha
  obtain rfl : c = .type "tuple" := hc
  obtain rfl : dt = .seq xs n := hd
  refine callType_new F.called_enumerate (by decide) (F.typeCall_enumerate_1 _) (F.newCall_enumerate_1 _) (fun ob => F.args_object_init_2 ob _) F.entry_enumerate_new (enT_new a xs n dct sl) ⟨ho, ?_⟩
  have e1 : (eT1 s.heap a).objs.size = s.heap.objs.size + 1 := Heap.size_push ..
  have g2 : (eT2 s.heap a).get? (eT1 s.heap a).objs.size = some _ := Heap.get?_push_size _ rfl
  have g1 : (eT2 s.heap a).get? s.heap.objs.size = some _ := Heap.get?_push_of_some _ (Heap.get?_push_size _ rfl)
  show _ ∧ _
  rw [e1] at g2
  rw [e1]
  exact ⟨⟨_, g2, rfl⟩, h _ _ rfl g2 ⟨_, g1, rfl, rfl⟩ fun c o z => Heap.get?_push_of_some _ (Heap.get?_push_of_some _ z)⟩
end
/-- a turn over it: a new pair of the place and the thing there -/
def ItET (K : PySem.W.Frag) (a : Addr) : It :=
  ⟨fun i H => ∃ (xs : List V) (x : V), SqT K H a xs ∧ xs[i]? = some x, fun i H v H' => ∃ T x, v = .ref T ∧ H T = none ∧ H' = upd H T (.tup [.int (i : Nat), x]) ∧ ∀ xs, SqT K H a xs → xs[i]? = some x, fun i H => ∃ xs : List V, SqT K H a xs ∧ xs.length ≤ i⟩
theorem turn_ET {P : Program} {w : World} {K : PySem.W.Frag} {elts : List Expr} {kk : Nat} {tpos : Pos} {a e it : Addr} (nei : e ≠ it) (na : a ≠ it) (nae : a ≠ e) :
    Turn P w K (.Tuple elts kk tpos) (ItET K a) [e, it] e (fun i h => (∃ old, IsEnum h e it ((i : Nat) : Int) old) ∧ h.IsTupleIter it a i) where
  mem := by simp
  obj := fun i h st b hb => by
    obtain ⟨⟨old, he⟩, ⟨o, ho, hc, hd⟩⟩ := st
    have two : b = e ∨ b = it := by simpa using hb
    rcases two with rfl | rfl
    · exact ⟨_, he, fun v q => nomatch q⟩
    · exact ⟨o, ho, fun v q => by rw [hd] at q; cases q⟩
  keep := fun i h h' st k => by
    obtain ⟨⟨old, he⟩, hi⟩ := st
    exact ⟨⟨old, k _ (by simp) _ he⟩, hi.at fun o q => k _ (by simp) o q⟩
  item := by
    intro X eP eW eK hc i pins s σ H E I hf st hg
    subst eP eW eK
    obtain ⟨⟨old, he⟩, hit⟩ := st
    obtain ⟨xs, x, hq, hx⟩ := hg
    obtain ⟨its, rv, p, hz⟩ := I.tuple hq
    obtain ⟨u, hu, ru⟩ := rv.get hx
    have el : e < s.heap.objs.size := Heap.lt_size he
    have il : it < s.heap.objs.size := by obtain ⟨_, q, _⟩ := hit; exact Heap.lt_size q
    have ilt : i < its.toArray.size := by
      rw [List.size_toArray]
      exact (List.getElem?_eq_some_iff.mp hu).1
    have D := Draws.tuple (prog := X.prog) (w := X.w) (A := X.A.in1) (I.ok.hd hc) it a na its.toArray
    refine wpAny_pyNext_enum_itemD D he ⟨hit, p⟩ ilt nei (by simp; exact ⟨nei, nae.symm⟩) fun y g tk hP ho st2 hT hsz hk => ?_
    have yu : y = u := by
      have z : some y = some u := by
        rw [← hu, ← hP]
        simp
      exact Option.some.inj z
    subst yu
    refine ⟨_, rfl, wpAny_letOwnedTupleGo_enum (s := { s with heap := g, toks := tk + 1 }) ho fun g2 he2 sb => ?_⟩
    have hT2 : g2.get? s.heap.objs.size = some { cls := .type "tuple", data := .seq #[.int i tk, y] } := (sb.2 _ (Nat.ne_of_gt el)).trans hT
    have new : ObjOk X.prog X.w (upd H s.heap.objs.size (.tup [.int (i : Nat), x])) g2 s.heap.objs.size (.tup [.int (i : Nat), x]) := ⟨by show 2 ≤ sizeLine; decide, [.int i tk, y], .cons ⟨_, rfl⟩ (.cons ru .nil), ⟨_, hT2, rfl, _, rfl⟩⟩
    have I1 : Inv X pins σ (upd H s.heap.objs.size (.tup [.int (i : Nat), x])) { s with heap := g2, toks := tk + 1 } := by
      refine I.turnedNew (ch := [e, it]) (fun b ob hb q => ?_) hf (Nat.le_refl _) new
      have n2 : b ≠ e ∧ b ≠ it := by simpa using hb
      exact (sb.2 b n2.1).trans (hk b ob n2.1 n2.2 q)
    refine ⟨.ref s.heap.objs.size, _, I1, rfl, ⟨_, x, rfl, I.hok.fresh (Nat.le_refl _), rfl, fun l hl => by rw [I.tuple_inj hl hq]; exact hx⟩, ⟨⟨y, ?_⟩, st2.1.at fun o q => (sb.2 it (Ne.symm nei)).trans q⟩, fun b hb => ?_⟩
    · have i1 : ((i + 1 : Nat) : Int) = (i : Int) + 1 := by omega
      rw [i1]
      exact he2
    · have two : b = e ∨ b = it := by simpa using hb
      have lt : b < s.heap.objs.size := by
        rcases two with rfl | rfl
        · exact el
        · exact il
      rw [upd_ne (Nat.ne_of_lt lt)]
      exact (hf b hb).1
  done := by
    intro X eP eW eK hc i pins s σ H E I hf st hg
    subst eP eW eK
    obtain ⟨⟨old, he⟩, hit⟩ := st
    obtain ⟨xs, hq, hx⟩ := hg
    obtain ⟨its, rv, p, hz⟩ := I.tuple hq
    have hl := rv.length
    obtain ⟨f0, f1, f2, f3, f4, f5⟩ := hf it (by simp)
    have hT : s.TypeIs (.ref e) "enumerate" := ⟨_, he, rfl⟩
    unfold pyNext
    refine wpAny_bind (wpAny_attempt (wpAny_callSpecial?_slot (name := Str.ofString "__next__") hT F.slot_enumerate_next (wpAny_call_entry F.slot_enumerate_next hT F.entry_enumerate_next ?_ (F.args_enumerate_next_1 _))))
    show wpAny _ _ (field (.ref e) 2 >>= _) _ _ _
    refine wpAny_bind (wpAny_field he rfl (x := .ref it) rfl ?_)
    refine wpAny_bind (wpAny_nextOf_tuple_end (A := X.A.in1) (I.ok.hd hc) hit p (by simp; omega) fun g ex eb hx' => ?_)
    obtain ⟨o, ho, hce⟩ := hx'
    refine wpAny_bind (wpAny_isInstance (T := "StopIteration") (b := true) ⟨o, ho, hce⟩ isSubtype_stop ?_)
    exact wpAny_pure ⟨rfl, I.turned (t' := s.toks) (fun b o hb q => eb b o hb q) f0 f1 f3 f4 f5⟩
  self := fun A i s Q E st h => by
    obtain ⟨⟨_, he⟩, _⟩ := st
    exact wpAny_pyIter_enum he h
def iET (K : PySem.W.Frag) (ta : TA) : TI := fun σ H R => ta σ H fun vs H1 => ∃ a xs, vs = [.ref a] ∧ SqT K H1 a xs ∧ R (ItET K a) H1
theorem pi_enumT {X : Cx} {e : Expr} {ta : TA} {p pos tpos : Pos} {elts : List Expr} {kk : Nat} (hg : Gl X "enumerate") (hm : X.mg "enumerate" = none) (ha : PA X [e] ta)
    (hs : starEach [e] X.env = [(false, eval e X.env)] := by rfl) : PI X (.Tuple elts kk tpos) (.Call (.Name "enumerate" p) [e] [] pos) (iET X.K ta) := by
  refine ⟨fun pins s0 σ H R I h => ?_⟩
  refine Call_ (ld_blt I hg hm boot_enumerate (PyProof.Rows.callWith_type1 (thn (ha.run pos pins s0 σ H _ I h) fun us u ⟨vs, H1, I1, r1, q1⟩ => ?_) hs rfl))
  obtain ⟨a, xs, rfl, hq, q⟩ := q1
  cases r1 with
  | cons r rr =>
    cases rr
    cases r
    obtain ⟨its, rv, p1, _⟩ := I1.tuple hq
    have la : a < u.heap.objs.size := by obtain ⟨o, ho, _⟩ := id p1; exact Heap.lt_size ho
    refine call_enT (xs := its.toArray) p1 fun n g hn he hi hk => wpAny_pyIter_enum he ?_
    have I2 : Inv X pins σ H1 { u with heap := g } := I1.kept (t' := u.toks) hk
    have fr : ∀ c, c ∈ [n + 1, n] → FpOk X pins H1 c := fun c hcm => by
      have two : c = n + 1 ∨ c = n := by simpa using hcm
      have le : u.heap.objs.size ≤ c := by rw [← hn]; omega
      exact I1.fpOk le (I1.hok.fresh le)
    exact ⟨n + 1, [n + 1, n], _, _, H1, rfl, I2, turn_ET (e := n + 1) (it := n) (Nat.succ_ne_self _) (by rw [hn]; exact Nat.ne_of_lt la) (by rw [hn]; exact Nat.ne_of_lt (Nat.lt_succ_of_lt la)), ⟨⟨.none, he⟩, hi⟩, fr, q⟩
section
variable {K : PySem.W.Frag} {a b : Addr} {xs ys : List V}
theorem walk_ET : Walk (ItET K a) xs.length (fun H => SqT K H a xs) (YPair (fun i => some (.int (i : Nat))) (fun i => xs[i]?)) := by
  refine ⟨fun i _ hi q => ⟨xs, xs[i], q, by simp [hi]⟩, fun _ q => ⟨xs, q, Nat.le_refl _⟩, fun i H x H' _ q y => ?_⟩
  obtain ⟨T, z, h1, h2, h3, h4⟩ := y
  exact ⟨T, _, z, h1, h2, h3, rfl, h4 xs q⟩
theorem walk_zT {n : Nat} (hn : n = min xs.length ys.length) : Walk (RZ.ItzT K a b) n (fun H => SqT K H a xs ∧ SqT K H b ys) (YPair (fun i => xs[i]?) (fun i => ys[i]?)) := by
  refine ⟨fun i H hi q => ?_, fun H q => ?_, fun i H x H' hi q y => ?_⟩
  · have h1 : i < xs.length := by omega
    have h2 : i < ys.length := by omega
    exact ⟨xs, ys, xs[i], ys[i], q.1, q.2, by simp [h1], by simp [h2]⟩
  · exact ⟨xs, ys, q.1, q.2, by omega⟩
  · obtain ⟨T, u, v, h1, h2, h3, h4, h5⟩ := y
    exact ⟨T, u, v, h1, h2, h3, h4 xs q.1, h5 ys q.2⟩
theorem walk_TL {n : Nat} (hn : n = min xs.length ys.length) : Walk (ItTL K a b) n (fun H => SqT K H a xs ∧ SqL K H b ys) (YPair (fun i => xs[i]?) (fun i => ys[i]?)) := by
  refine ⟨fun i H hi q => ?_, fun H q => ?_, fun i H x H' hi q y => ?_⟩
  · have h1 : i < xs.length := by omega
    have h2 : i < ys.length := by omega
    exact ⟨xs, ys, xs[i], ys[i], q.1, q.2, by simp [h1], by simp [h2]⟩
  · exact ⟨xs, ys, q.1, q.2, by omega⟩
  · obtain ⟨T, u, v, h1, h2, h3, h4, h5⟩ := y
    exact ⟨T, u, v, h1, h2, h3, h4 xs q.1, h5 ys q.2⟩
end
end TB

set_option Elab.async false
set_option linter.all false
set_option maxRecDepth 100000
set_option maxHeartbeats 1000000
namespace TB
open PySem PySem.Spec PyProof.Rows L2

/-! ### zip(t, u, v), three tuples -/
def It3 (K : PySem.W.Frag) (a b c : Addr) : It :=
  ⟨fun i H => ∃ (xs ys zs : List V) (x y z : V), (SqT K H a xs ∧ SqT K H b ys ∧ SqT K H c zs) ∧ xs[i]? = some x ∧ ys[i]? = some y ∧ zs[i]? = some z,
    fun i H v H' => ∃ T x y z, v = .ref T ∧ H T = none ∧ H' = upd H T (.tup [x, y, z]) ∧ (∀ xs, SqT K H a xs → xs[i]? = some x) ∧ (∀ ys, SqT K H b ys → ys[i]? = some y) ∧ ∀ zs, SqT K H c zs → zs[i]? = some z,
    fun i H => ∃ xs ys zs : List V, (SqT K H a xs ∧ SqT K H b ys ∧ SqT K H c zs) ∧ i = min (min xs.length ys.length) zs.length⟩
theorem turn_3 {P : Program} {w : World} {K : PySem.W.Frag} {elts : List Expr} {kk : Nat} {tpos : Pos} {a b c z TI TO i1 i2 i3 : Addr} (S : ZipSep3 z TI TO i1 i2 i3 [i1, a] [i2, b] [i3, c]) (na : a ≠ i1) (nb : b ≠ i2) (nc : c ≠ i3) :
    Turn P w K (.Tuple elts kk tpos) (It3 K a b c) [z, TI, TO, i1, i2, i3] z (fun i h => IsZip h z TI TO .none ∧ IsTupOf3 h TI (.ref i1) (.ref i2) (.ref i3) ∧ (∃ x y u, IsTupOf3 h TO x y u) ∧ h.IsTupleIter i1 a i ∧ h.IsTupleIter i2 b i ∧ h.IsTupleIter i3 c i) where
  mem := by simp
  obj := fun i h st q hq => by
    obtain ⟨isz, pI, ⟨x, y, u, pO⟩, ⟨o1, e1, _, d1⟩, ⟨o2, e2, _, d2⟩, ⟨o3, e3, _, d3⟩⟩ := st
    have six : q = z ∨ q = TI ∨ q = TO ∨ q = i1 ∨ q = i2 ∨ q = i3 := by simpa using hq
    rcases six with rfl | rfl | rfl | rfl | rfl | rfl
    · exact ⟨_, isz, fun v q => nomatch q⟩
    · exact ⟨_, pI, fun v q => nomatch q⟩
    · exact ⟨_, pO, fun v q => nomatch q⟩
    · exact ⟨o1, e1, fun v q => by rw [d1] at q; cases q⟩
    · exact ⟨o2, e2, fun v q => by rw [d2] at q; cases q⟩
    · exact ⟨o3, e3, fun v q => by rw [d3] at q; cases q⟩
  keep := fun i h h' st k => by
    obtain ⟨isz, pI, ⟨x, y, u, pO⟩, h1, h2, h3⟩ := st
    exact ⟨k _ (by simp) _ isz, k _ (by simp) _ pI, ⟨x, y, u, k _ (by simp) _ pO⟩, h1.at fun o q => k _ (by simp) o q, h2.at fun o q => k _ (by simp) o q, h3.at fun o q => k _ (by simp) o q⟩
  item := by
    intro X eP eW eK hc i pins s σ H E I hf st hg
    subst eP eW eK
    obtain ⟨isz, pI, pO, h1, h2, h3⟩ := st
    obtain ⟨xs, ys, zs, x, y, u, ⟨qx, qy, qz⟩, hx, hy, hu⟩ := hg
    obtain ⟨is1, r1, p1, _⟩ := I.tuple qx
    obtain ⟨is2, r2, p2, _⟩ := I.tuple qy
    obtain ⟨is3, r3, p3, _⟩ := I.tuple qz
    obtain ⟨v1, a1, w1⟩ := r1.get hx
    obtain ⟨v2, a2, w2⟩ := r2.get hy
    obtain ⟨v3, a3, w3⟩ := r3.get hu
    have D1 := Draws.tuple (prog := X.prog) (w := X.w) (A := X.A.in1) (I.ok.hd hc) i1 a na is1.toArray
    have D2 := Draws.tuple (prog := X.prog) (w := X.w) (A := X.A.in1) (I.ok.hd hc) i2 b nb is2.toArray
    have D3 := Draws.tuple (prog := X.prog) (w := X.w) (A := X.A.in1) (I.ok.hd hc) i3 c nc is3.toArray
    have WT := WalksT.zipD3 S D1 D2 D3
    have l1 := (List.getElem?_eq_some_iff.mp a1).1
    have l2 := (List.getElem?_eq_some_iff.mp a2).1
    have l3 := (List.getElem?_eq_some_iff.mp a3).1
    have il : i < min (min is1.toArray.size is2.toArray.size) is3.toArray.size := by
      simp only [List.size_toArray]
      omega
    have inH : ∀ q ∈ [z, TI, TO, i1, i2, i3], q < s.heap.objs.size := fun q hq => by
      have six : q = z ∨ q = TI ∨ q = TO ∨ q = i1 ∨ q = i2 ∨ q = i3 := by simpa using hq
      obtain ⟨_, _, _, pO'⟩ := pO
      obtain ⟨_, e1, _⟩ := h1
      obtain ⟨_, e2, _⟩ := h2
      obtain ⟨_, e3, _⟩ := h3
      rcases six with rfl | rfl | rfl | rfl | rfl | rfl
      · exact Heap.lt_size isz
      · exact Heap.lt_size pI
      · exact Heap.lt_size pO'
      · exact Heap.lt_size e1
      · exact Heap.lt_size e2
      · exact Heap.lt_size e3
    refine WT.item i s _ E il ⟨isz, pI, pO, ⟨h1, p1⟩, ⟨h2, p2⟩, ⟨h3, p3⟩⟩ fun T vals g tk hP le hT mid hk => ?_
    obtain ⟨x1, x2, x3, e1, e2, e3, rfl⟩ := hP
    have k1 : x1 = v1 := Option.some.inj (by rw [← a1, ← e1]; simp)
    have k2 : x2 = v2 := Option.some.inj (by rw [← a2, ← e2]; simp)
    have k3 : x3 = v3 := Option.some.inj (by rw [← a3, ← e3]; simp)
    subst k1 k2 k3
    have out := WT.apart i T g mid
    refine ⟨_, rfl, WT.go elts kk tpos i T { s with heap := g, toks := tk } _ E mid fun g2 st2 hk2 => ?_⟩
    obtain ⟨z2, I2', O2', ⟨t1, _⟩, ⟨t2, _⟩, ⟨t3, _⟩⟩ := st2
    have hT2 : g2.IsTuple T #[x1, x2, x3] := hT.at fun o q => hk2 T o out q
    have new : ObjOk X.prog X.w (upd H T (.tup [x, y, u])) g2 T (.tup [x, y, u]) := ⟨by show 3 ≤ sizeLine; decide, [x1, x2, x3], .cons w1 (.cons w2 (.cons w3 .nil)), hT2⟩
    have I1 : Inv X pins σ (upd H T (.tup [x, y, u])) { s with heap := g2, toks := tk } := by
      refine I.turnedNew (ch := [z, TI, TO, i1, i2, i3]) (fun q o hq e => ?_) hf le new
      have six : q ≠ z ∧ q ≠ TI ∧ q ≠ TO ∧ q ≠ i1 ∧ q ≠ i2 ∧ q ≠ i3 := by simpa using hq
      have five : q ∉ [z, TO, i1, i2, i3] := by simpa using ⟨six.1, six.2.2.1, six.2.2.2.1, six.2.2.2.2.1, six.2.2.2.2.2⟩
      exact hk2 q o five (hk q o five e)
    refine ⟨.ref T, _, I1, rfl, ⟨T, x, y, u, rfl, I.hok.fresh le, rfl, fun l hl => by rw [I.tuple_inj hl qx]; exact hx, fun l hl => by rw [I.tuple_inj hl qy]; exact hy, fun l hl => by rw [I.tuple_inj hl qz]; exact hu⟩, ⟨z2, I2', O2', t1, t2, t3⟩, fun q hq => ?_⟩
    have lt := inH q hq
    rw [upd_ne (Nat.ne_of_lt (Nat.lt_of_lt_of_le lt le))]
    exact (hf q hq).1
  done := by
    intro X eP eW eK hc i pins s σ H E I hf st hg
    subst eP eW eK
    obtain ⟨isz, pI, pO, h1, h2, h3⟩ := st
    obtain ⟨xs, ys, zs, ⟨qx, qy, qz⟩, hend⟩ := hg
    obtain ⟨is1, r1, p1, _⟩ := I.tuple qx
    obtain ⟨is2, r2, p2, _⟩ := I.tuple qy
    obtain ⟨is3, r3, p3, _⟩ := I.tuple qz
    have m1 := r1.length
    have m2 := r2.length
    have m3 := r3.length
    have D1 := Draws.tuple (prog := X.prog) (w := X.w) (A := X.A.in1) (I.ok.hd hc) i1 a na is1.toArray
    have D2 := Draws.tuple (prog := X.prog) (w := X.w) (A := X.A.in1) (I.ok.hd hc) i2 b nb is2.toArray
    have D3 := Draws.tuple (prog := X.prog) (w := X.w) (A := X.A.in1) (I.ok.hd hc) i3 c nc is3.toArray
    have WT := WalksT.zipD3 S D1 D2 D3
    have ei : min (min is1.toArray.size is2.toArray.size) is3.toArray.size = i := by
      simp only [List.size_toArray]
      omega
    refine WT.done s _ E (by rw [ei]; exact ⟨isz, pI, pO, ⟨h1, p1⟩, ⟨h2, p2⟩, ⟨h3, p3⟩⟩) fun g tk hk => ⟨rfl, I.turnedL (ch := [z, TI, TO, i1, i2, i3]) (fun q o hq e => ?_) hf⟩
    have six : q ≠ z ∧ q ≠ TI ∧ q ≠ TO ∧ q ≠ i1 ∧ q ≠ i2 ∧ q ≠ i3 := by simpa using hq
    exact hk q o (by simpa using ⟨six.1, six.2.2.1, six.2.2.2.1, six.2.2.2.2.1, six.2.2.2.2.2⟩) e
  self := fun _ _ _ _ _ st h => wpAny_pyIter_zip st.1 h
def i3T (K : PySem.W.Frag) (ta : TA) : TI := fun σ H R => ta σ H fun vs H1 => ∃ a b c xs ys zs, vs = [.ref a, .ref b, .ref c] ∧ (SqT K H1 a xs ∧ SqT K H1 b ys ∧ SqT K H1 c zs) ∧ R (It3 K a b c) H1
theorem pi_zip3 {X : Cx} {e e2 e3 : Expr} {ta : TA} {p pos tpos : Pos} {elts : List Expr} {kk : Nat} (hg : Gl X "zip") (hm : X.mg "zip" = none) (ha : PA X [e, e2, e3] ta)
    (hs : starEach [e, e2, e3] X.env = (false, eval e X.env) :: starEach [e2, e3] X.env := by rfl) (hpl : (backTo pos (starEach [e2, e3] X.env)).any (·.1) = false := by rfl) : PI X (.Tuple elts kk tpos) (.Call (.Name "zip" p) [e, e2, e3] [] pos) (i3T X.K ta) := by
  refine ⟨fun pins s0 σ H R I h => ?_⟩
  refine Call_ (ld_blt I hg hm PyProof.Rows.boot_zip (PyProof.Rows.callWith_type1 (thn (ha.run pos pins s0 σ H _ I h) fun us u ⟨vs, H1, I1, r1, q1⟩ => ?_) hs hpl))
  obtain ⟨a, b, c, xs, ys, zs, rfl, ⟨qx, qy, qz⟩, q⟩ := q1
  cases r1 with
  | cons ra rr =>
    cases rr with
    | cons rb rr =>
      cases rr with
      | cons rc rr =>
        cases rr
        cases ra
        cases rb
        cases rc
        obtain ⟨is1, _, p1, _⟩ := I1.tuple qx
        obtain ⟨is2, _, p2, _⟩ := I1.tuple qy
        obtain ⟨is3, _, p3, _⟩ := I1.tuple qz
        have la : a < u.heap.objs.size := by obtain ⟨o, ho, _⟩ := id p1; exact Heap.lt_size ho
        have lb : b < u.heap.objs.size := by obtain ⟨o, ho, _⟩ := id p2; exact Heap.lt_size ho
        have lc : c < u.heap.objs.size := by obtain ⟨o, ho, _⟩ := id p3; exact Heap.lt_size ho
        refine zip_begins3 (begins_tuple a is1.toArray) (begins_tuple b is2.toArray) (begins_tuple c is3.toArray) p1 p2 p3 fun g hz hTI hTO g1 g2 g3 hsz hk => wpAny_pyIter_zip hz ?_
        have I2 : Inv X pins σ H1 { u with heap := g } := I1.kept (t' := u.toks) hk
        generalize hn : u.heap.objs.size = n at *
        have fr : ∀ q, q ∈ [n + 5, n + 3, n + 4, n, n + 1, n + 2] → FpOk X pins H1 q := fun q hq => by
          have six : q = n + 5 ∨ q = n + 3 ∨ q = n + 4 ∨ q = n ∨ q = n + 1 ∨ q = n + 2 := by simpa using hq
          have le : u.heap.objs.size ≤ q := by rw [hn]; omega
          exact I1.fpOk le (I1.hok.fresh le)
        have sep := zip_sep3 (N := n) (fp1 := [a]) (fp2 := [b]) (fp3 := [c]) (fun q hq => by rw [List.mem_singleton.mp hq]; exact la) (fun q hq => by rw [List.mem_singleton.mp hq]; exact lb) (fun q hq => by rw [List.mem_singleton.mp hq]; exact lc)
        exact ⟨n + 5, [n + 5, n + 3, n + 4, n, n + 1, n + 2], _, _, H1, rfl, I2, turn_3 (z := n + 5) (TI := n + 3) (TO := n + 4) (i1 := n) (i2 := n + 1) (i3 := n + 2) sep (Nat.ne_of_lt la) (Nat.ne_of_lt (Nat.lt_succ_of_lt lb)) (Nat.ne_of_lt (Nat.lt_succ_of_lt (Nat.lt_succ_of_lt lc))),
          ⟨hz, hTI, ⟨_, _, _, hTO⟩, ⟨_, g1, rfl, rfl⟩, ⟨_, g2, rfl, rfl⟩, ⟨_, g3, rfl, rfl⟩⟩, fr, q⟩
/-- a new triple of the i-th things -/
def YTri (xs ys zs : List V) : Nat → Hp → V → Hp → Prop := fun i H v H' => ∃ T x y z, v = .ref T ∧ H T = none ∧ H' = upd H T (.tup [x, y, z]) ∧ xs[i]? = some x ∧ ys[i]? = some y ∧ zs[i]? = some z
theorem walk_3 {K : PySem.W.Frag} {a b c : Addr} {xs ys zs : List V} {n : Nat} (hn : n = min (min xs.length ys.length) zs.length) : Walk (It3 K a b c) n (fun H => SqT K H a xs ∧ SqT K H b ys ∧ SqT K H c zs) (YTri xs ys zs) := by
  refine ⟨fun i H hi q => ?_, fun H q => ⟨xs, ys, zs, q, hn⟩, fun i H x H' hi q y => ?_⟩
  · have h1 : i < xs.length := by omega
    have h2 : i < ys.length := by omega
    have h3 : i < zs.length := by omega
    exact ⟨xs, ys, zs, xs[i], ys[i], zs[i], q, by simp [h1], by simp [h2], by simp [h3]⟩
  · obtain ⟨T, u, v, r, h1, h2, h3, h4, h5, h6⟩ := y
    exact ⟨T, u, v, r, h1, h2, h3, h4 xs q.1, h5 ys q.2.1, h6 zs q.2.2⟩
end TB

set_option Elab.async false
set_option linter.all false
set_option maxRecDepth 100000
set_option maxHeartbeats 1000000
namespace K09
open PySem PySem.Spec PyProof.Rows L2 TB

/-! ### the split, by numbers alone -/
def lows (t : Int) (ws : List Int) : List Int := ws.map fun w => t * w / ws.sum
def rsts (t : Int) (ws : List Int) : List Int := ws.map fun w => t * w - t * w / ws.sum * ws.sum
def leR (rs : List Int) (a b : Nat) : Bool := decide (rs.getD b 0 < rs.getD a 0 ∨ (rs.getD a 0 = rs.getD b 0 ∧ a ≤ b))
def ats (rs : List Int) : List Nat := (List.range rs.length).mergeSort (leR rs)
def bump (ls : List Int) (S : List Nat) : List Int := (List.range ls.length).map fun i => ls.getD i 0 + if i ∈ S then 1 else 0
def odd (t : Int) (ws : List Int) : Nat := (t - (lows t ws).sum).toNat
def parts (t : Int) (ws : List Int) : List Int := bump (lows t ws) ((ats (rsts t ws)).take (odd t ws))
structure OkW (t : Int) (ws : List Int) : Prop where
  t0 : 0 ≤ t
  t1 : t ≤ 1000000000000
  n0 : 0 < ws.length
  n1 : ws.length ≤ 12
  w0 : ∀ w ∈ ws, 0 ≤ w ∧ w ≤ 1000000000
  s0 : 0 < ws.sum
theorem leR_iff {rs : List Int} {a b : Nat} : leR rs a b = true ↔ (rs.getD b 0 < rs.getD a 0 ∨ (rs.getD a 0 = rs.getD b 0 ∧ a ≤ b)) := by
  unfold leR
  exact decide_eq_true_iff
theorem leR_tr (rs : List Int) (a b c : Nat) (h1 : leR rs a b = true) (h2 : leR rs b c = true) : leR rs a c = true := by
  rw [leR_iff] at *
  omega
theorem leR_tot (rs : List Int) (a b : Nat) : (leR rs a b || leR rs b a) = true := by
  rw [Bool.or_eq_true, leR_iff, leR_iff]
  omega
theorem leR_anti {rs : List Int} {a b : Nat} (h1 : leR rs a b = true) (h2 : leR rs b a = true) : a = b := by
  rw [leR_iff] at *
  omega
theorem ats_perm (rs : List Int) : (ats rs).Perm (List.range rs.length) := List.mergeSort_perm _ _
theorem ats_len (rs : List Int) : (ats rs).length = rs.length := by
  rw [(ats_perm rs).length_eq, List.length_range]
theorem ats_sorted (rs : List Int) : (ats rs).Pairwise fun a b => leR rs a b = true := List.pairwise_mergeSort (leR_tr rs) (leR_tot rs) _
theorem ats_eq {rs : List Int} {l : List Nat} (p : l.Perm (List.range rs.length)) (s : l.Pairwise fun a b => leR rs a b = true) : ats rs = l :=
  List.Perm.eq_of_pairwise (fun a b _ _ h1 h2 => leR_anti h1 h2) (ats_sorted rs) s ((ats_perm rs).trans p.symm)
theorem ats_nodup (rs : List Int) : (ats rs).Nodup := (ats_perm rs).symm.nodup List.nodup_range
theorem ats_lt {rs : List Int} {a : Nat} (h : a ∈ ats rs) : a < rs.length := List.mem_range.mp ((ats_perm rs).mem_iff.mp h)
theorem bump_len (ls : List Int) (S : List Nat) : (bump ls S).length = ls.length := by
  unfold bump
  rw [List.length_map, List.length_range]
theorem bump_get {ls : List Int} {S : List Nat} {i : Nat} (h : i < ls.length) : (bump ls S)[i]? = some (ls.getD i 0 + if i ∈ S then 1 else 0) := by
  unfold bump
  rw [List.getElem?_map, List.getElem?_range h]
  rfl
theorem getD_of {ls : List Int} {i : Nat} (h : i < ls.length) : ls[i]? = some (ls.getD i 0) := by
  rw [List.getElem?_eq_getElem h, List.getD_eq_getElem?_getD, List.getElem?_eq_getElem h]
  rfl
theorem bump_nil (ls : List Int) : bump ls [] = ls := by
  refine List.ext_getElem? fun i => ?_
  by_cases h : i < ls.length
  · rw [bump_get h, getD_of h]
    simp
  · rw [List.getElem?_eq_none (by rw [bump_len]; omega), List.getElem?_eq_none (by omega)]
theorem bump_more {ls : List Int} {S : List Nat} {a : Nat} (h : a < ls.length) (n : a ∉ S) : (bump ls S).set a (ls.getD a 0 + 1) = bump ls (S ++ [a]) := by
  refine List.ext_getElem? fun i => ?_
  rw [List.getElem?_set]
  by_cases e : a = i
  · subst e
    rw [if_pos rfl, if_pos (by rw [bump_len]; exact h), bump_get h, if_pos (by simp)]
  · rw [if_neg e]
    by_cases hi : i < ls.length
    · rw [bump_get hi, bump_get hi]
      have : (i ∈ S ++ [a]) ↔ i ∈ S := by
        simp
        exact fun z => absurd z.symm e
      simp only [this]
    · rw [List.getElem?_eq_none (by rw [bump_len]; omega), List.getElem?_eq_none (by rw [bump_len]; omega)]
theorem take_not {l : List Nat} (h : l.Nodup) {i a : Nat} (e : l[i]? = some a) : a ∉ l.take i := by
  intro hm
  obtain ⟨j, hj⟩ := List.mem_iff_getElem?.mp hm
  have hjl : j < (l.take i).length := (List.getElem?_eq_some_iff.mp hj).1
  rw [List.length_take] at hjl
  rw [List.getElem?_take, if_pos (by omega)] at hj
  have hjn : j < l.length := (List.getElem?_eq_some_iff.mp hj).1
  have := (List.getElem?_inj hjn h).mp (hj.trans e.symm)
  omega
/-- what is not among the first i comes behind the i-th -/
theorem ats_first {rs : List Int} {i a k : Nat} (e : (ats rs)[i]? = some a) (hk : k < rs.length) (n : k ∉ (ats rs).take i) : leR rs a k = true := by
  have km : k ∈ ats rs := (ats_perm rs).mem_iff.mpr (List.mem_range.mpr hk)
  obtain ⟨j, hj⟩ := List.mem_iff_getElem?.mp km
  have jl : j < (ats rs).length := (List.getElem?_eq_some_iff.mp hj).1
  have il : i < (ats rs).length := (List.getElem?_eq_some_iff.mp e).1
  have ij : i ≤ j := by
    refine Nat.le_of_not_lt fun z => n ?_
    refine List.mem_iff_getElem?.mpr ⟨j, ?_⟩
    rw [List.getElem?_take, if_pos z]
    exact hj
  by_cases c : i = j
  · subst c
    rw [Option.some.inj (e.symm.trans hj)]
    rw [leR_iff]
    omega
  · have p := List.pairwise_iff_getElem.mp (ats_sorted rs) i j il jl (by omega)
    rw [(List.getElem?_eq_some_iff.mp e).2, (List.getElem?_eq_some_iff.mp hj).2] at p
    exact p
/-! ### how many are odd -/
theorem sum_rst (t W : Int) : ∀ ws : List Int, (ws.map fun w => t * w - t * w / W * W).sum = t * ws.sum - (ws.map fun w => t * w / W).sum * W
  | [] => by simp
  | w :: ws => by
    rw [List.map_cons, List.sum_cons, List.map_cons, List.sum_cons, List.sum_cons, sum_rst t W ws, Int.mul_add, Int.add_mul]
    omega
theorem rst_mod (x W : Int) : x - x / W * W = x % W := by
  have := Int.emod_add_mul_ediv x W
  rw [Int.mul_comm] at this
  omega
theorem sum_mod (W : Int) (hW : 0 < W) (t : Int) : ∀ ws : List Int, 0 ≤ (ws.map fun w => t * w - t * w / W * W).sum ∧ (ws.map fun w => t * w - t * w / W * W).sum ≤ ws.length * (W - 1)
  | [] => by simp
  | w :: ws => by
    obtain ⟨a, b⟩ := sum_mod W hW t ws
    rw [List.map_cons, List.sum_cons, List.length_cons, rst_mod]
    have c := Int.emod_nonneg (t * w) (show W ≠ 0 by omega)
    have d := Int.emod_lt_of_pos (t * w) hW
    refine ⟨by omega, ?_⟩
    have : ((ws.length + 1 : Nat) : Int) * (W - 1) = ws.length * (W - 1) + (W - 1) := by
      push_cast
      rw [Int.add_mul, Int.one_mul]
    omega
theorem odd_at {t : Int} {ws : List Int} (h : OkW t ws) : (odd t ws : Int) = t - (lows t ws).sum ∧ odd t ws < ws.length := by
  have hW := h.s0
  obtain ⟨a, b⟩ := sum_mod ws.sum hW t ws
  rw [sum_rst] at a b
  have e : t * ws.sum - (ws.map fun w => t * w / ws.sum).sum * ws.sum = (t - (lows t ws).sum) * ws.sum := by
    unfold lows
    rw [Int.sub_mul]
  rw [e] at a b
  have d0 : 0 ≤ t - (lows t ws).sum := Int.le_of_not_gt fun z => by
    have := Int.mul_neg_of_neg_of_pos z hW
    omega
  have d1 : t - (lows t ws).sum < ws.length := Int.lt_of_not_ge fun z => by
    have m := Int.mul_le_mul_of_nonneg_right z (Int.le_of_lt hW)
    have n0 := h.n0
    have : (ws.length : Int) * (ws.sum - 1) = ws.length * ws.sum - ws.length := by rw [Int.mul_sub, Int.mul_one]
    omega
  unfold odd
  exact ⟨by omega, by omega⟩
theorem lows_len (t : Int) (ws : List Int) : (lows t ws).length = ws.length := List.length_map _
theorem rsts_len (t : Int) (ws : List Int) : (rsts t ws).length = ws.length := List.length_map _
theorem parts_len (t : Int) (ws : List Int) : (parts t ws).length = ws.length := by
  unfold parts
  rw [bump_len, lows_len]
theorem sum_ge : ∀ {ws : List Int} {w : Int}, (∀ w ∈ ws, 0 ≤ w) → w ∈ ws → 0 ≤ ws.sum ∧ w ≤ ws.sum
  | x :: ws, w, h, hm => by
    have x0 := h x List.mem_cons_self
    have s0 : 0 ≤ ws.sum := by
      clear hm
      induction ws with
      | nil => simp
      | cons y ys ih =>
        have := h y (by simp)
        have := ih fun z hz => h z (by
          rcases List.mem_cons.mp hz with r | r
          · simp [r]
          · simp [r])
        rw [List.sum_cons]
        omega
    rw [List.sum_cons]
    rcases List.mem_cons.mp hm with rfl | hm
    · omega
    · have := (sum_ge (fun z hz => h z (List.mem_cons_of_mem _ hz)) hm).2
      omega
theorem sum_le : ∀ {ws : List Int}, (∀ w ∈ ws, 0 ≤ w ∧ w ≤ 1000000000) → 0 ≤ ws.sum ∧ ws.sum ≤ 1000000000 * ws.length
  | [], _ => by simp
  | x :: ws, h => by
    have := h x List.mem_cons_self
    have := sum_le fun w hw => h w (List.mem_cons_of_mem _ hw)
    rw [List.sum_cons, List.length_cons]
    push_cast
    omega
theorem low_bound {t : Int} {ws : List Int} (h : OkW t ws) {w : Int} (hw : w ∈ ws) : 0 ≤ t * w / ws.sum ∧ t * w / ws.sum ≤ t := by
  obtain ⟨w0, w1⟩ := h.w0 w hw
  have ws0 := (sum_ge (fun z hz => (h.w0 z hz).1) hw).2
  have s0 := h.s0
  have t0 := h.t0
  refine ⟨Int.ediv_nonneg (Int.mul_nonneg t0 w0) (by omega), ?_⟩
  refine Int.le_of_lt_add_one ((Int.ediv_lt_iff_lt_mul s0).mpr ?_)
  have := Int.mul_le_mul_of_nonneg_left ws0 t0
  rw [Int.add_mul, Int.one_mul]
  omega
theorem rst_bound {t : Int} {ws : List Int} (h : OkW t ws) {r : Int} (hr : r ∈ rsts t ws) : 0 ≤ r ∧ r < 20000000000 := by
  obtain ⟨w, hw, rfl⟩ := List.mem_map.mp hr
  have s0 := h.s0
  obtain ⟨_, s1⟩ := sum_le h.w0
  have n1 := h.n1
  show 0 ≤ t * w - t * w / ws.sum * ws.sum ∧ t * w - t * w / ws.sum * ws.sum < _
  rw [rst_mod]
  exact ⟨Int.emod_nonneg _ (by omega), Int.lt_of_lt_of_le (Int.emod_lt_of_pos _ s0) (by omega)⟩
theorem part_bound {t : Int} {ws : List Int} (h : OkW t ws) {p : Int} (hp : p ∈ parts t ws) : 0 ≤ p ∧ p ≤ 1000000000001 := by
  unfold parts bump at hp
  obtain ⟨i, hi, rfl⟩ := List.mem_map.mp hp
  have hl := List.mem_range.mp hi
  have g := getD_of hl
  have m := List.mem_of_getElem? g
  unfold lows at m
  obtain ⟨w, hw, e⟩ := List.mem_map.mp m
  obtain ⟨a, b⟩ := low_bound h hw
  have t1 := h.t1
  unfold lows
  rw [← e]
  by_cases c : i ∈ List.take (odd t ws) (ats (rsts t ws))
  · rw [if_pos c]
    omega
  · rw [if_neg c]
    omega
theorem rst_get {t : Int} {ws : List Int} {i : Nat} {w : Int} (h : ws[i]? = some w) : (rsts t ws)[i]? = some (t * w - t * w / ws.sum * ws.sum) := by
  unfold rsts
  rw [List.getElem?_map, h]
  rfl
theorem low_get {t : Int} {ws : List Int} {i : Nat} {w : Int} (h : ws[i]? = some w) : (lows t ws)[i]? = some (t * w / ws.sum) := by
  unfold lows
  rw [List.getElem?_map, h]
  rfl
end K09

set_option Elab.async false
set_option linter.all false
set_option maxRecDepth 100000
set_option maxHeartbeats 1000000
namespace K09
open PySem PySem.Spec PyProof.Rows L2 TB
/-! ### pairs of a rest and its place -/
def keyOf (H : Hp) : V → Int × Int
  | .ref T => match H T with
    | some (.tup [.int i, .int j]) => (i, j)
    | _ => (0, 0)
  | _ => (0, 0)
theorem keyOf_at {H : Hp} {T : Addr} {i j : Int} (h : H T = some (.tup [.int i, .int j])) : keyOf H (.ref T) = (i, j) := by
  simp only [keyOf, h]
structure Prs (H : Hp) (us : List V) (rs : List Int) : Prop where
  len : us.length = rs.length
  at_ : ∀ (j : Nat) (r : Int), rs[j]? = some r → ∃ T : Addr, us[j]? = some (.ref T) ∧ H T = some (.tup [.int (-r), .int (j : Int)])
theorem Prs.mem {H : Hp} {us : List V} {rs : List Int} (h : Prs H us rs) {x : V} (hx : x ∈ us) : ∃ (T : Addr) (r : Int) (j : Nat), x = .ref T ∧ rs[j]? = some r ∧ H T = some (.tup [.int (-r), .int (j : Int)]) := by
  obtain ⟨j, hj⟩ := List.mem_iff_getElem?.mp hx
  have jl : j < rs.length := by
    rw [← h.len]
    exact (List.getElem?_eq_some_iff.mp hj).1
  obtain ⟨T, e, f⟩ := h.at_ j _ (List.getElem?_eq_getElem jl)
  exact ⟨T, _, j, Option.some.inj (hj.symm.trans e), List.getElem?_eq_getElem jl, f⟩
theorem getD_at {rs : List Int} {j : Nat} {r : Int} (h : rs[j]? = some r) : rs.getD j 0 = r := by
  rw [List.getD_eq_getElem?_getD, h]
  rfl
theorem pairs_sorted {H : Hp} {us ys : List V} {rs : List Int} (h : Prs H us rs) (s : SrtO.Srtd (ltP (keyOf H)) ys) (b : SrtO.Stb (ltP (keyOf H)) ys us) :
    ys.length = rs.length ∧ ∀ (i a : Nat), (ats rs)[i]? = some a → ∃ (T : Addr) (r : Int), ys[i]? = some (.ref T) ∧ rs[a]? = some r ∧ H T = some (.tup [.int (-r), .int (a : Int)]) := by
  have yl : ys.length = rs.length := by rw [b.perm.length_eq, h.len]
  have eu : us.map (fun y => (keyOf H y).2.toNat) = List.range rs.length := by
    refine List.ext_getElem? fun j => ?_
    by_cases hj : j < rs.length
    · obtain ⟨T, e, f⟩ := h.at_ j _ (List.getElem?_eq_getElem hj)
      rw [List.getElem?_map, e, List.getElem?_range hj]
      show some (keyOf H (.ref T)).2.toNat = _
      rw [keyOf_at f]
      simp
    · rw [List.getElem?_eq_none (by rw [List.length_map, h.len]; omega), List.getElem?_eq_none (by rw [List.length_range]; omega)]
  have pr : (ys.map fun y => (keyOf H y).2.toNat).Perm (List.range rs.length) := by
    rw [← eu]
    exact b.perm.map _
  have so : (ys.map fun y => (keyOf H y).2.toNat).Pairwise fun a b => leR rs a b = true := by
    rw [List.pairwise_map]
    refine List.Pairwise.imp_of_mem (fun {x y} hx hy hs => ?_) s
    obtain ⟨T, r, j, rfl, hr, eT⟩ := h.mem (b.perm.mem_iff.mp hx)
    obtain ⟨T', r', j', rfl, hr', eT'⟩ := h.mem (b.perm.mem_iff.mp hy)
    have hs' : SrtO.lexB (keyOf H (.ref T')) (keyOf H (.ref T)) = false := hs
    rw [keyOf_at eT, keyOf_at eT'] at hs'
    have := SrtO.lexB_no.mp hs'
    rw [keyOf_at eT, keyOf_at eT', leR_iff]
    show rs.getD (j' : Int).toNat 0 < rs.getD (j : Int).toNat 0 ∨ _
    rw [Int.toNat_natCast, Int.toNat_natCast, getD_at hr, getD_at hr']
    simp only at this
    omega
  have ea := ats_eq pr so
  refine ⟨yl, fun i a hi => ?_⟩
  rw [ea, List.getElem?_map] at hi
  cases e : ys[i]? with
  | none => rw [e] at hi; cases hi
  | some y =>
    rw [e] at hi
    have hi' := Option.some.inj hi
    obtain ⟨T, r, j, rfl, hr, eT⟩ := h.mem (b.perm.mem_iff.mp (List.mem_of_getElem? e))
    have hi' : (keyOf H (.ref T)).2.toNat = a := hi'
    rw [keyOf_at eT] at hi'
    obtain rfl : j = a := by simpa using hi'
    exact ⟨T, r, rfl, hr, eT⟩
theorem cut_take (xs : List V) (n : Nat) : cutV xs none (some (n : Int)) = xs.take n := by
  have e : HT.sIx xs.length xs.length (some (n : Int)) = min n xs.length := by
    show (if (n : Int) < 0 then ((n : Int) + xs.length).toNat else min (n : Int).toNat xs.length) = _
    rw [if_neg (by omega), Int.toNat_natCast]
  unfold cutV
  rw [e, HT.sIx_none, List.drop_zero, Nat.sub_zero]
  by_cases c : n ≤ xs.length
  · rw [Nat.min_eq_left c]
  · rw [Nat.min_eq_right (by omega), List.take_length, List.take_of_length_le (by omega)]
theorem but_new {H H1 H2 : Hp} {p : Addr} (n : H p = none) (s : Same H H1) (b : But p H1 H2) : Same H H2 := fun c o e => b c o (ne_of_none e n) (s c o e)
end K09

set_option Elab.async false
set_option linter.all false
set_option maxRecDepth 100000
set_option maxHeartbeats 1000000
namespace K11
open PySem PySem.Spec PyProof.Rows L2 TB K09

/-! ### the text -/
def topS (i : Nat) : Stmt := PySem.Challenge.pw_tablebills_k11_whole_no_nearer_split.main.body.getD i (.Pass ⟨0, 0, 0, 0⟩)
def inCls (s : Stmt) : List Stmt := match s with
  | .ClassDef _ _ _ b _ _ _ _ _ _ _ => b
  | _ => []
abbrev sIn : Stmt := (inCls (topS 2)).getD 0 (.Pass ⟨0, 0, 0, 0⟩)
abbrev sNu : Stmt := topS 4
abbrev sTu : Stmt := topS 5
abbrev sCu : Stmt := topS 7
abbrev sRe : Stmt := topS 8
abbrev sSp : Stmt := topS 9
abbrev sLs : Stmt := topS 11
abbrev sLc : Stmt := topS 12
abbrev sLr : Stmt := topS 13
abbrev sFeed : Stmt := topS 15
abbrev sDraw : Stmt := topS 16
abbrev sWe : Stmt := topS 17
abbrev sAll : Stmt := topS 18
abbrev sLet : Stmt := topS 19
abbrev sOff : Stmt := topS 20
abbrev sLaw : Stmt := topS 21
theorem scFeed : FnScope ["_law_script"] ["_law_script"] (defScope sFeed) := ⟨rfl, rfl, rfl, by decide +kernel, rfl, by decide +kernel, by decide +kernel⟩
theorem scDraw : FnScope ["_law_feed_here", "_law_many", "_law_told", "_law_cell", "_law_turn", "_law_mixed"] ["_law_feed_here", "_law_many"] (defScope sDraw) := ⟨rfl, rfl, rfl, by decide +kernel, rfl, by decide +kernel, by decide +kernel⟩

/-! ### the feed: the script's numbers, a place, a rest, how many draws -/
structure Feed (H : Hp) (F S : Addr) (T : Int) : Prop where
  ex : ∃ (ns : List Int) (p r t : Int), H F = some (.lst [.ref S, .int p, .int r, .int t]) ∧ S ≠ F ∧ H S = some (.lst (ns.map V.int)) ∧ ns.length ≤ 1000 ∧ 0 ≤ p ∧ 0 ≤ r ∧ 0 ≤ t ∧ t ≤ T
theorem Feed.same {H H' : Hp} {F S : Addr} {T : Int} (e : Same H H') (h : Feed H F S T) : Feed H' F S T := by
  obtain ⟨ns, p, r, t, a, n, b, c⟩ := h.ex
  exact ⟨⟨ns, p, r, t, e _ _ a, n, e _ _ b, c⟩⟩
theorem Feed.there {H : Hp} {F S : Addr} {T : Int} (h : Feed H F S T) : ∃ zs, H F = some (.lst zs) := by
  obtain ⟨ns, p, r, t, a, _⟩ := h.ex
  exact ⟨_, a⟩
/-- a new place is neither the feed nor its numbers -/
theorem Feed.ne {H : Hp} {F S D : Addr} {T : Int} (h : Feed H F S T) (n : H D = none) : D ≠ F ∧ D ≠ S := by
  obtain ⟨ns, p, r, t, a, _, b, _⟩ := h.ex
  exact ⟨(ne_of_none a n).symm, (ne_of_none b n).symm⟩
theorem Feed.upd {H : Hp} {F S D : Addr} {T : Int} {o : HO} (h : Feed H F S T) (n : D ≠ F ∧ D ≠ S) : Feed (upd H D o) F S T := by
  obtain ⟨ns, p, r, t, a, k, b, c⟩ := h.ex
  exact ⟨⟨ns, p, r, t, by rw [upd_ne n.1.symm]; exact a, k, by rw [upd_ne n.2.symm]; exact b, c⟩⟩
theorem Feed.mono {H : Hp} {F S : Addr} {T T' : Int} (h : Feed H F S T) (l : T ≤ T') : Feed H F S T' := by
  obtain ⟨ns, p, r, t, a, n, b, c, d, e, f, g⟩ := h.ex
  exact ⟨⟨ns, p, r, t, a, n, b, c, d, e, f, by omega⟩⟩
section
variable {P : Program} {w : World} {K : PySem.W.Frag} {mg : Str → Option Value} {base : Heap}
/-! ### _law_feed -/
def spFeed (K : PySem.W.Frag) : Sp := fun vs H Q _ => ∃ (a : Addr) (ns : List Int), vs = [.ref a] ∧ SqL K H a (ns.map V.int) ∧ ns.length ≤ 1000 ∧
  ∀ H' F S, Same H H' → H F = none → Feed H' F S 0 → Q (.ref F) H'
theorem cutV_ints (ns : List Int) (lo hi : Option Int) : ∃ ms : List Int, cutV (ns.map V.int) lo hi = ms.map V.int ∧ ms.length ≤ ns.length := by
  unfold cutV
  refine ⟨(ns.drop (HT.sIx (ns.map V.int).length 0 lo)).take (HT.sIx (ns.map V.int).length (ns.map V.int).length hi - HT.sIx (ns.map V.int).length 0 lo), ?_, ?_⟩
  · rw [List.map_take, List.map_drop]
  · rw [List.length_take, List.length_drop]
    omega
theorem ok_feed {f : Addr} {fd : FuncData} {k : Nat} (F : Fun K "_law_feed" "_law_feed" sFeed f fd) : FnOk P w K mg base CX0 (k + 1) f fd ["_law_script"] (spFeed K) := by
  refine F.ok scFeed (fun vs H Q E h => ?_) (fun cdv A outer s H vs Q E hr h => ?_)
  · obtain ⟨a, ns, rfl, _⟩ := h
    rfl
  · obtain ⟨a, ns, rfl, hS, hl, q⟩ := h
    refine ⟨_, pss_one (ps_ret (pe_lst (pa_cons (pe_slice sl_list (pv 0) po_none (po_some pe_int)) (pa_cons pe_int (pa_cons pe_int (pa_cons pe_int pa_nil)))))), ?_⟩
    obtain ⟨ms, em, hm⟩ := cutV_ints ns none (some 63)
    refine ⟨.ref a, rfl, 63, rfl, a, _, rfl, hS, fun S nS => ⟨by show (4 : Nat) ≤ sizeLine; decide, fun L nL => ?_⟩⟩
    have s1 : Same H (upd H S (.lst (cutV (ns.map V.int) none (some 63)))) := same_upd nS
    have nSL : S ≠ L := fun e => by
      rw [← e, upd_same] at nL
      cases nL
    refine q _ L S (s1.trans (same_upd nL)) (s1.free nL) ⟨⟨ms, 0, 0, 0, upd_same, nSL, ?_, by omega, by omega, by omega, by omega, by omega⟩⟩
    rw [upd_ne nSL, upd_same, em]

/-! ### _law_draw -/
def spDraw : Sp := fun vs H Q _ => ∃ (F S : Addr) (m T : Int), vs = [.ref F, .int m] ∧ 0 < m ∧ m < 2 ^ 50 ∧ Feed H F S T ∧ T < 2 ^ 40 ∧
  ∀ H' v, But F H H' → Feed H' F S (T + 1) → 0 ≤ v → v < m → Q (.int v) H'
theorem eqv_nil : ∀ ns : List Int, PyData.eqv (.list (dInts ns)) (.list []) = decide (ns = [])
  | [] => by simp [dInts, PyData.eqv, PyData.eqvAll]
  | n :: ns => by simp [dInts, PyData.eqv, PyData.eqvAll]
theorem shaped_ints (ns : List Int) : SeqAt.shaped (.list (dInts ns)) = true := by
  have h : ∀ ms : List Int, PyData.canLayAll0 (dInts ms) = true ∧ PyData.depthAll (dInts ms) = 0 := by
    intro ms
    induction ms with
    | nil => exact ⟨rfl, rfl⟩
    | cons m ms ih => exact ⟨by simpa [dInts, PyData.canLayAll0, PyData.canLay0] using ih.1, by simpa [dInts, PyData.depthAll, PyData.depth] using ih.2⟩
  unfold SeqAt.shaped
  simp only [PyData.canLay0, PyData.depth, (h ns).1, (h ns).2]
  decide
theorem ok_draw {f : Addr} {fd : FuncData} {k : Nat} (F : Fun K "_law_draw" "_law_draw" sDraw f fd) (m_len : mg "len" = none) : FnOk P w K mg base CX0 (k + 1) f fd ["_law_feed_here", "_law_many"] spDraw := by
  refine F.ok scDraw (fun vs H Q E h => ?_) (fun cdv A outer s H vs Q E hr h => ?_)
  · obtain ⟨a, S, m, T, rfl, _⟩ := h
    rfl
  · obtain ⟨L, S, m, T, rfl, m0, m1, hF, hT, q⟩ := h
    refine ⟨_, (pss_cons (ps_augS (pv 0) pe_int get_list pe_int ip_add set_list)
      (pss_cons (ps_if (pt_cmpR op_gt (pe_ix ix_list (pv 0) pe_int (fun _ _ => rfl)) pe_int (nomark _)) (pss_cons (ps_set (i := 2) scDraw.nd rfl (.inl rfl) (pe_op op_mod (pe_ix ix_list (pv 0) pe_int (fun _ _ => rfl)) (pv 1)))
      (pss_cons (ps_asg (pe_op op_fdivW (pe_ix ix_list (pv 0) pe_int (fun _ _ => rfl)) (pv 1)) (pg_sub (pv 0) pe_int set_list))
      (pss_one (ps_ret (pv 2))))) pss_nil)
      (pss_cons (ps_set (i := 3) scDraw.nd rfl (.inl rfl) (pe_ifExp (pt_cmpR (op_eqD hr.units) (pe_ix ix_list (pv 0) pe_int (fun _ _ => rfl)) (pe_lst pa_nil) (nomark _)) pe_int (pe_ix ix_list (pe_ix ix_list (pv 0) pe_int (fun _ _ => rfl)) (pe_op op_mod (pe_ix ix_list (pv 0) pe_int (fun _ _ => rfl)) (pe_callB call_len_seq (by rfl) m_len (by decide +kernel) (pa_cons (pe_ix ix_list (pv 0) pe_int (fun _ _ => rfl)) pa_nil))) (fun _ _ => rfl))))
      (pss_cons (ps_augS (pv 0) pe_int get_list pe_int ip_add set_list)
      (pss_cons (ps_if (PW.pt (pw_and (pt_cmpR op_ge (pv 3) (pe_op op_pow pe_int pe_int) (nomark _)) (pw_and1 (pt_cmpR op_le (pe_ix ix_list (pv 0) pe_int (fun _ _ => rfl)) (pe_callB call_len_seq (by rfl) m_len (by decide +kernel) (pa_cons (pe_ix ix_list (pv 0) pe_int (fun _ _ => rfl)) pa_nil)) (nomark _))))) (pss_cons (ps_asg (pe_op op_fdivW (pv 3) (pv 1)) (pg_sub (pv 0) pe_int set_list))
      (pss_one (ps_ret (pe_op op_mod (pv 3) (pv 1))))) pss_nil)
      (pss_cons (ps_set (i := 4) scDraw.nd rfl (.inl rfl) (pe_ix ix_list (pv 0) pe_int (fun _ _ => rfl)))
      (pss_cons (ps_set (i := 5) scDraw.nd rfl (.inl rfl) (pe_op op_mod (pe_op op_add (pe_op op_add (pe_op op_mod (pv 3) pe_int) (pe_op op_mul (pe_op op_mul pe_int (pv 4)) (pv 4))) (pe_op op_mul pe_int (pv 4))) pe_int))
      (pss_cons (ps_set (i := 5) scDraw.nd rfl (.inl rfl) (pe_op op_mod (pe_op op_add (pe_op op_mul (pv 5) (pv 5)) (pe_op op_mul pe_int (pv 4))) pe_int))
      (pss_cons (ps_set (i := 5) scDraw.nd rfl (.inl rfl) (pe_op op_mod (pe_op op_add (pe_op op_mul (pv 5) (pv 5)) (pe_op op_mul pe_int (pv 4))) pe_int))
      (pss_one (ps_ret (pe_op op_mod (pe_op op_fdivW (pe_op op_mod (pe_op op_add (pe_op op_mul (pv 5) (pv 5)) (pv 4)) pe_int) pe_int) (pv 1))))))))))))), ?_⟩
    obtain ⟨ns, p, r, t, eF, nSF, hS, hn, p0, r0, t0, tT⟩ := hF.ex
    -- feed[3] += 1
    refine ⟨.ref L, rfl, L, _, 3, _, rfl, rfl, .inl (.inl eF), rfl, _, _, rfl, rfl, L, _, 3, 3, rfl, rfl, eF, rfl, ?_⟩
    generalize hH1 : upd H L (.lst (List.set [V.ref S, V.int p, V.int r, V.int t] 3 (V.int ((fun i j => i + j) t 1)))) = H1
    have e1 : H1 L = some (.lst [.ref S, .int p, .int r, .int (t + 1)]) := by
      rw [← hH1]
      exact upd_same
    have b1 : But L H H1 := by
      rw [← hH1]
      exact But.upd
    clear hH1
    have hS1 := b1 _ _ nSF hS
    have back : ∀ (H2 : Hp) (p' r' : Int) (v : Int), But L H H2 → H2 S = some (.lst (ns.map V.int)) → H2 L = some (.lst [.ref S, .int p', .int r', .int (t + 1)]) → 0 ≤ p' → 0 ≤ r' → 0 ≤ v → v < m → Q (.int v) H2 :=
      fun H2 p' r' v a hs b c d x y => q H2 v a ⟨⟨ns, p', r', t + 1, b, nSF, hs, hn, c, d, by omega, by omega⟩⟩ x y
    -- if feed[2] > 0
    refine ⟨.ref L, rfl, L, _, 2, _, rfl, rfl, .inl (.inl e1), atI_nat (j := 2) rfl, _, _, rfl, rfl, _, rfl, ite2 (fun c => ?_) (fun c => ?_)⟩
    · refine ⟨.ref L, rfl, L, _, 2, _, rfl, rfl, .inl (.inl e1), atI_nat (j := 2) rfl, _, rfl, r, m, rfl, rfl, m0, ?_⟩
      refine ⟨.ref L, rfl, L, _, 2, _, rfl, rfl, .inl (.inl e1), atI_nat (j := 2) rfl, _, rfl, r, m, rfl, rfl, wide_div (b := 60) m0 (by omega) (by omega) (by omega), ?_⟩
      refine ⟨.ref L, rfl, L, _, 2, 2, rfl, rfl, e1, rfl, ?_⟩
      have b2 : But L H1 (upd H1 L (.lst [.ref S, .int p, .int (r / m), .int (t + 1)])) := But.upd
      refine ⟨_, rfl, ?_⟩
      exact back _ p (r / m) (r % m) (b1.trans b2) (b2 _ _ nSF hS1) upd_same p0 (Int.ediv_nonneg r0 (by omega)) (Int.emod_nonneg _ (by omega)) (Int.emod_lt_of_pos _ m0)
    · -- the cell
      refine ⟨.ref L, rfl, L, _, 0, _, rfl, rfl, .inl (.inl e1), atI_nat (j := 0) rfl, Nat.zero_le _, fun z nz => ?_⟩
      have sz : Same H1 (upd H1 z (.lst [])) := same_upd nz
      generalize hH2 : upd H1 z (.lst []) = H2 at sz
      have ez : H2 z = some (.lst []) := by
        rw [← hH2]
        exact upd_same
      have b2 : But L H H2 := b1.same sz
      have e2 := sz _ _ e1
      have hS2 := sz _ _ hS1
      clear hH2
      refine ⟨.list (dInts ns), .list [], .lst (.inl (.inl hS2)) (dp_ints ns), .lst (.inl (.inl ez)) .nil, shaped_ints ns, rfl, _, rfl, ?_⟩
      rw [eqv_nil]
      refine ite2 (fun c => ?_) (fun c => ?_)
      rotate_left
      have hne : 0 < (ns.map V.int).length := by
        cases ns with
        | nil => exact absurd rfl c
        | cons x xs => simp
      have i0 := Int.emod_nonneg p (show ((ns.map V.int).length : Int) ≠ 0 by omega)
      have i1 := Int.emod_lt_of_pos p (show (0 : Int) < (ns.map V.int).length by omega)
      obtain ⟨j, hj⟩ : ∃ j : Nat, p % ((ns.map V.int).length : Int) = (j : Int) := ⟨_, (Int.toNat_of_nonneg i0).symm⟩
      have hjl : j < ns.length := by
        rw [hj, List.length_map] at i1
        omega
      have gj : (ns.map V.int)[j]? = some (.int ns[j]) := by
        rw [List.getElem?_map, List.getElem?_eq_getElem hjl]
        rfl
      refine ⟨.ref L, rfl, L, _, 0, _, rfl, rfl, .inl (.inl e2), atI_nat (j := 0) rfl, .ref L, rfl, L, _, 1, _, rfl, rfl, .inl (.inl e2), atI_nat (j := 1) rfl, .ref L, rfl, L, _, 0, _, rfl, rfl, .inl (.inl e2), atI_nat (j := 0) rfl, S, _, rfl, .inl (.inl (.inl hS2)), p, _, rfl, rfl, by omega, S, _, _, _, rfl, rfl, .inl (.inl hS2), (by rw [hj]; exact atI_nat gj), ?_⟩
      all_goals
        -- feed[1] += 1
        refine ⟨.ref L, rfl, L, _, 1, _, rfl, rfl, .inl (.inl e2), rfl, _, _, rfl, rfl, L, _, 1, 1, rfl, rfl, e2, rfl, ?_⟩
        generalize hH3 : upd H2 L (.lst (List.set [V.ref S, V.int p, V.int r, V.int (t + 1)] 1 (V.int ((fun i j => i + j) p 1)))) = H3
        have e3 : H3 L = some (.lst [.ref S, .int (p + 1), .int r, .int (t + 1)]) := by
          rw [← hH3]
          exact upd_same
        have b23 : But L H2 H3 := by
          rw [← hH3]
          exact But.upd
        have b3 := b2.trans b23
        have hS3 := b23 _ _ nSF hS2
        clear hH3
        have back3 : ∀ r' v : Int, 0 ≤ r' → 0 ≤ v → v < m → Q (.int v) (upd H3 L (.lst [.ref S, .int (p + 1), .int r', .int (t + 1)])) := fun r' v x y z =>
          have b34 : But L H3 (upd H3 L (.lst [.ref S, .int (p + 1), .int r', .int (t + 1)])) := But.upd
          back _ (p + 1) r' v (b3.trans b34) (b34 _ _ nSF hS3) upd_same (by omega) x y z
        -- if cell >= 10 ** 18 and ..
        refine ⟨_, rfl, _, _, rfl, rfl, ⟨by decide, by decide, by decide⟩, _, _, rfl, rfl, _, rfl, ite2 (fun c1 => ?_) (fun c1 => ?_)⟩
        · refine ⟨.ref L, rfl, L, _, 1, _, rfl, rfl, .inl (.inl e3), atI_nat (j := 1) rfl, .ref L, rfl, L, _, 0, _, rfl, rfl, .inl (.inl e3), atI_nat (j := 0) rfl, S, _, rfl, .inl (.inl (.inl hS3)), _, _, rfl, rfl, _, rfl, ite2 (fun c2 => ?_) (fun c2 => ?_)⟩
          · refine ⟨_, rfl, _, rfl, _, _, rfl, rfl, wide_div (b := 60) m0 (by omega) (by omega) (by omega), .ref L, rfl, L, _, 2, 2, rfl, rfl, e3, rfl, ?_⟩
            refine ⟨_, rfl, _, rfl, _, _, rfl, rfl, m0, ?_⟩
            exact back3 _ _ (Int.ediv_nonneg (Int.le_trans (by decide) (of_decide_eq_true c1)) (by omega)) (Int.emod_nonneg _ (by omega)) (Int.emod_lt_of_pos _ m0)
          · refine ⟨.ref L, rfl, L, _, 3, _, rfl, rfl, .inl (.inl e3), atI_nat (j := 3) rfl, ?_⟩
            refine ⟨_, rfl, _, _, rfl, rfl, (by show (0 : Int) < _; decide), _, rfl, _, _, rfl, rfl, .inl ⟨by decide, by decide⟩, _, rfl, _, _, rfl, rfl, .inr ⟨by omega, by omega⟩, _, _, rfl, rfl, _, rfl, _, _, rfl, rfl, .inl ⟨by decide, by decide⟩, _, _, rfl, rfl, _, _, rfl, rfl, (by show (0 : Int) < _; decide), ?_⟩
            refine ⟨_, rfl, _, rfl, _, _, rfl, rfl, .inl ⟨by omega, by omega⟩, _, rfl, _, _, rfl, rfl, .inl ⟨by decide, by decide⟩, _, _, rfl, rfl, _, _, rfl, rfl, (by show (0 : Int) < _; decide), ?_⟩
            refine ⟨_, rfl, _, rfl, _, _, rfl, rfl, .inl ⟨by omega, by omega⟩, _, rfl, _, _, rfl, rfl, .inl ⟨by decide, by decide⟩, _, _, rfl, rfl, _, _, rfl, rfl, (by show (0 : Int) < _; decide), ?_⟩
            refine ⟨_, rfl, _, rfl, _, _, rfl, rfl, .inl ⟨by omega, by omega⟩, _, rfl, _, _, rfl, rfl, _, _, rfl, rfl, (by show (0 : Int) < _; decide), _, _, rfl, rfl, wide_div (b := 60) (by decide) (by decide) (by omega) (by omega), _, rfl, _, _, rfl, rfl, m0, ?_⟩
            exact back H3 (p + 1) r _ b3 hS3 e3 (by omega) r0 (Int.emod_nonneg _ (by omega)) (Int.emod_lt_of_pos _ m0)
        · refine ⟨.ref L, rfl, L, _, 3, _, rfl, rfl, .inl (.inl e3), atI_nat (j := 3) rfl, ?_⟩
          refine ⟨_, rfl, _, _, rfl, rfl, (by show (0 : Int) < _; decide), _, rfl, _, _, rfl, rfl, .inl ⟨by decide, by decide⟩, _, rfl, _, _, rfl, rfl, .inr ⟨by omega, by omega⟩, _, _, rfl, rfl, _, rfl, _, _, rfl, rfl, .inl ⟨by decide, by decide⟩, _, _, rfl, rfl, _, _, rfl, rfl, (by show (0 : Int) < _; decide), ?_⟩
          refine ⟨_, rfl, _, rfl, _, _, rfl, rfl, .inl ⟨by omega, by omega⟩, _, rfl, _, _, rfl, rfl, .inl ⟨by decide, by decide⟩, _, _, rfl, rfl, _, _, rfl, rfl, (by show (0 : Int) < _; decide), ?_⟩
          refine ⟨_, rfl, _, rfl, _, _, rfl, rfl, .inl ⟨by omega, by omega⟩, _, rfl, _, _, rfl, rfl, .inl ⟨by decide, by decide⟩, _, _, rfl, rfl, _, _, rfl, rfl, (by show (0 : Int) < _; decide), ?_⟩
          refine ⟨_, rfl, _, rfl, _, _, rfl, rfl, .inl ⟨by omega, by omega⟩, _, rfl, _, _, rfl, rfl, _, _, rfl, rfl, (by show (0 : Int) < _; decide), _, _, rfl, rfl, wide_div (b := 60) (by decide) (by decide) (by omega) (by omega), _, rfl, _, _, rfl, rfl, m0, ?_⟩
          exact back H3 (p + 1) r _ b3 hS3 e3 (by omega) r0 (Int.emod_nonneg _ (by omega)) (Int.emod_lt_of_pos _ m0)
end
theorem scCu : FnScope ["total", "weights", "whole", "weight"] ["total", "weights"] (defScope sCu) := ⟨rfl, rfl, rfl, by decide +kernel, rfl, by decide +kernel, by decide +kernel⟩
theorem scRe : FnScope ["total", "weights", "whole", "weight", "cut"] ["total", "weights"] (defScope sRe) := ⟨rfl, rfl, rfl, by decide +kernel, rfl, by decide +kernel, by decide +kernel⟩
theorem map_int {ns : List Int} {i : Nat} {x : V} (h : (ns.map V.int)[i]? = some x) : ∃ n, ns[i]? = some n ∧ x = .int n := map_get h
section
variable {P : Program} {w : World} {K : PySem.W.Frag} {mg : Str → Option Value} {base : Heap}
/-! ### cuts, rests -/
def spL (K : PySem.W.Frag) (g : Int → List Int → List Int) : Sp := fun vs H Q _ => ∃ (a : Addr) (t : Int) (ws : List Int), vs = [.int t, .ref a] ∧ SqT K H a (ws.map V.int) ∧ OkW t ws ∧
  ∀ H' r, Same H H' → H r = none → H' r = some (.tup ((g t ws).map V.int)) → Q (.ref r) H'
theorem mul_ok {t w : Int} {ws : List Int} (h : OkW t ws) : -(2 ^ 64) < t ∧ t < 2 ^ 64 := ⟨by have := h.t0; omega, by have := h.t1; omega⟩
theorem sum_ok {t : Int} {ws : List Int} (h : OkW t ws) : ws.sum.natAbs < 2 ^ 60 := by
  have := sum_le h.w0
  have := h.n1
  omega
theorem ok_cu {f : Addr} {fd : FuncData} {k : Nat} (F : Fun K "cuts" "cuts" sCu f fd) (m_sum : mg "sum" = none) (m_tuple : mg "tuple" = none) : FnOk P w K mg base CX0 (k + 1) f fd ["total", "weights"] (spL K lows) := by
  refine F.ok scCu (fun vs H Q E h => ?_) (fun cdv A outer s H vs Q E hr h => ?_)
  · obtain ⟨a, t, ws, rfl, _⟩ := h
    rfl
  · obtain ⟨a, t, ws, rfl, hA, ok, q⟩ := h
    refine ⟨_, (pss_cons (ps_set (i := 2) scCu.nd rfl (.inr rfl) (pe_callB (call_sumT rfl) (by rfl) m_sum (by decide +kernel) (pa_cons (pv 1) pa_nil)))
      (pss_one (ps_ret (pe_callTy call_tuple_of (by rfl) m_tuple (by decide +kernel) (pa_cons (pe_lc (own := [("weight", 3)]) (g := gName 3) (tt := tYes) rfl scCu.nd (pi_tup (pv 1)) (blkOk_by (own := [("weight", 3)]) (N := ["total", "weights", "whole", "weight"]) (sc := defScope sCu) (by decide +kernel)) (fun _ _ _ _ _ => (pg_name (i := 3) scCu.nd rfl (.inl rfl))) (fun _ _ _ _ _ => pts_nil) (fun _ _ _ _ _ => (pe_op op_fdivW (pe_op op_mul (pv 0) (pv 3)) (pv 2)))) pa_nil))))), ?_⟩
    refine ⟨_, rfl, a, ws, rfl, hA, ?_⟩
    refine ⟨_, rfl, a, rfl, ⟨_, hA⟩, fun D nD => ?_⟩
    refine lc_tup (xs := ws.map V.int) (fun i H1 => Same H H1 ∧ H1 D = some (.lst (((ws.take i).map fun w => t * w / ws.sum).map V.int))) ⟨same_upd nD, upd_same⟩ ?_ ?_ ?_
    · rintro i H1 _ ⟨sm, _⟩
      exact TB.Same.tup sm hA
    · rintro i x H1 hx ⟨sm, eD⟩
      obtain ⟨w, hw, rfl⟩ := map_int hx
      refine ⟨rfl, yes (iteT ?_)⟩
      refine ⟨_, rfl, _, rfl, _, _, rfl, rfl, .inl (mul_ok (w := w) ok), _, rfl, _, _, rfl, rfl, wide_div (b := 60) ok.s0 (sum_ok ok) (by omega) (by omega), ?_⟩
      refine ⟨_, eD, ?_, same_new nD sm, ?_⟩
      · rw [List.length_map, List.length_map]
        have := List.length_take_le' i ws
        have := ok.n1
        exact small1000 (by omega)
      · rw [upd_same, map_take_more hw, List.map_append]
        rfl
    · rintro H1 ⟨sm, eD⟩
      rw [List.length_map, List.take_length] at eD
      exact ⟨D, _, rfl, .inl ⟨.inl (.inl eD), fun r nr => q _ r (sm.trans (same_upd nr)) (sm.free nr) upd_same⟩⟩
theorem ok_re {f fC : Addr} {fd fdC : FuncData} (F : Fun K "rests" "rests" sRe f fd)
    (GC : FnOk P w K mg base CX0 1 fC fdC ["total", "weights"] (spL K lows)) (kC : PySem.W.keepIn K (.ref fC) = true) (bC : Binds K fdC ["total", "weights"] []) (gC : mg "cuts" = some (.ref fC))
    (m_sum : mg "sum" = none) (m_tuple : mg "tuple" = none) (m_zip : mg "zip" = none) : FnOk P w K mg base CX0 2 f fd ["total", "weights"] (spL K rsts) := by
  refine F.ok scRe (fun vs H Q E h => ?_) (fun cdv A outer s H vs Q E hr h => ?_)
  · obtain ⟨a, t, ws, rfl, _⟩ := h
    rfl
  · obtain ⟨a, t, ws, rfl, hA, ok, q⟩ := h
    refine ⟨_, (pss_cons (ps_set (i := 2) scRe.nd rfl (.inr rfl) (pe_callB (call_sumT rfl) (by rfl) m_sum (by decide +kernel) (pa_cons (pv 1) pa_nil)))
      (pss_one (ps_ret (pe_callTy call_tuple_of (by rfl) m_tuple (by decide +kernel) (pa_cons (pe_lc (own := [("weight", 3), ("cut", 4)]) (g := gTup K 2 (gCons (gName 3) (gCons (gName 4) gNil))) (tt := tYes) rfl scRe.nd (RZ.pi_zipA (by rfl) m_zip (pa_cons (pv 1) (pa_cons (pe_call GC (hr.mono (by decide)) (by rfl) gC kC bC .nil pass0 (pa_cons (pv 0) (pa_cons (pv 1) pa_nil))) pa_nil))) (blkOk_by (own := [("weight", 3), ("cut", 4)]) (N := ["total", "weights", "whole", "weight", "cut"]) (sc := defScope sRe) (by decide +kernel)) (fun _ _ _ _ _ => (pg_tup rfl (pgs_cons (pg_name (i := 3) scRe.nd rfl (.inl rfl)) (pgs_cons (pg_name (i := 4) scRe.nd rfl (.inl rfl)) pgs_nil)))) (fun _ _ _ _ _ => pts_nil) (fun _ _ _ _ _ => (pe_op op_sub (pe_op op_mul (pv 0) (pv 3)) (pe_op op_mul (pv 4) (pv 2))))) pa_nil))))), ?_⟩
    refine ⟨_, rfl, a, ws, rfl, hA, ?_⟩
    refine ⟨_, rfl, _, rfl, _, rfl, a, t, ws, rfl, hA, ok, fun H1 r s1 nr er => ?_⟩
    refine ⟨a, r, _, _, rfl, .inr ⟨TB.Same.tup s1 hA, .inl (.inl er), fun D nD => ?_⟩⟩
    have ll := lows_len t ws
    refine lc_it (walk_zT (xs := ws.map V.int) (ys := (lows t ws).map V.int) (n := ws.length) (by rw [List.length_map, List.length_map, ll]; omega)) (fun i H2 => Same H1 H2 ∧ H2 D = some (.lst (((ws.take i).map fun w => t * w - t * w / ws.sum * ws.sum).map V.int))) ⟨same_upd nD, upd_same⟩ ?_ ?_ ?_
    · rintro i H2 _ ⟨sm, _⟩
      exact ⟨TB.Same.tup (s1.trans sm) hA, .inl (.inl (sm _ _ er))⟩
    · rintro i x H2 H3 hi ⟨sm, eD⟩ ⟨T, u, v, rfl, nT, rfl, hu, hv⟩
      obtain ⟨w, hw, rfl⟩ := map_int hu
      obtain ⟨c, hc, rfl⟩ := map_int hv
      obtain rfl := Option.some.inj ((low_get hw).symm.trans hc)
      have lb := low_bound ok (List.mem_of_getElem? hw)
      have t1 := ok.t1
      refine ⟨T, _, rfl, .inl (.inl upd_same), rfl, _, _, rfl, _, _, rfl, rfl, rfl, yes (iteT ?_)⟩
      refine ⟨_, rfl, _, rfl, _, _, rfl, rfl, .inl (mul_ok (w := w) ok), _, rfl, _, rfl, _, _, rfl, rfl, .inl ⟨by omega, by omega⟩, _, _, rfl, rfl, ?_⟩
      have sT := same_upd (o := .tup [.int w, .int (t * w / ws.sum)]) nT
      refine ⟨_, sT _ _ eD, ?_, same_new nD (sm.trans sT), ?_⟩
      · rw [List.length_map, List.length_map]
        have := List.length_take_le' i ws
        have := ok.n1
        exact small1000 (by omega)
      · rw [upd_same, map_take_more hw, List.map_append]
        rfl
    · rintro H2 ⟨sm, eD⟩
      rw [List.take_length] at eD
      exact ⟨D, _, rfl, .inl ⟨.inl (.inl eD), fun z nz => q _ z (s1.trans (sm.trans (same_upd nz))) ((s1.trans sm).free nz) upd_same⟩⟩
end
end K11

set_option Elab.async false
set_option linter.all false
set_option maxRecDepth 100000
set_option maxHeartbeats 1000000
namespace K11
open PySem PySem.Spec PyProof.Rows L2 TB K09

theorem scSp : FnScope ["total", "weights", "parts", "left", "odd", "turn", "rest", "at"] ["total", "weights"] (defScope sSp) := ⟨rfl, rfl, rfl, by decide +kernel, rfl, by decide +kernel, by decide +kernel⟩
section
variable {P : Program} {w : World} {K : PySem.W.Frag} {mg : Str → Option Value} {base : Heap}
theorem ok_sp {f fC fR : Addr} {fd fdC fdR : FuncData} (F : Fun K "split" "split" sSp f fd)
    (GC : FnOk P w K mg base CX0 1 fC fdC ["total", "weights"] (spL K lows)) (kC : PySem.W.keepIn K (.ref fC) = true) (bC : Binds K fdC ["total", "weights"] []) (gC : mg "cuts" = some (.ref fC))
    (GR : FnOk P w K mg base CX0 2 fR fdR ["total", "weights"] (spL K rsts)) (kR : PySem.W.keepIn K (.ref fR) = true) (bR : Binds K fdR ["total", "weights"] []) (gR : mg "rests" = some (.ref fR))
    (m_list : mg "list" = none) (m_sum : mg "sum" = none) (m_sorted : mg "sorted" = none) (m_enumerate : mg "enumerate" = none) (m_tuple : mg "tuple" = none) : FnOk P w K mg base CX0 3 f fd ["total", "weights"] (spL K parts) := by
  refine F.ok scSp (fun vs H Q E h => ?_) (fun cdv A outer s H vs Q E hr h => ?_)
  · obtain ⟨a, t, ws, rfl, _⟩ := h
    rfl
  · obtain ⟨a, t, ws, rfl, hA, ok, q⟩ := h
    refine ⟨_, (pss_cons (ps_set (i := 2) scSp.nd rfl (.inl rfl) (pe_callTy call_list_of (by rfl) m_list (by decide +kernel) (pa_cons (pe_call GC (hr.mono (by decide)) (by rfl) gC kC bC .nil pass0 (pa_cons (pv 0) (pa_cons (pv 1) pa_nil))) pa_nil)))
      (pss_cons (ps_set (i := 3) scSp.nd rfl (.inl rfl) (pe_call GR (hr.mono (by decide)) (by rfl) gR kR bR .nil pass0 (pa_cons (pv 0) (pa_cons (pv 1) pa_nil))))
      (pss_cons (ps_set (i := 4) scSp.nd rfl (.inl rfl) (pe_op op_sub (pv 0) (pe_callB (cr_sum rfl) (by rfl) m_sum (by decide +kernel) (pa_cons (pv 2) pa_nil))))
      (pss_cons (ps_set (i := 5) scSp.nd rfl (.inl rfl) (pe_callB cr_sortedPO (by rfl) m_sorted (by decide +kernel) (pa_cons (pe_lc (own := [("at", 7), ("rest", 6)]) (g := gTup K 2 (gCons (gName 7) (gCons (gName 6) gNil))) (tt := tYes) rfl scSp.nd (pi_enumT (by rfl) m_enumerate (pa_cons (pv 3) pa_nil)) (blkOk_by (own := [("at", 7), ("rest", 6)]) (N := ["total", "weights", "parts", "left", "odd", "turn", "rest", "at"]) (sc := defScope sSp) (by decide +kernel)) (fun _ _ _ _ _ => (pg_tup rfl (pgs_cons (pg_name (i := 7) scSp.nd rfl (.inl rfl)) (pgs_cons (pg_name (i := 6) scSp.nd rfl (.inl rfl)) pgs_nil)))) (fun _ _ _ _ _ => pts_nil) (fun _ _ _ _ _ => (pe_tup (pa_cons (pe_un un_neg (pv 6)) (pa_cons (pv 7) pa_nil))))) pa_nil)))
      (pss_cons (ps_for PassesOwn.never rfl (pi_list (pe_slice sl_list (pv 5) po_none (po_some (pv 4)))) (pg_tup rfl (pgs_cons (pg_name (i := 6) scSp.nd rfl (.inl rfl)) (pgs_cons (pg_name (i := 7) scSp.nd rfl (.inl rfl)) pgs_nil))) (pss_one (ps_augS (pv 2) (pv 7) get_list pe_int ip_add set_list)))
      (pss_one (ps_ret (pe_callTy call_tuple_of (by rfl) m_tuple (by decide +kernel) (pa_cons (pv 2) pa_nil))))))))), ?_⟩
    obtain ⟨eo, lo⟩ := odd_at ok
    have n1 := ok.n1
    have ll := lows_len t ws
    have rl := rsts_len t ws
    -- parts
    refine ⟨_, rfl, _, rfl, a, t, ws, rfl, hA, ok, fun H1 r s1 nr er => ?_⟩
    refine ⟨r, _, rfl, .inr (.inl (.inl er)), fun P0 nP => ?_⟩
    have nP0 : H P0 = none := s1.free nP
    have s2 := s1.trans (same_upd (o := .lst ((lows t ws).map V.int)) nP)
    have eP : (upd H1 P0 (.lst ((lows t ws).map V.int))) P0 = some (.lst ((lows t ws).map V.int)) := upd_same
    generalize upd H1 P0 (.lst ((lows t ws).map V.int)) = H2 at *
    -- left
    refine ⟨_, rfl, _, rfl, a, t, ws, rfl, TB.Same.tup s2 hA, ok, fun H3 l s3 nl el => ?_⟩
    have eP3 := s3 _ _ eP
    -- odd
    refine ⟨_, rfl, _, rfl, P0, lows t ws, rfl, .inl (.inl eP3), _, _, rfl, rfl, ?_⟩
    show tSeq _ _ _ [some (.int t), some (.ref a), some (.ref P0), some (.ref l), some (.int (t - (lows t ws).sum)), none, none, none] _
    rw [← eo]
    -- turn
    refine ⟨_, rfl, l, _, rfl, .inl (.inl el), fun D nD => ?_⟩
    refine lc_it (walk_ET (xs := (rsts t ws).map V.int)) (fun i H4 => Same H3 H4 ∧ ∃ us : List V, H4 D = some (.lst us) ∧ us.length = i ∧ ∀ (j : Nat) (r : Int), j < i → (rsts t ws)[j]? = some r → ∃ T : Addr, us[j]? = some (.ref T) ∧ H4 T = some (.tup [.int (-r), .int (j : Int)]))
      ⟨same_upd nD, [], upd_same, rfl, fun j r hj => absurd hj (Nat.not_lt_zero _)⟩ ?_ ?_ ?_
    · rintro i H4 _ ⟨sm, _⟩
      exact .inl (.inl (sm _ _ el))
    · rintro i x H4 H5 hi ⟨sm, us, eD, ul, hus⟩ ⟨T, u, v, rfl, nT, rfl, hu, hv⟩
      obtain ⟨r0, hr0, rfl⟩ := map_int hv
      obtain rfl := Option.some.inj hu
      rw [List.length_map, rl] at hi
      have sT := same_upd (o := .tup [.int (i : Nat), .int r0]) nT
      refine ⟨T, _, rfl, .inl (.inl upd_same), rfl, _, _, rfl, _, _, rfl, rfl, rfl, yes (iteT ?_)⟩
      refine ⟨_, rfl, _, rfl, _, rfl, by show (2 : Nat) ≤ sizeLine; decide, fun T2 nT2 => ?_⟩
      have s2' := sT.trans (same_upd (o := .tup [.int (-r0), .int (i : Nat)]) nT2)
      have eT2 : (upd (upd H4 T (.tup [.int (i : Nat), .int r0])) T2 (.tup [.int (-r0), .int (i : Nat)])) T2 = some (.tup [.int (-r0), .int (i : Nat)]) := upd_same
      have eD2 := s2' _ _ eD
      refine ⟨us, eD2, by rw [ul]; exact small1000 (by omega), same_new nD (sm.trans s2'), us ++ [.ref T2], upd_same, by rw [List.length_append, ul]; rfl, fun j r hj hr => ?_⟩
      by_cases c : j < i
      · obtain ⟨T3, e3, f3⟩ := hus j r c hr
        have f4 := s2' _ _ f3
        refine ⟨T3, ?_, ?_⟩
        · rw [List.getElem?_append_left (by omega)]
          exact e3
        · rw [upd_ne (ne_of f4 eD2 fun z => nomatch z)]
          exact f4
      · obtain rfl : j = i := by omega
        obtain rfl := Option.some.inj (hr0.symm.trans hr)
        refine ⟨T2, ?_, ?_⟩
        · rw [← ul]
          simp
        · rw [upd_ne (ne_of eT2 eD2 fun z => nomatch z)]
          exact eT2
    · rintro H4 ⟨s4, us, eD, ul, hus⟩
      rw [List.length_map] at ul hus
      have pa : Prs H4 us (rsts t ws) := ⟨ul, fun j r hr => hus j r (List.getElem?_eq_some_iff.mp hr).1 hr⟩
      refine ⟨D, us, keyOf H4, rfl, .inl (.inl eD), fun x hx => ?_, fun ys p srt stb np => ?_⟩
      · obtain ⟨T, r, j, rfl, _, eT⟩ := pa.mem hx
        exact ⟨T, rfl, by rw [keyOf_at eT]; exact eT⟩
      obtain ⟨yl, hys⟩ := pairs_sorted pa srt stb
      have s5 := same_upd (o := .lst ys) np
      have ep : (upd H4 p (.lst ys)) p = some (.lst ys) := upd_same
      generalize upd H4 p (.lst ys) = H5 at *
      -- the loop
      refine ⟨_, rfl, _, rfl, _, rfl, p, _, rfl, .inl (.inl ep), fun S nS => ?_⟩
      rw [cut_take]
      have s6 := same_upd (o := .lst (ys.take (odd t ws))) nS
      have eS : (upd H5 S (.lst (ys.take (odd t ws)))) S = some (.lst (ys.take (odd t ws))) := upd_same
      generalize upd H5 S (.lst (ys.take (odd t ws))) = H6 at *
      have eP6 := s6 _ _ (s5 _ _ (s4 _ _ eP3))
      have nSP : S ≠ P0 := fun z => by
        rw [z, s5 _ _ (s4 _ _ eP3)] at nS
        cases nS
      refine ⟨S, rfl, ⟨_, .inl (.inl eS)⟩, ?_⟩
      have tl : (ys.take (odd t ws)).length = odd t ws := by
        rw [List.length_take]
        omega
      refine for_list (xs := ys.take (odd t ws)) (fun i σ H7 => ∃ y6 y7, σ = [some (.int t), some (.ref a), some (.ref P0), some (.ref l), some (.int (odd t ws : Int)), some (.ref p), y6, y7] ∧ But P0 H6 H7 ∧ H7 P0 = some (.lst ((bump (lows t ws) ((ats (rsts t ws)).take i)).map V.int)))
        ⟨_, _, rfl, But.refl _ _, by rw [List.take_zero, bump_nil]; exact eP6⟩ ?_ ?_ ?_
      · rintro i σ H7 _ ⟨y6, y7, rfl, bu, _⟩
        exact .inl (.inl (bu _ _ nSP eS))
      · rintro i x σ H7 hx ⟨y6, y7, rfl, bu, eP7⟩
        have hi : i < odd t ws := by
          rw [← tl]
          exact (List.getElem?_eq_some_iff.mp hx).1
        rw [List.getElem?_take, if_pos hi] at hx
        have il : i < (ats (rsts t ws)).length := by
          rw [ats_len]
          omega
        have ea := List.getElem?_eq_getElem il
        generalize (ats (rsts t ws))[i] = b at ea
        obtain ⟨T, r1, eT, hr1, fT⟩ := hys i b ea
        obtain rfl := Option.some.inj (hx.symm.trans eT)
        have fT6 := s6 _ _ (s5 _ _ fT)
        have fT7 := bu _ _ (ne_of fT6 eP6 fun z => nomatch z) fT6
        have bl : b < (lows t ws).length := by
          have := ats_lt (List.mem_of_getElem? ea)
          omega
        have nb := take_not (ats_nodup _) ea
        have gb : (bump (lows t ws) ((ats (rsts t ws)).take i))[b]? = some ((lows t ws).getD b 0) := by
          rw [bump_get bl, if_neg nb, Int.add_zero]
        refine ⟨T, _, rfl, .inl (.inl fT7), rfl, _, _, rfl, _, _, rfl, rfl, ?_⟩
        refine ⟨_, rfl, _, rfl, P0, _, b, .int ((lows t ws).getD b 0), rfl, rfl, .inl (.inl eP7), by rw [List.getElem?_map, gb]; rfl, _, _, rfl, rfl, P0, _, _, b, rfl, rfl, eP7, ixN_nat (by rw [List.length_map, bump_len]; exact bl), ?_⟩
        refine ⟨_, _, rfl, bu.trans But.upd, ?_⟩
        rw [upd_same, take_more ea, ← bump_more bl nb, List.map_set]
      · rintro σ H7 ⟨y6, y7, rfl, bu, eP7⟩
        rw [tl] at eP7
        refine ⟨_, rfl, P0, _, rfl, .inl ⟨.inl (.inl eP7), fun z nz => ?_⟩⟩
        have s7 : Same H H7 := but_new nP0 (s2.trans (s3.trans (s4.trans (s5.trans s6)))) bu
        exact q _ z (s7.trans (same_upd nz)) (s7.free nz) upd_same
end
end K11

set_option Elab.async false
set_option linter.all false
set_option maxRecDepth 100000
set_option maxHeartbeats 2000000
namespace K11
open PySem PySem.Spec PyProof.Rows L2 TB K09

theorem scWe : FnScope ["_law_feed_here", "_law_many", "_law_style", "_law_found", "_law_k", "_law_near"] ["_law_feed_here", "_law_many"] (defScope sWe) := ⟨rfl, rfl, rfl, by decide +kernel, rfl, by decide +kernel, by decide +kernel⟩
structure Ws (ws : List Int) : Prop where
  n0 : 0 < ws.length
  n1 : ws.length ≤ 12
  w0 : ∀ w ∈ ws, 0 ≤ w ∧ w ≤ 1000000000
  s0 : 0 < ws.sum
theorem Ws.ok {ws : List Int} {t : Int} (h : Ws ws) (t0 : 0 ≤ t) (t1 : t ≤ 1000000000000) : OkW t ws := ⟨t0, t1, h.n0, h.n1, h.w0, h.s0⟩
theorem but_upd {H H' : Hp} {L O : Addr} {o : HO} (n : H O = none) (b : But L H H') : But L H (upd H' O o) := fun c x m e => by
  rw [upd_ne (ne_of_none e n)]
  exact b c x m e
theorem ixN_last {n : Nat} (h : 0 < n) : ixN n (-1) = some (n - 1) := by
  unfold ixN
  rw [if_neg (by decide), if_pos (by omega)]
  congr 1
  omega
theorem mem_set {ws : List Int} {j : Nat} {v w : Int} (h : w ∈ ws.set j v) : w ∈ ws ∨ w = v := by
  rcases List.mem_or_eq_of_mem_set h with z | z
  · exact .inl z
  · exact .inr z
theorem pick6 {a b c d e f v : Int} (h0 : 0 ≤ v) (h1 : v < 6) : ∃ x, atI [V.int a, V.int b, V.int c, V.int d, V.int e, V.int f] v = some (.int x) ∧ (x = a ∨ x = b ∨ x = c ∨ x = d ∨ x = e ∨ x = f) := by
  have z : v = 0 ∨ v = 1 ∨ v = 2 ∨ v = 3 ∨ v = 4 ∨ v = 5 := by omega
  rcases z with rfl | rfl | rfl | rfl | rfl | rfl
  · exact ⟨a, rfl, by simp⟩
  · exact ⟨b, rfl, by simp⟩
  · exact ⟨c, rfl, by simp⟩
  · exact ⟨d, rfl, by simp⟩
  · exact ⟨e, rfl, by simp⟩
  · exact ⟨f, rfl, by simp⟩
section
variable {P : Program} {w : World} {K : PySem.W.Frag} {mg : Str → Option Value} {base : Heap}
/-! ### _law_weights -/
def spWe : Sp := fun vs H Q _ => ∃ (F S : Addr) (m T : Int), vs = [.ref F, .int m] ∧ 0 < m ∧ m ≤ 12 ∧ Feed H F S T ∧ T < 100000 ∧
  ∀ (H' : Hp) (r : Addr) (ws : List Int), But F H H' → Feed H' F S (T + 150) → H' r = some (.tup (ws.map V.int)) → Ws ws → (ws.length : Int) ≤ m → Q (.ref r) H'
theorem ok_we {f fR : Addr} {fd fdR : FuncData} (F : Fun K "_law_weights" "_law_weights" sWe f fd)
    (GDr : FnOk P w K mg base CX0 1 fR fdR ["_law_feed_here", "_law_many"] spDraw) (kDr : PySem.W.keepIn K (.ref fR) = true) (bDr : Binds K fdR ["_law_feed_here", "_law_many"] []) (gDr : mg "_law_draw" = some (.ref fR))
    (m_range : mg "range" = none) (m_sum : mg "sum" = none) (m_len : mg "len" = none) (m_tuple : mg "tuple" = none) : FnOk P w K mg base CX0 2 f fd ["_law_feed_here", "_law_many"] spWe := by
  refine F.ok scWe (fun vs H Q E h => ?_) (fun cdv A outer s H vs Q E hr h => ?_)
  · obtain ⟨a, S, m, T, rfl, _⟩ := h
    rfl
  · obtain ⟨L, S, m, T, rfl, m0, m1, hF, hT, q⟩ := h
    refine ⟨_, (pss_cons (ps_set (i := 2) scWe.nd rfl (.inl rfl) (pe_call GDr (hr.mono (by decide)) (by rfl) gDr kDr bDr .nil pass0 (pa_cons (pv 0) (pa_cons pe_int pa_nil))))
      (pss_cons (ps_set (i := 3) scWe.nd rfl (.inl rfl) (pe_lst pa_nil))
      (pss_cons (ps_for PassesOwn.never rfl (pi_range1 (by rfl) m_range (pa_cons (pe_op op_add pe_int (pe_call GDr (hr.mono (by decide)) (by rfl) gDr kDr bDr .nil pass0 (pa_cons (pv 0) (pa_cons (pv 1) pa_nil)))) pa_nil)) (pg_name (i := 4) scWe.nd rfl (.inl rfl)) (pss_cons (ps_set (i := 5) scWe.nd rfl (.inl rfl) (pe_op op_sub (pe_op op_pow pe_int pe_int) (pe_call GDr (hr.mono (by decide)) (by rfl) gDr kDr bDr .nil pass0 (pa_cons (pv 0) (pa_cons pe_int pa_nil)))))
      (pss_cons (ps_expr (pe_bm PySem.F.plainAttrs_list PySem.F.slot_list_append PySem.F.type_list_append mt_append (pv 3) (pa_cons (pe_ix ix_tup (pe_tup (pa_cons (pe_call GDr (hr.mono (by decide)) (by rfl) gDr kDr bDr .nil pass0 (pa_cons (pv 0) (pa_cons pe_int pa_nil))) (pa_cons pe_int (pa_cons (pe_call GDr (hr.mono (by decide)) (by rfl) gDr kDr bDr .nil pass0 (pa_cons (pv 0) (pa_cons pe_int pa_nil))) (pa_cons (pv 5) (pa_cons (pe_op op_add pe_int (pe_call GDr (hr.mono (by decide)) (by rfl) gDr kDr bDr .nil pass0 (pa_cons (pv 0) (pa_cons (pe_op op_pow pe_int pe_int) pa_nil)))) (pa_cons (pv 5) pa_nil))))))) (pv 2) (fun _ _ => rfl)) pa_nil)))
      (pss_one (ps_cut (ps_if (PW.pt (pw_and (pt_cmpR op_eq (pv 2) pe_int (nomark _)) (pw_and1 (pt_cmpR op_eq (pe_call GDr (hr.mono (by decide)) (by rfl) gDr kDr bDr .nil pass0 (pa_cons (pv 0) (pa_cons pe_int pa_nil))) pe_int (nomark _))))) (pss_one (ps_asg (pe_call GDr (hr.mono (by decide)) (by rfl) gDr kDr bDr .nil pass0 (pa_cons (pv 0) (pa_cons pe_int pa_nil))) (pg_sub (pv 3) (pe_un un_neg pe_int) set_list))) pss_nil))))))
      (pss_cons (ps_cut (ps_if (pt_cmpR op_eq (pe_callB (cr_sum rfl) (by rfl) m_sum (by decide +kernel) (pa_cons (pv 3) pa_nil)) pe_int (nomark _)) (pss_one (ps_asg (pe_op op_add pe_int (pe_call GDr (hr.mono (by decide)) (by rfl) gDr kDr bDr .nil pass0 (pa_cons (pv 0) (pa_cons pe_int pa_nil)))) (pg_sub (pv 3) (pe_call GDr (hr.mono (by decide)) (by rfl) gDr kDr bDr .nil pass0 (pa_cons (pv 0) (pa_cons (pe_callB call_len_seq (by rfl) m_len (by decide +kernel) (pa_cons (pv 3) pa_nil)) pa_nil))) set_list))) pss_nil))
      (pss_one (ps_ret (pe_callTy call_tuple_of (by rfl) m_tuple (by decide +kernel) (pa_cons (pv 3) pa_nil)))))))), ?_⟩
    refine ⟨_, rfl, L, S, 6, T, rfl, by decide, by decide, hF, by omega, fun H1 st k1 f1 l1 u1 => ?_⟩
    refine ⟨Nat.zero_le _, fun O nO => ?_⟩
    obtain ⟨z1, ez1⟩ := f1.there
    have nO0 : H O = none := k1.free ez1 nO
    have nOL := f1.ne nO
    have k2 : But L H (upd H1 O (.lst [])) := but_upd nO0 k1
    have f2 := f1.same (same_upd (o := .lst []) nO)
    have eO : (upd H1 O (.lst [])) O = some (.lst (([] : List Int).map V.int)) := upd_same
    generalize upd H1 O (.lst []) = H2 at *
    show tSeq _ _ _ [some (.ref L), some (.int m), some (.int st), some (.ref O), none, none] _
    refine ⟨_, rfl, _, rfl, L, S, m, _, rfl, m0, by omega, f2, by omega, fun H3 v3 k3 f3 l3 u3 => ⟨_, _, rfl, rfl, 1 + v3, rfl, by omega, by omega, ?_⟩⟩
    have eO3 := k3 _ _ nOL.1 eO
    refine for_range (lo := 0) (n := (1 + v3).toNat) (fun i σ H4 => ∃ y4 y5, σ = [some (.ref L), some (.int m), some (.int st), some (.ref O), y4, y5] ∧ Feed H4 L S (T + 2 + 10 * i) ∧ But L H H4 ∧ ∃ ws : List Int, ws.length = i ∧ (∀ w ∈ ws, 0 ≤ w ∧ w ≤ 1000000000) ∧ H4 O = some (.lst (ws.map V.int)))
      ⟨_, _, rfl, f3.mono (by omega), k2.trans k3, [], rfl, (fun w hw => by cases hw), eO3⟩ ?_ ?_
    · rintro i σ H4 hi ⟨y4, y5, rfl, f4, k4, ws, wl, hw, eO4⟩
      have hi' : i < 12 := by omega
      generalize hTT : T + 2 + 10 * (i : Int) = T4 at f4
      have hT4 : T4 < 200000 := by omega
      refine ⟨_, _, rfl, rfl, ⟨by decide, by decide, by decide⟩, _, rfl, L, S, 3, _, rfl, by decide, by decide, f4, by omega, fun H5 v5 k5 f5 l5 u5 => ⟨_, _, rfl, rfl, ?_⟩⟩
      have near : (10 : Int) ^ Int.toNat 9 = 1000000000 := by decide
      show tSeq _ _ _ [some (.ref L), some (.int m), some (.int st), some (.ref O), some (.int (0 + (i : Int))), some (.int ((10 : Int) ^ Int.toNat 9 - v5))] _
      rw [near]
      have eO5 := k5 _ _ nOL.1 eO4
      refine ⟨_, rfl, .inl ⟨rfl, _, .inl (.inl eO5)⟩, ?_⟩
      refine ⟨_, rfl, L, S, 4, _, rfl, by decide, by decide, f5, by omega, fun H6 v6 k6 f6 l6 u6 => ?_⟩
      refine ⟨_, rfl, L, S, 50, _, rfl, by decide, by decide, f6, by omega, fun H7 v7 k7 f7 l7 u7 => ?_⟩
      refine ⟨_, rfl, _, rfl, _, _, rfl, rfl, ⟨by decide, by decide, by decide⟩, L, S, 10 ^ 9, _, rfl, by decide, by decide, f7, by omega, fun H8 v8 k8 f8 l8 u8 => ⟨_, _, rfl, rfl, _, rfl, by show (6 : Nat) ≤ sizeLine; decide, fun tp ntp => ?_⟩⟩
      have s9 := same_upd (o := .tup [.int v6, .int 1, .int v7, .int (1000000000 - v5), .int (1 + v8), .int (1000000000 - v5)]) ntp
      have etp : (upd H8 tp (.tup [.int v6, .int 1, .int v7, .int (1000000000 - v5), .int (1 + v8), .int (1000000000 - v5)])) tp = some (.tup [.int v6, .int 1, .int v7, .int (1000000000 - v5), .int (1 + v8), .int (1000000000 - v5)]) := upd_same
      have u8' : v8 < 1000000000 := u8
      obtain ⟨x, hx, x6⟩ := pick6 (a := v6) (b := 1) (c := v7) (d := 1000000000 - v5) (e := 1 + v8) (f := 1000000000 - v5) l1 u1
      have x0 : 0 ≤ x ∧ x ≤ 1000000000 := by omega
      refine ⟨_, rfl, tp, _, st, .int x, rfl, rfl, .inl (.inl etp), hx, ?_⟩
      have k9 : But L H4 (upd H8 tp (.tup [.int v6, .int 1, .int v7, .int (1000000000 - v5), .int (1 + v8), .int (1000000000 - v5)])) := (((k5.trans k6).trans k7).trans k8).same s9
      have f9 := f8.same s9
      generalize upd H8 tp (.tup [.int v6, .int 1, .int v7, .int (1000000000 - v5), .int (1 + v8), .int (1000000000 - v5)]) = H9 at *
      have eO9 := k9 _ _ nOL.1 eO4
      refine ⟨O, _, _, rfl, rfl, eO9, by rw [List.length_map, wl]; exact small1000 (by omega), ?_⟩
      have f10 := f9.upd (o := .lst (ws.map V.int ++ [.int x])) nOL
      have k10 : But L H (upd H9 O (.lst (ws.map V.int ++ [.int x]))) := but_upd nO0 (k4.trans k9)
      have eO10 : (upd H9 O (.lst (ws.map V.int ++ [.int x]))) O = some (.lst ((ws ++ [x]).map V.int)) := by
        rw [upd_same, List.map_append]
        rfl
      generalize upd H9 O (.lst (ws.map V.int ++ [.int x])) = H10 at *
      have hw2 : ∀ w ∈ ws ++ [x], 0 ≤ w ∧ w ≤ 1000000000 := fun w hm => by
        rcases List.mem_append.mp hm with z | z
        · exact hw w z
        · rw [List.mem_singleton.mp z]
          exact x0
      have wl2 : (ws ++ [x]).length = i + 1 := by
        rw [List.length_append, wl]
        rfl
      refine ⟨fun σ' H' => ∃ y4 y5, σ' = [some (.ref L), some (.int m), some (.int st), some (.ref O), y4, y5] ∧ Feed H' L S (T + 2 + 10 * ((i + 1 : Nat) : Int)) ∧ But L H H' ∧ ∃ ws : List Int, ws.length = i + 1 ∧ (∀ w ∈ ws, 0 ≤ w ∧ w ≤ 1000000000) ∧ H' O = some (.lst (ws.map V.int)), ?_, fun _ _ z => z⟩
      refine ⟨_, rfl, rfl, _, rfl, ?_⟩
      change ite _ _ _
      refine ite2 (fun c => ?_) (fun c => ?_)
      · refine ⟨_, rfl, L, S, 2, _, rfl, by decide, by decide, f10, by omega, fun H11 v11 k11 f11 l11 u11 => ⟨rfl, _, rfl, ?_⟩⟩
        change ite _ _ _
        have eO11 := k11 _ _ nOL.1 eO10
        refine ite2 (fun c2 => ?_) (fun c2 => ?_)
        · refine ⟨_, rfl, L, S, 3, _, rfl, by decide, by decide, f11, by omega, fun H12 v12 k12 f12 l12 u12 => ?_⟩
          have eO12 := k12 _ _ nOL.1 eO11
          refine ⟨_, rfl, 1, rfl, O, _, _, _, rfl, rfl, eO12, ixN_last (by rw [List.length_map, wl2]; omega), ?_⟩
          refine ⟨_, _, rfl, (f12.upd nOL).mono (by omega), but_upd nO0 ((k10.trans k11).trans k12), (ws ++ [x]).set (((ws ++ [x]).map V.int).length - 1) v12, by rw [List.length_set, wl2], fun w hm => ?_, ?_⟩
          · rcases mem_set hm with z | z
            · exact hw2 w z
            · rw [z]
              omega
          · rw [upd_same, List.map_set]
        · exact ⟨_, _, rfl, f11.mono (by omega), k10.trans k11, _, wl2, hw2, eO11⟩
      · exact iteF ⟨_, _, rfl, f10.mono (by omega), k10, _, wl2, hw2, eO10⟩
    · rintro σ H4 ⟨y4, y5, rfl, f4, k4, ws, wl, hw, eO4⟩
      have wn : 0 < ws.length := by omega
      have wn12 : ws.length ≤ 12 := by omega
      have wnm : (ws.length : Int) ≤ m := by omega
      have f4 : Feed H4 L S (T + 130) := f4.mono (by omega)
      refine ⟨fun σ' H' => ∃ ws : List Int, σ' = [some (.ref L), some (.int m), some (.int st), some (.ref O), y4, y5] ∧ Feed H' L S (T + 150) ∧ But L H H' ∧ Ws ws ∧ H' O = some (.lst (ws.map V.int)) ∧ (ws.length : Int) ≤ m, ?_, ?_⟩
      · refine ⟨_, rfl, O, ws, rfl, .inl (.inl eO4), rfl, _, rfl, ?_⟩
        refine ite2 (fun c => ?_) (fun c => ?_)
        · refine ⟨_, rfl, L, S, 3, _, rfl, by decide, by decide, f4, by omega, fun H5 v5 k5 f5 l5 u5 => ⟨_, _, rfl, rfl, ?_⟩⟩
          have eO5 := k5 _ _ nOL.1 eO4
          refine ⟨_, rfl, _, rfl, _, rfl, O, _, rfl, .inl (.inl (.inl eO5)), L, S, ((ws.map V.int).length : Int), _, rfl, by rw [List.length_map]; omega, by rw [List.length_map]; omega, f5, by omega, fun H6 v6 k6 f6 l6 u6 => ?_⟩
          have eO6 := k6 _ _ nOL.1 eO5
          obtain ⟨j, rfl⟩ : ∃ j : Nat, v6 = (j : Int) := ⟨v6.toNat, (Int.toNat_of_nonneg l6).symm⟩
          rw [List.length_map] at u6
          have jl : j < ws.length := by omega
          refine ⟨O, _, _, j, rfl, rfl, eO6, ixN_nat (by rw [List.length_map]; exact jl), ?_⟩
          have hw3 : ∀ w ∈ ws.set j (1 + v5), 0 ≤ w ∧ w ≤ 1000000000 := fun w hm => by
            rcases mem_set hm with z | z
            · exact hw w z
            · rw [z]
              omega
          refine ⟨ws.set j (1 + v5), rfl, (f6.upd nOL).mono (by omega), but_upd nO0 ((k4.trans k5).trans k6), ⟨by rw [List.length_set]; exact wn, by rw [List.length_set]; exact wn12, hw3, ?_⟩, ?_, by rw [List.length_set]; exact wnm⟩
          · have mm : (1 + v5) ∈ ws.set j (1 + v5) := by
              refine List.mem_iff_getElem?.mpr ⟨j, ?_⟩
              rw [List.getElem?_set, if_pos rfl, if_pos jl]
            have := (sum_ge (fun z hz => (hw3 z hz).1) mm).2
            omega
          · rw [upd_same, List.map_set]
        · refine ⟨ws, rfl, f4.mono (by omega), k4, ⟨wn, wn12, hw, ?_⟩, eO4, wnm⟩
          have s0 := (sum_le hw).1
          have : ws.sum ≠ 0 := fun z => c (decide_eq_true (by rw [z]))
          omega
      · rintro σ' H5 ⟨ws, rfl, f5, k5, hws, eO5, wnm⟩
        refine ⟨_, rfl, O, _, rfl, .inl ⟨.inl (.inl eO5), fun r nr => ?_⟩⟩
        exact q _ r ws (k5.same (same_upd nr)) (f5.same (same_upd nr)) upd_same hws wnm
end
end K11

set_option Elab.async false
set_option linter.all false
set_option maxRecDepth 100000
set_option maxHeartbeats 2000000
namespace K11
open PySem PySem.Spec PyProof.Rows L2 TB K09

theorem scIn : FnScope ["self", "word", "at"] ["self", "word", "at"] (defScope sIn) := ⟨rfl, rfl, rfl, by decide +kernel, rfl, by decide +kernel, by decide +kernel⟩
theorem scNu : FnScope ["thing"] ["thing"] (defScope sNu) := ⟨rfl, rfl, rfl, by decide +kernel, rfl, by decide +kernel, by decide +kernel⟩
theorem scTu : FnScope ["thing", "many"] ["thing", "many"] (defScope sTu) := ⟨rfl, rfl, rfl, by decide +kernel, rfl, by decide +kernel, by decide +kernel⟩
theorem scLc : FnScope ["lows", "parts", "at", "part"] ["lows", "parts"] (defScope sLc) := ⟨rfl, rfl, rfl, by decide +kernel, rfl, by decide +kernel, by decide +kernel⟩
theorem scLr : FnScope ["lows", "left", "parts", "short", "at", "part", "low", "rest"] ["lows", "left", "parts"] (defScope sLr) := ⟨rfl, rfl, rfl, by decide +kernel, rfl, by decide +kernel, by decide +kernel⟩
/-! ### kinds of things -/
def isNum : PyData → Bool
  | .int _ => true
  | _ => false
def isTup (m : Int) : PyData → Bool
  | .tuple ds => decide ((ds.length : Int) = m)
  | _ => false
section
variable {K : PySem.W.Frag} {H : Hp}
theorem ty_lst {a : Addr} {xs : List V} (h : SqL K H a xs) : TyX K H (.ref a) (.type "list") := by
  rcases h with (h | ⟨o, h⟩) | ⟨o, its, n, e, c, _⟩
  · exact .base (.lst h)
  · exact .base (.frz h)
  · exact .kList e c
theorem ty_tup {a : Addr} {xs : List V} (h : SqT K H a xs) : TyX K H (.ref a) (.type "tuple") := by
  rcases h with (h | ⟨o, h⟩) | ⟨o, its, n, e, c, _⟩
  · exact .base (.tup h)
  · exact .fTuple h
  · exact .kTuple e c
def isTp : PyData → Bool
  | .tuple _ => true
  | _ => false
theorem isiT {v : V} {d : PyData} (hd : Dp K H v d) : ∃ t : Value, TyX K H v t ∧ PySem.W.kitOne K t (.type "tuple") = some (isTp d) := by
  cases hd with
  | non => exact ⟨_, .base .non, (kit_ty (r := false) (by decide +kernel))⟩
  | bl b => exact ⟨_, .base (.bl b), (kit_ty (r := false) (by decide +kernel))⟩
  | int i => exact ⟨_, .base (.int i), (kit_ty (r := false) (by decide +kernel))⟩
  | str x => exact ⟨_, .base (.str x), (kit_ty (r := false) (by decide +kernel))⟩
  | lst h _ => exact ⟨_, ty_lst h, (kit_ty (r := false) (by decide +kernel))⟩
  | tup h _ => exact ⟨_, ty_tup h, (kit_ty (r := true) (by decide +kernel))⟩
end
theorem dec_int' {i j : Int} : decide (V.int i = V.int j) = decide (i = j) := by
  by_cases c : i = j
  · rw [c, decide_eq_true rfl, decide_eq_true rfl]
  · rw [decide_eq_false c, decide_eq_false fun z => c (V.int.inj z)]
section
variable {P : Program} {w : World} {K : PySem.W.Frag} {mg : Str → Option Value} {base : Heap}
def spKind (K : PySem.W.Frag) (f : PyData → Bool) : Sp := fun vs H Q _ => ∃ (v : V) (d : PyData), vs = [v] ∧ Dp K H v d ∧ ∀ H', Same H H' → Q (.bl (f d)) H'
theorem ok_n {f : Addr} {fd : FuncData} {k : Nat} (F : Fun K "is_number" "is_number" sNu f fd) (m_isinstance : mg "isinstance" = none) (m_int : mg "int" = none) (m_bool : mg "bool" = none) :
    FnOk P w K mg base CX0 (k + 1) f fd ["thing"] (spKind K isNum) := by
  refine F.ok scNu (fun vs H Q E h => ?_) (fun cdv A outer s H vs Q E hr h => ?_)
  · obtain ⟨v, d, rfl, _⟩ := h
    rfl
  · obtain ⟨v, d, rfl, hd, q⟩ := h
    have q := q H (Same.refl H)
    refine ⟨_, (pss_one (ps_ret (pe_and (pe_callB call_isi (by rfl) m_isinstance (by decide +kernel) (pa_cons (pv 0) (pa_cons (pe_bltn (v := .ty "int") (u := .type "int") (by rfl) m_int (by decide +kernel) rfl) pa_nil))) (pe_one (pe_not (pe_callB call_isi (by rfl) m_isinstance (by decide +kernel) (pa_cons (pv 0) (pa_cons (pe_bltn (v := .ty "bool") (u := .type "bool") (by rfl) m_bool (by decide +kernel) rfl) pa_nil)))))))), ?_⟩
    cases hd with
    | non => exact ⟨_, rfl, _, .ty "int", _, .type "int", false, rfl, .ty _, .base .non, kit_ty (by decide +kernel), false, rfl, iteF q⟩
    | bl b => exact ⟨_, rfl, _, .ty "int", _, .type "int", true, rfl, .ty _, .base (.bl b), kit_ty (by decide +kernel), true, rfl, iteT ⟨_, rfl, _, .ty "bool", _, .type "bool", true, rfl, .ty _, .base (.bl b), kit_ty (by decide +kernel), true, rfl, q⟩⟩
    | int i => exact ⟨_, rfl, _, .ty "int", _, .type "int", true, rfl, .ty _, .base (.int i), kit_ty (by decide +kernel), true, rfl, iteT ⟨_, rfl, _, .ty "bool", _, .type "bool", false, rfl, .ty _, .base (.int i), kit_ty (by decide +kernel), false, rfl, q⟩⟩
    | str x => exact ⟨_, rfl, _, .ty "int", _, .type "int", false, rfl, .ty _, .base (.str x), kit_ty (by decide +kernel), false, rfl, iteF q⟩
    | lst h _ => exact ⟨_, rfl, _, .ty "int", _, .type "int", false, rfl, .ty _, ty_lst h, kit_ty (by decide +kernel), false, rfl, iteF q⟩
    | tup h _ => exact ⟨_, rfl, _, .ty "int", _, .type "int", false, rfl, .ty _, ty_tup h, kit_ty (by decide +kernel), false, rfl, iteF q⟩
def spTup (K : PySem.W.Frag) (g : Int → PyData → Bool) : Sp := fun vs H Q _ => ∃ (v : V) (d : PyData) (m : Int), vs = [v, .int m] ∧ m ≤ 100 ∧ Dp K H v d ∧ ∀ H', Same H H' → Q (.bl (g m d)) H'
theorem ok_t {f : Addr} {fd : FuncData} {k : Nat} (F : Fun K "is_tuple_of" "is_tuple_of" sTu f fd) (m_isinstance : mg "isinstance" = none) (m_tuple : mg "tuple" = none) (m_len : mg "len" = none) :
    FnOk P w K mg base CX0 (k + 1) f fd ["thing", "many"] (spTup K isTup) := by
  refine F.ok scTu (fun vs H Q E h => ?_) (fun cdv A outer s H vs Q E hr h => ?_)
  · obtain ⟨v, d, m, rfl, _⟩ := h
    rfl
  · obtain ⟨v, d, m, rfl, hm, hd, q⟩ := h
    have q := q H (Same.refl H)
    refine ⟨_, (pss_one (ps_ret (pe_and (pe_callB call_isi (by rfl) m_isinstance (by decide +kernel) (pa_cons (pv 0) (pa_cons (pe_bltn (v := .ty "tuple") (u := .type "tuple") (by rfl) m_tuple (by decide +kernel) rfl) pa_nil))) (pe_one (pe_cmpR op_eq (pe_callB call_len_seq (by rfl) m_len (by decide +kernel) (pa_cons (pv 0) pa_nil)) (pv 1) (nomark _)))))), ?_⟩
    obtain ⟨t, ty, kt⟩ := isiT hd
    refine ⟨_, rfl, _, .ty "tuple", t, .type "tuple", _, rfl, .ty _, ty, kt, _, rfl, ?_⟩
    cases hd with
    | tup h t =>
      refine iteT ⟨_, rfl, _, _, rfl, .inr h, _, rfl, rfl, ?_⟩
      have ln := DpAll.len t
      rw [ln]
      show Q (.bl (decide (V.int _ = V.int m))) H
      rw [dec_int']
      exact q
    | non => exact iteF q
    | bl b => exact iteF q
    | int i => exact iteF q
    | str x => exact iteF q
    | lst h _ => exact iteF q
/-! ### NoPaper(word, at) -/
def spIn (K : PySem.W.Frag) (C : Addr) : Sp := fun vs H Q _ => ∃ (a : Addr) (x y : V), vs = [.ref a, x, y] ∧ H a = some (exo a C none) ∧
  ∀ dx, H dx = none → dx ≠ a → Q .non (upd (upd (upd H dx (exd dx [("word", x)])) a (exo a C (some dx))) dx (exd dx [("at", y), ("word", x)]))
theorem ok_in {C f : Addr} {fd : FuncData} {k : Nat} (T : OexC K C) (nW : PySem.W.findIn K (.ref C) "word" = some none) (nA : PySem.W.findIn K (.ref C) "at" = some none) (F : Fun K "__init__" "NoPaper.__init__" sIn f fd) :
    FnOk P w K mg base CX0 (k + 1) f fd ["self", "word", "at"] (spIn K C) := by
  refine F.ok scIn (fun vs H Q E h => ?_) (fun cdv A outer s H vs Q E hr h => ?_)
  · obtain ⟨a, x, y, rfl, _⟩ := h
    rfl
  · obtain ⟨a, x, y, rfl, ea, q⟩ := h
    refine ⟨_, pss_cons (ps_ost (pv 0) (pv 1)) (pss_one (ps_ost (pv 0) (pv 2))), ?_⟩
    refine ⟨_, rfl, _, rfl, a, C, rfl, T, nW, .inl ⟨ea, fun dx n ne => ?_⟩⟩
    exact ⟨_, rfl, _, rfl, a, C, rfl, T, nA, .inr ⟨dx, _, upd_same, by rw [upd_ne ne]; exact upd_same, by show (1 : Nat) ≤ 900; decide, q dx n ne⟩⟩
/-- it leaves with this word and this place -/
def Rs (C : Addr) (H : Hp) (E : XK) (z : Str) (i : Int) : Prop := ∀ (H' : Hp) (d : Addr), Same H H' → H d = none → H' d = some (.xd [("at", .int i), ("word", .str z)]) → E (.ref C) (some d) H'
theorem Rs.same {C : Addr} {H H1 : Hp} {E : XK} {z : Str} {i : Int} (r : Rs C H E z i) (s : Same H H1) : Rs C H1 E z i := fun H' d s' n e => r H' d (s.trans s') (s.free n) e
theorem made {C a : Addr} {H : Hp} {W : XK} {z : Str} {i : Int} (na : H a = none) (r : Rs C H W z i) :
    spIn K C [.ref a, .str z, .int i] (upd H a (exo a C none)) (fun v H2 => v = .non ∧ ∃ (d : Addr) (fs : List (Str × V)), H2 a = some (exo a C (some d)) ∧ H2 d = some (exd d fs) ∧ H d = none ∧ W (.ref C) (some d) (upd (del H2 a) d (.xd fs))) (fun _ _ _ => False) := by
  refine ⟨a, _, _, rfl, upd_same, fun dx n ne => ⟨rfl, dx, _, ?_, upd_same, ?_, ?_⟩⟩
  · rw [upd_ne (Ne.symm ne), upd_same]
  · rw [upd_ne ne] at n
    exact n
  · rw [upd_ne ne] at n
    refine r _ dx (fun b o e => ?_) n upd_same
    have n1 : b ≠ dx := ne_of_none e n
    have n2 : b ≠ a := ne_of_none e na
    rw [upd_ne n1, del_ne n2, upd_ne n1, upd_ne n2, upd_ne n1, upd_ne n2]
    exact e
/-! ### look_at_cuts -/
def badC (ls ps : List Int) (i : Nat) : Bool := decide (ps.getD i 0 ≠ ls.getD i 0 ∧ ps.getD i 0 ≠ ls.getD i 0 + 1)
def spLc (K : PySem.W.Frag) (C : Addr) : Sp := fun vs H Q E => ∃ (a b : Addr) (ls ps : List Int), vs = [.ref a, .ref b] ∧ SqT K H a (ls.map V.int) ∧ SqT K H b (ps.map V.int) ∧ ls.length = ps.length ∧ ps.length ≤ 100 ∧
  ((∀ i, i < ps.length → badC ls ps i = false) → ∀ H', Same H H' → Q .non H') ∧ (∀ i, i < ps.length → badC ls ps i = true → (∀ j, j < i → badC ls ps j = false) → Rs C H E "cut" i)
theorem gInt {ns : List Int} {i : Nat} (h : i < ns.length) : (ns.map V.int)[i]? = some (.int (ns.getD i 0)) := by
  rw [List.getElem?_map, getD_of h]
  rfl
theorem ok_lc {C f fI : Addr} {fd fdI : FuncData} (F : Fun K "look_at_cuts" "look_at_cuts" sLc f fd)
    (TNp : OexC K C) (iCNp : PySem.W.findIn K (.ref C) "__init__" = some (some (.ref fI))) (tINp : PySem.W.typeIn K (.ref fI) = some (.type "function"))
    (GINp : FnOk P w K mg base CX0 1 fI fdI ["self", "word", "at"] (spIn K C)) (bINp : Binds K fdI ["self", "word", "at"] []) (gNp : mg "NoPaper" = some (.ref C)) (m_enumerate : mg "enumerate" = none) :
    FnOk P w K mg base (L2.CX P w) 3 f fd ["lows", "parts"] (spLc K C) := by
  refine F.okX scLc (fun vs H Q E h => ?_) (fun cdv A outer s H vs Q E hr h => ?_)
  · obtain ⟨a, b, ls, ps, rfl, _⟩ := h
    rfl
  · obtain ⟨a, b, ls, ps, rfl, hA, hB, ln, l100, q, r⟩ := h
    refine ⟨_, (pss_one (ps_for (passes_of rfl) rfl (pi_enumT (by rfl) m_enumerate (pa_cons (pv 1) pa_nil)) (pg_tup rfl (pgs_cons (pg_name (i := 2) scLc.nd rfl (.inl rfl)) (pgs_cons (pg_name (i := 3) scLc.nd rfl (.inl rfl)) pgs_nil))) (pss_one (ps_if (PW.pt (pw_and (pt_cmpR op_ne (pv 3) (pe_ix ix_tup (pv 0) (pv 2) (fun _ _ => rfl)) (nomark _)) (pw_and1 (pt_cmpR op_ne (pv 3) (pe_op op_add (pe_ix ix_tup (pv 0) (pv 2) (fun _ _ => rfl)) pe_int) (nomark _))))) (pss_one (ps_raise rfl (takes_of rfl rfl rfl rfl) (pmk_oex TNp iCNp tINp GINp (hr.mono (by decide)) bINp .nil pass0 (by rfl) gNp (pa_cons pe_str (pa_cons (pv 2) pa_nil))))) pss_nil)))), ?_⟩
    refine ⟨_, rfl, b, _, rfl, hB, ?_⟩
    refine for_it (walk_ET (xs := ps.map V.int)) (fun i σ H1 => ∃ y2 y3, σ = [some (.ref a), some (.ref b), y2, y3] ∧ Same H H1 ∧ ∀ j, j < i → badC ls ps j = false) ⟨_, _, rfl, Same.refl _, fun j hj => absurd hj (Nat.not_lt_zero _)⟩ ?_ ?_ ?_
    · rintro i σ H1 _ ⟨y2, y3, rfl, sm, _⟩
      exact TB.Same.tup sm hB
    · rintro i x σ H1 H2 hi ⟨y2, y3, rfl, sm, al⟩ ⟨T, u, v, rfl, nT, rfl, hu, hv⟩
      obtain rfl := Option.some.inj hu
      rw [List.length_map] at hi
      obtain rfl := Option.some.inj ((gInt hi).symm.trans hv)
      have sT := same_upd (o := .tup [.int (i : Nat), .int (ps.getD i 0)]) nT
      have s2 := sm.trans sT
      refine ⟨T, _, rfl, .inl (.inl upd_same), rfl, _, _, rfl, _, _, rfl, rfl, ?_⟩
      have hA2 := TB.Same.tup s2 hA
      have gl : atI (ls.map V.int) (i : Int) = some (.int (ls.getD i 0)) := atI_nat (gInt (by omega))
      have step : badC ls ps i = false → ∀ j, j < i + 1 → badC ls ps j = false := fun z j hj => by
        by_cases c : j < i
        · exact al j c
        · obtain rfl : j = i := by omega
          exact z
      refine ⟨_, rfl, _, rfl, _, rfl, a, _, _, _, rfl, rfl, hA2, gl, rfl, _, rfl, ?_⟩
      change ite _ _ _
      refine ite2 (fun c => ?_) (fun c => ?_)
      · refine ⟨_, rfl, _, rfl, _, rfl, a, _, _, _, rfl, rfl, hA2, gl, _, _, rfl, rfl, rfl, _, rfl, ?_⟩
        change ite _ _ _
        have n1 : ps.getD i 0 ≠ ls.getD i 0 := fun z => by
          rw [z, decide_eq_true rfl] at c
          cases c
        refine ite2 (fun c2 => ?_) (fun c2 => ?_)
        · have n2 : ps.getD i 0 ≠ ls.getD i 0 + 1 := fun z => by
            rw [z, decide_eq_true rfl] at c2
            cases c2
          refine ⟨_, rfl, by show (2 : Nat) ≤ 1000; decide, fun e ne => ?_⟩
          exact made ne ((r i hi (decide_eq_true ⟨n1, n2⟩) al).same s2)
        · refine ⟨_, _, rfl, s2, step (decide_eq_false fun z => z.2 ?_)⟩
          refine V.int.inj (Decidable.byContradiction fun y => c2 ?_)
          rw [decide_eq_false y]
          rfl
      · refine iteF ⟨_, _, rfl, s2, step (decide_eq_false fun z => z.1 ?_)⟩
        refine V.int.inj (Decidable.byContradiction fun y => c ?_)
        rw [decide_eq_false y]
        rfl
    · rintro σ H1 ⟨y2, y3, rfl, sm, al⟩
      rw [List.length_map] at al
      exact q al H1 sm
end
end K11

set_option Elab.async false
set_option linter.all false
set_option maxRecDepth 100000
set_option maxHeartbeats 2000000
namespace K11
open PySem PySem.Spec PyProof.Rows L2 TB K09

theorem scLs : FnScope ["total", "weights", "thing", "at", "part", "whole", "weight"] ["total", "weights", "thing"] (defScope sLs) := ⟨rfl, rfl, rfl, by decide +kernel, rfl, by decide +kernel, by decide +kernel⟩
/-! ### look_at_rests -/
def shorts (ls rs ps : List Int) (n : Nat) : List Int := ((List.range n).filter fun j => decide (ps.getD j 0 = ls.getD j 0)).map fun j => rs.getD j 0
theorem shorts_more (ls rs ps : List Int) (n : Nat) : shorts ls rs ps (n + 1) = shorts ls rs ps n ++ if ps.getD n 0 = ls.getD n 0 then [rs.getD n 0] else [] := by
  unfold shorts
  rw [List.range_succ, List.filter_append, List.map_append]
  congr 1
  by_cases c : ps.getD n 0 = ls.getD n 0
  · rw [if_pos c, List.filter_cons, if_pos (decide_eq_true c)]
    rfl
  · rw [if_neg c, List.filter_cons, if_neg (by rw [decide_eq_false c]; exact Bool.false_ne_true)]
    rfl
theorem shorts_len (ls rs ps : List Int) (n : Nat) : (shorts ls rs ps n).length ≤ n := by
  unfold shorts
  rw [List.length_map]
  exact Nat.le_trans (List.length_filter_le _ _) (by rw [List.length_range]; exact Nat.le_refl _)
def badR (ls rs ps : List Int) (i : Nat) : Bool := decide (ls.getD i 0 < ps.getD i 0) && (shorts ls rs ps ps.length).any fun r => decide (rs.getD i 0 < r)
section
variable {P : Program} {w : World} {K : PySem.W.Frag} {mg : Str → Option Value} {base : Heap}
def spLr (K : PySem.W.Frag) (C : Addr) : Sp := fun vs H Q E => ∃ (a b c : Addr) (ls rs ps : List Int), vs = [.ref a, .ref b, .ref c] ∧ SqT K H a (ls.map V.int) ∧ SqT K H b (rs.map V.int) ∧ SqT K H c (ps.map V.int) ∧ ls.length = ps.length ∧ rs.length = ps.length ∧ ps.length ≤ 100 ∧
  ((∀ i, i < ps.length → badR ls rs ps i = false) → ∀ H', Same H H' → Q .non H') ∧ (∀ i, i < ps.length → badR ls rs ps i = true → (∀ j, j < i → badR ls rs ps j = false) → Rs C H E "rest" i)
theorem ok_lr {C f fI : Addr} {fd fdI : FuncData} (F : Fun K "look_at_rests" "look_at_rests" sLr f fd)
    (TNp : OexC K C) (iCNp : PySem.W.findIn K (.ref C) "__init__" = some (some (.ref fI))) (tINp : PySem.W.typeIn K (.ref fI) = some (.type "function"))
    (GINp : FnOk P w K mg base CX0 1 fI fdI ["self", "word", "at"] (spIn K C)) (bINp : Binds K fdI ["self", "word", "at"] []) (gNp : mg "NoPaper" = some (.ref C)) (m_enumerate : mg "enumerate" = none) (m_zip : mg "zip" = none) (m_any : mg "any" = none) :
    FnOk P w K mg base (L2.CX P w) 3 f fd ["lows", "left", "parts"] (spLr K C) := by
  refine F.okX scLr (fun vs H Q E h => ?_) (fun cdv A outer s H vs Q E hr h => ?_)
  · obtain ⟨a, b, c, ls, rs, ps, rfl, _⟩ := h
    rfl
  · obtain ⟨a, b, c, ls, rs, ps, rfl, hA, hB, hC, ll, rl, l100, q, r⟩ := h
    refine ⟨_, (pss_cons (ps_setLc (i := 3) (own := [("low", 6), ("rest", 7), ("part", 5)]) (g := gTup K 3 (gCons (gName 6) (gCons (gName 7) (gCons (gName 5) gNil)))) rfl scLr.nd rfl rfl (sw_true rfl rfl rfl (by decide +kernel)) (pi_zip3 (by rfl) m_zip (pa_cons (pv 0) (pa_cons (pv 1) (pa_cons (pv 2) pa_nil)))) (blkOk_by (own := [("low", 6), ("rest", 7), ("part", 5)]) (N := ["lows", "left", "parts", "short", "at", "part", "low", "rest"]) (sc := defScope sLr) (by decide +kernel)) (fun _ _ _ _ _ => (pg_tup rfl (pgs_cons (pg_name (i := 6) scLr.nd rfl (.inl rfl)) (pgs_cons (pg_name (i := 7) scLr.nd rfl (.inl rfl)) (pgs_cons (pg_name (i := 5) scLr.nd rfl (.inl rfl)) pgs_nil))))) (fun _ _ _ _ _ => (pts_one (pt_cmpR op_eq (pv 5) (pv 6) (nomark _)))) (fun _ _ _ _ _ => (pv 7)))
      (pss_one (ps_for (passes_of rfl) rfl (pi_enumT (by rfl) m_enumerate (pa_cons (pv 2) pa_nil)) (pg_tup rfl (pgs_cons (pg_name (i := 4) scLr.nd rfl (.inr rfl)) (pgs_cons (pg_name (i := 5) scLr.nd rfl (.inl rfl)) pgs_nil))) (pss_one (ps_if (PW.pt (pw_and (pt_cmpR op_gt (pv 5) (pe_ix ix_tup (pv 0) (pv 4) (fun _ _ => rfl)) (nomark _)) (pw_and1 (pt_val (pe_callB (cr_any rfl) (by rfl) m_any (by decide +kernel) (pa_cons (pe_lc (own := [("rest", 7)]) (g := gName 7) (tt := tYes) (te := tOp (rI0 fun i j => .bl (decide (j < i))) (tVar 7) (tOp (rIxT K) (tVar 1) (tVar 4))) rfl scLr.nd (pi_list (pv 3)) (blkOk_by (own := [("rest", 7)]) (N := ["lows", "left", "parts", "short", "at", "part", "low", "rest"]) (sc := defScope sLr) (by decide +kernel)) (fun _ _ _ _ _ => (pg_name (i := 7) scLr.nd rfl (.inl rfl))) (fun _ _ _ _ _ => pts_nil) (fun _ _ _ _ _ => (pe_cmpR op_gt (pv 7) (pe_ix ix_tup (pv 1) (pv 4) (fun _ _ => rfl)) (nomark _)))) pa_nil)))))) (pss_one (ps_raise rfl (takes_of rfl rfl rfl rfl) (pmk_oex TNp iCNp tINp GINp (hr.mono (by decide)) bINp .nil pass0 (by rfl) gNp (pa_cons pe_str (pa_cons (pv 4) pa_nil))))) pss_nil))))), ?_⟩
    refine ⟨_, rfl, _, rfl, _, rfl, a, b, c, _, _, _, rfl, ⟨hA, hB, hC⟩, fun D nD => ?_⟩
    refine lc_it (walk_3 (xs := ls.map V.int) (ys := rs.map V.int) (zs := ps.map V.int) (n := ps.length) (by rw [List.length_map, List.length_map, List.length_map]; omega)) (fun i H1 => Same H H1 ∧ H1 D = some (.lst ((shorts ls rs ps i).map V.int))) ⟨same_upd nD, upd_same⟩ ?_ ?_ ?_
    · rintro i H1 _ ⟨sm, _⟩
      exact ⟨TB.Same.tup sm hA, TB.Same.tup sm hB, TB.Same.tup sm hC⟩
    · rintro i x H1 H2 hi ⟨sm, eD⟩ ⟨T, u, v, z, rfl, nT, rfl, hu, hv, hz⟩
      obtain rfl := Option.some.inj ((gInt (by omega)).symm.trans hu)
      obtain rfl := Option.some.inj ((gInt (by omega)).symm.trans hv)
      obtain rfl := Option.some.inj ((gInt hi).symm.trans hz)
      have sT := same_upd (o := .tup [.int (ls.getD i 0), .int (rs.getD i 0), .int (ps.getD i 0)]) nT
      refine ⟨T, _, rfl, .inl (.inl upd_same), rfl, _, _, rfl, _, _, rfl, _, _, rfl, rfl, rfl, ?_⟩
      refine ⟨_, rfl, _, rfl, rfl, _, rfl, ite2 (fun c => ?_) (fun c => ?_)⟩
      · have c' : ps.getD i 0 = ls.getD i 0 := V.int.inj (of_decide_eq_true c)
        refine ⟨_, rfl, _, sT _ _ eD, ?_, same_new nD (sm.trans sT), ?_⟩
        · rw [List.length_map]
          have := shorts_len ls rs ps i
          exact small1000 (by omega)
        · rw [upd_same, shorts_more, if_pos c', List.map_append]
          rfl
      · have c' : ¬ ps.getD i 0 = ls.getD i 0 := fun z => c (decide_eq_true (by rw [z]))
        refine ⟨sm.trans sT, ?_⟩
        rw [shorts_more, if_neg c', List.append_nil]
        exact sT _ _ eD
    rintro H1 ⟨s1, eD⟩
    have sl := shorts_len ls rs ps ps.length
    refine ⟨_, rfl, c, _, rfl, TB.Same.tup s1 hC, ?_⟩
    refine for_it (walk_ET (xs := ps.map V.int)) (fun i σ H2 => ∃ y4 y5, σ = [some (.ref a), some (.ref b), some (.ref c), some (.ref D), y4, y5, none, none] ∧ Same H1 H2 ∧ ∀ j, j < i → badR ls rs ps j = false) ⟨_, _, rfl, Same.refl _, fun j hj => absurd hj (Nat.not_lt_zero _)⟩ ?_ ?_ ?_
    · rintro i σ H2 _ ⟨y4, y5, rfl, sm, _⟩
      exact TB.Same.tup (s1.trans sm) hC
    · rintro i x σ H2 H3 hi ⟨y4, y5, rfl, sm, al⟩ ⟨T, u, v, rfl, nT, rfl, hu, hv⟩
      obtain rfl := Option.some.inj hu
      rw [List.length_map] at hi
      obtain rfl := Option.some.inj ((gInt hi).symm.trans hv)
      have sT := same_upd (o := .tup [.int (i : Nat), .int (ps.getD i 0)]) nT
      have s3 := sm.trans sT
      refine ⟨T, _, rfl, .inl (.inl upd_same), rfl, _, _, rfl, _, _, rfl, rfl, ?_⟩
      have gl : atI (ls.map V.int) (i : Int) = some (.int (ls.getD i 0)) := atI_nat (gInt (by omega))
      have gr : atI (rs.map V.int) (i : Int) = some (.int (rs.getD i 0)) := atI_nat (gInt (by omega))
      have step : badR ls rs ps i = false → ∀ j, j < i + 1 → badR ls rs ps j = false := fun z j hj => by
        by_cases c : j < i
        · exact al j c
        · obtain rfl : j = i := by omega
          exact z
      refine ⟨_, rfl, _, rfl, _, rfl, a, _, _, _, rfl, rfl, TB.Same.tup (s1.trans s3) hA, gl, _, _, rfl, rfl, _, rfl, ?_⟩
      change ite _ _ _
      refine ite2 (fun c => ?_) (fun c => ?_)
      · have c1 : ls.getD i 0 < ps.getD i 0 := of_decide_eq_true c
        refine ⟨_, rfl, D, rfl, ⟨_, .inl (.inl (s3 _ _ eD))⟩, fun D2 nD2 => ?_⟩
        refine lc_list (xs := (shorts ls rs ps ps.length).map V.int) (fun j H4 => Same (upd H2 T (.tup [.int (i : Nat), .int (ps.getD i 0)])) H4 ∧ H4 D2 = some (.lst ((((shorts ls rs ps ps.length).take j).map fun r => decide (rs.getD i 0 < r)).map V.bl))) ⟨same_upd nD2, upd_same⟩ ?_ ?_ ?_
        · rintro j H4 _ ⟨s4, _⟩
          exact .inl (.inl (s4 _ _ (s3 _ _ eD)))
        · rintro j x H4 hx ⟨s4, eD2⟩
          obtain ⟨r0, hr0, rfl⟩ := map_int hx
          refine ⟨rfl, yes (iteT ?_)⟩
          refine ⟨_, rfl, _, rfl, _, rfl, b, _, _, _, rfl, rfl, TB.Same.tup (s1.trans (s3.trans s4)) hB, gr, _, _, rfl, rfl, _, eD2, ?_, same_new nD2 s4, ?_⟩
          · rw [List.length_map, List.length_map]
            have := List.length_take_le' j (shorts ls rs ps ps.length)
            exact small1000 (by omega)
          · rw [upd_same, map_take_more hr0, List.map_append]
            rfl
        rintro H4 ⟨s4, eD2⟩
        rw [List.length_map, List.take_length] at eD2
        refine ⟨D2, _, rfl, .inl (.inl eD2), _, rfl, ?_⟩
        change ite _ _ _
        rw [List.any_map]
        have s5 := s1.trans (s3.trans s4)
        refine ite2 (fun c2 => ?_) (fun c2 => ?_)
        · refine ⟨_, rfl, by show (2 : Nat) ≤ 1000; decide, fun e ne => ?_⟩
          refine made ne ((r i hi ?_ al).same s5)
          unfold badR
          rw [decide_eq_true c1, Bool.true_and]
          exact c2
        · refine ⟨_, _, rfl, s3.trans s4, step ?_⟩
          unfold badR
          rw [decide_eq_true c1, Bool.true_and]
          cases e : (shorts ls rs ps ps.length).any fun r => decide (rs.getD i 0 < r) with
          | false => rfl
          | true => exact absurd e c2
      · refine iteF ⟨_, _, rfl, s3, step ?_⟩
        unfold badR
        rw [decide_eq_false fun z => c (decide_eq_true z), Bool.false_and]
    · rintro σ H2 ⟨y4, y5, rfl, sm, al⟩
      rw [List.length_map] at al
      exact q al H2 (s1.trans sm)
/-! ### lets_split -/
def ab (x : Int) : Int := if x < 0 then -x else x
def offL (t : Int) (ws ps : List Int) (W : Int) (n : Nat) : List Int := (List.range n).map fun i => ab (ps.getD i 0 * W - t * ws.getD i 0)
def off (t : Int) (ws ps : List Int) : Int := (offL t ws ps ws.sum ws.length).sum
def passes (t : Int) (ws ps : List Int) : Prop := (∀ i, i < ps.length → badC (lows t ws) ps i = false) ∧ ∀ i, i < ps.length → badR (lows t ws) (rsts t ws) ps i = false
def spLs (K : PySem.W.Frag) (C : Addr) : Sp := fun vs H Q E => ∃ (a : Addr) (v : V) (t : Int) (ws : List Int) (d : PyData), vs = [.int t, .ref a, v] ∧ SqT K H a (ws.map V.int) ∧ OkW t ws ∧ Dp K H v d ∧
  (isTup ws.length d = false → Rs C H E "shape" (-1)) ∧
  (∀ ds i dd, d = .tuple ds → ds.length = ws.length → ds[i]? = some dd → isNum dd = false → (∀ (j : Nat) (dj : PyData), j < i → ds[j]? = some dj → isNum dj = true) → Rs C H E "number" i) ∧
  (∀ ps, d = .tuple (dInts ps) → ps.length = ws.length →
    (ps.sum ≠ t → Rs C H E "sum" (-1)) ∧
    (ps.sum = t → (∀ i : Nat, i < ps.length → badC (lows t ws) ps i = true → (∀ j, j < i → badC (lows t ws) ps j = false) → Rs C H E "cut" i) ∧
      ((∀ i, i < ps.length → badC (lows t ws) ps i = false) → ∀ i : Nat, i < ps.length → badR (lows t ws) (rsts t ws) ps i = true → (∀ j, j < i → badR (lows t ws) (rsts t ws) ps j = false) → Rs C H E "rest" i) ∧
      (passes t ws ps → ∀ H', Same H H' → Q (.int (off t ws ps)) H')))
theorem nums_ints : ∀ {ds : List PyData}, (∀ d ∈ ds, isNum d = true) → ∃ ns : List Int, ds = dInts ns
  | [], _ => ⟨[], rfl⟩
  | d :: ds, h => by
    obtain ⟨ns, rfl⟩ := nums_ints fun x hx => h x (List.mem_cons_of_mem _ hx)
    have hd := h d List.mem_cons_self
    cases d with
    | int i => exact ⟨i :: ns, rfl⟩
    | _ => exact nomatch (show false = true from hd)
theorem ints_at {H : Hp} {ns : List Int} : ∀ {xs : List V}, DpAll K H xs (dInts ns) → xs = ns.map V.int := by
  induction ns with
  | nil => intro xs h; exact DpAll.nil_inv h
  | cons n ns ih =>
    intro xs h
    obtain ⟨x, r, rfl, h1, t⟩ := DpAll.cons_inv h
    rw [Dp.int_inv h1, ih t]
    rfl
theorem ok_ls {C f fI fTu fN fC fR fLc fLr : Addr} {fd fdI fdTu fdN fdC fdR fdLc fdLr : FuncData} (F : Fun K "lets_split" "lets_split" sLs f fd)
    (TNp : OexC K C) (iCNp : PySem.W.findIn K (.ref C) "__init__" = some (some (.ref fI))) (tINp : PySem.W.typeIn K (.ref fI) = some (.type "function"))
    (GINp : FnOk P w K mg base CX0 1 fI fdI ["self", "word", "at"] (spIn K C)) (bINp : Binds K fdI ["self", "word", "at"] []) (gNp : mg "NoPaper" = some (.ref C))
    (GTu : FnOk P w K mg base CX0 1 fTu fdTu ["thing", "many"] (spTup K isTup)) (kTu : PySem.W.keepIn K (.ref fTu) = true) (bTu : Binds K fdTu ["thing", "many"] []) (gTu : mg "is_tuple_of" = some (.ref fTu))
    (GN : FnOk P w K mg base CX0 1 fN fdN ["thing"] (spKind K isNum)) (kN : PySem.W.keepIn K (.ref fN) = true) (bN : Binds K fdN ["thing"] []) (gN : mg "is_number" = some (.ref fN))
    (GC : FnOk P w K mg base CX0 1 fC fdC ["total", "weights"] (spL K lows)) (kC : PySem.W.keepIn K (.ref fC) = true) (bC : Binds K fdC ["total", "weights"] []) (gC : mg "cuts" = some (.ref fC))
    (GR : FnOk P w K mg base CX0 2 fR fdR ["total", "weights"] (spL K rsts)) (kR : PySem.W.keepIn K (.ref fR) = true) (bR : Binds K fdR ["total", "weights"] []) (gR : mg "rests" = some (.ref fR))
    (GLc : FnOk P w K mg base (L2.CX P w) 3 fLc fdLc ["lows", "parts"] (spLc K C)) (kLc : PySem.W.keepIn K (.ref fLc) = true) (bLc : Binds K fdLc ["lows", "parts"] []) (gLc : mg "look_at_cuts" = some (.ref fLc))
    (GLr : FnOk P w K mg base (L2.CX P w) 3 fLr fdLr ["lows", "left", "parts"] (spLr K C)) (kLr : PySem.W.keepIn K (.ref fLr) = true) (bLr : Binds K fdLr ["lows", "left", "parts"] []) (gLr : mg "look_at_rests" = some (.ref fLr))
    (m_len : mg "len" = none) (m_enumerate : mg "enumerate" = none) (m_sum : mg "sum" = none) (m_zip : mg "zip" = none) (m_abs : mg "abs" = none) :
    FnOk P w K mg base (L2.CX P w) 4 f fd ["total", "weights", "thing"] (spLs K C) := by
  refine F.okX scLs (fun vs H Q E h => ?_) (fun cdv A outer s H vs Q E hr h => ?_)
  · obtain ⟨a, v, t, ws, d, rfl, _⟩ := h
    rfl
  · obtain ⟨a, v, t, ws, d, rfl, hA, ok, hd, rShape, rNum, rest⟩ := h
    refine ⟨_, (pss_cons (ps_if (pt_not (pt_val (pe_call GTu (hr.mono (by decide)) (by rfl) gTu kTu bTu .nil pass0 (pa_cons (pv 2) (pa_cons (pe_callB call_len_seq (by rfl) m_len (by decide +kernel) (pa_cons (pv 1) pa_nil)) pa_nil))))) (pss_one (ps_raise rfl (takes_of rfl rfl rfl rfl) (pmk_oex TNp iCNp tINp GINp (hr.mono (by decide)) bINp .nil pass0 (by rfl) gNp (pa_cons pe_str (pa_cons (pe_un un_neg pe_int) pa_nil))))) pss_nil)
      (pss_cons (ps_for (passes_of rfl) rfl (pi_enumT (by rfl) m_enumerate (pa_cons (pv 2) pa_nil)) (pg_tup rfl (pgs_cons (pg_name (i := 3) scLs.nd rfl (.inl rfl)) (pgs_cons (pg_name (i := 4) scLs.nd rfl (.inl rfl)) pgs_nil))) (pss_one (ps_if (pt_not (pt_val (pe_call GN (hr.mono (by decide)) (by rfl) gN kN bN .nil pass0 (pa_cons (pv 4) pa_nil)))) (pss_one (ps_raise rfl (takes_of rfl rfl rfl rfl) (pmk_oex TNp iCNp tINp GINp (hr.mono (by decide)) bINp .nil pass0 (by rfl) gNp (pa_cons pe_str (pa_cons (pv 3) pa_nil))))) pss_nil)))
      (pss_cons (ps_if (pt_cmpR op_ne (pe_callB (call_sumT rfl) (by rfl) m_sum (by decide +kernel) (pa_cons (pv 2) pa_nil)) (pv 0) (nomark _)) (pss_one (ps_raise rfl (takes_of rfl rfl rfl rfl) (pmk_oex TNp iCNp tINp GINp (hr.mono (by decide)) bINp .nil pass0 (by rfl) gNp (pa_cons pe_str (pa_cons (pe_un un_neg pe_int) pa_nil))))) pss_nil)
      (pss_cons (ps_expr (pe_call GLc (hr.mono (by decide)) (by rfl) gLc kLc bLc .nil (passes_call (takes_of rfl rfl rfl rfl) (fun _ _ _ _ h => h)) (pa_cons (pe_call GC (hr.mono (by decide)) (by rfl) gC kC bC .nil pass0 (pa_cons (pv 0) (pa_cons (pv 1) pa_nil))) (pa_cons (pv 2) pa_nil))))
      (pss_cons (ps_expr (pe_call GLr (hr.mono (by decide)) (by rfl) gLr kLr bLr .nil (passes_call (takes_of rfl rfl rfl rfl) (fun _ _ _ _ h => h)) (pa_cons (pe_call GC (hr.mono (by decide)) (by rfl) gC kC bC .nil pass0 (pa_cons (pv 0) (pa_cons (pv 1) pa_nil))) (pa_cons (pe_call GR (hr.mono (by decide)) (by rfl) gR kR bR .nil pass0 (pa_cons (pv 0) (pa_cons (pv 1) pa_nil))) (pa_cons (pv 2) pa_nil)))))
      (pss_cons (ps_set (i := 5) scLs.nd rfl (.inr rfl) (pe_callB (call_sumT rfl) (by rfl) m_sum (by decide +kernel) (pa_cons (pv 1) pa_nil)))
      (pss_one (ps_ret (pe_callB (cr_sum rfl) (by rfl) m_sum (by decide +kernel) (pa_cons (pe_lc (own := [("weight", 6), ("part", 4)]) (g := gTup K 2 (gCons (gName 6) (gCons (gName 4) gNil))) (tt := tYes) rfl scLs.nd (RZ.pi_zipA (by rfl) m_zip (pa_cons (pv 1) (pa_cons (pv 2) pa_nil))) (blkOk_by (own := [("weight", 6), ("part", 4)]) (N := ["total", "weights", "thing", "at", "part", "whole", "weight"]) (sc := defScope sLs) (by decide +kernel)) (fun _ _ _ _ _ => (pg_tup rfl (pgs_cons (pg_name (i := 6) scLs.nd rfl (.inl rfl)) (pgs_cons (pg_name (i := 4) scLs.nd rfl (.inl rfl)) pgs_nil)))) (fun _ _ _ _ _ => pts_nil) (fun _ _ _ _ _ => (pe_callB call_abs (by rfl) m_abs (by decide +kernel) (pa_cons (pe_op op_sub (pe_op op_mul (pv 4) (pv 5)) (pe_op op_mul (pv 0) (pv 6))) pa_nil)))) pa_nil)))))))))), ?_⟩
    have n1 := ok.n1
    refine ⟨_, rfl, _, rfl, a, _, rfl, .inr hA, v, d, ((ws.map V.int).length : Int), rfl, by rw [List.length_map]; omega, hd, fun H1 s1 => ⟨_, rfl, ?_⟩⟩
    rw [List.length_map]
    change ite _ _ _
    refine ite2 (fun c => ?_) (fun c => ?_)
    · refine ⟨1, rfl, by show (2 : Nat) ≤ 1000; decide, fun e ne => ?_⟩
      refine made ne ((rShape ?_).same s1)
      cases z : isTup ws.length d with
      | false => rfl
      | true => rw [z] at c; cases c
    have tp : isTup ws.length d = true := by
      cases z : isTup ws.length d with
      | true => rfl
      | false => rw [z] at c; exact absurd rfl c
    cases d with
    | tuple ds =>
      have dl : ds.length = ws.length := by
        have : (ds.length : Int) = ws.length := of_decide_eq_true tp
        omega
      obtain ⟨p, xs, rfl, hp, dp⟩ := Dp.tup_inv hd
      have xl := DpAll.len dp
      have hp1 := TB.Same.tup s1 hp
      -- numbers
      refine ⟨_, rfl, p, _, rfl, hp1, ?_⟩
      refine for_it (walk_ET (xs := xs)) (fun i σ H2 => ∃ y3 y4, σ = [some (.int t), some (.ref a), some (.ref p), y3, y4, none, none] ∧ Same H1 H2 ∧ ∀ (j : Nat) (dj : PyData), j < i → ds[j]? = some dj → isNum dj = true) ⟨_, _, rfl, Same.refl _, fun j dj hj => absurd hj (Nat.not_lt_zero _)⟩ ?_ ?_ ?_
      · rintro i σ H2 _ ⟨y3, y4, rfl, sm, _⟩
        exact TB.Same.tup sm hp1
      · rintro i x σ H2 H3 hi ⟨y3, y4, rfl, sm, al⟩ ⟨T, u, v, rfl, nT, rfl, hu, hv⟩
        obtain rfl := Option.some.inj hu
        obtain ⟨di, hdi, dv⟩ := DpAll.get dp hv
        have sT := same_upd (o := .tup [.int (i : Nat), v]) nT
        have s3 := s1.trans (sm.trans sT)
        refine ⟨T, _, rfl, .inl (.inl upd_same), rfl, _, _, rfl, _, _, rfl, rfl, ?_⟩
        refine ⟨_, rfl, v, di, rfl, Dp.same s3 _ _ dv, fun H4 s4 => ⟨_, rfl, ?_⟩⟩
        change ite _ _ _
        refine ite2 (fun c2 => ?_) (fun c2 => ?_)
        · refine ⟨_, rfl, by show (2 : Nat) ≤ 1000; decide, fun e ne => ?_⟩
          refine made ne ((rNum ds i di rfl dl hdi ?_ al).same (s3.trans s4))
          cases z : isNum di with
          | false => rfl
          | true => rw [z] at c2; cases c2
        · refine ⟨_, _, rfl, (sm.trans sT).trans s4, fun j dj hj hdj => ?_⟩
          by_cases c3 : j < i
          · exact al j dj c3 hdj
          · obtain rfl : j = i := by omega
            obtain rfl := Option.some.inj (hdi.symm.trans hdj)
            cases z : isNum di with
            | true => rfl
            | false => rw [z] at c2; exact absurd rfl c2
      rintro σ H2 ⟨y3, y4, rfl, s2, al⟩
      obtain ⟨ps, rfl⟩ := nums_ints (ds := ds) fun d hd => by
        obtain ⟨j, hj⟩ := List.mem_iff_getElem?.mp hd
        exact al j d (by have := (List.getElem?_eq_some_iff.mp hj).1; omega) hj
      obtain rfl := ints_at dp
      have pl : ps.length = ws.length := by
        unfold dInts at dl
        rw [List.length_map] at dl
        exact dl
      obtain ⟨rSum, rGo⟩ := rest ps rfl pl
      have s02 := s1.trans s2
      have hp2 := TB.Same.tup s2 hp1
      refine ⟨_, rfl, p, ps, rfl, hp2, _, rfl, rfl, _, rfl, ?_⟩
      change ite _ _ _
      refine ite2 (fun c2 => ?_) (fun c2 => ?_)
      · refine ⟨1, rfl, by show (2 : Nat) ≤ 1000; decide, fun e ne => ?_⟩
        refine made ne ((rSum fun z => ?_).same s02)
        rw [z, decide_eq_true rfl] at c2
        cases c2
      have es : ps.sum = t := by
        refine V.int.inj (Decidable.byContradiction fun y => c2 ?_)
        rw [decide_eq_false y]
        rfl
      obtain ⟨rCut, rRest, q⟩ := rGo es
      have ll := lows_len t ws
      have rl := rsts_len t ws
      -- cuts
      refine ⟨_, rfl, _, rfl, a, t, ws, rfl, TB.Same.tup s02 hA, ok, fun H3 x s3 nx ex => ?_⟩
      have s03 := s02.trans s3
      refine ⟨_, rfl, x, p, lows t ws, ps, rfl, .inl (.inl ex), TB.Same.tup s3 hp2, by omega, by omega, fun allC H4 s4 => ?_, fun i hi hb hj => (rCut i hi hb hj).same s03⟩
      have s04 := s03.trans s4
      -- rests
      refine ⟨_, rfl, _, rfl, a, t, ws, rfl, TB.Same.tup s04 hA, ok, fun H5 y s5 ny ey => ?_⟩
      have s05 := s04.trans s5
      refine ⟨_, rfl, _, rfl, a, t, ws, rfl, TB.Same.tup s05 hA, ok, fun H6 z s6 nz ez => ?_⟩
      have s06 := s05.trans s6
      refine ⟨_, rfl, y, z, p, lows t ws, rsts t ws, ps, rfl, .inl (.inl (s6 _ _ ey)), .inl (.inl ez), TB.Same.tup ((s3.trans s4).trans (s5.trans s6)) hp2, by omega, by omega, by omega, fun allR H7 s7 => ?_, fun i hi hb hj => (rRest allC i hi hb hj).same s06⟩
      have s07 := s06.trans s7
      -- off
      refine ⟨_, rfl, a, ws, rfl, TB.Same.tup s07 hA, ?_⟩
      have hA7 := TB.Same.tup s07 hA
      have hp7 : SqT K H7 p (ps.map V.int) := TB.Same.tup (((s3.trans s4).trans (s5.trans s6)).trans s7) hp2
      refine ⟨_, rfl, _, rfl, a, p, _, _, rfl, .inr ⟨hA7, hp7, fun D nD => ?_⟩⟩
      refine lc_it (walk_zT (xs := ws.map V.int) (ys := ps.map V.int) (n := ws.length) (by rw [List.length_map, List.length_map]; omega)) (fun i H8 => Same H7 H8 ∧ H8 D = some (.lst ((offL t ws ps ws.sum i).map V.int))) ⟨same_upd nD, upd_same⟩ ?_ ?_ ?_
      · rintro i H8 _ ⟨sm, _⟩
        exact ⟨TB.Same.tup sm hA7, TB.Same.tup sm hp7⟩
      · rintro i x H8 H9 hi ⟨sm, eD⟩ ⟨T, u, v, rfl, nT, rfl, hu, hv⟩
        obtain rfl := Option.some.inj ((gInt hi).symm.trans hu)
        obtain rfl := Option.some.inj ((gInt (by omega)).symm.trans hv)
        have sT := same_upd (o := .tup [.int (ws.getD i 0), .int (ps.getD i 0)]) nT
        have sw := sum_ok ok
        refine ⟨T, _, rfl, .inl (.inl upd_same), rfl, _, _, rfl, _, _, rfl, rfl, rfl, yes (iteT ?_)⟩
        refine ⟨_, rfl, _, rfl, _, _, rfl, rfl, .inr ⟨by omega, by omega⟩, _, rfl, _, rfl, _, _, rfl, rfl, .inl (mul_ok (w := 0) ok), _, _, rfl, rfl, _, rfl, ?_⟩
        refine ⟨_, sT _ _ eD, ?_, same_new nD (sm.trans sT), ?_⟩
        · rw [List.length_map]
          unfold offL
          rw [List.length_map, List.length_range]
          exact small1000 (by omega)
        · rw [upd_same]
          unfold offL
          rw [List.range_succ, List.map_append, List.map_append]
          rfl
      · rintro H8 ⟨sm, eD⟩
        exact ⟨D, _, rfl, .inl (.inl eD), q ⟨allC, allR⟩ H8 (s07.trans sm)⟩
    | _ => exact nomatch (show false = true from tp)
end
end K11

set_option Elab.async false
set_option linter.all false
set_option maxRecDepth 100000
set_option maxHeartbeats 1000000
namespace K11
open PySem PySem.Spec PyProof.Rows L2 TB K09

/-! ### sums by place -/
def sumN (n : Nat) (f : Nat → Int) : Int := ((List.range n).map f).sum
theorem sumN_succ (n : Nat) (f : Nat → Int) : sumN (n + 1) f = sumN n f + f n := by
  unfold sumN
  rw [List.range_succ, List.map_append, List.sum_append]
  simp
theorem sumN_le {n : Nat} {f g : Nat → Int} (h : ∀ i, i < n → f i ≤ g i) : sumN n f ≤ sumN n g := by
  induction n with
  | zero => exact Int.le_refl _
  | succ n ih =>
    rw [sumN_succ, sumN_succ]
    have := ih fun i hi => h i (by omega)
    have := h n (by omega)
    omega
theorem sumN_eq {n : Nat} {f g : Nat → Int} (h : ∀ i, i < n → f i ≤ g i) (e : sumN n g ≤ sumN n f) : ∀ i, i < n → f i = g i := by
  induction n with
  | zero => intro i hi; omega
  | succ n ih =>
    rw [sumN_succ, sumN_succ] at e
    have a := sumN_le fun i hi => h i (Nat.lt_succ_of_lt hi)
    have b := h n (by omega)
    intro i hi
    by_cases c : i = n
    · subst c
      omega
    · exact ih (fun i hi => h i (by omega)) (by omega) i (by omega)
theorem sumN_add (n : Nat) (f g : Nat → Int) : sumN n (fun i => f i + g i) = sumN n f + sumN n g := by
  induction n with
  | zero => rfl
  | succ n ih =>
    rw [sumN_succ, sumN_succ, sumN_succ, ih]
    omega
theorem sumN_sub (n : Nat) (f g : Nat → Int) : sumN n (fun i => f i - g i) = sumN n f - sumN n g := by
  induction n with
  | zero => rfl
  | succ n ih =>
    rw [sumN_succ, sumN_succ, sumN_succ, ih]
    omega
theorem sumN_mul (n : Nat) (k : Int) (f : Nat → Int) : sumN n (fun i => k * f i) = k * sumN n f := by
  induction n with
  | zero => show (0 : Int) = k * 0; rw [Int.mul_zero]
  | succ n ih => rw [sumN_succ, sumN_succ, ih, Int.mul_add]
theorem sumN_congr {n : Nat} {f g : Nat → Int} (h : ∀ i, i < n → f i = g i) : sumN n f = sumN n g :=
  Int.le_antisymm (sumN_le fun i hi => by rw [h i hi]; exact Int.le_refl _) (sumN_le fun i hi => by rw [h i hi]; exact Int.le_refl _)
theorem sumN_list (ps : List Int) : sumN ps.length (fun i => ps.getD i 0) = ps.sum := by
  unfold sumN
  congr 1
  refine List.ext_getElem? fun i => ?_
  by_cases h : i < ps.length
  · rw [List.getElem?_map, List.getElem?_range h, getD_of h]
    rfl
  · rw [List.getElem?_eq_none (by rw [List.length_map, List.length_range]; omega), List.getElem?_eq_none (by omega)]
theorem off_sum (t : Int) (ws ps : List Int) : off t ws ps = sumN ws.length fun i => ab (ps.getD i 0 * ws.sum - t * ws.getD i 0) := rfl
/-! ### one place -/
theorem ab_pos {x : Int} (h : 0 ≤ x) : ab x = x := by
  unfold ab
  rw [if_neg (by omega)]
theorem ab_neg {x : Int} (h : x ≤ 0) : ab x = -x := by
  unfold ab
  by_cases c : x < 0
  · rw [if_pos c]
  · rw [if_neg c]
    omega
/-- W the whole, r a rest, m the price of a penny -/
theorem one_place {W r m y : Int} (r0 : 0 ≤ r) (r1 : r < W) (m0 : -W < m) (m1 : m < W) :
    (r ≤ ab (y * W - r) - m * y ∨ W - r - m ≤ ab (y * W - r) - m * y) ∧
    (ab (y * W - r) - m * y ≤ r → ab (y * W - r) - m * y ≤ W - r - m → (y = 0 ∧ m ≤ W - 2 * r) ∨ (y = 1 ∧ W - 2 * r ≤ m)) := by
  by_cases h : y ≤ -1
  · have e1 : y * W ≤ -1 * W := Int.mul_le_mul_of_nonneg_right h (by omega)
    have e : ab (y * W - r) = r - y * W := by rw [ab_neg (by omega)]; omega
    have k : (-y) * (W + m) ≥ 1 * (W + m) := Int.mul_le_mul_of_nonneg_right (by omega) (by omega)
    have k2 : (-y) * (W + m) = -(y * W) - m * y := by rw [Int.mul_add, Int.neg_mul, Int.neg_mul, Int.mul_comm y m]; omega
    rw [e]
    exact ⟨.inl (by omega), fun a b => by omega⟩
  · by_cases h2 : 2 ≤ y
    · have e1 : 2 * W ≤ y * W := Int.mul_le_mul_of_nonneg_right h2 (by omega)
      have e : ab (y * W - r) = y * W - r := ab_pos (by omega)
      have k : (y - 1) * (W - m) ≥ 1 * (W - m) := Int.mul_le_mul_of_nonneg_right (by omega) (by omega)
      have k2 : (y - 1) * (W - m) = y * W - m * y - W + m := by rw [Int.sub_mul, Int.mul_sub, Int.one_mul, Int.mul_comm y m]; omega
      rw [e]
      exact ⟨.inr (by omega), fun a b => by omega⟩
    · have c : y = 0 ∨ y = 1 := by omega
      rcases c with rfl | rfl
      · have e : ab (0 * W - r) = r := by rw [Int.zero_mul, ab_neg (by omega)]; omega
        rw [e, Int.mul_zero]
        exact ⟨.inl (by omega), fun a b => .inl ⟨rfl, by omega⟩⟩
      · have e : ab (1 * W - r) = W - r := by rw [Int.one_mul]; exact ab_pos (by omega)
        rw [e, Int.mul_one]
        exact ⟨.inr (by omega), fun a b => .inr ⟨rfl, by omega⟩⟩
/-! ### the weights, the cuts, the rests by place -/
theorem getD_map {α : Type} (f : Int → Int) {ws : List Int} {i : Nat} (h : i < ws.length) : (ws.map f).getD i 0 = f (ws.getD i 0) := by
  rw [List.getD_eq_getElem?_getD, List.getElem?_map, getD_of h]
  rfl
theorem place {t : Int} {ws : List Int} (ok : OkW t ws) {i : Nat} (h : i < ws.length) :
    t * ws.getD i 0 = (lows t ws).getD i 0 * ws.sum + (rsts t ws).getD i 0 ∧ 0 ≤ (rsts t ws).getD i 0 ∧ (rsts t ws).getD i 0 < ws.sum := by
  have a : (lows t ws).getD i 0 = t * ws.getD i 0 / ws.sum := getD_map (α := Int) (fun w => t * w / ws.sum) h
  have b : (rsts t ws).getD i 0 = t * ws.getD i 0 - t * ws.getD i 0 / ws.sum * ws.sum := getD_map (α := Int) (fun w => t * w - t * w / ws.sum * ws.sum) h
  have s0 := ok.s0
  rw [a, b]
  refine ⟨by omega, ?_, ?_⟩
  · rw [rst_mod]
    exact Int.emod_nonneg _ (by omega)
  · rw [rst_mod]
    exact Int.emod_lt_of_pos _ s0
theorem step_at {t : Int} {ws : List Int} (ok : OkW t ws) (ps : List Int) {i : Nat} (h : i < ws.length) :
    ps.getD i 0 * ws.sum - t * ws.getD i 0 = (ps.getD i 0 - (lows t ws).getD i 0) * ws.sum - (rsts t ws).getD i 0 := by
  rw [(place ok h).1, Int.sub_mul]
  omega
/-- the price that a let split has -/
structure Price (t : Int) (ws ps : List Int) (m : Int) : Prop where
  lo : -ws.sum < m
  hi : m < ws.sum
  at_ : ∀ i, i < ws.length → (ps.getD i 0 = (lows t ws).getD i 0 ∧ m ≤ ws.sum - 2 * (rsts t ws).getD i 0) ∨ (ps.getD i 0 = (lows t ws).getD i 0 + 1 ∧ ws.sum - 2 * (rsts t ws).getD i 0 ≤ m)
theorem badC_no {ls ps : List Int} {i : Nat} (h : badC ls ps i = false) : ps.getD i 0 = ls.getD i 0 ∨ ps.getD i 0 = ls.getD i 0 + 1 := by
  have := of_decide_eq_false h
  omega
theorem shorts_mem {ls rs ps : List Int} {n : Nat} {r : Int} : r ∈ shorts ls rs ps n ↔ ∃ j, j < n ∧ ps.getD j 0 = ls.getD j 0 ∧ r = rs.getD j 0 := by
  unfold shorts
  rw [List.mem_map]
  constructor
  · rintro ⟨j, hj, rfl⟩
    rw [List.mem_filter, List.mem_range] at hj
    exact ⟨j, hj.1, of_decide_eq_true hj.2, rfl⟩
  · rintro ⟨j, hj, e, rfl⟩
    exact ⟨j, List.mem_filter.mpr ⟨List.mem_range.mpr hj, decide_eq_true e⟩, rfl⟩
theorem badR_no {ls rs ps : List Int} {i : Nat} (h : badR ls rs ps i = false) (c : ls.getD i 0 < ps.getD i 0) {j : Nat} (hj : j < ps.length) (e : ps.getD j 0 = ls.getD j 0) : rs.getD j 0 ≤ rs.getD i 0 := by
  unfold badR at h
  rw [decide_eq_true c, Bool.true_and, List.any_eq_false] at h
  have := h _ (shorts_mem.mpr ⟨j, hj, e, rfl⟩)
  have z : ¬ rs.getD i 0 < rs.getD j 0 := fun y => this (decide_eq_true y)
  omega
theorem exists_min (f : Nat → Int) : ∀ l : List Nat, l ≠ [] → ∃ a ∈ l, ∀ b ∈ l, f a ≤ f b
  | [], h => absurd rfl h
  | [a], _ => ⟨a, List.mem_cons_self, fun b hb => by rw [List.mem_singleton.mp hb]; exact Int.le_refl _⟩
  | a :: c :: l, _ => by
    obtain ⟨m, hm, le⟩ := exists_min f (c :: l) (by simp)
    by_cases h : f a ≤ f m
    · refine ⟨a, List.mem_cons_self, fun b hb => ?_⟩
      rcases List.mem_cons.mp hb with rfl | hb
      · exact Int.le_refl _
      · exact Int.le_trans h (le b hb)
    · refine ⟨m, List.mem_cons_of_mem _ hm, fun b hb => ?_⟩
      rcases List.mem_cons.mp hb with rfl | hb
      · omega
      · exact le b hb
theorem sum_rests {t : Int} {ws ps : List Int} (ok : OkW t ws) (pl : ps.length = ws.length) (es : ps.sum = t) :
    sumN ws.length (fun i => (rsts t ws).getD i 0) = ws.sum * sumN ws.length fun i => ps.getD i 0 - (lows t ws).getD i 0 := by
  have a : sumN ws.length (fun i => (rsts t ws).getD i 0) = (rsts t ws).sum := by rw [← sumN_list, rsts_len]
  have b : sumN ws.length (fun i => (lows t ws).getD i 0) = (lows t ws).sum := by rw [← sumN_list, lows_len]
  have c : sumN ws.length (fun i => ps.getD i 0) = ps.sum := by rw [← sumN_list, pl]
  rw [sumN_sub, a, b, c, es]
  show (ws.map fun w => t * w - t * w / ws.sum * ws.sum).sum = _
  rw [sum_rst, Int.mul_sub, Int.mul_comm ws.sum t, Int.mul_comm ws.sum]
  rfl
theorem has_price {t : Int} {ws ps : List Int} (ok : OkW t ws) (pl : ps.length = ws.length) (es : ps.sum = t) (h : passes t ws ps) : ∃ m, Price t ws ps m := by
  obtain ⟨hc, hr⟩ := h
  rw [pl] at hc hr
  have s0 := ok.s0
  have sr := sum_rests ok pl es
  by_cases u : (List.range ws.length).filter (fun i => decide ((lows t ws).getD i 0 < ps.getD i 0)) = []
  · have all : ∀ i, i < ws.length → ps.getD i 0 = (lows t ws).getD i 0 := fun i hi => by
      rcases badC_no (hc i hi) with z | z
      · exact z
      · have : i ∈ (List.range ws.length).filter (fun i => decide ((lows t ws).getD i 0 < ps.getD i 0)) := List.mem_filter.mpr ⟨List.mem_range.mpr hi, decide_eq_true (by omega)⟩
        rw [u] at this
        cases this
    have z0 : sumN ws.length (fun i => ps.getD i 0 - (lows t ws).getD i 0) = 0 := by
      rw [sumN_congr (g := fun _ => 0 * 0) fun i hi => by rw [all i hi]; omega, sumN_mul, Int.zero_mul]
    rw [z0, Int.mul_zero] at sr
    have rz := sumN_eq (n := ws.length) (f := fun _ => 0 * 0) (g := fun i => (rsts t ws).getD i 0) (fun i hi => by have := (place ok hi).2.1; omega) (by rw [sr, sumN_mul, Int.zero_mul]; exact Int.le_refl _)
    refine ⟨0, by omega, by omega, fun i hi => .inl ⟨all i hi, ?_⟩⟩
    have := rz i hi
    omega
  · obtain ⟨a, ha, le⟩ := exists_min (fun i => (rsts t ws).getD i 0) _ u
    rw [List.mem_filter, List.mem_range] at ha
    obtain ⟨al, ag⟩ := ha
    have ag : (lows t ws).getD a 0 < ps.getD a 0 := of_decide_eq_true ag
    obtain ⟨_, a0, a1⟩ := place ok al
    have short : ∀ j, j < ws.length → ps.getD j 0 = (lows t ws).getD j 0 → (rsts t ws).getD j 0 ≤ (rsts t ws).getD a 0 := fun j hj e => badR_no (hr a al) ag (by omega) e
    have pos : 0 < (rsts t ws).getD a 0 := Int.lt_of_not_ge fun z => by
      have e0 : (rsts t ws).getD a 0 = 0 := by omega
      have le1 : sumN ws.length (fun i => (rsts t ws).getD i 0) ≤ sumN ws.length fun i => (ws.sum - 1) * (ps.getD i 0 - (lows t ws).getD i 0) := sumN_le fun i hi => by
        obtain ⟨_, i0, i1⟩ := place ok hi
        rcases badC_no (hc i hi) with y | y
        · have := short i hi y
          rw [y, Int.sub_self, Int.mul_zero]
          omega
        · rw [y, show (lows t ws).getD i 0 + 1 - (lows t ws).getD i 0 = 1 by omega, Int.mul_one]
          omega
      rw [sumN_mul, sr, Int.sub_mul, Int.one_mul] at le1
      have pos1 : 1 ≤ sumN ws.length fun i => ps.getD i 0 - (lows t ws).getD i 0 := by
        have one : sumN ws.length (fun i => if i = a then 1 else 0) = 1 := by
          clear le1 sr short le u e0 z
          have : ∀ n, sumN n (fun i => if i = a then 1 else 0) = if a < n then 1 else 0 := by
            intro n
            induction n with
            | zero => rfl
            | succ n ih =>
              rw [sumN_succ, ih]
              by_cases c1 : a < n
              · rw [if_pos c1, if_neg (by omega), if_pos (by omega)]
                rfl
              · by_cases c2 : n = a
                · rw [if_neg c1, if_pos c2, if_pos (by omega)]
                  rfl
                · rw [if_neg c1, if_neg c2, if_neg (by omega)]
                  rfl
          rw [this, if_pos al]
        rw [← one]
        refine sumN_le fun i hi => ?_
        by_cases c : i = a
        · rw [if_pos c, c]
          omega
        · rw [if_neg c]
          rcases badC_no (hc i hi) with y | y <;> omega
      omega
    refine ⟨ws.sum - 2 * (rsts t ws).getD a 0, by omega, by omega, fun i hi => ?_⟩
    rcases badC_no (hc i hi) with y | y
    · have := short i hi y
      exact .inl ⟨y, by omega⟩
    · refine .inr ⟨y, ?_⟩
      have := le i (List.mem_filter.mpr ⟨List.mem_range.mpr hi, decide_eq_true (by omega)⟩)
      omega
theorem off_price {t : Int} {ws : List Int} (ok : OkW t ws) {qs : List Int} (ql : qs.length = ws.length) (es : qs.sum = t) (m : Int) :
    sumN ws.length (fun i => ab ((qs.getD i 0 - (lows t ws).getD i 0) * ws.sum - (rsts t ws).getD i 0) - m * (qs.getD i 0 - (lows t ws).getD i 0)) = off t ws qs - m * (t - (lows t ws).sum) := by
  rw [sumN_sub, sumN_mul, sumN_sub]
  have b : sumN ws.length (fun i => (lows t ws).getD i 0) = (lows t ws).sum := by rw [← sumN_list, lows_len]
  have c : sumN ws.length (fun i => qs.getD i 0) = qs.sum := by rw [← sumN_list, ql]
  rw [b, c, es, off_sum]
  congr 1
  exact sumN_congr fun i hi => by rw [step_at ok qs hi]
/-- none is less off than a let one; those as little off are let -/
theorem least {t : Int} {ws ps qs : List Int} (ok : OkW t ws) (pl : ps.length = ws.length) (ep : ps.sum = t) (h : passes t ws ps) (ql : qs.length = ws.length) (eq : qs.sum = t) :
    off t ws ps ≤ off t ws qs ∧ (off t ws qs ≤ off t ws ps → passes t ws qs) := by
  obtain ⟨m, pr⟩ := has_price ok pl ep h
  have ap := off_price ok pl ep m
  have aq := off_price ok ql eq m
  have each : ∀ i, i < ws.length → ab ((ps.getD i 0 - (lows t ws).getD i 0) * ws.sum - (rsts t ws).getD i 0) - m * (ps.getD i 0 - (lows t ws).getD i 0) ≤
      ab ((qs.getD i 0 - (lows t ws).getD i 0) * ws.sum - (rsts t ws).getD i 0) - m * (qs.getD i 0 - (lows t ws).getD i 0) := fun i hi => by
    obtain ⟨_, r0, r1⟩ := place ok hi
    obtain ⟨a, _⟩ := one_place (y := qs.getD i 0 - (lows t ws).getD i 0) r0 r1 pr.lo pr.hi
    rcases pr.at_ i hi with ⟨e, c⟩ | ⟨e, c⟩
    · rw [e, Int.sub_self, Int.zero_mul, Int.mul_zero, ab_neg (by omega)]
      rcases a with a | a <;> omega
    · rw [e, show (lows t ws).getD i 0 + 1 - (lows t ws).getD i 0 = 1 by omega, Int.one_mul, Int.mul_one, ab_pos (by omega)]
      rcases a with a | a <;> omega
  have tot := sumN_le each
  rw [ap, aq] at tot
  refine ⟨by omega, fun le => ?_⟩
  have same := sumN_eq each (by rw [ap, aq]; omega)
  have kind : ∀ i, i < ws.length → (qs.getD i 0 = (lows t ws).getD i 0 ∧ m ≤ ws.sum - 2 * (rsts t ws).getD i 0) ∨ (qs.getD i 0 = (lows t ws).getD i 0 + 1 ∧ ws.sum - 2 * (rsts t ws).getD i 0 ≤ m) := fun i hi => by
    obtain ⟨_, r0, r1⟩ := place ok hi
    obtain ⟨_, b⟩ := one_place (y := qs.getD i 0 - (lows t ws).getD i 0) r0 r1 pr.lo pr.hi
    have s := same i hi
    have b' := b (by
      rw [← s]
      rcases pr.at_ i hi with ⟨e, c⟩ | ⟨e, c⟩
      · rw [e, Int.sub_self, Int.zero_mul, Int.mul_zero, ab_neg (by omega)]
        omega
      · rw [e, show (lows t ws).getD i 0 + 1 - (lows t ws).getD i 0 = 1 by omega, Int.one_mul, Int.mul_one, ab_pos (by omega)]
        omega) (by
      rw [← s]
      rcases pr.at_ i hi with ⟨e, c⟩ | ⟨e, c⟩
      · rw [e, Int.sub_self, Int.zero_mul, Int.mul_zero, ab_neg (by omega)]
        omega
      · rw [e, show (lows t ws).getD i 0 + 1 - (lows t ws).getD i 0 = 1 by omega, Int.one_mul, Int.mul_one, ab_pos (by omega)]
        omega)
    rcases b' with ⟨e, c⟩ | ⟨e, c⟩
    · exact .inl ⟨by omega, c⟩
    · exact .inr ⟨by omega, c⟩
  refine ⟨fun i hi => ?_, fun i hi => ?_⟩
  · refine decide_eq_false ?_
    rcases kind i (by omega) with ⟨e, _⟩ | ⟨e, _⟩ <;> omega
  · unfold badR
    by_cases c : (lows t ws).getD i 0 < qs.getD i 0
    · rw [decide_eq_true c, Bool.true_and, List.any_eq_false]
      intro r hr
      obtain ⟨j, hj, e, rfl⟩ := shorts_mem.mp hr
      intro z
      have z : (rsts t ws).getD i 0 < (rsts t ws).getD j 0 := of_decide_eq_true z
      have ki := kind i (by omega)
      have kj := kind j (by omega)
      omega
    · rw [decide_eq_false c, Bool.false_and]
/-! ### the split itself is let -/
theorem sum_set : ∀ {l : List Int} {a : Nat} {v : Int}, a < l.length → (l.set a v).sum = l.sum - l.getD a 0 + v
  | [], a, v, h => by simp at h
  | x :: l, 0, v, h => by
    rw [List.set_cons_zero, List.sum_cons, List.sum_cons]
    show v + l.sum = x + l.sum - x + v
    omega
  | x :: l, a + 1, v, h => by
    rw [List.set_cons_succ, List.sum_cons, List.sum_cons, sum_set (by simpa using h)]
    show x + (l.sum - l.getD a 0 + v) = x + l.sum - l.getD a 0 + v
    omega
theorem sum_bump {ls rs : List Int} (e : ls.length = rs.length) : ∀ k, k ≤ rs.length → (bump ls ((ats rs).take k)).sum = ls.sum + k
  | 0, _ => by rw [List.take_zero, bump_nil]; simp
  | k + 1, h => by
    have kl : k < (ats rs).length := by
      rw [ats_len]
      omega
    have ea := List.getElem?_eq_getElem kl
    generalize (ats rs)[k] = b at ea
    have bl : b < ls.length := by
      have := ats_lt (List.mem_of_getElem? ea)
      omega
    have nb := take_not (ats_nodup _) ea
    have gb : (bump ls ((ats rs).take k)).getD b 0 = ls.getD b 0 := by
      rw [List.getD_eq_getElem?_getD, bump_get bl, if_neg nb, Int.add_zero]
      rfl
    rw [take_more ea, ← bump_more bl nb, sum_set (by rw [bump_len]; exact bl), gb, sum_bump e k (by omega)]
    push_cast
    omega
theorem parts_sum {t : Int} {ws : List Int} (ok : OkW t ws) : (parts t ws).sum = t := by
  obtain ⟨eo, lo⟩ := odd_at ok
  unfold parts
  rw [sum_bump (by rw [lows_len, rsts_len]) _ (by rw [rsts_len]; omega)]
  omega
theorem parts_pass {t : Int} {ws : List Int} (ok : OkW t ws) : passes t ws (parts t ws) := by
  have pl := parts_len t ws
  have ll := lows_len t ws
  have rl := rsts_len t ws
  have val : ∀ i, i < ws.length → (parts t ws).getD i 0 = (lows t ws).getD i 0 + if i ∈ (ats (rsts t ws)).take (odd t ws) then 1 else 0 := fun i hi => by
    unfold parts
    rw [List.getD_eq_getElem?_getD, bump_get (by omega)]
    rfl
  refine ⟨fun i hi => ?_, fun i hi => ?_⟩
  · refine decide_eq_false ?_
    rw [val i (by omega)]
    by_cases c : i ∈ (ats (rsts t ws)).take (odd t ws)
    · rw [if_pos c]
      omega
    · rw [if_neg c]
      omega
  · unfold badR
    by_cases c : (lows t ws).getD i 0 < (parts t ws).getD i 0
    · rw [decide_eq_true c, Bool.true_and, List.any_eq_false]
      intro r hr z
      obtain ⟨j, hj, e, rfl⟩ := shorts_mem.mp hr
      have z : (rsts t ws).getD i 0 < (rsts t ws).getD j 0 := of_decide_eq_true z
      rw [val i (by omega)] at c
      rw [val j (by omega)] at e
      have im : i ∈ (ats (rsts t ws)).take (odd t ws) := Decidable.byContradiction fun y => by
        rw [if_neg y] at c
        omega
      have jn : j ∉ (ats (rsts t ws)).take (odd t ws) := fun y => by
        rw [if_pos y] at e
        omega
      obtain ⟨k, hk⟩ := List.mem_iff_getElem?.mp im
      have kl := (List.getElem?_eq_some_iff.mp hk).1
      rw [List.length_take] at kl
      rw [List.getElem?_take, if_pos (by omega)] at hk
      have jn2 : j ∉ (ats (rsts t ws)).take k := fun y => jn (by
        obtain ⟨x, hx⟩ := List.mem_iff_getElem?.mp y
        have xl := (List.getElem?_eq_some_iff.mp hx).1
        rw [List.length_take] at xl
        rw [List.getElem?_take, if_pos (by omega)] at hx
        refine List.mem_iff_getElem?.mpr ⟨x, ?_⟩
        rw [List.getElem?_take, if_pos (by omega)]
        exact hx)
      have := leR_iff.mp (ats_first hk (by omega) jn2)
      omega
    · rw [decide_eq_false c, Bool.false_and]
/-! ### all rows -/
def pr (t : Int) : List Int := (List.range (t + 3).toNat).map fun k : Nat => -1 + (k : Int)
def ext (t : Int) (r : List Int) : List (List Int) := (pr t).map fun p => r ++ [p]
def rowsN (t : Int) : Nat → List (List Int)
  | 0 => [[]]
  | i + 1 => (rowsN t i).flatMap (ext t)
def allR (n : Nat) (t : Int) : List (List Int) := (rowsN t (n - 1)).map fun r => r ++ [t - r.sum]
theorem pr_len (t : Int) : (pr t).length = (t + 3).toNat := by
  unfold pr
  rw [List.length_map, List.length_range]
theorem ext_len (t : Int) (r : List Int) : (ext t r).length = (t + 3).toNat := by
  unfold ext
  rw [List.length_map, pr_len]
theorem flat_len (t : Int) : ∀ rs : List (List Int), (rs.flatMap (ext t)).length = rs.length * (t + 3).toNat
  | [] => by simp
  | r :: rs => by
    rw [List.flatMap_cons, List.length_append, flat_len t rs, ext_len, List.length_cons, Nat.add_mul]
    omega
theorem rowsN_len (t : Int) : ∀ i, (rowsN t i).length = (t + 3).toNat ^ i
  | 0 => by simp [rowsN]
  | i + 1 => by
    show ((rowsN t i).flatMap (ext t)).length = _
    rw [flat_len, rowsN_len t i, Nat.pow_succ]
theorem rowsN_row (t : Int) : ∀ i, ∀ r ∈ rowsN t i, r.length = i
  | 0, r, h => by
    rw [List.mem_singleton.mp h]
    rfl
  | i + 1, r, h => by
    obtain ⟨q, hq, hr⟩ := List.mem_flatMap.mp h
    obtain ⟨p, _, rfl⟩ := List.mem_map.mp hr
    rw [List.length_append, rowsN_row t i q hq]
    rfl
theorem rowsN_mem {t : Int} (t0 : 0 ≤ t) : ∀ i (r : List Int), r.length = i → (∀ p ∈ r, -1 ≤ p ∧ p ≤ t + 1) → r ∈ rowsN t i
  | 0, r, h, _ => by
    rw [List.length_eq_zero_iff.mp h]
    exact List.mem_singleton.mpr rfl
  | i + 1, r, h, hp => by
    rcases List.eq_nil_or_concat r with z | ⟨q, p, rfl⟩
    · rw [z] at h
      cases h
    · rw [List.concat_eq_append] at h hp ⊢
      rw [List.length_append] at h
      refine List.mem_flatMap.mpr ⟨q, rowsN_mem t0 i q (by simpa using h) (fun x hx => hp x (List.mem_append_left _ hx)), List.mem_map.mpr ⟨p, ?_, rfl⟩⟩
      obtain ⟨a, b⟩ := hp p (List.mem_append_right _ (List.mem_singleton.mpr rfl))
      exact List.mem_map.mpr ⟨(p + 1).toNat, List.mem_range.mpr (by omega), by omega⟩
theorem allR_row {n : Nat} {t : Int} (n0 : 0 < n) {r : List Int} (h : r ∈ allR n t) : r.length = n ∧ r.sum = t := by
  obtain ⟨q, hq, rfl⟩ := List.mem_map.mp h
  have := rowsN_row t _ q hq
  refine ⟨?_, ?_⟩
  · rw [List.length_append, this]
    show n - 1 + 1 = n
    omega
  · rw [List.sum_append]
    simp
    omega
theorem allR_mem {n : Nat} {t : Int} (t0 : 0 ≤ t) (n0 : 0 < n) {r : List Int} (h : r.length = n) (e : r.sum = t) (hp : ∀ p ∈ r, -1 ≤ p ∧ p ≤ t + 1) : r ∈ allR n t := by
  rcases List.eq_nil_or_concat r with z | ⟨q, p, rfl⟩
  · rw [z] at h
    simp at h
    omega
  · rw [List.concat_eq_append] at h hp e ⊢
    rw [List.length_append] at h
    have hq : q.length = n - 1 := by
      have : q.length + 1 = n := h
      omega
    refine List.mem_map.mpr ⟨q, rowsN_mem t0 _ q hq fun x hx => hp x (List.mem_append_left _ hx), ?_⟩
    rw [List.sum_append] at e
    have : t - q.sum = p := by
      simp at e
      omega
    rw [this]
theorem few {n : Nat} {t : Int} (t0 : 0 ≤ t) (h : (n ≤ 3 ∧ t ≤ 4) ∨ (n ≤ 4 ∧ t ≤ 2)) {i : Nat} (hi : i ≤ n - 1) : (t + 3).toNat ^ i ≤ 125 := by
  rcases h with ⟨a, b⟩ | ⟨a, b⟩
  · exact Nat.le_trans (Nat.pow_le_pow_left (show (t + 3).toNat ≤ 7 by omega) i) (Nat.le_trans (Nat.pow_le_pow_right (by decide) (show i ≤ 2 by omega)) (by decide))
  · exact Nat.le_trans (Nat.pow_le_pow_left (show (t + 3).toNat ≤ 5 by omega) i) (Nat.le_trans (Nat.pow_le_pow_right (by decide) (show i ≤ 3 by omega)) (by decide))
theorem allR_parts {t : Int} {ws : List Int} (ok : OkW t ws) : parts t ws ∈ allR ws.length t := by
  refine allR_mem ok.t0 ok.n0 (parts_len t ws) (parts_sum ok) fun p hp => ?_
  unfold parts K09.bump at hp
  obtain ⟨i, hi, rfl⟩ := List.mem_map.mp hp
  have hl := List.mem_range.mp hi
  have g := getD_of hl
  have m := List.mem_of_getElem? g
  unfold lows at m
  obtain ⟨w, hw, e⟩ := List.mem_map.mp m
  obtain ⟨a, b⟩ := low_bound ok hw
  unfold lows
  rw [← e]
  by_cases c : i ∈ List.take (odd t ws) (ats (rsts t ws))
  · rw [if_pos c]
    omega
  · rw [if_neg c]
    omega
end K11

set_option Elab.async false
set_option linter.all false
set_option maxRecDepth 100000
set_option maxHeartbeats 2000000
namespace K11
open PySem PySem.Spec PyProof.Rows L2 TB K09

theorem scAll : FnScope ["_law_many", "_law_total", "_law_rows", "_law_k", "_law_longer", "_law_row", "_law_part"] ["_law_many", "_law_total"] (defScope sAll) := ⟨rfl, rfl, rfl, by decide +kernel, rfl, by decide +kernel, by decide +kernel⟩
theorem scOff : FnScope ["_law_total", "_law_weights_here", "_law_row", "_law_told", "_law_entire", "_law_part", "_law_weight", "_law_step"] ["_law_total", "_law_weights_here", "_law_row"] (defScope sOff) := ⟨rfl, rfl, rfl, by decide +kernel, rfl, by decide +kernel, by decide +kernel⟩
theorem scLet : FnScope ["_law_total", "_law_weights_here", "_law_thing"] ["_law_total", "_law_weights_here", "_law_thing"] (defScope sLet) := ⟨rfl, rfl, rfl, by decide +kernel, rfl, by decide +kernel, by decide +kernel⟩
def dRow (r : List Int) : PyData := .tuple (dInts r)
theorem noL_row (r : List Int) : noL (dRow r) = true := by
  show noLs (dInts r) = true
  refine noLs_of fun d hd => ?_
  obtain ⟨i, _, rfl⟩ := List.mem_map.mp hd
  rfl
theorem noL_rows (rs : List (List Int)) : noLs (rs.map dRow) = true := noLs_of fun d hd => by
  obtain ⟨r, _, rfl⟩ := List.mem_map.mp hd
  exact noL_row r
theorem row_at {K : PySem.W.Frag} {H : Hp} {v : V} {r : List Int} (h : Dp K H v (dRow r)) : ∃ a, v = .ref a ∧ SqT K H a (r.map V.int) := by
  obtain ⟨a, xs, rfl, hq, t⟩ := Dp.tup_inv h
  rw [ints_at t] at hq
  exact ⟨a, rfl, hq⟩
theorem flat_more {α β : Type} {f : α → List β} {xs : List α} {i : Nat} {x : α} (h : xs[i]? = some x) : (xs.take (i + 1)).flatMap f = (xs.take i).flatMap f ++ f x := by
  rw [take_more h, List.flatMap_append]
  simp
section
variable {P : Program} {w : World} {K : PySem.W.Frag} {mg : Str → Option Value} {base : Heap}
/-! ### _law_all -/
def spAl (K : PySem.W.Frag) : Sp := fun vs H Q _ => ∃ (n : Nat) (t : Int), vs = [.int (n : Int), .int t] ∧ 0 < n ∧ 0 ≤ t ∧ ((n ≤ 3 ∧ t ≤ 4) ∨ (n ≤ 4 ∧ t ≤ 2)) ∧
  ∀ (H' : Hp) (r : Addr) (us : List V), Same H H' → H' r = some (.lst us) → DpAll K H' us ((allR n t).map dRow) → Q (.ref r) H'
theorem ok_al {f : Addr} {fd : FuncData} {k : Nat} (F : Fun K "_law_all" "_law_all" sAll f fd) (m_range : mg "range" = none) (m_sum : mg "sum" = none) : FnOk P w K mg base CX0 (k + 1) f fd ["_law_many", "_law_total"] (spAl K) := by
  refine F.ok scAll (fun vs H Q E h => ?_) (fun cdv A outer s H vs Q E hr h => ?_)
  · obtain ⟨n, t, rfl, _⟩ := h
    rfl
  · obtain ⟨n, t, rfl, n0, t0, sm, q⟩ := h
    refine ⟨_, (pss_cons (ps_set (i := 2) scAll.nd rfl (.inl rfl) (pe_lst (pa_cons (pe_tup pa_nil) pa_nil)))
      (pss_cons (ps_for PassesOwn.never rfl (pi_range1 (by rfl) m_range (pa_cons (pe_op op_sub (pv 0) pe_int) pa_nil)) (pg_name (i := 3) scAll.nd rfl (.inl rfl)) (pss_cons (ps_set (i := 4) scAll.nd rfl (.inl rfl) (pe_lst pa_nil))
      (pss_cons (ps_for PassesOwn.never rfl (pi_list (pv 2)) (pg_name (i := 5) scAll.nd rfl (.inr rfl)) (pss_one (ps_expr (pe_bm PySem.F.plainAttrs_list PySem.F.slot_list_extend PySem.F.type_list_extend mt_extend (pv 4) (pa_cons (pe_lc (own := [("_law_part", 6)]) (g := gName 6) (tt := tYes) (te := tOp (rCatA K) (tVar 5) (tTup (tCons (tVar 6) tNil))) rfl scAll.nd (pi_range2 (by rfl) m_range (pa_cons (pe_un un_neg pe_int) (pa_cons (pe_op op_add (pv 1) pe_int) pa_nil))) (blkOk_by (own := [("_law_part", 6)]) (N := ["_law_many", "_law_total", "_law_rows", "_law_k", "_law_longer", "_law_row", "_law_part"]) (sc := defScope sAll) (by decide +kernel)) (fun _ _ _ _ _ => (pg_name (i := 6) scAll.nd rfl (.inl rfl))) (fun _ _ _ _ _ => pts_nil) (fun _ _ _ _ _ => (pe_op op_catA (pv 5) (pe_tup (pa_cons (pv 6) pa_nil))))) pa_nil)))))
      (pss_one (ps_set (i := 2) scAll.nd rfl (.inl rfl) (pv 4))))))
      (pss_one (ps_ret (pe_lc (own := [("_law_row", 5)]) (g := gName 5) (tt := tYes) (te := tOp (rCatA K) (tVar 5) (tTup (tCons (tOp (rI0 fun i j => .int (i - j)) (tVar 1) (tCB (rSumT K) (tCons (tVar 5) tNil))) tNil))) rfl scAll.nd (pi_list (pv 2)) (blkOk_by (own := [("_law_row", 5)]) (N := ["_law_many", "_law_total", "_law_rows", "_law_k", "_law_longer", "_law_row", "_law_part"]) (sc := defScope sAll) (by decide +kernel)) (fun _ _ _ _ _ => (pg_name (i := 5) scAll.nd rfl (.inl rfl))) (fun _ _ _ _ _ => pts_nil) (fun _ _ _ _ _ => (pe_op op_catA (pv 5) (pe_tup (pa_cons (pe_op op_sub (pv 1) (pe_callB (call_sumT rfl) (by rfl) m_sum (by decide +kernel) (pa_cons (pv 5) pa_nil))) pa_nil))))))))), ?_⟩
    have tm : (t + 3).toNat ≤ 7 := by omega
    refine ⟨Nat.zero_le _, fun p0 np0 => ?_⟩
    have s0 := same_upd (o := .tup []) np0
    have e0 : (upd H p0 (.tup [])) p0 = some (.tup []) := upd_same
    generalize upd H p0 (.tup []) = H0 at *
    refine ⟨by show (1 : Nat) ≤ sizeLine; decide, fun R0 nR0 => ?_⟩
    have s1 := same_upd (o := .lst [.ref p0]) nR0
    refine ⟨_, rfl, _, _, rfl, rfl, (n : Int) - 1, rfl, by omega, by omega, ?_⟩
    refine for_range (lo := 0) (n := ((n : Int) - 1).toNat) (fun i σ H1 => ∃ y3 y4 y5 R us, σ = [some (.int (n : Int)), some (.int t), some (.ref R), y3, y4, y5, none] ∧ Same H H1 ∧ H1 R = some (.lst us) ∧ DpAll K H1 us ((rowsN t i).map dRow))
      ⟨_, _, _, R0, [.ref p0], rfl, s0.trans s1, upd_same, .cons (.tup (.inl (.inl (s1 _ _ e0))) .nil) .nil⟩ ?_ ?_
    · rintro i σ H1 hi ⟨y3, y4, y5, R, us, rfl, sm1, eR, dv⟩
      have hi' : i + 1 ≤ n - 1 := by omega
      have rl := rowsN_len t i
      have r125 := few t0 sm (show i ≤ n - 1 by omega)
      have r125' := few t0 sm hi'
      have fl := flat_len t (rowsN t i)
      have rl' := rowsN_len t (i + 1)
      have ul := DpAll.len dv
      rw [List.length_map] at ul
      show tSeq _ _ _ [some (.int (n : Int)), some (.int t), some (.ref R), some (.int (0 + (i : Int))), y4, y5, none] _
      refine ⟨Nat.zero_le _, fun L nL => ?_⟩
      have s2 := same_upd (o := .lst []) nL
      have eL : (upd H1 L (.lst [])) L = some (.lst []) := upd_same
      generalize upd H1 L (.lst []) = H2 at *
      refine ⟨_, rfl, R, rfl, ⟨_, .inl (.inl (s2 _ _ eR))⟩, ?_⟩
      refine for_list (xs := us) (fun j σ H3 => ∃ y5, σ = [some (.int (n : Int)), some (.int t), some (.ref R), some (.int (0 + (i : Int))), some (.ref L), y5, none] ∧ Same H1 H3 ∧ ∃ vs, H3 L = some (.lst vs) ∧ DpAll K H3 vs ((((rowsN t i).take j).flatMap (ext t)).map dRow))
        ⟨_, rfl, s2, [], eL, .nil⟩ ?_ ?_ ?_
      · rintro j σ H3 _ ⟨y5, rfl, s3, _⟩
        exact .inl (.inl (s3 _ _ eR))
      · rintro j x σ H3 hx ⟨y5, rfl, s3, vs, eL3, dv3⟩
        obtain ⟨d, hd, dx⟩ := DpAll.get dv hx
        obtain ⟨r, hr, rfl⟩ := map_get hd
        obtain ⟨p, rfl, hp⟩ := row_at dx
        have hp3 := TB.Same.tup s3 hp
        have vl := DpAll.len dv3
        rw [List.length_map, flat_len] at vl
        have jl : j < (rowsN t i).length := (List.getElem?_eq_some_iff.mp hr).1
        have vl2 : vs.length ≤ (rowsN t i).length * (t + 3).toNat := by
          rw [vl]
          exact Nat.mul_le_mul_right _ (List.length_take_le' _ _)
        have rl1 : r.length ≤ 4 := by
          have := rowsN_row t i r (List.mem_of_getElem? hr)
          omega
        refine ⟨_, rfl, .inl ⟨rfl, _, .inl (.inl eL3)⟩, ?_⟩
        refine ⟨1, rfl, _, rfl, _, _, rfl, rfl, -1, t + 2, rfl, ⟨by decide, by decide, by omega, by omega⟩, fun D nD => ?_⟩
        refine lc_range (lo := -1) (n := (t + 2 - -1).toNat) (fun m H4 => Same H3 H4 ∧ Acc K H4 D ((((pr t).take m).map fun p => r ++ [p]).map dRow)) ⟨same_upd nD, Acc.start⟩ (fun m H4 hm hP => ?_) (fun H4 hP => ?_)
        · obtain ⟨s4, ac⟩ := hP
          have hm' : m < (t + 3).toNat := by
            have : (t + 2 - -1).toNat = (t + 3).toNat := by omega
            omega
          have gm : (pr t)[m]? = some (-1 + (m : Int)) := by
            unfold pr
            rw [List.getElem?_map, List.getElem?_range hm']
            rfl
          refine ⟨rfl, yes (iteT ?_)⟩
          refine ⟨_, rfl, _, rfl, by show (1 : Nat) ≤ sizeLine; decide, fun z nz => ?_⟩
          have s5 := same_upd (o := .tup [.int (-1 + (m : Int))]) nz
          refine catA (TB.Same.tup (s4.trans s5) hp3) (.inl (.inl upd_same)) ?_ fun H6 z6 s6 h6 => ?_
          · rw [List.length_map]
            show _ + 1 ≤ sizeLine
            exact Nat.le_of_lt (small1000 (by omega))
          · refine Acc.turn nD s4 ac (s5.trans s6) (d := dRow (r ++ [-1 + (m : Int)])) ?_ (noL_row _) ?_ ?_
            · have h6' : SqT K H6 z6 ((r ++ [-1 + (m : Int)]).map V.int) := by
                rw [List.map_append]
                exact h6
              exact .tup h6' (dp_ints _)
            · rw [List.length_map, List.length_map]
              have := List.length_take_le' m (pr t)
              have := pr_len t
              omega
            · rw [map_take_more gm, List.map_append]
              rfl
        obtain ⟨s4, ac⟩ := hP
        obtain ⟨zs, eD, dz⟩ := ac.ex
        have en : (t + 2 - -1).toNat = (pr t).length := by
          rw [pr_len]
          omega
        rw [en, List.take_length] at dz
        have zl := DpAll.len dz
        rw [List.length_map, List.length_map, pr_len] at zl
        have eL4 := s4 _ _ eL3
        have hz : vs.length + zs.length ≤ sizeLine := by
          have : vs.length + zs.length ≤ 1000 := by
            rw [zl]
            rw [fl] at *
            have : (rowsN t i).length * (t + 3).toNat ≤ 125 * 7 := Nat.mul_le_mul (by omega) tm
            omega
          exact Nat.le_of_lt (small1000 this)
        refine ⟨L, D, _, _, rfl, rfl, eL4, eD, hz, ?_⟩
        refine ⟨_, rfl, same_new nL (s3.trans s4), _, upd_same, ?_⟩
        rw [flat_more hr, List.map_append]
        have bu : But L H4 (upd H4 L (.lst (vs ++ zs))) := But.upd
        exact DpAll.app (DpAll.but bu eL4 _ _ (noL_rows _) (DpAll.same s4 _ _ dv3)) (DpAll.but bu eL4 _ _ (noL_rows _) dz)
      · rintro σ H3 ⟨y5, rfl, s3, vs, eL3, dv3⟩
        rw [List.take_of_length_le (by omega)] at dv3
        exact ⟨_, rfl, _, _, _, L, vs, rfl, sm1.trans s3, eL3, dv3⟩
    · rintro σ H1 ⟨y3, y4, y5, R, us, rfl, sm1, eR, dv⟩
      have en : ((n : Int) - 1).toNat = n - 1 := by omega
      rw [en] at dv
      have r125 := few t0 sm (Nat.le_refl (n - 1))
      have rl := rowsN_len t (n - 1)
      have ul := DpAll.len dv
      rw [List.length_map] at ul
      refine ⟨_, rfl, R, rfl, ⟨_, .inl (.inl eR)⟩, fun D nD => ?_⟩
      refine lc_list (xs := us) (fun m H2 => Same H1 H2 ∧ Acc K H2 D ((((rowsN t (n - 1)).take m).map fun r => r ++ [t - r.sum]).map dRow)) ⟨same_upd nD, Acc.start⟩ ?_ ?_ ?_
      · rintro m H2 _ ⟨s2, _⟩
        exact .inl (.inl (s2 _ _ eR))
      · rintro m x H2 hx ⟨s2, ac⟩
        obtain ⟨d, hd, dx⟩ := DpAll.get dv hx
        obtain ⟨r, hr, rfl⟩ := map_get hd
        obtain ⟨p, rfl, hp⟩ := row_at dx
        have hp2 := TB.Same.tup s2 hp
        have rl1 : r.length ≤ 4 := by
          have := rowsN_row t _ r (List.mem_of_getElem? hr)
          omega
        refine ⟨rfl, yes (iteT ?_)⟩
        refine ⟨_, rfl, _, rfl, _, rfl, p, r, rfl, hp2, _, _, rfl, rfl, by show (1 : Nat) ≤ sizeLine; decide, fun z nz => ?_⟩
        have s5 := same_upd (o := .tup [.int (t - r.sum)]) nz
        refine catA (TB.Same.tup s5 hp2) (.inl (.inl upd_same)) ?_ fun H6 z6 s6 h6 => ?_
        · rw [List.length_map]
          show _ + 1 ≤ sizeLine
          exact Nat.le_of_lt (small1000 (by omega))
        · refine Acc.turn nD s2 ac (s5.trans s6) (d := dRow (r ++ [t - r.sum])) ?_ (noL_row _) ?_ ?_
          · have h6' : SqT K H6 z6 ((r ++ [t - r.sum]).map V.int) := by
              rw [List.map_append]
              exact h6
            exact .tup h6' (dp_ints _)
          · rw [List.length_map, List.length_map]
            have := List.length_take_le' m (rowsN t (n - 1))
            omega
          · rw [map_take_more hr, List.map_append]
            rfl
      · rintro H2 ⟨s2, ac⟩
        obtain ⟨zs, eD, dz⟩ := ac.ex
        rw [List.take_of_length_le (by omega)] at dz
        exact q H2 D zs (sm1.trans s2) eD dz
/-! ### _law_off -/
def spOf (K : PySem.W.Frag) : Sp := fun vs H Q _ => ∃ (a b : Addr) (t : Int) (ws ps : List Int), vs = [.int t, .ref a, .ref b] ∧ SqT K H a (ws.map V.int) ∧ SqT K H b (ps.map V.int) ∧ ps.length = ws.length ∧ OkW t ws ∧ ∀ H', Same H H' → Q (.int (off t ws ps)) H'
theorem offL_more (t : Int) (ws ps : List Int) (W : Int) (i : Nat) : (offL t ws ps W (i + 1)).sum = (offL t ws ps W i).sum + ab (ps.getD i 0 * W - t * ws.getD i 0) := by
  unfold offL
  rw [List.range_succ, List.map_append, List.sum_append]
  simp
theorem ok_of {f : Addr} {fd : FuncData} {k : Nat} (F : Fun K "_law_off" "_law_off" sOff f fd) (m_sum : mg "sum" = none) (m_zip : mg "zip" = none) : FnOk P w K mg base CX0 (k + 1) f fd ["_law_total", "_law_weights_here", "_law_row"] (spOf K) := by
  refine F.ok scOff (fun vs H Q E h => ?_) (fun cdv A outer s H vs Q E hr h => ?_)
  · obtain ⟨a, b, t, ws, ps, rfl, _⟩ := h
    rfl
  · obtain ⟨a, b, t, ws, ps, rfl, hA, hB, pl, ok, q⟩ := h
    refine ⟨_, (pss_cons (ps_par (i := 3) (j := 4) (by rfl) scOff.nd rfl rfl (by decide) rfl rfl (pa_cons pe_int (pa_cons (pe_callB (call_sumT rfl) (by rfl) m_sum (by decide +kernel) (pa_cons (pv 1) pa_nil)) pa_nil)) (by rfl))
      (pss_cons (ps_for PassesOwn.never rfl (RZ.pi_zipA (by rfl) m_zip (pa_cons (pv 2) (pa_cons (pv 1) pa_nil))) (pg_tup rfl (pgs_cons (pg_name (i := 5) scOff.nd rfl (.inl rfl)) (pgs_cons (pg_name (i := 6) scOff.nd rfl (.inl rfl)) pgs_nil))) (pss_cons (ps_set (i := 7) scOff.nd rfl (.inl rfl) (pe_op op_sub (pe_op op_mul (pv 5) (pv 4)) (pe_op op_mul (pv 0) (pv 6))))
      (pss_one (ps_aug (i := 3) scOff.nd rfl (.inl rfl) (pe_ifExp (pt_cmpR op_lt (pv 7) pe_int (nomark _)) (pe_un un_neg (pv 7)) (pv 7)) ip_add))))
      (pss_one (ps_ret (pv 3))))), ?_⟩
    have sw := sum_ok ok
    refine ⟨_, rfl, a, ws, rfl, hA, _, _, rfl, ?_⟩
    refine ⟨_, rfl, _, rfl, b, a, _, _, rfl, .inr ⟨hB, hA, ?_⟩⟩
    refine for_it (walk_zT (xs := ps.map V.int) (ys := ws.map V.int) (n := ws.length) (by rw [List.length_map, List.length_map]; omega)) (fun i σ H1 => ∃ y5 y6 y7, σ = [some (.int t), some (.ref a), some (.ref b), some (.int (offL t ws ps ws.sum i).sum), some (.int ws.sum), y5, y6, y7] ∧ Same H H1) ⟨_, _, _, rfl, Same.refl _⟩ ?_ ?_ ?_
    · rintro i σ H1 _ ⟨y5, y6, y7, rfl, sm⟩
      exact ⟨TB.Same.tup sm hB, TB.Same.tup sm hA⟩
    · rintro i x σ H1 H2 hi ⟨y5, y6, y7, rfl, sm⟩ ⟨T, u, v, rfl, nT, rfl, hu, hv⟩
      obtain rfl := Option.some.inj ((gInt (by omega)).symm.trans hu)
      obtain rfl := Option.some.inj ((gInt hi).symm.trans hv)
      have sT := same_upd (o := .tup [.int (ps.getD i 0), .int (ws.getD i 0)]) nT
      refine ⟨T, _, rfl, .inl (.inl upd_same), rfl, _, _, rfl, _, _, rfl, rfl, ?_⟩
      refine ⟨_, rfl, _, rfl, _, _, rfl, rfl, .inr ⟨by omega, by omega⟩, _, rfl, _, rfl, _, _, rfl, rfl, .inl (mul_ok (w := 0) ok), _, _, rfl, rfl, ?_⟩
      have mo := offL_more t ws ps ws.sum i
      refine ⟨_, rfl, _, rfl, _, _, rfl, rfl, _, rfl, ite2 (fun c => ?_) (fun c => ?_)⟩
      · have c' : ps.getD i 0 * ws.sum - t * ws.getD i 0 < 0 := of_decide_eq_true c
        refine ⟨_, rfl, _, rfl, _, _, rfl, rfl, some (.int (ps.getD i 0)), some (.int (ws.getD i 0)), some (.int (ps.getD i 0 * ws.sum - t * ws.getD i 0)), ?_, sm.trans sT⟩
        rw [mo]
        unfold ab
        rw [if_pos c']
        rfl
      · have c' : ¬ ps.getD i 0 * ws.sum - t * ws.getD i 0 < 0 := fun z => c (decide_eq_true z)
        refine ⟨_, rfl, _, _, rfl, rfl, some (.int (ps.getD i 0)), some (.int (ws.getD i 0)), some (.int (ps.getD i 0 * ws.sum - t * ws.getD i 0)), ?_, sm.trans sT⟩
        rw [mo]
        unfold ab
        rw [if_neg c']
        rfl
    · rintro σ H1 ⟨y5, y6, y7, rfl, sm⟩
      exact ⟨_, rfl, q H1 sm⟩
/-! ### _law_let -/
def spLet (K : PySem.W.Frag) : Sp := fun vs H Q _ => ∃ (a : Addr) (v : V) (t : Int) (ws ps : List Int), vs = [.int t, .ref a, v] ∧ SqT K H a (ws.map V.int) ∧ Dp K H v (dRow ps) ∧ ps.length = ws.length ∧ ps.sum = t ∧ OkW t ws ∧
  (passes t ws ps → ∀ H', Same H H' → Q (.int (off t ws ps)) H') ∧ (¬ passes t ws ps → ∀ H', Same H H' → Q .non H')
theorem ok_let {C f fLs : Addr} {fd fdLs : FuncData} (F : Fun K "_law_let" "_law_let" sLet f fd) (gNp : mg "NoPaper" = some (.ref C)) (eNp : PySem.W.exmOne K (.ref C) (.ref C) = some true)
    (GLs : FnOk P w K mg base (L2.CX P w) 4 fLs fdLs ["total", "weights", "thing"] (spLs K C)) (kLs : PySem.W.keepIn K (.ref fLs) = true) (bLs : Binds K fdLs ["total", "weights", "thing"] []) (gLs : mg "lets_split" = some (.ref fLs)) :
    FnOk P w K mg base CX0 5 f fd ["_law_total", "_law_weights_here", "_law_thing"] (spLet K) := by
  refine F.ok scLet (fun vs H Q E h => ?_) (fun cdv A outer s H vs Q E hr h => ?_)
  · obtain ⟨a, v, t, ws, ps, rfl, _⟩ := h
    rfl
  · obtain ⟨a, v, t, ws, ps, rfl, hA, hd, pl, es, ok, q1, q2⟩ := h
    refine ⟨_, pss_one (ps_try_only rfl rfl ⟨rfl, by decide, .inl gNp⟩ takes0 (fun W pn xe tk _ => pss_one (ps_ret (pe_callS GLs (hr.mono (by decide)) (by rfl) gLs kLs bLs (fun σ => passAt tk σ) (pa_cons (pv 0) (pa_cons (pv 1) (pa_cons (pv 2) pa_nil)))))) (fun a oe cls d pn _ _ => pss_one (ps_ret pe_non))), ?_⟩
    have tu : isTup ws.length (dRow ps) = true := by
      show decide (((dInts ps).length : Int) = ws.length) = true
      unfold dInts
      rw [List.length_map, pl]
      exact decide_eq_true rfl
    refine ⟨_, rfl, _, rfl, _, rfl, a, v, t, ws, dRow ps, rfl, hA, ok, hd, fun z => ?_, fun ds i dd e dl hi hn _ => ?_, fun qs e ql => ?_⟩
    · rw [tu] at z
      cases z
    · obtain rfl : dInts ps = ds := PyData.tuple.inj e
      obtain ⟨n, _, rfl⟩ := map_get hi
      cases hn
    · have e' : dInts ps = dInts qs := PyData.tuple.inj e
      obtain rfl : ps = qs := by
        have inj : ∀ {a b : List Int}, dInts a = dInts b → a = b := fun {a} => by
          induction a with
          | nil =>
            intro b h
            cases b with
            | nil => rfl
            | cons y b => cases h
          | cons x a ih =>
            intro b h
            cases b with
            | nil => cases h
            | cons y b =>
              have h1 := List.cons.inj h
              rw [PyData.int.inj h1.1, ih h1.2]
        exact inj e'
      refine ⟨fun z => absurd es z, fun _ => ⟨fun i hi hb hj => ?_, fun hc i hi hb hj => ?_, fun hp H' s' => q1 hp H' s'⟩⟩
      · intro H' d s' nd ed
        refine ⟨true, eNp, fun _ a ha => ?_, fun z => nomatch z⟩
        refine q2 (fun hp => ?_) H' s'
        rw [hp.1 i hi] at hb
        cases hb
      · intro H' d s' nd ed
        refine ⟨true, eNp, fun _ a ha => ?_, fun z => nomatch z⟩
        refine q2 (fun hp => ?_) H' s'
        rw [hp.2 i hi] at hb
        cases hb
end
end K11

set_option Elab.async false
set_option linter.all false
set_option maxRecDepth 100000
set_option maxHeartbeats 2000000
namespace K11
open PySem PySem.Spec PyProof.Rows L2 TB K09

theorem scLaw : FnScope ["_law_script", "_law_feed_here", "_law_turn", "_law_weights_here", "_law_total", "_law_rows", "_law_away", "_law_bar", "_law_wanted", "_law_row", "_law_own"] ["_law_script"] (defScope sLaw) := ⟨rfl, rfl, rfl, by decide +kernel, rfl, by decide +kernel, by decide +kernel⟩
theorem off_bound {t : Int} {ws ps : List Int} (ok : OkW t ws) (pl : ps.length = ws.length) (h : passes t ws ps) : 0 ≤ off t ws ps ∧ off t ws ps ≤ 1000000000000 := by
  have s0 := ok.s0
  obtain ⟨_, s1⟩ := sum_le ok.w0
  have n1 := ok.n1
  have each : ∀ i, i < ws.length → 0 ≤ ab (ps.getD i 0 * ws.sum - t * ws.getD i 0) ∧ ab (ps.getD i 0 * ws.sum - t * ws.getD i 0) ≤ ws.sum := fun i hi => by
    obtain ⟨_, r0, r1⟩ := place ok hi
    rw [step_at ok ps hi]
    rcases badC_no (h.1 i (by omega)) with e | e
    · rw [e, Int.sub_self, Int.zero_mul, ab_neg (by omega)]
      omega
    · rw [e, show (lows t ws).getD i 0 + 1 - (lows t ws).getD i 0 = 1 by omega, Int.one_mul, ab_pos (by omega)]
      omega
  have up : ∀ n, n ≤ ws.length → 0 ≤ sumN n (fun i => ab (ps.getD i 0 * ws.sum - t * ws.getD i 0)) ∧ sumN n (fun i => ab (ps.getD i 0 * ws.sum - t * ws.getD i 0)) ≤ 12000000000 * n := by
    intro n
    induction n with
    | zero => exact fun _ => ⟨Int.le_refl _, Int.le_refl _⟩
    | succ n ih =>
      intro hn
      obtain ⟨a, b⟩ := ih (by omega)
      have := each n (by omega)
      rw [sumN_succ]
      exact ⟨by omega, by push_cast; omega⟩
  rw [off_sum]
  have := up ws.length (Nat.le_refl _)
  exact ⟨this.1, by omega⟩
def vW (t : Int) (ws : List Int) (b : Int) (r : List Int) : V := if off t ws r = b then .int b else .non
def dW (t : Int) (ws : List Int) (b : Int) (r : List Int) : PyData := if off t ws r = b then .int b else .none
theorem dp_W {K : PySem.W.Frag} {H : Hp} {t : Int} {ws : List Int} {b : Int} : ∀ rs : List (List Int), DpAll K H (rs.map (vW t ws b)) (rs.map (dW t ws b))
  | [] => .nil
  | r :: rs => by
    refine .cons ?_ (dp_W rs)
    unfold vW dW
    by_cases c : off t ws r = b
    · rw [if_pos c, if_pos c]
      exact .int _
    · rw [if_neg c, if_neg c]
      exact .non
theorem sh_W {t : Int} {ws : List Int} {b : Int} (h0 : 0 ≤ b) (h1 : b ≤ 1000000000000) {rs : List (List Int)} (hl : rs.length ≤ 125) : Sh 1 300000 (.list (rs.map (dW t ws b))) := by
  refine (sh_lst (k := 0) (n := 1921) fun d hd => ?_).mono (by omega) (by rw [List.length_map]; omega)
  obtain ⟨r, _, rfl⟩ := List.mem_map.mp hd
  unfold dW
  by_cases c : off t ws r = b
  · rw [if_pos c]
    exact sh_int (by omega)
  · rw [if_neg c]
    exact ⟨rfl, rfl, by decide, by decide⟩
section
variable {P : Program} {w : World} {K : PySem.W.Frag} {mg : Str → Option Value} {base : Heap}
/-! ### the law -/
def spLaw (K : PySem.W.Frag) : Sp := fun vs H Q _ => ∃ (a : Addr) (ns : List Int), vs = [.ref a] ∧ SqL K H a (ns.map V.int) ∧ ns.length ≤ 63 ∧ ∀ H', Q (.bl true) H'
theorem ok_law {f fFd fR fW fAl fOf fLe fS : Addr} {fd fdFd fdR fdW fdAl fdOf fdLe fdS : FuncData} (F : Fun K "law" "law" sLaw f fd)
    (GFd : FnOk P w K mg base CX0 1 fFd fdFd ["_law_script"] (spFeed K)) (kFd : PySem.W.keepIn K (.ref fFd) = true) (bFd : Binds K fdFd ["_law_script"] []) (gFd : mg "_law_feed" = some (.ref fFd))
    (GDr : FnOk P w K mg base CX0 1 fR fdR ["_law_feed_here", "_law_many"] spDraw) (kDr : PySem.W.keepIn K (.ref fR) = true) (bDr : Binds K fdR ["_law_feed_here", "_law_many"] []) (gDr : mg "_law_draw" = some (.ref fR))
    (GW : FnOk P w K mg base CX0 2 fW fdW ["_law_feed_here", "_law_many"] spWe) (kW : PySem.W.keepIn K (.ref fW) = true) (bW : Binds K fdW ["_law_feed_here", "_law_many"] []) (gW : mg "_law_weights" = some (.ref fW))
    (GAl : FnOk P w K mg base CX0 1 fAl fdAl ["_law_many", "_law_total"] (spAl K)) (kAl : PySem.W.keepIn K (.ref fAl) = true) (bAl : Binds K fdAl ["_law_many", "_law_total"] []) (gAl : mg "_law_all" = some (.ref fAl))
    (GOf : FnOk P w K mg base CX0 1 fOf fdOf ["_law_total", "_law_weights_here", "_law_row"] (spOf K)) (kOf : PySem.W.keepIn K (.ref fOf) = true) (bOf : Binds K fdOf ["_law_total", "_law_weights_here", "_law_row"] []) (gOf : mg "_law_off" = some (.ref fOf))
    (GLe : FnOk P w K mg base CX0 5 fLe fdLe ["_law_total", "_law_weights_here", "_law_thing"] (spLet K)) (kLe : PySem.W.keepIn K (.ref fLe) = true) (bLe : Binds K fdLe ["_law_total", "_law_weights_here", "_law_thing"] []) (gLe : mg "_law_let" = some (.ref fLe))
    (GS : FnOk P w K mg base CX0 3 fS fdS ["total", "weights"] (spL K parts)) (kS : PySem.W.keepIn K (.ref fS) = true) (bS : Binds K fdS ["total", "weights"] []) (gS : mg "split" = some (.ref fS))
    (m_range : mg "range" = none) (m_repr : mg "repr" = none) (m_min : mg "min" = none) (m_len : mg "len" = none) : FnG P w K mg base CX0 6 f fd ["_law_script"] (spLaw K) := by
  refine gok F scLaw (fun vs H Q E h => ?_) (fun cdv A gd outer s H vs Q E hr h => ?_)
  · obtain ⟨a, ns, rfl, _⟩ := h
    rfl
  · obtain ⟨a, ns, rfl, hS, hlen, q⟩ := h
    refine ⟨_, (pss_cons (ps_set (i := 1) scLaw.nd rfl (.inl rfl) (pe_call GFd (hr.mono (by decide)) (by rfl) gFd kFd bFd .nil pass0 (pa_cons (pv 0) pa_nil)))
      (pss_cons (ps_for PassesOwn.never rfl (pi_range1 (by rfl) m_range (pa_cons pe_int pa_nil)) (pg_name (i := 2) scLaw.nd rfl (.inl rfl)) (pss_cons (ps_set (i := 3) scLaw.nd rfl (.inr rfl) (pe_call GW (hr.mono (by decide)) (by rfl) gW kW bW .nil pass0 (pa_cons (pv 1) (pa_cons pe_int pa_nil))))
      (pss_cons (ps_cut (ps_set (i := 4) scLaw.nd rfl (.inr rfl) (pe_call GDr (hr.mono (by decide)) (by rfl) gDr kDr bDr .nil pass0 (pa_cons (pv 1) (pa_cons (pe_ifExp (pt_cmpR op_lt (pe_callB call_len_seq (by rfl) m_len (by decide +kernel) (pa_cons (pv 3) pa_nil)) pe_int (nomark _)) pe_int pe_int) pa_nil)))))
      (pss_cons (ps_set (i := 5) scLaw.nd rfl (.inl rfl) (pe_call GAl (hr.mono (by decide)) (by rfl) gAl kAl bAl .nil pass0 (pa_cons (pe_callB call_len_seq (by rfl) m_len (by decide +kernel) (pa_cons (pv 3) pa_nil)) (pa_cons (pv 4) pa_nil))))
      (pss_cons (ps_setLc (i := 6) (own := [("_law_row", 9)]) (g := gName 9) (tt := tYes) rfl scLaw.nd rfl rfl (sw_true rfl rfl rfl (by decide +kernel)) (pi_list (pv 5)) (blkOk_by (own := [("_law_row", 9)]) (N := ["_law_script", "_law_feed_here", "_law_turn", "_law_weights_here", "_law_total", "_law_rows", "_law_away", "_law_bar", "_law_wanted", "_law_row", "_law_own"]) (sc := defScope sLaw) (by decide +kernel)) (fun _ _ _ _ _ => (pg_name (i := 9) scLaw.nd rfl (.inl rfl))) (fun _ _ _ _ _ => pts_nil) (fun _ _ _ _ _ => (pe_call GOf (hr.mono (by decide)) (by rfl) gOf kOf bOf .nil pass0 (pa_cons (pv 4) (pa_cons (pv 3) (pa_cons (pv 9) pa_nil))))))
      (pss_cons (ps_set (i := 7) scLaw.nd rfl (.inr rfl) (pe_callB (cr_min rfl) (by rfl) m_min (by decide +kernel) (pa_cons (pv 6) pa_nil)))
      (pss_cons (ps_setLc (i := 8) (own := [("_law_own", 10)]) (g := gName 10) (tt := tYes) rfl scLaw.nd rfl rfl (sw_true rfl rfl rfl (by decide +kernel)) (pi_list (pv 6)) (blkOk_by (own := [("_law_own", 10)]) (N := ["_law_script", "_law_feed_here", "_law_turn", "_law_weights_here", "_law_total", "_law_rows", "_law_away", "_law_bar", "_law_wanted", "_law_row", "_law_own"]) (sc := defScope sLaw) (by decide +kernel)) (fun _ _ _ _ _ => (pg_name (i := 10) scLaw.nd rfl (.inl rfl))) (fun _ _ _ _ _ => pts_nil) (fun _ _ _ _ _ => (pe_ifExp (pt_cmpR op_eq (pv 10) (pv 7) (nomark _)) (pv 7) pe_non)))
      (pss_cons (ps_if (pt_cmpR op_ne (pe_callB (call_reprT gd hr.units) (by rfl) m_repr (by decide +kernel) (pa_cons (pe_lc (own := [("_law_row", 9)]) (g := gName 9) (tt := tYes) rfl scLaw.nd (pi_list (pv 5)) (blkOk_by (own := [("_law_row", 9)]) (N := ["_law_script", "_law_feed_here", "_law_turn", "_law_weights_here", "_law_total", "_law_rows", "_law_away", "_law_bar", "_law_wanted", "_law_row", "_law_own"]) (sc := defScope sLaw) (by decide +kernel)) (fun _ _ _ _ _ => (pg_name (i := 9) scLaw.nd rfl (.inl rfl))) (fun _ _ _ _ _ => pts_nil) (fun _ _ _ _ _ => (pe_call GLe (hr.mono (by decide)) (by rfl) gLe kLe bLe .nil pass0 (pa_cons (pv 4) (pa_cons (pv 3) (pa_cons (pv 9) pa_nil)))))) pa_nil)) (pe_callB (call_reprT gd hr.units) (by rfl) m_repr (by decide +kernel) (pa_cons (pv 8) pa_nil)) (nomark _)) (pss_one (ps_ret pe_bl)) pss_nil)
      (pss_one (ps_if (pt_cmpR op_ne (pe_call GLe (hr.mono (by decide)) (by rfl) gLe kLe bLe .nil pass0 (pa_cons (pv 4) (pa_cons (pv 3) (pa_cons (pe_call GS (hr.mono (by decide)) (by rfl) gS kS bS .nil pass0 (pa_cons (pv 4) (pa_cons (pv 3) pa_nil))) pa_nil)))) (pv 7) (nomark _)) (pss_one (ps_ret pe_bl)) pss_nil))))))))))
      (pss_one (ps_ret pe_bl)))), ?_⟩
    have sz : 300000 ≤ sizeLine := by rw [sizeLine_eq]; decide
    refine ⟨_, rfl, a, ns, rfl, hS, by omega, fun H0 L S s0 nL f0 => ?_⟩
    refine ⟨2, rfl, by decide, by decide, ?_⟩
    refine for_range (lo := 0) (n := (2 : Int).toNat) (fun i σ H1 => ∃ y2 y3 y4 y5 y6 y7 y8, σ = [some (.ref a), some (.ref L), y2, y3, y4, y5, y6, y7, y8, none, none] ∧ Feed H1 L S (200 * i)) ⟨_, _, _, _, _, _, _, rfl, f0.mono (by omega)⟩ ?_ ?_
    · rintro i σ H1 hi ⟨y2, y3, y4, y5, y6, y7, y8, rfl, f1⟩
      have hi' : i < 2 := hi
      generalize hTT : 200 * (i : Int) = T at f1
      have hT : T < 2000 := by omega
      refine ⟨_, rfl, L, S, 4, _, rfl, by decide, by decide, f1, by omega, fun H2 r ws k2 f2 er hws w4 => ?_⟩
      have nrL : r ≠ L := by
        obtain ⟨z, ez⟩ := f2.there
        exact ne_of er ez fun z => nomatch z
      show tSeq _ _ _ [some (.ref a), some (.ref L), some (.int (0 + (i : Int))), some (.ref r), y4, y5, y6, y7, y8, none, none] _
      refine ⟨fun σ' H' => ∃ t : Int, σ' = [some (.ref a), some (.ref L), some (.int (0 + (i : Int))), some (.ref r), some (.int t), y5, y6, y7, y8, none, none] ∧ Feed H' L S (T + 151) ∧ H' r = some (.tup (ws.map V.int)) ∧ 0 ≤ t ∧ ((ws.length ≤ 3 ∧ t ≤ 4) ∨ (ws.length ≤ 4 ∧ t ≤ 2)), ?_, ?_⟩
      · refine ⟨_, rfl, _, rfl, r, _, rfl, .inr (.inl (.inl er)), _, _, rfl, rfl, _, rfl, ite2 (fun c => ?_) (fun c => ?_)⟩
        · have c' : ((ws.map V.int).length : Int) < 4 := of_decide_eq_true c
          rw [List.length_map] at c'
          exact ⟨L, S, 5, _, rfl, by decide, by decide, f2, by omega, fun H3 v3 k3 f3 l3 u3 => ⟨v3, rfl, f3.mono (by omega), k3 _ _ nrL er, l3, .inl ⟨by omega, by omega⟩⟩⟩
        · exact ⟨L, S, 3, _, rfl, by decide, by decide, f2, by omega, fun H3 v3 k3 f3 l3 u3 => ⟨v3, rfl, f3.mono (by omega), k3 _ _ nrL er, l3, .inr ⟨by omega, by omega⟩⟩⟩
      rintro σ' H3 ⟨t, rfl, f3, er3, t0, sm⟩
      have ok : OkW t ws := hws.ok t0 (by omega)
      have hr3 : SqT K H3 r (ws.map V.int) := .inl (.inl er3)
      -- rows
      refine ⟨_, rfl, r, _, rfl, .inr hr3, _, rfl, (ws.map V.int).length, t, rfl, by rw [List.length_map]; exact hws.n0, t0, by rw [List.length_map]; exact sm, fun H4 R us s4 eR dv => ?_⟩
      rw [List.length_map] at dv
      have rows : ∀ x ∈ allR ws.length t, x.length = ws.length ∧ x.sum = t := fun x hx => allR_row hws.n0 hx
      have rl : (allR ws.length t).length ≤ 125 := by
        unfold allR
        rw [List.length_map, rowsN_len]
        exact few t0 sm (Nat.le_refl _)
      have pm := allR_parts ok
      have pp := parts_pass ok
      generalize allR ws.length t = RR at *
      have ul := DpAll.len dv
      rw [List.length_map] at ul
      have hr4 := TB.Same.tup s4 hr3
      show tSeq _ _ _ [some (.ref a), some (.ref L), some (.int (0 + (i : Int))), some (.ref r), some (.int t), some (.ref R), y6, y7, y8, none, none] _
      -- away
      refine ⟨_, rfl, R, rfl, ⟨_, .inl (.inl eR)⟩, fun D nD => ?_⟩
      refine lc_list (xs := us) (fun m H5 => Same H4 H5 ∧ H5 D = some (.lst (((RR.take m).map (off t ws)).map V.int))) ⟨same_upd nD, upd_same⟩ ?_ ?_ ?_
      · rintro m H5 _ ⟨s5, _⟩
        exact .inl (.inl (s5 _ _ eR))
      · rintro m x H5 hx ⟨s5, eD⟩
        obtain ⟨d, hd, dx⟩ := DpAll.get dv hx
        obtain ⟨row, hrow, rfl⟩ := map_get hd
        obtain ⟨p, rfl, hp⟩ := row_at dx
        refine ⟨rfl, yes (iteT ?_)⟩
        refine ⟨_, rfl, _, rfl, _, rfl, r, p, t, ws, row, rfl, TB.Same.tup s5 hr4, TB.Same.tup s5 hp, (rows row (List.mem_of_getElem? hrow)).1, ok, fun H6 s6 => ?_⟩
        refine ⟨_, s6 _ _ eD, ?_, same_new nD (s5.trans s6), ?_⟩
        · rw [List.length_map, List.length_map]
          have := List.length_take_le' m RR
          exact small1000 (by omega)
        · rw [upd_same, map_take_more hrow, List.map_append]
          rfl
      rintro H5 ⟨s5, eD⟩
      rw [List.take_of_length_le (by omega)] at eD
      show tSeq _ _ _ [some (.ref a), some (.ref L), some (.int (0 + (i : Int))), some (.ref r), some (.int t), some (.ref R), some (.ref D), y7, y8, none, none] _
      -- bar
      refine ⟨_, rfl, D, _, rfl, .inl (.inl eD), by rw [List.length_map]; exact List.length_pos_of_mem pm, fun b hb hmin => ?_⟩
      have eb : b = off t ws (parts t ws) := by
        have h1 := hmin _ (List.mem_map.mpr ⟨_, pm, rfl⟩)
        obtain ⟨q1, hq1, rfl⟩ := List.mem_map.mp hb
        obtain ⟨ql, qs⟩ := rows q1 hq1
        have h2 := (least ok (parts_len t ws) (parts_sum ok) pp ql qs).1
        omega
      have key : ∀ x ∈ RR, (passes t ws x ↔ off t ws x = b) := fun x hx => by
        obtain ⟨xl, xs⟩ := rows x hx
        obtain ⟨l1, l2⟩ := least ok (parts_len t ws) (parts_sum ok) pp xl xs
        constructor
        · intro hp
          have := (least ok xl xs hp (parts_len t ws) (parts_sum ok)).1
          omega
        · intro e
          exact l2 (by omega)
      obtain ⟨b0, b1⟩ := off_bound ok (parts_len t ws) pp
      rw [← eb] at b0 b1
      show tSeq _ _ _ [some (.ref a), some (.ref L), some (.int (0 + (i : Int))), some (.ref r), some (.int t), some (.ref R), some (.ref D), some (.int b), y8, none, none] _
      -- wanted
      refine ⟨_, rfl, D, rfl, ⟨_, .inl (.inl eD)⟩, fun D2 nD2 => ?_⟩
      refine lc_list (xs := (RR.map (off t ws)).map V.int) (fun m H6 => Same H5 H6 ∧ H6 D2 = some (.lst ((RR.take m).map (vW t ws b)))) ⟨same_upd nD2, upd_same⟩ ?_ ?_ ?_
      · rintro m H6 _ ⟨s6, _⟩
        exact .inl (.inl (s6 _ _ eD))
      · rintro m x H6 hx ⟨s6, eD2⟩
        obtain ⟨o, ho, rfl⟩ := map_int hx
        obtain ⟨row, hrow, rfl⟩ := map_get ho
        have fin : ∀ z : V, z = vW t ws b row → ∃ acc, H6 D2 = some (.lst acc) ∧ acc.length < sizeLine ∧ (Same H5 (upd H6 D2 (.lst (acc ++ [z]))) ∧ (upd H6 D2 (.lst (acc ++ [z]))) D2 = some (.lst ((RR.take (m + 1)).map (vW t ws b)))) := fun z ez => by
          refine ⟨_, eD2, ?_, same_new nD2 s6, ?_⟩
          · rw [List.length_map]
            have := List.length_take_le' m RR
            exact small1000 (by omega)
          · rw [upd_same, map_take_more hrow, ez]
        refine ⟨rfl, yes (iteT ?_)⟩
        refine ⟨_, rfl, _, rfl, rfl, _, rfl, ite2 (fun c => ?_) (fun c => ?_)⟩
        · have c' : off t ws row = b := V.int.inj (of_decide_eq_true c)
          refine ⟨_, rfl, fin _ ?_⟩
          unfold vW
          rw [if_pos c']
        · have c' : ¬ off t ws row = b := fun z => c (decide_eq_true (by rw [z]))
          refine fin _ ?_
          unfold vW
          rw [if_neg c']
      rintro H6 ⟨s6, eD2⟩
      rw [List.take_of_length_le (by rw [List.length_map, List.length_map]; exact Nat.le_refl _)] at eD2
      have s46 := s5.trans s6
      have hr6 := TB.Same.tup s46 hr4
      show tSeq _ _ _ [some (.ref a), some (.ref L), some (.int (0 + (i : Int))), some (.ref r), some (.int t), some (.ref R), some (.ref D), some (.int b), some (.ref D2), none, none] _
      -- all let
      refine ⟨_, rfl, R, rfl, ⟨_, .inl (.inl (s46 _ _ eR))⟩, fun D3 nD3 => ?_⟩
      refine lc_list (xs := us) (fun m H7 => Same H6 H7 ∧ H7 D3 = some (.lst ((RR.take m).map (vW t ws b)))) ⟨same_upd nD3, upd_same⟩ ?_ ?_ ?_
      · rintro m H7 _ ⟨s7, _⟩
        exact .inl (.inl (s7 _ _ (s46 _ _ eR)))
      · rintro m x H7 hx ⟨s7, eD3⟩
        obtain ⟨d, hd, dx⟩ := DpAll.get dv hx
        obtain ⟨row, hrow, rfl⟩ := map_get hd
        have hm := List.mem_of_getElem? hrow
        obtain ⟨xl, xs⟩ := rows row hm
        have fin : ∀ (z : V) (H8 : Hp), Same H7 H8 → z = vW t ws b row → ∃ acc, H8 D3 = some (.lst acc) ∧ acc.length < sizeLine ∧ (Same H6 (upd H8 D3 (.lst (acc ++ [z]))) ∧ (upd H8 D3 (.lst (acc ++ [z]))) D3 = some (.lst ((RR.take (m + 1)).map (vW t ws b)))) := fun z H8 s8 ez => by
          refine ⟨_, s8 _ _ eD3, ?_, same_new nD3 (s7.trans s8), ?_⟩
          · rw [List.length_map]
            have := List.length_take_le' m RR
            exact small1000 (by omega)
          · rw [upd_same, map_take_more hrow, ez]
        refine ⟨rfl, yes (iteT ?_)⟩
        refine ⟨_, rfl, _, rfl, _, rfl, r, x, t, ws, row, rfl, TB.Same.tup s7 hr6, Dp.same (s46.trans s7) _ _ dx, xl, xs, ok, fun hp H8 s8 => fin _ H8 s8 ?_, fun hp H8 s8 => fin _ H8 s8 ?_⟩
        · have e := (key row hm).mp hp
          unfold vW
          rw [if_pos e, e]
        · unfold vW
          rw [if_neg fun e => hp ((key row hm).mpr e)]
      rintro H7 ⟨s7, eD3⟩
      rw [List.take_of_length_le (by omega)] at eD3
      have sh := sh_W (t := t) (ws := ws) b0 b1 rl
      refine ⟨D3, .list (RR.map (dW t ws b)), rfl, .lst (.inl (.inl eD3)) (dp_W RR), sh.sh, sh.nd, Nat.le_trans sh.dp (by omega), Nat.le_trans sh.ln sz, ?_⟩
      have eD2' : H7 D2 = some (.lst (RR.map (vW t ws b))) := s7 _ _ eD2
      refine ⟨_, rfl, D2, .list (RR.map (dW t ws b)), rfl, .lst (.inl (.inl eD2')) (dp_W RR), sh.sh, sh.nd, Nat.le_trans sh.dp (by omega), Nat.le_trans sh.ln sz, rfl, _, rfl, iteNS rfl ?_⟩
      -- the split
      have hr7 := TB.Same.tup s7 hr6
      refine ⟨_, rfl, _, rfl, _, rfl, _, rfl, r, t, ws, rfl, hr7, ok, fun H8 p s8 np ep => ?_⟩
      refine ⟨r, .ref p, t, ws, parts t ws, rfl, TB.Same.tup s8 hr7, .tup (.inl (.inl ep)) (dp_ints _), parts_len t ws, parts_sum ok, ok, fun _ H9 s9 => ?_, fun hn => absurd pp hn⟩
      refine ⟨_, rfl, rfl, _, rfl, iteNS (by rw [eb]) ?_⟩
      exact ⟨_, _, _, _, _, _, _, rfl, ((f3.same (s4.trans (s46.trans s7))).same (s8.trans s9)).mono (by omega)⟩
    · rintro σ H1 ⟨y2, y3, y4, y5, y6, y7, y8, rfl, _⟩
      exact q H1
end
end K11

set_option Elab.async false
set_option linter.all false
set_option maxRecDepth 100000
namespace K11
open PySem PySem.Spec PyProof.Rows L2 TB K09
theorem exm_own {K : PySem.W.Frag} {S : Addr} (hB : PySem.W.subIn K (.ref S) (.type "BaseException") = some true) (hC : PySem.W.isClsIn K S = true) (hT : PySem.W.typeIn K (.ref S) = some (.type "type")) (hS : PySem.W.subIn K (.ref S) (.ref S) = some true) :
    PySem.W.exmOne K (.ref S) (.ref S) = some true := by
  have c1 : (PySem.W.subIn K (.ref S) (.type "BaseException") == some true) = true := by rw [hB] <;> rfl
  have c2 : ((PySem.W.clsIn K S).isSome && PySem.W.typeIn K (.ref S) == some (.type "type")) = true := by
    have z : (PySem.W.clsIn K S).isSome = true := hC
    rw [z, hT] <;> rfl
  show ite ((PySem.W.subIn K (.ref S) (.type "BaseException") == some true) = true) (ite (((PySem.W.clsIn K S).isSome && PySem.W.typeIn K (.ref S) == some (.type "type")) = true) (PySem.W.subIn K (.ref S) (.ref S)) none) none = some true
  rw [if_pos c1, if_pos c2]
  exact hS
theorem all_mk {l : PySem.W.OpenLaw} {w : World} {K : PySem.W.Frag} {h : Heap} {mg : Str → Option Value} {fa : Addr} (X : K.In h) (G : h.Ns mainGlobals mg) (hfa : mg "law" = some (.ref fa))
    {f1 : Addr} {od1 an1 : Option Addr} {sl1 : Array (Option Value)} {oc1 kV1 dc1 pm1 cd1 ct1 : Value}
    {f2 : Addr} {od2 an2 : Option Addr} {sl2 : Array (Option Value)} {oc2 kV2 dc2 pm2 cd2 ct2 : Value}
    {f3 : Addr} {od3 an3 : Option Addr} {sl3 : Array (Option Value)} {oc3 kV3 dc3 pm3 cd3 ct3 : Value}
    {f4 : Addr} {od4 an4 : Option Addr} {sl4 : Array (Option Value)} {oc4 kV4 dc4 pm4 cd4 ct4 : Value}
    {f5 : Addr} {od5 an5 : Option Addr} {sl5 : Array (Option Value)} {oc5 kV5 dc5 pm5 cd5 ct5 : Value}
    {f6 : Addr} {od6 an6 : Option Addr} {sl6 : Array (Option Value)} {oc6 kV6 dc6 pm6 cd6 ct6 : Value}
    {f7 : Addr} {od7 an7 : Option Addr} {sl7 : Array (Option Value)} {oc7 kV7 dc7 pm7 cd7 ct7 : Value}
    {f8 : Addr} {od8 an8 : Option Addr} {sl8 : Array (Option Value)} {oc8 kV8 dc8 pm8 cd8 ct8 : Value}
    {f9 : Addr} {od9 an9 : Option Addr} {sl9 : Array (Option Value)} {oc9 kV9 dc9 pm9 cd9 ct9 : Value}
    {f10 : Addr} {od10 an10 : Option Addr} {sl10 : Array (Option Value)} {oc10 kV10 dc10 pm10 cd10 ct10 : Value}
    {f11 : Addr} {od11 an11 : Option Addr} {sl11 : Array (Option Value)} {oc11 kV11 dc11 pm11 cd11 ct11 : Value}
    {f12 : Addr} {od12 an12 : Option Addr} {sl12 : Array (Option Value)} {oc12 kV12 dc12 pm12 cd12 ct12 : Value}
    {f13 : Addr} {od13 an13 : Option Addr} {sl13 : Array (Option Value)} {oc13 kV13 dc13 pm13 cd13 ct13 : Value}
    {f14 : Addr} {od14 an14 : Option Addr} {sl14 : Array (Option Value)} {oc14 kV14 dc14 pm14 cd14 ct14 : Value}
    {f15 : Addr} {od15 an15 : Option Addr} {sl15 : Array (Option Value)} {oc15 kV15 dc15 pm15 cd15 ct15 : Value}
    {BE : Addr}
    {CNp NNp fINp : Addr} {nmNp qnNp : Str} {bsNp : List Value} {snNp : List Str} {subNp : List Value} {abNp : Bool} {colNp : Option Bool} {ddNp : Option Addr} {mm0Np mm1Np mm2Np mm3Np mm5Np : Option Value}
    {odINp anINp : Option Addr} {slINp : Array (Option Value)} {ocINp kVINp dcINp pmINp cdINp ctINp : Value}
    (a1 : PySem.W.nsIn K mainGlobals "is_number" = some (some (.ref f1)))
    (l1 : K.lookup f1 = some ⟨oc1, od1, .func (PySem.W.fnOf "is_number" "is_number" (defArgs sNu) (defBody sNu) (defScope sNu) .none kV1 dc1 pm1 an1 cd1 ct1), sl1⟩)
    (c1 : PySem.W.codeIn K cd1 "is_number" = true) (k1 : PySem.W.keepIn K (.ref f1) = true)
    (a2 : PySem.W.nsIn K mainGlobals "is_tuple_of" = some (some (.ref f2)))
    (l2 : K.lookup f2 = some ⟨oc2, od2, .func (PySem.W.fnOf "is_tuple_of" "is_tuple_of" (defArgs sTu) (defBody sTu) (defScope sTu) .none kV2 dc2 pm2 an2 cd2 ct2), sl2⟩)
    (c2 : PySem.W.codeIn K cd2 "is_tuple_of" = true) (k2 : PySem.W.keepIn K (.ref f2) = true)
    (a3 : PySem.W.nsIn K mainGlobals "cuts" = some (some (.ref f3)))
    (l3 : K.lookup f3 = some ⟨oc3, od3, .func (PySem.W.fnOf "cuts" "cuts" (defArgs sCu) (defBody sCu) (defScope sCu) .none kV3 dc3 pm3 an3 cd3 ct3), sl3⟩)
    (c3 : PySem.W.codeIn K cd3 "cuts" = true) (k3 : PySem.W.keepIn K (.ref f3) = true)
    (a4 : PySem.W.nsIn K mainGlobals "rests" = some (some (.ref f4)))
    (l4 : K.lookup f4 = some ⟨oc4, od4, .func (PySem.W.fnOf "rests" "rests" (defArgs sRe) (defBody sRe) (defScope sRe) .none kV4 dc4 pm4 an4 cd4 ct4), sl4⟩)
    (c4 : PySem.W.codeIn K cd4 "rests" = true) (k4 : PySem.W.keepIn K (.ref f4) = true)
    (a5 : PySem.W.nsIn K mainGlobals "split" = some (some (.ref f5)))
    (l5 : K.lookup f5 = some ⟨oc5, od5, .func (PySem.W.fnOf "split" "split" (defArgs sSp) (defBody sSp) (defScope sSp) .none kV5 dc5 pm5 an5 cd5 ct5), sl5⟩)
    (c5 : PySem.W.codeIn K cd5 "split" = true) (k5 : PySem.W.keepIn K (.ref f5) = true)
    (a6 : PySem.W.nsIn K mainGlobals "lets_split" = some (some (.ref f6)))
    (l6 : K.lookup f6 = some ⟨oc6, od6, .func (PySem.W.fnOf "lets_split" "lets_split" (defArgs sLs) (defBody sLs) (defScope sLs) .none kV6 dc6 pm6 an6 cd6 ct6), sl6⟩)
    (c6 : PySem.W.codeIn K cd6 "lets_split" = true) (k6 : PySem.W.keepIn K (.ref f6) = true)
    (a7 : PySem.W.nsIn K mainGlobals "look_at_cuts" = some (some (.ref f7)))
    (l7 : K.lookup f7 = some ⟨oc7, od7, .func (PySem.W.fnOf "look_at_cuts" "look_at_cuts" (defArgs sLc) (defBody sLc) (defScope sLc) .none kV7 dc7 pm7 an7 cd7 ct7), sl7⟩)
    (c7 : PySem.W.codeIn K cd7 "look_at_cuts" = true) (k7 : PySem.W.keepIn K (.ref f7) = true)
    (a8 : PySem.W.nsIn K mainGlobals "look_at_rests" = some (some (.ref f8)))
    (l8 : K.lookup f8 = some ⟨oc8, od8, .func (PySem.W.fnOf "look_at_rests" "look_at_rests" (defArgs sLr) (defBody sLr) (defScope sLr) .none kV8 dc8 pm8 an8 cd8 ct8), sl8⟩)
    (c8 : PySem.W.codeIn K cd8 "look_at_rests" = true) (k8 : PySem.W.keepIn K (.ref f8) = true)
    (a9 : PySem.W.nsIn K mainGlobals "_law_feed" = some (some (.ref f9)))
    (l9 : K.lookup f9 = some ⟨oc9, od9, .func (PySem.W.fnOf "_law_feed" "_law_feed" (defArgs sFeed) (defBody sFeed) (defScope sFeed) .none kV9 dc9 pm9 an9 cd9 ct9), sl9⟩)
    (c9 : PySem.W.codeIn K cd9 "_law_feed" = true) (k9 : PySem.W.keepIn K (.ref f9) = true)
    (a10 : PySem.W.nsIn K mainGlobals "_law_draw" = some (some (.ref f10)))
    (l10 : K.lookup f10 = some ⟨oc10, od10, .func (PySem.W.fnOf "_law_draw" "_law_draw" (defArgs sDraw) (defBody sDraw) (defScope sDraw) .none kV10 dc10 pm10 an10 cd10 ct10), sl10⟩)
    (c10 : PySem.W.codeIn K cd10 "_law_draw" = true) (k10 : PySem.W.keepIn K (.ref f10) = true)
    (a11 : PySem.W.nsIn K mainGlobals "_law_weights" = some (some (.ref f11)))
    (l11 : K.lookup f11 = some ⟨oc11, od11, .func (PySem.W.fnOf "_law_weights" "_law_weights" (defArgs sWe) (defBody sWe) (defScope sWe) .none kV11 dc11 pm11 an11 cd11 ct11), sl11⟩)
    (c11 : PySem.W.codeIn K cd11 "_law_weights" = true) (k11 : PySem.W.keepIn K (.ref f11) = true)
    (a12 : PySem.W.nsIn K mainGlobals "_law_all" = some (some (.ref f12)))
    (l12 : K.lookup f12 = some ⟨oc12, od12, .func (PySem.W.fnOf "_law_all" "_law_all" (defArgs sAll) (defBody sAll) (defScope sAll) .none kV12 dc12 pm12 an12 cd12 ct12), sl12⟩)
    (c12 : PySem.W.codeIn K cd12 "_law_all" = true) (k12 : PySem.W.keepIn K (.ref f12) = true)
    (a13 : PySem.W.nsIn K mainGlobals "_law_let" = some (some (.ref f13)))
    (l13 : K.lookup f13 = some ⟨oc13, od13, .func (PySem.W.fnOf "_law_let" "_law_let" (defArgs sLet) (defBody sLet) (defScope sLet) .none kV13 dc13 pm13 an13 cd13 ct13), sl13⟩)
    (c13 : PySem.W.codeIn K cd13 "_law_let" = true) (k13 : PySem.W.keepIn K (.ref f13) = true)
    (a14 : PySem.W.nsIn K mainGlobals "_law_off" = some (some (.ref f14)))
    (l14 : K.lookup f14 = some ⟨oc14, od14, .func (PySem.W.fnOf "_law_off" "_law_off" (defArgs sOff) (defBody sOff) (defScope sOff) .none kV14 dc14 pm14 an14 cd14 ct14), sl14⟩)
    (c14 : PySem.W.codeIn K cd14 "_law_off" = true) (k14 : PySem.W.keepIn K (.ref f14) = true)
    (a15 : PySem.W.nsIn K mainGlobals "law" = some (some (.ref f15)))
    (l15 : K.lookup f15 = some ⟨oc15, od15, .func (PySem.W.fnOf "law" "law" (defArgs sLaw) (defBody sLaw) (defScope sLaw) .none kV15 dc15 pm15 an15 cd15 ct15), sl15⟩)
    (c15 : PySem.W.codeIn K cd15 "law" = true) (k15 : PySem.W.keepIn K (.ref f15) = true)
    (z_isinstance : PySem.W.nsIn K mainGlobals "isinstance" = some none)
    (z_int : PySem.W.nsIn K mainGlobals "int" = some none)
    (z_bool : PySem.W.nsIn K mainGlobals "bool" = some none)
    (z_tuple : PySem.W.nsIn K mainGlobals "tuple" = some none)
    (z_len : PySem.W.nsIn K mainGlobals "len" = some none)
    (z_sum : PySem.W.nsIn K mainGlobals "sum" = some none)
    (z_zip : PySem.W.nsIn K mainGlobals "zip" = some none)
    (z_list : PySem.W.nsIn K mainGlobals "list" = some none)
    (z_sorted : PySem.W.nsIn K mainGlobals "sorted" = some none)
    (z_enumerate : PySem.W.nsIn K mainGlobals "enumerate" = some none)
    (z_any : PySem.W.nsIn K mainGlobals "any" = some none)
    (z_abs : PySem.W.nsIn K mainGlobals "abs" = some none)
    (z_range : PySem.W.nsIn K mainGlobals "range" = some none)
    (z_min : PySem.W.nsIn K mainGlobals "min" = some none)
    (z_repr : PySem.W.nsIn K mainGlobals "repr" = some none)
    (aCNp : PySem.W.nsIn K mainGlobals "NoPaper" = some (some (.ref CNp)))
    (xLNp : K.lookup CNp = some (excClassObj nmNp qnNp CNp NNp bsNp [.ref BE, .type "ValueError", .type "Exception", .type "BaseException", .type "object"] true snNp subNp abNp colNp ddNp mm0Np mm1Np mm2Np mm3Np mm5Np "ValueError.__new__"))
    (saNp : PySem.W.findIn K (.ref CNp) "__setattr__" = some (some (.builtin "object.__setattr__")))
    (kCNp : PySem.W.keepIn K (.ref CNp) = true) (eCNp : PySem.W.subIn K (.ref CNp) (.type "BaseException") = some true) (tCNp : PySem.W.typeIn K (.ref CNp) = some (.type "type"))
    (jCNp : PySem.W.isClsIn K CNp = true) (sCNp : PySem.W.subIn K (.ref CNp) (.ref CNp) = some true)
    (aINp : PySem.W.findIn K (.ref CNp) "__init__" = some (some (.ref fINp))) (tINp : PySem.W.typeIn K (.ref fINp) = some (.type "function"))
    (lINp : K.lookup fINp = some ⟨ocINp, odINp, .func (PySem.W.fnOf "__init__" "NoPaper.__init__" (defArgs sIn) (defBody sIn) (defScope sIn) .none kVINp dcINp pmINp anINp cdINp ctINp), slINp⟩)
    (cINp : PySem.W.codeIn K cdINp "NoPaper.__init__" = true) (kINp : PySem.W.keepIn K (.ref fINp) = true)
    (n_wordNp : PySem.W.findIn K (.ref CNp) "word" = some none)
    (n_atNp : PySem.W.findIn K (.ref CNp) "at" = some none) :
    ∃ fd : FuncData, (∀ (s : Shared) (v : Value), BindsTo s fd ⟨[v], []⟩ [("_law_script", v)]) ∧ ∀ base : Heap, K.In base → base.Ns mainGlobals mg → FnG l.prog w K mg base CX0 6 fa fd ["_law_script"] (spLaw K) := by
  have e := hfa.symm.trans (PySem.W.mg_of X G a15)
  cases e
  have F1 := fun_mk (st := sNu) l1 c1 k1
  have b1 := F1.binds (ps := ["thing"]) fun _ _ _ _ _ _ us hl => match us, hl with | [_], _ => rfl
  have g1 := PySem.W.mg_of X G a1
  have F2 := fun_mk (st := sTu) l2 c2 k2
  have b2 := F2.binds (ps := ["thing", "many"]) fun _ _ _ _ _ _ us hl => match us, hl with | [_, _], _ => rfl
  have g2 := PySem.W.mg_of X G a2
  have F3 := fun_mk (st := sCu) l3 c3 k3
  have b3 := F3.binds (ps := ["total", "weights"]) fun _ _ _ _ _ _ us hl => match us, hl with | [_, _], _ => rfl
  have g3 := PySem.W.mg_of X G a3
  have F4 := fun_mk (st := sRe) l4 c4 k4
  have b4 := F4.binds (ps := ["total", "weights"]) fun _ _ _ _ _ _ us hl => match us, hl with | [_, _], _ => rfl
  have g4 := PySem.W.mg_of X G a4
  have F5 := fun_mk (st := sSp) l5 c5 k5
  have b5 := F5.binds (ps := ["total", "weights"]) fun _ _ _ _ _ _ us hl => match us, hl with | [_, _], _ => rfl
  have g5 := PySem.W.mg_of X G a5
  have F6 := fun_mk (st := sLs) l6 c6 k6
  have b6 := F6.binds (ps := ["total", "weights", "thing"]) fun _ _ _ _ _ _ us hl => match us, hl with | [_, _, _], _ => rfl
  have g6 := PySem.W.mg_of X G a6
  have F7 := fun_mk (st := sLc) l7 c7 k7
  have b7 := F7.binds (ps := ["lows", "parts"]) fun _ _ _ _ _ _ us hl => match us, hl with | [_, _], _ => rfl
  have g7 := PySem.W.mg_of X G a7
  have F8 := fun_mk (st := sLr) l8 c8 k8
  have b8 := F8.binds (ps := ["lows", "left", "parts"]) fun _ _ _ _ _ _ us hl => match us, hl with | [_, _, _], _ => rfl
  have g8 := PySem.W.mg_of X G a8
  have F9 := fun_mk (st := sFeed) l9 c9 k9
  have b9 := F9.binds (ps := ["_law_script"]) fun _ _ _ _ _ _ us hl => match us, hl with | [_], _ => rfl
  have g9 := PySem.W.mg_of X G a9
  have F10 := fun_mk (st := sDraw) l10 c10 k10
  have b10 := F10.binds (ps := ["_law_feed_here", "_law_many"]) fun _ _ _ _ _ _ us hl => match us, hl with | [_, _], _ => rfl
  have g10 := PySem.W.mg_of X G a10
  have F11 := fun_mk (st := sWe) l11 c11 k11
  have b11 := F11.binds (ps := ["_law_feed_here", "_law_many"]) fun _ _ _ _ _ _ us hl => match us, hl with | [_, _], _ => rfl
  have g11 := PySem.W.mg_of X G a11
  have F12 := fun_mk (st := sAll) l12 c12 k12
  have b12 := F12.binds (ps := ["_law_many", "_law_total"]) fun _ _ _ _ _ _ us hl => match us, hl with | [_, _], _ => rfl
  have g12 := PySem.W.mg_of X G a12
  have F13 := fun_mk (st := sLet) l13 c13 k13
  have b13 := F13.binds (ps := ["_law_total", "_law_weights_here", "_law_thing"]) fun _ _ _ _ _ _ us hl => match us, hl with | [_, _, _], _ => rfl
  have g13 := PySem.W.mg_of X G a13
  have F14 := fun_mk (st := sOff) l14 c14 k14
  have b14 := F14.binds (ps := ["_law_total", "_law_weights_here", "_law_row"]) fun _ _ _ _ _ _ us hl => match us, hl with | [_, _, _], _ => rfl
  have g14 := PySem.W.mg_of X G a14
  have F15 := fun_mk (st := sLaw) l15 c15 k15
  have b15 := F15.binds (ps := ["_law_script"]) fun _ _ _ _ _ _ us hl => match us, hl with | [_], _ => rfl
  have g15 := PySem.W.mg_of X G a15
  have m_isinstance := PySem.W.mg_none_of X G z_isinstance
  have m_int := PySem.W.mg_none_of X G z_int
  have m_bool := PySem.W.mg_none_of X G z_bool
  have m_tuple := PySem.W.mg_none_of X G z_tuple
  have m_len := PySem.W.mg_none_of X G z_len
  have m_sum := PySem.W.mg_none_of X G z_sum
  have m_zip := PySem.W.mg_none_of X G z_zip
  have m_list := PySem.W.mg_none_of X G z_list
  have m_sorted := PySem.W.mg_none_of X G z_sorted
  have m_enumerate := PySem.W.mg_none_of X G z_enumerate
  have m_any := PySem.W.mg_none_of X G z_any
  have m_abs := PySem.W.mg_none_of X G z_abs
  have m_range := PySem.W.mg_none_of X G z_range
  have m_min := PySem.W.mg_none_of X G z_min
  have m_repr := PySem.W.mg_none_of X G z_repr
  refine ⟨PySem.W.fnOf "law" "law" (defArgs sLaw) (defBody sLaw) (defScope sLaw) .none kV15 dc15 pm15 an15 cd15 ct15, fun s v => .of_eq rfl, fun base _ _ => ?_⟩
  have TNp : OexC K CNp := ⟨⟨nmNp, qnNp, NNp, bsNp, _, snNp, subNp, abNp, colNp, ddNp, mm0Np, mm1Np, mm2Np, mm3Np, mm5Np, xLNp, (show PySem.HandSPX.refsVE [.type "ValueError", .type "Exception", .type "BaseException", .type "object"] = true by decide +kernel)⟩, saNp, eCNp, tCNp, kCNp⟩
  have FINp := fun_mk (st := sIn) lINp cINp kINp
  have bINp := FINp.binds (ps := ["self", "word", "at"]) fun _ _ _ _ _ _ us hl => match us, hl with | [_, _, _], _ => rfl
  have gNp := PySem.W.mg_of X G aCNp
  have eNp := exm_own eCNp jCNp tCNp sCNp
  have GI := ok_in (P := l.prog) (w := w) (mg := mg) (base := base) (k := 0) TNp n_wordNp n_atNp FINp
  have GN := ok_n (P := l.prog) (w := w) (base := base) (k := 0) F1 m_isinstance m_int m_bool
  have GTu := ok_t (P := l.prog) (w := w) (base := base) (k := 0) F2 m_isinstance m_tuple m_len
  have GC := ok_cu (P := l.prog) (w := w) (mg := mg) (base := base) (k := 0) F3 m_sum m_tuple
  have GR := ok_re (P := l.prog) (w := w) (base := base) F4 GC k3 b3 g3 m_sum m_tuple m_zip
  have GS := ok_sp (P := l.prog) (w := w) (base := base) F5 GC k3 b3 g3 GR k4 b4 g4 m_list m_sum m_sorted m_enumerate m_tuple
  have GLc := ok_lc (P := l.prog) (w := w) (base := base) F7 TNp aINp tINp GI bINp gNp m_enumerate
  have GLr := ok_lr (P := l.prog) (w := w) (base := base) F8 TNp aINp tINp GI bINp gNp m_enumerate m_zip m_any
  have GLs := ok_ls (P := l.prog) (w := w) (base := base) F6 TNp aINp tINp GI bINp gNp GTu k2 b2 g2 GN k1 b1 g1 GC k3 b3 g3 GR k4 b4 g4 GLc k7 b7 g7 GLr k8 b8 g8 m_len m_enumerate m_sum m_zip m_abs
  have GFd := ok_feed (P := l.prog) (w := w) (mg := mg) (base := base) (k := 0) F9
  have GDr := ok_draw (P := l.prog) (w := w) (mg := mg) (base := base) (k := 0) F10 m_len
  have GW := ok_we (P := l.prog) (w := w) (base := base) F11 GDr k10 b10 g10 m_range m_sum m_len m_tuple
  have GAl := ok_al (P := l.prog) (w := w) (mg := mg) (base := base) (k := 0) F12 m_range m_sum
  have GLe := ok_let (P := l.prog) (w := w) (base := base) F13 gNp eNp GLs k6 b6 g6
  have GOf := ok_of (P := l.prog) (w := w) (mg := mg) (base := base) (k := 0) F14 m_sum m_zip
  exact ok_law F15 GFd k9 b9 g9 GDr k10 b10 g10 GW k11 b11 g11 GAl k12 b12 g12 GOf k14 b14 g14 GLe k13 b13 g13 GS k5 b5 g5 m_range m_repr m_min m_len
end K11
open PySem PySem.W PyProof.Rows
set_option maxHeartbeats 0 in
theorem PySem.Challenge.cw_tablebills_k11_whole_no_nearer_split_holds : PySem.Challenge.rw_tablebills_k11_whole_no_nearer_split.Holds := by
  w_on; o_law; k_head; (case hw => w_witness2)
  k_fill
  refine TB.walkG (l := PySem.Challenge.rw_tablebills_k11_whole_no_nearer_split) (n := 63) (k := 6) (x := "_law_script") (sp := fun w => K11.spLaw _) rfl (by decide) rfl (fun w h Y => PySem.W.kIn_of Y) ⟨rfl, by decide, by decide⟩ ?F (fun _ _ a ns hl hS => ⟨a, ns, rfl, hS, hl, fun _ => rfl⟩)
  case F =>
    intro w mg fa h KX G hmg
    refine' K11.all_mk KX G hmg ?a1 ?l1 ?c1 ?k1 ?a2 ?l2 ?c2 ?k2 ?a3 ?l3 ?c3 ?k3 ?a4 ?l4 ?c4 ?k4 ?a5 ?l5 ?c5 ?k5 ?a6 ?l6 ?c6 ?k6 ?a7 ?l7 ?c7 ?k7 ?a8 ?l8 ?c8 ?k8 ?a9 ?l9 ?c9 ?k9 ?a10 ?l10 ?c10 ?k10 ?a11 ?l11 ?c11 ?k11 ?a12 ?l12 ?c12 ?k12 ?a13 ?l13 ?c13 ?k13 ?a14 ?l14 ?c14 ?k14 ?a15 ?l15 ?c15 ?k15 ?z_isinstance ?z_int ?z_bool ?z_tuple ?z_len ?z_sum ?z_zip ?z_list ?z_sorted ?z_enumerate ?z_any ?z_abs ?z_range ?z_min ?z_repr ?aCNp ?xLNp ?saNp ?kCNp ?eCNp ?tCNp ?jCNp ?sCNp ?aINp ?tINp ?lINp ?cINp ?kINp ?n_wordNp ?n_atNp
    (case a1 => k_is); (case l1 => k_is); (case c1 => k_is); (case k1 => k_is); (case a2 => k_is); (case l2 => k_is); (case c2 => k_is); (case k2 => k_is); (case a3 => k_is); (case l3 => k_is); (case c3 => k_is); (case k3 => k_is); (case a4 => k_is); (case l4 => k_is); (case c4 => k_is); (case k4 => k_is); (case a5 => k_is); (case l5 => k_is); (case c5 => k_is); (case k5 => k_is); (case a6 => k_is); (case l6 => k_is); (case c6 => k_is); (case k6 => k_is); (case a7 => k_is); (case l7 => k_is); (case c7 => k_is); (case k7 => k_is); (case a8 => k_is); (case l8 => k_is); (case c8 => k_is); (case k8 => k_is); (case a9 => k_is); (case l9 => k_is); (case c9 => k_is); (case k9 => k_is); (case a10 => k_is); (case l10 => k_is); (case c10 => k_is); (case k10 => k_is); (case a11 => k_is); (case l11 => k_is); (case c11 => k_is); (case k11 => k_is); (case a12 => k_is); (case l12 => k_is); (case c12 => k_is); (case k12 => k_is); (case a13 => k_is); (case l13 => k_is); (case c13 => k_is); (case k13 => k_is); (case a14 => k_is); (case l14 => k_is); (case c14 => k_is); (case k14 => k_is); (case a15 => k_is); (case l15 => k_is); (case c15 => k_is); (case k15 => k_is); (case z_isinstance => k_is); (case z_int => k_is); (case z_bool => k_is); (case z_tuple => k_is); (case z_len => k_is); (case z_sum => k_is); (case z_zip => k_is); (case z_list => k_is); (case z_sorted => k_is); (case z_enumerate => k_is); (case z_any => k_is); (case z_abs => k_is); (case z_range => k_is); (case z_min => k_is); (case z_repr => k_is); (case aCNp => k_is); (case xLNp => k_is); (case saNp => k_is); (case kCNp => k_is); (case eCNp => k_is); (case tCNp => k_is); (case jCNp => k_is); (case sCNp => first | rfl | k_is); (case aINp => k_is); (case tINp => k_is); (case lINp => k_is); (case cINp => k_is); (case kINp => k_is); (case n_wordNp => k_is); (case n_atNp => k_is)
