import PyProof.Rows.All
import Wide.All
import OpenK.AllK
import Wide.FinOn
import HandS.ForMost
import HandS.Wide
import HandS.Defaults
import HandS.Flow
import HandS.Style
import HandS.IsInst
import HandS.MakeKw
import HandS.Zip
import HandS.TupAny
import HandS.RaiseMore
import KE.GoesMore
import HandS.Walk
import HandS.SortRule
import KE.GoesEnum
import KE.KExcIs
import HandS.ForExc
import HandS.ExcInit
import HandS.ExcField
import PyProof.Rows.IntBool
import PySem.Challenge.RW_tablebills_k10_splits_judged
set_option Elab.async false
set_option linter.all false
set_option maxRecDepth 100000
namespace TB
open PySem PySem.Spec PyProof.Rows L2

/-! A def's promise, where no repr is under way around it. -/
section
variable (P : Program) (w : World) (K : PySem.W.Frag) (mg : Str → Option Value) (base : Heap)
structure FnG (CX : CXT) (k : Nat) (f : Addr) (fd : FuncData) (ps : List Str) (sp : Sp) : Prop where
  len : ∀ xs G R Z, sp xs G R Z → xs.length = ps.length
  run : ∀ (A : Around), A.guards = some [] → Room k A →
    ∀ (outer : List Env) (s : Shared) (H : Hp), Env0 P w K mg base A outer s H →
    ∀ (args : Args) (us : List Value) (vs : List V), BindsTo s fd args (ps.zip us) → Vals vs us →
    ∀ (Q : VK) (E : XK), sp vs H Q E →
      codeAny (model P w) A (Code.call (Value.ref f) args)
        (CR CX outer P w H s Q E) s
end

section
variable {P : Program} {w : World} {K : PySem.W.Frag} {mg : Str → Option Value} {base : Heap} {CX : CXT}
theorem FnG.of {k : Nat} {f : Addr} {fd : FuncData} {ps : List Str} {sp : Sp}
    (F : FnOk P w K mg base CX k f fd ps sp) : FnG P w K mg base CX k f fd ps sp :=
  ⟨F.len, fun A _ hr outer s H e0 args us vs hb r Q E h => F.run A outer s H args us vs Q E hr e0 hb r h⟩

/-- the body's walk gives the promise -/
theorem gfn {k : Nat} {f : Addr} {nm qual : Str} {prm : Arguments} {bd : List Stmt} {sc : Scope} {dV kV doc pm cdv ct oc : Value} {an od : Option Addr}
    {osl : Array (Option Value)} {N : List Str} {ps : List Str} {sp : Sp}
    (lk : K.lookup f = some ⟨oc, od, .func (PySem.W.fnOf nm qual prm bd sc dV kV doc pm an cdv ct), osl⟩)
    (hcd : PySem.W.codeIn K cdv qual = true) (S : FnScope N ps sc) (len : ∀ vs H Q E, sp vs H Q E → vs.length = ps.length)
    (walk : ∀ (A : Around), A.guards = some [] → ∀ (outer : List Env) (s : Shared) (H : Hp) (vs : List V) (Q : VK) (E : XK),
      Room k (A.deeper (envOfC qual sc s.heap.objs.size f cdv)) → sp vs H Q E →
      ∃ t, PSs (cxOf CX P w K mg base N qual sc f cdv A outer s H E) bd t ∧ t ⟨fun _ H' => Q .non H', Q, fun _ _ => False, fun _ _ => False⟩ (start N vs) H) :
    FnG P w K mg base CX (k + 1) f (PySem.W.fnOf nm qual prm bd sc dV kV doc pm an cdv ct) ps sp := by
  constructor
  · exact len
  intro A hg hr outer s H e0 args us vs hb r Q E hsp
  have keeps : ∀ b o, base.get? b = some o → s.heap.get? b = some o := fun b o e => (e0.bs b o e).1
  have KX : K.In s.heap := e0.mod.kin.keeps keeps
  have lim : s.heap.NoLimit := e0.mod.nolimit.keeps keeps
  obtain ⟨t, ht, hq⟩ := walk A hg outer s H vs Q E (hr.deeper _) hsp
  have crec := PySem.W.codeRec_of KX hcd
  refine codeAny_call_function hr.depth (KX _ _ lk) rfl S.co S.gen rfl crec (hb _ _ _ _ ?_)
  refine wpAny_newFunctionEnv_cells S.kind ?_ ?_
  · rintro ⟨n, v⟩ hy
    have q := S.par n (List.of_mem_zip hy).1
    cases q with
    | inl q => exact Or.inl q
    | inr q => exact Or.inr ⟨q, PySem.W.cellsFrom_some _ _ _ (Or.inl q)⟩
  · intro env he s1 x
    cases he
    have I := inv_start (CX := CX) (P := P) (w := w) (mg := mg) (N := N) (qual := qual) (f := f) (cd := cdv) (E := E) S hr.hd e0 (len _ _ _ _ hsp) r x
    refine ⟨lim.keeps x.toInCall.keep, codeAny_func (wpAny_mono (ht.run [] s1 (start N vs) H _ I hq) ?_ (fun e s' hs => hs))⟩
    intro fl s' hs
    match fl, hs with
    | .ret u, ⟨v, _, H', J, rv, q⟩ => exact ⟨v, H', J.os, J.bare, J.base, J.hok, rv, q⟩
    | .next, ⟨_, H', J, q⟩ => exact ⟨V.non, H', J.os, J.bare, J.base, J.hok, rfl, q⟩
    | .brk, ⟨_, _, _, q⟩ => exact q.elim
    | .cont, ⟨_, _, _, q⟩ => exact q.elim

theorem gok {x qual : Str} {st : Stmt} {f : Addr} {fd : FuncData} {N ps : List Str} {k : Nat} {sp : Sp} (F : Fun K x qual st f fd)
    (S : FnScope N ps (defScope st)) (len : ∀ vs H Q E, sp vs H Q E → vs.length = ps.length)
    (walk : ∀ (cdv : Value) (A : Around), A.guards = some [] → ∀ (outer : List Env) (s : Shared) (H : Hp) (vs : List V) (Q : VK) (E : XK),
      Room k (A.deeper (envOfC qual (defScope st) s.heap.objs.size f cdv)) → sp vs H Q E →
      ∃ t, PSs (cxOf CX0 P w K mg base N qual (defScope st) f cdv A outer s H E).nox (defBody st) t ∧
        t ⟨fun _ H' => Q .non H', Q, fun _ _ => False, fun _ _ => False⟩ (start N vs) H) :
    FnG P w K mg base CX0 (k + 1) f fd ps sp := by
  obtain ⟨_, _, _, _, _, _, cdv, _, _, rfl, lk, hcd⟩ := F.ex
  refine gfn lk hcd S len fun A hg outer s H vs Q E hr hsp => ?_
  obtain ⟨t, a, b⟩ := walk cdv A hg outer s H vs Q E hr hsp
  exact ⟨t, a.nox, b⟩
end

section
variable {X : Cx} {CX : CXT} {k : Nat} {f : Addr} {fd : FuncData} {ps : List Str} {sp : Sp} {dvs : List V} {ds : List Value} {E : XK} {x : Str} {p pos : Pos} {e : Expr} {es : List Expr} {t : TA}
/-- f(e, ..) of such a def -/
theorem pe_callG (F : FnG X.prog X.w X.K X.mg X.base CX k f fd ps sp) (gd : X.A.guards = some []) (hr : Room k X.A) (hg : Gl X x) (hm : X.mg x = some (.ref f))
    (hk : PySem.W.keepIn X.K (.ref f) = true) (hb : Binds X.K fd ps ds) (hd : Vals dvs ds) (hx : Passes CX X E) (ha : PA X (e :: es) t)
    (he : starEach (e :: es) X.env = (false, eval e X.env) :: starEach es X.env := by rfl) (hdb : (x == ("__debug__" : Str)) = false := by decide)
    (hpl : (backTo pos (starEach es X.env)).any (·.1) = false := by rfl) : PE X (.Call (.Name x p) (e :: es) [] pos) (tCall sp dvs E t) := by
  constructor
  intro pins s σ H Q I h
  refine wpAny_Call_Name_kw (ld_glob I hg hm (PySem.W.callWith_K (h₀ := X.base) I.ok.mod.kin hk (thn (ha.run pos pins s σ H _ I h) ?_) he hpl) hdb)
  rintro us s1 ⟨vs, H1, I1, r, q⟩
  have r2 := r.append hd
  have hl : (us ++ ds).length = ps.length := r2.length.symm.trans (F.len _ _ _ _ q)
  refine ⟨I1.kIn, wpAny_call (codeAny_mono (F.run X.A gd hr X.stack s1 H1 I1.env0 ⟨us, []⟩ _ _ (hb s1 us I1.kIn hl) r2 Q E q) ?_)⟩
  intro res s' hq
  match res, hq with
  | .error e, hq => exact hx pins σ H1 s1 e s' I1 hq
  | .ok (.ret u), hq => exact I1.after hq
  | .ok .next, hq => exact hq.elim
  | .ok .brk, hq => exact hq.elim
  | .ok .cont, hq => exact hq.elim
end

/-! repr of plain data -/
section
variable {X : Cx}
def rRepr (K : PySem.W.Frag) : List V → Hp → VK → Prop := fun xs H Q => ∃ a d, xs = [.ref a] ∧ Dp K H (.ref a) d ∧ d.showable = true ∧ d.hasDict = false ∧ d.depth ≤ 60 ∧ d.shown.length ≤ sizeLine ∧ Q (.str d.shown) H
theorem call_reprD (gd : X.A.guards = some []) (hu : X.A.units + 64 < cLine) : CallR X (.builtin "repr") (rRepr X.K) := by
  intro pins s σ H args us Q I r h
  obtain ⟨a, d, rfl, hd, hs, hn, hp, hz, q⟩ := h
  cases r with
  | cons r1 r2 =>
    cases r2
    have e := r1
    obtain rfl := show _ = Value.ref a from e
    obtain ⟨as, rd⟩ := Dp.reads I d _ _ hd rfl
    refine repr_of_reads' rd hs (PyData.noDict_hsm hn) gd (by omega) (fun _ _ z => z) (fun h' u tk k => ?_) hz
    exact ⟨.str d.shown, H, I.kept k, ⟨u, rfl⟩, q⟩

/-- xs[i] read, i no less than 0, by values -/
def rGetN (K : PySem.W.Frag) : V → V → Hp → VK → Prop := fun o i H Q => ∃ (p : Addr) (xs : List V) (j : Nat) (v : V), o = .ref p ∧ i = .int (j : Int) ∧ SqL K H p xs ∧ xs[j]? = some v ∧ Q v H
theorem get_list : PGet X (rGetN X.K) := by
  intro pins s σ H o i ov iv Q I ro ri h
  obtain ⟨p, xs, j, z, rfl, rfl, hq, he, q⟩ := h
  cases ro
  obtain ⟨t, rfl⟩ := ri
  obtain ⟨its, rl, pl, hz⟩ := I.list hq
  obtain ⟨v, ev, rv⟩ := rl.get he
  have hl := rl.length
  have hj : j < xs.length := (List.getElem?_eq_some_iff.mp he).1
  have hn := line63
  exact wpAny_getItem_list pl.isList (by omega) (by omega) (by rw [Int.toNat_natCast]; simpa using ev) ⟨z, H, I, rv, q⟩
end

/-! the law's own call, at the top's end -/
section
variable {P : Program} {w : World} {K : PySem.W.Frag} {mg mb : Str → Option Value} {k : Nat} {fa a : Addr} {fd : FuncData} {x : Str} {sp : Sp} {s1 : Shared} {vs : List Value} {ns : List Int}
/-- the abstract heap that tracks the script alone, or nothing -/
theorem lawG0 {H : Hp} (KX : K.In s1.heap) (hns : s1.heap.Ns mainGlobals mg) (hb : s1.heap.Ns builtinsNs mb)
    (hbb : ∀ y : Str, y ≠ "__name__" → mb y = bootBuiltins y) (hlim : s1.heap.NoLimit) (hg : s1.gens = #[])
    (ha : s1.heap.get? a = some { cls := .type "list", data := .seq vs.toArray }) (hr : Room k callerA)
    (F : ∀ base : Heap, K.In base → base.Ns mainGlobals mg → FnG P w K mg base CX0 k fa fd [x] sp)
    (hbind : ∀ (s : Shared) (u : Value), BindsTo s fd ⟨[u], []⟩ [(x, u)])
    (hO : Only H) (hok : HOk P w H s1.heap) (onlyA : ∀ b, H b ≠ none → b = a) (notK : H a ≠ none → K.lookup a = none)
    (hsp : sp [.ref a] H (fun v _ => v = .bl true) fun _ _ _ => False) :
    codeAny (model P w) callerA (.call (.ref fa) ⟨[.ref a], []⟩)
      (fun r s' => r = .ok (.ret (.bool true)) ∧ OldK s1.heap s'.heap ∧ s'.os = s1.os ∧ AllBare s'.gens) s1 := by
  have free : ∀ (b : Addr), (b = a → H b = none) → H b = none := by
    intro b hb
    by_cases e : H b = none
    · exact e
    · exact hb (onlyA b e)
  have nsB : ∀ {b : Addr} {m : Str → Option Value}, s1.heap.Ns b m → (hidT s1.heap H).Ns b m := by
    rintro b m ⟨o, es, ep, e, d, r⟩
    refine ⟨o, es, ep, hidT_get e (free b ?_), d, r⟩
    rintro rfl
    have q := Option.some.inj (e.symm.trans ha)
    rw [q] at d
    exact nomatch d
  have kinB : K.In (hidT s1.heap H) := by
    intro b o e
    refine hidT_get (KX b o e) (free b ?_)
    rintro rfl
    by_cases z : H b = none
    · exact z
    · exact absurd ((notK z).symm.trans e) (fun q => nomatch q)
  obtain ⟨mc, hl1, hl2⟩ := hlim
  have M : Mod K mg (hidT s1.heap H) := ⟨kinB, nsB hns, ⟨mb, nsB hb, hbb⟩, ⟨mc, nsB hl1, hl2⟩⟩
  have e0 : Env0 P w K mg (hidT s1.heap H) callerA [] s1 H :=
    { frames := rfl, mod := M, bs := fun b o e => of_hidT e, bsz := Nat.le_of_eq (hidT_size _ _), funs := trivial,
      frf := fun b hb => (nomatch (show b ∈ ([] : List Addr) from hb)), hok := hok, bare := .of_eq hg }
  have run := (F _ kinB (nsB hns)).run callerA rfl hr [] s1 H e0 ⟨[.ref a], []⟩ [.ref a] [.ref a] (hbind s1 _) (.cons rfl .nil) _ _ hsp
  refine codeAny_mono run ?_
  intro r s' h
  match r, h with
  | .ok (.ret u), ⟨v, H', os, bare, un, hok', rv, q⟩ =>
    have q' : v = V.bl true := q
    subst q'
    have eu : u = Value.bool true := rv
    subst eu
    refine ⟨rfl, OldK.of_keep ?_, os, bare⟩
    intro b o e
    by_cases z : H b = none
    · exact un.keep b o e z (fun q => nomatch (show b ∈ ([] : List Addr) from q)) (fun q => nomatch q)
    · rcases hO b with z1 | ⟨ob, xs, z1⟩
      · exact absurd z1 z
      · have e1 := (hok b _ z1).1
        have e2 := (hok' b _ (un.frzs b ob _ z1)).1
        rw [Option.some.inj (e.symm.trans e1)]
        exact e2

theorem lawG (KX : K.In s1.heap) (hns : s1.heap.Ns mainGlobals mg) (hb : s1.heap.Ns builtinsNs mb)
    (hbb : ∀ y : Str, y ≠ "__name__" → mb y = bootBuiltins y) (hlim : s1.heap.NoLimit) (hg : s1.gens = #[])
    (ha : s1.heap.get? a = some { cls := .type "list", data := .seq vs.toArray }) (hi : IntsAre vs ns) (hl : ns.length ≤ sizeLine) (hr : Room k callerA)
    (F : ∀ base : Heap, K.In base → base.Ns mainGlobals mg → FnG P w K mg base CX0 k fa fd [x] sp)
    (hbind : ∀ (s : Shared) (u : Value), BindsTo s fd ⟨[u], []⟩ [(x, u)])
    (hsp : ∀ H : Hp, SqL K H a (ns.map V.int) → sp [.ref a] H (fun v _ => v = .bl true) fun _ _ _ => False) :
    codeAny (model P w) callerA (.call (.ref fa) ⟨[.ref a], []⟩)
      (fun r s' => r = .ok (.ret (.bool true)) ∧ OldK s1.heap s'.heap ∧ s'.os = s1.os ∧ AllBare s'.gens) s1 := by
  have rv := vals_ints hi
  by_cases hk : K.lookup a = none
  · let ob : Obj := { cls := .type "list", data := .seq vs.toArray }
    let H : Hp := upd (fun _ => none) a (.frz ob (.lst (ns.map V.int)))
    have hA : H a = some (.frz ob (.lst (ns.map V.int))) := upd_same
    have hN : ∀ b, b ≠ a → H b = none := fun b ne => upd_ne ne
    refine lawG0 (H := H) KX hns hb hbb hlim hg ha hr F hbind ?_ ?_ ?_ (fun _ => hk) (hsp H (.inl (.inr ⟨ob, hA⟩)))
    · intro b
      by_cases e : b = a
      · exact .inr ⟨ob, _, e ▸ hA⟩
      · exact .inl (hN b e)
    · intro b u q
      by_cases e : b = a
      · subst e
        cases Option.some.inj (q.symm.trans hA)
        exact ⟨ha, Nat.le_trans (Nat.le_of_eq (List.length_map V.int)) hl, vs, _, rv, ha⟩
      · exact nomatch (hN b e).symm.trans q
    · intro b q
      by_cases e : b = a
      · exact e
      · exact absurd (hN b e) q
  · obtain ⟨o, ho⟩ := Option.ne_none_iff_exists'.mp hk
    have eo := Option.some.inj ((KX a o ho).symm.trans ha)
    subst eo
    refine lawG0 (H := fun _ => none) KX hns hb hbb hlim hg ha hr F hbind (fun _ => .inl rfl) (fun b u q => nomatch q) (fun b q => absurd rfl q) (fun q => absurd rfl q) (hsp _ (.inr ?_))
    exact ⟨_, vs.toArray, _, ho, rfl, rfl, rfl, by rw [List.size_toArray, hi.length]; exact hl, rv⟩
end

theorem walkG {l : PySem.W.OpenLaw} {n k : Nat} {q : Program} {loose : List Str} {XP : (Str → Option Value) → Heap → Prop} {YP : World → Heap → Prop} {d : DefRec} {K : Params → PySem.W.Frag} {sp : World → Sp} {x : Str}
    (hn : l.most = some n) (hn2 : n ≤ sizeLine) (hdf : d.params.defaults = [])
    (hY : ∀ (w : World) (h : Heap), YP w h → (K w.params).In h) (hr : Room k callerA)
    (F : ∀ (w : World) (mg : Str → Option Value) (fa : Addr) (g : Heap), (K w.params).In g → g.Ns mainGlobals mg → mg d.name = some (.ref fa) →
      ∃ fd : FuncData, (∀ (s : Shared) (v : Value), BindsTo s fd ⟨[v], []⟩ [(x, v)]) ∧
        ∀ base : Heap, (K w.params).In base → base.Ns mainGlobals mg → FnG l.prog w (K w.params) mg base CX0 k fa fd [x] (sp w))
    (hsp : ∀ (w : World) (H : Hp) (a : Addr) (ns : List Int), ns.length ≤ n → SqL (K w.params) H a (ns.map V.int) → sp w [.ref a] H (fun v _ => v = .bl true) fun _ _ _ => False) :
    PySem.W.WalkO q loose XP YP l.row.toRowW d [] fun f us => PySem.call f us := by
  refine Att.attach_call hn hdf ?_
  intro w s₀ s₁ mg mb fa o pm cd doc a vs ns G Y ho hd hcd hmg hobj hints hlen hg
  have KX := hY w _ Y
  obtain ⟨fd, bnd, prom⟩ := F w mg fa _ KX G.T.g hmg
  exact lawG KX G.T.g G.T.b G.T.builtins G.T.nolimit hg hobj hints (Nat.le_trans hlen hn2) hr prom bnd (fun H hS => hsp w H a ns hlen hS)
end TB

set_option Elab.async false
set_option linter.all false
set_option maxRecDepth 100000
namespace TB
open PySem PySem.Spec PyProof.Rows L2

/-! ### what is shown -/
structure Sh (k n : Nat) (d : PyData) : Prop where
  sh : d.showable = true
  nd : d.hasDict = false
  dp : d.depth ≤ k
  ln : d.shown.length ≤ n
theorem sh_int {i : Int} (h : i.natAbs < 2 ^ 100) : Sh 0 1921 (.int i) := by
  have hl : i.natAbs.log2 < 1920 := by
    by_cases h0 : i.natAbs = 0
    · rw [h0]; decide
    · exact (Nat.log2_lt h0).2 (Nat.lt_of_lt_of_le h (Nat.pow_le_pow_right (by decide) (by decide)))
  refine ⟨by simp only [PyData.showable, decide_eq_true_eq]; exact hl, by simp only [PyData.hasDict], by simp [PyData.depth], ?_⟩
  simp only [PyData.shown]
  exact int_text_len_1921 hl
theorem all_len {ds : List PyData} {k n : Nat} (h : ∀ d ∈ ds, Sh k n d) : PyData.showableAll ds = true ∧ PyData.hasDictAll ds = false ∧ PyData.depthAll ds ≤ k ∧ ((PyData.shownAll ds).map (·.length)).sum ≤ ds.length * n ∧ (PyData.shownAll ds).length = ds.length := by
  induction ds with
  | nil => simp [PyData.showableAll, PyData.hasDictAll, PyData.depthAll, PyData.shownAll]
  | cons d ds ih =>
    obtain ⟨a, b, c, e, f⟩ := ih fun x hx => h x (List.mem_cons_of_mem _ hx)
    have g := h d List.mem_cons_self
    refine ⟨by simp only [PyData.showableAll, g.sh, a, Bool.and_self], by simp only [PyData.hasDictAll, g.nd, b, Bool.or_self], ?_, ?_, ?_⟩
    · simp only [PyData.depthAll]
      have := g.dp
      omega
    · simp only [PyData.shownAll, List.map_cons, List.sum_cons, List.length_cons]
      have := g.ln
      rw [Nat.add_mul]
      omega
    · simp only [PyData.shownAll, List.length_cons, f]
theorem sh_tup {ds : List PyData} {k n : Nat} (h : ∀ d ∈ ds, Sh k n d) : Sh (k + 1) (ds.length * n + 2 * ds.length + 3) (.tuple ds) := by
  obtain ⟨a, b, c, e, f⟩ := all_len h
  refine ⟨by simp only [PyData.showable, a], by simp only [PyData.hasDict, b], by simp only [PyData.depth]; omega, ?_⟩
  simp only [PyData.shown]
  refine Nat.le_trans (tupleText_len_le _) ?_
  rw [f]
  omega
theorem sh_lst {ds : List PyData} {k n : Nat} (h : ∀ d ∈ ds, Sh k n d) : Sh (k + 1) (ds.length * n + 2 * ds.length + 3) (.list ds) := by
  obtain ⟨a, b, c, e, f⟩ := all_len h
  refine ⟨by simp only [PyData.showable, a], by simp only [PyData.hasDict, b], by simp only [PyData.depth]; omega, ?_⟩
  simp only [PyData.shown]
  refine Nat.le_trans (listText_len_le _) ?_
  rw [f]
  omega
theorem Sh.mono {k k' n n' : Nat} {d : PyData} (h : Sh k n d) (a : k ≤ k') (b : n ≤ n') : Sh k' n' d :=
  ⟨h.sh, h.nd, Nat.le_trans h.dp a, Nat.le_trans h.ln b⟩
def dInts (ns : List Int) : List PyData := ns.map PyData.int
theorem sh_ints {ns : List Int} (h : ∀ v ∈ ns, v.natAbs < 2 ^ 100) (hl : ns.length ≤ 100) : Sh 1 200000 (.tuple (dInts ns)) := by
  refine (sh_tup (k := 0) (n := 1921) fun d hd => ?_).mono (by omega) ?_
  · obtain ⟨v, hv, rfl⟩ := List.mem_map.mp hd
    exact sh_int (h v hv)
  · unfold dInts
    rw [List.length_map]
    omega
theorem dp_ints {K : PySem.W.Frag} {H : Hp} : ∀ ns : List Int, DpAll K H (ns.map V.int) (dInts ns)
  | [] => DpAll.nil
  | n :: ns => DpAll.cons (Dp.int n) (dp_ints ns)

/-- a comprehension without an if -/
theorem yes {σ : L2.St} {H : Hp} {R : Bool → Hp → Prop} (h : R true H) : tYes σ H R := h
theorem iteS {c A B : Prop} [Decidable c] (hc : c) (h : A) : if decide c = true then A else B := by
  rw [if_pos (decide_eq_true hc)]
  exact h
theorem ixN_nat {n k : Nat} (h : k < n) : ixN n (k : Int) = some k := by
  unfold ixN
  rw [if_pos (by omega), if_pos (by omega)]
  simp
theorem take_more {α : Type} {xs : List α} {i : Nat} {x : α} (h : xs[i]? = some x) : xs.take (i + 1) = xs.take i ++ [x] := by
  rw [List.take_add_one, h]
  rfl

theorem map_get {α β : Type} {f : α → β} {xs : List α} {i : Nat} {d : β} (h : (xs.map f)[i]? = some d) : ∃ p, xs[i]? = some p ∧ d = f p := by
  rw [List.getElem?_map] at h
  cases e : xs[i]? with
  | none => rw [e] at h; cases h
  | some p => rw [e] at h; exact ⟨p, rfl, (Option.some.inj h).symm⟩
theorem map_take_more {α β : Type} {f : α → β} {xs : List α} {i : Nat} {x : α} (h : xs[i]? = some x) : (xs.take (i + 1)).map f = (xs.take i).map f ++ [f x] := by
  rw [take_more h, List.map_append]
  rfl

/-! ### heaps -/
theorem same_upd {H : Hp} {p : Addr} {o : HO} (h : H p = none) : Same H (upd H p o) := fun b x e => by
  rw [upd_ne (ne_of_none e h)]
  exact e
theorem Same.tup {K : PySem.W.Frag} {H H' : Hp} {a : Addr} {xs : List V} (e : Same H H') (h : SqT K H a xs) : SqT K H' a xs := by
  rcases h with (h | ⟨o, h⟩) | h
  · exact .inl (.inl (e _ _ h))
  · exact .inl (.inr ⟨o, e _ _ h⟩)
  · exact .inr h
/-- all that was tracked is as it was, but what stands at f -/
def But (f : Addr) (H H' : Hp) : Prop := ∀ b o, b ≠ f → H b = some o → H' b = some o
theorem But.refl (f : Addr) (H : Hp) : But f H H := fun _ _ _ h => h
theorem But.trans {f : Addr} {H H1 H2 : Hp} (a : But f H H1) (b : But f H1 H2) : But f H H2 := fun c o n h => b c o n (a c o n h)
theorem But.same {f : Addr} {H H1 H2 : Hp} (a : But f H H1) (b : Same H1 H2) : But f H H2 := fun c o n h => b c o (a c o n h)
theorem But.of {f : Addr} {H H' : Hp} (a : Same H H') : But f H H' := fun c o _ h => a c o h
theorem But.upd {f : Addr} {H : Hp} {o : HO} : But f H (upd H f o) := fun b x n e => by
  rw [upd_ne n]
  exact e
theorem But.free {f : Addr} {H H' : Hp} {zs : List V} (e : But f H H') (hf : H' f = some (.lst zs)) {l : Addr} (h : H' l = none) : H l = none := by
  cases q : H l with
  | none => rfl
  | some o =>
    have n : l ≠ f := fun z => by
      rw [z, hf] at h
      cases h
    rw [e l o n q] at h
    cases h
mutual
theorem Dp.same {K : PySem.W.Frag} {H H' : Hp} (e : Same H H') : ∀ (d : PyData) (v : V), Dp K H v d → Dp K H' v d
  | .none, _, .non => .non
  | .bool _, _, .bl b => .bl b
  | .int _, _, .int i => .int i
  | .str _, _, .str x => .str x
  | .list ds, _, .lst h a => .lst (e.seq h) (DpAll.same e ds _ a)
  | .tuple ds, _, .tup h a => .tup (TB.Same.tup e h) (DpAll.same e ds _ a)
theorem DpAll.same {K : PySem.W.Frag} {H H' : Hp} (e : Same H H') : ∀ (ds : List PyData) (vs : List V), DpAll K H vs ds → DpAll K H' vs ds
  | [], _, .nil => .nil
  | d :: ds, _, .cons h t => .cons (Dp.same e d _ h) (DpAll.same e ds _ t)
end
theorem DpAll.snoc {K : PySem.W.Frag} {H : Hp} {v : V} {d : PyData} (h : Dp K H v d) : ∀ {vs : List V} {ds : List PyData}, DpAll K H vs ds → DpAll K H (vs ++ [v]) (ds ++ [d])
  | _, _, .nil => .cons h .nil
  | _, _, .cons a t => .cons a (DpAll.snoc h t)
theorem DpAll.len {K : PySem.W.Frag} {H : Hp} : ∀ {vs : List V} {ds : List PyData}, DpAll K H vs ds → vs.length = ds.length
  | _, _, .nil => rfl
  | _, _, .cons _ t => congrArg Nat.succ (DpAll.len t)
theorem DpAll.get {K : PySem.W.Frag} {H : Hp} : ∀ {vs : List V} {ds : List PyData} {i : Nat} {v : V}, DpAll K H vs ds → vs[i]? = some v → ∃ d, ds[i]? = some d ∧ Dp K H v d
  | _, _, _, _, .nil, h => by simp at h
  | _, _, 0, _, .cons a _, h => ⟨_, rfl, by simp at h; subst h; exact a⟩
  | _, _, i + 1, _, .cons _ t, h => by
    obtain ⟨d, e, q⟩ := DpAll.get t (i := i) (by simpa using h)
    exact ⟨d, by simpa using e, q⟩
theorem Dp.tup_inv {K : PySem.W.Frag} {H : Hp} {v : V} {ds : List PyData} (h : Dp K H v (.tuple ds)) : ∃ a xs, v = .ref a ∧ SqT K H a xs ∧ DpAll K H xs ds := by
  cases h with
  | tup h a => exact ⟨_, _, rfl, h, a⟩
theorem Dp.lst_inv {K : PySem.W.Frag} {H : Hp} {v : V} {ds : List PyData} (h : Dp K H v (.list ds)) : ∃ a xs, v = .ref a ∧ SqL K H a xs ∧ DpAll K H xs ds := by
  cases h with
  | lst h a => exact ⟨_, _, rfl, h, a⟩
theorem DpAll.cons_inv {K : PySem.W.Frag} {H : Hp} {xs : List V} {d : PyData} {ds : List PyData} (h : DpAll K H xs (d :: ds)) : ∃ v vs, xs = v :: vs ∧ Dp K H v d ∧ DpAll K H vs ds := by
  cases h with
  | cons a t => exact ⟨_, _, rfl, a, t⟩
theorem DpAll.nil_inv {K : PySem.W.Frag} {H : Hp} {xs : List V} (h : DpAll K H xs []) : xs = [] := by
  cases h
  rfl
theorem Dp.int_inv {K : PySem.W.Frag} {H : Hp} {v : V} {i : Int} (h : Dp K H v (.int i)) : v = .int i := by
  cases h
  rfl
theorem Dp.str_inv {K : PySem.W.Frag} {H : Hp} {v : V} {i : Str} (h : Dp K H v (.str i)) : v = .str i := by
  cases h
  rfl
theorem dp_strs {K : PySem.W.Frag} {H : Hp} : ∀ ns : List Str, DpAll K H (ns.map V.str) (ns.map PyData.str)
  | [] => DpAll.nil
  | n :: ns => DpAll.cons (Dp.str n) (dp_strs ns)

/-! no list stands in it -/
mutual
def noL : PyData → Bool
  | .list _ => false
  | .tuple xs => noLs xs
  | .dict _ => false
  | _ => true
def noLs : List PyData → Bool
  | [] => true
  | x :: xs => noL x && noLs xs
end
theorem SqT.but {K : PySem.W.Frag} {H H' : Hp} {o a : Addr} {xs zs : List V} (e : But o H H') (ho : H o = some (.lst zs)) (h : SqT K H a xs) : SqT K H' a xs := by
  rcases h with (h | ⟨u, h⟩) | h
  · exact .inl (.inl (e _ _ (ne_of h ho (fun z => nomatch z)) h))
  · exact .inl (.inr ⟨u, e _ _ (ne_of h ho (fun z => nomatch z)) h⟩)
  · exact .inr h
mutual
theorem Dp.but {K : PySem.W.Frag} {H H' : Hp} {o : Addr} {zs : List V} (e : But o H H') (ho : H o = some (.lst zs)) : ∀ (d : PyData) (v : V), noL d = true → Dp K H v d → Dp K H' v d
  | .none, _, _, .non => .non
  | .bool _, _, _, .bl b => .bl b
  | .int _, _, _, .int i => .int i
  | .str _, _, _, .str x => .str x
  | .list ds, _, n, _ => by simp [noL] at n
  | .tuple ds, _, n, .tup h a => .tup (TB.SqT.but e ho h) (DpAll.but e ho ds _ (by simpa only [noL] using n) a)
theorem DpAll.but {K : PySem.W.Frag} {H H' : Hp} {o : Addr} {zs : List V} (e : But o H H') (ho : H o = some (.lst zs)) : ∀ (ds : List PyData) (vs : List V), noLs ds = true → DpAll K H vs ds → DpAll K H' vs ds
  | [], _, _, .nil => .nil
  | d :: ds, _, n, .cons h t => by
    simp only [noLs, Bool.and_eq_true] at n
    exact .cons (Dp.but e ho d _ n.1 h) (DpAll.but e ho ds _ n.2 t)
end
theorem noLs_of {ds : List PyData} (h : ∀ d ∈ ds, noL d = true) : noLs ds = true := by
  induction ds with
  | nil => rfl
  | cons d ds ih => simp only [noLs, h d List.mem_cons_self, ih fun x hx => h x (List.mem_cons_of_mem _ hx), Bool.and_self]
theorem noLs_snoc {ds : List PyData} {d : PyData} (h : noLs ds = true) (n : noL d = true) : noLs (ds ++ [d]) = true := by
  induction ds with
  | nil => simp only [List.nil_append, noLs, n, Bool.and_true]
  | cons x ds ih =>
    simp only [noLs, Bool.and_eq_true] at h
    simp only [List.cons_append, noLs, h.1, ih h.2, Bool.and_self]

/-! ### a list that is being filled: at D, with these data -/
structure Acc (K : PySem.W.Frag) (H : Hp) (D : Addr) (ds : List PyData) : Prop where
  ex : ∃ us, H D = some (.lst us) ∧ DpAll K H us ds
  nl : noLs ds = true
theorem Acc.start {K : PySem.W.Frag} {H : Hp} {D : Addr} : Acc K (upd H D (.lst [])) D [] := ⟨⟨[], upd_same, .nil⟩, rfl⟩
theorem Acc.same {K : PySem.W.Frag} {H H' : Hp} {D : Addr} {ds : List PyData} (h : Acc K H D ds) (e : Same H H') : Acc K H' D ds := by
  obtain ⟨us, a, b⟩ := h.ex
  exact ⟨⟨us, e _ _ a, DpAll.same e _ _ b⟩, h.nl⟩
theorem Acc.but {K : PySem.W.Frag} {H H' : Hp} {D F : Addr} {ds : List PyData} {zs : List V} (h : Acc K H D ds) (e : But F H H') (hF : H F = some (.lst zs)) (n : D ≠ F) : Acc K H' D ds := by
  obtain ⟨us, a, b⟩ := h.ex
  exact ⟨⟨us, e _ _ n a, DpAll.but e hF _ _ h.nl b⟩, h.nl⟩
/-- one more -/
theorem Acc.more {K : PySem.W.Frag} {H : Hp} {D : Addr} {ds : List PyData} {v : V} {d : PyData} (h : Acc K H D ds) (dv : Dp K H v d) (n : noL d = true) (hl : ds.length ≤ 900) :
    ∃ us, H D = some (.lst us) ∧ us.length < sizeLine ∧ Acc K (upd H D (.lst (us ++ [v]))) D (ds ++ [d]) := by
  obtain ⟨us, a, b⟩ := h.ex
  have bu : But D H (upd H D (.lst (us ++ [v]))) := But.upd
  exact ⟨us, a, by rw [DpAll.len b]; exact small1000 (by omega), ⟨us ++ [v], upd_same, DpAll.snoc (Dp.but bu a _ _ n dv) (DpAll.but bu a _ _ h.nl b)⟩, noLs_snoc h.nl n⟩

theorem same_new {H H2 : Hp} {D : Addr} {o : HO} (nD : H D = none) (sm : Same H H2) : Same H (upd H2 D o) := fun c x e => by
  rw [upd_ne (ne_of_none e nD)]
  exact sm c x e
/-- a turn of a comprehension that changes nothing else -/
theorem Acc.turn {K : PySem.W.Frag} {H H1 H2 : Hp} {D : Addr} {ds ds' : List PyData} {v : V} {d : PyData} (nD : H D = none) (sm : Same H H1) (ac : Acc K H1 D ds) (s2 : Same H1 H2) (dv : Dp K H2 v d) (n : noL d = true) (hl : ds.length ≤ 900) (he : ds' = ds ++ [d]) :
    ∃ acc, H2 D = some (.lst acc) ∧ acc.length < sizeLine ∧ (Same H (upd H2 D (.lst (acc ++ [v]))) ∧ Acc K (upd H2 D (.lst (acc ++ [v]))) D ds') := by
  obtain ⟨us, a, b, c⟩ := (ac.same s2).more dv n hl
  exact ⟨us, a, b, same_new nD (sm.trans s2), he ▸ c⟩
/-- the tuple of all that was filled in -/
theorem Acc.tuple {K : PySem.W.Frag} {H : Hp} {D t : Addr} {us : List V} {ds : List PyData} (dv : DpAll K H us ds) (nt : H t = none) : Dp K (upd H t (.tup us)) (.ref t) (.tuple ds) :=
  .tup (.inl (.inl upd_same)) (DpAll.same (same_upd nt) _ _ dv)

/-! ### repr, its text kept shut -/
@[irreducible] def txt (d : PyData) : Str := d.shown
theorem txt_eq (d : PyData) : txt d = d.shown := by
  unfold txt
  rfl
section
variable {X : Cx}
def rReprT (K : PySem.W.Frag) : List V → Hp → VK → Prop := fun xs H Q => ∃ a d, xs = [.ref a] ∧ Dp K H (.ref a) d ∧ d.showable = true ∧ d.hasDict = false ∧ d.depth ≤ 60 ∧ d.shown.length ≤ sizeLine ∧ Q (.str (txt d)) H
theorem call_reprT (gd : X.A.guards = some []) (hu : X.A.units + 64 < cLine) : CallR X (.builtin "repr") (rReprT X.K) := by
  intro pins s σ H args us Q I r h
  obtain ⟨a, d, e, hd, hs, hn, hp, hz, q⟩ := h
  refine call_reprD gd hu pins s σ H args us Q I r ⟨a, d, e, hd, hs, hn, hp, hz, ?_⟩
  rw [← txt_eq]
  exact q
end

/-! ### a call by names alone -/
section
variable {X : Cx} {CX : CXT} {k : Nat} {f : Addr} {fd : FuncData} {ps ks : List Str} {sp : Sp} {E : XK} {x : Str} {p pos : Pos} {kws : List Keyword} {tk : TA} {g : List Value → List Value → List Value} {gV : List V → List V → List V}
theorem pe_callN0 (F : FnOk X.prog X.w X.K X.mg X.base CX k f fd ps sp) (hr : Room k X.A) (hg : Gl X x) (hm : X.mg x = some (.ref f)) (hk : PySem.W.keepIn X.K (.ref f) = true) (hb : KBn X.K fd ps 0 ks g gV) (hx : Passes CX X E) (hkw : PK X kws tk)
    (hks : (backToKw pos (keywordEach kws X.env)).filterMap (·.1) = ks := by rfl) (hall : (backToKw pos (keywordEach kws X.env)).all (·.1.isSome) = true := by rfl)
    (hpl : ((backTo pos (starEach [] X.env)).any (·.1) || (backToKw pos (keywordEach kws X.env)).any (·.1.isNone)) = false := by rfl) (hdb : (x == ("__debug__" : Str)) = false := by decide) :
    PE X (.Call (.Name x p) [] kws pos) (tCallN 0 ks.length sp gV E tNil tk) := by
  constructor
  intro pins s σ H Q I h
  refine wpAny_Call_Name_kw (ld_glob I hg hm (PySem.W.callWith_KW0 (h₀ := X.base) I.ok.mod.kin hk hall (thn (hkw.run pos pins s σ H _ I h) ?_) hpl) hdb)
  rintro ws s2 ⟨zs, H2, I2, rz, l1, l2, q2⟩
  rw [hks]
  exact ⟨I2.kIn, run_fnN (us := []) (vs := []) F hr hb hx I2 .nil rz l1 l2 q2⟩
end
end TB

set_option Elab.async false
set_option linter.all false
set_option maxRecDepth 100000
set_option maxHeartbeats 1000000
namespace TB
open PySem PySem.Spec PyProof.Rows L2

/-! ### sum, min, max of a tuple of numbers -/
section
variable {l : Addr} {its : List Value} {ns : List Int} {prog : Program} {w : World} {A : Around} {s : Shared} {Q E : Value → Shared → Prop}
theorem tup_old {h' : Heap} {ob : Obj} (kept : ∀ b o, b ∉ [s.heap.objs.size] → (s.heap.push ob).get? b = some o → h'.get? b = some o) : ∀ b o, s.heap.get? b = some o → h'.get? b = some o := fun b o e =>
  kept b o (fun z => by
    have z' : b = s.heap.objs.size := by simpa using z
    have := Heap.lt_size e
    rw [z'] at this
    exact Nat.lt_irrefl _ this) (Heap.get?_push_of_some _ e)
theorem tup_fp {ob : Obj} {xs : Array Value} (hl : s.heap.IsTuple l xs) : l < s.heap.objs.size ∧ ∀ b ∈ [s.heap.objs.size, l], b < (s.heap.push ob).objs.size := by
  obtain ⟨o, ho, _⟩ := hl
  have lt := Heap.lt_size ho
  refine ⟨lt, fun b hb => ?_⟩
  rw [Heap.size_push]
  have : b = s.heap.objs.size ∨ b = l := by simpa using hb
  rcases this with rfl | rfl
  · exact Nat.lt_succ_self _
  · exact Nat.lt_succ_of_lt lt
theorem sum_tupR (hh : A.handled = none) (hl : s.heap.IsTuple l its.toArray) (hi : IntsAre its ns)
    (told : ∀ h' tk t', (∀ b o, s.heap.get? b = some o → h'.get? b = some o) → Q (.int ns.sum t') { s with heap := h', toks := tk }) : wpAny (model prog w) A (call (.builtin "sum") [.ref l]) Q E s := by
  obtain ⟨pairs, e⟩ := hi.allInts.items
  have nums : numsOf (intItems pairs).toList = ns := by rw [← e]; exact hi.numsOf
  rw [nums_intItems] at nums
  rw [e] at hl
  refine call_sum_walkG (wpAny_pyIter_tuple hl ?_)
  refine ⟨_, [_, l], [_], _, _, _, numAt pairs, rfl, Walks.tuple (A := A.in1) hh _ l (Nat.ne_of_lt (tup_fp (ob := default) hl).1) (intItems pairs), ⟨⟨_, Heap.get?_push_size _ rfl, rfl, rfl⟩, hl.push _⟩, (tup_fp hl).2, fun _ _ => intItems_at, fun h' tk t' hk => ?_⟩
  have q := told h' tk t' (tup_old hk)
  have ez : (intItems pairs).size = pairs.size := by simp [intItems]
  rw [ez, preSum_eq, List.take_of_length_le (by simp), nums]
  exact q
theorem min_tupR (hh : A.handled = none) (hl : s.heap.IsTuple l its.toArray) (hi : IntsAre its ns) (hne : 0 < ns.length)
    (told : ∀ h' tk M t', (∀ b o, s.heap.get? b = some o → h'.get? b = some o) → M ∈ ns → (∀ a, a ∈ ns → M ≤ a) → Q (.int M t') { s with heap := h', toks := tk }) : wpAny (model prog w) A (call (.builtin "min") [.ref l]) Q E s := by
  obtain ⟨pairs, e⟩ := hi.allInts.items
  have nums : numsOf (intItems pairs).toList = ns := by rw [← e]; exact hi.numsOf
  rw [nums_intItems] at nums
  subst nums
  rw [e] at hl
  have some1 : 0 < pairs.size := by simpa using hne
  refine call_min_walk (wpAny_pyIter_tuple hl ?_)
  refine ⟨_, [_, l], [_], _, _, _, _, rfl, Walks.tuple (A := A.in1) hh _ l (Nat.ne_of_lt (tup_fp (ob := default) hl).1) (intItems pairs), ⟨⟨_, Heap.get?_push_size _ rfl, rfl, rfl⟩, hl.push _⟩, (tup_fp hl).2, by simpa [intItems] using some1, CmpOf.ints_lt (numAt pairs) (fun _ _ => intItems_at), fun v h' tk hP hk => ?_⟩
  have ez : (intItems pairs).size = pairs.size := by simp [intItems]
  rw [ez] at hP
  obtain ⟨t, rfl⟩ := intItems_at hP
  obtain ⟨_, least⟩ := argBest_lt (numAt pairs) (pairs.size - 1)
  refine told h' tk _ t (tup_old hk) ?_ fun a ha => ?_
  · rw [numAt_eq]
    exact PySem.getD_mem (by rw [List.length_map, Array.length_toList]; omega)
  · obtain ⟨i, hi', rfl⟩ := mem_getD ha
    have lt : i < pairs.toList.length := by simpa using hi'
    rw [Array.length_toList] at lt
    exact numAt_eq .. ▸ least i (by omega)
theorem max_tupR (hh : A.handled = none) (hl : s.heap.IsTuple l its.toArray) (hi : IntsAre its ns) (hne : 0 < ns.length)
    (told : ∀ h' tk M t', (∀ b o, s.heap.get? b = some o → h'.get? b = some o) → M ∈ ns → (∀ a, a ∈ ns → a ≤ M) → Q (.int M t') { s with heap := h', toks := tk }) : wpAny (model prog w) A (call (.builtin "max") [.ref l]) Q E s := by
  obtain ⟨pairs, e⟩ := hi.allInts.items
  have nums : numsOf (intItems pairs).toList = ns := by rw [← e]; exact hi.numsOf
  rw [nums_intItems] at nums
  subst nums
  rw [e] at hl
  have some1 : 0 < pairs.size := by simpa using hne
  refine call_max_walk (wpAny_pyIter_tuple hl ?_)
  refine ⟨_, [_, l], [_], _, _, _, _, rfl, Walks.tuple (A := A.in1) hh _ l (Nat.ne_of_lt (tup_fp (ob := default) hl).1) (intItems pairs), ⟨⟨_, Heap.get?_push_size _ rfl, rfl, rfl⟩, hl.push _⟩, (tup_fp hl).2, by simpa [intItems] using some1, CmpOf.ints_gt (numAt pairs) (fun _ _ => intItems_at), fun v h' tk hP hk => ?_⟩
  have ez : (intItems pairs).size = pairs.size := by simp [intItems]
  rw [ez] at hP
  obtain ⟨t, rfl⟩ := intItems_at hP
  obtain ⟨_, most⟩ := argBest_gt (numAt pairs) (pairs.size - 1)
  refine told h' tk _ t (tup_old hk) ?_ fun a ha => ?_
  · rw [numAt_eq]
    exact PySem.getD_mem (by rw [List.length_map, Array.length_toList]; omega)
  · obtain ⟨i, hi', rfl⟩ := mem_getD ha
    have lt : i < pairs.toList.length := by simpa using hi'
    rw [Array.length_toList] at lt
    exact numAt_eq .. ▸ most i (by omega)
end
section
variable {X : Cx}
def rSumT (K : PySem.W.Frag) : List V → Hp → VK → Prop := fun vs H Q => ∃ (a : Addr) (ns : List Int), vs = [V.ref a] ∧ SqT K H a (ns.map V.int) ∧ Q (.int ns.sum) H
def rMaxT (K : PySem.W.Frag) : List V → Hp → VK → Prop := fun vs H Q => ∃ (a : Addr) (ns : List Int), vs = [V.ref a] ∧ SqT K H a (ns.map V.int) ∧ 0 < ns.length ∧ ∀ m, m ∈ ns → (∀ y, y ∈ ns → y ≤ m) → Q (.int m) H
def rMinT (K : PySem.W.Frag) : List V → Hp → VK → Prop := fun vs H Q => ∃ (a : Addr) (ns : List Int), vs = [V.ref a] ∧ SqT K H a (ns.map V.int) ∧ 0 < ns.length ∧ ∀ m, m ∈ ns → (∀ y, y ∈ ns → m ≤ y) → Q (.int m) H
theorem call_sumT (hc : X.calm = true) : CallR X (.builtin "sum") (rSumT X.K) := by
  intro pins s σ H vs us Q I rel h
  obtain ⟨t, ns, rfl, at_t, q⟩ := h
  obtain ⟨its, rv, hl, _⟩ := I.tuple at_t
  rw [Vals.ref1 rel]
  exact sum_tupR (I.ok.hd hc) hl rv.ints fun h' tk t' hk => ⟨.int _, H, I.kept hk, ⟨_, rfl⟩, q⟩
theorem call_maxT (hc : X.calm = true) : CallR X (.builtin "max") (rMaxT X.K) := by
  intro pins s σ H vs us Q I rel h
  obtain ⟨t, ns, rfl, at_t, hne, q⟩ := h
  obtain ⟨its, rv, hl, _⟩ := I.tuple at_t
  rw [Vals.ref1 rel]
  exact max_tupR (I.ok.hd hc) hl rv.ints hne fun h' tk m t' hk h1 h2 => ⟨.int m, H, I.kept hk, ⟨_, rfl⟩, q m h1 h2⟩
theorem call_minT (hc : X.calm = true) : CallR X (.builtin "min") (rMinT X.K) := by
  intro pins s σ H vs us Q I rel h
  obtain ⟨t, ns, rfl, at_t, hne, q⟩ := h
  obtain ⟨its, rv, hl, _⟩ := I.tuple at_t
  rw [Vals.ref1 rel]
  exact min_tupR (I.ok.hd hc) hl rv.ints hne fun h' tk m t' hk h1 h2 => ⟨.int m, H, I.kept hk, ⟨_, rfl⟩, q m h1 h2⟩
end

/-! ### zip of a tuple and a list: one step of any two iterators -/
section
variable {w : World} {prog : Program} {s : Shared} {A : Around}
/-- nextOf i tells x and leaves T, from any state that keeps what s has but at the places off -/
def NextIs (prog : Program) (w : World) (s : Shared) (off : List Addr) (i : Addr) (x : Value) (T : Heap → Prop) : Prop :=
  ∀ (B : Around) (u : Shared) (Q : Value → Shared → Prop) (E : Value → Shared → Prop), (∀ c o, c ∉ off → s.heap.get? c = some o → u.heap.get? c = some o) →
    (∀ g, T g → Heap.SameBut i u.heap g → Q x { u with heap := g }) → wpAny (model prog w) B (Builtin.SmallTypes.nextOf (.ref i)) Q E u
/-- nextOf i stops -/
def NextEnds (prog : Program) (w : World) (s : Shared) (off : List Addr) (i : Addr) : Prop :=
  ∀ (B : Around) (u : Shared) (Q : Value → Shared → Prop) (E : Value → Shared → Prop), B.handled = none → (∀ c o, c ∉ off → s.heap.get? c = some o → u.heap.get? c = some o) →
    (∀ g e, Heap.ExtBut i u.heap g → (∃ o, g.get? e = some o ∧ o.cls = .type "StopIteration") → E (.ref e) { u with heap := g }) → wpAny (model prog w) B (Builtin.SmallTypes.nextOf (.ref i)) Q E u
/-- the five places of a zip are five -/
structure Five (z TI TO i j : Addr) : Prop where
  a : TI ≠ z
  b : TO ≠ z
  c : i ≠ z
  d : j ≠ z
  e : TO ≠ i
  f : TO ≠ j
  g : i ≠ j

theorem zip_step {E : Value → Shared → Prop} {z TI TO i j : Addr} {x y a b : Value} {T1 T2 : Heap → Prop} {Q : Option Value → Shared → Prop} (F : Five z TI TO i j)
    (hz : IsZip s.heap z TI TO .none) (hTI : IsPair s.heap TI (.ref i) (.ref j)) (hTO : IsPair s.heap TO a b)
    (lt : i < s.heap.objs.size ∧ j < s.heap.objs.size)
    (n1 : NextIs prog w s [z] i x T1) (n2 : NextIs prog w s [z, i, TO] j y T2)
    (k1 : ∀ g g' : Heap, T1 g → (∀ o, g.get? i = some o → g'.get? i = some o) → T1 g') (k2 : ∀ g g' : Heap, T2 g → (∀ o, g.get? j = some o → g'.get? j = some o) → T2 g')
    (hQ : ∀ g, IsZip g z TI TO (rawInt s.heap.objs.size) → IsPair g TO x y → T1 g → T2 g → IsPair g s.heap.objs.size x y → g.objs.size = s.heap.objs.size + 1 →
      (∀ c o, c ∉ [z, TO, i, j] → s.heap.get? c = some o → g.get? c = some o) → Q (some (.ref s.heap.objs.size)) { s with heap := g }) :
    wpAny (model prog w) A (pyNext (Value.ref z)) Q E s := by
  have isZ : s.TypeIs (.ref z) "zip" := ⟨_, hz, rfl⟩
  unfold pyNext
  refine wpAny_bind (wpAny_attempt (wpAny_callSpecial?_slot (name := Str.ofString "__next__") isZ PySem.F.slot_zip_next (wpAny_call_entry PySem.F.slot_zip_next isZ PySem.F.entry_zip_next ?_ (PySem.F.args_zip_next_1 _))))
  show wpAny _ _ (field (Value.ref z) 2 >>= _) _ _ _
  apply wpAny_bind
  refine wpAny_field hz rfl (x := .bool false) rfl ?_
  show wpAny _ _ (field (Value.ref z) 3 >>= _) _ _ _
  apply wpAny_bind
  refine wpAny_field hz rfl (x := .ref TI) rfl ?_
  apply wpAny_bind
  refine wpAny_seqItems hTI rfl ?_
  show wpAny _ _ (Builtin.SmallTypes.ownedTupleIsFree (Value.ref z) >>= _) _ _ _
  apply wpAny_bind; unfold Builtin.SmallTypes.ownedTupleIsFree; apply wpAny_bind
  refine wpAny_field hz rfl (x := .none) rfl (wpAny_pure ?_)
  simp only [if_true]
  apply wpAny_bind
  refine wpAny_rule ?_
  apply wpAny_bind
  refine wpAny_field hz rfl (x := .ref TO) rfl ?_
  apply wpAny_bind
  refine wpAny_setField_rec hz (by simp) fun g1 z1 s1 => ?_
  replace z1 : IsZip g1 z TI TO .ellipsis := z1
  apply wpAny_bind
  simp only [List.forIn_cons, List.forIn_nil, List.zipIdx_cons, List.zipIdx_nil]
  iterate 2 apply wpAny_bind
  apply wpAny_onRaise
  show wpAny _ _ (Builtin.SmallTypes.nextOf (.ref i) >>= _) _ _ _
  apply wpAny_bind
  refine n1 _ _ _ _ (fun c o n e => s1.extBut _ _ (by simpa using n) e) fun g2 t2 s2 => wpAny_pure ?_
  have o2 : IsPair g2 TO a b := s2.extBut _ _ F.e (s1.extBut _ _ F.b hTO)
  apply wpAny_bind
  refine wpAny_seqItems o2 rfl ?_
  apply wpAny_bind
  refine wpAny_updateSeq_pair o2 fun g3 o3 s3 => ?_
  replace o3 : IsPair g3 TO x b := o3
  apply wpAny_bind
  refine wpAny_letGo (wpAny_pure ?_)
  iterate 2 apply wpAny_bind
  apply wpAny_onRaise
  show wpAny _ _ (Builtin.SmallTypes.nextOf (.ref j) >>= _) _ _ _
  apply wpAny_bind
  refine n2 _ _ _ _ (fun c o n e => ?_) fun g4 t4 s4 => wpAny_pure ?_
  · have n' : c ≠ z ∧ c ≠ i ∧ c ≠ TO := by simpa using n
    exact s3.extBut _ _ n'.2.2 (s2.extBut _ _ n'.2.1 (s1.extBut _ _ n'.1 e))
  have o4 : IsPair g4 TO x b := s4.extBut _ _ F.f o3
  apply wpAny_bind
  refine wpAny_seqItems o4 rfl ?_
  apply wpAny_bind
  refine wpAny_updateSeq_pair o4 fun g5 o5 s5 => ?_
  replace o5 : IsPair g5 TO x y := o5
  apply wpAny_bind
  refine wpAny_letGo (wpAny_pure (wpAny_pure ?_))
  apply wpAny_bind
  refine wpAny_seqItems o5 rfl ?_
  apply wpAny_bind
  refine wpAny_newTuple ?_
  have size5 : g5.objs.size = s.heap.objs.size := by rw [s5.1, s4.1, s3.1, s2.1, s1.1]
  have z5 : IsZip g5 z TI TO .ellipsis := s5.extBut _ _ F.b.symm (s4.extBut _ _ F.d.symm (s3.extBut _ _ F.b.symm (s2.extBut _ _ F.c.symm z1)))
  have kept5 : ∀ c o, c ∉ [z, TO, i, j] → s.heap.get? c = some o → g5.get? c = some o := fun c o n e => by
    have n' : c ≠ z ∧ c ≠ TO ∧ c ≠ i ∧ c ≠ j := by simpa using n
    exact s5.extBut _ _ n'.2.1 (s4.extBut _ _ n'.2.2.2 (s3.extBut _ _ n'.2.1 (s2.extBut _ _ n'.2.2.1 (s1.extBut _ _ n'.1 e))))
  have u1 : T1 g5 := k1 _ _ t2 fun o e => s5.extBut _ _ F.e.symm (s4.extBut _ _ F.g (s3.extBut _ _ F.e.symm e))
  have u2 : T2 g5 := k2 _ _ t4 fun o e => s5.extBut _ _ F.f.symm e
  have zl : z < g5.objs.size := Heap.lt_size z5
  show wpAny _ _ (Builtin.SmallTypes.ownedTupleHandOut (.ref z) (.ref g5.objs.size) >>= _) _ _ _
  apply wpAny_bind; unfold Builtin.SmallTypes.ownedTupleHandOut
  have z6 : IsZip (g5.push { cls := .type "tuple", data := .seq #[x, y] }) z TI TO .ellipsis := Heap.get?_push_of_some _ z5
  apply wpAny_bind
  refine wpAny_setField_rec z6 (by simp) fun g7 z7 s7 => ?_
  replace z7 : IsZip g7 z TI TO (rawInt g5.objs.size) := z7
  refine wpAny_setField_rec z7 (by simp) fun g8 z8 s8 => ?_
  replace z8 : IsZip g8 z TI TO (rawInt g5.objs.size) := z8
  have up : ∀ c o, c ≠ z → g5.get? c = some o → g8.get? c = some o := fun c o n e => s8.extBut _ _ n (s7.extBut _ _ n (Heap.get?_push_of_some _ e))
  have pair8 : IsPair g8 g5.objs.size x y := s8.extBut _ _ (Nat.ne_of_gt zl) (s7.extBut _ _ (Nat.ne_of_gt zl) (Heap.get?_push_size _ rfl))
  have size8 : g8.objs.size = g5.objs.size + 1 := by rw [s8.1, s7.1, Heap.size_push]
  rw [size5] at z8 pair8 size8
  refine wpAny_pure ⟨_, rfl, wpAny_pure ?_⟩
  show Q (some (.ref g5.objs.size)) _
  rw [size5]
  exact hQ g8 z8 (up _ _ F.b o5) (k1 _ _ u1 fun o e => up _ o F.c e) (k2 _ _ u2 fun o e => up _ o F.d e) pair8 size8 fun c o n e => up c o (by simp at n; exact n.1) (kept5 c o n e)

theorem zip_stop0 {E : Value → Shared → Prop} {z TI TO i j : Addr} {a b : Value} {Q : Fin → Shared → Prop} (hh : A.handled = none) (F : Five z TI TO i j)
    (hz : IsZip s.heap z TI TO .none) (hTI : IsPair s.heap TI (.ref i) (.ref j)) (hTO : IsPair s.heap TO a b)
    (n : NextEnds prog w s [z] i ∨ (∃ (x : Value) (T : Heap → Prop), NextIs prog w s [z] i x T) ∧ NextEnds prog w s [z, i, TO] j)
    (fin : ∀ (g : Heap) (e : Addr), (∃ o, g.get? e = some o ∧ o.cls = .type "StopIteration") → (∀ c o, c ∉ [z, TO, i, j] → s.heap.get? c = some o → g.get? c = some o) → E (.ref e) { s with heap := g }) :
    wpAny (model prog w) A (Builtin.«zip.__next__» ⟨[Value.ref z], []⟩) Q E s := by
  show wpAny _ _ (field (Value.ref z) 2 >>= _) _ _ _
  apply wpAny_bind
  refine wpAny_field hz rfl (x := .bool false) rfl ?_
  show wpAny _ _ (field (Value.ref z) 3 >>= _) _ _ _
  apply wpAny_bind
  refine wpAny_field hz rfl (x := .ref TI) rfl ?_
  apply wpAny_bind
  refine wpAny_seqItems hTI rfl ?_
  show wpAny _ _ (Builtin.SmallTypes.ownedTupleIsFree (Value.ref z) >>= _) _ _ _
  apply wpAny_bind; unfold Builtin.SmallTypes.ownedTupleIsFree; apply wpAny_bind
  refine wpAny_field hz rfl (x := .none) rfl (wpAny_pure ?_)
  simp only [if_true]
  apply wpAny_bind
  refine wpAny_rule ?_
  apply wpAny_bind
  refine wpAny_field hz rfl (x := .ref TO) rfl ?_
  apply wpAny_bind
  refine wpAny_setField_rec hz (by simp) fun g1 z1 s1 => ?_
  replace z1 : IsZip g1 z TI TO .ellipsis := z1
  apply wpAny_bind
  simp only [List.forIn_cons, List.forIn_nil, List.zipIdx_cons, List.zipIdx_nil]
  iterate 2 apply wpAny_bind
  apply wpAny_onRaise
  show wpAny _ _ (Builtin.SmallTypes.nextOf (.ref i) >>= _) _ _ _
  rcases n with n | ⟨⟨x, T, n⟩, n'⟩
  · apply wpAny_bind
    refine n _ _ _ _ hh (fun c o m e => s1.extBut _ _ (by simpa using m) e) fun g2 e s2 he => ?_
    obtain ⟨oe, hoe, hce⟩ := he
    have z2 : IsZip g2 z TI TO .ellipsis := s2 _ _ F.c.symm z1
    have nez : e ≠ z := fun q => by subst q; rw [z2] at hoe; cases hoe; simp at hce
    refine wpAny_setField_rec z2 (by simp) fun g3 _ s3 => ?_
    refine fin g3 e ⟨oe, s3.extBut _ _ nez hoe, hce⟩ fun c o m q => ?_
    have m' : c ≠ z ∧ c ≠ TO ∧ c ≠ i ∧ c ≠ j := by simpa using m
    exact s3.extBut _ _ m'.1 (s2 _ _ m'.2.2.1 (s1.extBut _ _ m'.1 q))
  · apply wpAny_bind
    refine n _ _ _ _ (fun c o m e => s1.extBut _ _ (by simpa using m) e) fun g2 t2 s2 => wpAny_pure ?_
    have o2 : IsPair g2 TO a b := s2.extBut _ _ F.e (s1.extBut _ _ F.b hTO)
    apply wpAny_bind
    refine wpAny_seqItems o2 rfl ?_
    apply wpAny_bind
    refine wpAny_updateSeq_pair o2 fun g3 o3 s3 => ?_
    apply wpAny_bind
    refine wpAny_letGo (wpAny_pure ?_)
    iterate 2 apply wpAny_bind
    apply wpAny_onRaise
    show wpAny _ _ (Builtin.SmallTypes.nextOf (.ref j) >>= _) _ _ _
    apply wpAny_bind
    refine n' _ _ _ _ hh (fun c o m e => ?_) fun g4 e s4 he => ?_
    · have m' : c ≠ z ∧ c ≠ i ∧ c ≠ TO := by simpa using m
      exact s3.extBut _ _ m'.2.2 (s2.extBut _ _ m'.2.1 (s1.extBut _ _ m'.1 e))
    obtain ⟨oe, hoe, hce⟩ := he
    have z4 : IsZip g4 z TI TO .ellipsis := s4 _ _ F.d.symm (s3.extBut _ _ F.b.symm (s2.extBut _ _ F.c.symm z1))
    have nez : e ≠ z := fun q => by subst q; rw [z4] at hoe; cases hoe; simp at hce
    refine wpAny_setField_rec z4 (by simp) fun g5 _ s5 => ?_
    refine fin g5 e ⟨oe, s5.extBut _ _ nez hoe, hce⟩ fun c o m q => ?_
    have m' : c ≠ z ∧ c ≠ TO ∧ c ≠ i ∧ c ≠ j := by simpa using m
    exact s5.extBut _ _ m'.1 (s4 _ _ m'.2.2.2 (s3.extBut _ _ m'.2.1 (s2.extBut _ _ m'.2.2.1 (s1.extBut _ _ m'.1 q))))
theorem zip_stop {E : Value → Shared → Prop} {z TI TO i j : Addr} {a b : Value} {Q : Option Value → Shared → Prop} (hh : A.handled = none) (F : Five z TI TO i j)
    (hz : IsZip s.heap z TI TO .none) (hTI : IsPair s.heap TI (.ref i) (.ref j)) (hTO : IsPair s.heap TO a b)
    (n : NextEnds prog w s [z] i ∨ (∃ (x : Value) (T : Heap → Prop), NextIs prog w s [z] i x T) ∧ NextEnds prog w s [z, i, TO] j)
    (hQ : ∀ g, (∀ c o, c ∉ [z, TO, i, j] → s.heap.get? c = some o → g.get? c = some o) → Q none { s with heap := g }) :
    wpAny (model prog w) A (pyNext (Value.ref z)) Q E s := by
  have isZ : s.TypeIs (.ref z) "zip" := ⟨_, hz, rfl⟩
  unfold pyNext
  refine wpAny_bind (wpAny_attempt (wpAny_callSpecial?_slot (name := Str.ofString "__next__") isZ PySem.F.slot_zip_next (wpAny_call_entry PySem.F.slot_zip_next isZ PySem.F.entry_zip_next ?_ (PySem.F.args_zip_next_1 _))))
  refine zip_stop0 (A := A.in1) hh F hz hTI hTO n fun g e he hk => ?_
  obtain ⟨o, ho, hc⟩ := he
  apply wpAny_bind
  exact wpAny_isInstance (T := "StopIteration") (b := true) ⟨o, ho, hc⟩ isSubtype_stop (wpAny_pure (hQ _ hk))

/-! a tuple's and a list's -/
theorem next_tup {i l : Addr} {k : Nat} {xs : Array Value} {x : Value} {off : List Addr} (hi : s.heap.IsTupleIter i l k) (hl : s.heap.IsTuple l xs) (hx : xs[k]? = some x) (ni : i ∉ off) (nl : l ∉ off) :
    NextIs prog w s off i x (fun g => g.IsTupleIter i l (k + 1)) := fun B u Q E hk h =>
  RZ.nextOf_tuple_item (hi.at fun o e => hk _ o ni e) (hl.at fun o e => hk _ o nl e) hx h
theorem next_lst {i l : Addr} {k : Nat} {xs : Array Value} {x : Value} {off : List Addr} (hi : s.heap.IsListIter i l k) (hl : s.heap.IsList l xs) (hx : xs[k]? = some x) (ni : i ∉ off) (nl : l ∉ off) :
    NextIs prog w s off i x (fun g => g.IsListIter i l (k + 1)) := fun B u Q E hk h =>
  wpAny_nextOf_list_item (hi.at fun o e => hk _ o ni e) (hl.at fun o e => hk _ o nl e) hx h
theorem ends_tup {i l : Addr} {k : Nat} {xs : Array Value} {off : List Addr} (hi : s.heap.IsTupleIter i l k) (hl : s.heap.IsTuple l xs) (hx : xs[k]? = none) (ni : i ∉ off) (nl : l ∉ off) :
    NextEnds prog w s off i := fun B u Q E hh hk h =>
  RZ.nextOf_tuple_end hh (hi.at fun o e => hk _ o ni e) (hl.at fun o e => hk _ o nl e) hx h
theorem ends_lst {i l : Addr} {k : Nat} {xs : Array Value} {off : List Addr} (hi : s.heap.IsListIter i l k) (hl : s.heap.IsList l xs) (hx : xs[k]? = none) (ni : i ∉ off) (nl : l ∉ off) :
    NextEnds prog w s off i := fun B u Q E hh hk h =>
  wpAny_nextOf_list_end hh (hi.at fun o e => hk _ o ni e) (hl.at fun o e => hk _ o nl e) hx h
end

/-! zip(t, xs), t a tuple, xs a list -/
abbrev zTL1 (h : Heap) (a : Addr) : Heap := h.push { cls := .type "tuple_iterator", data := .fields #[.ref a, .int 0 0] }
abbrev zTL2 (h : Heap) (a b : Addr) : Heap := (zTL1 h a).push { cls := .type "list_iterator", data := .fields #[.ref b, .int 0 0] }
abbrev zTL3 (h : Heap) (a b : Addr) : Heap := (zTL2 h a b).push { cls := .type "tuple", data := .seq #[.ref h.objs.size, .ref (zTL1 h a).objs.size] }
abbrev zTL4 (h : Heap) (a b : Addr) : Heap := (zTL3 h a b).push { cls := .type "tuple", data := .seq #[.none, .none] }
abbrev zTL5 (h : Heap) (a b : Addr) : Heap := (zTL4 h a b).push { cls := .type "zip", data := .fields #[.none, .bool false, .bool false, .ref (zTL2 h a b).objs.size, .ref (zTL3 h a b).objs.size] }
theorem zTL_new (a b : Addr) (xs ys : Array Value) :
    Meets (Builtin.«zip.__new__» ⟨[.type "zip", .ref a, .ref b], []⟩) (fun _ R s => s.heap.IsTuple a xs ∧ s.heap.IsList b ys ∧ R (.ok (.ret (.ref (zTL4 s.heap a b).objs.size))) { s with heap := zTL5 s.heap a b }) :=
  .of_wp fun prog w A R st h => by
    obtain ⟨hp, g, d, tk, os⟩ := st
    obtain ⟨ha, hb, h⟩ := h
    have sub := sub_zip
    have iA : Heap.IsTuple (Shared.heap ⟨hp, g, d, tk, os⟩) a xs := ha
    have iB : Heap.IsList (Shared.heap ⟨hp.push { cls := .type "tuple_iterator", data := .fields #[.ref a, .int 0 0] }, g, d, tk, os⟩) b ys := Heap.IsList.push hb _
    wp_walk using wpAny_pyIter_tuple iA, wpAny_pyIter_list iB
    exact ⟨_, rfl, h⟩
section
variable {prog : Program} {w : World} {A : Around} {E : Value → Shared → Prop} {s : Shared}
theorem call_zTL {a b : Addr} {xs ys : Array Value} {Q : Value → Shared → Prop} (ha : s.heap.IsTuple a xs) (hb : s.heap.IsList b ys)
    (h : ∀ (n : Nat) (g : Heap), n = s.heap.objs.size → IsZip g (n + 4) (n + 2) (n + 3) .none → IsPair g (n + 2) (.ref n) (.ref (n + 1)) → IsPair g (n + 3) .none .none → g.IsTupleIter n a 0 → g.IsListIter (n + 1) b 0 →
      (∀ c o, s.heap.get? c = some o → g.get? c = some o) → Q (.ref (n + 4)) { s with heap := g }) :
    wpAny (model prog w) A (call (.type "zip") [.ref a, .ref b]) Q E s := by
  refine callType_new PySem.F.called_zip (by decide) (PySem.F.typeCall_zip_2 _ _) (PySem.F.newCall_zip_2 _ _) (fun o => PySem.F.args_object_init_3 o _ _) PySem.F.entry_zip_new (zTL_new a b xs ys) ⟨ha, hb, ?_⟩
  have e1 : (zTL1 s.heap a).objs.size = s.heap.objs.size + 1 := Heap.size_push ..
  have e2 : (zTL2 s.heap a b).objs.size = s.heap.objs.size + 2 := by rw [Heap.size_push, e1]
  have e3 : (zTL3 s.heap a b).objs.size = s.heap.objs.size + 3 := by rw [Heap.size_push, e2]
  have e4 : (zTL4 s.heap a b).objs.size = s.heap.objs.size + 4 := by rw [Heap.size_push, e3]
  have g5 : (zTL5 s.heap a b).get? (zTL4 s.heap a b).objs.size = some _ := Heap.get?_push_size _ rfl
  have g4 : (zTL5 s.heap a b).get? (zTL3 s.heap a b).objs.size = some _ := Heap.get?_push_of_some _ (Heap.get?_push_size _ rfl)
  have g3 : (zTL5 s.heap a b).get? (zTL2 s.heap a b).objs.size = some _ := Heap.get?_push_of_some _ (Heap.get?_push_of_some _ (Heap.get?_push_size _ rfl))
  have g2 : (zTL5 s.heap a b).get? (zTL1 s.heap a).objs.size = some _ := Heap.get?_push_of_some _ (Heap.get?_push_of_some _ (Heap.get?_push_of_some _ (Heap.get?_push_size _ rfl)))
  have g1 : (zTL5 s.heap a b).get? s.heap.objs.size = some _ := Heap.get?_push_of_some _ (Heap.get?_push_of_some _ (Heap.get?_push_of_some _ (Heap.get?_push_of_some _ (Heap.get?_push_size _ rfl))))
  show _ ∧ _
  rw [e2, e3, e4] at g5
  rw [e1, e2] at g3
  rw [e3] at g4
  rw [e1] at g2
  rw [e4]
  refine ⟨⟨_, g5, rfl⟩, h _ _ rfl g5 g3 g4 ⟨_, g1, rfl, rfl⟩ ⟨_, g2, rfl, rfl⟩ fun c o x => ?_⟩
  iterate 5 apply Heap.get?_push_of_some
  exact x
end

/-- what a turn over zip(t, xs) is -/
def ItTL (K : PySem.W.Frag) (a b : Addr) : It :=
  ⟨fun i H => ∃ (xs ys : List V) (x y : V), SqT K H a xs ∧ SqL K H b ys ∧ xs[i]? = some x ∧ ys[i]? = some y,
    fun i H v H' => ∃ T x y, v = .ref T ∧ H T = none ∧ H' = upd H T (.tup [x, y]) ∧ (∀ xs, SqT K H a xs → xs[i]? = some x) ∧ ∀ ys, SqL K H b ys → ys[i]? = some y,
    fun i H => ∃ xs ys : List V, SqT K H a xs ∧ SqL K H b ys ∧ (xs.length ≤ i ∨ ys.length ≤ i)⟩
theorem turn_TL {P : Program} {w : World} {K : PySem.W.Frag} {elts : List Expr} {kk : Nat} {tpos : Pos} {a b z TI TO i1 i2 : Addr} (V5 : Five z TI TO i1 i2) (nI : TI ≠ TO ∧ TI ≠ i1 ∧ TI ≠ i2) (na : a ∉ [z, TO, i1, i2]) (nb : b ∉ [z, TO, i1, i2]) :
    Turn P w K (.Tuple elts kk tpos) (ItTL K a b) [z, TI, TO, i1, i2] z (fun i h => IsZip h z TI TO .none ∧ IsPair h TI (.ref i1) (.ref i2) ∧ (∃ x y, IsPair h TO x y) ∧ h.IsTupleIter i1 a i ∧ h.IsListIter i2 b i) where
  mem := by simp
  obj := fun i h st c hc => by
    obtain ⟨isz, pI, ⟨x, y, pO⟩, ⟨o1, e1, _, d1⟩, ⟨o2, e2, _, d2⟩⟩ := st
    have five : c = z ∨ c = TI ∨ c = TO ∨ c = i1 ∨ c = i2 := by simpa using hc
    rcases five with rfl | rfl | rfl | rfl | rfl
    · exact ⟨_, isz, fun v q => nomatch q⟩
    · exact ⟨_, pI, fun v q => nomatch q⟩
    · exact ⟨_, pO, fun v q => nomatch q⟩
    · exact ⟨o1, e1, fun v q => by rw [d1] at q; cases q⟩
    · exact ⟨o2, e2, fun v q => by rw [d2] at q; cases q⟩
  keep := fun i h h' st k => by
    obtain ⟨isz, pI, ⟨x, y, pO⟩, h1, h2⟩ := st
    exact ⟨k _ (by simp) _ isz, k _ (by simp) _ pI, ⟨x, y, k _ (by simp) _ pO⟩, h1.at fun o q => k _ (by simp) o q, h2.at fun o q => k _ (by simp) o q⟩
  item := by
    intro X eP eW eK hc i pins s σ H E I hf st hg
    subst eP eW eK
    obtain ⟨isz, pI, ⟨x0, y0, pO⟩, h1, h2⟩ := st
    obtain ⟨xs, ys, x, y, qx, qy, hx, hy⟩ := hg
    obtain ⟨its, rv, p1, _⟩ := I.tuple qx
    obtain ⟨jts, rw_, p2, _⟩ := I.list qy
    obtain ⟨u, at_u, ru⟩ := rv.get hx
    obtain ⟨v, hv, rv2⟩ := rw_.get hy
    have zl : z < s.heap.objs.size := Heap.lt_size isz
    have l1 : i1 < s.heap.objs.size := by obtain ⟨_, e, _⟩ := h1; exact Heap.lt_size e
    have l2 : i2 < s.heap.objs.size := by obtain ⟨_, e, _⟩ := h2; exact Heap.lt_size e
    have na' : a ≠ z ∧ a ≠ TO ∧ a ≠ i1 ∧ a ≠ i2 := by simpa using na
    have nb' : b ≠ z ∧ b ≠ TO ∧ b ≠ i1 ∧ b ≠ i2 := by simpa using nb
    refine zip_step (T1 := fun g => g.IsTupleIter i1 a (i + 1)) (T2 := fun g => g.IsListIter i2 b (i + 1)) V5 isz pI pO ⟨l1, l2⟩ (next_tup h1 p1 (x := u) (by simpa using at_u) (by simpa using V5.c) (by simpa using na'.1))
      (next_lst h2 p2.isList (x := v) (by simpa using hv) (by simpa using ⟨V5.d, V5.g.symm, V5.f.symm⟩) (by simpa using ⟨nb'.1, nb'.2.2.1, nb'.2.1⟩)) (fun g g' t k => t.at k) (fun g g' t k => t.at k) fun g z' TO' t1 t2 hT hsz hk => ?_
    refine ⟨_, rfl, wpAny_letOwnedTupleGo_zip (s := { s with heap := g }) z' fun g2 z2 sb => ?_⟩
    have hT2 : g2.get? s.heap.objs.size = some { cls := .type "tuple", data := .seq #[u, v] } := (sb.2 _ (Nat.ne_of_gt zl)).trans hT
    have new : ObjOk X.prog X.w (upd H s.heap.objs.size (.tup [x, y])) g2 s.heap.objs.size (.tup [x, y]) := ⟨by show 2 ≤ sizeLine; decide, [u, v], .cons ru (.cons rv2 .nil), ⟨_, hT2, rfl, _, rfl⟩⟩
    have I1 : Inv X pins σ (upd H s.heap.objs.size (.tup [x, y])) { s with heap := g2 } := by
      refine I.turnedNew (t' := s.toks) (ch := [z, TI, TO, i1, i2]) (fun c o hb q => ?_) hf (Nat.le_refl _) new
      have n5 : c ≠ z ∧ c ≠ TI ∧ c ≠ TO ∧ c ≠ i1 ∧ c ≠ i2 := by simpa using hb
      exact (sb.2 c n5.1).trans (hk c o (by simpa using ⟨n5.1, n5.2.2.1, n5.2.2.2.1, n5.2.2.2.2⟩) q)
    have up : ∀ c o, c ≠ z → g.get? c = some o → g2.get? c = some o := fun c o n q => (sb.2 c n).trans q
    refine ⟨.ref s.heap.objs.size, _, I1, rfl, ⟨_, x, y, rfl, I.hok.fresh (Nat.le_refl _), rfl, fun l hl => by rw [I.tuple_inj hl qx]; exact hx, fun l hl => by rw [I.list_inj hl qy]; exact hy⟩, ⟨z2, ?_, ⟨u, v, up _ _ V5.b TO'⟩, t1.at fun o q => up _ o V5.c q, t2.at fun o q => up _ o V5.d q⟩, fun c hcm => ?_⟩
    · exact up _ _ V5.a (hk _ _ (by simpa using ⟨V5.a, nI.1, nI.2.1, nI.2.2⟩) pI)
    · have five : c = z ∨ c = TI ∨ c = TO ∨ c = i1 ∨ c = i2 := by simpa using hcm
      have lt : c < s.heap.objs.size := by
        rcases five with rfl | rfl | rfl | rfl | rfl
        · exact zl
        · exact Heap.lt_size pI
        · exact Heap.lt_size pO
        · exact l1
        · exact l2
      rw [upd_ne (Nat.ne_of_lt lt)]
      exact (hf c hcm).1
  done := by
    intro X eP eW eK hc i pins s σ H E I hf st hg
    subst eP eW eK
    obtain ⟨isz, pI, ⟨x0, y0, pO⟩, h1, h2⟩ := st
    obtain ⟨xs, ys, qx, qy, hend⟩ := hg
    obtain ⟨its, rv, p1, _⟩ := I.tuple qx
    obtain ⟨jts, rw_, p2, _⟩ := I.list qy
    have m1 := rv.length
    have m2 := rw_.length
    have na' : a ≠ z ∧ a ≠ TO ∧ a ≠ i1 ∧ a ≠ i2 := by simpa using na
    have nb' : b ≠ z ∧ b ≠ TO ∧ b ≠ i1 ∧ b ≠ i2 := by simpa using nb
    have n : NextEnds X.prog X.w s [z] i1 ∨ (∃ (x : Value) (T : Heap → Prop), NextIs X.prog X.w s [z] i1 x T) ∧ NextEnds X.prog X.w s [z, i1, TO] i2 := by
      by_cases c : xs.length ≤ i
      · exact .inl (ends_tup h1 p1 (by simp; omega) (by simpa using V5.c) (by simpa using na'.1))
      · have c2 : ys.length ≤ i := by omega
        exact .inr ⟨⟨its[i]'(by omega), _, next_tup h1 p1 (by simp) (by simpa using V5.c) (by simpa using na'.1)⟩, ends_lst h2 p2.isList (by simp; omega) (by simpa using ⟨V5.d, V5.g.symm, V5.f.symm⟩) (by simpa using ⟨nb'.1, nb'.2.2.1, nb'.2.1⟩)⟩
    refine zip_stop (I.ok.hd hc) V5 isz pI pO n fun g hk => ⟨rfl, I.turnedL (t' := s.toks) (ch := [z, TI, TO, i1, i2]) (fun c o hb q => ?_) hf⟩
    have n5 : c ≠ z ∧ c ≠ TI ∧ c ≠ TO ∧ c ≠ i1 ∧ c ≠ i2 := by simpa using hb
    exact hk c o (by simpa using ⟨n5.1, n5.2.2.1, n5.2.2.2.1, n5.2.2.2.2⟩) q
  self := fun _ _ _ _ _ st h => wpAny_pyIter_zip st.1 h

theorem five_at (n : Nat) : Five (n + 4) (n + 2) (n + 3) n (n + 1) := by
  constructor
  · show (n + 2 : Nat) ≠ n + 4; omega
  · show (n + 3 : Nat) ≠ n + 4; omega
  · show (n : Nat) ≠ n + 4; omega
  · show (n + 1 : Nat) ≠ n + 4; omega
  · show (n + 3 : Nat) ≠ n; omega
  · show (n + 3 : Nat) ≠ n + 1; omega
  · show (n : Nat) ≠ n + 1; omega
theorem six_at (n : Nat) : (n + 2 : Nat) ≠ n + 3 ∧ (n + 2 : Nat) ≠ n ∧ (n + 2 : Nat) ≠ n + 1 := by omega
theorem five_out {n a : Nat} (h : a < n) : a ∉ [n + 4, n + 3, n, n + 1] := by
  simp
  omega
def iTL (K : PySem.W.Frag) (ta : TA) : TI := fun σ H R => ta σ H fun vs H1 => ∃ a b xs ys, vs = [.ref a, .ref b] ∧ SqT K H1 a xs ∧ SqL K H1 b ys ∧ R (ItTL K a b) H1
theorem pi_zipTL {X : Cx} {e e2 : Expr} {ta : TA} {p pos tpos : Pos} {elts : List Expr} {kk : Nat} (hg : Gl X "zip") (hm : X.mg "zip" = none) (ha : PA X [e, e2] ta)
    (hs : starEach [e, e2] X.env = (false, eval e X.env) :: starEach [e2] X.env := by rfl) (hpl : (backTo pos (starEach [e2] X.env)).any (·.1) = false := by rfl) : PI X (.Tuple elts kk tpos) (.Call (.Name "zip" p) [e, e2] [] pos) (iTL X.K ta) := by
  refine ⟨fun pins s0 σ H R I h => ?_⟩
  refine Call_ (ld_blt I hg hm PyProof.Rows.boot_zip (PyProof.Rows.callWith_type1 (thn (ha.run pos pins s0 σ H _ I h) fun us u ⟨vs, H1, I1, r1, q1⟩ => ?_) hs hpl))
  obtain ⟨a, b, xs, ys, rfl, qx, qy, q⟩ := q1
  cases r1 with
  | cons r rr =>
    cases rr with
    | cons r' rr =>
      cases rr
      cases r
      cases r'
      obtain ⟨its, rv, p1, _⟩ := I1.tuple qx
      obtain ⟨jts, rw_, p2, _⟩ := I1.list qy
      have la : a < u.heap.objs.size := by obtain ⟨o, ho, _⟩ := id p1; exact Heap.lt_size ho
      have lb : b < u.heap.objs.size := p2.lt
      refine call_zTL (xs := its.toArray) p1 p2.isList fun n g hn hz hTI hTO h1 h2 hk => wpAny_pyIter_zip hz ?_
      have I2 : Inv X pins σ H1 { u with heap := g } := I1.kept (t' := u.toks) hk
      have fr : ∀ c, c ∈ [n + 4, n + 2, n + 3, n, n + 1] → FpOk X pins H1 c := fun c hcm => by
        have five : c = n + 4 ∨ c = n + 2 ∨ c = n + 3 ∨ c = n ∨ c = n + 1 := by simpa using hcm
        have le : u.heap.objs.size ≤ c := by rw [← hn]; omega
        exact I1.fpOk le (I1.hok.fresh le)
      refine ⟨n + 4, [n + 4, n + 2, n + 3, n, n + 1], _, _, H1, rfl, I2, turn_TL (z := n + 4) (TI := n + 2) (TO := n + 3) (i1 := n) (i2 := n + 1) (five_at n) (six_at n) (five_out (by rw [hn]; exact la)) (five_out (by rw [hn]; exact lb)), ⟨hz, hTI, ⟨_, _, hTO⟩, h1, h2⟩, fr, q⟩
/-- a loop over it, both of one length -/
theorem for_TL {K : PySem.W.Frag} {a b : Addr} {xs ys : List V} {g : TG} {tb : TS} {D : Ends} {σ : L2.St} {H : Hp} (hl : xs.length = ys.length) (Inv0 : Nat → L2.St → Hp → Prop) (h0 : Inv0 0 σ H) (hq : ∀ i σ H, Inv0 i σ H → SqT K H a xs ∧ SqL K H b ys)
    (hs : ∀ (i : Nat) (x y : V) (T : Addr) (σ : L2.St) (H : Hp), xs[i]? = some x → ys[i]? = some y → Inv0 i σ H → H T = none → g (.ref T) σ (upd H T (.tup [x, y])) fun σ2 H2 => tb { D with nx := Inv0 (i + 1), ct := Inv0 (i + 1), bk := D.nx } σ2 H2) (hd : ∀ σ H, Inv0 xs.length σ H → D.nx σ H) :
    ∃ Z : Nat → Nat → L2.St → Hp → Prop, (∃ m, Z 0 m σ H) ∧ ∀ i m σ H, Z i m σ H →
      ((ItTL K a b).stop i H ∧ D.nx σ H) ∨ ((ItTL K a b).go i H ∧ ∃ N : L2.St → Hp → Prop, (∀ σ' H', N σ' H' → ∃ m', m' < m ∧ Z (i + 1) m' σ' H') ∧ ∀ v H', (ItTL K a b).yld i H v H' → g v σ H' fun σ2 H2 => tb { D with nx := N, ct := N, bk := D.nx } σ2 H2) := by
  refine ⟨fun i m σ H => m = xs.length - i ∧ i ≤ xs.length ∧ Inv0 i σ H, ⟨xs.length, rfl, Nat.zero_le _, h0⟩, ?_⟩
  rintro i m σ H ⟨rfl, hi, p⟩
  obtain ⟨qx, qy⟩ := hq i σ H p
  by_cases lt : i < xs.length
  · have lt2 : i < ys.length := by omega
    refine .inr ⟨⟨xs, ys, _, _, qx, qy, List.getElem?_eq_getElem lt, List.getElem?_eq_getElem lt2⟩, Inv0 (i + 1), fun σ' H' p' => ⟨xs.length - (i + 1), by omega, rfl, lt, p'⟩, fun v H' y => ?_⟩
    obtain ⟨T, u1, u2, rfl, nT, rfl, f1, f2⟩ := y
    exact hs i u1 u2 T σ H (f1 xs qx) (f2 ys qy) p nT
  · obtain rfl : i = xs.length := by omega
    exact .inl ⟨⟨xs, ys, qx, qy, .inl (Nat.le_refl _)⟩, hd σ H p⟩
/-! ### slices and sums of tuples, whichever way they come -/
theorem slA {K : PySem.W.Frag} {H : Hp} {a : Addr} {xs : List V} {lo hi : Option Int} {Q : VK} (h : SqT K H a xs) (q : ∀ H' r, Same H H' → SqT K H' r (cutV xs lo hi) → Q (.ref r) H') : rSlA K (.ref a) lo hi H Q := by
  refine ⟨a, xs, rfl, h, fun hw => q H a (Same.refl H) ?_, fun _ p np => q _ p (same_upd np) (.inl (.inl upd_same))⟩
  unfold cutV
  rw [hw.1, hw.2, List.drop_zero, Nat.sub_zero, List.take_length]
  exact h
theorem catA {K : PySem.W.Frag} {H : Hp} {a b : Addr} {xs ys : List V} {Q : VK} (ha : SqT K H a xs) (hb : SqT K H b ys) (hl : xs.length + ys.length ≤ sizeLine) (q : ∀ H' r, Same H H' → SqT K H' r (xs ++ ys) → Q (.ref r) H') : rCatA K (.ref a) (.ref b) H Q := by
  refine ⟨a, b, xs, ys, rfl, rfl, ha, hb, hl, fun e => q H b (Same.refl H) ?_, fun _ e => q H a (Same.refl H) ?_, fun _ _ p np => q _ p (same_upd np) (.inl (.inl upd_same))⟩
  · rw [e, List.nil_append]
    exact hb
  · rw [e, List.append_nil]
    exact ha
theorem cut_last (xs : List V) (v : V) : cutV (xs ++ [v]) (some (-1)) none = [v] := by
  have e : HT.sIx (xs ++ [v]).length 0 (some (-1)) = xs.length := by
    show (if (-1 : Int) < 0 then (-1 + ((xs ++ [v]).length : Int)).toNat else min (-1 : Int).toNat (xs ++ [v]).length) = xs.length
    rw [if_pos (by decide), List.length_append, List.length_singleton]
    omega
  unfold cutV
  rw [e, HT.sIx_none, List.drop_left, List.length_append, List.length_singleton, Nat.add_sub_cancel_left]
  rfl
theorem cut_init (xs : List V) (v : V) : cutV (xs ++ [v]) none (some (-1)) = xs := by
  have e : HT.sIx (xs ++ [v]).length (xs ++ [v]).length (some (-1)) = xs.length := by
    show (if (-1 : Int) < 0 then (-1 + ((xs ++ [v]).length : Int)).toNat else min (-1 : Int).toNat (xs ++ [v]).length) = xs.length
    rw [if_pos (by decide), List.length_append, List.length_singleton]
    omega
  unfold cutV
  rw [e, HT.sIx_none, List.drop_zero, Nat.sub_zero, List.take_left]
end TB

set_option Elab.async false
set_option linter.all false
set_option maxRecDepth 100000
namespace TB
open PySem PySem.Spec PyProof.Rows L2 HT

/-! ### t[::-1] of a tuple -/
theorem back_adjust (n : Nat) : Builtin.Slice.sliceAdjust none none (-1) (n : Int) = ((n : Int) - 1, -1) := by
  simp [Builtin.Slice.sliceAdjust]
theorem back_places (n : Nat) : Builtin.Slice.slicePlaces ((n : Int) - 1) (-1) (-1) = n := by
  have no : ¬ ((-1 : Int) > 0) := by decide
  simp only [Builtin.Slice.slicePlaces, no, if_false]
  by_cases c : (n : Int) - 1 > -1
  · rw [if_pos c, show (- -1 : Int) = 1 by decide, Int.ediv_one]
    omega
  · rw [if_neg c]
    omega
theorem fm_congr {α β : Type} {f g : α → Option β} : ∀ {l : List α}, (∀ a ∈ l, f a = g a) → l.filterMap f = l.filterMap g
  | [], _ => rfl
  | x :: l, h => by
    rw [List.filterMap_cons, List.filterMap_cons, h x List.mem_cons_self, fm_congr fun a ha => h a (List.mem_cons_of_mem _ ha)]
theorem back_pick (xs : Array Value) : ((List.range xs.size).filterMap fun (m : Nat) => xs[(((xs.size : Int) - 1) + (m : Int) * (-1)).toNat]?).toArray = xs.toList.reverse.toArray := by
  have e : (List.range xs.size).filterMap (fun (m : Nat) => xs[(((xs.size : Int) - 1) + (m : Int) * (-1)).toNat]?) = ((List.range xs.size).map fun m => xs.size - 1 - m).filterMap (xs[·]?) := by
    rw [List.filterMap_map]
    refine fm_congr fun m hm => ?_
    have : (((xs.size : Int) - 1) + (m : Int) * (-1)).toNat = xs.size - 1 - m := by
      have := List.mem_range.mp hm
      omega
    rw [this]
    rfl
  rw [e, PySem.W.krv_range, List.filterMap_reverse, PySem.W.krv_all]
section
variable {w : World} {prog : Program} {s : Shared} {A : Around} {E : Value → Shared → Prop}
theorem back_applied {sl : Addr} {vs : Value} {n : Nat} {Q : Int × Int × Nat → Shared → Prop} (hs : s.heap.IsSliceOf sl .none .none vs) (ps : IsPart vs (some (-1))) (h : Q ((n : Int) - 1, -1, n) s) :
    wpAny (model prog w) A (Builtin.Slice.sliceApplied (Value.ref sl) (pure (n : Int))) Q E s := by
  obtain ⟨o, ho, _, hd⟩ := id hs
  unfold Builtin.Slice.sliceApplied
  unfold Builtin.Slice.sliceFields
  refine wpAny_bind (wpAny_bind (wpAny_field ho hd (x := .none) rfl (wpAny_bind (wpAny_field ho hd (x := .none) rfl (wpAny_bind (wpAny_field ho hd (x := vs) rfl (wpAny_pure ?_)))))))
  apply wpAny_bind
  refine slicePart_ ps ?_
  show wpAny _ _ (if ((-1 : Int) == 0) = true then _ else _) _ _ s
  rw [if_neg (by decide)]
  apply wpAny_bind
  refine slicePart_ .none ?_
  apply wpAny_bind
  refine slicePart_ .none ?_
  apply wpAny_bind
  refine wpAny_pure ?_
  show wpAny _ _ (match Builtin.Slice.sliceAdjust none none (-1) (n : Int) with | (lo, hi) => pure (lo, (-1 : Int), Builtin.Slice.slicePlaces lo hi (-1))) _ _ s
  rw [back_adjust]
  show wpAny _ _ (pure ((n : Int) - 1, (-1 : Int), Builtin.Slice.slicePlaces ((n : Int) - 1) (-1) (-1))) _ _ s
  rw [back_places]
  exact wpAny_pure h
theorem back_item {t sl : Addr} {items : Array Value} {vs : Value} {Q : Value → Shared → Prop} (ht : IsTup s.heap t items) (hs : s.heap.IsSliceOf sl .none .none vs) (ps : IsPart vs (some (-1)))
    (h : Q (.ref s.heap.objs.size) { s with heap := s.heap.push { cls := .type "tuple", data := .seq items.toList.reverse.toArray } }) (hsz : items.size ≤ sizeLine) : wpAny (model prog w) A (getItem (.ref t) (.ref sl)) Q E s := by
  have fits : sizeOk (.seq items.toList.reverse.toArray) := by
    show items.toList.reverse.toArray.size ≤ sizeLine
    rw [List.size_toArray, List.length_reverse, Array.length_toList]
    exact hsz
  obtain ⟨o, ho, hc, hd⟩ := id hs
  have isS : s.TypeIs (.ref sl) "slice" := ⟨o, ho, hc⟩
  unfold getItem
  try with_reducible apply wpAny_holding
  try refine wpAny_bind (wpAny_pure ?_)
  apply wpAny_bind
  refine wpAny_sequenceKey ht.typeIs (by decide) ?_
  apply wpAny_bind
  refine wpAny_callSpecial?_slot (name := Str.ofString "__getitem__") ht.typeIs PyProof.Rows.slot_tuple_getitem (wpAny_call_entry PyProof.Rows.slot_tuple_getitem ht.typeIs entry_tuple_getitem ?_ (args_tuple_getitem _ _))
  show wpAny _ _ (Builtin.Tuple.tupleItemsOf (Value.ref t) >>= _) _ _ s
  apply wpAny_bind
  refine tupleItemsOf_ ht ?_
  apply wpAny_bind
  refine wpAny_typeOf isS ?_
  rw [if_pos (by decide)]
  apply wpAny_bind
  refine back_applied hs ps ?_
  show wpAny _ _ (if (((items.size : Int) - 1) == 0 && (-1 : Int) == 1 && items.size == items.size) = true then _ else _) _ _ s
  rw [if_neg (by simp), back_pick]
  first
    | exact wpAny_bind (m := Builtin.Tuple.tupleExact _) (wpAny_newObj_type (wpAny_pure ⟨_, rfl, wpAny_pure h⟩) fits)
    | exact wpAny_bind (m := Builtin.Tuple.tupleExact _) (wpAny_newObj_type (wpAny_bind (wpAny_pure (wpAny_pure ⟨_, rfl, wpAny_pure h⟩))) fits)
    | exact wpAny_bind (wpAny_bind (m := Builtin.Tuple.tupleExact _) (wpAny_newObj_type (wpAny_pure (wpAny_pure ⟨_, rfl, wpAny_pure h⟩)) fits))
    | exact wpAny_bind (wpAny_bind (m := Builtin.Tuple.tupleExact _) (wpAny_newObj_type (wpAny_pure ⟨_, rfl, wpAny_pure h⟩) fits))
end
def tRevT (K : PySem.W.Frag) (te : TE) : TE := fun σ H Q => te σ H fun x H1 => ∃ a xs, x = .ref a ∧ SqT K H1 a xs ∧ ∀ p, H1 p = none → Q (.ref p) (upd H1 p (.tup xs.reverse))
section
variable {X : Cx}
theorem pe_revT {e : Expr} {te : TE} {k : Nat} {p1 p2 p3 pos : Pos} (he : PE X e te) : PE X (.Subscript e (.Slice none none (some (.UnaryOp .USub (.Constant (.int 1) k p1) p2)) p3) pos) (tRevT X.K te) := by
  refine ⟨fun pins s0 σ H Q I h => ?_⟩
  refine Subscript_ (thn (he.run pins s0 σ H _ I h) fun v s1 ⟨x, H1, I1, r1, q1⟩ => ?_)
  obtain ⟨a, xs, rfl, hx, q⟩ := q1
  cases r1
  have step : PO X (some (.UnaryOp .USub (.Constant (.int 1) k p1) p2)) (tPart (tUn (rU fun i => .int (-i)) (tC (.int 1)))) := po_some (pe_un un_neg pe_int)
  refine wpAny_Slice (thn (po_none.run pins s1 σ H1 (fun o G => o = none ∧ G = H1) I1 ⟨rfl, rfl⟩) fun vl s2 ⟨l, G2, I2, pl, el, e2⟩ => ?_)
  subst el e2
  refine thn (po_none.run pins s2 σ G2 (fun o G => o = none ∧ G = G2) I2 ⟨rfl, rfl⟩) fun vu s3 ⟨u, G3, I3, pu, eu, e3⟩ => ?_
  subst eu e3
  refine thn (step.run pins s3 σ G3 (fun o G => o = some (-1) ∧ G = G3) I3 ⟨1, rfl, -1, rfl, rfl, rfl⟩) fun vs s4 ⟨o, G4, I4, ps, eo, e4⟩ => ?_
  subst eo e4
  cases pl
  cases pu
  have I5 : Inv X pins σ G4 { s4 with heap := s4.heap.push { cls := .type "slice", data := .fields #[.none, .none, vs] } } := I4.kept (t' := s4.toks) fun b ob z => Heap.get?_push_of_some _ z
  obtain ⟨its, r, ht, hz⟩ := I5.tuple hx
  have lens := r.length
  show wpAny (model X.prog X.w) X.A (subscriptTail e (.Slice none none (some (.UnaryOp .USub (.Constant (.int 1) k p1) p2)) p3) (.ref a) (.ref s4.heap.objs.size)) (EP X pins σ Q) X.xe { s4 with heap := s4.heap.push { cls := .type "slice", data := .fields #[.none, .none, vs] } }
  refine tail_any (ops := [.ref a, .ref s4.heap.objs.size]) ht.typeIs (PyProof.Rows.slot_tuple_getitem.lookup) ?_ (by with_unfolding_all rfl)
  refine back_item ht (Heap.IsSliceOf.new _ .none .none vs) ps ?_ (by rw [List.size_toArray]; omega)
  refine ⟨.ref _, _, I5.laid (t' := s4.toks) (o := .tup xs.reverse) (fun b ob z => Heap.get?_push_of_some _ z) (Nat.le_refl _) ?_, rfl, q _ (I5.hok.fresh (Nat.le_refl _))⟩
  exact ⟨by rw [List.length_reverse]; exact hz, its.reverse, r.reverse, ⟨_, Heap.get?_push_size _ rfl, rfl, 0, rfl⟩⟩
end
end TB

set_option Elab.async false
set_option linter.all false
set_option maxRecDepth 100000
set_option maxHeartbeats 1000000
namespace TB
open PySem PySem.Spec PyProof.Rows L2

/-! ### heaps without some places -/
def hid (F : List Addr) (H : Hp) : Hp := fun b => if b ∈ F then none else H b
theorem hid_at {F : List Addr} {H : Hp} {b : Addr} (n : b ∉ F) : hid F H b = H b := if_neg n
theorem hid_sub {F : List Addr} {H : Hp} : Same (hid F H) H := fun b o e => by
  unfold hid at e
  by_cases h : b ∈ F
  · rw [if_pos h] at e
    cases e
  · rw [if_neg h] at e
    exact e
theorem hid_mono {F : List Addr} {H H' : Hp} (k : ∀ b o, b ∉ F → H b = some o → H' b = some o) : Same (hid F H) (hid F H') := fun b o e => by
  unfold hid at e
  by_cases h : b ∈ F
  · rw [if_pos h] at e
    cases e
  · rw [if_neg h] at e
    rw [hid_at h]
    exact k b o h e
theorem hid_same {F : List Addr} {H H' : Hp} (s : Same H H') : Same (hid F H) (hid F H') := hid_mono fun b o _ e => s b o e
theorem hid_but {F : List Addr} {L : Addr} {H H' : Hp} (hL : L ∈ F) (k : But L H H') : Same (hid F H) (hid F H') := hid_mono fun b o nb e => k b o (fun z => nb (z ▸ hL)) e
theorem hid_upd {F : List Addr} {H : Hp} {W : Addr} {o : HO} (h : W ∈ F) : hid F (upd H W o) = hid F H := by
  funext b
  unfold hid
  by_cases c : b ∈ F
  · rw [if_pos c, if_pos c]
  · have ne : b ≠ W := fun z => c (z ▸ h)
    rw [if_neg c, if_neg c, upd_ne ne]
/-- the places that are hidden are taken -/
def Took (F : List Addr) (H : Hp) : Prop := ∀ f ∈ F, H f ≠ none
theorem Took.out {F : List Addr} {H : Hp} {p : Addr} (t : Took F H) (n : H p = none) : p ∉ F := fun z => t p z n
theorem Took.same {F : List Addr} {H H' : Hp} (t : Took F H) (s : Same H H') : Took F H' := fun f hf z => by
  cases e : H f with
  | none => exact t f hf e
  | some o =>
    rw [s f o e] at z
    cases z
theorem Took.but {F : List Addr} {L : Addr} {H H' : Hp} {zs : List V} (t : Took F H) (k : But L H H') (e : H' L = some (.lst zs)) : Took F H' := fun f hf z => t f hf (k.free e z)

/-! ### slices, sums of tuples, all outside the hidden places -/
section
variable {K : PySem.W.Frag} {F : List Addr} {H : Hp}
theorem slH {a : Addr} {xs : List V} {lo hi : Option Int} {Q : VK} (t : Took F H) (h : SqT K (hid F H) a xs) (q : ∀ H' r, Same H H' → SqT K (hid F H') r (cutV xs lo hi) → Q (.ref r) H') : rSlA K (.ref a) lo hi H Q := by
  refine ⟨a, xs, rfl, Same.tup hid_sub h, fun hw => q H a (Same.refl H) ?_, fun _ p np => q _ p (same_upd np) (.inl (.inl ?_))⟩
  · unfold cutV
    rw [hw.1, hw.2, List.drop_zero, Nat.sub_zero, List.take_length]
    exact h
  · rw [hid_at (t.out np)]
    exact upd_same
theorem catH {a b : Addr} {xs ys : List V} {Q : VK} (t : Took F H) (ha : SqT K (hid F H) a xs) (hb : SqT K (hid F H) b ys) (hl : xs.length + ys.length ≤ sizeLine) (q : ∀ H' r, Same H H' → SqT K (hid F H') r (xs ++ ys) → Q (.ref r) H') : rCatA K (.ref a) (.ref b) H Q := by
  refine ⟨a, b, xs, ys, rfl, rfl, Same.tup hid_sub ha, Same.tup hid_sub hb, hl, fun e => q H b (Same.refl H) ?_, fun _ e => q H a (Same.refl H) ?_, fun _ _ p np => q _ p (same_upd np) (.inl (.inl ?_))⟩
  · rw [e, List.nil_append]
    exact hb
  · rw [e, List.append_nil]
    exact ha
  · rw [hid_at (t.out np)]
    exact upd_same
theorem newT {p : Addr} {xs : List V} (t : Took F H) (n : H p = none) : SqT K (hid F (upd H p (.tup xs))) p xs := .inl (.inl (by
  rw [hid_at (t.out n)]
  exact upd_same))
theorem newL {p : Addr} {xs : List V} (t : Took F H) (n : H p = none) : SqL K (hid F (upd H p (.lst xs))) p xs := .inl (.inl (by
  rw [hid_at (t.out n)]
  exact upd_same))
end
/-! ### the data of slices -/
def cutD (ds : List PyData) (lo hi : Option Int) : List PyData := (ds.drop (HT.sIx ds.length 0 lo)).take (HT.sIx ds.length ds.length hi - HT.sIx ds.length 0 lo)
theorem cutD_mem {ds : List PyData} {lo hi : Option Int} {d : PyData} (h : d ∈ cutD ds lo hi) : d ∈ ds := List.mem_of_mem_drop (List.mem_of_mem_take h)
theorem cutD_len (ds : List PyData) (lo hi : Option Int) : (cutD ds lo hi).length ≤ ds.length := by
  unfold cutD
  rw [List.length_take, List.length_drop]
  omega
theorem DpAll.drop {K : PySem.W.Frag} {H : Hp} : ∀ {vs : List V} {ds : List PyData} (i : Nat), DpAll K H vs ds → DpAll K H (vs.drop i) (ds.drop i)
  | _, _, 0, h => h
  | _, _, _ + 1, .nil => .nil
  | _, _, i + 1, .cons _ t => DpAll.drop i t
theorem DpAll.take {K : PySem.W.Frag} {H : Hp} : ∀ {vs : List V} {ds : List PyData} (i : Nat), DpAll K H vs ds → DpAll K H (vs.take i) (ds.take i)
  | _, _, 0, _ => by
    rw [List.take_zero, List.take_zero]
    exact .nil
  | _, _, _ + 1, .nil => .nil
  | _, _, i + 1, .cons a t => .cons a (DpAll.take i t)
theorem DpAll.cut {K : PySem.W.Frag} {H : Hp} {vs : List V} {ds : List PyData} {lo hi : Option Int} (h : DpAll K H vs ds) : DpAll K H (cutV vs lo hi) (cutD ds lo hi) := by
  unfold cutV cutD
  rw [DpAll.len h]
  exact DpAll.take _ (DpAll.drop _ h)
theorem DpAll.app {K : PySem.W.Frag} {H : Hp} : ∀ {vs ws : List V} {ds es : List PyData}, DpAll K H vs ds → DpAll K H ws es → DpAll K H (vs ++ ws) (ds ++ es)
  | _, _, _, _, .nil, h => h
  | _, _, _, _, .cons a t, h => .cons a (DpAll.app t h)
theorem DpAll.rev {K : PySem.W.Frag} {H : Hp} : ∀ {vs : List V} {ds : List PyData}, DpAll K H vs ds → DpAll K H vs.reverse ds.reverse
  | _, _, .nil => .nil
  | _, _, .cons a t => by
    rw [List.reverse_cons, List.reverse_cons]
    exact DpAll.snoc a (DpAll.rev t)
/-- one of a list's things, by a place that was drawn -/
theorem pickD {K : PySem.W.Frag} {H : Hp} {us : List V} {ds : List PyData} {v : Int} (h : DpAll K H us ds) (h0 : 0 ≤ v) (h1 : v < us.length) : ∃ x d, atI us v = some x ∧ Dp K H x d ∧ d ∈ ds := by
  obtain ⟨j, rfl⟩ : ∃ j : Nat, v = (j : Int) := ⟨v.toNat, (Int.toNat_of_nonneg h0).symm⟩
  have hj : j < us.length := by omega
  obtain ⟨d, e, dx⟩ := DpAll.get h (List.getElem?_eq_getElem hj)
  exact ⟨us[j], d, atI_nat (List.getElem?_eq_getElem hj), dx, List.mem_of_getElem? e⟩
/-! ### things of this depth and width -/
def atom : PyData → Prop
  | .none => True
  | .bool _ => True
  | .int _ => True
  | .str z => PyData.strOk z = true
  | _ => False
def Gd (n : Nat) : Nat → PyData → Prop
  | 0, d => atom d
  | k + 1, d => atom d ∨ ∃ ds, (d = .tuple ds ∨ d = .list ds) ∧ ds.length ≤ n ∧ ∀ e ∈ ds, Gd n k e
theorem Gd.atom {n k : Nat} {d : PyData} (h : atom d) : Gd n k d := by
  cases k with
  | zero => exact h
  | succ k => exact .inl h
theorem Gd.mono {n m : Nat} (hn : n ≤ m) : ∀ {k l : Nat} {d : PyData}, k ≤ l → Gd n k d → Gd m l d
  | 0, _, _, _, h => Gd.atom h
  | k + 1, 0, _, h, _ => by omega
  | k + 1, l + 1, _, hk, .inl h => .inl h
  | k + 1, l + 1, _, hk, .inr ⟨ds, e, hl, h⟩ => .inr ⟨ds, e, Nat.le_trans hl hn, fun d hd => Gd.mono hn (Nat.le_of_succ_le_succ hk) (h d hd)⟩
theorem Gd.tup {n k : Nat} {ds : List PyData} (hl : ds.length ≤ n) (h : ∀ e ∈ ds, Gd n k e) : Gd n (k + 1) (.tuple ds) := .inr ⟨ds, .inl rfl, hl, h⟩
theorem Gd.lst {n k : Nat} {ds : List PyData} (hl : ds.length ≤ n) (h : ∀ e ∈ ds, Gd n k e) : Gd n (k + 1) (.list ds) := .inr ⟨ds, .inr rfl, hl, h⟩
theorem Gd.tup_inv {n k : Nat} {ds : List PyData} (h : Gd n k (.tuple ds)) : ∃ l, k = l + 1 ∧ ds.length ≤ n ∧ ∀ e ∈ ds, Gd n l e := by
  cases k with
  | zero => exact absurd h id
  | succ k =>
    rcases h with h | ⟨es, e | e, hl, h⟩
    · exact absurd h id
    · cases e
      exact ⟨k, rfl, hl, h⟩
    · cases e
theorem Gd.lays {n : Nat} : ∀ {k : Nat} {d : PyData}, Gd n k d → PyData.canLay0 d = true ∧ PyData.depth d ≤ k
  | k, d, h => by
    have at_ : ∀ {d : PyData}, TB.atom d → PyData.canLay0 d = true ∧ PyData.depth d = 0 := by
      intro d h
      cases d with
      | none => exact ⟨rfl, rfl⟩
      | bool b => exact ⟨rfl, rfl⟩
      | int i => exact ⟨rfl, rfl⟩
      | str z => exact ⟨h, rfl⟩
      | list ds => exact absurd h id
      | tuple ds => exact absurd h id
      | dict ds => exact absurd h id
    cases k with
    | zero =>
      obtain ⟨a, b⟩ := at_ h
      exact ⟨a, by omega⟩
    | succ k =>
      rcases h with h | ⟨ds, e, _, h⟩
      · obtain ⟨a, b⟩ := at_ h
        exact ⟨a, by omega⟩
      · have all : ∀ es : List PyData, (∀ e ∈ es, Gd n k e) → PyData.canLayAll0 es = true ∧ PyData.depthAll es ≤ k := by
          intro es
          induction es with
          | nil => exact fun _ => ⟨rfl, Nat.zero_le _⟩
          | cons e es ih =>
            intro he
            obtain ⟨a, b⟩ := ih fun x hx => he x (List.mem_cons_of_mem _ hx)
            obtain ⟨c, d⟩ := Gd.lays (he e List.mem_cons_self)
            refine ⟨by simp only [PyData.canLayAll0, a, c, Bool.and_self], ?_⟩
            simp only [PyData.depthAll]
            omega
        obtain ⟨a, b⟩ := all ds h
        rcases e with rfl | rfl
        · exact ⟨by simp only [PyData.canLay0, a], by simp only [PyData.depth]; omega⟩
        · exact ⟨by simp only [PyData.canLay0, a], by simp only [PyData.depth]; omega⟩
theorem Gd.shaped {n k : Nat} {d : PyData} (h : Gd n k d) (hk : k ≤ 60) : SeqAt.shaped d = true := by
  obtain ⟨a, b⟩ := h.lays
  unfold SeqAt.shaped
  rw [a, decide_eq_true (by omega)]
  rfl
theorem eqv_void : ∀ ds : List PyData, PyData.eqv (.tuple ds) (.tuple []) = decide (ds = [])
  | [] => by simp [PyData.eqv, PyData.eqvAll]
  | d :: ds => by simp [PyData.eqv, PyData.eqvAll]
/-! ### a statement, and what is known behind it -/
def tCut (t : TS) : TS := fun D σ H => ∃ R : L2.St → Hp → Prop, t { D with nx := R } σ H ∧ ∀ σ' H', R σ' H' → D.nx σ' H'
theorem ps_cut {X : Cx} {st : Stmt} {t : TS} (h : PS X st t) : PS X st (tCut t) := by
  refine ⟨fun pins s0 σ H D I hw => ?_⟩
  obtain ⟨R, a, b⟩ := hw
  refine thn (h.run pins s0 σ H _ I a) fun fl s1 z => ?_
  cases fl with
  | next =>
    obtain ⟨σ', H', I2, z⟩ := z
    exact ⟨σ', H', I2, b _ _ z⟩
  | brk => exact z
  | cont => exact z
  | ret v => exact z
end TB

set_option Elab.async false
set_option linter.all false
set_option maxRecDepth 100000
set_option maxHeartbeats 1000000
namespace TB
open PySem PySem.Spec PyProof.Rows L2

/-! ### enumerate(t), t a tuple -/
abbrev eT1 (h : Heap) (a : Addr) : Heap := h.push { cls := .type "tuple_iterator", data := .fields #[.ref a, .int 0 0] }
abbrev eT2 (h : Heap) (a : Addr) : Heap := (eT1 h a).push { cls := .type "enumerate", data := .fields #[.none, .bool false, .ref h.objs.size, rawInt 0, .none, .none] }
theorem enT_new (a : Addr) (xs : Array Value) (n : Nat) (dct : Option Addr) (sl : Array (Option Value)) :
    Meets (Builtin.«enumerate.__new__» ⟨[.type "enumerate", .ref a], []⟩) (fun _ R s => s.heap.get? a = some { cls := .type "tuple", dict := dct, data := .seq xs n, slots := sl } ∧ R (.ok (.ret (.ref (eT1 s.heap a).objs.size))) { s with heap := eT2 s.heap a }) :=
  .of_wp fun prog w A R st h => by
    obtain ⟨hp, g, d, tk, os⟩ := st
    obtain ⟨ha, h⟩ := h
    have sub := sub_enumerate
    have iA : Heap.IsTuple (Shared.heap ⟨hp, g, d, tk, os⟩) a xs := ⟨_, ha, rfl, n, rfl⟩
    wp_walk using AutoSeq1.wpAny_loadPart' ha
    refine wpAny_stack_any fun st => wpAny_pure ?_
    split
    · rename_i c _ _ _ _ _
      cases (c == Value.type "enumerate")
      · wp_walk using AutoSeq1.wpAny_loadPart' ha, wpAny_pyIter_tuple iA
        exact ⟨_, rfl, h⟩
      · wp_walk using AutoSeq1.wpAny_loadPart' ha, wpAny_pyIter_tuple iA
        exact ⟨_, rfl, h⟩
    · wp_walk using AutoSeq1.wpAny_loadPart' ha, wpAny_pyIter_tuple iA
      exact ⟨_, rfl, h⟩
section
variable {prog : Program} {w : World} {A : Around} {E : Value → Shared → Prop} {s : Shared}
theorem call_enT {a : Addr} {xs : Array Value} {Q : Value → Shared → Prop} (ha : s.heap.IsTuple a xs)
    (h : ∀ (n : Nat) (g : Heap), n = s.heap.objs.size → IsEnum g (n + 1) n 0 .none → g.IsTupleIter n a 0 → (∀ c o, s.heap.get? c = some o → g.get? c = some o) → Q (.ref (n + 1)) { s with heap := g }) :
    wpAny (model prog w) A (call (.type "enumerate") [.ref a]) Q E s := by
  obtain ⟨⟨c, dct, dt, sl⟩, ho, hc, n, hd⟩ := ha
  obtain rfl : c = .type "tuple" := hc
  obtain rfl : dt = .seq xs n := hd
  refine callType_new F.called_enumerate (by decide) (F.typeCall_enumerate_1 _) (F.newCall_enumerate_1 _) (fun ob => F.args_object_init_2 ob _) F.entry_enumerate_new (enT_new a xs n dct sl) ⟨ho, ?_⟩
  have e1 : (eT1 s.heap a).objs.size = s.heap.objs.size + 1 := Heap.size_push ..
  have g2 : (eT2 s.heap a).get? (eT1 s.heap a).objs.size = some _ := Heap.get?_push_size _ rfl
  have g1 : (eT2 s.heap a).get? s.heap.objs.size = some _ := Heap.get?_push_of_some _ (Heap.get?_push_size _ rfl)
  show _ ∧ _
  rw [e1] at g2
  rw [e1]
  exact ⟨⟨_, g2, rfl⟩, h _ _ rfl g2 ⟨_, g1, rfl, rfl⟩ fun c o z => Heap.get?_push_of_some _ (Heap.get?_push_of_some _ z)⟩
end
/-- a turn over it: a new pair of the place and the thing there -/
def ItET (K : PySem.W.Frag) (a : Addr) : It :=
  ⟨fun i H => ∃ (xs : List V) (x : V), SqT K H a xs ∧ xs[i]? = some x, fun i H v H' => ∃ T x, v = .ref T ∧ H T = none ∧ H' = upd H T (.tup [.int (i : Nat), x]) ∧ ∀ xs, SqT K H a xs → xs[i]? = some x, fun i H => ∃ xs : List V, SqT K H a xs ∧ xs.length ≤ i⟩
theorem turn_ET {P : Program} {w : World} {K : PySem.W.Frag} {elts : List Expr} {kk : Nat} {tpos : Pos} {a e it : Addr} (nei : e ≠ it) (na : a ≠ it) (nae : a ≠ e) :
    Turn P w K (.Tuple elts kk tpos) (ItET K a) [e, it] e (fun i h => (∃ old, IsEnum h e it ((i : Nat) : Int) old) ∧ h.IsTupleIter it a i) where
  mem := by simp
  obj := fun i h st b hb => by
    obtain ⟨⟨old, he⟩, ⟨o, ho, hc, hd⟩⟩ := st
    have two : b = e ∨ b = it := by simpa using hb
    rcases two with rfl | rfl
    · exact ⟨_, he, fun v q => nomatch q⟩
    · exact ⟨o, ho, fun v q => by rw [hd] at q; cases q⟩
  keep := fun i h h' st k => by
    obtain ⟨⟨old, he⟩, hi⟩ := st
    exact ⟨⟨old, k _ (by simp) _ he⟩, hi.at fun o q => k _ (by simp) o q⟩
  item := by
    intro X eP eW eK hc i pins s σ H E I hf st hg
    subst eP eW eK
    obtain ⟨⟨old, he⟩, hit⟩ := st
    obtain ⟨xs, x, hq, hx⟩ := hg
    obtain ⟨its, rv, p, hz⟩ := I.tuple hq
    obtain ⟨u, hu, ru⟩ := rv.get hx
    have el : e < s.heap.objs.size := Heap.lt_size he
    have il : it < s.heap.objs.size := by obtain ⟨_, q, _⟩ := hit; exact Heap.lt_size q
    have ilt : i < its.toArray.size := by
      rw [List.size_toArray]
      exact (List.getElem?_eq_some_iff.mp hu).1
    have D := Draws.tuple (prog := X.prog) (w := X.w) (A := X.A.in1) (I.ok.hd hc) it a na its.toArray
    refine wpAny_pyNext_enum_itemD D he ⟨hit, p⟩ ilt nei (by simp; exact ⟨nei, nae.symm⟩) fun y g tk hP ho st2 hT hsz hk => ?_
    have yu : y = u := by
      have z : some y = some u := by
        rw [← hu, ← hP]
        simp
      exact Option.some.inj z
    subst yu
    refine ⟨_, rfl, wpAny_letOwnedTupleGo_enum (s := { s with heap := g, toks := tk + 1 }) ho fun g2 he2 sb => ?_⟩
    have hT2 : g2.get? s.heap.objs.size = some { cls := .type "tuple", data := .seq #[.int i tk, y] } := (sb.2 _ (Nat.ne_of_gt el)).trans hT
    have new : ObjOk X.prog X.w (upd H s.heap.objs.size (.tup [.int (i : Nat), x])) g2 s.heap.objs.size (.tup [.int (i : Nat), x]) := ⟨by show 2 ≤ sizeLine; decide, [.int i tk, y], .cons ⟨_, rfl⟩ (.cons ru .nil), ⟨_, hT2, rfl, _, rfl⟩⟩
    have I1 : Inv X pins σ (upd H s.heap.objs.size (.tup [.int (i : Nat), x])) { s with heap := g2, toks := tk + 1 } := by
      refine I.turnedNew (ch := [e, it]) (fun b ob hb q => ?_) hf (Nat.le_refl _) new
      have n2 : b ≠ e ∧ b ≠ it := by simpa using hb
      exact (sb.2 b n2.1).trans (hk b ob n2.1 n2.2 q)
    refine ⟨.ref s.heap.objs.size, _, I1, rfl, ⟨_, x, rfl, I.hok.fresh (Nat.le_refl _), rfl, fun l hl => by rw [I.tuple_inj hl hq]; exact hx⟩, ⟨⟨y, ?_⟩, st2.1.at fun o q => (sb.2 it (Ne.symm nei)).trans q⟩, fun b hb => ?_⟩
    · have i1 : ((i + 1 : Nat) : Int) = (i : Int) + 1 := by omega
      rw [i1]
      exact he2
    · have two : b = e ∨ b = it := by simpa using hb
      have lt : b < s.heap.objs.size := by
        rcases two with rfl | rfl
        · exact el
        · exact il
      rw [upd_ne (Nat.ne_of_lt lt)]
      exact (hf b hb).1
  done := by
    intro X eP eW eK hc i pins s σ H E I hf st hg
    subst eP eW eK
    obtain ⟨⟨old, he⟩, hit⟩ := st
    obtain ⟨xs, hq, hx⟩ := hg
    obtain ⟨its, rv, p, hz⟩ := I.tuple hq
    have hl := rv.length
    obtain ⟨f0, f1, f2, f3, f4, f5⟩ := hf it (by simp)
    have hT : s.TypeIs (.ref e) "enumerate" := ⟨_, he, rfl⟩
    unfold pyNext
    refine wpAny_bind (wpAny_attempt (wpAny_callSpecial?_slot (name := Str.ofString "__next__") hT F.slot_enumerate_next (wpAny_call_entry F.slot_enumerate_next hT F.entry_enumerate_next ?_ (F.args_enumerate_next_1 _))))
    show wpAny _ _ (field (.ref e) 2 >>= _) _ _ _
    refine wpAny_bind (wpAny_field he rfl (x := .ref it) rfl ?_)
    refine wpAny_bind (wpAny_nextOf_tuple_end (A := X.A.in1) (I.ok.hd hc) hit p (by simp; omega) fun g ex eb hx' => ?_)
    obtain ⟨o, ho, hce⟩ := hx'
    refine wpAny_bind (wpAny_isInstance (T := "StopIteration") (b := true) ⟨o, ho, hce⟩ isSubtype_stop ?_)
    exact wpAny_pure ⟨rfl, I.turned (t' := s.toks) (fun b o hb q => eb b o hb q) f0 f1 f3 f4 f5⟩
  self := fun A i s Q E st h => by
    obtain ⟨⟨_, he⟩, _⟩ := st
    exact wpAny_pyIter_enum he h
def iET (K : PySem.W.Frag) (ta : TA) : TI := fun σ H R => ta σ H fun vs H1 => ∃ a xs, vs = [.ref a] ∧ SqT K H1 a xs ∧ R (ItET K a) H1
theorem pi_enumT {X : Cx} {e : Expr} {ta : TA} {p pos tpos : Pos} {elts : List Expr} {kk : Nat} (hg : Gl X "enumerate") (hm : X.mg "enumerate" = none) (ha : PA X [e] ta)
    (hs : starEach [e] X.env = [(false, eval e X.env)] := by rfl) : PI X (.Tuple elts kk tpos) (.Call (.Name "enumerate" p) [e] [] pos) (iET X.K ta) := by
  refine ⟨fun pins s0 σ H R I h => ?_⟩
  refine Call_ (ld_blt I hg hm boot_enumerate (PyProof.Rows.callWith_type1 (thn (ha.run pos pins s0 σ H _ I h) fun us u ⟨vs, H1, I1, r1, q1⟩ => ?_) hs rfl))
  obtain ⟨a, xs, rfl, hq, q⟩ := q1
  cases r1 with
  | cons r rr =>
    cases rr
    cases r
    obtain ⟨its, rv, p1, _⟩ := I1.tuple hq
    have la : a < u.heap.objs.size := by obtain ⟨o, ho, _⟩ := id p1; exact Heap.lt_size ho
    refine call_enT (xs := its.toArray) p1 fun n g hn he hi hk => wpAny_pyIter_enum he ?_
    have I2 : Inv X pins σ H1 { u with heap := g } := I1.kept (t' := u.toks) hk
    have fr : ∀ c, c ∈ [n + 1, n] → FpOk X pins H1 c := fun c hcm => by
      have two : c = n + 1 ∨ c = n := by simpa using hcm
      have le : u.heap.objs.size ≤ c := by rw [← hn]; omega
      exact I1.fpOk le (I1.hok.fresh le)
    exact ⟨n + 1, [n + 1, n], _, _, H1, rfl, I2, turn_ET (e := n + 1) (it := n) (Nat.succ_ne_self _) (by rw [hn]; exact Nat.ne_of_lt la) (by rw [hn]; exact Nat.ne_of_lt (Nat.lt_succ_of_lt la)), ⟨⟨.none, he⟩, hi⟩, fr, q⟩
section
variable {K : PySem.W.Frag} {a b : Addr} {xs ys : List V}
theorem walk_ET : Walk (ItET K a) xs.length (fun H => SqT K H a xs) (YPair (fun i => some (.int (i : Nat))) (fun i => xs[i]?)) := by
  refine ⟨fun i _ hi q => ⟨xs, xs[i], q, by simp [hi]⟩, fun _ q => ⟨xs, q, Nat.le_refl _⟩, fun i H x H' _ q y => ?_⟩
  obtain ⟨T, z, h1, h2, h3, h4⟩ := y
  exact ⟨T, _, z, h1, h2, h3, rfl, h4 xs q⟩
theorem walk_zT {n : Nat} (hn : n = min xs.length ys.length) : Walk (RZ.ItzT K a b) n (fun H => SqT K H a xs ∧ SqT K H b ys) (YPair (fun i => xs[i]?) (fun i => ys[i]?)) := by
  refine ⟨fun i H hi q => ?_, fun H q => ?_, fun i H x H' hi q y => ?_⟩
  · have h1 : i < xs.length := by omega
    have h2 : i < ys.length := by omega
    exact ⟨xs, ys, xs[i], ys[i], q.1, q.2, by simp [h1], by simp [h2]⟩
  · exact ⟨xs, ys, q.1, q.2, by omega⟩
  · obtain ⟨T, u, v, h1, h2, h3, h4, h5⟩ := y
    exact ⟨T, u, v, h1, h2, h3, h4 xs q.1, h5 ys q.2⟩
theorem walk_TL {n : Nat} (hn : n = min xs.length ys.length) : Walk (ItTL K a b) n (fun H => SqT K H a xs ∧ SqL K H b ys) (YPair (fun i => xs[i]?) (fun i => ys[i]?)) := by
  refine ⟨fun i H hi q => ?_, fun H q => ?_, fun i H x H' hi q y => ?_⟩
  · have h1 : i < xs.length := by omega
    have h2 : i < ys.length := by omega
    exact ⟨xs, ys, xs[i], ys[i], q.1, q.2, by simp [h1], by simp [h2]⟩
  · exact ⟨xs, ys, q.1, q.2, by omega⟩
  · obtain ⟨T, u, v, h1, h2, h3, h4, h5⟩ := y
    exact ⟨T, u, v, h1, h2, h3, h4 xs q.1, h5 ys q.2⟩
end
end TB

set_option Elab.async false
set_option linter.all false
set_option maxRecDepth 100000
set_option maxHeartbeats 1000000
namespace K09
open PySem PySem.Spec PyProof.Rows L2 TB

/-! ### the split, by numbers alone -/
def lows (t : Int) (ws : List Int) : List Int := ws.map fun w => t * w / ws.sum
def rsts (t : Int) (ws : List Int) : List Int := ws.map fun w => t * w - t * w / ws.sum * ws.sum
def leR (rs : List Int) (a b : Nat) : Bool := decide (rs.getD b 0 < rs.getD a 0 ∨ (rs.getD a 0 = rs.getD b 0 ∧ a ≤ b))
def ats (rs : List Int) : List Nat := (List.range rs.length).mergeSort (leR rs)
def bump (ls : List Int) (S : List Nat) : List Int := (List.range ls.length).map fun i => ls.getD i 0 + if i ∈ S then 1 else 0
def odd (t : Int) (ws : List Int) : Nat := (t - (lows t ws).sum).toNat
def parts (t : Int) (ws : List Int) : List Int := bump (lows t ws) ((ats (rsts t ws)).take (odd t ws))
structure OkW (t : Int) (ws : List Int) : Prop where
  t0 : 0 ≤ t
  t1 : t ≤ 1000000000000
  n0 : 0 < ws.length
  n1 : ws.length ≤ 12
  w0 : ∀ w ∈ ws, 0 ≤ w ∧ w ≤ 1000000000
  s0 : 0 < ws.sum
theorem leR_iff {rs : List Int} {a b : Nat} : leR rs a b = true ↔ (rs.getD b 0 < rs.getD a 0 ∨ (rs.getD a 0 = rs.getD b 0 ∧ a ≤ b)) := by
  unfold leR
  exact decide_eq_true_iff
theorem leR_tr (rs : List Int) (a b c : Nat) (h1 : leR rs a b = true) (h2 : leR rs b c = true) : leR rs a c = true := by
  rw [leR_iff] at *
  omega
theorem leR_tot (rs : List Int) (a b : Nat) : (leR rs a b || leR rs b a) = true := by
  rw [Bool.or_eq_true, leR_iff, leR_iff]
  omega
theorem leR_anti {rs : List Int} {a b : Nat} (h1 : leR rs a b = true) (h2 : leR rs b a = true) : a = b := by
  rw [leR_iff] at *
  omega
theorem ats_perm (rs : List Int) : (ats rs).Perm (List.range rs.length) := List.mergeSort_perm _ _
theorem ats_len (rs : List Int) : (ats rs).length = rs.length := by
  rw [(ats_perm rs).length_eq, List.length_range]
theorem ats_sorted (rs : List Int) : (ats rs).Pairwise fun a b => leR rs a b = true := List.pairwise_mergeSort (leR_tr rs) (leR_tot rs) _
theorem ats_eq {rs : List Int} {l : List Nat} (p : l.Perm (List.range rs.length)) (s : l.Pairwise fun a b => leR rs a b = true) : ats rs = l :=
  List.Perm.eq_of_pairwise (fun a b _ _ h1 h2 => leR_anti h1 h2) (ats_sorted rs) s ((ats_perm rs).trans p.symm)
theorem ats_nodup (rs : List Int) : (ats rs).Nodup := (ats_perm rs).symm.nodup List.nodup_range
theorem ats_lt {rs : List Int} {a : Nat} (h : a ∈ ats rs) : a < rs.length := List.mem_range.mp ((ats_perm rs).mem_iff.mp h)
theorem bump_len (ls : List Int) (S : List Nat) : (bump ls S).length = ls.length := by
  unfold bump
  rw [List.length_map, List.length_range]
theorem bump_get {ls : List Int} {S : List Nat} {i : Nat} (h : i < ls.length) : (bump ls S)[i]? = some (ls.getD i 0 + if i ∈ S then 1 else 0) := by
  unfold bump
  rw [List.getElem?_map, List.getElem?_range h]
  rfl
theorem getD_of {ls : List Int} {i : Nat} (h : i < ls.length) : ls[i]? = some (ls.getD i 0) := by
  rw [List.getElem?_eq_getElem h, List.getD_eq_getElem?_getD, List.getElem?_eq_getElem h]
  rfl
theorem bump_nil (ls : List Int) : bump ls [] = ls := by
  refine List.ext_getElem? fun i => ?_
  by_cases h : i < ls.length
  · rw [bump_get h, getD_of h]
    simp
  · rw [List.getElem?_eq_none (by rw [bump_len]; omega), List.getElem?_eq_none (by omega)]
theorem bump_more {ls : List Int} {S : List Nat} {a : Nat} (h : a < ls.length) (n : a ∉ S) : (bump ls S).set a (ls.getD a 0 + 1) = bump ls (S ++ [a]) := by
  refine List.ext_getElem? fun i => ?_
  rw [List.getElem?_set]
  by_cases e : a = i
  · subst e
    rw [if_pos rfl, if_pos (by rw [bump_len]; exact h), bump_get h, if_pos (by simp)]
  · rw [if_neg e]
    by_cases hi : i < ls.length
    · rw [bump_get hi, bump_get hi]
      have : (i ∈ S ++ [a]) ↔ i ∈ S := by
        simp
        exact fun z => absurd z.symm e
      simp only [this]
    · rw [List.getElem?_eq_none (by rw [bump_len]; omega), List.getElem?_eq_none (by rw [bump_len]; omega)]
theorem take_not {l : List Nat} (h : l.Nodup) {i a : Nat} (e : l[i]? = some a) : a ∉ l.take i := by
  intro hm
  obtain ⟨j, hj⟩ := List.mem_iff_getElem?.mp hm
  have hjl : j < (l.take i).length := (List.getElem?_eq_some_iff.mp hj).1
  rw [List.length_take] at hjl
  rw [List.getElem?_take, if_pos (by omega)] at hj
  have hjn : j < l.length := (List.getElem?_eq_some_iff.mp hj).1
  have := (List.getElem?_inj hjn h).mp (hj.trans e.symm)
  omega
/-- what is not among the first i comes behind the i-th -/
theorem ats_first {rs : List Int} {i a k : Nat} (e : (ats rs)[i]? = some a) (hk : k < rs.length) (n : k ∉ (ats rs).take i) : leR rs a k = true := by
  have km : k ∈ ats rs := (ats_perm rs).mem_iff.mpr (List.mem_range.mpr hk)
  obtain ⟨j, hj⟩ := List.mem_iff_getElem?.mp km
  have jl : j < (ats rs).length := (List.getElem?_eq_some_iff.mp hj).1
  have il : i < (ats rs).length := (List.getElem?_eq_some_iff.mp e).1
  have ij : i ≤ j := by
    refine Nat.le_of_not_lt fun z => n ?_
    refine List.mem_iff_getElem?.mpr ⟨j, ?_⟩
    rw [List.getElem?_take, if_pos z]
    exact hj
  by_cases c : i = j
  · subst c
    rw [Option.some.inj (e.symm.trans hj)]
    rw [leR_iff]
    omega
  · have p := List.pairwise_iff_getElem.mp (ats_sorted rs) i j il jl (by omega)
    rw [(List.getElem?_eq_some_iff.mp e).2, (List.getElem?_eq_some_iff.mp hj).2] at p
    exact p
/-! ### how many are odd -/
theorem sum_rst (t W : Int) : ∀ ws : List Int, (ws.map fun w => t * w - t * w / W * W).sum = t * ws.sum - (ws.map fun w => t * w / W).sum * W
  | [] => by simp
  | w :: ws => by
    rw [List.map_cons, List.sum_cons, List.map_cons, List.sum_cons, List.sum_cons, sum_rst t W ws, Int.mul_add, Int.add_mul]
    omega
theorem rst_mod (x W : Int) : x - x / W * W = x % W := by
  have := Int.emod_add_mul_ediv x W
  rw [Int.mul_comm] at this
  omega
theorem sum_mod (W : Int) (hW : 0 < W) (t : Int) : ∀ ws : List Int, 0 ≤ (ws.map fun w => t * w - t * w / W * W).sum ∧ (ws.map fun w => t * w - t * w / W * W).sum ≤ ws.length * (W - 1)
  | [] => by simp
  | w :: ws => by
    obtain ⟨a, b⟩ := sum_mod W hW t ws
    rw [List.map_cons, List.sum_cons, List.length_cons, rst_mod]
    have c := Int.emod_nonneg (t * w) (show W ≠ 0 by omega)
    have d := Int.emod_lt_of_pos (t * w) hW
    refine ⟨by omega, ?_⟩
    have : ((ws.length + 1 : Nat) : Int) * (W - 1) = ws.length * (W - 1) + (W - 1) := by
      push_cast
      rw [Int.add_mul, Int.one_mul]
    omega
theorem odd_at {t : Int} {ws : List Int} (h : OkW t ws) : (odd t ws : Int) = t - (lows t ws).sum ∧ odd t ws < ws.length := by
  have hW := h.s0
  obtain ⟨a, b⟩ := sum_mod ws.sum hW t ws
  rw [sum_rst] at a b
  have e : t * ws.sum - (ws.map fun w => t * w / ws.sum).sum * ws.sum = (t - (lows t ws).sum) * ws.sum := by
    unfold lows
    rw [Int.sub_mul]
  rw [e] at a b
  have d0 : 0 ≤ t - (lows t ws).sum := Int.le_of_not_gt fun z => by
    have := Int.mul_neg_of_neg_of_pos z hW
    omega
  have d1 : t - (lows t ws).sum < ws.length := Int.lt_of_not_ge fun z => by
    have m := Int.mul_le_mul_of_nonneg_right z (Int.le_of_lt hW)
    have n0 := h.n0
    have : (ws.length : Int) * (ws.sum - 1) = ws.length * ws.sum - ws.length := by rw [Int.mul_sub, Int.mul_one]
    omega
  unfold odd
  exact ⟨by omega, by omega⟩
theorem lows_len (t : Int) (ws : List Int) : (lows t ws).length = ws.length := List.length_map _
theorem rsts_len (t : Int) (ws : List Int) : (rsts t ws).length = ws.length := List.length_map _
theorem parts_len (t : Int) (ws : List Int) : (parts t ws).length = ws.length := by
  unfold parts
  rw [bump_len, lows_len]
theorem sum_ge : ∀ {ws : List Int} {w : Int}, (∀ w ∈ ws, 0 ≤ w) → w ∈ ws → 0 ≤ ws.sum ∧ w ≤ ws.sum
  | x :: ws, w, h, hm => by
    have x0 := h x List.mem_cons_self
    have s0 : 0 ≤ ws.sum := by
      clear hm
      induction ws with
      | nil => simp
      | cons y ys ih =>
        have := h y (by simp)
        have := ih fun z hz => h z (by
          rcases List.mem_cons.mp hz with r | r
          · simp [r]
          · simp [r])
        rw [List.sum_cons]
        omega
    rw [List.sum_cons]
    rcases List.mem_cons.mp hm with rfl | hm
    · omega
    · have := (sum_ge (fun z hz => h z (List.mem_cons_of_mem _ hz)) hm).2
      omega
theorem sum_le : ∀ {ws : List Int}, (∀ w ∈ ws, 0 ≤ w ∧ w ≤ 1000000000) → 0 ≤ ws.sum ∧ ws.sum ≤ 1000000000 * ws.length
  | [], _ => by simp
  | x :: ws, h => by
    have := h x List.mem_cons_self
    have := sum_le fun w hw => h w (List.mem_cons_of_mem _ hw)
    rw [List.sum_cons, List.length_cons]
    push_cast
    omega
theorem low_bound {t : Int} {ws : List Int} (h : OkW t ws) {w : Int} (hw : w ∈ ws) : 0 ≤ t * w / ws.sum ∧ t * w / ws.sum ≤ t := by
  obtain ⟨w0, w1⟩ := h.w0 w hw
  have ws0 := (sum_ge (fun z hz => (h.w0 z hz).1) hw).2
  have s0 := h.s0
  have t0 := h.t0
  refine ⟨Int.ediv_nonneg (Int.mul_nonneg t0 w0) (by omega), ?_⟩
  refine Int.le_of_lt_add_one ((Int.ediv_lt_iff_lt_mul s0).mpr ?_)
  have := Int.mul_le_mul_of_nonneg_left ws0 t0
  rw [Int.add_mul, Int.one_mul]
  omega
theorem rst_bound {t : Int} {ws : List Int} (h : OkW t ws) {r : Int} (hr : r ∈ rsts t ws) : 0 ≤ r ∧ r < 20000000000 := by
  obtain ⟨w, hw, rfl⟩ := List.mem_map.mp hr
  have s0 := h.s0
  obtain ⟨_, s1⟩ := sum_le h.w0
  have n1 := h.n1
  show 0 ≤ t * w - t * w / ws.sum * ws.sum ∧ t * w - t * w / ws.sum * ws.sum < _
  rw [rst_mod]
  exact ⟨Int.emod_nonneg _ (by omega), Int.lt_of_lt_of_le (Int.emod_lt_of_pos _ s0) (by omega)⟩
theorem part_bound {t : Int} {ws : List Int} (h : OkW t ws) {p : Int} (hp : p ∈ parts t ws) : 0 ≤ p ∧ p ≤ 1000000000001 := by
  unfold parts bump at hp
  obtain ⟨i, hi, rfl⟩ := List.mem_map.mp hp
  have hl := List.mem_range.mp hi
  have g := getD_of hl
  have m := List.mem_of_getElem? g
  unfold lows at m
  obtain ⟨w, hw, e⟩ := List.mem_map.mp m
  obtain ⟨a, b⟩ := low_bound h hw
  have t1 := h.t1
  unfold lows
  rw [← e]
  by_cases c : i ∈ List.take (odd t ws) (ats (rsts t ws))
  · rw [if_pos c]
    omega
  · rw [if_neg c]
    omega
theorem rst_get {t : Int} {ws : List Int} {i : Nat} {w : Int} (h : ws[i]? = some w) : (rsts t ws)[i]? = some (t * w - t * w / ws.sum * ws.sum) := by
  unfold rsts
  rw [List.getElem?_map, h]
  rfl
theorem low_get {t : Int} {ws : List Int} {i : Nat} {w : Int} (h : ws[i]? = some w) : (lows t ws)[i]? = some (t * w / ws.sum) := by
  unfold lows
  rw [List.getElem?_map, h]
  rfl
end K09

set_option Elab.async false
set_option linter.all false
set_option maxRecDepth 100000
set_option maxHeartbeats 1000000
namespace TB
open PySem PySem.Spec PyProof.Rows L2

/-! ### zip(t, u, v), three tuples -/
def It3 (K : PySem.W.Frag) (a b c : Addr) : It :=
  ⟨fun i H => ∃ (xs ys zs : List V) (x y z : V), (SqT K H a xs ∧ SqT K H b ys ∧ SqT K H c zs) ∧ xs[i]? = some x ∧ ys[i]? = some y ∧ zs[i]? = some z,
    fun i H v H' => ∃ T x y z, v = .ref T ∧ H T = none ∧ H' = upd H T (.tup [x, y, z]) ∧ (∀ xs, SqT K H a xs → xs[i]? = some x) ∧ (∀ ys, SqT K H b ys → ys[i]? = some y) ∧ ∀ zs, SqT K H c zs → zs[i]? = some z,
    fun i H => ∃ xs ys zs : List V, (SqT K H a xs ∧ SqT K H b ys ∧ SqT K H c zs) ∧ i = min (min xs.length ys.length) zs.length⟩
theorem turn_3 {P : Program} {w : World} {K : PySem.W.Frag} {elts : List Expr} {kk : Nat} {tpos : Pos} {a b c z TI TO i1 i2 i3 : Addr} (S : ZipSep3 z TI TO i1 i2 i3 [i1, a] [i2, b] [i3, c]) (na : a ≠ i1) (nb : b ≠ i2) (nc : c ≠ i3) :
    Turn P w K (.Tuple elts kk tpos) (It3 K a b c) [z, TI, TO, i1, i2, i3] z (fun i h => IsZip h z TI TO .none ∧ IsTupOf3 h TI (.ref i1) (.ref i2) (.ref i3) ∧ (∃ x y u, IsTupOf3 h TO x y u) ∧ h.IsTupleIter i1 a i ∧ h.IsTupleIter i2 b i ∧ h.IsTupleIter i3 c i) where
  mem := by simp
  obj := fun i h st q hq => by
    obtain ⟨isz, pI, ⟨x, y, u, pO⟩, ⟨o1, e1, _, d1⟩, ⟨o2, e2, _, d2⟩, ⟨o3, e3, _, d3⟩⟩ := st
    have six : q = z ∨ q = TI ∨ q = TO ∨ q = i1 ∨ q = i2 ∨ q = i3 := by simpa using hq
    rcases six with rfl | rfl | rfl | rfl | rfl | rfl
    · exact ⟨_, isz, fun v q => nomatch q⟩
    · exact ⟨_, pI, fun v q => nomatch q⟩
    · exact ⟨_, pO, fun v q => nomatch q⟩
    · exact ⟨o1, e1, fun v q => by rw [d1] at q; cases q⟩
    · exact ⟨o2, e2, fun v q => by rw [d2] at q; cases q⟩
    · exact ⟨o3, e3, fun v q => by rw [d3] at q; cases q⟩
  keep := fun i h h' st k => by
    obtain ⟨isz, pI, ⟨x, y, u, pO⟩, h1, h2, h3⟩ := st
    exact ⟨k _ (by simp) _ isz, k _ (by simp) _ pI, ⟨x, y, u, k _ (by simp) _ pO⟩, h1.at fun o q => k _ (by simp) o q, h2.at fun o q => k _ (by simp) o q, h3.at fun o q => k _ (by simp) o q⟩
  item := by
    intro X eP eW eK hc i pins s σ H E I hf st hg
    subst eP eW eK
    obtain ⟨isz, pI, pO, h1, h2, h3⟩ := st
    obtain ⟨xs, ys, zs, x, y, u, ⟨qx, qy, qz⟩, hx, hy, hu⟩ := hg
    obtain ⟨is1, r1, p1, _⟩ := I.tuple qx
    obtain ⟨is2, r2, p2, _⟩ := I.tuple qy
    obtain ⟨is3, r3, p3, _⟩ := I.tuple qz
    obtain ⟨v1, a1, w1⟩ := r1.get hx
    obtain ⟨v2, a2, w2⟩ := r2.get hy
    obtain ⟨v3, a3, w3⟩ := r3.get hu
    have D1 := Draws.tuple (prog := X.prog) (w := X.w) (A := X.A.in1) (I.ok.hd hc) i1 a na is1.toArray
    have D2 := Draws.tuple (prog := X.prog) (w := X.w) (A := X.A.in1) (I.ok.hd hc) i2 b nb is2.toArray
    have D3 := Draws.tuple (prog := X.prog) (w := X.w) (A := X.A.in1) (I.ok.hd hc) i3 c nc is3.toArray
    have WT := WalksT.zipD3 S D1 D2 D3
    have l1 := (List.getElem?_eq_some_iff.mp a1).1
    have l2 := (List.getElem?_eq_some_iff.mp a2).1
    have l3 := (List.getElem?_eq_some_iff.mp a3).1
    have il : i < min (min is1.toArray.size is2.toArray.size) is3.toArray.size := by
      simp only [List.size_toArray]
      omega
    have inH : ∀ q ∈ [z, TI, TO, i1, i2, i3], q < s.heap.objs.size := fun q hq => by
      have six : q = z ∨ q = TI ∨ q = TO ∨ q = i1 ∨ q = i2 ∨ q = i3 := by simpa using hq
      obtain ⟨_, _, _, pO'⟩ := pO
      obtain ⟨_, e1, _⟩ := h1
      obtain ⟨_, e2, _⟩ := h2
      obtain ⟨_, e3, _⟩ := h3
      rcases six with rfl | rfl | rfl | rfl | rfl | rfl
      · exact Heap.lt_size isz
      · exact Heap.lt_size pI
      · exact Heap.lt_size pO'
      · exact Heap.lt_size e1
      · exact Heap.lt_size e2
      · exact Heap.lt_size e3
    refine WT.item i s _ E il ⟨isz, pI, pO, ⟨h1, p1⟩, ⟨h2, p2⟩, ⟨h3, p3⟩⟩ fun T vals g tk hP le hT mid hk => ?_
    obtain ⟨x1, x2, x3, e1, e2, e3, rfl⟩ := hP
    have k1 : x1 = v1 := Option.some.inj (by rw [← a1, ← e1]; simp)
    have k2 : x2 = v2 := Option.some.inj (by rw [← a2, ← e2]; simp)
    have k3 : x3 = v3 := Option.some.inj (by rw [← a3, ← e3]; simp)
    subst k1 k2 k3
    have out := WT.apart i T g mid
    refine ⟨_, rfl, WT.go elts kk tpos i T { s with heap := g, toks := tk } _ E mid fun g2 st2 hk2 => ?_⟩
    obtain ⟨z2, I2', O2', ⟨t1, _⟩, ⟨t2, _⟩, ⟨t3, _⟩⟩ := st2
    have hT2 : g2.IsTuple T #[x1, x2, x3] := hT.at fun o q => hk2 T o out q
    have new : ObjOk X.prog X.w (upd H T (.tup [x, y, u])) g2 T (.tup [x, y, u]) := ⟨by show 3 ≤ sizeLine; decide, [x1, x2, x3], .cons w1 (.cons w2 (.cons w3 .nil)), hT2⟩
    have I1 : Inv X pins σ (upd H T (.tup [x, y, u])) { s with heap := g2, toks := tk } := by
      refine I.turnedNew (ch := [z, TI, TO, i1, i2, i3]) (fun q o hq e => ?_) hf le new
      have six : q ≠ z ∧ q ≠ TI ∧ q ≠ TO ∧ q ≠ i1 ∧ q ≠ i2 ∧ q ≠ i3 := by simpa using hq
      have five : q ∉ [z, TO, i1, i2, i3] := by simpa using ⟨six.1, six.2.2.1, six.2.2.2.1, six.2.2.2.2.1, six.2.2.2.2.2⟩
      exact hk2 q o five (hk q o five e)
    refine ⟨.ref T, _, I1, rfl, ⟨T, x, y, u, rfl, I.hok.fresh le, rfl, fun l hl => by rw [I.tuple_inj hl qx]; exact hx, fun l hl => by rw [I.tuple_inj hl qy]; exact hy, fun l hl => by rw [I.tuple_inj hl qz]; exact hu⟩, ⟨z2, I2', O2', t1, t2, t3⟩, fun q hq => ?_⟩
    have lt := inH q hq
    rw [upd_ne (Nat.ne_of_lt (Nat.lt_of_lt_of_le lt le))]
    exact (hf q hq).1
  done := by
    intro X eP eW eK hc i pins s σ H E I hf st hg
    subst eP eW eK
    obtain ⟨isz, pI, pO, h1, h2, h3⟩ := st
    obtain ⟨xs, ys, zs, ⟨qx, qy, qz⟩, hend⟩ := hg
    obtain ⟨is1, r1, p1, _⟩ := I.tuple qx
    obtain ⟨is2, r2, p2, _⟩ := I.tuple qy
    obtain ⟨is3, r3, p3, _⟩ := I.tuple qz
    have m1 := r1.length
    have m2 := r2.length
    have m3 := r3.length
    have D1 := Draws.tuple (prog := X.prog) (w := X.w) (A := X.A.in1) (I.ok.hd hc) i1 a na is1.toArray
    have D2 := Draws.tuple (prog := X.prog) (w := X.w) (A := X.A.in1) (I.ok.hd hc) i2 b nb is2.toArray
    have D3 := Draws.tuple (prog := X.prog) (w := X.w) (A := X.A.in1) (I.ok.hd hc) i3 c nc is3.toArray
    have WT := WalksT.zipD3 S D1 D2 D3
    have ei : min (min is1.toArray.size is2.toArray.size) is3.toArray.size = i := by
      simp only [List.size_toArray]
      omega
    refine WT.done s _ E (by rw [ei]; exact ⟨isz, pI, pO, ⟨h1, p1⟩, ⟨h2, p2⟩, ⟨h3, p3⟩⟩) fun g tk hk => ⟨rfl, I.turnedL (ch := [z, TI, TO, i1, i2, i3]) (fun q o hq e => ?_) hf⟩
    have six : q ≠ z ∧ q ≠ TI ∧ q ≠ TO ∧ q ≠ i1 ∧ q ≠ i2 ∧ q ≠ i3 := by simpa using hq
    exact hk q o (by simpa using ⟨six.1, six.2.2.1, six.2.2.2.1, six.2.2.2.2.1, six.2.2.2.2.2⟩) e
  self := fun _ _ _ _ _ st h => wpAny_pyIter_zip st.1 h
def i3T (K : PySem.W.Frag) (ta : TA) : TI := fun σ H R => ta σ H fun vs H1 => ∃ a b c xs ys zs, vs = [.ref a, .ref b, .ref c] ∧ (SqT K H1 a xs ∧ SqT K H1 b ys ∧ SqT K H1 c zs) ∧ R (It3 K a b c) H1
theorem pi_zip3 {X : Cx} {e e2 e3 : Expr} {ta : TA} {p pos tpos : Pos} {elts : List Expr} {kk : Nat} (hg : Gl X "zip") (hm : X.mg "zip" = none) (ha : PA X [e, e2, e3] ta)
    (hs : starEach [e, e2, e3] X.env = (false, eval e X.env) :: starEach [e2, e3] X.env := by rfl) (hpl : (backTo pos (starEach [e2, e3] X.env)).any (·.1) = false := by rfl) : PI X (.Tuple elts kk tpos) (.Call (.Name "zip" p) [e, e2, e3] [] pos) (i3T X.K ta) := by
  refine ⟨fun pins s0 σ H R I h => ?_⟩
  refine Call_ (ld_blt I hg hm PyProof.Rows.boot_zip (PyProof.Rows.callWith_type1 (thn (ha.run pos pins s0 σ H _ I h) fun us u ⟨vs, H1, I1, r1, q1⟩ => ?_) hs hpl))
  obtain ⟨a, b, c, xs, ys, zs, rfl, ⟨qx, qy, qz⟩, q⟩ := q1
  cases r1 with
  | cons ra rr =>
    cases rr with
    | cons rb rr =>
      cases rr with
      | cons rc rr =>
        cases rr
        cases ra
        cases rb
        cases rc
        obtain ⟨is1, _, p1, _⟩ := I1.tuple qx
        obtain ⟨is2, _, p2, _⟩ := I1.tuple qy
        obtain ⟨is3, _, p3, _⟩ := I1.tuple qz
        have la : a < u.heap.objs.size := by obtain ⟨o, ho, _⟩ := id p1; exact Heap.lt_size ho
        have lb : b < u.heap.objs.size := by obtain ⟨o, ho, _⟩ := id p2; exact Heap.lt_size ho
        have lc : c < u.heap.objs.size := by obtain ⟨o, ho, _⟩ := id p3; exact Heap.lt_size ho
        refine zip_begins3 (begins_tuple a is1.toArray) (begins_tuple b is2.toArray) (begins_tuple c is3.toArray) p1 p2 p3 fun g hz hTI hTO g1 g2 g3 hsz hk => wpAny_pyIter_zip hz ?_
        have I2 : Inv X pins σ H1 { u with heap := g } := I1.kept (t' := u.toks) hk
        generalize hn : u.heap.objs.size = n at *
        have fr : ∀ q, q ∈ [n + 5, n + 3, n + 4, n, n + 1, n + 2] → FpOk X pins H1 q := fun q hq => by
          have six : q = n + 5 ∨ q = n + 3 ∨ q = n + 4 ∨ q = n ∨ q = n + 1 ∨ q = n + 2 := by simpa using hq
          have le : u.heap.objs.size ≤ q := by rw [hn]; omega
          exact I1.fpOk le (I1.hok.fresh le)
        have sep := zip_sep3 (N := n) (fp1 := [a]) (fp2 := [b]) (fp3 := [c]) (fun q hq => by rw [List.mem_singleton.mp hq]; exact la) (fun q hq => by rw [List.mem_singleton.mp hq]; exact lb) (fun q hq => by rw [List.mem_singleton.mp hq]; exact lc)
        exact ⟨n + 5, [n + 5, n + 3, n + 4, n, n + 1, n + 2], _, _, H1, rfl, I2, turn_3 (z := n + 5) (TI := n + 3) (TO := n + 4) (i1 := n) (i2 := n + 1) (i3 := n + 2) sep (Nat.ne_of_lt la) (Nat.ne_of_lt (Nat.lt_succ_of_lt lb)) (Nat.ne_of_lt (Nat.lt_succ_of_lt (Nat.lt_succ_of_lt lc))),
          ⟨hz, hTI, ⟨_, _, _, hTO⟩, ⟨_, g1, rfl, rfl⟩, ⟨_, g2, rfl, rfl⟩, ⟨_, g3, rfl, rfl⟩⟩, fr, q⟩
/-- a new triple of the i-th things -/
def YTri (xs ys zs : List V) : Nat → Hp → V → Hp → Prop := fun i H v H' => ∃ T x y z, v = .ref T ∧ H T = none ∧ H' = upd H T (.tup [x, y, z]) ∧ xs[i]? = some x ∧ ys[i]? = some y ∧ zs[i]? = some z
theorem walk_3 {K : PySem.W.Frag} {a b c : Addr} {xs ys zs : List V} {n : Nat} (hn : n = min (min xs.length ys.length) zs.length) : Walk (It3 K a b c) n (fun H => SqT K H a xs ∧ SqT K H b ys ∧ SqT K H c zs) (YTri xs ys zs) := by
  refine ⟨fun i H hi q => ?_, fun H q => ⟨xs, ys, zs, q, hn⟩, fun i H x H' hi q y => ?_⟩
  · have h1 : i < xs.length := by omega
    have h2 : i < ys.length := by omega
    have h3 : i < zs.length := by omega
    exact ⟨xs, ys, zs, xs[i], ys[i], zs[i], q, by simp [h1], by simp [h2], by simp [h3]⟩
  · obtain ⟨T, u, v, r, h1, h2, h3, h4, h5, h6⟩ := y
    exact ⟨T, u, v, r, h1, h2, h3, h4 xs q.1, h5 ys q.2.1, h6 zs q.2.2⟩
end TB

set_option Elab.async false
set_option linter.all false
set_option maxRecDepth 100000
set_option maxHeartbeats 1000000
namespace TB
open PySem PySem.Spec PyProof.Rows L2

/-! ### isinstance of a caught error that has fields -/
structure IsC (K : PySem.W.Frag) (D : Addr) : Prop where
  cl : (PySem.W.clsIn K D).isSome = true
  ga : PySem.W.findIn K (.ref D) "__getattribute__" = some (some (.builtin "BaseException.__getattribute__"))
  gg : PySem.W.findIn K (.ref D) "__getattr__" = some none
  sb : PySem.W.subIn K (.ref D) (.type "BaseException") = some true
  ca : PySem.W.findIn K (.ref D) "__class__" = some (some (.builtin "object.__class__"))
  gt : PySem.W.specialIn K (.builtin "object.__class__") "__get__" = some (some (.builtin "getset_descriptor.__get__"))
  tk : PySem.W.takesIn K (.builtin "object.__class__") = some true
  mr : PySem.W.mroIn K D (.type "object") = some true
/-- one class -/
def rIsX (K : PySem.W.Frag) (a : Addr) (cls : Value) (d : Option Addr) : List V → Hp → VK → Prop := fun xs H Q => ∃ (D dd : Addr) (fs : List (Str × V)) (c : V) (cv : Value) (b : Bool),
  xs = [.ref a, c] ∧ cls = .ref D ∧ d = some dd ∧ H dd = some (.xd fs) ∧ IsC K D ∧ ClsV c cv ∧ PySem.W.kitOne K (.ref D) cv = some b ∧ Q (.bl b) H
/-- a tuple of classes, just laid -/
def rIsXT (K : PySem.W.Frag) (a : Addr) (cls : Value) (d : Option Addr) : List V → Hp → VK → Prop := fun xs H Q => ∃ (D dd tp : Addr) (fs : List (Str × V)) (cs : List V) (us : List Value) (b : Bool),
  xs = [.ref a, .ref tp] ∧ cls = .ref D ∧ d = some dd ∧ H dd = some (.xd fs) ∧ IsC K D ∧ H tp = some (.tup cs) ∧ Paired ClsV cs us ∧ PySem.W.kitAny K (.ref D) us = some b ∧ Q (.bl b) H
section
variable {X : Cx} {a : Addr} {oe : Obj} {cls : Value} {d : Option Addr} {pn : List (Addr × Obj)}
theorem inst_x {pins : List (Addr × Obj)} {s : Shared} {σ : L2.St} {H : Hp} {D dd : Addr} {fs : List (Str × V)} (hz : Zc (.ref D) (some dd) oe) (hf : ∃ vs, oe.data = .fields vs) (I : Inv (X.suite a ((a, oe) :: pn)) pins σ H s) (ed : H dd = some (.xd fs)) :
    ∃ od, PySem.W.InstAt s.heap a oe D (some od) := by
  obtain ⟨at_a, _⟩ := I.pin (a, oe) (List.mem_append_left _ List.mem_cons_self)
  obtain ⟨vs, hv⟩ := hf
  have ox : ObjOk X.prog X.w H s.heap dd (.xd fs) := I.hok dd _ ed
  obtain ⟨mA, ns, _⟩ := ox
  obtain ⟨od, ho, _⟩ := lookIn_ns ns
  refine ⟨od, at_a, hz.1, ?_, ?_⟩
  · unfold PySem.W.notCls
    rw [hv] <;> rfl
  · rw [hz.2]
    exact ho
theorem call_isX (hz : Zc cls d oe) (hf : ∃ vs, oe.data = .fields vs) : CallR (X.suite a ((a, oe) :: pn)) (.builtin "isinstance") (rIsX X.K a cls d) := by
  intro pins s σ H xs us Q I r h
  obtain ⟨D, dd, fs, c, cv, b, rfl, rfl, rfl, ed, C, kc, e, q⟩ := h
  obtain ⟨u1, u2, rfl, r1, r2⟩ := vals2 r
  cases (show u1 = Value.ref a from r1)
  obtain rfl := kc.eq r2
  obtain ⟨od, J⟩ := inst_x hz hf I ed
  exact PySem.W.kia_one (PySem.W.kitx_exc C.cl C.ga C.gg C.sb C.ca C.gt C.tk C.mr) I.kIn J e (fun z => nomatch z) fun tk => ⟨.bl b, H, I.tok tk, rfl, q⟩
theorem call_isXT (hz : Zc cls d oe) (hf : ∃ vs, oe.data = .fields vs) : CallR (X.suite a ((a, oe) :: pn)) (.builtin "isinstance") (rIsXT X.K a cls d) := by
  intro pins s σ H xs us Q I r h
  obtain ⟨D, dd, tp, fs, cs, ws, b, rfl, rfl, rfl, ed, C, hT, kc, e, q⟩ := h
  obtain ⟨u1, u2, rfl, r1, r2⟩ := vals2 r
  cases (show u1 = Value.ref a from r1)
  cases (show u2 = Value.ref tp from r2)
  obtain ⟨od, J⟩ := inst_x hz hf I ed
  obtain ⟨_, its, rv, o, h1, h2, n, h3⟩ := (show ObjOk X.prog X.w H s.heap tp (.tup cs) from I.hok tp _ hT)
  obtain rfl := ClsV.all kc rv
  obtain ⟨oc, od2, dt, sl⟩ := o
  simp only at h2 h3
  subst h2 h3
  exact PySem.W.kia_tup (PySem.W.kitx_exc C.cl C.ga C.gg C.sb C.ca C.gt C.tk C.mr) I.kIn J h1 e (fun z => nomatch z) fun tk => ⟨.bl b, H, I.tok tk, rfl, q⟩
end
end TB

set_option Elab.async false
set_option linter.all false
set_option maxRecDepth 100000
set_option maxHeartbeats 1000000
namespace TB
open PySem PySem.Spec PyProof.Rows L2

/-! ### numbers and truths in sums -/
theorem gives_neg_bool (a : Bool) : Gives (Builtin.«int.__neg__» ⟨[.bool a], []⟩) (.int (-(if a = true then (1 : Int) else 0))) :=
  .of_wp fun M A E s Q h => by
    obtain ⟨hp, g, d, tk, os⟩ := s
    wp_walk
    exact ⟨_, rfl, h⟩
theorem neg_bool {prog : Program} {w : World} {A : Around} {E : Value → Shared → Prop} {s : Shared} {a : Bool} {Q : Value → Shared → Prop} (h : Q (.int (-(if a = true then (1 : Int) else 0)) s.toks) { s with toks := s.toks + 1 }) :
    wpAny (model prog w) A (unaryOp .USub (.bool a)) Q E s :=
  unaryOp_gives (op := .USub) (typeIs_bool' s a) rfl F.slot_bool_neg F.entry_int_neg (F.args_int_neg_1 _) (gives_neg_bool a) h
/-- the number that stands behind a number or a truth -/
inductive Nm : V → Int → Prop
  | int (i : Int) : Nm (.int i) i
  | bl (b : Bool) : Nm (.bl b) (if b = true then 1 else 0)
def rAddN : R2 := fun x y H Q => ∃ i j, Nm x i ∧ y = .int j ∧ Q (.int (i + j)) H
def rSubN : R2 := fun x y H Q => ∃ i j, Nm x i ∧ y = .int j ∧ Q (.int (i - j)) H
def rNegN : V → Hp → VK → Prop := fun x H Q => ∃ i, Nm x i ∧ Q (.int (-i)) H
section
variable {X : Cx}
theorem op_addN : OpR X (binaryOp .Add) rAddN := by
  intro pins s σ H x y v u Q I rx ry h
  obtain ⟨i, j, n, rfl, q⟩ := h
  cases n with
  | int i => exact op_add pins s σ H _ _ v u Q I rx ry ⟨i, j, rfl, rfl, q⟩
  | bl b =>
    obtain ⟨t, rfl⟩ := ry
    cases (show v = Value.bool b from rx)
    exact PySem.IntBool.add_bool_int ⟨.int _, H, I.tok _, ⟨_, rfl⟩, q⟩
theorem op_subN : OpR X (binaryOp .Sub) rSubN := by
  intro pins s σ H x y v u Q I rx ry h
  obtain ⟨i, j, n, rfl, q⟩ := h
  cases n with
  | int i => exact op_sub pins s σ H _ _ v u Q I rx ry ⟨i, j, rfl, rfl, q⟩
  | bl b =>
    obtain ⟨t, rfl⟩ := ry
    cases (show v = Value.bool b from rx)
    exact PySem.IntBool.sub_bool_int ⟨.int _, H, I.tok _, ⟨_, rfl⟩, q⟩
theorem un_negN : UnR X (unaryOp .USub) rNegN := by
  intro pins s σ H x v Q I rx h
  obtain ⟨i, n, q⟩ := h
  cases n with
  | int i => exact un_neg pins s σ H _ v Q I rx ⟨i, rfl, q⟩
  | bl b =>
    cases (show v = Value.bool b from rx)
    exact neg_bool ⟨.int _, H, I.tok _, ⟨_, rfl⟩, q⟩
end
end TB

set_option Elab.async false
set_option linter.all false
set_option maxRecDepth 100000
set_option maxHeartbeats 1000000
namespace TB
open PySem PySem.Spec PyProof.Rows L2

/-! ### how large a thing is, and what stands at its ends -/
def asc (z : Str) : Prop := ∀ c ∈ z.cps.toList, c < 128
theorem asc_app {x y : Str} (hx : asc x) (hy : asc y) : asc (x ++ y) := fun c hc => by
  have e : (x ++ y).cps.toList = x.cps.toList ++ y.cps.toList := Array.toList_append
  rw [e] at hc
  rcases List.mem_append.mp hc with h | h
  · exact hx c h
  · exact hy c h
theorem asc_cut {z : Str} (hz : asc z) (lo hi : Option Int) : asc (cutS z lo hi) := fun c hc => hz c (List.mem_of_mem_drop (List.mem_of_mem_take hc))
theorem cutS_len (z : Str) (lo hi : Option Int) : (cutS z lo hi).length ≤ z.length := by
  show (List.toArray _).size ≤ _
  rw [List.size_toArray, List.length_take, List.length_drop]
  have : z.cps.toList.length = z.length := Array.length_toList
  omega
mutual
def sz : PyData → Nat
  | .tuple xs => 1 + szs xs
  | .list xs => 1 + szs xs
  | _ => 1
def szs : List PyData → Nat
  | [] => 0
  | x :: xs => sz x + szs xs
end
mutual
def Ats (j : Nat) : PyData → Prop
  | .none => True
  | .bool _ => True
  | .int i => i.natAbs < 2 ^ (700 + j)
  | .str z => asc z ∧ z.length ≤ 20 + j
  | .tuple xs => AtsL j xs
  | .list xs => AtsL j xs
  | .dict _ => False
def AtsL (j : Nat) : List PyData → Prop
  | [] => True
  | x :: xs => Ats j x ∧ AtsL j xs
end
theorem atsL_iff {j : Nat} : ∀ {ds : List PyData}, AtsL j ds ↔ ∀ d ∈ ds, Ats j d
  | [] => ⟨fun _ d h => (by cases h), fun _ => by simp [AtsL]⟩
  | d :: ds => by
    simp only [AtsL, List.mem_cons, forall_eq_or_imp]
    rw [atsL_iff (ds := ds)]
theorem Ats.tup {j : Nat} {ds : List PyData} : Ats j (.tuple ds) ↔ ∀ d ∈ ds, Ats j d := by
  simp only [Ats]
  exact atsL_iff
theorem Ats.lst {j : Nat} {ds : List PyData} : Ats j (.list ds) ↔ ∀ d ∈ ds, Ats j d := by
  simp only [Ats]
  exact atsL_iff
mutual
theorem Ats.mono {i j : Nat} (h : i ≤ j) : ∀ (d : PyData), Ats i d → Ats j d
  | .none, _ => by simp [Ats]
  | .bool _, _ => by simp [Ats]
  | .int n, a => by
    simp only [Ats] at a ⊢
    exact Nat.lt_of_lt_of_le a (Nat.pow_le_pow_right (by decide) (by omega))
  | .str z, a => by
    simp only [Ats] at a ⊢
    exact ⟨a.1, by omega⟩
  | .tuple xs, a => by
    simp only [Ats] at a ⊢
    exact AtsL.mono h xs a
  | .list xs, a => by
    simp only [Ats] at a ⊢
    exact AtsL.mono h xs a
  | .dict _, a => by simp [Ats] at a
theorem AtsL.mono {i j : Nat} (h : i ≤ j) : ∀ (ds : List PyData), AtsL i ds → AtsL j ds
  | [], _ => by simp [AtsL]
  | d :: ds, a => by
    simp only [AtsL] at a ⊢
    exact ⟨Ats.mono h d a.1, AtsL.mono h ds a.2⟩
end
theorem sz_pos (d : PyData) : 1 ≤ sz d := by
  cases d <;> simp [sz]
theorem szs_app : ∀ (a b : List PyData), szs (a ++ b) = szs a + szs b
  | [], b => by simp [szs]
  | x :: a, b => by
    simp only [List.cons_append, szs, szs_app a b]
    omega
theorem szs_drop : ∀ (n : Nat) (ds : List PyData), szs (ds.drop n) ≤ szs ds
  | 0, ds => Nat.le_refl _
  | n + 1, [] => Nat.le_refl _
  | n + 1, x :: ds => by
    have := szs_drop n ds
    simp only [List.drop_succ_cons, szs]
    omega
theorem szs_take : ∀ (n : Nat) (ds : List PyData), szs (ds.take n) ≤ szs ds
  | 0, ds => by simp [szs]
  | n + 1, [] => Nat.le_refl _
  | n + 1, x :: ds => by
    have := szs_take n ds
    simp only [List.take_succ_cons, szs]
    omega
theorem szs_cut (ds : List PyData) (lo hi : Option Int) : szs (cutD ds lo hi) ≤ szs ds := by
  unfold cutD
  exact Nat.le_trans (szs_take _ _) (szs_drop _ _)
theorem szs_mem : ∀ {ds : List PyData} {d : PyData}, d ∈ ds → sz d ≤ szs ds
  | x :: ds, d, h => by
    simp only [szs]
    rcases List.mem_cons.mp h with rfl | h
    · omega
    · have := szs_mem h
      omega
theorem szs_len : ∀ (ds : List PyData), ds.length ≤ szs ds
  | [] => Nat.le_refl _
  | x :: ds => by
    have := szs_len ds
    have := sz_pos x
    simp only [szs, List.length_cons]
    omega
theorem sz_tup (ds : List PyData) : sz (.tuple ds) = 1 + szs ds := by simp [sz]
theorem sz_lst (ds : List PyData) : sz (.list ds) = 1 + szs ds := by simp [sz]
theorem dep_tup (ds : List PyData) : PyData.depth (.tuple ds) = PyData.depthAll ds + 1 := by simp only [PyData.depth]
theorem dep_lst (ds : List PyData) : PyData.depth (.list ds) = PyData.depthAll ds + 1 := by simp only [PyData.depth]
theorem dep_all {k : Nat} : ∀ {ds : List PyData}, PyData.depthAll ds ≤ k ↔ ∀ d ∈ ds, PyData.depth d ≤ k
  | [] => ⟨fun _ d h => (by cases h), fun _ => by simp [PyData.depthAll]⟩
  | x :: ds => by
    simp only [PyData.depthAll, List.mem_cons, forall_eq_or_imp]
    rw [← dep_all (ds := ds)]
    omega
theorem sh_big {i : Int} (h : i.natAbs < 2 ^ 1900) : Sh 0 1921 (.int i) := by
  have hl : i.natAbs.log2 < 1920 := by
    by_cases h0 : i.natAbs = 0
    · rw [h0]; decide
    · exact (Nat.log2_lt h0).2 (Nat.lt_of_lt_of_le h (Nat.pow_le_pow_right (by decide) (by decide)))
  refine ⟨by simp only [PyData.showable, decide_eq_true_eq]; exact hl, by simp only [PyData.hasDict], by simp [PyData.depth], ?_⟩
  simp only [PyData.shown]
  exact int_text_len_1921 hl
theorem sh_txt {z : Str} (a : asc z) : Sh 0 (10 * z.length + 2) (.str z) := by
  refine ⟨rfl, rfl, by simp [PyData.depth], ?_⟩
  simp only [PyData.shown]
  exact StrLaws.reprText_len z fun c hc => Nat.lt_of_lt_of_le (a c hc) (by decide)
mutual
theorem ats_sh {j : Nat} (hj : j ≤ 100) : ∀ d : PyData, Ats j d → d.showable = true ∧ d.hasDict = false ∧ d.shown.length + 10 ≤ 2000 * sz d ∧ PyData.canLay0 d = true
  | .none, _ => by
    refine ⟨rfl, rfl, ?_, rfl⟩
    simp only [sz]
    decide
  | .bool b, _ => by
    refine ⟨rfl, rfl, ?_, rfl⟩
    simp only [sz]
    cases b <;> decide
  | .int i, a => by
    simp only [Ats] at a
    have s := sh_big (Nat.lt_of_lt_of_le a (Nat.pow_le_pow_right (show 0 < 2 by decide) (show 700 + j ≤ 1900 by omega)))
    refine ⟨s.sh, s.nd, ?_, rfl⟩
    have := s.ln
    simp only [sz]
    omega
  | .str z, a => by
    simp only [Ats] at a
    have s := sh_txt a.1
    refine ⟨s.sh, s.nd, ?_, ?_⟩
    · have := s.ln
      simp only [sz]
      omega
    · show PyData.strOk z = true
      unfold PyData.strOk
      simp only [Array.all_eq_true, Bool.and_eq_true]
      first
        | (intro i hi
           have := a.1 z.cps[i] (by simp)
           simp
           omega)
        | (have h := a.1
           simp
           omega)
  | .tuple xs, a => by
    simp only [Ats] at a
    obtain ⟨p, q, r, s, t⟩ := ats_shs hj xs a
    refine ⟨by simp only [PyData.showable, p], by simp only [PyData.hasDict, q], ?_, by simp only [PyData.canLay0, t]⟩
    simp only [PyData.shown, sz]
    have := tupleText_len_le (PyData.shownAll xs)
    rw [s] at this
    omega
  | .list xs, a => by
    simp only [Ats] at a
    obtain ⟨p, q, r, s, t⟩ := ats_shs hj xs a
    refine ⟨by simp only [PyData.showable, p], by simp only [PyData.hasDict, q], ?_, by simp only [PyData.canLay0, t]⟩
    simp only [PyData.shown, sz]
    have := listText_len_le (PyData.shownAll xs)
    rw [s] at this
    omega
  | .dict _, a => by simp [Ats] at a
theorem ats_shs {j : Nat} (hj : j ≤ 100) : ∀ ds : List PyData, AtsL j ds → PyData.showableAll ds = true ∧ PyData.hasDictAll ds = false ∧ ((PyData.shownAll ds).map (·.length)).sum + 10 * ds.length ≤ 2000 * szs ds ∧ (PyData.shownAll ds).length = ds.length ∧ PyData.canLayAll0 ds = true
  | [], _ => by simp [PyData.showableAll, PyData.hasDictAll, PyData.shownAll, szs, PyData.canLayAll0]
  | d :: ds, a => by
    simp only [AtsL] at a
    obtain ⟨p, q, r, s⟩ := ats_sh hj d a.1
    obtain ⟨p', q', r', s', t'⟩ := ats_shs hj ds a.2
    refine ⟨by simp only [PyData.showableAll, p, p', Bool.and_self], by simp only [PyData.hasDictAll, q, q', Bool.or_self], ?_, by simp only [PyData.shownAll, List.length_cons, s'], by simp only [PyData.canLayAll0, s, t', Bool.and_self]⟩
    simp only [PyData.shownAll, List.map_cons, List.sum_cons, szs, List.length_cons]
    omega
end
/-- of this size, this depth, with such ends -/
structure Fit (m k j : Nat) (d : PyData) : Prop where
  sz : sz d ≤ m
  dp : PyData.depth d ≤ k
  at_ : Ats j d
theorem Fit.mono {m m' k k' j j' : Nat} {d : PyData} (h : Fit m k j d) (a : m ≤ m') (b : k ≤ k') (c : j ≤ j') : Fit m' k' j' d := ⟨Nat.le_trans h.sz a, Nat.le_trans h.dp b, Ats.mono c d h.at_⟩
theorem Fit.sh {m k j : Nat} {d : PyData} (h : Fit m k j d) (hj : j ≤ 100) : Sh k (2000 * m) d := by
  obtain ⟨a, b, c, _⟩ := ats_sh hj d h.at_
  have := h.sz
  exact ⟨a, b, h.dp, by omega⟩
theorem Fit.shaped {m k j : Nat} {d : PyData} (h : Fit m k j d) (hj : j ≤ 100) (hk : k ≤ 60) : SeqAt.shaped d = true := by
  obtain ⟨_, _, _, a⟩ := ats_sh hj d h.at_
  have := h.dp
  unfold SeqAt.shaped
  rw [a, decide_eq_true (by omega)]
  rfl
theorem Fit.mem {m k j : Nat} {ds : List PyData} {d : PyData} (h : Fit m (k + 1) j (.tuple ds)) (hm : d ∈ ds) : Fit m k j d := by
  refine ⟨?_, ?_, Ats.tup.mp h.at_ d hm⟩
  · have := h.sz
    rw [sz_tup] at this
    have := szs_mem hm
    omega
  · have := h.dp
    rw [dep_tup] at this
    exact dep_all.mp (show PyData.depthAll ds ≤ k by omega) d hm
theorem fit_tup {m k j : Nat} {ds : List PyData} (hs : szs ds ≤ m) (h : ∀ d ∈ ds, PyData.depth d ≤ k ∧ Ats j d) : Fit (m + 1) (k + 1) j (.tuple ds) :=
  ⟨by rw [sz_tup]; omega, by rw [dep_tup]; have := dep_all.mpr fun d hd => (h d hd).1; omega, Ats.tup.mpr fun d hd => (h d hd).2⟩
theorem fit_lst {m k j : Nat} {ds : List PyData} (hs : szs ds ≤ m) (h : ∀ d ∈ ds, PyData.depth d ≤ k ∧ Ats j d) : Fit (m + 1) (k + 1) j (.list ds) :=
  ⟨by rw [sz_lst]; omega, by rw [dep_lst]; have := dep_all.mpr fun d hd => (h d hd).1; omega, Ats.lst.mpr fun d hd => (h d hd).2⟩
theorem dep_ints (ns : List Int) : ∀ d ∈ dInts ns, PyData.depth d = 0 := fun d hd => by
  obtain ⟨i, _, rfl⟩ := List.mem_map.mp hd
  simp [PyData.depth]
theorem szs_ints : ∀ ns : List Int, szs (dInts ns) = ns.length
  | [] => rfl
  | n :: ns => by
    show sz (.int n) + szs (dInts ns) = _
    rw [szs_ints ns]
    simp [sz]
    omega
theorem fit_ints {ns : List Int} {m j : Nat} (hl : ns.length ≤ m) (h : ∀ n ∈ ns, n.natAbs < 2 ^ (700 + j)) : Fit (m + 1) 1 j (.tuple (dInts ns)) :=
  fit_tup (by rw [szs_ints]; exact hl) fun d hd => ⟨by rw [dep_ints ns d hd]; exact Nat.le_refl _, by
    obtain ⟨i, hi, rfl⟩ := List.mem_map.mp hd
    simp only [Ats]
    exact h i hi⟩
end TB

set_option Elab.async false
set_option linter.all false
set_option maxRecDepth 100000
set_option maxHeartbeats 1000000
namespace K10
open PySem PySem.Spec PyProof.Rows L2 TB K09

/-! ### the text -/
def topS (i : Nat) : Stmt := PySem.Challenge.pw_tablebills_k10_splits_judged.main.body.getD i (.Pass ⟨0, 0, 0, 0⟩)
def inCls (s : Stmt) : List Stmt := match s with
  | .ClassDef _ _ _ b _ _ _ _ _ _ _ => b
  | _ => []
abbrev sIn : Stmt := (inCls (topS 4)).getD 0 (.Pass ⟨0, 0, 0, 0⟩)
abbrev sNu : Stmt := topS 6
abbrev sTu : Stmt := topS 7
abbrev sCu : Stmt := topS 9
abbrev sRe : Stmt := topS 10
abbrev sLs : Stmt := topS 12
abbrev sLc : Stmt := topS 13
abbrev sLr : Stmt := topS 14
abbrev sFeed : Stmt := topS 16
abbrev sDraw : Stmt := topS 17
abbrev sWe : Stmt := topS 18
abbrev sTo : Stmt := topS 19
abbrev sPa : Stmt := topS 20
abbrev sBe : Stmt := topS 21
abbrev sOd : Stmt := topS 22
abbrev sNm : Stmt := topS 23
abbrev sJu : Stmt := topS 24
abbrev sSa : Stmt := topS 25
abbrev sMo : Stmt := topS 26
abbrev sTh : Stmt := topS 27
abbrev sHa : Stmt := topS 28
abbrev sLaw : Stmt := topS 29
theorem scFeed : FnScope ["_law_script"] ["_law_script"] (defScope sFeed) := ⟨rfl, rfl, rfl, by decide +kernel, rfl, by decide +kernel, by decide +kernel⟩
theorem scDraw : FnScope ["_law_feed_here", "_law_many", "_law_told", "_law_cell", "_law_turn", "_law_mixed"] ["_law_feed_here", "_law_many"] (defScope sDraw) := ⟨rfl, rfl, rfl, by decide +kernel, rfl, by decide +kernel, by decide +kernel⟩

/-! ### the feed: the script's numbers, a place, a rest, how many draws -/
structure Feed (H : Hp) (F S : Addr) (T : Int) : Prop where
  ex : ∃ (ns : List Int) (p r t : Int), H F = some (.lst [.ref S, .int p, .int r, .int t]) ∧ S ≠ F ∧ H S = some (.lst (ns.map V.int)) ∧ ns.length ≤ 1000 ∧ 0 ≤ p ∧ 0 ≤ r ∧ 0 ≤ t ∧ t ≤ T
theorem Feed.same {H H' : Hp} {F S : Addr} {T : Int} (e : Same H H') (h : Feed H F S T) : Feed H' F S T := by
  obtain ⟨ns, p, r, t, a, n, b, c⟩ := h.ex
  exact ⟨⟨ns, p, r, t, e _ _ a, n, e _ _ b, c⟩⟩
theorem Feed.there {H : Hp} {F S : Addr} {T : Int} (h : Feed H F S T) : ∃ zs, H F = some (.lst zs) := by
  obtain ⟨ns, p, r, t, a, _⟩ := h.ex
  exact ⟨_, a⟩
/-- a new place is neither the feed nor its numbers -/
theorem Feed.ne {H : Hp} {F S D : Addr} {T : Int} (h : Feed H F S T) (n : H D = none) : D ≠ F ∧ D ≠ S := by
  obtain ⟨ns, p, r, t, a, _, b, _⟩ := h.ex
  exact ⟨(ne_of_none a n).symm, (ne_of_none b n).symm⟩
theorem Feed.upd {H : Hp} {F S D : Addr} {T : Int} {o : HO} (h : Feed H F S T) (n : D ≠ F ∧ D ≠ S) : Feed (upd H D o) F S T := by
  obtain ⟨ns, p, r, t, a, k, b, c⟩ := h.ex
  exact ⟨⟨ns, p, r, t, by rw [upd_ne n.1.symm]; exact a, k, by rw [upd_ne n.2.symm]; exact b, c⟩⟩
theorem Feed.mono {H : Hp} {F S : Addr} {T T' : Int} (h : Feed H F S T) (l : T ≤ T') : Feed H F S T' := by
  obtain ⟨ns, p, r, t, a, n, b, c, d, e, f, g⟩ := h.ex
  exact ⟨⟨ns, p, r, t, a, n, b, c, d, e, f, by omega⟩⟩
section
variable {P : Program} {w : World} {K : PySem.W.Frag} {mg : Str → Option Value} {base : Heap}
/-! ### _law_feed -/
def spFeed (K : PySem.W.Frag) : Sp := fun vs H Q _ => ∃ (a : Addr) (ns : List Int), vs = [.ref a] ∧ SqL K H a (ns.map V.int) ∧ ns.length ≤ 1000 ∧
  ∀ H' F S, Same H H' → H F = none → Feed H' F S 0 → Q (.ref F) H'
theorem cutV_ints (ns : List Int) (lo hi : Option Int) : ∃ ms : List Int, cutV (ns.map V.int) lo hi = ms.map V.int ∧ ms.length ≤ ns.length := by
  unfold cutV
  refine ⟨(ns.drop (HT.sIx (ns.map V.int).length 0 lo)).take (HT.sIx (ns.map V.int).length (ns.map V.int).length hi - HT.sIx (ns.map V.int).length 0 lo), ?_, ?_⟩
  · rw [List.map_take, List.map_drop]
  · rw [List.length_take, List.length_drop]
    omega
theorem ok_feed {f : Addr} {fd : FuncData} {k : Nat} (F : Fun K "_law_feed" "_law_feed" sFeed f fd) : FnOk P w K mg base CX0 (k + 1) f fd ["_law_script"] (spFeed K) := by
  refine F.ok scFeed (fun vs H Q E h => ?_) (fun cdv A outer s H vs Q E hr h => ?_)
  · obtain ⟨a, ns, rfl, _⟩ := h
    rfl
  · obtain ⟨a, ns, rfl, hS, hl, q⟩ := h
    refine ⟨_, pss_one (ps_ret (pe_lst (pa_cons (pe_slice sl_list (pv 0) po_none (po_some pe_int)) (pa_cons pe_int (pa_cons pe_int (pa_cons pe_int pa_nil)))))), ?_⟩
    obtain ⟨ms, em, hm⟩ := cutV_ints ns none (some 63)
    refine ⟨.ref a, rfl, 63, rfl, a, _, rfl, hS, fun S nS => ⟨by show (4 : Nat) ≤ sizeLine; decide, fun L nL => ?_⟩⟩
    have s1 : Same H (upd H S (.lst (cutV (ns.map V.int) none (some 63)))) := same_upd nS
    have nSL : S ≠ L := fun e => by
      rw [← e, upd_same] at nL
      cases nL
    refine q _ L S (s1.trans (same_upd nL)) (s1.free nL) ⟨⟨ms, 0, 0, 0, upd_same, nSL, ?_, by omega, by omega, by omega, by omega, by omega⟩⟩
    rw [upd_ne nSL, upd_same, em]

/-! ### _law_draw -/
def spDraw : Sp := fun vs H Q _ => ∃ (F S : Addr) (m T : Int), vs = [.ref F, .int m] ∧ 0 < m ∧ m < 2 ^ 50 ∧ Feed H F S T ∧ T < 2 ^ 40 ∧
  ∀ H' v, But F H H' → Feed H' F S (T + 1) → 0 ≤ v → v < m → Q (.int v) H'
theorem eqv_nil : ∀ ns : List Int, PyData.eqv (.list (dInts ns)) (.list []) = decide (ns = [])
  | [] => by simp [dInts, PyData.eqv, PyData.eqvAll]
  | n :: ns => by simp [dInts, PyData.eqv, PyData.eqvAll]
theorem shaped_ints (ns : List Int) : SeqAt.shaped (.list (dInts ns)) = true := by
  have h : ∀ ms : List Int, PyData.canLayAll0 (dInts ms) = true ∧ PyData.depthAll (dInts ms) = 0 := by
    intro ms
    induction ms with
    | nil => exact ⟨rfl, rfl⟩
    | cons m ms ih => exact ⟨by simpa [dInts, PyData.canLayAll0, PyData.canLay0] using ih.1, by simpa [dInts, PyData.depthAll, PyData.depth] using ih.2⟩
  unfold SeqAt.shaped
  simp only [PyData.canLay0, PyData.depth, (h ns).1, (h ns).2]
  decide
theorem ok_draw {f : Addr} {fd : FuncData} {k : Nat} (F : Fun K "_law_draw" "_law_draw" sDraw f fd) (m_len : mg "len" = none) : FnOk P w K mg base CX0 (k + 1) f fd ["_law_feed_here", "_law_many"] spDraw := by
  refine F.ok scDraw (fun vs H Q E h => ?_) (fun cdv A outer s H vs Q E hr h => ?_)
  · obtain ⟨a, S, m, T, rfl, _⟩ := h
    rfl
  · obtain ⟨L, S, m, T, rfl, m0, m1, hF, hT, q⟩ := h
    refine ⟨_, (pss_cons (ps_augS (pv 0) pe_int get_list pe_int ip_add set_list)
      (pss_cons (ps_if (pt_cmpR op_gt (pe_ix ix_list (pv 0) pe_int (fun _ _ => rfl)) pe_int (nomark _)) (pss_cons (ps_set (i := 2) scDraw.nd rfl (.inl rfl) (pe_op op_mod (pe_ix ix_list (pv 0) pe_int (fun _ _ => rfl)) (pv 1)))
      (pss_cons (ps_asg (pe_op op_fdivW (pe_ix ix_list (pv 0) pe_int (fun _ _ => rfl)) (pv 1)) (pg_sub (pv 0) pe_int set_list))
      (pss_one (ps_ret (pv 2))))) pss_nil)
      (pss_cons (ps_set (i := 3) scDraw.nd rfl (.inl rfl) (pe_ifExp (pt_cmpR (op_eqD hr.units) (pe_ix ix_list (pv 0) pe_int (fun _ _ => rfl)) (pe_lst pa_nil) (nomark _)) pe_int (pe_ix ix_list (pe_ix ix_list (pv 0) pe_int (fun _ _ => rfl)) (pe_op op_mod (pe_ix ix_list (pv 0) pe_int (fun _ _ => rfl)) (pe_callB call_len_seq (by rfl) m_len (by decide +kernel) (pa_cons (pe_ix ix_list (pv 0) pe_int (fun _ _ => rfl)) pa_nil))) (fun _ _ => rfl))))
      (pss_cons (ps_augS (pv 0) pe_int get_list pe_int ip_add set_list)
      (pss_cons (ps_if (PW.pt (pw_and (pt_cmpR op_ge (pv 3) (pe_op op_pow pe_int pe_int) (nomark _)) (pw_and1 (pt_cmpR op_le (pe_ix ix_list (pv 0) pe_int (fun _ _ => rfl)) (pe_callB call_len_seq (by rfl) m_len (by decide +kernel) (pa_cons (pe_ix ix_list (pv 0) pe_int (fun _ _ => rfl)) pa_nil)) (nomark _))))) (pss_cons (ps_asg (pe_op op_fdivW (pv 3) (pv 1)) (pg_sub (pv 0) pe_int set_list))
      (pss_one (ps_ret (pe_op op_mod (pv 3) (pv 1))))) pss_nil)
      (pss_cons (ps_set (i := 4) scDraw.nd rfl (.inl rfl) (pe_ix ix_list (pv 0) pe_int (fun _ _ => rfl)))
      (pss_cons (ps_set (i := 5) scDraw.nd rfl (.inl rfl) (pe_op op_mod (pe_op op_add (pe_op op_add (pe_op op_mod (pv 3) pe_int) (pe_op op_mul (pe_op op_mul pe_int (pv 4)) (pv 4))) (pe_op op_mul pe_int (pv 4))) pe_int))
      (pss_cons (ps_set (i := 5) scDraw.nd rfl (.inl rfl) (pe_op op_mod (pe_op op_add (pe_op op_mul (pv 5) (pv 5)) (pe_op op_mul pe_int (pv 4))) pe_int))
      (pss_cons (ps_set (i := 5) scDraw.nd rfl (.inl rfl) (pe_op op_mod (pe_op op_add (pe_op op_mul (pv 5) (pv 5)) (pe_op op_mul pe_int (pv 4))) pe_int))
      (pss_one (ps_ret (pe_op op_mod (pe_op op_fdivW (pe_op op_mod (pe_op op_add (pe_op op_mul (pv 5) (pv 5)) (pv 4)) pe_int) pe_int) (pv 1))))))))))))), ?_⟩
    obtain ⟨ns, p, r, t, eF, nSF, hS, hn, p0, r0, t0, tT⟩ := hF.ex
    -- feed[3] += 1
    refine ⟨.ref L, rfl, L, _, 3, _, rfl, rfl, .inl (.inl eF), rfl, _, _, rfl, rfl, L, _, 3, 3, rfl, rfl, eF, rfl, ?_⟩
    generalize hH1 : upd H L (.lst (List.set [V.ref S, V.int p, V.int r, V.int t] 3 (V.int ((fun i j => i + j) t 1)))) = H1
    have e1 : H1 L = some (.lst [.ref S, .int p, .int r, .int (t + 1)]) := by
      rw [← hH1]
      exact upd_same
    have b1 : But L H H1 := by
      rw [← hH1]
      exact But.upd
    clear hH1
    have hS1 := b1 _ _ nSF hS
    have back : ∀ (H2 : Hp) (p' r' : Int) (v : Int), But L H H2 → H2 S = some (.lst (ns.map V.int)) → H2 L = some (.lst [.ref S, .int p', .int r', .int (t + 1)]) → 0 ≤ p' → 0 ≤ r' → 0 ≤ v → v < m → Q (.int v) H2 :=
      fun H2 p' r' v a hs b c d x y => q H2 v a ⟨⟨ns, p', r', t + 1, b, nSF, hs, hn, c, d, by omega, by omega⟩⟩ x y
    -- if feed[2] > 0
    refine ⟨.ref L, rfl, L, _, 2, _, rfl, rfl, .inl (.inl e1), atI_nat (j := 2) rfl, _, _, rfl, rfl, _, rfl, ite2 (fun c => ?_) (fun c => ?_)⟩
    · refine ⟨.ref L, rfl, L, _, 2, _, rfl, rfl, .inl (.inl e1), atI_nat (j := 2) rfl, _, rfl, r, m, rfl, rfl, m0, ?_⟩
      refine ⟨.ref L, rfl, L, _, 2, _, rfl, rfl, .inl (.inl e1), atI_nat (j := 2) rfl, _, rfl, r, m, rfl, rfl, wide_div (b := 60) m0 (by omega) (by omega) (by omega), ?_⟩
      refine ⟨.ref L, rfl, L, _, 2, 2, rfl, rfl, e1, rfl, ?_⟩
      have b2 : But L H1 (upd H1 L (.lst [.ref S, .int p, .int (r / m), .int (t + 1)])) := But.upd
      refine ⟨_, rfl, ?_⟩
      exact back _ p (r / m) (r % m) (b1.trans b2) (b2 _ _ nSF hS1) upd_same p0 (Int.ediv_nonneg r0 (by omega)) (Int.emod_nonneg _ (by omega)) (Int.emod_lt_of_pos _ m0)
    · -- the cell
      refine ⟨.ref L, rfl, L, _, 0, _, rfl, rfl, .inl (.inl e1), atI_nat (j := 0) rfl, Nat.zero_le _, fun z nz => ?_⟩
      have sz : Same H1 (upd H1 z (.lst [])) := same_upd nz
      generalize hH2 : upd H1 z (.lst []) = H2 at sz
      have ez : H2 z = some (.lst []) := by
        rw [← hH2]
        exact upd_same
      have b2 : But L H H2 := b1.same sz
      have e2 := sz _ _ e1
      have hS2 := sz _ _ hS1
      clear hH2
      refine ⟨.list (dInts ns), .list [], .lst (.inl (.inl hS2)) (dp_ints ns), .lst (.inl (.inl ez)) .nil, shaped_ints ns, rfl, _, rfl, ?_⟩
      rw [eqv_nil]
      refine ite2 (fun c => ?_) (fun c => ?_)
      rotate_left
      have hne : 0 < (ns.map V.int).length := by
        cases ns with
        | nil => exact absurd rfl c
        | cons x xs => simp
      have i0 := Int.emod_nonneg p (show ((ns.map V.int).length : Int) ≠ 0 by omega)
      have i1 := Int.emod_lt_of_pos p (show (0 : Int) < (ns.map V.int).length by omega)
      obtain ⟨j, hj⟩ : ∃ j : Nat, p % ((ns.map V.int).length : Int) = (j : Int) := ⟨_, (Int.toNat_of_nonneg i0).symm⟩
      have hjl : j < ns.length := by
        rw [hj, List.length_map] at i1
        omega
      have gj : (ns.map V.int)[j]? = some (.int ns[j]) := by
        rw [List.getElem?_map, List.getElem?_eq_getElem hjl]
        rfl
      refine ⟨.ref L, rfl, L, _, 0, _, rfl, rfl, .inl (.inl e2), atI_nat (j := 0) rfl, .ref L, rfl, L, _, 1, _, rfl, rfl, .inl (.inl e2), atI_nat (j := 1) rfl, .ref L, rfl, L, _, 0, _, rfl, rfl, .inl (.inl e2), atI_nat (j := 0) rfl, S, _, rfl, .inl (.inl (.inl hS2)), p, _, rfl, rfl, by omega, S, _, _, _, rfl, rfl, .inl (.inl hS2), (by rw [hj]; exact atI_nat gj), ?_⟩
      all_goals
        -- feed[1] += 1
        refine ⟨.ref L, rfl, L, _, 1, _, rfl, rfl, .inl (.inl e2), rfl, _, _, rfl, rfl, L, _, 1, 1, rfl, rfl, e2, rfl, ?_⟩
        generalize hH3 : upd H2 L (.lst (List.set [V.ref S, V.int p, V.int r, V.int (t + 1)] 1 (V.int ((fun i j => i + j) p 1)))) = H3
        have e3 : H3 L = some (.lst [.ref S, .int (p + 1), .int r, .int (t + 1)]) := by
          rw [← hH3]
          exact upd_same
        have b23 : But L H2 H3 := by
          rw [← hH3]
          exact But.upd
        have b3 := b2.trans b23
        have hS3 := b23 _ _ nSF hS2
        clear hH3
        have back3 : ∀ r' v : Int, 0 ≤ r' → 0 ≤ v → v < m → Q (.int v) (upd H3 L (.lst [.ref S, .int (p + 1), .int r', .int (t + 1)])) := fun r' v x y z =>
          have b34 : But L H3 (upd H3 L (.lst [.ref S, .int (p + 1), .int r', .int (t + 1)])) := But.upd
          back _ (p + 1) r' v (b3.trans b34) (b34 _ _ nSF hS3) upd_same (by omega) x y z
        -- if cell >= 10 ** 18 and ..
        refine ⟨_, rfl, _, _, rfl, rfl, ⟨by decide, by decide, by decide⟩, _, _, rfl, rfl, _, rfl, ite2 (fun c1 => ?_) (fun c1 => ?_)⟩
        · refine ⟨.ref L, rfl, L, _, 1, _, rfl, rfl, .inl (.inl e3), atI_nat (j := 1) rfl, .ref L, rfl, L, _, 0, _, rfl, rfl, .inl (.inl e3), atI_nat (j := 0) rfl, S, _, rfl, .inl (.inl (.inl hS3)), _, _, rfl, rfl, _, rfl, ite2 (fun c2 => ?_) (fun c2 => ?_)⟩
          · refine ⟨_, rfl, _, rfl, _, _, rfl, rfl, wide_div (b := 60) m0 (by omega) (by omega) (by omega), .ref L, rfl, L, _, 2, 2, rfl, rfl, e3, rfl, ?_⟩
            refine ⟨_, rfl, _, rfl, _, _, rfl, rfl, m0, ?_⟩
            exact back3 _ _ (Int.ediv_nonneg (Int.le_trans (by decide) (of_decide_eq_true c1)) (by omega)) (Int.emod_nonneg _ (by omega)) (Int.emod_lt_of_pos _ m0)
          · refine ⟨.ref L, rfl, L, _, 3, _, rfl, rfl, .inl (.inl e3), atI_nat (j := 3) rfl, ?_⟩
            refine ⟨_, rfl, _, _, rfl, rfl, (by show (0 : Int) < _; decide), _, rfl, _, _, rfl, rfl, .inl ⟨by decide, by decide⟩, _, rfl, _, _, rfl, rfl, .inr ⟨by omega, by omega⟩, _, _, rfl, rfl, _, rfl, _, _, rfl, rfl, .inl ⟨by decide, by decide⟩, _, _, rfl, rfl, _, _, rfl, rfl, (by show (0 : Int) < _; decide), ?_⟩
            refine ⟨_, rfl, _, rfl, _, _, rfl, rfl, .inl ⟨by omega, by omega⟩, _, rfl, _, _, rfl, rfl, .inl ⟨by decide, by decide⟩, _, _, rfl, rfl, _, _, rfl, rfl, (by show (0 : Int) < _; decide), ?_⟩
            refine ⟨_, rfl, _, rfl, _, _, rfl, rfl, .inl ⟨by omega, by omega⟩, _, rfl, _, _, rfl, rfl, .inl ⟨by decide, by decide⟩, _, _, rfl, rfl, _, _, rfl, rfl, (by show (0 : Int) < _; decide), ?_⟩
            refine ⟨_, rfl, _, rfl, _, _, rfl, rfl, .inl ⟨by omega, by omega⟩, _, rfl, _, _, rfl, rfl, _, _, rfl, rfl, (by show (0 : Int) < _; decide), _, _, rfl, rfl, wide_div (b := 60) (by decide) (by decide) (by omega) (by omega), _, rfl, _, _, rfl, rfl, m0, ?_⟩
            exact back H3 (p + 1) r _ b3 hS3 e3 (by omega) r0 (Int.emod_nonneg _ (by omega)) (Int.emod_lt_of_pos _ m0)
        · refine ⟨.ref L, rfl, L, _, 3, _, rfl, rfl, .inl (.inl e3), atI_nat (j := 3) rfl, ?_⟩
          refine ⟨_, rfl, _, _, rfl, rfl, (by show (0 : Int) < _; decide), _, rfl, _, _, rfl, rfl, .inl ⟨by decide, by decide⟩, _, rfl, _, _, rfl, rfl, .inr ⟨by omega, by omega⟩, _, _, rfl, rfl, _, rfl, _, _, rfl, rfl, .inl ⟨by decide, by decide⟩, _, _, rfl, rfl, _, _, rfl, rfl, (by show (0 : Int) < _; decide), ?_⟩
          refine ⟨_, rfl, _, rfl, _, _, rfl, rfl, .inl ⟨by omega, by omega⟩, _, rfl, _, _, rfl, rfl, .inl ⟨by decide, by decide⟩, _, _, rfl, rfl, _, _, rfl, rfl, (by show (0 : Int) < _; decide), ?_⟩
          refine ⟨_, rfl, _, rfl, _, _, rfl, rfl, .inl ⟨by omega, by omega⟩, _, rfl, _, _, rfl, rfl, .inl ⟨by decide, by decide⟩, _, _, rfl, rfl, _, _, rfl, rfl, (by show (0 : Int) < _; decide), ?_⟩
          refine ⟨_, rfl, _, rfl, _, _, rfl, rfl, .inl ⟨by omega, by omega⟩, _, rfl, _, _, rfl, rfl, _, _, rfl, rfl, (by show (0 : Int) < _; decide), _, _, rfl, rfl, wide_div (b := 60) (by decide) (by decide) (by omega) (by omega), _, rfl, _, _, rfl, rfl, m0, ?_⟩
          exact back H3 (p + 1) r _ b3 hS3 e3 (by omega) r0 (Int.emod_nonneg _ (by omega)) (Int.emod_lt_of_pos _ m0)
end
theorem scCu : FnScope ["total", "weights", "whole", "weight"] ["total", "weights"] (defScope sCu) := ⟨rfl, rfl, rfl, by decide +kernel, rfl, by decide +kernel, by decide +kernel⟩
theorem scRe : FnScope ["total", "weights", "whole", "weight", "cut"] ["total", "weights"] (defScope sRe) := ⟨rfl, rfl, rfl, by decide +kernel, rfl, by decide +kernel, by decide +kernel⟩
theorem map_int {ns : List Int} {i : Nat} {x : V} (h : (ns.map V.int)[i]? = some x) : ∃ n, ns[i]? = some n ∧ x = .int n := map_get h
section
variable {P : Program} {w : World} {K : PySem.W.Frag} {mg : Str → Option Value} {base : Heap}
/-! ### cuts, rests -/
def spL (K : PySem.W.Frag) (g : Int → List Int → List Int) : Sp := fun vs H Q _ => ∃ (a : Addr) (t : Int) (ws : List Int), vs = [.int t, .ref a] ∧ SqT K H a (ws.map V.int) ∧ OkW t ws ∧
  ∀ H' r, Same H H' → H r = none → H' r = some (.tup ((g t ws).map V.int)) → Q (.ref r) H'
theorem mul_ok {t w : Int} {ws : List Int} (h : OkW t ws) : -(2 ^ 64) < t ∧ t < 2 ^ 64 := ⟨by have := h.t0; omega, by have := h.t1; omega⟩
theorem sum_ok {t : Int} {ws : List Int} (h : OkW t ws) : ws.sum.natAbs < 2 ^ 60 := by
  have := sum_le h.w0
  have := h.n1
  omega
theorem ok_cu {f : Addr} {fd : FuncData} {k : Nat} (F : Fun K "cuts" "cuts" sCu f fd) (m_sum : mg "sum" = none) (m_tuple : mg "tuple" = none) : FnOk P w K mg base CX0 (k + 1) f fd ["total", "weights"] (spL K lows) := by
  refine F.ok scCu (fun vs H Q E h => ?_) (fun cdv A outer s H vs Q E hr h => ?_)
  · obtain ⟨a, t, ws, rfl, _⟩ := h
    rfl
  · obtain ⟨a, t, ws, rfl, hA, ok, q⟩ := h
    refine ⟨_, (pss_cons (ps_set (i := 2) scCu.nd rfl (.inr rfl) (pe_callB (call_sumT rfl) (by rfl) m_sum (by decide +kernel) (pa_cons (pv 1) pa_nil)))
      (pss_one (ps_ret (pe_callTy call_tuple_of (by rfl) m_tuple (by decide +kernel) (pa_cons (pe_lc (own := [("weight", 3)]) (g := gName 3) (tt := tYes) rfl scCu.nd (pi_tup (pv 1)) (blkOk_by (own := [("weight", 3)]) (N := ["total", "weights", "whole", "weight"]) (sc := defScope sCu) (by decide +kernel)) (fun _ _ _ _ _ => (pg_name (i := 3) scCu.nd rfl (.inl rfl))) (fun _ _ _ _ _ => pts_nil) (fun _ _ _ _ _ => (pe_op op_fdivW (pe_op op_mul (pv 0) (pv 3)) (pv 2)))) pa_nil))))), ?_⟩
    refine ⟨_, rfl, a, ws, rfl, hA, ?_⟩
    refine ⟨_, rfl, a, rfl, ⟨_, hA⟩, fun D nD => ?_⟩
    refine lc_tup (xs := ws.map V.int) (fun i H1 => Same H H1 ∧ H1 D = some (.lst (((ws.take i).map fun w => t * w / ws.sum).map V.int))) ⟨same_upd nD, upd_same⟩ ?_ ?_ ?_
    · rintro i H1 _ ⟨sm, _⟩
      exact TB.Same.tup sm hA
    · rintro i x H1 hx ⟨sm, eD⟩
      obtain ⟨w, hw, rfl⟩ := map_int hx
      refine ⟨rfl, yes (iteT ?_)⟩
      refine ⟨_, rfl, _, rfl, _, _, rfl, rfl, .inl (mul_ok (w := w) ok), _, rfl, _, _, rfl, rfl, wide_div (b := 60) ok.s0 (sum_ok ok) (by omega) (by omega), ?_⟩
      refine ⟨_, eD, ?_, same_new nD sm, ?_⟩
      · rw [List.length_map, List.length_map]
        have := List.length_take_le' i ws
        have := ok.n1
        exact small1000 (by omega)
      · rw [upd_same, map_take_more hw, List.map_append]
        rfl
    · rintro H1 ⟨sm, eD⟩
      rw [List.length_map, List.take_length] at eD
      exact ⟨D, _, rfl, .inl ⟨.inl (.inl eD), fun r nr => q _ r (sm.trans (same_upd nr)) (sm.free nr) upd_same⟩⟩
theorem ok_re {f fC : Addr} {fd fdC : FuncData} (F : Fun K "rests" "rests" sRe f fd)
    (GC : FnOk P w K mg base CX0 1 fC fdC ["total", "weights"] (spL K lows)) (kC : PySem.W.keepIn K (.ref fC) = true) (bC : Binds K fdC ["total", "weights"] []) (gC : mg "cuts" = some (.ref fC))
    (m_sum : mg "sum" = none) (m_tuple : mg "tuple" = none) (m_zip : mg "zip" = none) : FnOk P w K mg base CX0 2 f fd ["total", "weights"] (spL K rsts) := by
  refine F.ok scRe (fun vs H Q E h => ?_) (fun cdv A outer s H vs Q E hr h => ?_)
  · obtain ⟨a, t, ws, rfl, _⟩ := h
    rfl
  · obtain ⟨a, t, ws, rfl, hA, ok, q⟩ := h
    refine ⟨_, (pss_cons (ps_set (i := 2) scRe.nd rfl (.inr rfl) (pe_callB (call_sumT rfl) (by rfl) m_sum (by decide +kernel) (pa_cons (pv 1) pa_nil)))
      (pss_one (ps_ret (pe_callTy call_tuple_of (by rfl) m_tuple (by decide +kernel) (pa_cons (pe_lc (own := [("weight", 3), ("cut", 4)]) (g := gTup K 2 (gCons (gName 3) (gCons (gName 4) gNil))) (tt := tYes) rfl scRe.nd (RZ.pi_zipA (by rfl) m_zip (pa_cons (pv 1) (pa_cons (pe_call GC (hr.mono (by decide)) (by rfl) gC kC bC .nil pass0 (pa_cons (pv 0) (pa_cons (pv 1) pa_nil))) pa_nil))) (blkOk_by (own := [("weight", 3), ("cut", 4)]) (N := ["total", "weights", "whole", "weight", "cut"]) (sc := defScope sRe) (by decide +kernel)) (fun _ _ _ _ _ => (pg_tup rfl (pgs_cons (pg_name (i := 3) scRe.nd rfl (.inl rfl)) (pgs_cons (pg_name (i := 4) scRe.nd rfl (.inl rfl)) pgs_nil)))) (fun _ _ _ _ _ => pts_nil) (fun _ _ _ _ _ => (pe_op op_sub (pe_op op_mul (pv 0) (pv 3)) (pe_op op_mul (pv 4) (pv 2))))) pa_nil))))), ?_⟩
    refine ⟨_, rfl, a, ws, rfl, hA, ?_⟩
    refine ⟨_, rfl, _, rfl, _, rfl, a, t, ws, rfl, hA, ok, fun H1 r s1 nr er => ?_⟩
    refine ⟨a, r, _, _, rfl, .inr ⟨TB.Same.tup s1 hA, .inl (.inl er), fun D nD => ?_⟩⟩
    have ll := lows_len t ws
    refine lc_it (walk_zT (xs := ws.map V.int) (ys := (lows t ws).map V.int) (n := ws.length) (by rw [List.length_map, List.length_map, ll]; omega)) (fun i H2 => Same H1 H2 ∧ H2 D = some (.lst (((ws.take i).map fun w => t * w - t * w / ws.sum * ws.sum).map V.int))) ⟨same_upd nD, upd_same⟩ ?_ ?_ ?_
    · rintro i H2 _ ⟨sm, _⟩
      exact ⟨TB.Same.tup (s1.trans sm) hA, .inl (.inl (sm _ _ er))⟩
    · rintro i x H2 H3 hi ⟨sm, eD⟩ ⟨T, u, v, rfl, nT, rfl, hu, hv⟩
      obtain ⟨w, hw, rfl⟩ := map_int hu
      obtain ⟨c, hc, rfl⟩ := map_int hv
      obtain rfl := Option.some.inj ((low_get hw).symm.trans hc)
      have lb := low_bound ok (List.mem_of_getElem? hw)
      have t1 := ok.t1
      refine ⟨T, _, rfl, .inl (.inl upd_same), rfl, _, _, rfl, _, _, rfl, rfl, rfl, yes (iteT ?_)⟩
      refine ⟨_, rfl, _, rfl, _, _, rfl, rfl, .inl (mul_ok (w := w) ok), _, rfl, _, rfl, _, _, rfl, rfl, .inl ⟨by omega, by omega⟩, _, _, rfl, rfl, ?_⟩
      have sT := same_upd (o := .tup [.int w, .int (t * w / ws.sum)]) nT
      refine ⟨_, sT _ _ eD, ?_, same_new nD (sm.trans sT), ?_⟩
      · rw [List.length_map, List.length_map]
        have := List.length_take_le' i ws
        have := ok.n1
        exact small1000 (by omega)
      · rw [upd_same, map_take_more hw, List.map_append]
        rfl
    · rintro H2 ⟨sm, eD⟩
      rw [List.take_length] at eD
      exact ⟨D, _, rfl, .inl ⟨.inl (.inl eD), fun z nz => q _ z (s1.trans (sm.trans (same_upd nz))) ((s1.trans sm).free nz) upd_same⟩⟩
end
end K10

set_option Elab.async false
set_option linter.all false
set_option maxRecDepth 100000
set_option maxHeartbeats 2000000
namespace K10
open PySem PySem.Spec PyProof.Rows L2 TB K09

theorem scWe : FnScope ["_law_feed_here", "_law_many", "_law_style", "_law_found", "_law_k", "_law_near"] ["_law_feed_here", "_law_many"] (defScope sWe) := ⟨rfl, rfl, rfl, by decide +kernel, rfl, by decide +kernel, by decide +kernel⟩
theorem scTo : FnScope ["_law_feed_here", "_law_weights_here", "_law_far", "_law_near", "_law_some"] ["_law_feed_here", "_law_weights_here"] (defScope sTo) := ⟨rfl, rfl, rfl, by decide +kernel, rfl, by decide +kernel, by decide +kernel⟩
structure Ws (ws : List Int) : Prop where
  n0 : 0 < ws.length
  n1 : ws.length ≤ 12
  w0 : ∀ w ∈ ws, 0 ≤ w ∧ w ≤ 1000000000
  s0 : 0 < ws.sum
theorem Ws.ok {ws : List Int} {t : Int} (h : Ws ws) (t0 : 0 ≤ t) (t1 : t ≤ 1000000000000) : OkW t ws := ⟨t0, t1, h.n0, h.n1, h.w0, h.s0⟩
theorem but_upd {H H' : Hp} {L O : Addr} {o : HO} (n : H O = none) (b : But L H H') : But L H (upd H' O o) := fun c x m e => by
  rw [upd_ne (ne_of_none e n)]
  exact b c x m e
theorem ixN_last {n : Nat} (h : 0 < n) : ixN n (-1) = some (n - 1) := by
  unfold ixN
  rw [if_neg (by decide), if_pos (by omega)]
  congr 1
  omega
theorem mem_set {ws : List Int} {j : Nat} {v w : Int} (h : w ∈ ws.set j v) : w ∈ ws ∨ w = v := by
  rcases List.mem_or_eq_of_mem_set h with z | z
  · exact .inl z
  · exact .inr z
theorem pick6 {a b c d e f v : Int} (h0 : 0 ≤ v) (h1 : v < 6) : ∃ x, atI [V.int a, V.int b, V.int c, V.int d, V.int e, V.int f] v = some (.int x) ∧ (x = a ∨ x = b ∨ x = c ∨ x = d ∨ x = e ∨ x = f) := by
  have z : v = 0 ∨ v = 1 ∨ v = 2 ∨ v = 3 ∨ v = 4 ∨ v = 5 := by omega
  rcases z with rfl | rfl | rfl | rfl | rfl | rfl
  · exact ⟨a, rfl, by simp⟩
  · exact ⟨b, rfl, by simp⟩
  · exact ⟨c, rfl, by simp⟩
  · exact ⟨d, rfl, by simp⟩
  · exact ⟨e, rfl, by simp⟩
  · exact ⟨f, rfl, by simp⟩
section
variable {P : Program} {w : World} {K : PySem.W.Frag} {mg : Str → Option Value} {base : Heap}
/-! ### _law_weights -/
def spWe : Sp := fun vs H Q _ => ∃ (F S : Addr) (m T : Int), vs = [.ref F, .int m] ∧ 0 < m ∧ m ≤ 12 ∧ Feed H F S T ∧ T < 100000 ∧
  ∀ (H' : Hp) (r : Addr) (ws : List Int), But F H H' → Feed H' F S (T + 150) → H' r = some (.tup (ws.map V.int)) → Ws ws → (ws.length : Int) ≤ m → Q (.ref r) H'
theorem ok_we {f fR : Addr} {fd fdR : FuncData} (F : Fun K "_law_weights" "_law_weights" sWe f fd)
    (GDr : FnOk P w K mg base CX0 1 fR fdR ["_law_feed_here", "_law_many"] spDraw) (kDr : PySem.W.keepIn K (.ref fR) = true) (bDr : Binds K fdR ["_law_feed_here", "_law_many"] []) (gDr : mg "_law_draw" = some (.ref fR))
    (m_range : mg "range" = none) (m_sum : mg "sum" = none) (m_len : mg "len" = none) (m_tuple : mg "tuple" = none) : FnOk P w K mg base CX0 2 f fd ["_law_feed_here", "_law_many"] spWe := by
  refine F.ok scWe (fun vs H Q E h => ?_) (fun cdv A outer s H vs Q E hr h => ?_)
  · obtain ⟨a, S, m, T, rfl, _⟩ := h
    rfl
  · obtain ⟨L, S, m, T, rfl, m0, m1, hF, hT, q⟩ := h
    refine ⟨_, (pss_cons (ps_set (i := 2) scWe.nd rfl (.inl rfl) (pe_call GDr (hr.mono (by decide)) (by rfl) gDr kDr bDr .nil pass0 (pa_cons (pv 0) (pa_cons pe_int pa_nil))))
      (pss_cons (ps_set (i := 3) scWe.nd rfl (.inl rfl) (pe_lst pa_nil))
      (pss_cons (ps_for PassesOwn.never rfl (pi_range1 (by rfl) m_range (pa_cons (pe_op op_add pe_int (pe_call GDr (hr.mono (by decide)) (by rfl) gDr kDr bDr .nil pass0 (pa_cons (pv 0) (pa_cons (pv 1) pa_nil)))) pa_nil)) (pg_name (i := 4) scWe.nd rfl (.inl rfl)) (pss_cons (ps_set (i := 5) scWe.nd rfl (.inl rfl) (pe_op op_sub (pe_op op_pow pe_int pe_int) (pe_call GDr (hr.mono (by decide)) (by rfl) gDr kDr bDr .nil pass0 (pa_cons (pv 0) (pa_cons pe_int pa_nil)))))
      (pss_cons (ps_expr (pe_bm PySem.F.plainAttrs_list PySem.F.slot_list_append PySem.F.type_list_append mt_append (pv 3) (pa_cons (pe_ix ix_tup (pe_tup (pa_cons (pe_call GDr (hr.mono (by decide)) (by rfl) gDr kDr bDr .nil pass0 (pa_cons (pv 0) (pa_cons pe_int pa_nil))) (pa_cons pe_int (pa_cons (pe_call GDr (hr.mono (by decide)) (by rfl) gDr kDr bDr .nil pass0 (pa_cons (pv 0) (pa_cons pe_int pa_nil))) (pa_cons (pv 5) (pa_cons (pe_op op_add pe_int (pe_call GDr (hr.mono (by decide)) (by rfl) gDr kDr bDr .nil pass0 (pa_cons (pv 0) (pa_cons (pe_op op_pow pe_int pe_int) pa_nil)))) (pa_cons (pv 5) pa_nil))))))) (pv 2) (fun _ _ => rfl)) pa_nil)))
      (pss_one (ps_cut (ps_if (PW.pt (pw_and (pt_cmpR op_eq (pv 2) pe_int (nomark _)) (pw_and1 (pt_cmpR op_eq (pe_call GDr (hr.mono (by decide)) (by rfl) gDr kDr bDr .nil pass0 (pa_cons (pv 0) (pa_cons pe_int pa_nil))) pe_int (nomark _))))) (pss_one (ps_asg (pe_call GDr (hr.mono (by decide)) (by rfl) gDr kDr bDr .nil pass0 (pa_cons (pv 0) (pa_cons pe_int pa_nil))) (pg_sub (pv 3) (pe_un un_neg pe_int) set_list))) pss_nil))))))
      (pss_cons (ps_cut (ps_if (pt_cmpR op_eq (pe_callB (cr_sum rfl) (by rfl) m_sum (by decide +kernel) (pa_cons (pv 3) pa_nil)) pe_int (nomark _)) (pss_one (ps_asg (pe_op op_add pe_int (pe_call GDr (hr.mono (by decide)) (by rfl) gDr kDr bDr .nil pass0 (pa_cons (pv 0) (pa_cons pe_int pa_nil)))) (pg_sub (pv 3) (pe_call GDr (hr.mono (by decide)) (by rfl) gDr kDr bDr .nil pass0 (pa_cons (pv 0) (pa_cons (pe_callB call_len_seq (by rfl) m_len (by decide +kernel) (pa_cons (pv 3) pa_nil)) pa_nil))) set_list))) pss_nil))
      (pss_one (ps_ret (pe_callTy call_tuple_of (by rfl) m_tuple (by decide +kernel) (pa_cons (pv 3) pa_nil)))))))), ?_⟩
    refine ⟨_, rfl, L, S, 6, T, rfl, by decide, by decide, hF, by omega, fun H1 st k1 f1 l1 u1 => ?_⟩
    refine ⟨Nat.zero_le _, fun O nO => ?_⟩
    obtain ⟨z1, ez1⟩ := f1.there
    have nO0 : H O = none := k1.free ez1 nO
    have nOL := f1.ne nO
    have k2 : But L H (upd H1 O (.lst [])) := but_upd nO0 k1
    have f2 := f1.same (same_upd (o := .lst []) nO)
    have eO : (upd H1 O (.lst [])) O = some (.lst (([] : List Int).map V.int)) := upd_same
    generalize upd H1 O (.lst []) = H2 at *
    show tSeq _ _ _ [some (.ref L), some (.int m), some (.int st), some (.ref O), none, none] _
    refine ⟨_, rfl, _, rfl, L, S, m, _, rfl, m0, by omega, f2, by omega, fun H3 v3 k3 f3 l3 u3 => ⟨_, _, rfl, rfl, 1 + v3, rfl, by omega, by omega, ?_⟩⟩
    have eO3 := k3 _ _ nOL.1 eO
    refine for_range (lo := 0) (n := (1 + v3).toNat) (fun i σ H4 => ∃ y4 y5, σ = [some (.ref L), some (.int m), some (.int st), some (.ref O), y4, y5] ∧ Feed H4 L S (T + 2 + 10 * i) ∧ But L H H4 ∧ ∃ ws : List Int, ws.length = i ∧ (∀ w ∈ ws, 0 ≤ w ∧ w ≤ 1000000000) ∧ H4 O = some (.lst (ws.map V.int)))
      ⟨_, _, rfl, f3.mono (by omega), k2.trans k3, [], rfl, (fun w hw => by cases hw), eO3⟩ ?_ ?_
    · rintro i σ H4 hi ⟨y4, y5, rfl, f4, k4, ws, wl, hw, eO4⟩
      have hi' : i < 12 := by omega
      generalize hTT : T + 2 + 10 * (i : Int) = T4 at f4
      have hT4 : T4 < 200000 := by omega
      refine ⟨_, _, rfl, rfl, ⟨by decide, by decide, by decide⟩, _, rfl, L, S, 3, _, rfl, by decide, by decide, f4, by omega, fun H5 v5 k5 f5 l5 u5 => ⟨_, _, rfl, rfl, ?_⟩⟩
      have near : (10 : Int) ^ Int.toNat 9 = 1000000000 := by decide
      show tSeq _ _ _ [some (.ref L), some (.int m), some (.int st), some (.ref O), some (.int (0 + (i : Int))), some (.int ((10 : Int) ^ Int.toNat 9 - v5))] _
      rw [near]
      have eO5 := k5 _ _ nOL.1 eO4
      refine ⟨_, rfl, .inl ⟨rfl, _, .inl (.inl eO5)⟩, ?_⟩
      refine ⟨_, rfl, L, S, 4, _, rfl, by decide, by decide, f5, by omega, fun H6 v6 k6 f6 l6 u6 => ?_⟩
      refine ⟨_, rfl, L, S, 50, _, rfl, by decide, by decide, f6, by omega, fun H7 v7 k7 f7 l7 u7 => ?_⟩
      refine ⟨_, rfl, _, rfl, _, _, rfl, rfl, ⟨by decide, by decide, by decide⟩, L, S, 10 ^ 9, _, rfl, by decide, by decide, f7, by omega, fun H8 v8 k8 f8 l8 u8 => ⟨_, _, rfl, rfl, _, rfl, by show (6 : Nat) ≤ sizeLine; decide, fun tp ntp => ?_⟩⟩
      have s9 := same_upd (o := .tup [.int v6, .int 1, .int v7, .int (1000000000 - v5), .int (1 + v8), .int (1000000000 - v5)]) ntp
      have etp : (upd H8 tp (.tup [.int v6, .int 1, .int v7, .int (1000000000 - v5), .int (1 + v8), .int (1000000000 - v5)])) tp = some (.tup [.int v6, .int 1, .int v7, .int (1000000000 - v5), .int (1 + v8), .int (1000000000 - v5)]) := upd_same
      have u8' : v8 < 1000000000 := u8
      obtain ⟨x, hx, x6⟩ := pick6 (a := v6) (b := 1) (c := v7) (d := 1000000000 - v5) (e := 1 + v8) (f := 1000000000 - v5) l1 u1
      have x0 : 0 ≤ x ∧ x ≤ 1000000000 := by omega
      refine ⟨_, rfl, tp, _, st, .int x, rfl, rfl, .inl (.inl etp), hx, ?_⟩
      have k9 : But L H4 (upd H8 tp (.tup [.int v6, .int 1, .int v7, .int (1000000000 - v5), .int (1 + v8), .int (1000000000 - v5)])) := (((k5.trans k6).trans k7).trans k8).same s9
      have f9 := f8.same s9
      generalize upd H8 tp (.tup [.int v6, .int 1, .int v7, .int (1000000000 - v5), .int (1 + v8), .int (1000000000 - v5)]) = H9 at *
      have eO9 := k9 _ _ nOL.1 eO4
      refine ⟨O, _, _, rfl, rfl, eO9, by rw [List.length_map, wl]; exact small1000 (by omega), ?_⟩
      have f10 := f9.upd (o := .lst (ws.map V.int ++ [.int x])) nOL
      have k10 : But L H (upd H9 O (.lst (ws.map V.int ++ [.int x]))) := but_upd nO0 (k4.trans k9)
      have eO10 : (upd H9 O (.lst (ws.map V.int ++ [.int x]))) O = some (.lst ((ws ++ [x]).map V.int)) := by
        rw [upd_same, List.map_append]
        rfl
      generalize upd H9 O (.lst (ws.map V.int ++ [.int x])) = H10 at *
      have hw2 : ∀ w ∈ ws ++ [x], 0 ≤ w ∧ w ≤ 1000000000 := fun w hm => by
        rcases List.mem_append.mp hm with z | z
        · exact hw w z
        · rw [List.mem_singleton.mp z]
          exact x0
      have wl2 : (ws ++ [x]).length = i + 1 := by
        rw [List.length_append, wl]
        rfl
      refine ⟨fun σ' H' => ∃ y4 y5, σ' = [some (.ref L), some (.int m), some (.int st), some (.ref O), y4, y5] ∧ Feed H' L S (T + 2 + 10 * ((i + 1 : Nat) : Int)) ∧ But L H H' ∧ ∃ ws : List Int, ws.length = i + 1 ∧ (∀ w ∈ ws, 0 ≤ w ∧ w ≤ 1000000000) ∧ H' O = some (.lst (ws.map V.int)), ?_, fun _ _ z => z⟩
      refine ⟨_, rfl, rfl, _, rfl, ?_⟩
      change ite _ _ _
      refine ite2 (fun c => ?_) (fun c => ?_)
      · refine ⟨_, rfl, L, S, 2, _, rfl, by decide, by decide, f10, by omega, fun H11 v11 k11 f11 l11 u11 => ⟨rfl, _, rfl, ?_⟩⟩
        change ite _ _ _
        have eO11 := k11 _ _ nOL.1 eO10
        refine ite2 (fun c2 => ?_) (fun c2 => ?_)
        · refine ⟨_, rfl, L, S, 3, _, rfl, by decide, by decide, f11, by omega, fun H12 v12 k12 f12 l12 u12 => ?_⟩
          have eO12 := k12 _ _ nOL.1 eO11
          refine ⟨_, rfl, 1, rfl, O, _, _, _, rfl, rfl, eO12, ixN_last (by rw [List.length_map, wl2]; omega), ?_⟩
          refine ⟨_, _, rfl, (f12.upd nOL).mono (by omega), but_upd nO0 ((k10.trans k11).trans k12), (ws ++ [x]).set (((ws ++ [x]).map V.int).length - 1) v12, by rw [List.length_set, wl2], fun w hm => ?_, ?_⟩
          · rcases mem_set hm with z | z
            · exact hw2 w z
            · rw [z]
              omega
          · rw [upd_same, List.map_set]
        · exact ⟨_, _, rfl, f11.mono (by omega), k10.trans k11, _, wl2, hw2, eO11⟩
      · exact iteF ⟨_, _, rfl, f10.mono (by omega), k10, _, wl2, hw2, eO10⟩
    · rintro σ H4 ⟨y4, y5, rfl, f4, k4, ws, wl, hw, eO4⟩
      have wn : 0 < ws.length := by omega
      have wn12 : ws.length ≤ 12 := by omega
      have wnm : (ws.length : Int) ≤ m := by omega
      have f4 : Feed H4 L S (T + 130) := f4.mono (by omega)
      refine ⟨fun σ' H' => ∃ ws : List Int, σ' = [some (.ref L), some (.int m), some (.int st), some (.ref O), y4, y5] ∧ Feed H' L S (T + 150) ∧ But L H H' ∧ Ws ws ∧ H' O = some (.lst (ws.map V.int)) ∧ (ws.length : Int) ≤ m, ?_, ?_⟩
      · refine ⟨_, rfl, O, ws, rfl, .inl (.inl eO4), rfl, _, rfl, ?_⟩
        refine ite2 (fun c => ?_) (fun c => ?_)
        · refine ⟨_, rfl, L, S, 3, _, rfl, by decide, by decide, f4, by omega, fun H5 v5 k5 f5 l5 u5 => ⟨_, _, rfl, rfl, ?_⟩⟩
          have eO5 := k5 _ _ nOL.1 eO4
          refine ⟨_, rfl, _, rfl, _, rfl, O, _, rfl, .inl (.inl (.inl eO5)), L, S, ((ws.map V.int).length : Int), _, rfl, by rw [List.length_map]; omega, by rw [List.length_map]; omega, f5, by omega, fun H6 v6 k6 f6 l6 u6 => ?_⟩
          have eO6 := k6 _ _ nOL.1 eO5
          obtain ⟨j, rfl⟩ : ∃ j : Nat, v6 = (j : Int) := ⟨v6.toNat, (Int.toNat_of_nonneg l6).symm⟩
          rw [List.length_map] at u6
          have jl : j < ws.length := by omega
          refine ⟨O, _, _, j, rfl, rfl, eO6, ixN_nat (by rw [List.length_map]; exact jl), ?_⟩
          have hw3 : ∀ w ∈ ws.set j (1 + v5), 0 ≤ w ∧ w ≤ 1000000000 := fun w hm => by
            rcases mem_set hm with z | z
            · exact hw w z
            · rw [z]
              omega
          refine ⟨ws.set j (1 + v5), rfl, (f6.upd nOL).mono (by omega), but_upd nO0 ((k4.trans k5).trans k6), ⟨by rw [List.length_set]; exact wn, by rw [List.length_set]; exact wn12, hw3, ?_⟩, ?_, by rw [List.length_set]; exact wnm⟩
          · have mm : (1 + v5) ∈ ws.set j (1 + v5) := by
              refine List.mem_iff_getElem?.mpr ⟨j, ?_⟩
              rw [List.getElem?_set, if_pos rfl, if_pos jl]
            have := (sum_ge (fun z hz => (hw3 z hz).1) mm).2
            omega
          · rw [upd_same, List.map_set]
        · refine ⟨ws, rfl, f4.mono (by omega), k4, ⟨wn, wn12, hw, ?_⟩, eO4, wnm⟩
          have s0 := (sum_le hw).1
          have : ws.sum ≠ 0 := fun z => c (decide_eq_true (by rw [z]))
          omega
      · rintro σ' H5 ⟨ws, rfl, f5, k5, hws, eO5, wnm⟩
        refine ⟨_, rfl, O, _, rfl, .inl ⟨.inl (.inl eO5), fun r nr => ?_⟩⟩
        exact q _ r ws (k5.same (same_upd nr)) (f5.same (same_upd nr)) upd_same hws wnm
/-! ### _law_total -/
def spTo : Sp := fun vs H Q _ => ∃ (F S a : Addr) (T : Int) (ws : List Int), vs = [.ref F, .ref a] ∧ Feed H F S T ∧ T < 100000 ∧ H a = some (.tup (ws.map V.int)) ∧ Ws ws ∧
  ∀ (H' : Hp) (t : Int), But F H H' → Feed H' F S (T + 10) → 0 ≤ t → t ≤ 1000000000000 → Q (.int t) H'
theorem ok_to {f fR : Addr} {fd fdR : FuncData} (F : Fun K "_law_total" "_law_total" sTo f fd)
    (GDr : FnOk P w K mg base CX0 1 fR fdR ["_law_feed_here", "_law_many"] spDraw) (kDr : PySem.W.keepIn K (.ref fR) = true) (bDr : Binds K fdR ["_law_feed_here", "_law_many"] []) (gDr : mg "_law_draw" = some (.ref fR))
    (m_sum : mg "sum" = none) (m_len : mg "len" = none) : FnOk P w K mg base CX0 2 f fd ["_law_feed_here", "_law_weights_here"] spTo := by
  refine F.ok scTo (fun vs H Q E h => ?_) (fun cdv A outer s H vs Q E hr h => ?_)
  · obtain ⟨a, S, b, T, ws, rfl, _⟩ := h
    rfl
  · obtain ⟨L, S, a, T, ws, rfl, hF, hT, ea, hw, q⟩ := h
    refine ⟨_, (pss_cons (ps_set (i := 2) scTo.nd rfl (.inl rfl) (pe_op op_sub (pe_op op_pow pe_int pe_int) (pe_call GDr (hr.mono (by decide)) (by rfl) gDr kDr bDr .nil pass0 (pa_cons (pv 0) (pa_cons pe_int pa_nil)))))
      (pss_cons (ps_set (i := 3) scTo.nd rfl (.inl rfl) (pe_op op_add (pe_op op_mul (pe_callB (call_sumT rfl) (by rfl) m_sum (by decide +kernel) (pa_cons (pv 1) pa_nil)) (pe_call GDr (hr.mono (by decide)) (by rfl) gDr kDr bDr .nil pass0 (pa_cons (pv 0) (pa_cons pe_int pa_nil)))) (pe_call GDr (hr.mono (by decide)) (by rfl) gDr kDr bDr .nil pass0 (pa_cons (pv 0) (pa_cons pe_int pa_nil)))))
      (pss_cons (ps_set (i := 4) scTo.nd rfl (.inl rfl) (pe_tup (pa_cons pe_int (pa_cons (pe_call GDr (hr.mono (by decide)) (by rfl) gDr kDr bDr .nil pass0 (pa_cons (pv 0) (pa_cons (pe_op op_add (pe_callB call_len_seq (by rfl) m_len (by decide +kernel) (pa_cons (pv 1) pa_nil)) pe_int) pa_nil))) (pa_cons (pe_call GDr (hr.mono (by decide)) (by rfl) gDr kDr bDr .nil pass0 (pa_cons (pv 0) (pa_cons pe_int pa_nil))) (pa_cons (pv 3) (pa_cons (pe_call GDr (hr.mono (by decide)) (by rfl) gDr kDr bDr .nil pass0 (pa_cons (pv 0) (pa_cons (pe_op op_pow pe_int pe_int) pa_nil))) (pa_cons (pv 2) pa_nil))))))))
      (pss_one (ps_ret (pe_ix ix_tup (pv 4) (pe_call GDr (hr.mono (by decide)) (by rfl) gDr kDr bDr .nil pass0 (pa_cons (pv 0) (pa_cons pe_int pa_nil))) (fun _ _ => rfl))))))), ?_⟩
    have naL : a ≠ L := by
      obtain ⟨z, ez⟩ := hF.there
      exact ne_of ea ez fun z => nomatch z
    have n1 := hw.n1
    have n0 := hw.n0
    have sl := sum_le hw.w0
    refine ⟨_, _, rfl, rfl, ⟨by decide, by decide, by decide⟩, _, rfl, L, S, 9, T, rfl, by decide, by decide, hF, by omega, fun H1 v1 k1 f1 l1 u1 => ⟨_, _, rfl, rfl, ?_⟩⟩
    have far : (10 : Int) ^ Int.toNat 12 = 1000000000000 := by decide
    show tSeq _ _ _ [some (.ref L), some (.ref a), some (.int ((10 : Int) ^ Int.toNat 12 - v1)), none, none] _
    rw [far]
    have e1 := k1 _ _ naL ea
    refine ⟨_, rfl, a, ws, rfl, .inl (.inl e1), _, rfl, L, S, 3, _, rfl, by decide, by decide, f1, by omega, fun H2 v2 k2 f2 l2 u2 => ⟨_, _, rfl, rfl, .inl ⟨by omega, by omega⟩, ?_⟩⟩
    refine ⟨_, rfl, L, S, 4, _, rfl, by decide, by decide, f2, by omega, fun H3 v3 k3 f3 l3 u3 => ⟨_, _, rfl, rfl, ?_⟩⟩
    have nr : 0 ≤ ws.sum * v2 + v3 ∧ ws.sum * v2 + v3 ≤ 1000000000000 := by
      have z : v2 = 0 ∨ v2 = 1 ∨ v2 = 2 := by omega
      rcases z with rfl | rfl | rfl <;> omega
    show tSeq _ _ _ [some (.ref L), some (.ref a), some (.int (1000000000000 - v1)), some (.int (ws.sum * v2 + v3)), none] _
    generalize ws.sum * v2 + v3 = x at *
    have e3 := k3 _ _ naL (k2 _ _ naL e1)
    refine ⟨_, rfl, _, rfl, a, _, rfl, .inr (.inl (.inl e3)), _, _, rfl, rfl, L, S, ((ws.map V.int).length : Int) + 1, _, rfl, by omega, by rw [List.length_map]; omega, f3, by omega, fun H4 v4 k4 f4 l4 u4 => ?_⟩
    rw [List.length_map] at u4
    refine ⟨_, rfl, L, S, 1000, _, rfl, by decide, by decide, f4, by omega, fun H5 v5 k5 f5 l5 u5 => ⟨_, rfl, ?_⟩⟩
    refine ⟨_, rfl, _, _, rfl, rfl, ⟨by decide, by decide, by decide⟩, L, S, 10 ^ 12, _, rfl, by decide, by decide, f5, by omega, fun H6 v6 k6 f6 l6 u6 => ⟨_, rfl, by show (6 : Nat) ≤ sizeLine; decide, fun tp ntp => ?_⟩⟩
    have u6' : v6 < 1000000000000 := u6
    have s7 := same_upd (o := .tup [.int 0, .int v4, .int v5, .int x, .int v6, .int (1000000000000 - v1)]) ntp
    have etp : (upd H6 tp (.tup [.int 0, .int v4, .int v5, .int x, .int v6, .int (1000000000000 - v1)])) tp = some (.tup [.int 0, .int v4, .int v5, .int x, .int v6, .int (1000000000000 - v1)]) := upd_same
    have nt := f6.ne ntp
    refine ⟨_, rfl, _, rfl, L, S, 6, _, rfl, by decide, by decide, f6.same s7, by omega, fun H8 v8 k8 f8 l8 u8 => ?_⟩
    obtain ⟨y, hy, y6⟩ := pick6 (a := 0) (b := v4) (c := v5) (d := x) (e := v6) (f := 1000000000000 - v1) l8 u8
    refine ⟨tp, _, v8, .int y, rfl, rfl, .inl (.inl (k8 _ _ nt.1 etp)), hy, ?_⟩
    exact q _ y ((((((k1.trans k2).trans k3).trans k4).trans k5).trans k6).same s7 |>.trans k8) (f8.mono (by omega)) (by omega) (by omega)
end
end K10

set_option Elab.async false
set_option linter.all false
set_option maxRecDepth 100000
set_option maxHeartbeats 2000000
namespace K10
open PySem PySem.Spec PyProof.Rows L2 TB K09

theorem scIn : FnScope ["self", "word", "at"] ["self", "word", "at"] (defScope sIn) := ⟨rfl, rfl, rfl, by decide +kernel, rfl, by decide +kernel, by decide +kernel⟩
theorem scNu : FnScope ["thing"] ["thing"] (defScope sNu) := ⟨rfl, rfl, rfl, by decide +kernel, rfl, by decide +kernel, by decide +kernel⟩
theorem scTu : FnScope ["thing", "many"] ["thing", "many"] (defScope sTu) := ⟨rfl, rfl, rfl, by decide +kernel, rfl, by decide +kernel, by decide +kernel⟩
theorem scLc : FnScope ["lows", "parts", "at", "part"] ["lows", "parts"] (defScope sLc) := ⟨rfl, rfl, rfl, by decide +kernel, rfl, by decide +kernel, by decide +kernel⟩
theorem scLr : FnScope ["lows", "left", "parts", "short", "at", "part", "low", "rest"] ["lows", "left", "parts"] (defScope sLr) := ⟨rfl, rfl, rfl, by decide +kernel, rfl, by decide +kernel, by decide +kernel⟩
/-! ### kinds of things -/
def isNum : PyData → Bool
  | .int _ => true
  | _ => false
def isTup (m : Int) : PyData → Bool
  | .tuple ds => decide ((ds.length : Int) = m)
  | _ => false
section
variable {K : PySem.W.Frag} {H : Hp}
theorem ty_lst {a : Addr} {xs : List V} (h : SqL K H a xs) : TyX K H (.ref a) (.type "list") := by
  rcases h with (h | ⟨o, h⟩) | ⟨o, its, n, e, c, _⟩
  · exact .base (.lst h)
  · exact .base (.frz h)
  · exact .kList e c
theorem ty_tup {a : Addr} {xs : List V} (h : SqT K H a xs) : TyX K H (.ref a) (.type "tuple") := by
  rcases h with (h | ⟨o, h⟩) | ⟨o, its, n, e, c, _⟩
  · exact .base (.tup h)
  · exact .fTuple h
  · exact .kTuple e c
def isTp : PyData → Bool
  | .tuple _ => true
  | _ => false
theorem isiT {v : V} {d : PyData} (hd : Dp K H v d) : ∃ t : Value, TyX K H v t ∧ PySem.W.kitOne K t (.type "tuple") = some (isTp d) := by
  cases hd with
  | non => exact ⟨_, .base .non, (kit_ty (r := false) (by decide +kernel))⟩
  | bl b => exact ⟨_, .base (.bl b), (kit_ty (r := false) (by decide +kernel))⟩
  | int i => exact ⟨_, .base (.int i), (kit_ty (r := false) (by decide +kernel))⟩
  | str x => exact ⟨_, .base (.str x), (kit_ty (r := false) (by decide +kernel))⟩
  | lst h _ => exact ⟨_, ty_lst h, (kit_ty (r := false) (by decide +kernel))⟩
  | tup h _ => exact ⟨_, ty_tup h, (kit_ty (r := true) (by decide +kernel))⟩
end
theorem dec_int' {i j : Int} : decide (V.int i = V.int j) = decide (i = j) := by
  by_cases c : i = j
  · rw [c, decide_eq_true rfl, decide_eq_true rfl]
  · rw [decide_eq_false c, decide_eq_false fun z => c (V.int.inj z)]
section
variable {P : Program} {w : World} {K : PySem.W.Frag} {mg : Str → Option Value} {base : Heap}
def spKind (K : PySem.W.Frag) (f : PyData → Bool) : Sp := fun vs H Q _ => ∃ (v : V) (d : PyData), vs = [v] ∧ Dp K H v d ∧ ∀ H', Same H H' → Q (.bl (f d)) H'
theorem ok_n {f : Addr} {fd : FuncData} {k : Nat} (F : Fun K "is_number" "is_number" sNu f fd) (m_isinstance : mg "isinstance" = none) (m_int : mg "int" = none) (m_bool : mg "bool" = none) :
    FnOk P w K mg base CX0 (k + 1) f fd ["thing"] (spKind K isNum) := by
  refine F.ok scNu (fun vs H Q E h => ?_) (fun cdv A outer s H vs Q E hr h => ?_)
  · obtain ⟨v, d, rfl, _⟩ := h
    rfl
  · obtain ⟨v, d, rfl, hd, q⟩ := h
    have q := q H (Same.refl H)
    refine ⟨_, (pss_one (ps_ret (pe_and (pe_callB call_isi (by rfl) m_isinstance (by decide +kernel) (pa_cons (pv 0) (pa_cons (pe_bltn (v := .ty "int") (u := .type "int") (by rfl) m_int (by decide +kernel) rfl) pa_nil))) (pe_one (pe_not (pe_callB call_isi (by rfl) m_isinstance (by decide +kernel) (pa_cons (pv 0) (pa_cons (pe_bltn (v := .ty "bool") (u := .type "bool") (by rfl) m_bool (by decide +kernel) rfl) pa_nil)))))))), ?_⟩
    cases hd with
    | non => exact ⟨_, rfl, _, .ty "int", _, .type "int", false, rfl, .ty _, .base .non, kit_ty (by decide +kernel), false, rfl, iteF q⟩
    | bl b => exact ⟨_, rfl, _, .ty "int", _, .type "int", true, rfl, .ty _, .base (.bl b), kit_ty (by decide +kernel), true, rfl, iteT ⟨_, rfl, _, .ty "bool", _, .type "bool", true, rfl, .ty _, .base (.bl b), kit_ty (by decide +kernel), true, rfl, q⟩⟩
    | int i => exact ⟨_, rfl, _, .ty "int", _, .type "int", true, rfl, .ty _, .base (.int i), kit_ty (by decide +kernel), true, rfl, iteT ⟨_, rfl, _, .ty "bool", _, .type "bool", false, rfl, .ty _, .base (.int i), kit_ty (by decide +kernel), false, rfl, q⟩⟩
    | str x => exact ⟨_, rfl, _, .ty "int", _, .type "int", false, rfl, .ty _, .base (.str x), kit_ty (by decide +kernel), false, rfl, iteF q⟩
    | lst h _ => exact ⟨_, rfl, _, .ty "int", _, .type "int", false, rfl, .ty _, ty_lst h, kit_ty (by decide +kernel), false, rfl, iteF q⟩
    | tup h _ => exact ⟨_, rfl, _, .ty "int", _, .type "int", false, rfl, .ty _, ty_tup h, kit_ty (by decide +kernel), false, rfl, iteF q⟩
def spTup (K : PySem.W.Frag) (g : Int → PyData → Bool) : Sp := fun vs H Q _ => ∃ (v : V) (d : PyData) (m : Int), vs = [v, .int m] ∧ m ≤ 100 ∧ Dp K H v d ∧ ∀ H', Same H H' → Q (.bl (g m d)) H'
theorem ok_t {f : Addr} {fd : FuncData} {k : Nat} (F : Fun K "is_tuple_of" "is_tuple_of" sTu f fd) (m_isinstance : mg "isinstance" = none) (m_tuple : mg "tuple" = none) (m_len : mg "len" = none) :
    FnOk P w K mg base CX0 (k + 1) f fd ["thing", "many"] (spTup K isTup) := by
  refine F.ok scTu (fun vs H Q E h => ?_) (fun cdv A outer s H vs Q E hr h => ?_)
  · obtain ⟨v, d, m, rfl, _⟩ := h
    rfl
  · obtain ⟨v, d, m, rfl, hm, hd, q⟩ := h
    have q := q H (Same.refl H)
    refine ⟨_, (pss_one (ps_ret (pe_and (pe_callB call_isi (by rfl) m_isinstance (by decide +kernel) (pa_cons (pv 0) (pa_cons (pe_bltn (v := .ty "tuple") (u := .type "tuple") (by rfl) m_tuple (by decide +kernel) rfl) pa_nil))) (pe_one (pe_cmpR op_eq (pe_callB call_len_seq (by rfl) m_len (by decide +kernel) (pa_cons (pv 0) pa_nil)) (pv 1) (nomark _)))))), ?_⟩
    obtain ⟨t, ty, kt⟩ := isiT hd
    refine ⟨_, rfl, _, .ty "tuple", t, .type "tuple", _, rfl, .ty _, ty, kt, _, rfl, ?_⟩
    cases hd with
    | tup h t =>
      refine iteT ⟨_, rfl, _, _, rfl, .inr h, _, rfl, rfl, ?_⟩
      have ln := DpAll.len t
      rw [ln]
      show Q (.bl (decide (V.int _ = V.int m))) H
      rw [dec_int']
      exact q
    | non => exact iteF q
    | bl b => exact iteF q
    | int i => exact iteF q
    | str x => exact iteF q
    | lst h _ => exact iteF q
/-! ### NoPaper(word, at) -/
def spIn (K : PySem.W.Frag) (C : Addr) : Sp := fun vs H Q _ => ∃ (a : Addr) (x y : V), vs = [.ref a, x, y] ∧ H a = some (exo a C none) ∧
  ∀ dx, H dx = none → dx ≠ a → Q .non (upd (upd (upd H dx (exd dx [("word", x)])) a (exo a C (some dx))) dx (exd dx [("at", y), ("word", x)]))
theorem ok_in {C f : Addr} {fd : FuncData} {k : Nat} (T : OexC K C) (nW : PySem.W.findIn K (.ref C) "word" = some none) (nA : PySem.W.findIn K (.ref C) "at" = some none) (F : Fun K "__init__" "NoPaper.__init__" sIn f fd) :
    FnOk P w K mg base CX0 (k + 1) f fd ["self", "word", "at"] (spIn K C) := by
  refine F.ok scIn (fun vs H Q E h => ?_) (fun cdv A outer s H vs Q E hr h => ?_)
  · obtain ⟨a, x, y, rfl, _⟩ := h
    rfl
  · obtain ⟨a, x, y, rfl, ea, q⟩ := h
    refine ⟨_, pss_cons (ps_ost (pv 0) (pv 1)) (pss_one (ps_ost (pv 0) (pv 2))), ?_⟩
    refine ⟨_, rfl, _, rfl, a, C, rfl, T, nW, .inl ⟨ea, fun dx n ne => ?_⟩⟩
    exact ⟨_, rfl, _, rfl, a, C, rfl, T, nA, .inr ⟨dx, _, upd_same, by rw [upd_ne ne]; exact upd_same, by show (1 : Nat) ≤ 900; decide, q dx n ne⟩⟩
/-- it leaves with this word and this place -/
def Rs (C : Addr) (H : Hp) (E : XK) (z : Str) (i : Int) : Prop := ∀ (H' : Hp) (d : Addr), Same H H' → H d = none → H' d = some (.xd [("at", .int i), ("word", .str z)]) → E (.ref C) (some d) H'
theorem Rs.same {C : Addr} {H H1 : Hp} {E : XK} {z : Str} {i : Int} (r : Rs C H E z i) (s : Same H H1) : Rs C H1 E z i := fun H' d s' n e => r H' d (s.trans s') (s.free n) e
theorem made {C a : Addr} {H : Hp} {W : XK} {z : Str} {i : Int} (na : H a = none) (r : Rs C H W z i) :
    spIn K C [.ref a, .str z, .int i] (upd H a (exo a C none)) (fun v H2 => v = .non ∧ ∃ (d : Addr) (fs : List (Str × V)), H2 a = some (exo a C (some d)) ∧ H2 d = some (exd d fs) ∧ H d = none ∧ W (.ref C) (some d) (upd (del H2 a) d (.xd fs))) (fun _ _ _ => False) := by
  refine ⟨a, _, _, rfl, upd_same, fun dx n ne => ⟨rfl, dx, _, ?_, upd_same, ?_, ?_⟩⟩
  · rw [upd_ne (Ne.symm ne), upd_same]
  · rw [upd_ne ne] at n
    exact n
  · rw [upd_ne ne] at n
    refine r _ dx (fun b o e => ?_) n upd_same
    have n1 : b ≠ dx := ne_of_none e n
    have n2 : b ≠ a := ne_of_none e na
    rw [upd_ne n1, del_ne n2, upd_ne n1, upd_ne n2, upd_ne n1, upd_ne n2]
    exact e
/-! ### look_at_cuts -/
def badC (ls ps : List Int) (i : Nat) : Bool := decide (ps.getD i 0 ≠ ls.getD i 0 ∧ ps.getD i 0 ≠ ls.getD i 0 + 1)
def spLc (K : PySem.W.Frag) (C : Addr) : Sp := fun vs H Q E => ∃ (a b : Addr) (ls ps : List Int), vs = [.ref a, .ref b] ∧ SqT K H a (ls.map V.int) ∧ SqT K H b (ps.map V.int) ∧ ls.length = ps.length ∧ ps.length ≤ 100 ∧
  ((∀ i, i < ps.length → badC ls ps i = false) → ∀ H', Same H H' → Q .non H') ∧ (∀ i, i < ps.length → badC ls ps i = true → (∀ j, j < i → badC ls ps j = false) → Rs C H E "cut" i)
theorem gInt {ns : List Int} {i : Nat} (h : i < ns.length) : (ns.map V.int)[i]? = some (.int (ns.getD i 0)) := by
  rw [List.getElem?_map, getD_of h]
  rfl
theorem ok_lc {C f fI : Addr} {fd fdI : FuncData} (F : Fun K "look_at_cuts" "look_at_cuts" sLc f fd)
    (TNp : OexC K C) (iCNp : PySem.W.findIn K (.ref C) "__init__" = some (some (.ref fI))) (tINp : PySem.W.typeIn K (.ref fI) = some (.type "function"))
    (GINp : FnOk P w K mg base CX0 1 fI fdI ["self", "word", "at"] (spIn K C)) (bINp : Binds K fdI ["self", "word", "at"] []) (gNp : mg "NoPaper" = some (.ref C)) (m_enumerate : mg "enumerate" = none) :
    FnOk P w K mg base (L2.CX P w) 3 f fd ["lows", "parts"] (spLc K C) := by
  refine F.okX scLc (fun vs H Q E h => ?_) (fun cdv A outer s H vs Q E hr h => ?_)
  · obtain ⟨a, b, ls, ps, rfl, _⟩ := h
    rfl
  · obtain ⟨a, b, ls, ps, rfl, hA, hB, ln, l100, q, r⟩ := h
    refine ⟨_, (pss_one (ps_for (passes_of rfl) rfl (pi_enumT (by rfl) m_enumerate (pa_cons (pv 1) pa_nil)) (pg_tup rfl (pgs_cons (pg_name (i := 2) scLc.nd rfl (.inl rfl)) (pgs_cons (pg_name (i := 3) scLc.nd rfl (.inl rfl)) pgs_nil))) (pss_one (ps_if (PW.pt (pw_and (pt_cmpR op_ne (pv 3) (pe_ix ix_tup (pv 0) (pv 2) (fun _ _ => rfl)) (nomark _)) (pw_and1 (pt_cmpR op_ne (pv 3) (pe_op op_add (pe_ix ix_tup (pv 0) (pv 2) (fun _ _ => rfl)) pe_int) (nomark _))))) (pss_one (ps_raise rfl (takes_of rfl rfl rfl rfl) (pmk_oex TNp iCNp tINp GINp (hr.mono (by decide)) bINp .nil pass0 (by rfl) gNp (pa_cons pe_str (pa_cons (pv 2) pa_nil))))) pss_nil)))), ?_⟩
    refine ⟨_, rfl, b, _, rfl, hB, ?_⟩
    refine for_it (walk_ET (xs := ps.map V.int)) (fun i σ H1 => ∃ y2 y3, σ = [some (.ref a), some (.ref b), y2, y3] ∧ Same H H1 ∧ ∀ j, j < i → badC ls ps j = false) ⟨_, _, rfl, Same.refl _, fun j hj => absurd hj (Nat.not_lt_zero _)⟩ ?_ ?_ ?_
    · rintro i σ H1 _ ⟨y2, y3, rfl, sm, _⟩
      exact TB.Same.tup sm hB
    · rintro i x σ H1 H2 hi ⟨y2, y3, rfl, sm, al⟩ ⟨T, u, v, rfl, nT, rfl, hu, hv⟩
      obtain rfl := Option.some.inj hu
      rw [List.length_map] at hi
      obtain rfl := Option.some.inj ((gInt hi).symm.trans hv)
      have sT := same_upd (o := .tup [.int (i : Nat), .int (ps.getD i 0)]) nT
      have s2 := sm.trans sT
      refine ⟨T, _, rfl, .inl (.inl upd_same), rfl, _, _, rfl, _, _, rfl, rfl, ?_⟩
      have hA2 := TB.Same.tup s2 hA
      have gl : atI (ls.map V.int) (i : Int) = some (.int (ls.getD i 0)) := atI_nat (gInt (by omega))
      have step : badC ls ps i = false → ∀ j, j < i + 1 → badC ls ps j = false := fun z j hj => by
        by_cases c : j < i
        · exact al j c
        · obtain rfl : j = i := by omega
          exact z
      refine ⟨_, rfl, _, rfl, _, rfl, a, _, _, _, rfl, rfl, hA2, gl, rfl, _, rfl, ?_⟩
      change ite _ _ _
      refine ite2 (fun c => ?_) (fun c => ?_)
      · refine ⟨_, rfl, _, rfl, _, rfl, a, _, _, _, rfl, rfl, hA2, gl, _, _, rfl, rfl, rfl, _, rfl, ?_⟩
        change ite _ _ _
        have n1 : ps.getD i 0 ≠ ls.getD i 0 := fun z => by
          rw [z, decide_eq_true rfl] at c
          cases c
        refine ite2 (fun c2 => ?_) (fun c2 => ?_)
        · have n2 : ps.getD i 0 ≠ ls.getD i 0 + 1 := fun z => by
            rw [z, decide_eq_true rfl] at c2
            cases c2
          refine ⟨_, rfl, by show (2 : Nat) ≤ 1000; decide, fun e ne => ?_⟩
          exact made ne ((r i hi (decide_eq_true ⟨n1, n2⟩) al).same s2)
        · refine ⟨_, _, rfl, s2, step (decide_eq_false fun z => z.2 ?_)⟩
          refine V.int.inj (Decidable.byContradiction fun y => c2 ?_)
          rw [decide_eq_false y]
          rfl
      · refine iteF ⟨_, _, rfl, s2, step (decide_eq_false fun z => z.1 ?_)⟩
        refine V.int.inj (Decidable.byContradiction fun y => c ?_)
        rw [decide_eq_false y]
        rfl
    · rintro σ H1 ⟨y2, y3, rfl, sm, al⟩
      rw [List.length_map] at al
      exact q al H1 sm
end
end K10

set_option Elab.async false
set_option linter.all false
set_option maxRecDepth 100000
set_option maxHeartbeats 2000000
namespace K10
open PySem PySem.Spec PyProof.Rows L2 TB K09

theorem scLs : FnScope ["total", "weights", "thing", "at", "part", "whole", "weight"] ["total", "weights", "thing"] (defScope sLs) := ⟨rfl, rfl, rfl, by decide +kernel, rfl, by decide +kernel, by decide +kernel⟩
/-! ### look_at_rests -/
def shorts (ls rs ps : List Int) (n : Nat) : List Int := ((List.range n).filter fun j => decide (ps.getD j 0 = ls.getD j 0)).map fun j => rs.getD j 0
theorem shorts_more (ls rs ps : List Int) (n : Nat) : shorts ls rs ps (n + 1) = shorts ls rs ps n ++ if ps.getD n 0 = ls.getD n 0 then [rs.getD n 0] else [] := by
  unfold shorts
  rw [List.range_succ, List.filter_append, List.map_append]
  congr 1
  by_cases c : ps.getD n 0 = ls.getD n 0
  · rw [if_pos c, List.filter_cons, if_pos (decide_eq_true c)]
    rfl
  · rw [if_neg c, List.filter_cons, if_neg (by rw [decide_eq_false c]; exact Bool.false_ne_true)]
    rfl
theorem shorts_len (ls rs ps : List Int) (n : Nat) : (shorts ls rs ps n).length ≤ n := by
  unfold shorts
  rw [List.length_map]
  exact Nat.le_trans (List.length_filter_le _ _) (by rw [List.length_range]; exact Nat.le_refl _)
def badR (ls rs ps : List Int) (i : Nat) : Bool := decide (ls.getD i 0 < ps.getD i 0) && (shorts ls rs ps ps.length).any fun r => decide (rs.getD i 0 < r)
section
variable {P : Program} {w : World} {K : PySem.W.Frag} {mg : Str → Option Value} {base : Heap}
def spLr (K : PySem.W.Frag) (C : Addr) : Sp := fun vs H Q E => ∃ (a b c : Addr) (ls rs ps : List Int), vs = [.ref a, .ref b, .ref c] ∧ SqT K H a (ls.map V.int) ∧ SqT K H b (rs.map V.int) ∧ SqT K H c (ps.map V.int) ∧ ls.length = ps.length ∧ rs.length = ps.length ∧ ps.length ≤ 100 ∧
  ((∀ i, i < ps.length → badR ls rs ps i = false) → ∀ H', Same H H' → Q .non H') ∧ (∀ i, i < ps.length → badR ls rs ps i = true → (∀ j, j < i → badR ls rs ps j = false) → Rs C H E "rest" i)
theorem ok_lr {C f fI : Addr} {fd fdI : FuncData} (F : Fun K "look_at_rests" "look_at_rests" sLr f fd)
    (TNp : OexC K C) (iCNp : PySem.W.findIn K (.ref C) "__init__" = some (some (.ref fI))) (tINp : PySem.W.typeIn K (.ref fI) = some (.type "function"))
    (GINp : FnOk P w K mg base CX0 1 fI fdI ["self", "word", "at"] (spIn K C)) (bINp : Binds K fdI ["self", "word", "at"] []) (gNp : mg "NoPaper" = some (.ref C)) (m_enumerate : mg "enumerate" = none) (m_zip : mg "zip" = none) (m_any : mg "any" = none) :
    FnOk P w K mg base (L2.CX P w) 3 f fd ["lows", "left", "parts"] (spLr K C) := by
  refine F.okX scLr (fun vs H Q E h => ?_) (fun cdv A outer s H vs Q E hr h => ?_)
  · obtain ⟨a, b, c, ls, rs, ps, rfl, _⟩ := h
    rfl
  · obtain ⟨a, b, c, ls, rs, ps, rfl, hA, hB, hC, ll, rl, l100, q, r⟩ := h
    refine ⟨_, (pss_cons (ps_setLc (i := 3) (own := [("low", 6), ("rest", 7), ("part", 5)]) (g := gTup K 3 (gCons (gName 6) (gCons (gName 7) (gCons (gName 5) gNil)))) rfl scLr.nd rfl rfl (sw_true rfl rfl rfl (by decide +kernel)) (pi_zip3 (by rfl) m_zip (pa_cons (pv 0) (pa_cons (pv 1) (pa_cons (pv 2) pa_nil)))) (blkOk_by (own := [("low", 6), ("rest", 7), ("part", 5)]) (N := ["lows", "left", "parts", "short", "at", "part", "low", "rest"]) (sc := defScope sLr) (by decide +kernel)) (fun _ _ _ _ _ => (pg_tup rfl (pgs_cons (pg_name (i := 6) scLr.nd rfl (.inl rfl)) (pgs_cons (pg_name (i := 7) scLr.nd rfl (.inl rfl)) (pgs_cons (pg_name (i := 5) scLr.nd rfl (.inl rfl)) pgs_nil))))) (fun _ _ _ _ _ => (pts_one (pt_cmpR op_eq (pv 5) (pv 6) (nomark _)))) (fun _ _ _ _ _ => (pv 7)))
      (pss_one (ps_for (passes_of rfl) rfl (pi_enumT (by rfl) m_enumerate (pa_cons (pv 2) pa_nil)) (pg_tup rfl (pgs_cons (pg_name (i := 4) scLr.nd rfl (.inr rfl)) (pgs_cons (pg_name (i := 5) scLr.nd rfl (.inl rfl)) pgs_nil))) (pss_one (ps_if (PW.pt (pw_and (pt_cmpR op_gt (pv 5) (pe_ix ix_tup (pv 0) (pv 4) (fun _ _ => rfl)) (nomark _)) (pw_and1 (pt_val (pe_callB (cr_any rfl) (by rfl) m_any (by decide +kernel) (pa_cons (pe_lc (own := [("rest", 7)]) (g := gName 7) (tt := tYes) (te := tOp (rI0 fun i j => .bl (decide (j < i))) (tVar 7) (tOp (rIxT K) (tVar 1) (tVar 4))) rfl scLr.nd (pi_list (pv 3)) (blkOk_by (own := [("rest", 7)]) (N := ["lows", "left", "parts", "short", "at", "part", "low", "rest"]) (sc := defScope sLr) (by decide +kernel)) (fun _ _ _ _ _ => (pg_name (i := 7) scLr.nd rfl (.inl rfl))) (fun _ _ _ _ _ => pts_nil) (fun _ _ _ _ _ => (pe_cmpR op_gt (pv 7) (pe_ix ix_tup (pv 1) (pv 4) (fun _ _ => rfl)) (nomark _)))) pa_nil)))))) (pss_one (ps_raise rfl (takes_of rfl rfl rfl rfl) (pmk_oex TNp iCNp tINp GINp (hr.mono (by decide)) bINp .nil pass0 (by rfl) gNp (pa_cons pe_str (pa_cons (pv 4) pa_nil))))) pss_nil))))), ?_⟩
    refine ⟨_, rfl, _, rfl, _, rfl, a, b, c, _, _, _, rfl, ⟨hA, hB, hC⟩, fun D nD => ?_⟩
    refine lc_it (walk_3 (xs := ls.map V.int) (ys := rs.map V.int) (zs := ps.map V.int) (n := ps.length) (by rw [List.length_map, List.length_map, List.length_map]; omega)) (fun i H1 => Same H H1 ∧ H1 D = some (.lst ((shorts ls rs ps i).map V.int))) ⟨same_upd nD, upd_same⟩ ?_ ?_ ?_
    · rintro i H1 _ ⟨sm, _⟩
      exact ⟨TB.Same.tup sm hA, TB.Same.tup sm hB, TB.Same.tup sm hC⟩
    · rintro i x H1 H2 hi ⟨sm, eD⟩ ⟨T, u, v, z, rfl, nT, rfl, hu, hv, hz⟩
      obtain rfl := Option.some.inj ((gInt (by omega)).symm.trans hu)
      obtain rfl := Option.some.inj ((gInt (by omega)).symm.trans hv)
      obtain rfl := Option.some.inj ((gInt hi).symm.trans hz)
      have sT := same_upd (o := .tup [.int (ls.getD i 0), .int (rs.getD i 0), .int (ps.getD i 0)]) nT
      refine ⟨T, _, rfl, .inl (.inl upd_same), rfl, _, _, rfl, _, _, rfl, _, _, rfl, rfl, rfl, ?_⟩
      refine ⟨_, rfl, _, rfl, rfl, _, rfl, ite2 (fun c => ?_) (fun c => ?_)⟩
      · have c' : ps.getD i 0 = ls.getD i 0 := V.int.inj (of_decide_eq_true c)
        refine ⟨_, rfl, _, sT _ _ eD, ?_, same_new nD (sm.trans sT), ?_⟩
        · rw [List.length_map]
          have := shorts_len ls rs ps i
          exact small1000 (by omega)
        · rw [upd_same, shorts_more, if_pos c', List.map_append]
          rfl
      · have c' : ¬ ps.getD i 0 = ls.getD i 0 := fun z => c (decide_eq_true (by rw [z]))
        refine ⟨sm.trans sT, ?_⟩
        rw [shorts_more, if_neg c', List.append_nil]
        exact sT _ _ eD
    rintro H1 ⟨s1, eD⟩
    have sl := shorts_len ls rs ps ps.length
    refine ⟨_, rfl, c, _, rfl, TB.Same.tup s1 hC, ?_⟩
    refine for_it (walk_ET (xs := ps.map V.int)) (fun i σ H2 => ∃ y4 y5, σ = [some (.ref a), some (.ref b), some (.ref c), some (.ref D), y4, y5, none, none] ∧ Same H1 H2 ∧ ∀ j, j < i → badR ls rs ps j = false) ⟨_, _, rfl, Same.refl _, fun j hj => absurd hj (Nat.not_lt_zero _)⟩ ?_ ?_ ?_
    · rintro i σ H2 _ ⟨y4, y5, rfl, sm, _⟩
      exact TB.Same.tup (s1.trans sm) hC
    · rintro i x σ H2 H3 hi ⟨y4, y5, rfl, sm, al⟩ ⟨T, u, v, rfl, nT, rfl, hu, hv⟩
      obtain rfl := Option.some.inj hu
      rw [List.length_map] at hi
      obtain rfl := Option.some.inj ((gInt hi).symm.trans hv)
      have sT := same_upd (o := .tup [.int (i : Nat), .int (ps.getD i 0)]) nT
      have s3 := sm.trans sT
      refine ⟨T, _, rfl, .inl (.inl upd_same), rfl, _, _, rfl, _, _, rfl, rfl, ?_⟩
      have gl : atI (ls.map V.int) (i : Int) = some (.int (ls.getD i 0)) := atI_nat (gInt (by omega))
      have gr : atI (rs.map V.int) (i : Int) = some (.int (rs.getD i 0)) := atI_nat (gInt (by omega))
      have step : badR ls rs ps i = false → ∀ j, j < i + 1 → badR ls rs ps j = false := fun z j hj => by
        by_cases c : j < i
        · exact al j c
        · obtain rfl : j = i := by omega
          exact z
      refine ⟨_, rfl, _, rfl, _, rfl, a, _, _, _, rfl, rfl, TB.Same.tup (s1.trans s3) hA, gl, _, _, rfl, rfl, _, rfl, ?_⟩
      change ite _ _ _
      refine ite2 (fun c => ?_) (fun c => ?_)
      · have c1 : ls.getD i 0 < ps.getD i 0 := of_decide_eq_true c
        refine ⟨_, rfl, D, rfl, ⟨_, .inl (.inl (s3 _ _ eD))⟩, fun D2 nD2 => ?_⟩
        refine lc_list (xs := (shorts ls rs ps ps.length).map V.int) (fun j H4 => Same (upd H2 T (.tup [.int (i : Nat), .int (ps.getD i 0)])) H4 ∧ H4 D2 = some (.lst ((((shorts ls rs ps ps.length).take j).map fun r => decide (rs.getD i 0 < r)).map V.bl))) ⟨same_upd nD2, upd_same⟩ ?_ ?_ ?_
        · rintro j H4 _ ⟨s4, _⟩
          exact .inl (.inl (s4 _ _ (s3 _ _ eD)))
        · rintro j x H4 hx ⟨s4, eD2⟩
          obtain ⟨r0, hr0, rfl⟩ := map_int hx
          refine ⟨rfl, yes (iteT ?_)⟩
          refine ⟨_, rfl, _, rfl, _, rfl, b, _, _, _, rfl, rfl, TB.Same.tup (s1.trans (s3.trans s4)) hB, gr, _, _, rfl, rfl, _, eD2, ?_, same_new nD2 s4, ?_⟩
          · rw [List.length_map, List.length_map]
            have := List.length_take_le' j (shorts ls rs ps ps.length)
            exact small1000 (by omega)
          · rw [upd_same, map_take_more hr0, List.map_append]
            rfl
        rintro H4 ⟨s4, eD2⟩
        rw [List.length_map, List.take_length] at eD2
        refine ⟨D2, _, rfl, .inl (.inl eD2), _, rfl, ?_⟩
        change ite _ _ _
        rw [List.any_map]
        have s5 := s1.trans (s3.trans s4)
        refine ite2 (fun c2 => ?_) (fun c2 => ?_)
        · refine ⟨_, rfl, by show (2 : Nat) ≤ 1000; decide, fun e ne => ?_⟩
          refine made ne ((r i hi ?_ al).same s5)
          unfold badR
          rw [decide_eq_true c1, Bool.true_and]
          exact c2
        · refine ⟨_, _, rfl, s3.trans s4, step ?_⟩
          unfold badR
          rw [decide_eq_true c1, Bool.true_and]
          cases e : (shorts ls rs ps ps.length).any fun r => decide (rs.getD i 0 < r) with
          | false => rfl
          | true => exact absurd e c2
      · refine iteF ⟨_, _, rfl, s3, step ?_⟩
        unfold badR
        rw [decide_eq_false fun z => c (decide_eq_true z), Bool.false_and]
    · rintro σ H2 ⟨y4, y5, rfl, sm, al⟩
      rw [List.length_map] at al
      exact q al H2 (s1.trans sm)
/-! ### lets_split -/
def ab (x : Int) : Int := if x < 0 then -x else x
def offL (t : Int) (ws ps : List Int) (W : Int) (n : Nat) : List Int := (List.range n).map fun i => ab (ps.getD i 0 * W - t * ws.getD i 0)
def off (t : Int) (ws ps : List Int) : Int := (offL t ws ps ws.sum ws.length).sum
def passes (t : Int) (ws ps : List Int) : Prop := (∀ i, i < ps.length → badC (lows t ws) ps i = false) ∧ ∀ i, i < ps.length → badR (lows t ws) (rsts t ws) ps i = false
def spLs (K : PySem.W.Frag) (C : Addr) : Sp := fun vs H Q E => ∃ (a : Addr) (v : V) (t : Int) (ws : List Int) (d : PyData), vs = [.int t, .ref a, v] ∧ SqT K H a (ws.map V.int) ∧ OkW t ws ∧ Dp K H v d ∧
  (isTup ws.length d = false → Rs C H E "shape" (-1)) ∧
  (∀ ds i dd, d = .tuple ds → ds.length = ws.length → ds[i]? = some dd → isNum dd = false → (∀ (j : Nat) (dj : PyData), j < i → ds[j]? = some dj → isNum dj = true) → Rs C H E "number" i) ∧
  (∀ ps, d = .tuple (dInts ps) → ps.length = ws.length →
    (ps.sum ≠ t → Rs C H E "sum" (-1)) ∧
    (ps.sum = t → (∀ i : Nat, i < ps.length → badC (lows t ws) ps i = true → (∀ j, j < i → badC (lows t ws) ps j = false) → Rs C H E "cut" i) ∧
      ((∀ i, i < ps.length → badC (lows t ws) ps i = false) → ∀ i : Nat, i < ps.length → badR (lows t ws) (rsts t ws) ps i = true → (∀ j, j < i → badR (lows t ws) (rsts t ws) ps j = false) → Rs C H E "rest" i) ∧
      (passes t ws ps → ∀ H', Same H H' → Q (.int (off t ws ps)) H')))
theorem nums_ints : ∀ {ds : List PyData}, (∀ d ∈ ds, isNum d = true) → ∃ ns : List Int, ds = dInts ns
  | [], _ => ⟨[], rfl⟩
  | d :: ds, h => by
    obtain ⟨ns, rfl⟩ := nums_ints fun x hx => h x (List.mem_cons_of_mem _ hx)
    have hd := h d List.mem_cons_self
    cases d with
    | int i => exact ⟨i :: ns, rfl⟩
    | _ => exact nomatch (show false = true from hd)
theorem ints_at {H : Hp} {ns : List Int} : ∀ {xs : List V}, DpAll K H xs (dInts ns) → xs = ns.map V.int := by
  induction ns with
  | nil => intro xs h; exact DpAll.nil_inv h
  | cons n ns ih =>
    intro xs h
    obtain ⟨x, r, rfl, h1, t⟩ := DpAll.cons_inv h
    rw [Dp.int_inv h1, ih t]
    rfl
theorem ok_ls {C f fI fTu fN fC fR fLc fLr : Addr} {fd fdI fdTu fdN fdC fdR fdLc fdLr : FuncData} (F : Fun K "lets_split" "lets_split" sLs f fd)
    (TNp : OexC K C) (iCNp : PySem.W.findIn K (.ref C) "__init__" = some (some (.ref fI))) (tINp : PySem.W.typeIn K (.ref fI) = some (.type "function"))
    (GINp : FnOk P w K mg base CX0 1 fI fdI ["self", "word", "at"] (spIn K C)) (bINp : Binds K fdI ["self", "word", "at"] []) (gNp : mg "NoPaper" = some (.ref C))
    (GTu : FnOk P w K mg base CX0 1 fTu fdTu ["thing", "many"] (spTup K isTup)) (kTu : PySem.W.keepIn K (.ref fTu) = true) (bTu : Binds K fdTu ["thing", "many"] []) (gTu : mg "is_tuple_of" = some (.ref fTu))
    (GN : FnOk P w K mg base CX0 1 fN fdN ["thing"] (spKind K isNum)) (kN : PySem.W.keepIn K (.ref fN) = true) (bN : Binds K fdN ["thing"] []) (gN : mg "is_number" = some (.ref fN))
    (GC : FnOk P w K mg base CX0 1 fC fdC ["total", "weights"] (spL K lows)) (kC : PySem.W.keepIn K (.ref fC) = true) (bC : Binds K fdC ["total", "weights"] []) (gC : mg "cuts" = some (.ref fC))
    (GR : FnOk P w K mg base CX0 2 fR fdR ["total", "weights"] (spL K rsts)) (kR : PySem.W.keepIn K (.ref fR) = true) (bR : Binds K fdR ["total", "weights"] []) (gR : mg "rests" = some (.ref fR))
    (GLc : FnOk P w K mg base (L2.CX P w) 3 fLc fdLc ["lows", "parts"] (spLc K C)) (kLc : PySem.W.keepIn K (.ref fLc) = true) (bLc : Binds K fdLc ["lows", "parts"] []) (gLc : mg "look_at_cuts" = some (.ref fLc))
    (GLr : FnOk P w K mg base (L2.CX P w) 3 fLr fdLr ["lows", "left", "parts"] (spLr K C)) (kLr : PySem.W.keepIn K (.ref fLr) = true) (bLr : Binds K fdLr ["lows", "left", "parts"] []) (gLr : mg "look_at_rests" = some (.ref fLr))
    (m_len : mg "len" = none) (m_enumerate : mg "enumerate" = none) (m_sum : mg "sum" = none) (m_zip : mg "zip" = none) (m_abs : mg "abs" = none) :
    FnOk P w K mg base (L2.CX P w) 4 f fd ["total", "weights", "thing"] (spLs K C) := by
  refine F.okX scLs (fun vs H Q E h => ?_) (fun cdv A outer s H vs Q E hr h => ?_)
  · obtain ⟨a, v, t, ws, d, rfl, _⟩ := h
    rfl
  · obtain ⟨a, v, t, ws, d, rfl, hA, ok, hd, rShape, rNum, rest⟩ := h
    refine ⟨_, (pss_cons (ps_if (pt_not (pt_val (pe_call GTu (hr.mono (by decide)) (by rfl) gTu kTu bTu .nil pass0 (pa_cons (pv 2) (pa_cons (pe_callB call_len_seq (by rfl) m_len (by decide +kernel) (pa_cons (pv 1) pa_nil)) pa_nil))))) (pss_one (ps_raise rfl (takes_of rfl rfl rfl rfl) (pmk_oex TNp iCNp tINp GINp (hr.mono (by decide)) bINp .nil pass0 (by rfl) gNp (pa_cons pe_str (pa_cons (pe_un un_neg pe_int) pa_nil))))) pss_nil)
      (pss_cons (ps_for (passes_of rfl) rfl (pi_enumT (by rfl) m_enumerate (pa_cons (pv 2) pa_nil)) (pg_tup rfl (pgs_cons (pg_name (i := 3) scLs.nd rfl (.inl rfl)) (pgs_cons (pg_name (i := 4) scLs.nd rfl (.inl rfl)) pgs_nil))) (pss_one (ps_if (pt_not (pt_val (pe_call GN (hr.mono (by decide)) (by rfl) gN kN bN .nil pass0 (pa_cons (pv 4) pa_nil)))) (pss_one (ps_raise rfl (takes_of rfl rfl rfl rfl) (pmk_oex TNp iCNp tINp GINp (hr.mono (by decide)) bINp .nil pass0 (by rfl) gNp (pa_cons pe_str (pa_cons (pv 3) pa_nil))))) pss_nil)))
      (pss_cons (ps_if (pt_cmpR op_ne (pe_callB (call_sumT rfl) (by rfl) m_sum (by decide +kernel) (pa_cons (pv 2) pa_nil)) (pv 0) (nomark _)) (pss_one (ps_raise rfl (takes_of rfl rfl rfl rfl) (pmk_oex TNp iCNp tINp GINp (hr.mono (by decide)) bINp .nil pass0 (by rfl) gNp (pa_cons pe_str (pa_cons (pe_un un_neg pe_int) pa_nil))))) pss_nil)
      (pss_cons (ps_expr (pe_call GLc (hr.mono (by decide)) (by rfl) gLc kLc bLc .nil (passes_call (takes_of rfl rfl rfl rfl) (fun _ _ _ _ h => h)) (pa_cons (pe_call GC (hr.mono (by decide)) (by rfl) gC kC bC .nil pass0 (pa_cons (pv 0) (pa_cons (pv 1) pa_nil))) (pa_cons (pv 2) pa_nil))))
      (pss_cons (ps_expr (pe_call GLr (hr.mono (by decide)) (by rfl) gLr kLr bLr .nil (passes_call (takes_of rfl rfl rfl rfl) (fun _ _ _ _ h => h)) (pa_cons (pe_call GC (hr.mono (by decide)) (by rfl) gC kC bC .nil pass0 (pa_cons (pv 0) (pa_cons (pv 1) pa_nil))) (pa_cons (pe_call GR (hr.mono (by decide)) (by rfl) gR kR bR .nil pass0 (pa_cons (pv 0) (pa_cons (pv 1) pa_nil))) (pa_cons (pv 2) pa_nil)))))
      (pss_cons (ps_set (i := 5) scLs.nd rfl (.inr rfl) (pe_callB (call_sumT rfl) (by rfl) m_sum (by decide +kernel) (pa_cons (pv 1) pa_nil)))
      (pss_one (ps_ret (pe_callB (cr_sum rfl) (by rfl) m_sum (by decide +kernel) (pa_cons (pe_lc (own := [("weight", 6), ("part", 4)]) (g := gTup K 2 (gCons (gName 6) (gCons (gName 4) gNil))) (tt := tYes) rfl scLs.nd (RZ.pi_zipA (by rfl) m_zip (pa_cons (pv 1) (pa_cons (pv 2) pa_nil))) (blkOk_by (own := [("weight", 6), ("part", 4)]) (N := ["total", "weights", "thing", "at", "part", "whole", "weight"]) (sc := defScope sLs) (by decide +kernel)) (fun _ _ _ _ _ => (pg_tup rfl (pgs_cons (pg_name (i := 6) scLs.nd rfl (.inl rfl)) (pgs_cons (pg_name (i := 4) scLs.nd rfl (.inl rfl)) pgs_nil)))) (fun _ _ _ _ _ => pts_nil) (fun _ _ _ _ _ => (pe_callB call_abs (by rfl) m_abs (by decide +kernel) (pa_cons (pe_op op_sub (pe_op op_mul (pv 4) (pv 5)) (pe_op op_mul (pv 0) (pv 6))) pa_nil)))) pa_nil)))))))))), ?_⟩
    have n1 := ok.n1
    refine ⟨_, rfl, _, rfl, a, _, rfl, .inr hA, v, d, ((ws.map V.int).length : Int), rfl, by rw [List.length_map]; omega, hd, fun H1 s1 => ⟨_, rfl, ?_⟩⟩
    rw [List.length_map]
    change ite _ _ _
    refine ite2 (fun c => ?_) (fun c => ?_)
    · refine ⟨1, rfl, by show (2 : Nat) ≤ 1000; decide, fun e ne => ?_⟩
      refine made ne ((rShape ?_).same s1)
      cases z : isTup ws.length d with
      | false => rfl
      | true => rw [z] at c; cases c
    have tp : isTup ws.length d = true := by
      cases z : isTup ws.length d with
      | true => rfl
      | false => rw [z] at c; exact absurd rfl c
    cases d with
    | tuple ds =>
      have dl : ds.length = ws.length := by
        have : (ds.length : Int) = ws.length := of_decide_eq_true tp
        omega
      obtain ⟨p, xs, rfl, hp, dp⟩ := Dp.tup_inv hd
      have xl := DpAll.len dp
      have hp1 := TB.Same.tup s1 hp
      -- numbers
      refine ⟨_, rfl, p, _, rfl, hp1, ?_⟩
      refine for_it (walk_ET (xs := xs)) (fun i σ H2 => ∃ y3 y4, σ = [some (.int t), some (.ref a), some (.ref p), y3, y4, none, none] ∧ Same H1 H2 ∧ ∀ (j : Nat) (dj : PyData), j < i → ds[j]? = some dj → isNum dj = true) ⟨_, _, rfl, Same.refl _, fun j dj hj => absurd hj (Nat.not_lt_zero _)⟩ ?_ ?_ ?_
      · rintro i σ H2 _ ⟨y3, y4, rfl, sm, _⟩
        exact TB.Same.tup sm hp1
      · rintro i x σ H2 H3 hi ⟨y3, y4, rfl, sm, al⟩ ⟨T, u, v, rfl, nT, rfl, hu, hv⟩
        obtain rfl := Option.some.inj hu
        obtain ⟨di, hdi, dv⟩ := DpAll.get dp hv
        have sT := same_upd (o := .tup [.int (i : Nat), v]) nT
        have s3 := s1.trans (sm.trans sT)
        refine ⟨T, _, rfl, .inl (.inl upd_same), rfl, _, _, rfl, _, _, rfl, rfl, ?_⟩
        refine ⟨_, rfl, v, di, rfl, Dp.same s3 _ _ dv, fun H4 s4 => ⟨_, rfl, ?_⟩⟩
        change ite _ _ _
        refine ite2 (fun c2 => ?_) (fun c2 => ?_)
        · refine ⟨_, rfl, by show (2 : Nat) ≤ 1000; decide, fun e ne => ?_⟩
          refine made ne ((rNum ds i di rfl dl hdi ?_ al).same (s3.trans s4))
          cases z : isNum di with
          | false => rfl
          | true => rw [z] at c2; cases c2
        · refine ⟨_, _, rfl, (sm.trans sT).trans s4, fun j dj hj hdj => ?_⟩
          by_cases c3 : j < i
          · exact al j dj c3 hdj
          · obtain rfl : j = i := by omega
            obtain rfl := Option.some.inj (hdi.symm.trans hdj)
            cases z : isNum di with
            | true => rfl
            | false => rw [z] at c2; exact absurd rfl c2
      rintro σ H2 ⟨y3, y4, rfl, s2, al⟩
      obtain ⟨ps, rfl⟩ := nums_ints (ds := ds) fun d hd => by
        obtain ⟨j, hj⟩ := List.mem_iff_getElem?.mp hd
        exact al j d (by have := (List.getElem?_eq_some_iff.mp hj).1; omega) hj
      obtain rfl := ints_at dp
      have pl : ps.length = ws.length := by
        unfold dInts at dl
        rw [List.length_map] at dl
        exact dl
      obtain ⟨rSum, rGo⟩ := rest ps rfl pl
      have s02 := s1.trans s2
      have hp2 := TB.Same.tup s2 hp1
      refine ⟨_, rfl, p, ps, rfl, hp2, _, rfl, rfl, _, rfl, ?_⟩
      change ite _ _ _
      refine ite2 (fun c2 => ?_) (fun c2 => ?_)
      · refine ⟨1, rfl, by show (2 : Nat) ≤ 1000; decide, fun e ne => ?_⟩
        refine made ne ((rSum fun z => ?_).same s02)
        rw [z, decide_eq_true rfl] at c2
        cases c2
      have es : ps.sum = t := by
        refine V.int.inj (Decidable.byContradiction fun y => c2 ?_)
        rw [decide_eq_false y]
        rfl
      obtain ⟨rCut, rRest, q⟩ := rGo es
      have ll := lows_len t ws
      have rl := rsts_len t ws
      -- cuts
      refine ⟨_, rfl, _, rfl, a, t, ws, rfl, TB.Same.tup s02 hA, ok, fun H3 x s3 nx ex => ?_⟩
      have s03 := s02.trans s3
      refine ⟨_, rfl, x, p, lows t ws, ps, rfl, .inl (.inl ex), TB.Same.tup s3 hp2, by omega, by omega, fun allC H4 s4 => ?_, fun i hi hb hj => (rCut i hi hb hj).same s03⟩
      have s04 := s03.trans s4
      -- rests
      refine ⟨_, rfl, _, rfl, a, t, ws, rfl, TB.Same.tup s04 hA, ok, fun H5 y s5 ny ey => ?_⟩
      have s05 := s04.trans s5
      refine ⟨_, rfl, _, rfl, a, t, ws, rfl, TB.Same.tup s05 hA, ok, fun H6 z s6 nz ez => ?_⟩
      have s06 := s05.trans s6
      refine ⟨_, rfl, y, z, p, lows t ws, rsts t ws, ps, rfl, .inl (.inl (s6 _ _ ey)), .inl (.inl ez), TB.Same.tup ((s3.trans s4).trans (s5.trans s6)) hp2, by omega, by omega, by omega, fun allR H7 s7 => ?_, fun i hi hb hj => (rRest allC i hi hb hj).same s06⟩
      have s07 := s06.trans s7
      -- off
      refine ⟨_, rfl, a, ws, rfl, TB.Same.tup s07 hA, ?_⟩
      have hA7 := TB.Same.tup s07 hA
      have hp7 : SqT K H7 p (ps.map V.int) := TB.Same.tup (((s3.trans s4).trans (s5.trans s6)).trans s7) hp2
      refine ⟨_, rfl, _, rfl, a, p, _, _, rfl, .inr ⟨hA7, hp7, fun D nD => ?_⟩⟩
      refine lc_it (walk_zT (xs := ws.map V.int) (ys := ps.map V.int) (n := ws.length) (by rw [List.length_map, List.length_map]; omega)) (fun i H8 => Same H7 H8 ∧ H8 D = some (.lst ((offL t ws ps ws.sum i).map V.int))) ⟨same_upd nD, upd_same⟩ ?_ ?_ ?_
      · rintro i H8 _ ⟨sm, _⟩
        exact ⟨TB.Same.tup sm hA7, TB.Same.tup sm hp7⟩
      · rintro i x H8 H9 hi ⟨sm, eD⟩ ⟨T, u, v, rfl, nT, rfl, hu, hv⟩
        obtain rfl := Option.some.inj ((gInt hi).symm.trans hu)
        obtain rfl := Option.some.inj ((gInt (by omega)).symm.trans hv)
        have sT := same_upd (o := .tup [.int (ws.getD i 0), .int (ps.getD i 0)]) nT
        have sw := sum_ok ok
        refine ⟨T, _, rfl, .inl (.inl upd_same), rfl, _, _, rfl, _, _, rfl, rfl, rfl, yes (iteT ?_)⟩
        refine ⟨_, rfl, _, rfl, _, _, rfl, rfl, .inr ⟨by omega, by omega⟩, _, rfl, _, rfl, _, _, rfl, rfl, .inl (mul_ok (w := 0) ok), _, _, rfl, rfl, _, rfl, ?_⟩
        refine ⟨_, sT _ _ eD, ?_, same_new nD (sm.trans sT), ?_⟩
        · rw [List.length_map]
          unfold offL
          rw [List.length_map, List.length_range]
          exact small1000 (by omega)
        · rw [upd_same]
          unfold offL
          rw [List.range_succ, List.map_append, List.map_append]
          rfl
      · rintro H8 ⟨sm, eD⟩
        exact ⟨D, _, rfl, .inl (.inl eD), q ⟨allC, allR⟩ H8 (s07.trans sm)⟩
    | _ => exact nomatch (show false = true from tp)
end
end K10

set_option Elab.async false
set_option linter.all false
set_option maxRecDepth 100000
set_option maxHeartbeats 1000000
namespace K09
open PySem PySem.Spec PyProof.Rows L2 TB
/-! ### pairs of a rest and its place -/
def keyOf (H : Hp) : V → Int × Int
  | .ref T => match H T with
    | some (.tup [.int i, .int j]) => (i, j)
    | _ => (0, 0)
  | _ => (0, 0)
theorem keyOf_at {H : Hp} {T : Addr} {i j : Int} (h : H T = some (.tup [.int i, .int j])) : keyOf H (.ref T) = (i, j) := by
  simp only [keyOf, h]
structure Prs (H : Hp) (us : List V) (rs : List Int) : Prop where
  len : us.length = rs.length
  at_ : ∀ (j : Nat) (r : Int), rs[j]? = some r → ∃ T : Addr, us[j]? = some (.ref T) ∧ H T = some (.tup [.int (-r), .int (j : Int)])
theorem Prs.mem {H : Hp} {us : List V} {rs : List Int} (h : Prs H us rs) {x : V} (hx : x ∈ us) : ∃ (T : Addr) (r : Int) (j : Nat), x = .ref T ∧ rs[j]? = some r ∧ H T = some (.tup [.int (-r), .int (j : Int)]) := by
  obtain ⟨j, hj⟩ := List.mem_iff_getElem?.mp hx
  have jl : j < rs.length := by
    rw [← h.len]
    exact (List.getElem?_eq_some_iff.mp hj).1
  obtain ⟨T, e, f⟩ := h.at_ j _ (List.getElem?_eq_getElem jl)
  exact ⟨T, _, j, Option.some.inj (hj.symm.trans e), List.getElem?_eq_getElem jl, f⟩
theorem getD_at {rs : List Int} {j : Nat} {r : Int} (h : rs[j]? = some r) : rs.getD j 0 = r := by
  rw [List.getD_eq_getElem?_getD, h]
  rfl
theorem pairs_sorted {H : Hp} {us ys : List V} {rs : List Int} (h : Prs H us rs) (s : SrtO.Srtd (ltP (keyOf H)) ys) (b : SrtO.Stb (ltP (keyOf H)) ys us) :
    ys.length = rs.length ∧ ∀ (i a : Nat), (ats rs)[i]? = some a → ∃ (T : Addr) (r : Int), ys[i]? = some (.ref T) ∧ rs[a]? = some r ∧ H T = some (.tup [.int (-r), .int (a : Int)]) := by
  have yl : ys.length = rs.length := by rw [b.perm.length_eq, h.len]
  have eu : us.map (fun y => (keyOf H y).2.toNat) = List.range rs.length := by
    refine List.ext_getElem? fun j => ?_
    by_cases hj : j < rs.length
    · obtain ⟨T, e, f⟩ := h.at_ j _ (List.getElem?_eq_getElem hj)
      rw [List.getElem?_map, e, List.getElem?_range hj]
      show some (keyOf H (.ref T)).2.toNat = _
      rw [keyOf_at f]
      simp
    · rw [List.getElem?_eq_none (by rw [List.length_map, h.len]; omega), List.getElem?_eq_none (by rw [List.length_range]; omega)]
  have pr : (ys.map fun y => (keyOf H y).2.toNat).Perm (List.range rs.length) := by
    rw [← eu]
    exact b.perm.map _
  have so : (ys.map fun y => (keyOf H y).2.toNat).Pairwise fun a b => leR rs a b = true := by
    rw [List.pairwise_map]
    refine List.Pairwise.imp_of_mem (fun {x y} hx hy hs => ?_) s
    obtain ⟨T, r, j, rfl, hr, eT⟩ := h.mem (b.perm.mem_iff.mp hx)
    obtain ⟨T', r', j', rfl, hr', eT'⟩ := h.mem (b.perm.mem_iff.mp hy)
    have hs' : SrtO.lexB (keyOf H (.ref T')) (keyOf H (.ref T)) = false := hs
    rw [keyOf_at eT, keyOf_at eT'] at hs'
    have := SrtO.lexB_no.mp hs'
    rw [keyOf_at eT, keyOf_at eT', leR_iff]
    show rs.getD (j' : Int).toNat 0 < rs.getD (j : Int).toNat 0 ∨ _
    rw [Int.toNat_natCast, Int.toNat_natCast, getD_at hr, getD_at hr']
    simp only at this
    omega
  have ea := ats_eq pr so
  refine ⟨yl, fun i a hi => ?_⟩
  rw [ea, List.getElem?_map] at hi
  cases e : ys[i]? with
  | none => rw [e] at hi; cases hi
  | some y =>
    rw [e] at hi
    have hi' := Option.some.inj hi
    obtain ⟨T, r, j, rfl, hr, eT⟩ := h.mem (b.perm.mem_iff.mp (List.mem_of_getElem? e))
    have hi' : (keyOf H (.ref T)).2.toNat = a := hi'
    rw [keyOf_at eT] at hi'
    obtain rfl : j = a := by simpa using hi'
    exact ⟨T, r, rfl, hr, eT⟩
theorem cut_take (xs : List V) (n : Nat) : cutV xs none (some (n : Int)) = xs.take n := by
  have e : HT.sIx xs.length xs.length (some (n : Int)) = min n xs.length := by
    show (if (n : Int) < 0 then ((n : Int) + xs.length).toNat else min (n : Int).toNat xs.length) = _
    rw [if_neg (by omega), Int.toNat_natCast]
  unfold cutV
  rw [e, HT.sIx_none, List.drop_zero, Nat.sub_zero]
  by_cases c : n ≤ xs.length
  · rw [Nat.min_eq_left c]
  · rw [Nat.min_eq_right (by omega), List.take_length, List.take_of_length_le (by omega)]
theorem but_new {H H1 H2 : Hp} {p : Addr} (n : H p = none) (s : Same H H1) (b : But p H1 H2) : Same H H2 := fun c o e => b c o (ne_of_none e n) (s c o e)
end K09

set_option Elab.async false
set_option linter.all false
set_option maxRecDepth 100000
set_option maxHeartbeats 2000000
namespace K10
open PySem PySem.Spec PyProof.Rows L2 TB K09

theorem scPa : FnScope ["_law_total_here", "_law_weights_here", "_law_entire", "_law_low", "_law_left", "_law_told", "_law_turn", "_law_own", "_law_bar", "_law_weight", "_law_k"] ["_law_total_here", "_law_weights_here"] (defScope sPa) := ⟨rfl, rfl, rfl, by decide +kernel, rfl, by decide +kernel, by decide +kernel⟩
/-! ### the next one by the law -/
def ownL (n : Nat) (S : List Nat) : List Nat := (List.range n).filter fun k => decide (k ∉ S)
theorem ownL_mem {n : Nat} {S : List Nat} {k : Nat} : k ∈ ownL n S ↔ k < n ∧ k ∉ S := by
  unfold ownL
  rw [List.mem_filter, List.mem_range, decide_eq_true_iff]
theorem ownL_len (n : Nat) (S : List Nat) : (ownL n S).length ≤ n := by
  unfold ownL
  exact Nat.le_trans (List.length_filter_le _ _) (by rw [List.length_range]; exact Nat.le_refl _)
theorem ownL_up (n : Nat) (S : List Nat) : (ownL n S).Pairwise (· < ·) := List.Pairwise.filter _ List.pairwise_lt_range
theorem first_least {l : List Nat} {a : Nat} (h : l.Pairwise (· < ·)) (m : a ∈ l) (le : ∀ k ∈ l, a ≤ k) : l[0]? = some a := by
  cases l with
  | nil => cases m
  | cons x xs =>
    rcases List.mem_cons.mp m with rfl | m
    · rfl
    · have := (List.pairwise_cons.mp h).1 a m
      have := le x List.mem_cons_self
      omega
theorem own_pick {rs : List Int} {i a : Nat} (e : (ats rs)[i]? = some a) :
    a ∈ ownL rs.length ((ats rs).take i) ∧ (∀ k ∈ ownL rs.length ((ats rs).take i), rs.getD k 0 ≤ rs.getD a 0) ∧
    ((ownL rs.length ((ats rs).take i)).filter fun k => decide (rs.getD k 0 = rs.getD a 0))[0]? = some a := by
  have am : a ∈ ownL rs.length ((ats rs).take i) := ownL_mem.mpr ⟨ats_lt (List.mem_of_getElem? e), take_not (ats_nodup rs) e⟩
  have le : ∀ k ∈ ownL rs.length ((ats rs).take i), leR rs a k = true := fun k hk => by
    obtain ⟨k1, k2⟩ := ownL_mem.mp hk
    exact ats_first e k1 k2
  refine ⟨am, fun k hk => ?_, first_least (List.Pairwise.filter _ (ownL_up _ _)) (List.mem_filter.mpr ⟨am, decide_eq_true rfl⟩) fun k hk => ?_⟩
  · have := leR_iff.mp (le k hk)
    omega
  · obtain ⟨k1, k2⟩ := List.mem_filter.mp hk
    have := leR_iff.mp (le k k1)
    have k3 : rs.getD k 0 = rs.getD a 0 := of_decide_eq_true k2
    omega
theorem filt_more {α β : Type} {p : α → Bool} {f : α → β} {xs : List α} {i : Nat} {x : α} (h : xs[i]? = some x) : ((xs.take (i + 1)).filter p).map f = ((xs.take i).filter p).map f ++ (if p x = true then [f x] else []) := by
  rw [take_more h, List.filter_append, List.map_append]
  congr 1
  by_cases c : p x = true
  · rw [if_pos c, List.filter_cons, if_pos c]
    rfl
  · rw [if_neg c, List.filter_cons, if_neg c]
    rfl
theorem ownL_more (n : Nat) (S : List Nat) (f : Nat → V) : (ownL (n + 1) S).map f = (ownL n S).map f ++ if n ∉ S then [f n] else [] := by
  unfold ownL
  rw [List.range_succ, List.filter_append, List.map_append]
  congr 1
  by_cases c : n ∈ S
  · rw [if_neg (by simp [c]), List.filter_cons, if_neg (by simp [c])]
    rfl
  · rw [if_pos c, List.filter_cons, if_pos (decide_eq_true c)]
    rfl
section
variable {P : Program} {w : World} {K : PySem.W.Frag} {mg : Str → Option Value} {base : Heap}
/-! ### _law_parts -/
def spPa (K : PySem.W.Frag) : Sp := fun vs H Q _ => ∃ (a : Addr) (t : Int) (ws : List Int), vs = [.int t, .ref a] ∧ SqT K H a (ws.map V.int) ∧ OkW t ws ∧
  ∀ (H' : Hp) (r x y z : Addr), Same H H' → H' r = some (.tup [.ref x, .ref y, .ref z]) → H' x = some (.lst ((lows t ws).map V.int)) → H' y = some (.lst ((rsts t ws).map V.int)) → H' z = some (.lst ((parts t ws).map V.int)) → Q (.ref r) H'
theorem ok_pa {f : Addr} {fd : FuncData} {k : Nat} (F : Fun K "_law_parts" "_law_parts" sPa f fd)
    (m_sum : mg "sum" = none) (m_zip : mg "zip" = none) (m_list : mg "list" = none) (m_range : mg "range" = none) (m_len : mg "len" = none) (m_max : mg "max" = none) : FnOk P w K mg base CX0 (k + 1) f fd ["_law_total_here", "_law_weights_here"] (spPa K) := by
  refine F.ok scPa (fun vs H Q E h => ?_) (fun cdv A outer s H vs Q E hr h => ?_)
  · obtain ⟨a, t, ws, rfl, _⟩ := h
    rfl
  · obtain ⟨a, t, ws, rfl, hA, ok, q⟩ := h
    refine ⟨_, (pss_cons (ps_set (i := 2) scPa.nd rfl (.inr rfl) (pe_callB (call_sumT rfl) (by rfl) m_sum (by decide +kernel) (pa_cons (pv 1) pa_nil)))
      (pss_cons (ps_set (i := 3) scPa.nd rfl (.inr rfl) (pe_lc (own := [("_law_weight", 9)]) (g := gName 9) (tt := tYes) rfl scPa.nd (pi_tup (pv 1)) (blkOk_by (own := [("_law_weight", 9)]) (N := ["_law_total_here", "_law_weights_here", "_law_entire", "_law_low", "_law_left", "_law_told", "_law_turn", "_law_own", "_law_bar", "_law_weight", "_law_k"]) (sc := defScope sPa) (by decide +kernel)) (fun _ _ _ _ _ => (pg_name (i := 9) scPa.nd rfl (.inl rfl))) (fun _ _ _ _ _ => pts_nil) (fun _ _ _ _ _ => (pe_op op_fdivW (pe_op op_mul (pv 0) (pv 9)) (pv 2)))))
      (pss_cons (ps_set (i := 4) scPa.nd rfl (.inr rfl) (pe_lc (own := [("_law_weight", 9), ("_law_own", 7)]) (g := gTup K 2 (gCons (gName 9) (gCons (gName 7) gNil))) (tt := tYes) rfl scPa.nd (pi_zipTL (by rfl) m_zip (pa_cons (pv 1) (pa_cons (pv 3) pa_nil))) (blkOk_by (own := [("_law_weight", 9), ("_law_own", 7)]) (N := ["_law_total_here", "_law_weights_here", "_law_entire", "_law_low", "_law_left", "_law_told", "_law_turn", "_law_own", "_law_bar", "_law_weight", "_law_k"]) (sc := defScope sPa) (by decide +kernel)) (fun _ _ _ _ _ => (pg_tup rfl (pgs_cons (pg_name (i := 9) scPa.nd rfl (.inl rfl)) (pgs_cons (pg_name (i := 7) scPa.nd rfl (.inl rfl)) pgs_nil)))) (fun _ _ _ _ _ => pts_nil) (fun _ _ _ _ _ => (pe_op op_sub (pe_op op_mul (pv 0) (pv 9)) (pe_op op_mul (pv 7) (pv 2))))))
      (pss_cons (ps_set (i := 5) scPa.nd rfl (.inr rfl) (pe_callTy call_list_of (by rfl) m_list (by decide +kernel) (pa_cons (pv 3) pa_nil)))
      (pss_cons (ps_for PassesOwn.never rfl (pi_range1 (by rfl) m_range (pa_cons (pe_op op_sub (pv 0) (pe_callB (cr_sum rfl) (by rfl) m_sum (by decide +kernel) (pa_cons (pv 3) pa_nil))) pa_nil)) (pg_name (i := 6) scPa.nd rfl (.inl rfl)) (pss_cons (ps_setLc (i := 7) (own := [("_law_k", 10)]) (g := gName 10) (tt := tTest (tOp rEq (tOp (rIxL K) (tVar 5) (tVar 10)) (tOp (rIxL K) (tVar 3) (tVar 10)))) rfl scPa.nd rfl rfl (sw_true rfl rfl rfl (by decide +kernel)) (pi_range1 (by rfl) m_range (pa_cons (pe_callB call_len_seq (by rfl) m_len (by decide +kernel) (pa_cons (pv 3) pa_nil)) pa_nil)) (blkOk_by (own := [("_law_k", 10)]) (N := ["_law_total_here", "_law_weights_here", "_law_entire", "_law_low", "_law_left", "_law_told", "_law_turn", "_law_own", "_law_bar", "_law_weight", "_law_k"]) (sc := defScope sPa) (by decide +kernel)) (fun _ _ _ _ _ => (pg_name (i := 10) scPa.nd rfl (.inl rfl))) (fun _ _ _ _ _ => (pts_one (pt_cmpR op_eq (pe_ix ix_list (pv 5) (pv 10) (fun _ _ => rfl)) (pe_ix ix_list (pv 3) (pv 10) (fun _ _ => rfl)) (nomark _)))) (fun _ _ _ _ _ => (pv 10)))
      (pss_cons (ps_set (i := 8) scPa.nd rfl (.inr rfl) (pe_callB (cr_max rfl) (by rfl) m_max (by decide +kernel) (pa_cons (pe_lc (own := [("_law_k", 10)]) (g := gName 10) (tt := tYes) (te := tOp (rIxL K) (tVar 4) (tVar 10)) rfl scPa.nd (pi_list (pv 7)) (blkOk_by (own := [("_law_k", 10)]) (N := ["_law_total_here", "_law_weights_here", "_law_entire", "_law_low", "_law_left", "_law_told", "_law_turn", "_law_own", "_law_bar", "_law_weight", "_law_k"]) (sc := defScope sPa) (by decide +kernel)) (fun _ _ _ _ _ => (pg_name (i := 10) scPa.nd rfl (.inl rfl))) (fun _ _ _ _ _ => pts_nil) (fun _ _ _ _ _ => (pe_ix ix_list (pv 4) (pv 10) (fun _ _ => rfl)))) pa_nil)))
      (pss_one (ps_augS (pv 5) (pe_ix ix_list (pe_lc (own := [("_law_k", 10)]) (g := gName 10) (tt := tTest (tOp rEq (tOp (rIxL K) (tVar 4) (tVar 10)) (tVar 8))) rfl scPa.nd (pi_list (pv 7)) (blkOk_by (own := [("_law_k", 10)]) (N := ["_law_total_here", "_law_weights_here", "_law_entire", "_law_low", "_law_left", "_law_told", "_law_turn", "_law_own", "_law_bar", "_law_weight", "_law_k"]) (sc := defScope sPa) (by decide +kernel)) (fun _ _ _ _ _ => (pg_name (i := 10) scPa.nd rfl (.inl rfl))) (fun _ _ _ _ _ => (pts_one (pt_cmpR op_eq (pe_ix ix_list (pv 4) (pv 10) (fun _ _ => rfl)) (pv 8) (nomark _)))) (fun _ _ _ _ _ => (pv 10))) pe_int (fun _ _ => rfl)) get_list pe_int ip_add set_list)))))
      (pss_one (ps_ret (pe_tup (pa_cons (pv 3) (pa_cons (pv 4) (pa_cons (pv 5) pa_nil))))))))))), ?_⟩
    obtain ⟨eo, lo⟩ := odd_at ok
    have n1 := ok.n1
    have ll := lows_len t ws
    have rl := rsts_len t ws
    have t1 := ok.t1
    refine ⟨_, rfl, a, ws, rfl, hA, ?_⟩
    -- low
    refine ⟨_, rfl, a, rfl, ⟨_, hA⟩, fun Lo nLo => ?_⟩
    refine lc_tup (xs := ws.map V.int) (fun i H1 => Same H H1 ∧ H1 Lo = some (.lst (((ws.take i).map fun w => t * w / ws.sum).map V.int))) ⟨same_upd nLo, upd_same⟩ ?_ ?_ ?_
    · rintro i H1 _ ⟨sm, _⟩
      exact TB.Same.tup sm hA
    · rintro i x H1 hx ⟨sm, eD⟩
      obtain ⟨w, hw, rfl⟩ := map_int hx
      refine ⟨rfl, yes (iteT ?_)⟩
      refine ⟨_, rfl, _, rfl, _, _, rfl, rfl, .inl (mul_ok (w := w) ok), _, rfl, _, _, rfl, rfl, wide_div (b := 60) ok.s0 (sum_ok ok) (by omega) (by omega), ?_⟩
      refine ⟨_, eD, ?_, same_new nLo sm, ?_⟩
      · rw [List.length_map, List.length_map]
        have := List.length_take_le' i ws
        exact small1000 (by omega)
      · rw [upd_same, map_take_more hw, List.map_append]
        rfl
    rintro H1 ⟨s1, eLo⟩
    rw [List.length_map, List.take_length] at eLo
    have eLo : H1 Lo = some (.lst ((lows t ws).map V.int)) := eLo
    show tSeq _ _ _ [some (.int t), some (.ref a), some (.int ws.sum), some (.ref Lo), none, none, none, none, none, none, none] _
    -- left
    refine ⟨_, rfl, _, rfl, a, Lo, _, _, rfl, TB.Same.tup s1 hA, .inl (.inl eLo), fun Le nLe => ?_⟩
    refine lc_it (walk_TL (xs := ws.map V.int) (ys := (lows t ws).map V.int) (n := ws.length) (by rw [List.length_map, List.length_map, ll]; omega)) (fun i H2 => Same H1 H2 ∧ H2 Le = some (.lst (((ws.take i).map fun w => t * w - t * w / ws.sum * ws.sum).map V.int))) ⟨same_upd nLe, upd_same⟩ ?_ ?_ ?_
    · rintro i H2 _ ⟨sm, _⟩
      exact ⟨TB.Same.tup (s1.trans sm) hA, .inl (.inl (sm _ _ eLo))⟩
    · rintro i x H2 H3 hi ⟨sm, eD⟩ ⟨T, u, v, rfl, nT, rfl, hu, hv⟩
      obtain ⟨w, hw, rfl⟩ := map_int hu
      obtain ⟨c, hc, rfl⟩ := map_int hv
      obtain rfl := Option.some.inj ((low_get hw).symm.trans hc)
      have lb := low_bound ok (List.mem_of_getElem? hw)
      refine ⟨T, _, rfl, .inl (.inl upd_same), rfl, _, _, rfl, _, _, rfl, rfl, rfl, yes (iteT ?_)⟩
      refine ⟨_, rfl, _, rfl, _, _, rfl, rfl, .inl (mul_ok (w := w) ok), _, rfl, _, rfl, _, _, rfl, rfl, .inl ⟨by omega, by omega⟩, _, _, rfl, rfl, ?_⟩
      have sT := same_upd (o := .tup [.int w, .int (t * w / ws.sum)]) nT
      refine ⟨_, sT _ _ eD, ?_, same_new nLe (sm.trans sT), ?_⟩
      · rw [List.length_map, List.length_map]
        have := List.length_take_le' i ws
        exact small1000 (by omega)
      · rw [upd_same, map_take_more hw, List.map_append]
        rfl
    rintro H2 ⟨s2, eLe⟩
    rw [List.take_length] at eLe
    have eLe : H2 Le = some (.lst ((rsts t ws).map V.int)) := eLe
    have eLo2 := s2 _ _ eLo
    show tSeq _ _ _ [some (.int t), some (.ref a), some (.int ws.sum), some (.ref Lo), some (.ref Le), none, none, none, none, none, none] _
    -- told
    refine ⟨_, rfl, Lo, _, rfl, .inl (.inl (.inl eLo2)), fun To nTo => ?_⟩
    have s3 := same_upd (o := .lst ((lows t ws).map V.int)) nTo
    have eTo : (upd H2 To (.lst ((lows t ws).map V.int))) To = some (.lst ((lows t ws).map V.int)) := upd_same
    have nLoTo : Lo ≠ To := fun z => by
      rw [← z, eLo2] at nTo
      cases nTo
    have nLeTo : Le ≠ To := fun z => by
      rw [← z, eLe] at nTo
      cases nTo
    have nTo0 : H To = none := (s1.trans s2).free nTo
    generalize upd H2 To (.lst ((lows t ws).map V.int)) = H3 at *
    have eLo3 := s3 _ _ eLo2
    have eLe3 := s3 _ _ eLe
    show tSeq _ _ _ [some (.int t), some (.ref a), some (.int ws.sum), some (.ref Lo), some (.ref Le), some (.ref To), none, none, none, none, none] _
    refine ⟨_, rfl, _, rfl, Lo, lows t ws, rfl, .inl (.inl eLo3), _, _, rfl, rfl, ?_⟩
    refine ⟨_, rfl, by omega, by omega, ?_⟩
    rw [show (t - (lows t ws).sum) = (odd t ws : Int) from eo.symm]
    refine for_range (lo := 0) (n := (odd t ws : Int).toNat) (fun i σ H4 => ∃ y6 y7 y8, σ = [some (.int t), some (.ref a), some (.int ws.sum), some (.ref Lo), some (.ref Le), some (.ref To), y6, y7, y8, none, none] ∧ But To H3 H4 ∧ H4 To = some (.lst ((bump (lows t ws) ((ats (rsts t ws)).take i)).map V.int)))
      ⟨_, _, _, rfl, But.refl _ _, by rw [List.take_zero, bump_nil]; exact eTo⟩ ?_ ?_
    · rintro i σ H4 hi ⟨y6, y7, y8, rfl, k4, eTo4⟩
      rw [Int.toNat_natCast] at hi
      have eLo4 := k4 _ _ nLoTo eLo3
      have eLe4 := k4 _ _ nLeTo eLe3
      have il : i < (ats (rsts t ws)).length := by
        rw [ats_len]
        omega
      have ea := List.getElem?_eq_getElem il
      generalize (ats (rsts t ws))[i] = b at ea
      obtain ⟨bm, ble, bfi⟩ := own_pick ea
      rw [rl] at bm ble bfi
      have bl : b < ws.length := (ownL_mem.mp bm).1
      have nb := take_not (ats_nodup _) ea
      generalize hS : (ats (rsts t ws)).take i = S at *
      show tSeq _ _ _ [some (.int t), some (.ref a), some (.int ws.sum), some (.ref Lo), some (.ref Le), some (.ref To), some (.int (0 + (i : Int))), y7, y8, none, none] _
      -- own
      refine ⟨_, rfl, Lo, _, rfl, .inl (.inl (.inl eLo4)), ((((lows t ws).map V.int).length : Nat) : Int), rfl, by omega, by rw [List.length_map]; omega, fun D nD => ?_⟩
      refine lc_range (lo := 0) (n := ((((lows t ws).map V.int).length : Nat) : Int).toNat) (fun j H5 => Same H4 H5 ∧ H5 D = some (.lst ((ownL j S).map fun k : Nat => V.int (k : Int)))) ⟨same_upd nD, upd_same⟩ (fun j H5 hj hP => ?_) (fun H5 hP => ?_)
      · obtain ⟨sm, eD⟩ := hP
        rw [Int.toNat_natCast, List.length_map, ll] at hj
        have z0 : (0 : Int) + (j : Int) = j := Int.zero_add _
        have g1 : ((bump (lows t ws) S).map V.int)[j]? = some (.int ((lows t ws).getD j 0 + if j ∈ S then 1 else 0)) := by
          rw [List.getElem?_map, bump_get (by omega)]
          rfl
        refine ⟨rfl, ?_⟩
        refine ⟨_, rfl, _, rfl, To, _, _, _, rfl, rfl, .inl (.inl (sm _ _ eTo4)), (by rw [z0]; exact atI_nat g1), _, rfl, _, rfl, Lo, _, _, _, rfl, rfl, .inl (.inl (sm _ _ eLo4)), (by rw [z0]; exact atI_nat (gInt (by omega))), rfl, _, rfl, ite2 (fun c => ?_) (fun c => ?_)⟩
        · have c' := V.int.inj (of_decide_eq_true c)
          have nj : j ∉ S := fun z => by
            rw [if_pos z] at c'
            omega
          refine ⟨_, rfl, _, eD, ?_, same_new nD sm, ?_⟩
          · rw [List.length_map]
            have := ownL_len j S
            exact small1000 (by omega)
          · rw [upd_same, ownL_more, if_pos nj, z0]
        · have nj : ¬ j ∉ S := fun z => c (decide_eq_true (by rw [if_neg z, Int.add_zero]))
          refine ⟨sm, ?_⟩
          rw [ownL_more, if_neg nj, List.append_nil]
          exact eD
      obtain ⟨s5, eD⟩ := hP
      rw [Int.toNat_natCast, List.length_map, ll] at eD
      have ol := ownL_len ws.length S
      have eLe5 := s5 _ _ eLe4
      have eTo5 := s5 _ _ eTo4
      show tSeq _ _ _ [some (.int t), some (.ref a), some (.int ws.sum), some (.ref Lo), some (.ref Le), some (.ref To), some (.int (0 + (i : Int))), some (.ref D), y8, none, none] _
      -- bar
      refine ⟨_, rfl, D, rfl, ⟨_, .inl (.inl eD)⟩, fun D2 nD2 => ?_⟩
      refine lc_list (xs := (ownL ws.length S).map fun k : Nat => V.int (k : Int)) (fun j H6 => Same H5 H6 ∧ H6 D2 = some (.lst ((((ownL ws.length S).take j).map fun k => (rsts t ws).getD k 0).map V.int))) ⟨same_upd nD2, upd_same⟩ ?_ ?_ ?_
      · rintro j H6 _ ⟨sm, _⟩
        exact .inl (.inl (sm _ _ eD))
      · rintro j x H6 hx ⟨sm, eD2⟩
        obtain ⟨k, hk, rfl⟩ := map_get hx
        obtain ⟨kl, _⟩ := ownL_mem.mp (List.mem_of_getElem? hk)
        refine ⟨rfl, yes (iteT ?_)⟩
        refine ⟨_, rfl, _, rfl, Le, _, _, _, rfl, rfl, .inl (.inl (sm _ _ eLe5)), atI_nat (gInt (by omega)), _, eD2, ?_, same_new nD2 sm, ?_⟩
        · rw [List.length_map, List.length_map]
          have := List.length_take_le' j (ownL ws.length S)
          exact small1000 (by omega)
        · rw [upd_same, map_take_more hk, List.map_append]
          rfl
      rintro H6 ⟨s6, eD2⟩
      rw [List.length_map, List.take_length] at eD2
      refine ⟨D2, _, rfl, .inl (.inl eD2), ?_, fun m hm hmax => ?_⟩
      · rw [List.length_map]
        exact List.length_pos_of_mem bm
      have em : m = (rsts t ws).getD b 0 := by
        have h1 := hmax ((rsts t ws).getD b 0) (List.mem_map.mpr ⟨b, bm, rfl⟩)
        obtain ⟨k, hk, rfl⟩ := List.mem_map.mp hm
        have h2 := ble k hk
        omega
      subst em
      have eD6 := s6 _ _ eD
      have eLe6 := s6 _ _ eLe5
      have eTo6 := s6 _ _ eTo5
      refine ⟨_, rfl, _, rfl, D, rfl, ⟨_, .inl (.inl eD6)⟩, fun D3 nD3 => ?_⟩
      refine lc_list (xs := (ownL ws.length S).map fun k : Nat => V.int (k : Int)) (fun j H7 => Same H6 H7 ∧ H7 D3 = some (.lst ((((ownL ws.length S).take j).filter fun k => decide ((rsts t ws).getD k 0 = (rsts t ws).getD b 0)).map fun k : Nat => V.int (k : Int)))) ⟨same_upd nD3, upd_same⟩ ?_ ?_ ?_
      · rintro j H7 _ ⟨sm, _⟩
        exact .inl (.inl (sm _ _ eD6))
      · rintro j x H7 hx ⟨sm, eD3⟩
        obtain ⟨k, hk, rfl⟩ := map_get hx
        obtain ⟨kl, _⟩ := ownL_mem.mp (List.mem_of_getElem? hk)
        have fm := filt_more (p := fun k => decide ((rsts t ws).getD k 0 = (rsts t ws).getD b 0)) (f := fun k : Nat => V.int (k : Int)) hk
        refine ⟨rfl, ?_⟩
        refine ⟨_, rfl, _, rfl, Le, _, _, _, rfl, rfl, .inl (.inl (sm _ _ eLe6)), atI_nat (gInt (by omega)), _, rfl, rfl, _, rfl, ite2 (fun c => ?_) (fun c => ?_)⟩
        · have c' := V.int.inj (of_decide_eq_true c)
          rw [if_pos (decide_eq_true c')] at fm
          refine ⟨_, rfl, _, eD3, ?_, same_new nD3 sm, ?_⟩
          · rw [List.length_map]
            have := List.length_filter_le (fun k => decide ((rsts t ws).getD k 0 = (rsts t ws).getD b 0)) ((ownL ws.length S).take j)
            have := List.length_take_le' j (ownL ws.length S)
            exact small1000 (by omega)
          · rw [upd_same, fm]
        · have c' : ¬ decide ((rsts t ws).getD k 0 = (rsts t ws).getD b 0) = true := fun z => c (decide_eq_true (congrArg V.int (of_decide_eq_true z)))
          rw [if_neg c', List.append_nil] at fm
          exact ⟨sm, by rw [fm]; exact eD3⟩
      rintro H7 ⟨s7, eD3⟩
      rw [List.length_map, List.take_length] at eD3
      have g0 : ((((ownL ws.length S).filter fun k => decide ((rsts t ws).getD k 0 = (rsts t ws).getD b 0)).map fun k : Nat => V.int (k : Int)))[0]? = some (.int (b : Int)) := by
        rw [List.getElem?_map, bfi]
        rfl
      have eTo7 := s7 _ _ eTo6
      have gb : ((bump (lows t ws) S).map V.int)[b]? = some (.int ((lows t ws).getD b 0)) := by
        rw [List.getElem?_map, bump_get (by omega), if_neg nb, Int.add_zero]
        rfl
      refine ⟨D3, _, 0, .int (b : Int), rfl, rfl, .inl (.inl eD3), atI_nat (j := 0) g0, ?_⟩
      refine ⟨To, _, b, _, rfl, rfl, .inl (.inl eTo7), gb, _, _, rfl, rfl, To, _, _, b, rfl, rfl, eTo7, ixN_nat (by rw [List.length_map, bump_len]; omega), ?_⟩
      refine ⟨_, _, _, rfl, ?_, ?_⟩
      · exact (k4.same (s5.trans (s6.trans s7))).trans But.upd
      · rw [upd_same, take_more ea, hS, ← bump_more (by omega) nb, List.map_set]
    · rintro σ H4 ⟨y6, y7, y8, rfl, k4, eTo4⟩
      rw [Int.toNat_natCast] at eTo4
      have eLe4 := k4 _ _ nLeTo eLe3
      refine ⟨_, rfl, _, rfl, _, rfl, by show (3 : Nat) ≤ sizeLine; decide, fun r nr => ?_⟩
      have sr := same_upd (o := .tup [.ref Lo, .ref Le, .ref To]) nr
      exact q _ r Lo Le To ((but_new nTo0 (s1.trans (s2.trans s3)) k4).trans sr) upd_same (sr _ _ (k4 _ _ nLoTo eLo3)) (sr _ _ eLe4) (sr _ _ eTo4)
end
end K10

set_option Elab.async false
set_option linter.all false
set_option maxRecDepth 100000
set_option maxHeartbeats 2000000
namespace K10
open PySem PySem.Spec PyProof.Rows L2 TB K09

theorem scOd : FnScope ["_law_small"] [] (defScope sOd) := ⟨rfl, rfl, rfl, by decide +kernel, rfl, by decide +kernel, by decide +kernel⟩
theorem scNm : FnScope ["_law_thing"] ["_law_thing"] (defScope sNm) := ⟨rfl, rfl, rfl, by decide +kernel, rfl, by decide +kernel, by decide +kernel⟩
theorem scBe : FnScope ["_law_feed_here", "_law_thing", "_law_odd_here", "_law_at", "_law_way"] ["_law_feed_here", "_law_thing", "_law_odd_here"] (defScope sBe) := ⟨rfl, rfl, rfl, by decide +kernel, rfl, by decide +kernel, by decide +kernel⟩
/-- x is not b, x a number or a truth -/
def rNotT : R2 := fun x y H Q => ∃ b : Bool, y = .bl b ∧ ((∃ a : Bool, x = .bl a ∧ Q (.bl (!decide (a = b))) H) ∨ ∃ i : Int, x = .int i ∧ Q (.bl true) H)
theorem op_notT {X : Cx} : OpR X (compareOp .IsNot) rNotT := by
  intro pins s σ H x y v u Q I rx ry h
  obtain ⟨b, rfl, ⟨a, rfl, q⟩ | ⟨i, rfl, q⟩⟩ := h
  · exact op_notBl pins s σ H _ _ v u Q I rx ry ⟨a, b, rfl, rfl, q⟩
  · obtain ⟨t, rfl⟩ := rx
    cases (show u = Value.bool b from ry)
    exact wpAny_isNot_other rfl (fun z => nomatch z) ⟨.bl true, H, I, rfl, q⟩

def newer (H H' : Hp) : Hp := fun b => if H b = none then H' b else none
theorem newer_at {H H' : Hp} {b : Addr} {o : HO} (n : H b = none) (e : H' b = some o) : newer H H' b = some o := by
  unfold newer
  rw [if_pos n]
  exact e
theorem newer_hid {F : List Addr} {H H' H2 : Hp} (hF : ∀ f ∈ F, H f ≠ none ∨ H' f = none) (k : Same H' H2) : Same (newer H H') (hid F H2) := fun b o e => by
  unfold newer at e
  by_cases h : H b = none
  · rw [if_pos h] at e
    have nF : b ∉ F := fun z => by
      rcases hF b z with q | q
      · exact q h
      · rw [q] at e
        cases e
    rw [hid_at nF]
    exact k b o e
  · rw [if_neg h] at e
    cases e

def big2 : Int := 10 ^ Int.toNat 64 * 10 ^ Int.toNat 64 * 10 ^ Int.toNat 64 * 10 ^ Int.toNat 7
def dOdd : List PyData := [.none, .bool true, .bool false, .str "", .str "a", .str "A", .int 0, .int 1, .int 2, .int 4, .int (-1), .tuple [], .list [], .tuple [.list [.int 1], .str "a"], .tuple [.str "a", .int 1], .tuple [.str "a"],
  .int big2, .str "abcdefgh", .str "abcdefghi", .str "a b", .tuple [.int 0], .tuple [.int 1, .int 1]]

def isIn : PyData → Bool
  | .int _ => true
  | .bool _ => true
  | _ => false
def isSt : PyData → Bool
  | .str _ => true
  | _ => false
section
variable {K : PySem.W.Frag} {H : Hp}
theorem isiI {v : V} {d : PyData} (hd : Dp K H v d) : ∃ t : Value, TyX K H v t ∧ PySem.W.kitOne K t (.type "int") = some (isIn d) := by
  cases hd with
  | non => exact ⟨_, .base .non, (kit_ty (r := false) (by decide +kernel))⟩
  | bl b => exact ⟨_, .base (.bl b), (kit_ty (r := true) (by decide +kernel))⟩
  | int i => exact ⟨_, .base (.int i), (kit_ty (r := true) (by decide +kernel))⟩
  | str x => exact ⟨_, .base (.str x), (kit_ty (r := false) (by decide +kernel))⟩
  | lst h _ => exact ⟨_, ty_lst h, (kit_ty (r := false) (by decide +kernel))⟩
  | tup h _ => exact ⟨_, ty_tup h, (kit_ty (r := false) (by decide +kernel))⟩
theorem isiS {v : V} {d : PyData} (hd : Dp K H v d) : ∃ t : Value, TyX K H v t ∧ PySem.W.kitOne K t (.type "str") = some (isSt d) := by
  cases hd with
  | non => exact ⟨_, .base .non, (kit_ty (r := false) (by decide +kernel))⟩
  | bl b => exact ⟨_, .base (.bl b), (kit_ty (r := false) (by decide +kernel))⟩
  | int i => exact ⟨_, .base (.int i), (kit_ty (r := false) (by decide +kernel))⟩
  | str x => exact ⟨_, .base (.str x), (kit_ty (r := true) (by decide +kernel))⟩
  | lst h _ => exact ⟨_, ty_lst h, (kit_ty (r := false) (by decide +kernel))⟩
  | tup h _ => exact ⟨_, ty_tup h, (kit_ty (r := false) (by decide +kernel))⟩
end
mutual
def chk : PyData → Bool
  | .int i => decide (i.natAbs < 2 ^ 700)
  | .str z => z.cps.toList.all (fun c => decide (c < 128)) && decide (z.length ≤ 20)
  | .tuple xs => chks xs
  | .list xs => chks xs
  | .dict _ => false
  | _ => true
def chks : List PyData → Bool
  | [] => true
  | x :: xs => chk x && chks xs
end
mutual
theorem chk_ats : ∀ d : PyData, chk d = true → Ats 0 d
  | .none, _ => by simp [Ats]
  | .bool _, _ => by simp [Ats]
  | .int i, h => by
    simp only [chk] at h
    simp only [Ats]
    exact of_decide_eq_true h
  | .str z, h => by
    simp only [chk, Bool.and_eq_true] at h
    simp only [Ats]
    exact ⟨fun c hc => of_decide_eq_true (List.all_eq_true.mp h.1 c hc), of_decide_eq_true h.2⟩
  | .tuple xs, h => by
    simp only [chk] at h
    simp only [Ats]
    exact chks_ats xs h
  | .list xs, h => by
    simp only [chk] at h
    simp only [Ats]
    exact chks_ats xs h
  | .dict _, h => by simp [chk] at h
theorem chks_ats : ∀ ds : List PyData, chks ds = true → AtsL 0 ds
  | [], _ => by simp [AtsL]
  | d :: ds, h => by
    simp only [chks, Bool.and_eq_true] at h
    simp only [AtsL]
    exact ⟨chk_ats d h.1, chks_ats ds h.2⟩
end
theorem odd_fit : ∀ d ∈ dOdd, Fit 5 2 0 d := fun d hd => by
  have h := List.all_eq_true.mp (show dOdd.all (fun d => chk d && (decide (sz d ≤ 5) && decide (PyData.depth d ≤ 2))) = true by decide +kernel) d hd
  simp only [Bool.and_eq_true] at h
  exact ⟨of_decide_eq_true h.2.1, of_decide_eq_true h.2.2, chk_ats d h.1⟩
theorem cutD_take (ds : List PyData) (n : Nat) : cutD ds none (some (n : Int)) = ds.take n := by
  have e : HT.sIx ds.length ds.length (some (n : Int)) = min n ds.length := by
    show (if (n : Int) < 0 then ((n : Int) + ds.length).toNat else min (n : Int).toNat ds.length) = _
    rw [if_neg (by omega), Int.toNat_natCast]
  unfold TB.cutD
  rw [e, HT.sIx_none, List.drop_zero, Nat.sub_zero]
  by_cases c : n ≤ ds.length
  · rw [Nat.min_eq_left c]
  · rw [Nat.min_eq_right (by omega), List.take_length, List.take_of_length_le (by omega)]
theorem cutD_drop (ds : List PyData) (n : Nat) : cutD ds (some (n : Int)) none = ds.drop n := by
  have e : HT.sIx ds.length 0 (some (n : Int)) = min n ds.length := by
    show (if (n : Int) < 0 then ((n : Int) + ds.length).toNat else min (n : Int).toNat ds.length) = _
    rw [if_neg (by omega), Int.toNat_natCast]
  unfold TB.cutD
  rw [e, HT.sIx_none]
  by_cases c : n ≤ ds.length
  · rw [Nat.min_eq_left c, List.take_of_length_le (by rw [List.length_drop]; exact Nat.le_refl _)]
  · rw [Nat.min_eq_right (by omega), List.drop_length, List.drop_of_length_le (by omega)]
    simp
theorem szs_split : ∀ {ds : List PyData} {n : Nat} {d : PyData}, ds[n]? = some d → szs (ds.take n) + sz d + szs (ds.drop (n + 1)) = szs ds
  | x :: ds, 0, d, h => by
    obtain rfl : x = d := by simpa using h
    simp only [List.take_zero, List.drop_succ_cons, List.drop_zero, szs]
    omega
  | x :: ds, n + 1, d, h => by
    have := szs_split (ds := ds) (n := n) (d := d) (by simpa using h)
    simp only [List.take_succ_cons, List.drop_succ_cons, szs]
    omega
  | [], n, d, h => by simp at h
section
variable {P : Program} {w : World} {K : PySem.W.Frag} {mg : Str → Option Value} {base : Heap}
def spOdd (K : PySem.W.Frag) : Sp := fun vs H Q _ => vs = [] ∧ ∀ (H' : Hp) (v : V), Same H H' → Dp K (newer H H') v (.tuple dOdd) → Q v H'
theorem ok_odd {f : Addr} {fd : FuncData} {k : Nat} (F : Fun K "_law_odd" "_law_odd" sOd f fd) : FnOk P w K mg base CX0 (k + 1) f fd [] (spOdd K) := by
  refine F.ok scOd (fun vs H Q E h => ?_) (fun cdv A outer s H vs Q E hr h => ?_)
  · obtain ⟨rfl, _⟩ := h
    rfl
  · obtain ⟨rfl, q⟩ := h
    refine ⟨_, (pss_cons (ps_set (i := 0) scOd.nd rfl (.inl rfl) (pe_tup (pa_cons pe_non (pa_cons pe_bl (pa_cons pe_bl (pa_cons pe_str (pa_cons pe_str (pa_cons pe_str (pa_cons pe_int (pa_cons pe_int (pa_cons pe_int (pa_cons pe_int (pa_cons (pe_un un_neg pe_int) (pa_cons (pe_tup pa_nil) (pa_cons (pe_lst pa_nil) (pa_cons (pe_tup (pa_cons (pe_lst (pa_cons pe_int pa_nil)) (pa_cons pe_str pa_nil))) (pa_cons (pe_tup (pa_cons pe_str (pa_cons pe_int pa_nil))) (pa_cons (pe_tup (pa_cons pe_str pa_nil)) pa_nil))))))))))))))))))
      (pss_one (ps_ret (pe_op op_catT (pv 0) (pe_tup (pa_cons (pe_op op_mulW (pe_op op_mulW (pe_op op_mulW (pe_op op_pow pe_int pe_int) (pe_op op_pow pe_int pe_int)) (pe_op op_pow pe_int pe_int)) (pe_op op_pow pe_int pe_int)) (pa_cons pe_str (pa_cons pe_str (pa_cons pe_str (pa_cons (pe_tup (pa_cons pe_int pa_nil)) (pa_cons (pe_tup (pa_cons pe_int (pa_cons pe_int pa_nil))) pa_nil))))))))))), ?_⟩
    refine ⟨1, rfl, Nat.zero_le _, fun p1 n1 => ⟨Nat.zero_le _, fun p2 n2 => ⟨by show (1 : Nat) ≤ sizeLine; decide, fun p3 n3 => ⟨by show (2 : Nat) ≤ sizeLine; decide, fun p4 n4 => ⟨by show (2 : Nat) ≤ sizeLine; decide, fun p5 n5 => ⟨by show (1 : Nat) ≤ sizeLine; decide, fun p6 n6 => ⟨by show (16 : Nat) ≤ sizeLine; decide, fun p7 n7 => ?_⟩⟩⟩⟩⟩⟩⟩
    refine ⟨_, rfl, _, _, rfl, rfl, ⟨by decide, by decide, by decide⟩, _, _, rfl, rfl, ⟨by decide, by decide, by decide⟩, _, _, rfl, rfl, (by unfold CMulW; decide +kernel), _, _, rfl, rfl, ⟨by decide, by decide, by decide⟩, _, _, rfl, rfl, (by unfold CMulW; decide +kernel), _, _, rfl, rfl, ⟨by decide, by decide, by decide⟩, _, _, rfl, rfl, (by unfold CMulW; decide +kernel), ?_⟩
    refine ⟨by show (1 : Nat) ≤ sizeLine; decide, fun p8 n8 => ⟨by show (2 : Nat) ≤ sizeLine; decide, fun p9 n9 => ⟨by show (6 : Nat) ≤ sizeLine; decide, fun p10 n10 => ?_⟩⟩⟩
    have s1 := same_upd (o := .tup []) n1
    have s2 := same_upd (o := .lst []) n2
    have s3 := same_upd (o := .lst [.int 1]) n3
    have s4 := same_upd (o := .tup [.ref p3, .str "a"]) n4
    have s5 := same_upd (o := .tup [.str "a", .int 1]) n5
    have s6 := same_upd (o := .tup [.str "a"]) n6
    have s7 := same_upd (o := .tup [.non, .bl true, .bl false, .str "", .str "a", .str "A", .int 0, .int 1, .int 2, .int 4, .int (-1), .ref p1, .ref p2, .ref p4, .ref p5, .ref p6]) n7
    have s8 := same_upd (o := .tup [.int 0]) n8
    have s9 := same_upd (o := .tup [.int 1, .int 1]) n9
    have s10 := same_upd (o := .tup [.int big2, .str "abcdefgh", .str "abcdefghi", .str "a b", .ref p8, .ref p9]) n10
    have z2 := s1.free n2
    have z3 := (s1.trans s2).free n3
    have z4 := (s1.trans (s2.trans s3)).free n4
    have z5 := (s1.trans (s2.trans (s3.trans s4))).free n5
    have z6 := (s1.trans (s2.trans (s3.trans (s4.trans s5)))).free n6
    have t7 := s1.trans (s2.trans (s3.trans (s4.trans (s5.trans s6))))
    have t8 := t7.trans s7
    have z8 := t8.free n8
    have z9 := (t8.trans s8).free n9
    have t10 := t8.trans (s8.trans s9)
    refine ⟨p7, p10, _, _, rfl, rfl, .inl (.inl ((s8.trans (s9.trans s10)) _ _ upd_same)), .inl (.inl upd_same), (fun z => nomatch z), by show (22 : Nat) ≤ sizeLine; decide, (fun z => nomatch z), fun _ p np => ?_⟩
    have s11 := same_upd (o := .tup ([.non, .bl true, .bl false, .str "", .str "a", .str "A", .int 0, .int 1, .int 2, .int 4, .int (-1), .ref p1, .ref p2, .ref p4, .ref p5, .ref p6] ++ [.int big2, .str "abcdefgh", .str "abcdefghi", .str "a b", .ref p8, .ref p9])) np
    have t11 := t10.trans s10
    refine q _ _ (t11.trans s11) ?_
    have r9 := s10.trans s11
    have r8 := s9.trans r9
    have r6 := s7.trans (s8.trans r8)
    have r5 := s6.trans r6
    have r4 := s5.trans r5
    have r3 := s4.trans r4
    have r2 := s3.trans r3
    have r1 := s2.trans r2
    refine .tup (.inl (.inl (newer_at (t11.free np) upd_same))) ?_
    refine .cons .non (.cons (.bl _) (.cons (.bl _) (.cons (.str _) (.cons (.str _) (.cons (.str _) (.cons (.int _) (.cons (.int _) (.cons (.int _) (.cons (.int _) (.cons (.int _) ?_))))))))))
    refine .cons (.tup (.inl (.inl (newer_at n1 (r1 _ _ upd_same)))) .nil) (.cons (.lst (.inl (.inl (newer_at z2 (r2 _ _ upd_same)))) .nil) ?_)
    refine .cons (.tup (.inl (.inl (newer_at z4 (r4 _ _ upd_same)))) (.cons (.lst (.inl (.inl (newer_at z3 (r3 _ _ upd_same)))) (.cons (.int _) .nil)) (.cons (.str _) .nil))) ?_
    refine .cons (.tup (.inl (.inl (newer_at z5 (r5 _ _ upd_same)))) (.cons (.str _) (.cons (.int _) .nil))) (.cons (.tup (.inl (.inl (newer_at z6 (r6 _ _ upd_same)))) (.cons (.str _) .nil)) ?_)
    refine .cons (.int _) (.cons (.str _) (.cons (.str _) (.cons (.str _) ?_)))
    exact .cons (.tup (.inl (.inl (newer_at z8 (r8 _ _ upd_same)))) (.cons (.int _) .nil)) (.cons (.tup (.inl (.inl (newer_at z9 (r9 _ _ upd_same)))) (.cons (.int _) (.cons (.int _) .nil))) .nil)
theorem ok_number {f : Addr} {fd : FuncData} {k : Nat} (F : Fun K "_law_number" "_law_number" sNm f fd) (m_isinstance : mg "isinstance" = none) (m_int : mg "int" = none) :
    FnOk P w K mg base CX0 (k + 1) f fd ["_law_thing"] (spKind K isNum) := by
  refine F.ok scNm (fun vs H Q E h => ?_) (fun cdv A outer s H vs Q E hr h => ?_)
  · obtain ⟨v, d, rfl, _⟩ := h
    rfl
  · obtain ⟨v, d, rfl, hd, q⟩ := h
    have q := q H (Same.refl H)
    refine ⟨_, (pss_one (ps_ret (pe_and (pe_callB call_isi (by rfl) m_isinstance (by decide +kernel) (pa_cons (pv 0) (pa_cons (pe_bltn (v := .ty "int") (u := .type "int") (by rfl) m_int (by decide +kernel) rfl) pa_nil))) (pe_and (pe_cmpR op_notT (pv 0) pe_bl (nomark _)) (pe_one (pe_cmpR op_notT (pv 0) pe_bl (nomark _))))))), ?_⟩
    cases hd with
    | non => exact ⟨_, rfl, _, .ty "int", _, .type "int", false, rfl, .ty _, .base .non, kit_ty (by decide +kernel), false, rfl, iteF q⟩
    | bl b =>
      refine ⟨_, rfl, _, .ty "int", _, .type "int", true, rfl, .ty _, .base (.bl b), kit_ty (by decide +kernel), true, rfl, iteT ?_⟩
      cases b with
      | true => exact ⟨_, rfl, true, rfl, .inl ⟨true, rfl, false, rfl, iteF q⟩⟩
      | false => exact ⟨_, rfl, true, rfl, .inl ⟨false, rfl, true, rfl, iteT ⟨_, rfl, false, rfl, .inl ⟨false, rfl, q⟩⟩⟩⟩
    | int i => exact ⟨_, rfl, _, .ty "int", _, .type "int", true, rfl, .ty _, .base (.int i), kit_ty (by decide +kernel), true, rfl, iteT ⟨_, rfl, true, rfl, .inr ⟨i, rfl, true, rfl, iteT ⟨_, rfl, false, rfl, .inr ⟨i, rfl, q⟩⟩⟩⟩⟩
    | str x => exact ⟨_, rfl, _, .ty "int", _, .type "int", false, rfl, .ty _, .base (.str x), kit_ty (by decide +kernel), false, rfl, iteF q⟩
    | lst h _ => exact ⟨_, rfl, _, .ty "int", _, .type "int", false, rfl, .ty _, ty_lst h, kit_ty (by decide +kernel), false, rfl, iteF q⟩
    | tup h _ => exact ⟨_, rfl, _, .ty "int", _, .type "int", false, rfl, .ty _, ty_tup h, kit_ty (by decide +kernel), false, rfl, iteF q⟩
/-! ### _law_bend -/
def spBd (K : PySem.W.Frag) : Nat → Sp
  | 0 => fun _ _ _ _ => False
  | k + 1 => fun vs H Q _ => ∃ (L S : Addr) (T : Int) (v ov : V) (d : PyData) (F : List Addr) (m j : Nat), vs = [.ref L, v, ov] ∧ Feed H L S T ∧ T + 4 * (k + 1) < 900000 ∧ L ∈ F ∧ Took F H ∧ Dp K (hid F H) v d ∧ Dp K (hid F H) ov (.tuple dOdd) ∧ Fit m k j d ∧ m ≤ 400 ∧ j ≤ 90 ∧
    ∀ (H' : Hp) (r : V) (d' : PyData), But L H H' → Feed H' L S (T + 4 * (k + 1)) → Dp K (hid F H') r d' → Fit (2 * m + 30) (k + 3) (j + 1) d' → Q r H'
theorem cutV_small {xs : List V} (lo hi : Option Int) (h : xs.length ≤ 400) : (cutV xs lo hi).length ≤ 400 := Nat.le_trans (cutV_length xs lo hi) h
theorem ok_bend {f fR : Addr} {fd fdR : FuncData} (F : Fun K "_law_bend" "_law_bend" sBe f fd) (kBe : PySem.W.keepIn K (.ref f) = true) (bBe : Binds K fd ["_law_feed_here", "_law_thing", "_law_odd_here"] []) (gBe : mg "_law_bend" = some (.ref f))
    (GDr : FnOk P w K mg base CX0 1 fR fdR ["_law_feed_here", "_law_many"] spDraw) (kDr : PySem.W.keepIn K (.ref fR) = true) (bDr : Binds K fdR ["_law_feed_here", "_law_many"] []) (gDr : mg "_law_draw" = some (.ref fR))
    (m_isinstance : mg "isinstance" = none) (m_tuple : mg "tuple" = none) (m_int : mg "int" = none) (m_str : mg "str" = none) (m_len : mg "len" = none) (m_list : mg "list" = none) :
    ∀ k, k ≤ 20 → FnOk P w K mg base CX0 (k + 1) f fd ["_law_feed_here", "_law_thing", "_law_odd_here"] (spBd K k) := by
  intro k
  induction k with
  | zero =>
    intro _
    exact ⟨fun xs G R Z h => h.elim, fun A outer s H args us vs Q E hr e0 hb r h => h.elim⟩
  | succ k ih =>
  intro hk
  have GBe := ih (by omega)
  refine F.ok scBe (fun vs H Q E h => ?_) (fun cdv A outer s H vs Q E hr h => ?_)
  · obtain ⟨L, S, T, v, ov, d, F', m, j, rfl, _⟩ := h
    rfl
  · obtain ⟨L, S, T, v, ov, d, F', m, j, rfl, hF, hT, hL, tk, hd, dO, ft, m4, j9, q⟩ := h
    refine ⟨_, (pss_cons (ps_cut (ps_if (PW.pt (pw_and (pt_val (pe_callB call_isi (by rfl) m_isinstance (by decide +kernel) (pa_cons (pv 1) (pa_cons (pe_bltn (v := .ty "tuple") (u := .type "tuple") (by rfl) m_tuple (by decide +kernel) rfl) pa_nil)))) (pw_and (pt_cmpR (op_neD hr.units) (pv 1) (pe_tup pa_nil) (nomark _)) (pw_and1 (pt_cmpR op_gt (pe_call GDr (hr.mono (by omega)) (by rfl) gDr kDr bDr .nil pass0 (pa_cons (pv 0) (pa_cons pe_int pa_nil))) pe_int (nomark _)))))) (pss_cons (ps_set (i := 3) scBe.nd rfl (.inl rfl) (pe_call GDr (hr.mono (by omega)) (by rfl) gDr kDr bDr .nil pass0 (pa_cons (pv 0) (pa_cons (pe_callB call_len_seq (by rfl) m_len (by decide +kernel) (pa_cons (pv 1) pa_nil)) pa_nil))))
      (pss_one (ps_ret (pe_op op_catA (pe_op op_catA (pe_slice sl_tupA (pv 1) po_none (po_some (pv 3))) (pe_tup (pa_cons (pe_call GBe (hr.mono (by omega)) (by rfl) gBe kBe bBe .nil pass0 (pa_cons (pv 0) (pa_cons (pe_ix ix_tup (pv 1) (pv 3) (fun _ _ => rfl)) (pa_cons (pv 2) pa_nil)))) pa_nil))) (pe_slice sl_tupA (pv 1) (po_some (pe_op op_add (pv 3) pe_int)) po_none))))) pss_nil))
      (pss_cons (ps_set (i := 4) scBe.nd rfl (.inl rfl) (pe_call GDr (hr.mono (by omega)) (by rfl) gDr kDr bDr .nil pass0 (pa_cons (pv 0) (pa_cons pe_int pa_nil))))
      (pss_cons (ps_cut (ps_if (PW.pt (pw_and (pt_val (pe_callB call_isi (by rfl) m_isinstance (by decide +kernel) (pa_cons (pv 1) (pa_cons (pe_bltn (v := .ty "tuple") (u := .type "tuple") (by rfl) m_tuple (by decide +kernel) rfl) pa_nil)))) (pw_and1 (pt_cmpR op_lt (pv 4) pe_int (nomark _))))) (pss_cons (ps_set (i := 3) scBe.nd rfl (.inl rfl) (pe_call GDr (hr.mono (by omega)) (by rfl) gDr kDr bDr .nil pass0 (pa_cons (pv 0) (pa_cons (pe_op op_add (pe_callB call_len_seq (by rfl) m_len (by decide +kernel) (pa_cons (pv 1) pa_nil)) pe_int) pa_nil))))
      (pss_cons (ps_if (pt_cmpR op_eq (pv 4) pe_int (nomark _)) (pss_one (ps_ret (pe_op op_catA (pe_op op_catA (pe_slice sl_tupA (pv 1) po_none (po_some (pv 3))) (pe_tup (pa_cons (pe_ix ix_tup (pv 2) (pe_call GDr (hr.mono (by omega)) (by rfl) gDr kDr bDr .nil pass0 (pa_cons (pv 0) (pa_cons (pe_callB call_len_seq (by rfl) m_len (by decide +kernel) (pa_cons (pv 2) pa_nil)) pa_nil))) (fun _ _ => rfl)) pa_nil))) (pe_slice sl_tupA (pv 1) (po_some (pv 3)) po_none)))) pss_nil)
      (pss_one (ps_ret (pe_ifExp (pt_cmpR op_eq (pv 4) pe_int (nomark _)) (pe_op op_catA (pe_slice sl_tupA (pv 1) po_none (po_some (pv 3))) (pe_slice sl_tupA (pv 1) (po_some (pe_op op_add (pv 3) pe_int)) po_none)) (pe_ifExp (pt_cmpR op_eq (pv 4) pe_int (nomark _)) (pe_callTy call_list_of (by rfl) m_list (by decide +kernel) (pa_cons (pv 1) pa_nil)) (pe_op op_catA (pv 1) (pe_slice sl_tupA (pv 1) po_none (po_some (pv 3)))))))))) pss_nil))
      (pss_cons (ps_cut (ps_if (PW.pt (pw_and (pt_val (pe_callB call_isi (by rfl) m_isinstance (by decide +kernel) (pa_cons (pv 1) (pa_cons (pe_bltn (v := .ty "int") (u := .type "int") (by rfl) m_int (by decide +kernel) rfl) pa_nil)))) (pw_and1 (pt_cmpR op_lt (pv 4) pe_int (nomark _))))) (pss_one (ps_ret (pe_ix ix_tup (pe_tup (pa_cons (pe_op op_addN (pv 1) pe_int) (pa_cons (pe_op op_subN (pv 1) pe_int) (pa_cons (pe_un un_negN (pv 1)) (pa_cons (pe_tup (pa_cons (pv 1) pa_nil)) pa_nil))))) (pv 4) (fun _ _ => rfl)))) pss_nil))
      (pss_cons (ps_cut (ps_if (PW.pt (pw_and (pt_val (pe_callB call_isi (by rfl) m_isinstance (by decide +kernel) (pa_cons (pv 1) (pa_cons (pe_bltn (v := .ty "str") (u := .type "str") (by rfl) m_str (by decide +kernel) rfl) pa_nil)))) (pw_and1 (pt_cmpR op_lt (pv 4) pe_int (nomark _))))) (pss_one (ps_ret (pe_ix ix_tup (pe_tup (pa_cons (pe_op op_add_str (pv 1) pe_str) (pa_cons (pe_slice sl_str (pv 1) (po_some pe_int) po_none) (pa_cons (pe_lst (pa_cons (pv 1) pa_nil)) pa_nil)))) (pv 4) (fun _ _ => rfl)))) pss_nil))
      (pss_one (ps_ret (pe_ix ix_tup (pv 2) (pe_call GDr (hr.mono (by omega)) (by rfl) gDr kDr bDr .nil pass0 (pa_cons (pv 0) (pa_cons (pe_callB call_len_seq (by rfl) m_len (by decide +kernel) (pa_cons (pv 2) pa_nil)) pa_nil))) (fun _ _ => rfl))))))))), ?_⟩
    obtain ⟨oa, oxs, rfl, hO, dOs⟩ := Dp.tup_inv dO
    have lx : oxs.length = 22 := DpAll.len dOs
    have rm : ∀ {H1 : Hp}, But L H H1 → Same (hid F' H) (hid F' H1) := fun k => hid_but hL k
    have tkb : ∀ {H1 : Hp} {T1 : Int}, But L H H1 → Feed H1 L S T1 → Took F' H1 := fun k c => by
      obtain ⟨zs, ez⟩ := c.there
      exact tk.but k ez
    have szd := ft.sz
    -- the first if
    refine ⟨fun σ' H' => σ' = [some (.ref L), some v, some (.ref oa), none, none] ∧ But L H H' ∧ Feed H' L S (T + 1), ?_, ?_⟩
    · obtain ⟨ty, hty, kty⟩ := isiT (Dp.same hid_sub _ _ hd)
      refine ⟨_, rfl, _, .ty "tuple", ty, .type "tuple", _, rfl, .ty _, hty, kty, _, rfl, ?_⟩
      cases hd with
      | @tup a xs ds hA dA =>
        refine iteT ?_
        have xl0 := DpAll.len dA
        have sl := szs_len ds
        rw [sz_tup] at szd
        have xl : xs.length ≤ 400 := by omega
        refine ⟨_, rfl, Nat.zero_le _, fun p0 n0 => ?_⟩
        have s0 := same_upd (o := .tup []) n0
        have e0 : (upd H p0 (.tup [])) p0 = some (.tup []) := upd_same
        generalize upd H p0 (.tup []) = H0 at *
        have b0 : But L H H0 := But.of s0
        refine ⟨.tuple ds, .tuple [], .tup (TB.Same.tup (hid_sub.trans s0) hA) (DpAll.same (hid_sub.trans s0) _ _ dA), .tup (.inl (.inl e0)) .nil, ft.shaped (by omega) (by omega), rfl, _, rfl, ?_⟩
        rw [eqv_void]
        change ite _ _ _
        refine ite2 (fun c => ?_) (fun c => ?_)
        · have ne : 0 < ds.length := by
            cases ds with
            | nil => exact absurd c (by decide)
            | cons x xs => simp
          refine ⟨_, rfl, L, S, 4, T, rfl, by decide, by decide, hF.same s0, by omega, fun H1 v1 k1 f1 l1 u1 => ?_⟩
          have kk1 : But L H H1 := b0.trans k1
          refine ⟨_, _, rfl, rfl, _, rfl, ?_⟩
          change ite _ _ _
          refine ite2 (fun c1 => ?_) (fun c1 => ?_)
          · have hA1 : SqT K (hid F' H1) a xs := TB.Same.tup (rm kk1) hA
            refine ⟨_, rfl, _, rfl, a, _, rfl, .inr (TB.Same.tup hid_sub hA1), L, S, (xs.length : Int), _, rfl, by omega, by omega, f1, by omega, fun H2 at_ k2 f2 l2 u2 => ?_⟩
            obtain ⟨i, rfl⟩ : ∃ i : Nat, at_ = (i : Int) := ⟨at_.toNat, by omega⟩
            have il : i < ds.length := by omega
            have kk2 : But L H H2 := kk1.trans k2
            have hA2 : SqT K (hid F' H2) a xs := TB.Same.tup (rm kk2) hA
            have t2 := tkb kk2 f2
            refine ⟨_, rfl, _, rfl, _, rfl, ?_⟩
            show rSlA _ _ none (some (i : Int)) _ _
            refine slH t2 hA2 fun H3 r1 s3 h1 => ?_
            have t3 := t2.same s3
            have dA3 : DpAll K (hid F' H3) xs ds := DpAll.same ((rm kk2).trans (hid_same s3)) _ _ dA
            obtain ⟨dx, hdx, hx⟩ := DpAll.get dA3 (List.getElem?_eq_getElem (show i < xs.length by omega))
            have mx := List.mem_of_getElem? hdx
            have dd := ft.dp
            rw [dep_tup] at dd
            cases k with
            | zero => omega
            | succ k =>
            have fx : Fit (sz dx) k j dx := ⟨Nat.le_refl _, dep_all.mp (show PyData.depthAll ds ≤ k by omega) dx mx, Ats.tup.mp ft.at_ dx mx⟩
            have szx := szs_mem mx
            refine ⟨_, rfl, _, rfl, _, rfl, a, _, _, _, rfl, rfl, TB.Same.tup hid_sub (TB.Same.tup (hid_same s3) hA2), atI_nat (List.getElem?_eq_getElem (show i < xs.length by omega)), _, rfl, ?_⟩
            refine ⟨L, S, T + 2, _, .ref oa, dx, F', sz dx, j, rfl, (f2.same s3).mono (by omega), by push_cast at hT ⊢; omega, hL, t3, hx, Dp.same ((rm kk2).trans (hid_same s3)) _ _ (.tup hO dOs), fx, by omega, by omega, fun H4 r d' k4 f4 hr4 g4 => ?_⟩
            have t4 : Took F' H4 := by
              obtain ⟨zs, ez⟩ := f4.there
              exact t3.but k4 ez
            refine ⟨by show (1 : Nat) ≤ sizeLine; decide, fun p5 n5 => ?_⟩
            have s5 := same_upd (o := .tup [r]) n5
            have t5 := t4.same s5
            have h5 : SqT K (hid F' (upd H4 p5 (.tup [r]))) p5 [r] := newT t4 n5
            generalize upd H4 p5 (.tup [r]) = H5 at *
            have w35 : Same (hid F' H3) (hid F' H5) := (hid_but hL k4).trans (hid_same s5)
            refine catH t5 (TB.Same.tup w35 h1) h5 (by have := cutV_small none (some (i : Int)) xl; show _ + 1 ≤ sizeLine; exact Nat.le_of_lt (small1000 (by omega))) fun H6 r2 s6 h6 => ?_
            have t6 := t5.same s6
            have w36 : Same (hid F' H3) (hid F' H6) := w35.trans (hid_same s6)
            refine ⟨_, rfl, _, rfl, _, _, rfl, rfl, _, rfl, ?_⟩
            try (show tNoPart _ _ _; unfold tNoPart)
            show rSlA _ _ (some ((i : Int) + 1)) none _ _
            refine slH t6 (TB.Same.tup w36 (TB.Same.tup (hid_same s3) hA2)) fun H7 r3 s7 h7 => ?_
            have t7 := t6.same s7
            refine catH t7 (TB.Same.tup (hid_same s7) h6) h7 (by have := cutV_small none (some (i : Int)) xl; have := cutV_small (some ((i : Int) + 1)) none xl; rw [List.length_append]; show _ + 1 + _ ≤ sizeLine; exact Nat.le_of_lt (small1000 (by omega))) fun H8 r4 s8 h8 => ?_
            have w38 : Same (hid F' H3) (hid F' H8) := (w36.trans (hid_same s7)).trans (hid_same s8)
            have dA8 : DpAll K (hid F' H8) xs ds := DpAll.same w38 _ _ dA3
            refine q _ _ (.tuple ((cutD ds none (some (i : Int)) ++ [d']) ++ cutD ds (some ((i : Int) + 1)) none)) ?_ ?_ (.tup h8 (DpAll.app (DpAll.app (DpAll.cut dA8) (.cons (Dp.same (hid_same (((s5.trans s6).trans s7).trans s8)) _ _ hr4) .nil)) (DpAll.cut dA8))) ?_
            · exact ((kk2.same s3).trans k4).same (((s5.trans s6).trans s7).trans s8)
            · exact (f4.same (((s5.trans s6).trans s7).trans s8)).mono (by push_cast; omega)
            · have e1 : ((i : Int) + 1) = ((i + 1 : Nat) : Int) := by omega
              rw [e1, cutD_take, cutD_drop]
              have sp := szs_split hdx
              have g4s := g4.sz
              refine (fit_tup (m := 2 * m + 29) (k := k + 1 + 2) (j := j + 1) ?_ fun e he => ?_).mono (by omega) (by omega) (Nat.le_refl _)
              · rw [szs_app, szs_app]
                have : szs [d'] = sz d' := by simp [szs]
                omega
              · have up : ∀ {e : PyData}, e ∈ ds → PyData.depth e ≤ k + 1 + 2 ∧ Ats (j + 1) e := fun {e} he => ⟨by have := dep_all.mp (show PyData.depthAll ds ≤ k by omega) e he; omega, Ats.mono (by omega) e (Ats.tup.mp ft.at_ e he)⟩
                rcases List.mem_append.mp he with z | z
                · rcases List.mem_append.mp z with z | z
                  · exact up (List.mem_of_mem_take z)
                  · rw [List.mem_singleton.mp z]
                    exact ⟨g4.dp, g4.at_⟩
                · exact up (List.mem_of_mem_drop z)
          · exact ⟨rfl, kk1, f1⟩
        · exact iteF ⟨rfl, b0, (hF.same s0).mono (by omega)⟩
      | non =>
        refine iteF ?_
        change ite _ _ _
        exact iteF ⟨rfl, But.refl _ _, hF.mono (by omega)⟩
      | bl b =>
        refine iteF ?_
        change ite _ _ _
        exact iteF ⟨rfl, But.refl _ _, hF.mono (by omega)⟩
      | int i =>
        refine iteF ?_
        change ite _ _ _
        exact iteF ⟨rfl, But.refl _ _, hF.mono (by omega)⟩
      | str z =>
        refine iteF ?_
        change ite _ _ _
        exact iteF ⟨rfl, But.refl _ _, hF.mono (by omega)⟩
      | lst h _ =>
        refine iteF ?_
        change ite _ _ _
        exact iteF ⟨rfl, But.refl _ _, hF.mono (by omega)⟩
    rintro σ' H1 ⟨rfl, kk1, f1⟩
    -- the way
    refine ⟨_, rfl, L, S, 6, T + 1, rfl, by decide, by decide, f1, by omega, fun H2 wy k2 f2 l2 u2 => ?_⟩
    have kk2 : But L H H2 := kk1.trans k2
    have t2 := tkb kk2 f2
    have hd2 : Dp K (hid F' H2) v d := Dp.same (rm kk2) _ _ hd
    have dO2 : DpAll K (hid F' H2) oxs dOdd := DpAll.same (rm kk2) _ _ dOs
    have hO2 : SqT K (hid F' H2) oa oxs := TB.Same.tup (rm kk2) hO
    have f2 : Feed H2 L S (T + 2) := f2.mono (by omega)
    show tSeq _ _ _ [some (.ref L), some v, some (.ref oa), none, some (.int wy)] _
    clear hd dO dOs hO
    -- tuples
    refine ⟨fun σ' H' => σ' = [some (.ref L), some v, some (.ref oa), none, some (.int wy)] ∧ H2 = H', ?_, ?_⟩
    · obtain ⟨ty, hty, kty⟩ := isiT (Dp.same hid_sub _ _ hd2)
      refine ⟨_, rfl, _, .ty "tuple", ty, .type "tuple", _, rfl, .ty _, hty, kty, _, rfl, ?_⟩
      cases hd2 with
      | @tup a xs ds hA dA =>
        refine iteT ?_
        have xl0 := DpAll.len dA
        have sl := szs_len ds
        rw [sz_tup] at szd
        have xl : xs.length ≤ 400 := by omega
        have dd := ft.dp
        rw [dep_tup] at dd
        have up : ∀ {e : PyData}, e ∈ ds → PyData.depth e ≤ k ∧ Ats (j + 1) e := fun {e} he => ⟨by have := dep_all.mp (show PyData.depthAll ds ≤ k by omega) e he; omega, Ats.mono (by omega) e (Ats.tup.mp ft.at_ e he)⟩
        refine ⟨_, rfl, _, _, rfl, rfl, _, rfl, ?_⟩
        change ite _ _ _
        refine ite2 (fun c => ?_) (fun c => ?_)
        · refine ⟨_, rfl, _, rfl, a, _, rfl, .inr (TB.Same.tup hid_sub hA), _, _, rfl, rfl, L, S, (xs.length : Int) + 1, _, rfl, by omega, by omega, f2, by omega, fun H3 at_ k3 f3 l3 u3 => ?_⟩
          obtain ⟨i, rfl⟩ : ∃ i : Nat, at_ = (i : Int) := ⟨at_.toNat, by omega⟩
          have kk3 : But L H H3 := kk2.trans k3
          have w23 : Same (hid F' H2) (hid F' H3) := hid_but hL k3
          have hA3 : SqT K (hid F' H3) a xs := TB.Same.tup w23 hA
          have t3 := tkb kk3 f3
          show tSeq _ _ _ [some (.ref L), some (.ref a), some (.ref oa), some (.int (i : Int)), some (.int wy)] _
          refine ⟨_, rfl, rfl, _, rfl, ?_⟩
          refine ite2 (fun c2 => ?_) (fun c2 => ?_)
          · -- one more
            refine ⟨_, rfl, _, rfl, _, rfl, ?_⟩
            show rSlA _ _ none (some (i : Int)) _ _
            refine slH t3 hA3 fun H4 r1 s4 h1 => ?_
            have t4 := t3.same s4
            refine ⟨_, rfl, _, rfl, _, rfl, oa, _, rfl, .inr (TB.Same.tup (hid_sub.trans s4) (TB.Same.tup w23 hO2)), L, S, _, _, rfl, by omega, by omega, f3.same s4, by omega, fun H5 v5 k5 f5 l5 u5 => ?_⟩
            have w35 : Same (hid F' H3) (hid F' H5) := (hid_same s4).trans (hid_but hL k5)
            have kk5 : But L H H5 := (kk3.same s4).trans k5
            have t5 := tkb kk5 f5
            obtain ⟨x5, d5, ex5, dx5, md5⟩ := pickD (DpAll.same (w23.trans w35) _ _ dO2) l5 (by omega)
            refine ⟨oa, _, _, _, rfl, rfl, TB.Same.tup hid_sub (TB.Same.tup (w23.trans w35) hO2), ex5, ?_⟩
            refine ⟨by show (1 : Nat) ≤ sizeLine; decide, fun p6 n6 => ?_⟩
            have s6 := same_upd (o := .tup [x5]) n6
            have t6 := t5.same s6
            have h6 : SqT K (hid F' (upd H5 p6 (.tup [x5]))) p6 [x5] := newT t5 n6
            generalize upd H5 p6 (.tup [x5]) = H6 at *
            refine catH t6 (TB.Same.tup ((hid_but hL k5).trans (hid_same s6)) h1) h6 (by have := cutV_small none (some (i : Int)) xl; show _ + 1 ≤ sizeLine; exact Nat.le_of_lt (small1000 (by omega))) fun H7 r7 s7 h7 => ?_
            have t7 := t6.same s7
            refine ⟨_, rfl, _, rfl, _, rfl, ?_⟩
            try (show tNoPart _ _ _; unfold tNoPart)
            show rSlA _ _ (some (i : Int)) none _ _
            have w37 : Same (hid F' H3) (hid F' H7) := w35.trans ((hid_same s6).trans (hid_same s7))
            refine slH t7 (TB.Same.tup w37 hA3) fun H8 r8 s8 h8 => ?_
            have t8 := t7.same s8
            refine catH t8 (TB.Same.tup (hid_same s8) h7) h8 (by have := cutV_small none (some (i : Int)) xl; have := cutV_small (some (i : Int)) none xl; rw [List.length_append]; show _ + 1 + _ ≤ sizeLine; exact Nat.le_of_lt (small1000 (by omega))) fun H9 r9 s9 h9 => ?_
            have w39 : Same (hid F' H3) (hid F' H9) := w37.trans ((hid_same s8).trans (hid_same s9))
            have dA9 : DpAll K (hid F' H9) xs ds := DpAll.same (w23.trans w39) _ _ dA
            refine q _ _ (.tuple ((cutD ds none (some (i : Int)) ++ [d5]) ++ cutD ds (some (i : Int)) none)) (kk5.same (s6.trans (s7.trans (s8.trans s9)))) ((f5.same (s6.trans (s7.trans (s8.trans s9)))).mono (by omega)) (.tup h9 (DpAll.app (DpAll.app (DpAll.cut dA9) (.cons (Dp.same (hid_same (s6.trans (s7.trans (s8.trans s9)))) _ _ dx5) .nil)) (DpAll.cut dA9))) ?_
            have of5 := odd_fit d5 md5
            have of5s := of5.sz
            refine (fit_tup (m := 2 * m + 29) (k := k + 2) (j := j + 1) ?_ fun e he => ?_).mono (by omega) (by omega) (Nat.le_refl _)
            · have c1 := szs_cut ds none (some (i : Int))
              have c2 := szs_cut ds (some (i : Int)) none
              rw [szs_app, szs_app]
              have : szs [d5] = sz d5 := by simp [szs]
              omega
            · rcases List.mem_append.mp he with z | z
              · rcases List.mem_append.mp z with z | z
                · have := up (cutD_mem z)
                  exact ⟨by omega, this.2⟩
                · rw [List.mem_singleton.mp z]
                  have := of5.dp
                  exact ⟨by omega, Ats.mono (by omega) _ of5.at_⟩
              · have := up (cutD_mem z)
                exact ⟨by omega, this.2⟩
          · refine ⟨_, rfl, rfl, _, rfl, ?_⟩
            refine ite2 (fun c3 => ?_) (fun c3 => ?_)
            · -- one out
              refine ⟨_, rfl, _, rfl, _, rfl, ?_⟩
              show rSlA _ _ none (some (i : Int)) _ _
              refine slH t3 hA3 fun H4 r1 s4 h1 => ?_
              have t4 := t3.same s4
              refine ⟨_, rfl, _, rfl, _, _, rfl, rfl, _, rfl, ?_⟩
              try (show tNoPart _ _ _; unfold tNoPart)
              show rSlA _ _ (some ((i : Int) + 1)) none _ _
              refine slH t4 (TB.Same.tup (hid_same s4) hA3) fun H5 r2 s5 h2 => ?_
              have t5 := t4.same s5
              refine catH t5 (TB.Same.tup (hid_same s5) h1) h2 (by have := cutV_small none (some (i : Int)) xl; have := cutV_small (some ((i : Int) + 1)) none xl; exact Nat.le_of_lt (small1000 (by omega))) fun H6 r6 s6 h6 => ?_
              have w36 : Same (hid F' H3) (hid F' H6) := (hid_same s4).trans ((hid_same s5).trans (hid_same s6))
              have dA6 : DpAll K (hid F' H6) xs ds := DpAll.same (w23.trans w36) _ _ dA
              refine q _ _ (.tuple (cutD ds none (some (i : Int)) ++ cutD ds (some ((i : Int) + 1)) none)) (kk3.same (s4.trans (s5.trans s6))) ((f3.same (s4.trans (s5.trans s6))).mono (by omega)) (.tup h6 (DpAll.app (DpAll.cut dA6) (DpAll.cut dA6))) ?_
              refine (fit_tup (m := 2 * m + 29) (k := k + 2) (j := j + 1) ?_ fun e he => ?_).mono (by omega) (by omega) (Nat.le_refl _)
              · have c1 := szs_cut ds none (some (i : Int))
                have c2 := szs_cut ds (some ((i : Int) + 1)) none
                rw [szs_app]
                omega
              · rcases List.mem_append.mp he with z | z
                · have := up (cutD_mem z)
                  exact ⟨by omega, this.2⟩
                · have := up (cutD_mem z)
                  exact ⟨by omega, this.2⟩
            · refine ⟨_, rfl, rfl, _, rfl, ?_⟩
              refine ite2 (fun c4 => ?_) (fun c4 => ?_)
              · -- a list
                refine ⟨_, rfl, a, _, rfl, .inr (TB.Same.tup hid_sub hA3), fun p4 n4 => ?_⟩
                have s4 := same_upd (o := .lst xs) n4
                refine q _ _ (.list ds) (kk3.same s4) ((f3.same s4).mono (by omega)) (.lst (newL t3 n4) (DpAll.same (w23.trans (hid_same s4)) _ _ dA)) ?_
                exact (fit_lst (m := 2 * m + 29) (k := k + 2) (j := j + 1) (by omega) fun e he => ⟨by have := (up he).1; omega, (up he).2⟩).mono (by omega) (by omega) (Nat.le_refl _)
              · -- more of it
                refine ⟨_, rfl, _, rfl, _, rfl, _, rfl, ?_⟩
                show rSlA _ _ none (some (i : Int)) _ _
                refine slH t3 hA3 fun H4 r1 s4 h1 => ?_
                have t4 := t3.same s4
                refine catH t4 (TB.Same.tup (hid_same s4) hA3) h1 (by have := cutV_small none (some (i : Int)) xl; exact Nat.le_of_lt (small1000 (by omega))) fun H5 r5 s5 h5 => ?_
                have w35 : Same (hid F' H3) (hid F' H5) := (hid_same s4).trans (hid_same s5)
                have dA5 : DpAll K (hid F' H5) xs ds := DpAll.same (w23.trans w35) _ _ dA
                refine q _ _ (.tuple (ds ++ cutD ds none (some (i : Int)))) (kk3.same (s4.trans s5)) ((f3.same (s4.trans s5)).mono (by omega)) (.tup h5 (DpAll.app dA5 (DpAll.cut dA5))) ?_
                refine (fit_tup (m := 2 * m + 29) (k := k + 2) (j := j + 1) ?_ fun e he => ?_).mono (by omega) (by omega) (Nat.le_refl _)
                · have c1 := szs_cut ds none (some (i : Int))
                  rw [szs_app]
                  omega
                · rcases List.mem_append.mp he with z | z
                  · have := up z
                    exact ⟨by omega, this.2⟩
                  · have := up (cutD_mem z)
                    exact ⟨by omega, this.2⟩
        · exact ⟨rfl, rfl⟩
      | non =>
        refine iteF ?_
        change ite _ _ _
        exact iteF ⟨rfl, rfl⟩
      | bl b =>
        refine iteF ?_
        change ite _ _ _
        exact iteF ⟨rfl, rfl⟩
      | int i =>
        refine iteF ?_
        change ite _ _ _
        exact iteF ⟨rfl, rfl⟩
      | str z =>
        refine iteF ?_
        change ite _ _ _
        exact iteF ⟨rfl, rfl⟩
      | lst h _ =>
        refine iteF ?_
        change ite _ _ _
        exact iteF ⟨rfl, rfl⟩
    rintro σ' H' ⟨rfl, rfl⟩
    -- numbers
    refine ⟨fun σ' H' => σ' = [some (.ref L), some v, some (.ref oa), none, some (.int wy)] ∧ H2 = H', ?_, ?_⟩
    · have key : isIn d = true → ∃ i, Nm v i ∧ i.natAbs < 2 ^ (700 + j) ∧ PyData.depth d = 0 ∧ sz d = 1 := fun z => by
        have ft' := ft.at_
        cases hd2 with
        | int i =>
          simp only [Ats] at ft'
          exact ⟨i, .int i, ft', by simp only [PyData.depth], by simp only [sz]⟩
        | bl b => exact ⟨_, .bl b, by cases b <;> exact Nat.lt_of_le_of_lt (by decide) (Nat.lt_of_lt_of_le (show 1 < 2 ^ 1 by decide) (Nat.pow_le_pow_right (by decide) (by omega))), by simp only [PyData.depth], by simp only [sz]⟩
        | non => cases z
        | str z' => cases z
        | lst h _ => cases z
        | tup h _ => cases z
      obtain ⟨ty, hty, kty⟩ := isiI (Dp.same hid_sub _ _ hd2)
      refine ⟨_, rfl, _, .ty "int", ty, .type "int", _, rfl, .ty _, hty, kty, _, rfl, ?_⟩
      refine ite2 (fun c0 => ?_) (fun c0 => ?_)
      · obtain ⟨i, nm, hi, dz, s1⟩ := key c0
        refine ⟨_, rfl, _, _, rfl, rfl, _, rfl, ?_⟩
        change ite _ _ _
        refine ite2 (fun c => ?_) (fun c => ?_)
        · have c' : wy < 4 := of_decide_eq_true c
          refine ⟨_, rfl, _, _, nm, rfl, _, rfl, _, _, nm, rfl, _, rfl, _, nm, _, rfl, by show (1 : Nat) ≤ sizeLine; decide, fun p1 n1 => ⟨by show (4 : Nat) ≤ sizeLine; decide, fun p2 n2 => ?_⟩⟩
          have s1' := same_upd (o := .tup [v]) n1
          have h1 : SqT K (hid F' (upd H2 p1 (.tup [v]))) p1 [v] := newT t2 n1
          have s2' := same_upd (o := .tup [.int (i + 1), .int (i - 1), .int (-i), .ref p1]) n2
          have tT : SqT K _ p2 [.int (i + 1), .int (i - 1), .int (-i), .ref p1] := .inl (.inl (upd_same (H := upd H2 p1 (.tup [v])) (a := p2)))
          have k3 := kk2.same (s1'.trans s2')
          have f3 := (f2.same (s1'.trans s2')).mono (show T + 2 ≤ T + 4 * ((k : Int) + 1) by omega)
          have pw : 2 * 2 ^ (700 + j) = 2 ^ (700 + (j + 1)) := by rw [show 700 + (j + 1) = 700 + j + 1 by omega, Nat.pow_succ]; omega
          have one : 1 ≤ 2 ^ (700 + j) := Nat.one_le_two_pow
          have fi : ∀ {x : Int}, x.natAbs ≤ i.natAbs + 1 → Fit (2 * m + 30) (k + 3) (j + 1) (.int x) := fun {x} hx => ⟨by simp only [sz]; omega, by simp only [PyData.depth]; omega, by simp only [Ats]; omega⟩
          have c4 : wy = 0 ∨ wy = 1 ∨ wy = 2 ∨ wy = 3 := by omega
          rcases c4 with rfl | rfl | rfl | rfl
          · exact ⟨_, rfl, p2, _, 0, _, rfl, rfl, tT, atI_nat (j := 0) rfl, q _ _ _ k3 f3 (.int _) (fi (by omega))⟩
          · exact ⟨_, rfl, p2, _, 1, _, rfl, rfl, tT, atI_nat (j := 1) rfl, q _ _ _ k3 f3 (.int _) (fi (by omega))⟩
          · exact ⟨_, rfl, p2, _, 2, _, rfl, rfl, tT, atI_nat (j := 2) rfl, q _ _ _ k3 f3 (.int _) (fi (by omega))⟩
          · refine ⟨_, rfl, p2, _, 3, _, rfl, rfl, tT, atI_nat (j := 3) rfl, q _ _ (.tuple [d]) k3 f3 (.tup (TB.Same.tup (hid_same s2') h1) (.cons (Dp.same (hid_same (s1'.trans s2')) _ _ hd2) .nil)) ?_⟩
            refine (fit_tup (m := 2 * m + 29) (k := k + 2) (j := j + 1) (by simp only [szs]; omega) fun e he => ?_).mono (by omega) (by omega) (Nat.le_refl _)
            rw [List.mem_singleton.mp he]
            exact ⟨by omega, Ats.mono (by omega) _ ft.at_⟩
        · exact ⟨rfl, rfl⟩
      · change ite _ _ _
        exact iteF ⟨rfl, rfl⟩
    rintro σ' H' ⟨rfl, rfl⟩
    -- texts
    refine ⟨fun σ' H' => σ' = [some (.ref L), some v, some (.ref oa), none, some (.int wy)] ∧ H2 = H', ?_, ?_⟩
    · have ft' := ft.at_
      obtain ⟨ty, hty, kty⟩ := isiS (Dp.same hid_sub _ _ hd2)
      refine ⟨_, rfl, _, .ty "str", ty, .type "str", _, rfl, .ty _, hty, kty, _, rfl, ?_⟩
      cases hd2 with
      | str z =>
        simp only [Ats] at ft'
        obtain ⟨az, lz⟩ := ft'
        refine iteT ?_
        refine ⟨_, rfl, _, _, rfl, rfl, _, rfl, ?_⟩
        change ite _ _ _
        have zs : z.length ≤ sizeLine := by rw [sizeLine_eq]; omega
        refine ite2 (fun c => ?_) (fun c => ?_)
        · have c' : wy < 3 := of_decide_eq_true c
          refine ⟨_, rfl, z, "a", rfl, rfl, (by show z.length + 1 ≤ sizeLine; rw [sizeLine_eq]; omega), _, rfl, 1, rfl, z, rfl, zs, _, rfl, by show (1 : Nat) ≤ sizeLine; decide, fun p1 n1 => ⟨by show (3 : Nat) ≤ sizeLine; decide, fun p2 n2 => ?_⟩⟩
          have s1' := same_upd (o := .lst [.str z]) n1
          have h1 : SqL K (hid F' (upd H2 p1 (.lst [.str z]))) p1 [.str z] := newL t2 n1
          have s2' := same_upd (o := .tup [.str (z ++ "a"), .str (cutS z (some 1) none), .ref p1]) n2
          have tT : SqT K _ p2 [.str (z ++ "a"), .str (cutS z (some 1) none), .ref p1] := .inl (.inl (upd_same (H := upd H2 p1 (.lst [.str z])) (a := p2)))
          have k3 := kk2.same (s1'.trans s2')
          have f3 := (f2.same (s1'.trans s2')).mono (show T + 2 ≤ T + 4 * ((k : Int) + 1) by omega)
          have aa : asc ("a" : Str) := by
            have : ∀ c ∈ ("a" : Str).cps.toList, c < 128 := by decide +kernel
            exact this
          have c4 : wy = 0 ∨ wy = 1 ∨ wy = 2 := by omega
          rcases c4 with rfl | rfl | rfl
          · refine ⟨_, rfl, p2, _, 0, _, rfl, rfl, tT, atI_nat (j := 0) rfl, q _ _ _ k3 f3 (.str _) ⟨by simp only [sz]; omega, by simp only [PyData.depth]; omega, ?_⟩⟩
            simp only [Ats]
            refine ⟨asc_app az aa, ?_⟩
            rw [Str.length_append]
            show z.length + 1 ≤ _
            omega
          · refine ⟨_, rfl, p2, _, 1, _, rfl, rfl, tT, atI_nat (j := 1) rfl, q _ _ _ k3 f3 (.str _) ⟨by simp only [sz]; omega, by simp only [PyData.depth]; omega, ?_⟩⟩
            simp only [Ats]
            have := cutS_len z (some 1) none
            exact ⟨asc_cut az _ _, by omega⟩
          · refine ⟨_, rfl, p2, _, 2, _, rfl, rfl, tT, atI_nat (j := 2) rfl, q _ _ (.list [.str z]) k3 f3 (.lst ((hid_same s2').seq h1) (.cons (.str _) .nil)) ?_⟩
            refine (fit_lst (m := 2 * m + 29) (k := k + 2) (j := j + 1) (by simp only [szs, sz]; omega) fun e he => ?_).mono (by omega) (by omega) (Nat.le_refl _)
            rw [List.mem_singleton.mp he]
            exact ⟨by simp only [PyData.depth]; omega, by simp only [Ats]; exact ⟨az, by omega⟩⟩
        · exact ⟨rfl, rfl⟩
      | non =>
        refine iteF ?_
        change ite _ _ _
        exact iteF ⟨rfl, rfl⟩
      | bl b =>
        refine iteF ?_
        change ite _ _ _
        exact iteF ⟨rfl, rfl⟩
      | int i =>
        refine iteF ?_
        change ite _ _ _
        exact iteF ⟨rfl, rfl⟩
      | lst h _ =>
        refine iteF ?_
        change ite _ _ _
        exact iteF ⟨rfl, rfl⟩
      | tup h _ =>
        refine iteF ?_
        change ite _ _ _
        exact iteF ⟨rfl, rfl⟩
    rintro σ' H' ⟨rfl, rfl⟩
    -- an odd one
    refine ⟨_, rfl, _, rfl, _, rfl, oa, _, rfl, .inr (TB.Same.tup hid_sub hO2), L, S, _, _, rfl, by omega, by omega, f2, by omega, fun H3 v3 k3 f3 l3 u3 => ?_⟩
    have w23 : Same (hid F' H2) (hid F' H3) := hid_but hL k3
    obtain ⟨x3, d3, ex3, dx3, md3⟩ := pickD (DpAll.same w23 _ _ dO2) l3 (by omega)
    refine ⟨oa, _, _, _, rfl, rfl, TB.Same.tup hid_sub (TB.Same.tup w23 hO2), ex3, ?_⟩
    exact q _ _ d3 (kk2.trans k3) (f3.mono (by omega)) dx3 ((odd_fit d3 md3).mono (by omega) (by omega) (by omega))
end
end K10

set_option Elab.async false
set_option linter.all false
set_option maxRecDepth 100000
set_option maxHeartbeats 4000000
namespace K10
open PySem PySem.Spec PyProof.Rows L2 TB K09

theorem scJu : FnScope ["_law_total_here", "_law_weights_here", "_law_thing", "_law_odd_here", "_law_low", "_law_left", "_law_parts_here", "_law_stay", "_law_k", "_law_steps", "_law_part", "_law_weight", "_law_step", "_law_rest"] ["_law_total_here", "_law_weights_here", "_law_thing"] (defScope sJu) := ⟨rfl, rfl, rfl, by decide +kernel, rfl, by decide +kernel, by decide +kernel⟩
/-! ### what is owed of a thing -/
def noD (z : Str) (i : Int) : PyData := .tuple [.str "no", .str z, .int i]
def toldD (n : Int) : PyData := .tuple [.str "told", .int n]
def toI : PyData → Int
  | .int i => i
  | _ => 0
def fst (p : Nat → Bool) (n : Nat) : Option Nat := (List.range n).find? p
def fl (p : Nat → Bool) (n : Nat) : List Nat := (List.range n).filter p
theorem fl_more (p : Nat → Bool) (n : Nat) : fl p (n + 1) = fl p n ++ if p n = true then [n] else [] := by
  unfold fl
  rw [List.range_succ, List.filter_append]
  congr 1
  by_cases c : p n = true
  · rw [if_pos c, List.filter_cons, if_pos c]
    rfl
  · rw [if_neg c, List.filter_cons, if_neg c]
    rfl
theorem fl_len (p : Nat → Bool) (n : Nat) : (fl p n).length ≤ n := by
  unfold fl
  exact Nat.le_trans (List.length_filter_le _ _) (by rw [List.length_range]; exact Nat.le_refl _)
theorem fl_none {p : Nat → Bool} {n : Nat} (h : fl p n = []) : ∀ j, j < n → p j = false := fun j hj => by
  cases e : p j with
  | false => rfl
  | true =>
    have : j ∈ fl p n := List.mem_filter.mpr ⟨List.mem_range.mpr hj, e⟩
    rw [h] at this
    cases this
theorem fl_some {p : Nat → Bool} : ∀ {n : Nat}, fl p n ≠ [] → ∃ i, (fl p n)[0]? = some i ∧ i < n ∧ p i = true ∧ ∀ j, j < i → p j = false
  | 0, h => absurd rfl h
  | n + 1, h => by
    by_cases c : fl p n = []
    · rw [fl_more, c, List.nil_append] at h ⊢
      by_cases d : p n = true
      · rw [if_pos d]
        exact ⟨n, rfl, Nat.lt_succ_self _, d, fl_none c⟩
      · rw [if_neg d] at h
        exact absurd rfl h
    · obtain ⟨i, a, b, e⟩ := fl_some c
      refine ⟨i, ?_, by omega, e⟩
      rw [fl_more, List.getElem?_append_left (List.length_pos_iff.mpr c)]
      exact a
theorem fst_some {p : Nat → Bool} {n i : Nat} (hi : i < n) (h1 : p i = true) (h2 : ∀ j, j < i → p j = false) : fst p n = some i := by
  unfold fst
  induction n with
  | zero => omega
  | succ n ih =>
    rw [List.range_succ, List.find?_append]
    by_cases c : i < n
    · rw [ih c]
      rfl
    · obtain rfl : i = n := by omega
      have e : (List.range i).find? p = none := List.find?_eq_none.mpr fun j hj => by
        rw [h2 j (List.mem_range.mp hj)]
        exact Bool.false_ne_true
      rw [e]
      simp [h1]
theorem fst_none {p : Nat → Bool} {n : Nat} (h : ∀ j, j < n → p j = false) : fst p n = none :=
  List.find?_eq_none.mpr fun j hj => by
    rw [h j (List.mem_range.mp hj)]
    exact Bool.false_ne_true
def verd (t : Int) (ws : List Int) : PyData → PyData
  | .tuple ds => if ds.length = ws.length then
      (match fst (fun i => !isNum (ds.getD i .none)) ds.length with
       | some i => noD "number" i
       | none => if (ds.map toI).sum = t then
           (match fst (badC (lows t ws) (ds.map toI)) ds.length with
            | some i => noD "cut" i
            | none => match fst (badR (lows t ws) (rsts t ws) (ds.map toI)) ds.length with
              | some i => noD "rest" i
              | none => toldD (off t ws (ds.map toI)))
         else noD "sum" (-1))
      else noD "shape" (-1)
  | _ => noD "shape" (-1)
section
variable {t : Int} {ws : List Int}
theorem verd_shape {d : PyData} (h : isTup ws.length d = false) : verd t ws d = noD "shape" (-1) := by
  cases d with
  | tuple ds =>
    have : ¬ ds.length = ws.length := fun z => of_decide_eq_false h (by omega)
    show ite _ _ _ = _
    rw [if_neg this]
  | _ => rfl
theorem verd_num {ds : List PyData} {i : Nat} (hl : ds.length = ws.length) (hi : i < ds.length) (h1 : isNum (ds.getD i .none) = false) (h2 : ∀ j, j < i → isNum (ds.getD j .none) = true) : verd t ws (.tuple ds) = noD "number" i := by
  show ite _ _ _ = _
  rw [if_pos hl, fst_some (p := fun i => !isNum (ds.getD i .none)) hi (by rw [h1]; rfl) fun j hj => by rw [h2 j hj]; rfl]
theorem toI_ints : ∀ ps : List Int, (dInts ps).map toI = ps
  | [] => rfl
  | p :: ps => by
    show p :: (dInts ps).map toI = _
    rw [toI_ints ps]
theorem dl (ps : List Int) : (dInts ps).length = ps.length := List.length_map _
theorem num_ints (ps : List Int) : ∀ j, j < (dInts ps).length → (!isNum ((dInts ps).getD j .none)) = false := fun j hj => by
  have e : (dInts ps)[j]? = some (.int (ps.getD j 0)) := by
    unfold dInts
    rw [List.getElem?_map, getD_of (by rw [dl] at hj; exact hj)]
    rfl
  rw [List.getD_eq_getElem?_getD, e]
  rfl
theorem verd_ints {ps : List Int} (hl : ps.length = ws.length) : verd t ws (.tuple (dInts ps)) = if ps.sum = t then
    (match fst (badC (lows t ws) ps) ps.length with
     | some i => noD "cut" i
     | none => match fst (badR (lows t ws) (rsts t ws) ps) ps.length with
       | some i => noD "rest" i
       | none => toldD (off t ws ps))
    else noD "sum" (-1) := by
  show ite _ _ _ = _
  rw [if_pos (by rw [dl]; exact hl), fst_none (num_ints ps), toI_ints, dl]
theorem verd_sum {ps : List Int} (hl : ps.length = ws.length) (h : ps.sum ≠ t) : verd t ws (.tuple (dInts ps)) = noD "sum" (-1) := by
  rw [verd_ints hl, if_neg h]
theorem verd_cut {ps : List Int} {i : Nat} (hl : ps.length = ws.length) (h : ps.sum = t) (hi : i < ps.length) (h1 : badC (lows t ws) ps i = true) (h2 : ∀ j, j < i → badC (lows t ws) ps j = false) : verd t ws (.tuple (dInts ps)) = noD "cut" i := by
  rw [verd_ints hl, if_pos h, fst_some hi h1 h2]
theorem verd_rest {ps : List Int} {i : Nat} (hl : ps.length = ws.length) (h : ps.sum = t) (hc : ∀ i, i < ps.length → badC (lows t ws) ps i = false) (hi : i < ps.length) (h1 : badR (lows t ws) (rsts t ws) ps i = true) (h2 : ∀ j, j < i → badR (lows t ws) (rsts t ws) ps j = false) :
    verd t ws (.tuple (dInts ps)) = noD "rest" i := by
  rw [verd_ints hl, if_pos h, fst_none hc, fst_some hi h1 h2]
theorem verd_ok {ps : List Int} (hl : ps.length = ws.length) (h : ps.sum = t) (hp : passes t ws ps) : verd t ws (.tuple (dInts ps)) = toldD (off t ws ps) := by
  rw [verd_ints hl, if_pos h, fst_none hp.1, fst_none hp.2]
end
theorem in01 (x : Int) : inV (.int x) [.int 0, .int 1] = decide (x = 0 ∨ x = 1) := by
  show (eqV (.int 0) (.int x) || (eqV (.int 1) (.int x) || false)) = _
  have e : ∀ j : Int, eqV (.int j) (.int x) = decide (j = x) := fun j => by
    first
      | rfl
      | (unfold eqV; rfl)
      | (simp [eqV])
  rw [e, e]
  by_cases a : x = 0
  · subst a
    rfl
  · by_cases b : x = 1
    · subst b
      rfl
    · rw [decide_eq_false (Ne.symm a), decide_eq_false (Ne.symm b), decide_eq_false (by omega)]
      rfl
theorem max_ab (x : Int) : (if -x > x then -x else x) = ab x := by
  unfold ab
  by_cases c : x < 0
  · rw [if_pos c, if_pos (by omega)]
  · rw [if_neg c]
    by_cases d : -x > x
    · omega
    · rw [if_neg d]
section
variable {P : Program} {w : World} {K : PySem.W.Frag} {mg : Str → Option Value} {base : Heap}
theorem dp_no {H : Hp} {r : Addr} {z : Str} {i : Int} (h : H r = some (.tup [.str "no", .str z, .int i])) : Dp K H (.ref r) (noD z i) := .tup (.inl (.inl h)) (.cons (.str _) (.cons (.str _) (.cons (.int _) .nil)))
theorem dp_told {H : Hp} {r : Addr} {n : Int} (h : H r = some (.tup [.str "told", .int n])) : Dp K H (.ref r) (toldD n) := .tup (.inl (.inl h)) (.cons (.str _) (.cons (.int _) .nil))
def spJu (K : PySem.W.Frag) : Sp := fun vs H Q _ => ∃ (a : Addr) (v : V) (t : Int) (ws : List Int) (d : PyData), vs = [.int t, .ref a, v] ∧ SqT K H a (ws.map V.int) ∧ OkW t ws ∧ Dp K H v d ∧ ∀ (H' : Hp) (r : V), Same H H' → Dp K H' r (verd t ws d) → Q r H'
theorem natV (ns : List Nat) : (ns.map fun k : Nat => V.int (k : Int)) = (ns.map fun k : Nat => (k : Int)).map V.int := by rw [List.map_map]; rfl
theorem ok_ju {f fNm fP : Addr} {fd fdNm fdP : FuncData} (F : Fun K "_law_judged" "_law_judged" sJu f fd)
    (GNm : FnOk P w K mg base CX0 1 fNm fdNm ["_law_thing"] (spKind K isNum)) (kNm : PySem.W.keepIn K (.ref fNm) = true) (bNm : Binds K fdNm ["_law_thing"] []) (gNm : mg "_law_number" = some (.ref fNm))
    (GP : FnOk P w K mg base CX0 1 fP fdP ["_law_total_here", "_law_weights_here"] (spPa K)) (kP : PySem.W.keepIn K (.ref fP) = true) (bP : Binds K fdP ["_law_total_here", "_law_weights_here"] []) (gP : mg "_law_parts" = some (.ref fP))
    (m_isinstance : mg "isinstance" = none) (m_tuple : mg "tuple" = none) (m_len : mg "len" = none) (m_range : mg "range" = none) (m_sum : mg "sum" = none) (m_zip : mg "zip" = none) (m_max : mg "max" = none) :
    FnOk P w K mg base CX0 2 f fd ["_law_total_here", "_law_weights_here", "_law_thing"] (spJu K) := by
  refine F.ok scJu (fun vs H Q E h => ?_) (fun cdv A outer s H vs Q E hr h => ?_)
  · obtain ⟨a, v, t, ws, d, rfl, _⟩ := h
    rfl
  · obtain ⟨a, v, t, ws, d, rfl, hA, ok, hd, q⟩ := h
    refine ⟨_, (pss_cons (ps_if (PW.pt (pw_or (pt_not (pt_val (pe_callB call_isi (by rfl) m_isinstance (by decide +kernel) (pa_cons (pv 2) (pa_cons (pe_bltn (v := .ty "tuple") (u := .type "tuple") (by rfl) m_tuple (by decide +kernel) rfl) pa_nil))))) (pw_or1 (pt_cmpR op_ne (pe_callB call_len_seq (by rfl) m_len (by decide +kernel) (pa_cons (pv 2) pa_nil)) (pe_callB call_len_seq (by rfl) m_len (by decide +kernel) (pa_cons (pv 1) pa_nil)) (nomark _))))) (pss_one (ps_ret (pe_tup (pa_cons pe_str (pa_cons pe_str (pa_cons (pe_un un_neg pe_int) pa_nil)))))) pss_nil)
      (pss_cons (ps_setLc (i := 3) (own := [("_law_k", 8)]) (g := gName 8) (tt := tNot (tB (tCall (spKind K isNum) [] (fun _ _ _ => False) (tCons (tOp (rIxT K) (tVar 2) (tVar 8)) tNil)))) rfl scJu.nd rfl rfl (sw_true rfl rfl rfl (by decide +kernel)) (pi_range1 (by rfl) m_range (pa_cons (pe_callB call_len_seq (by rfl) m_len (by decide +kernel) (pa_cons (pv 2) pa_nil)) pa_nil)) (blkOk_by (own := [("_law_k", 8)]) (N := ["_law_total_here", "_law_weights_here", "_law_thing", "_law_odd_here", "_law_low", "_law_left", "_law_parts_here", "_law_stay", "_law_k", "_law_steps", "_law_part", "_law_weight", "_law_step", "_law_rest"]) (sc := defScope sJu) (by decide +kernel)) (fun _ _ _ _ _ => (pg_name (i := 8) scJu.nd rfl (.inl rfl))) (fun _ _ _ _ _ => (pts_one (pt_not (pt_val (pe_call GNm (hr.mono (by decide)) (by rfl) gNm kNm bNm .nil pass0 (pa_cons (pe_ix ix_tup (pv 2) (pv 8) (fun _ _ => rfl)) pa_nil)))))) (fun _ _ _ _ _ => (pv 8)))
      (pss_cons (ps_if (pt_cmpR (op_neD hr.units) (pv 3) (pe_lst pa_nil) (nomark _)) (pss_one (ps_ret (pe_tup (pa_cons pe_str (pa_cons pe_str (pa_cons (pe_ix ix_list (pv 3) pe_int (fun _ _ => rfl)) pa_nil)))))) pss_nil)
      (pss_cons (ps_if (pt_cmpR op_ne (pe_callB (call_sumT rfl) (by rfl) m_sum (by decide +kernel) (pa_cons (pv 2) pa_nil)) (pv 0) (nomark _)) (pss_one (ps_ret (pe_tup (pa_cons pe_str (pa_cons pe_str (pa_cons (pe_un un_neg pe_int) pa_nil)))))) pss_nil)
      (pss_cons (ps_asg (pe_call GP (hr.mono (by decide)) (by rfl) gP kP bP .nil pass0 (pa_cons (pv 0) (pa_cons (pv 1) pa_nil))) (pg_tup rfl (pgs_cons (pg_name (i := 4) scJu.nd rfl (.inr rfl)) (pgs_cons (pg_name (i := 5) scJu.nd rfl (.inr rfl)) (pgs_cons (pg_name (i := 6) scJu.nd rfl (.inl rfl)) pgs_nil)))))
      (pss_cons (ps_setLc (i := 3) (own := [("_law_k", 8)]) (g := gName 8) (tt := tTest (tOp (rIn K true) (tOp (rI0 fun i j => .int (i - j)) (tOp (rIxT K) (tVar 2) (tVar 8)) (tOp (rIxL K) (tVar 4) (tVar 8))) (tTup (tCons (tC (.int 0)) (tCons (tC (.int 1)) tNil))))) rfl scJu.nd rfl rfl (sw_true rfl rfl rfl (by decide +kernel)) (pi_range1 (by rfl) m_range (pa_cons (pe_callB call_len_seq (by rfl) m_len (by decide +kernel) (pa_cons (pv 2) pa_nil)) pa_nil)) (blkOk_by (own := [("_law_k", 8)]) (N := ["_law_total_here", "_law_weights_here", "_law_thing", "_law_odd_here", "_law_low", "_law_left", "_law_parts_here", "_law_stay", "_law_k", "_law_steps", "_law_part", "_law_weight", "_law_step", "_law_rest"]) (sc := defScope sJu) (by decide +kernel)) (fun _ _ _ _ _ => (pg_name (i := 8) scJu.nd rfl (.inl rfl))) (fun _ _ _ _ _ => (pts_one (pt_cmpR op_notIn_seq (pe_op op_sub (pe_ix ix_tup (pv 2) (pv 8) (fun _ _ => rfl)) (pe_ix ix_list (pv 4) (pv 8) (fun _ _ => rfl))) (pe_tup (pa_cons pe_int (pa_cons pe_int pa_nil))) (by rfl)))) (fun _ _ _ _ _ => (pv 8)))
      (pss_cons (ps_if (pt_cmpR (op_neD hr.units) (pv 3) (pe_lst pa_nil) (nomark _)) (pss_one (ps_ret (pe_tup (pa_cons pe_str (pa_cons pe_str (pa_cons (pe_ix ix_list (pv 3) pe_int (fun _ _ => rfl)) pa_nil)))))) pss_nil)
      (pss_cons (ps_setLc (i := 7) (own := [("_law_k", 8)]) (g := gName 8) (tt := tTest (tOp rEq (tOp (rIxT K) (tVar 2) (tVar 8)) (tOp (rIxL K) (tVar 4) (tVar 8)))) (te := tOp (rIxL K) (tVar 5) (tVar 8)) rfl scJu.nd rfl rfl (sw_true rfl rfl rfl (by decide +kernel)) (pi_range1 (by rfl) m_range (pa_cons (pe_callB call_len_seq (by rfl) m_len (by decide +kernel) (pa_cons (pv 2) pa_nil)) pa_nil)) (blkOk_by (own := [("_law_k", 8)]) (N := ["_law_total_here", "_law_weights_here", "_law_thing", "_law_odd_here", "_law_low", "_law_left", "_law_parts_here", "_law_stay", "_law_k", "_law_steps", "_law_part", "_law_weight", "_law_step", "_law_rest"]) (sc := defScope sJu) (by decide +kernel)) (fun _ _ _ _ _ => (pg_name (i := 8) scJu.nd rfl (.inl rfl))) (fun _ _ _ _ _ => (pts_one (pt_cmpR op_eq (pe_ix ix_tup (pv 2) (pv 8) (fun _ _ => rfl)) (pe_ix ix_list (pv 4) (pv 8) (fun _ _ => rfl)) (nomark _)))) (fun _ _ _ _ _ => (pe_ix ix_list (pv 5) (pv 8) (fun _ _ => rfl))))
      (pss_cons (ps_for PassesOwn.never rfl (pi_range1 (by rfl) m_range (pa_cons (pe_callB call_len_seq (by rfl) m_len (by decide +kernel) (pa_cons (pv 2) pa_nil)) pa_nil)) (pg_name (i := 8) scJu.nd rfl (.inr rfl)) (pss_one (ps_if (PW.pt (pw_and (pt_cmpR op_gt (pe_ix ix_tup (pv 2) (pv 8) (fun _ _ => rfl)) (pe_ix ix_list (pv 4) (pv 8) (fun _ _ => rfl)) (nomark _)) (pw_and1 (pt_cmpR (op_neD hr.units) (pe_lc (own := [("_law_rest", 13)]) (g := gName 13) (tt := tTest (tOp (rI0 fun i j => .bl (decide (j < i))) (tVar 13) (tOp (rIxL K) (tVar 5) (tVar 8)))) rfl scJu.nd (pi_list (pv 7)) (blkOk_by (own := [("_law_rest", 13)]) (N := ["_law_total_here", "_law_weights_here", "_law_thing", "_law_odd_here", "_law_low", "_law_left", "_law_parts_here", "_law_stay", "_law_k", "_law_steps", "_law_part", "_law_weight", "_law_step", "_law_rest"]) (sc := defScope sJu) (by decide +kernel)) (fun _ _ _ _ _ => (pg_name (i := 13) scJu.nd rfl (.inl rfl))) (fun _ _ _ _ _ => (pts_one (pt_cmpR op_gt (pv 13) (pe_ix ix_list (pv 5) (pv 8) (fun _ _ => rfl)) (nomark _)))) (fun _ _ _ _ _ => (pv 13))) (pe_lst pa_nil) (nomark _))))) (pss_one (ps_ret (pe_tup (pa_cons pe_str (pa_cons pe_str (pa_cons (pv 8) pa_nil)))))) pss_nil)))
      (pss_cons (ps_setLc (i := 9) (own := [("_law_part", 10), ("_law_weight", 11)]) (g := gTup K 2 (gCons (gName 10) (gCons (gName 11) gNil))) (tt := tYes) (te := tOp (rI0 fun i j => .int (i - j)) (tOp (rI CMul fun i j => .int (i * j)) (tVar 10) (tCB (rSumT K) (tCons (tVar 1) tNil))) (tOp (rI CMul fun i j => .int (i * j)) (tVar 0) (tVar 11))) rfl scJu.nd rfl rfl (sw_true rfl rfl rfl (by decide +kernel)) (RZ.pi_zipA (by rfl) m_zip (pa_cons (pv 2) (pa_cons (pv 1) pa_nil))) (blkOk_by (own := [("_law_part", 10), ("_law_weight", 11)]) (N := ["_law_total_here", "_law_weights_here", "_law_thing", "_law_odd_here", "_law_low", "_law_left", "_law_parts_here", "_law_stay", "_law_k", "_law_steps", "_law_part", "_law_weight", "_law_step", "_law_rest"]) (sc := defScope sJu) (by decide +kernel)) (fun _ _ _ _ _ => (pg_tup rfl (pgs_cons (pg_name (i := 10) scJu.nd rfl (.inl rfl)) (pgs_cons (pg_name (i := 11) scJu.nd rfl (.inl rfl)) pgs_nil)))) (fun _ _ _ _ _ => pts_nil) (fun _ _ _ _ _ => (pe_op op_sub (pe_op op_mul (pv 10) (pe_callB (call_sumT rfl) (by rfl) m_sum (by decide +kernel) (pa_cons (pv 1) pa_nil))) (pe_op op_mul (pv 0) (pv 11)))))
      (pss_one (ps_ret (pe_tup (pa_cons pe_str (pa_cons (pe_callB (cr_sum rfl) (by rfl) m_sum (by decide +kernel) (pa_cons (pe_lc (own := [("_law_step", 12)]) (g := gName 12) (tt := tYes) rfl scJu.nd (pi_list (pv 9)) (blkOk_by (own := [("_law_step", 12)]) (N := ["_law_total_here", "_law_weights_here", "_law_thing", "_law_odd_here", "_law_low", "_law_left", "_law_parts_here", "_law_stay", "_law_k", "_law_steps", "_law_part", "_law_weight", "_law_step", "_law_rest"]) (sc := defScope sJu) (by decide +kernel)) (fun _ _ _ _ _ => (pg_name (i := 12) scJu.nd rfl (.inl rfl))) (fun _ _ _ _ _ => pts_nil) (fun _ _ _ _ _ => (pe_callB (call_max2 rfl) (by rfl) m_max (by decide +kernel) (pa_cons (pv 12) (pa_cons (pe_un un_neg (pv 12)) pa_nil))))) pa_nil)) pa_nil))))))))))))))), ?_⟩
    have n1 := ok.n1
    have n0 := ok.n0
    have no : ∀ {H1 : Hp} {z : Str} {i : Int} {r : Addr}, Same H H1 → H1 r = none → verd t ws d = noD z i → Q (.ref r) (upd H1 r (.tup [.str "no", .str z, .int i])) := fun {H1 z i r} sm nr e =>
      q _ _ (sm.trans (same_upd nr)) (by rw [e]; exact dp_no upd_same)
    obtain ⟨ty, hty, kty⟩ := isiT hd
    refine ⟨_, rfl, _, .ty "tuple", ty, .type "tuple", _, rfl, .ty _, hty, kty, _, rfl, ?_⟩
    have notup : isTp d = false → isTup ws.length d = false := fun z => by
      cases d with
      | tuple ds => cases z
      | _ => rfl
    change ite _ _ _
    refine ite2 (fun c0 => ?_) (fun c0 => ?_)
    · refine iteT ⟨1, rfl, by show (3 : Nat) ≤ sizeLine; decide, fun r nr => no (Same.refl H) nr (verd_shape (notup ?_))⟩
      cases e : isTp d with
      | false => rfl
      | true => rw [e] at c0; cases c0
    cases hd with
    | @tup p xs ds hp dp =>
      have xl := DpAll.len dp
      refine ⟨_, rfl, p, _, rfl, .inr hp, _, rfl, a, _, rfl, .inr hA, rfl, _, rfl, ?_⟩
      change ite _ _ _
      refine ite2 (fun c1 => ?_) (fun c1 => ?_)
      · refine ⟨1, rfl, by show (3 : Nat) ≤ sizeLine; decide, fun r nr => no (Same.refl H) nr (verd_shape (decide_eq_false fun z => ?_))⟩
        have : V.int (xs.length : Int) = V.int ((ws.map V.int).length : Int) := by rw [xl, List.length_map, z]
        rw [decide_eq_true this] at c1
        cases c1
      have dlen : ds.length = ws.length := by
        have : V.int (xs.length : Int) = V.int ((ws.map V.int).length : Int) := Decidable.byContradiction fun y => c1 (by rw [decide_eq_false y]; rfl)
        have := V.int.inj this
        rw [List.length_map] at this
        omega
      -- numbers
      show tSeq _ _ _ [some (.int t), some (.ref a), some (.ref p), none, none, none, none, none, none, none, none, none, none, none] _
      refine ⟨_, rfl, p, _, rfl, .inr hp, (xs.length : Int), rfl, by omega, by omega, fun D nD => ?_⟩
      refine lc_range (lo := 0) (n := (xs.length : Int).toNat) (fun j H1 => Same H H1 ∧ H1 D = some (.lst ((fl (fun i => !isNum (ds.getD i .none)) j).map fun k : Nat => V.int (k : Int)))) ⟨same_upd nD, upd_same⟩ (fun j H1 hj hP => ?_) (fun H1 hP => ?_)
      · obtain ⟨sm, eD⟩ := hP
        rw [Int.toNat_natCast] at hj
        have z0 : (0 : Int) + (j : Int) = j := Int.zero_add _
        obtain ⟨dj, hdj, dx⟩ := DpAll.get dp (List.getElem?_eq_getElem hj)
        have gj : ds.getD j .none = dj := by rw [List.getD_eq_getElem?_getD, hdj]; rfl
        refine ⟨rfl, ?_⟩
        refine ⟨_, rfl, _, rfl, p, _, _, _, rfl, rfl, TB.Same.tup sm hp, (by rw [z0]; exact atI_nat (List.getElem?_eq_getElem hj)), _, dj, rfl, Dp.same sm _ _ dx, fun H2 s2 => ⟨_, rfl, ?_⟩⟩
        refine ite2 (fun c => ?_) (fun c => ?_)
        · refine ⟨_, rfl, _, s2 _ _ eD, ?_, same_new nD (sm.trans s2), ?_⟩
          · rw [List.length_map]
            have := fl_len (fun i => !isNum (ds.getD i .none)) j
            exact small1000 (by omega)
          · rw [upd_same, fl_more, if_pos (by rw [gj]; exact c), List.map_append, z0]
            rfl
        · refine ⟨sm.trans s2, ?_⟩
          rw [fl_more, if_neg (by rw [gj]; exact c), List.append_nil]
          exact s2 _ _ eD
      obtain ⟨s1, eD⟩ := hP
      rw [Int.toNat_natCast, xl] at eD
      show tSeq _ _ _ [some (.int t), some (.ref a), some (.ref p), some (.ref D), none, none, none, none, none, none, none, none, none, none] _
      generalize hfl : fl (fun i => !isNum (ds.getD i .none)) ds.length = bs at eD
      rw [natV] at eD
      refine ⟨_, rfl, Nat.zero_le _, fun z nz => ?_⟩
      have s2 := same_upd (o := .lst []) nz
      refine ⟨.list (dInts (bs.map fun k : Nat => (k : Int))), .list [], .lst (.inl (.inl (s2 _ _ eD))) (dp_ints _), .lst (.inl (.inl upd_same)) .nil, shaped_ints _, rfl, _, rfl, ?_⟩
      rw [eqv_nil]
      refine ite2 (fun c2 => ?_) (fun c2 => ?_)
      · have ne : bs ≠ [] := fun y => by
          rw [y] at c2
          exact absurd c2 (by decide)
        rw [← hfl] at ne
        obtain ⟨i, hi, il, p1, p2⟩ := fl_some ne
        have g0 : ((bs.map fun k : Nat => (k : Int)).map V.int)[0]? = some (.int (i : Int)) := by
          rw [← hfl, List.getElem?_map, List.getElem?_map, hi]
          rfl
        refine ⟨_, rfl, D, _, 0, _, rfl, rfl, .inl (.inl (s2 _ _ eD)), atI_nat (j := 0) g0, by show (3 : Nat) ≤ sizeLine; decide, fun r nr => no (s1.trans s2) nr (verd_num dlen il ?_ fun j hj => ?_)⟩
        · cases e : isNum (ds.getD i .none) with
          | false => rfl
          | true => rw [e] at p1; cases p1
        · have := p2 j hj
          cases e : isNum (ds.getD j .none) with
          | true => rfl
          | false => rw [e] at this; cases this
      have none_ : bs = [] := Decidable.byContradiction fun y => c2 (by
        have : ¬ (bs.map fun k : Nat => (k : Int)) = [] := fun e => y (List.map_eq_nil_iff.mp e)
        rw [decide_eq_false this]
        rfl)
      rw [none_] at hfl
      obtain ⟨ps, rfl⟩ := nums_ints (ds := ds) fun d hd => by
        obtain ⟨j, hj⟩ := List.mem_iff_getElem?.mp hd
        have := fl_none hfl j (List.getElem?_eq_some_iff.mp hj).1
        rw [List.getD_eq_getElem?_getD, hj] at this
        cases e : isNum d with
        | true => rfl
        | false =>
          have this : (!isNum d) = false := this
          rw [e] at this
          cases this
      obtain rfl := ints_at dp
      have pl : ps.length = ws.length := by
        rw [dl] at dlen
        exact dlen
      have s02 := s1.trans s2
      generalize upd H1 z (.lst []) = H2 at *
      have hp2 := TB.Same.tup s02 hp
      clear eD c2 c1 hfl
      -- the sum
      refine ⟨_, rfl, p, ps, rfl, hp2, _, rfl, rfl, _, rfl, ?_⟩
      refine ite2 (fun c2 => ?_) (fun c2 => ?_)
      · refine ⟨1, rfl, by show (3 : Nat) ≤ sizeLine; decide, fun r nr => no s02 nr (verd_sum pl fun z => ?_)⟩
        rw [z, decide_eq_true rfl] at c2
        cases c2
      have es : ps.sum = t := by
        refine V.int.inj (Decidable.byContradiction fun y => c2 ?_)
        rw [decide_eq_false y]
        rfl
      -- the parts
      refine ⟨_, rfl, _, rfl, a, t, ws, rfl, TB.Same.tup s02 hA, ok, fun H3 r x y z3 s3 er ex ey ez => ?_⟩
      refine ⟨r, _, rfl, .inl (.inl er), rfl, _, _, rfl, _, _, rfl, _, _, rfl, rfl, ?_⟩
      show tSeq _ _ _ [some (.int t), some (.ref a), some (.ref p), some (.ref D), some (.ref x), some (.ref y), some (.ref z3), none, none, none, none, none, none, none] _
      have s03 := s02.trans s3
      have hp3 := TB.Same.tup s3 hp2
      have ll := lows_len t ws
      have rl := rsts_len t ws
      have pv1 : (ps.map V.int).length = ps.length := List.length_map _
      -- cuts
      refine ⟨_, rfl, p, _, rfl, .inr hp3, ((ps.map V.int).length : Int), rfl, by omega, by omega, fun D2 nD2 => ?_⟩
      refine lc_range (lo := 0) (n := ((ps.map V.int).length : Int).toNat) (fun j H4 => Same H3 H4 ∧ H4 D2 = some (.lst ((fl (badC (lows t ws) ps) j).map fun k : Nat => V.int (k : Int)))) ⟨same_upd nD2, upd_same⟩ (fun j H4 hj hP => ?_) (fun H4 hP => ?_)
      · obtain ⟨sm, eD⟩ := hP
        rw [Int.toNat_natCast, pv1] at hj
        have z0 : (0 : Int) + (j : Int) = j := Int.zero_add _
        refine ⟨rfl, ?_⟩
        refine ⟨_, rfl, _, rfl, p, _, _, _, rfl, rfl, TB.Same.tup sm hp3, (by rw [z0]; exact atI_nat (gInt hj)), _, rfl, _, rfl, x, _, _, _, rfl, rfl, .inl (.inl (sm _ _ ex)), (by rw [z0]; exact atI_nat (gInt (by omega))), _, _, rfl, rfl, by show (2 : Nat) ≤ sizeLine; decide, fun u nu => ?_⟩
        have s5 := same_upd (o := .tup [.int 0, .int 1]) nu
        refine ⟨u, _, rfl, .inr (.inl (.inl upd_same)), rfl, rfl, _, rfl, ?_⟩
        have eb : (!inV (.int (ps.getD j 0 - (lows t ws).getD j 0)) [.int 0, .int 1]) = badC (lows t ws) ps j := by
          rw [in01]
          unfold badC
          by_cases c : ps.getD j 0 - (lows t ws).getD j 0 = 0 ∨ ps.getD j 0 - (lows t ws).getD j 0 = 1
          · rw [decide_eq_true c, decide_eq_false (by omega)]
            rfl
          · rw [decide_eq_false c, decide_eq_true (by omega)]
            rfl
        change ite ((!inV (.int (ps.getD j 0 - (lows t ws).getD j 0)) [.int 0, .int 1]) = true) _ _
        rw [eb]
        refine ite2 (fun c => ?_) (fun c => ?_)
        · refine ⟨_, rfl, _, s5 _ _ eD, ?_, same_new nD2 (sm.trans s5), ?_⟩
          · rw [List.length_map]
            have := fl_len (badC (lows t ws) ps) j
            exact small1000 (by omega)
          · rw [upd_same, fl_more, if_pos c, List.map_append, z0]
            rfl
        · refine ⟨sm.trans s5, ?_⟩
          rw [fl_more, if_neg c, List.append_nil]
          exact s5 _ _ eD
      obtain ⟨s4, eD2⟩ := hP
      rw [Int.toNat_natCast, pv1] at eD2
      show tSeq _ _ _ [some (.int t), some (.ref a), some (.ref p), some (.ref D2), some (.ref x), some (.ref y), some (.ref z3), none, none, none, none, none, none, none] _
      generalize hfl : fl (badC (lows t ws) ps) ps.length = bs2 at eD2
      rw [natV] at eD2
      refine ⟨_, rfl, Nat.zero_le _, fun z5 nz5 => ?_⟩
      have s5 := same_upd (o := .lst []) nz5
      refine ⟨.list (dInts (bs2.map fun k : Nat => (k : Int))), .list [], .lst (.inl (.inl (s5 _ _ eD2))) (dp_ints _), .lst (.inl (.inl upd_same)) .nil, shaped_ints _, rfl, _, rfl, ?_⟩
      rw [eqv_nil]
      refine ite2 (fun c3 => ?_) (fun c3 => ?_)
      · have ne : bs2 ≠ [] := fun y => by
          rw [y] at c3
          exact absurd c3 (by decide)
        rw [← hfl] at ne
        obtain ⟨i, hi, il, p1, p2⟩ := fl_some ne
        have g0 : ((bs2.map fun k : Nat => (k : Int)).map V.int)[0]? = some (.int (i : Int)) := by
          rw [← hfl, List.getElem?_map, List.getElem?_map, hi]
          rfl
        exact ⟨_, rfl, D2, _, 0, _, rfl, rfl, .inl (.inl (s5 _ _ eD2)), atI_nat (j := 0) g0, by show (3 : Nat) ≤ sizeLine; decide, fun r nr => no (s03.trans (s4.trans s5)) nr (verd_cut pl es il p1 p2)⟩
      have none2 : bs2 = [] := Decidable.byContradiction fun y => c3 (by
        have : ¬ (bs2.map fun k : Nat => (k : Int)) = [] := fun e => y (List.map_eq_nil_iff.mp e)
        rw [decide_eq_false this]
        rfl)
      rw [none2] at hfl
      have allC := fl_none hfl
      have s35 := s4.trans s5
      generalize upd H4 z5 (.lst []) = H5 at *
      have hp5 := TB.Same.tup s35 hp3
      have ex5 := s35 _ _ ex
      have ey5 := s35 _ _ ey
      have s05 := s03.trans s35
      -- those that stay
      refine ⟨_, rfl, p, _, rfl, .inr hp5, ((ps.map V.int).length : Int), rfl, by omega, by omega, fun D3 nD3 => ?_⟩
      refine lc_range (lo := 0) (n := ((ps.map V.int).length : Int).toNat) (fun j H6 => Same H5 H6 ∧ H6 D3 = some (.lst ((shorts (lows t ws) (rsts t ws) ps j).map V.int))) ⟨same_upd nD3, upd_same⟩ (fun j H6 hj hP => ?_) (fun H6 hP => ?_)
      · obtain ⟨sm, eD⟩ := hP
        rw [Int.toNat_natCast, pv1] at hj
        have z0 : (0 : Int) + (j : Int) = j := Int.zero_add _
        refine ⟨rfl, ?_⟩
        refine ⟨_, rfl, _, rfl, p, _, _, _, rfl, rfl, TB.Same.tup sm hp5, (by rw [z0]; exact atI_nat (gInt hj)), _, rfl, _, rfl, x, _, _, _, rfl, rfl, .inl (.inl (sm _ _ ex5)), (by rw [z0]; exact atI_nat (gInt (by omega))), rfl, _, rfl, ite2 (fun c => ?_) (fun c => ?_)⟩
        · have c' : ps.getD j 0 = (lows t ws).getD j 0 := V.int.inj (of_decide_eq_true c)
          refine ⟨_, rfl, _, rfl, y, _, _, _, rfl, rfl, .inl (.inl (sm _ _ ey5)), (by rw [z0]; exact atI_nat (gInt (by omega))), _, eD, ?_, same_new nD3 sm, ?_⟩
          · rw [List.length_map]
            have := shorts_len (lows t ws) (rsts t ws) ps j
            exact small1000 (by omega)
          · rw [upd_same, shorts_more, if_pos c', List.map_append]
            rfl
        · have c' : ¬ ps.getD j 0 = (lows t ws).getD j 0 := fun z => c (decide_eq_true (by rw [z]))
          refine ⟨sm, ?_⟩
          rw [shorts_more, if_neg c', List.append_nil]
          exact eD
      obtain ⟨s6, eD3⟩ := hP
      rw [Int.toNat_natCast, pv1] at eD3
      have shl := shorts_len (lows t ws) (rsts t ws) ps ps.length
      have ex6 := s6 _ _ ex5
      have ey6 := s6 _ _ ey5
      have hp6 := TB.Same.tup s6 hp5
      have s06 := s05.trans s6
      show tSeq _ _ _ [some (.int t), some (.ref a), some (.ref p), some (.ref D2), some (.ref x), some (.ref y), some (.ref z3), some (.ref D3), none, none, none, none, none, none] _
      -- rests
      refine ⟨_, rfl, p, _, rfl, .inr hp6, ((ps.map V.int).length : Int), rfl, by omega, by omega, ?_⟩
      refine for_range (lo := 0) (n := ((ps.map V.int).length : Int).toNat) (fun i σ H7 => ∃ y8, σ = [some (.int t), some (.ref a), some (.ref p), some (.ref D2), some (.ref x), some (.ref y), some (.ref z3), some (.ref D3), y8, none, none, none, none, none] ∧ Same H6 H7 ∧ ∀ j, j < i → badR (lows t ws) (rsts t ws) ps j = false)
        ⟨_, rfl, Same.refl _, fun j hj => absurd hj (Nat.not_lt_zero _)⟩ ?_ ?_
      · rintro i σ H7 hi ⟨y8, rfl, sm, al⟩
        rw [Int.toNat_natCast, pv1] at hi
        have z0 : (0 : Int) + (i : Int) = i := Int.zero_add _
        show tIfS _ _ _ _ [some (.int t), some (.ref a), some (.ref p), some (.ref D2), some (.ref x), some (.ref y), some (.ref z3), some (.ref D3), some (.int (0 + (i : Int))), none, none, none, none, none] _
        rw [z0]
        have step : badR (lows t ws) (rsts t ws) ps i = false → ∀ j, j < i + 1 → badR (lows t ws) (rsts t ws) ps j = false := fun z j hj => by
          by_cases c : j < i
          · exact al j c
          · obtain rfl : j = i := by omega
            exact z
        refine ⟨_, rfl, _, rfl, p, _, _, _, rfl, rfl, TB.Same.tup sm hp6, atI_nat (gInt hi), _, rfl, _, rfl, x, _, _, _, rfl, rfl, .inl (.inl (sm _ _ ex6)), atI_nat (gInt (by omega)), _, _, rfl, rfl, _, rfl, ?_⟩
        change ite _ _ _
        refine ite2 (fun c => ?_) (fun c => ?_)
        · have c1 : (lows t ws).getD i 0 < ps.getD i 0 := of_decide_eq_true c
          refine ⟨_, rfl, D3, rfl, ⟨_, .inl (.inl (sm _ _ eD3))⟩, fun D4 nD4 => ?_⟩
          refine lc_list (xs := (shorts (lows t ws) (rsts t ws) ps ps.length).map V.int) (fun j H8 => Same H7 H8 ∧ H8 D4 = some (.lst ((((shorts (lows t ws) (rsts t ws) ps ps.length).take j).filter fun r => decide ((rsts t ws).getD i 0 < r)).map V.int))) ⟨same_upd nD4, upd_same⟩ ?_ ?_ ?_
          · rintro j H8 _ ⟨s8, _⟩
            exact .inl (.inl (s8 _ _ (sm _ _ eD3)))
          · rintro j x8 H8 hx ⟨s8, eD4⟩
            obtain ⟨r0, hr0, rfl⟩ := map_int hx
            have fm := filt_more (p := fun r => decide ((rsts t ws).getD i 0 < r)) (f := V.int) hr0
            refine ⟨rfl, ?_⟩
            refine ⟨_, rfl, _, rfl, _, rfl, y, _, _, _, rfl, rfl, .inl (.inl (s8 _ _ (sm _ _ ey6))), atI_nat (gInt (by omega)), _, _, rfl, rfl, _, rfl, ite2 (fun c2 => ?_) (fun c2 => ?_)⟩
            · rw [if_pos c2] at fm
              refine ⟨_, rfl, _, eD4, ?_, same_new nD4 s8, ?_⟩
              · rw [List.length_map]
                have := List.length_filter_le (fun r => decide ((rsts t ws).getD i 0 < r)) ((shorts (lows t ws) (rsts t ws) ps ps.length).take j)
                have := List.length_take_le' j (shorts (lows t ws) (rsts t ws) ps ps.length)
                exact small1000 (by omega)
              · rw [upd_same, fm]
            · rw [if_neg c2, List.append_nil] at fm
              exact ⟨s8, by rw [fm]; exact eD4⟩
          rintro H8 ⟨s8, eD4⟩
          rw [List.length_map, List.take_length] at eD4
          refine ⟨Nat.zero_le _, fun z9 nz9 => ?_⟩
          have s9 := same_upd (o := .lst []) nz9
          refine ⟨.list (dInts ((shorts (lows t ws) (rsts t ws) ps ps.length).filter fun r => decide ((rsts t ws).getD i 0 < r))), .list [], .lst (.inl (.inl (s9 _ _ eD4))) (dp_ints _), .lst (.inl (.inl upd_same)) .nil, shaped_ints _, rfl, _, rfl, ?_⟩
          rw [eqv_nil]
          change ite _ _ _
          refine ite2 (fun c2 => ?_) (fun c2 => ?_)
          · refine ⟨_, rfl, by show (3 : Nat) ≤ sizeLine; decide, fun r nr => no (s06.trans (sm.trans (s8.trans s9))) nr (verd_rest pl es allC hi ?_ al)⟩
            unfold badR
            rw [decide_eq_true c1, Bool.true_and]
            cases e : (shorts (lows t ws) (rsts t ws) ps ps.length).any fun r => decide ((rsts t ws).getD i 0 < r) with
            | true => rfl
            | false =>
              have : (shorts (lows t ws) (rsts t ws) ps ps.length).filter (fun r => decide ((rsts t ws).getD i 0 < r)) = [] := List.filter_eq_nil_iff.mpr fun r hr z => by
                rw [List.any_eq_false] at e
                exact e r hr z
              rw [decide_eq_true this] at c2
              cases c2
          · refine ⟨_, rfl, sm.trans (s8.trans s9), step ?_⟩
            unfold badR
            rw [decide_eq_true c1, Bool.true_and, List.any_eq_false]
            intro r hr z
            have : (shorts (lows t ws) (rsts t ws) ps ps.length).filter (fun r => decide ((rsts t ws).getD i 0 < r)) = [] := Decidable.byContradiction fun y => c2 (by rw [decide_eq_false y]; rfl)
            have hm : r ∈ (shorts (lows t ws) (rsts t ws) ps ps.length).filter (fun r => decide ((rsts t ws).getD i 0 < r)) := List.mem_filter.mpr ⟨hr, z⟩
            rw [this] at hm
            cases hm
        · refine iteF ⟨_, rfl, sm, step ?_⟩
          unfold badR
          rw [decide_eq_false fun z => c (decide_eq_true z), Bool.false_and]
      rintro σ H7 ⟨y8, rfl, s7, al⟩
      rw [Int.toNat_natCast, pv1] at al
      have s07 := s06.trans s7
      have hA7 := TB.Same.tup s07 hA
      have hp7 := TB.Same.tup s7 hp6
      have sw := sum_ok ok
      -- how far off
      refine ⟨_, rfl, _, rfl, p, a, _, _, rfl, .inr ⟨hp7, hA7, fun D5 nD5 => ?_⟩⟩
      refine lc_it (walk_zT (xs := ps.map V.int) (ys := ws.map V.int) (n := ws.length) (by rw [List.length_map, List.length_map]; omega)) (fun i H8 => Same H7 H8 ∧ H8 D5 = some (.lst (((List.range i).map fun i => ps.getD i 0 * ws.sum - t * ws.getD i 0).map V.int))) ⟨same_upd nD5, upd_same⟩ ?_ ?_ ?_
      · rintro i H8 _ ⟨sm, _⟩
        exact ⟨TB.Same.tup sm hp7, TB.Same.tup sm hA7⟩
      · rintro i x8 H8 H9 hi ⟨sm, eD⟩ ⟨T, u, v, rfl, nT, rfl, hu, hv⟩
        obtain rfl := Option.some.inj ((gInt (by omega)).symm.trans hu)
        obtain rfl := Option.some.inj ((gInt hi).symm.trans hv)
        have sT := same_upd (o := .tup [.int (ps.getD i 0), .int (ws.getD i 0)]) nT
        refine ⟨T, _, rfl, .inl (.inl upd_same), rfl, _, _, rfl, _, _, rfl, rfl, rfl, yes (iteT ?_)⟩
        refine ⟨_, rfl, _, rfl, a, ws, rfl, TB.Same.tup (sm.trans sT) hA7, _, _, rfl, rfl, .inr ⟨by omega, by omega⟩, _, rfl, _, rfl, _, _, rfl, rfl, .inl (mul_ok (w := 0) ok), _, _, rfl, rfl, ?_⟩
        refine ⟨_, sT _ _ eD, ?_, same_new nD5 (sm.trans sT), ?_⟩
        · rw [List.length_map, List.length_map, List.length_range]
          exact small1000 (by omega)
        · rw [upd_same, List.range_succ, List.map_append, List.map_append]
          rfl
      rintro H8 ⟨s8, eD5⟩
      refine ⟨_, rfl, D5, rfl, ⟨_, .inl (.inl eD5)⟩, fun D6 nD6 => ?_⟩
      refine lc_list (xs := ((List.range ws.length).map fun i => ps.getD i 0 * ws.sum - t * ws.getD i 0).map V.int) (fun i H9 => Same H8 H9 ∧ H9 D6 = some (.lst ((offL t ws ps ws.sum i).map V.int))) ⟨same_upd nD6, upd_same⟩ ?_ ?_ ?_
      · rintro i H9 _ ⟨sm, _⟩
        exact .inl (.inl (sm _ _ eD5))
      · rintro i x9 H9 hx ⟨sm, eD⟩
        obtain ⟨st, hst, rfl⟩ := map_int hx
        have il : i < ws.length := by
          have := (List.getElem?_eq_some_iff.mp hst).1
          rw [List.length_map, List.length_range] at this
          exact this
        have est : st = ps.getD i 0 * ws.sum - t * ws.getD i 0 := by
          rw [List.getElem?_map, List.getElem?_range il] at hst
          exact (Option.some.inj hst).symm
        refine ⟨rfl, yes (iteT ?_)⟩
        refine ⟨_, rfl, _, rfl, _, rfl, st, -st, rfl, ?_⟩
        rw [max_ab, est]
        refine ⟨_, eD, ?_, same_new nD6 sm, ?_⟩
        · rw [List.length_map]
          unfold offL
          rw [List.length_map, List.length_range]
          exact small1000 (by omega)
        · rw [upd_same]
          unfold offL
          rw [List.range_succ, List.map_append, List.map_append]
          rfl
      rintro H9 ⟨s9, eD6⟩
      rw [List.length_map, List.length_map, List.length_range] at eD6
      refine ⟨D6, _, rfl, .inl (.inl eD6), by show (2 : Nat) ≤ sizeLine; decide, fun r nr => ?_⟩
      refine q _ _ (s07.trans (s8.trans (s9.trans (same_upd nr)))) ?_
      rw [verd_ok pl es ⟨allC, al⟩]
      exact dp_told upd_same
    | _ => exact absurd rfl c0
end
end K10

set_option Elab.async false
set_option linter.all false
set_option maxRecDepth 100000
set_option maxHeartbeats 4000000
namespace K10
open PySem PySem.Spec PyProof.Rows L2 TB K09

theorem scSa : FnScope ["_law_total_here", "_law_weights_here", "_law_thing", "e"] ["_law_total_here", "_law_weights_here", "_law_thing"] (defScope sSa) := ⟨rfl, rfl, rfl, by decide +kernel, rfl, by decide +kernel, by decide +kernel⟩
section
variable {P : Program} {w : World} {K : PySem.W.Frag} {mg : Str → Option Value} {base : Heap}
/-! ### _law_said -/
theorem ok_sa {C BE LE NP f fLs : Addr} {fd fdLs : FuncData} (F : Fun K "_law_said" "_law_said" sSa f fd)
    (gNp : mg "NoPaper" = some (.ref C)) (gBE : mg "BillError" = some (.ref BE)) (gLE : mg "LostError" = some (.ref LE)) (gNP : mg "NoPage" = some (.ref NP)) (eNp : PySem.W.exmOne K (.ref C) (.ref BE) = some true)
    (I : IsC K C) (XC : XfC K C) (k1 : PySem.W.kitOne K (.ref C) (.ref C) = some true) (k2 : PySem.W.kitOne K (.ref C) (.type "ValueError") = some true) (k3 : PySem.W.kitAny K (.ref C) [.ref LE, .ref NP] = some false)
    (nW : PySem.W.findIn K (.ref C) "word" = some none) (nA : PySem.W.findIn K (.ref C) "at" = some none)
    (GLs : FnOk P w K mg base (L2.CX P w) 4 fLs fdLs ["total", "weights", "thing"] (spLs K C)) (kLs : PySem.W.keepIn K (.ref fLs) = true) (bLs : Binds K fdLs ["total", "weights", "thing"] []) (gLs : mg "lets_split" = some (.ref fLs))
    (m_isinstance : mg "isinstance" = none) (m_VE : mg "ValueError" = none) :
    FnOk P w K mg base CX0 5 f fd ["_law_total_here", "_law_weights_here", "_law_thing"] (spJu K) := by
  refine F.ok scSa (fun vs H Q E h => ?_) (fun cdv A outer s H vs Q E hr h => ?_)
  · obtain ⟨a, v, t, ws, d, rfl, _⟩ := h
    rfl
  · obtain ⟨a, v, t, ws, d, rfl, hA, ok, hd, q⟩ := h
    refine ⟨_, pss_cons (ps_try_as (i := 3) rfl rfl scSa.nd rfl rfl ⟨rfl, by decide, .inl gBE⟩ takes0 (fun W pn xe tk _ => pss_one (ps_ret (pe_tup (pa_cons pe_str (pa_cons (pe_callS GLs (hr.mono (by decide)) (by rfl) gLs kLs bLs (fun σ => passAt tk σ) (pa_cons (pv 0) (pa_cons (pv 1) (pa_cons (pv 2) pa_nil)))) pa_nil)))))
        (fun a oe cls d pn hz hf => pss_one (ps_if (PW.pt (pw_and (pt_val (pe_callB (call_isX hz hf) (by rfl) m_isinstance (by decide +kernel) (pa_cons (pv 3) (pa_cons (pe_glob (v := .ref C) (by rfl) gNp rfl) pa_nil)))) (pw_and (pt_val (pe_callB (call_isX hz hf) (by rfl) m_isinstance (by decide +kernel) (pa_cons (pv 3) (pa_cons (pe_bltn (v := .ty "ValueError") (u := .type "ValueError") (by rfl) m_VE (by decide +kernel) rfl) pa_nil)))) (pw_and1 (pt_not (pt_val (pe_callB (call_isXT hz hf) (by rfl) m_isinstance (by decide +kernel) (pa_cons (pv 3) (pa_cons (pe_tup (pa_cons (pe_glob (v := .ref LE) (by rfl) gLE rfl) (pa_cons (pe_glob (v := .ref NP) (by rfl) gNP rfl) pa_nil))) pa_nil)))))))))
          (pss_one (ps_ret (pe_tup (pa_cons pe_str (pa_cons (pe_xf XC nW hz hf (pv 3)) (pa_cons (pe_xf XC nA hz hf (pv 3)) pa_nil)))))) pss_nil)))
      (pss_one (ps_ret (pe_tup (pa_cons pe_str pa_nil)))), ?_⟩
    have yes : ∀ {H' : Hp} {n : Int}, Same H H' → verd t ws d = toldD n → ∀ r, H' r = none → Q (.ref r) (upd H' r (.tup [.str "told", .int n])) := fun {H' n} s' e r nr => by
      refine q _ _ (s'.trans (same_upd nr)) ?_
      rw [e]
      exact dp_told upd_same
    have no : ∀ {H' : Hp} {z : Str} {i : Int}, Same H H' → verd t ws d = noD z i → ∀ r, H' r = none → Q (.ref r) (upd H' r (.tup [.str "no", .str z, .int i])) := fun {H' z i} s' e r nr => by
      refine q _ _ (s'.trans (same_upd nr)) ?_
      rw [e]
      exact dp_no upd_same
    refine ⟨_, rfl, _, rfl, _, rfl, a, v, t, ws, d, rfl, hA, ok, hd, fun z => ?_, fun ds i dd e dl hi hn hj => ?_, fun ps e pl => ⟨fun hs => ?_, fun hs => ⟨fun i hi hb hj => ?_, fun hc i hi hb hj => ?_, fun hp H' s' => ⟨by show (2 : Nat) ≤ sizeLine; decide, fun r nr => yes s' (by rw [e]; exact verd_ok pl hs hp) r nr⟩⟩⟩⟩
    · have ve := (show verd t ws d = noD "shape" (-1) from verd_shape z)
      intro H' dd s' nd ed
      refine ⟨true, eNp, fun _ a ha => ?_, fun z => nomatch z⟩
      refine ⟨_, rfl, C, dd, _, .ref C, .ref C, true, rfl, rfl, rfl, ed, I, .own C, k1, _, rfl, iteT ?_⟩
      refine ⟨_, rfl, C, dd, _, .ty "ValueError", .type "ValueError", true, rfl, rfl, rfl, ed, I, .ty _, k2, _, rfl, iteT ?_⟩
      refine ⟨_, rfl, by show (2 : Nat) ≤ sizeLine; decide, fun tp ntp => ?_⟩
      have sp := same_upd (o := .tup [.ref LE, .ref NP]) ntp
      refine ⟨C, dd, tp, _, _, _, false, rfl, rfl, rfl, sp _ _ ed, I, upd_same, .cons (.own LE) (.cons (.own NP) .nil), k3, _, rfl, iteT ?_⟩
      refine ⟨_, rfl, rfl, rfl, dd, _, _, rfl, sp _ _ ed, rfl, _, rfl, rfl, rfl, dd, _, _, rfl, sp _ _ ed, rfl, by show (3 : Nat) ≤ sizeLine; decide, fun r nr => ?_⟩
      exact no (s'.trans sp) ve r nr
    · have ve := (show verd t ws d = noD "number" i from by
        have il := (List.getElem?_eq_some_iff.mp hi).1
        rw [e]
        refine verd_num dl il ?_ fun j jl => ?_
        · rw [List.getD_eq_getElem?_getD, hi]
          exact hn
        · have jl' : j < ds.length := by omega
          rw [List.getD_eq_getElem?_getD, List.getElem?_eq_getElem jl']
          exact hj j _ jl (List.getElem?_eq_getElem jl'))
      intro H' dd s' nd ed
      refine ⟨true, eNp, fun _ a ha => ?_, fun z => nomatch z⟩
      refine ⟨_, rfl, C, dd, _, .ref C, .ref C, true, rfl, rfl, rfl, ed, I, .own C, k1, _, rfl, iteT ?_⟩
      refine ⟨_, rfl, C, dd, _, .ty "ValueError", .type "ValueError", true, rfl, rfl, rfl, ed, I, .ty _, k2, _, rfl, iteT ?_⟩
      refine ⟨_, rfl, by show (2 : Nat) ≤ sizeLine; decide, fun tp ntp => ?_⟩
      have sp := same_upd (o := .tup [.ref LE, .ref NP]) ntp
      refine ⟨C, dd, tp, _, _, _, false, rfl, rfl, rfl, sp _ _ ed, I, upd_same, .cons (.own LE) (.cons (.own NP) .nil), k3, _, rfl, iteT ?_⟩
      refine ⟨_, rfl, rfl, rfl, dd, _, _, rfl, sp _ _ ed, rfl, _, rfl, rfl, rfl, dd, _, _, rfl, sp _ _ ed, rfl, by show (3 : Nat) ≤ sizeLine; decide, fun r nr => ?_⟩
      exact no (s'.trans sp) ve r nr
    · have ve := (show verd t ws d = noD "sum" (-1) from by rw [e]; exact verd_sum pl hs)
      intro H' dd s' nd ed
      refine ⟨true, eNp, fun _ a ha => ?_, fun z => nomatch z⟩
      refine ⟨_, rfl, C, dd, _, .ref C, .ref C, true, rfl, rfl, rfl, ed, I, .own C, k1, _, rfl, iteT ?_⟩
      refine ⟨_, rfl, C, dd, _, .ty "ValueError", .type "ValueError", true, rfl, rfl, rfl, ed, I, .ty _, k2, _, rfl, iteT ?_⟩
      refine ⟨_, rfl, by show (2 : Nat) ≤ sizeLine; decide, fun tp ntp => ?_⟩
      have sp := same_upd (o := .tup [.ref LE, .ref NP]) ntp
      refine ⟨C, dd, tp, _, _, _, false, rfl, rfl, rfl, sp _ _ ed, I, upd_same, .cons (.own LE) (.cons (.own NP) .nil), k3, _, rfl, iteT ?_⟩
      refine ⟨_, rfl, rfl, rfl, dd, _, _, rfl, sp _ _ ed, rfl, _, rfl, rfl, rfl, dd, _, _, rfl, sp _ _ ed, rfl, by show (3 : Nat) ≤ sizeLine; decide, fun r nr => ?_⟩
      exact no (s'.trans sp) ve r nr
    · have ve := (show verd t ws d = noD "cut" i from by rw [e]; exact verd_cut pl hs hi hb hj)
      intro H' dd s' nd ed
      refine ⟨true, eNp, fun _ a ha => ?_, fun z => nomatch z⟩
      refine ⟨_, rfl, C, dd, _, .ref C, .ref C, true, rfl, rfl, rfl, ed, I, .own C, k1, _, rfl, iteT ?_⟩
      refine ⟨_, rfl, C, dd, _, .ty "ValueError", .type "ValueError", true, rfl, rfl, rfl, ed, I, .ty _, k2, _, rfl, iteT ?_⟩
      refine ⟨_, rfl, by show (2 : Nat) ≤ sizeLine; decide, fun tp ntp => ?_⟩
      have sp := same_upd (o := .tup [.ref LE, .ref NP]) ntp
      refine ⟨C, dd, tp, _, _, _, false, rfl, rfl, rfl, sp _ _ ed, I, upd_same, .cons (.own LE) (.cons (.own NP) .nil), k3, _, rfl, iteT ?_⟩
      refine ⟨_, rfl, rfl, rfl, dd, _, _, rfl, sp _ _ ed, rfl, _, rfl, rfl, rfl, dd, _, _, rfl, sp _ _ ed, rfl, by show (3 : Nat) ≤ sizeLine; decide, fun r nr => ?_⟩
      exact no (s'.trans sp) ve r nr
    · have ve := (show verd t ws d = noD "rest" i from by rw [e]; exact verd_rest pl hs hc hi hb hj)
      intro H' dd s' nd ed
      refine ⟨true, eNp, fun _ a ha => ?_, fun z => nomatch z⟩
      refine ⟨_, rfl, C, dd, _, .ref C, .ref C, true, rfl, rfl, rfl, ed, I, .own C, k1, _, rfl, iteT ?_⟩
      refine ⟨_, rfl, C, dd, _, .ty "ValueError", .type "ValueError", true, rfl, rfl, rfl, ed, I, .ty _, k2, _, rfl, iteT ?_⟩
      refine ⟨_, rfl, by show (2 : Nat) ≤ sizeLine; decide, fun tp ntp => ?_⟩
      have sp := same_upd (o := .tup [.ref LE, .ref NP]) ntp
      refine ⟨C, dd, tp, _, _, _, false, rfl, rfl, rfl, sp _ _ ed, I, upd_same, .cons (.own LE) (.cons (.own NP) .nil), k3, _, rfl, iteT ?_⟩
      refine ⟨_, rfl, rfl, rfl, dd, _, _, rfl, sp _ _ ed, rfl, _, rfl, rfl, rfl, dd, _, _, rfl, sp _ _ ed, rfl, by show (3 : Nat) ≤ sizeLine; decide, fun r nr => ?_⟩
      exact no (s'.trans sp) ve r nr
end
end K10

set_option Elab.async false
set_option linter.all false
set_option maxRecDepth 100000
set_option maxHeartbeats 4000000
namespace K10
open PySem PySem.Spec PyProof.Rows L2 TB K09

theorem scMo : FnScope ["_law_feed_here", "_law_parts_here", "_law_many", "_law_row"] ["_law_feed_here", "_law_parts_here", "_law_many"] (defScope sMo) := ⟨rfl, rfl, rfl, by decide +kernel, rfl, by decide +kernel, by decide +kernel⟩
theorem pw2 (n : Nat) : (2 : Nat) ^ (n + 1) = 2 ^ n + 2 ^ n := by rw [Nat.pow_succ, Nat.mul_two]
theorem getD_mem {ps : List Int} {i : Nat} (h : i < ps.length) : ps.getD i 0 ∈ ps := List.mem_of_getElem? (getD_of h)
section
variable {P : Program} {w : World} {K : PySem.W.Frag} {mg : Str → Option Value} {base : Heap}
/-! ### _law_moved -/
def spMo (K : PySem.W.Frag) : Sp := fun vs H Q _ => ∃ (L S p : Addr) (T many : Int) (ps : List Int), vs = [.ref L, .ref p, .int many] ∧ Feed H L S T ∧ T < 800000 ∧ SqT K H p (ps.map V.int) ∧ 0 < ps.length ∧ ps.length ≤ 12 ∧ (∀ x ∈ ps, x.natAbs < 2 ^ 690) ∧ many.natAbs < 2 ^ 690 ∧
  ∀ (H' : Hp) (r : Addr) (qs : List Int), But L H H' → Feed H' L S (T + 2) → H' r = some (.tup (qs.map V.int)) → qs.length = ps.length → (∀ x ∈ qs, x.natAbs < 2 ^ 700) → Q (.ref r) H'
theorem ok_mo {f fR : Addr} {fd fdR : FuncData} (F : Fun K "_law_moved" "_law_moved" sMo f fd)
    (GDr : FnOk P w K mg base CX0 1 fR fdR ["_law_feed_here", "_law_many"] spDraw) (kDr : PySem.W.keepIn K (.ref fR) = true) (bDr : Binds K fdR ["_law_feed_here", "_law_many"] []) (gDr : mg "_law_draw" = some (.ref fR))
    (m_list : mg "list" = none) (m_tuple : mg "tuple" = none) (m_len : mg "len" = none) : FnOk P w K mg base CX0 2 f fd ["_law_feed_here", "_law_parts_here", "_law_many"] (spMo K) := by
  refine F.ok scMo (fun vs H Q E h => ?_) (fun cdv A outer s H vs Q E hr h => ?_)
  · obtain ⟨L, S, p, T, many, ps, rfl, _⟩ := h
    rfl
  · obtain ⟨L, S, p, T, many, ps, rfl, f0, T0, hp, n0, n1, hb, hm, q⟩ := h
    refine ⟨_, (pss_cons (ps_set (i := 3) scMo.nd rfl (.inl rfl) (pe_callTy call_list_of (by rfl) m_list (by decide +kernel) (pa_cons (pv 1) pa_nil)))
      (pss_cons (ps_augS (pv 3) (pe_call GDr (hr.mono (by decide)) (by rfl) gDr kDr bDr .nil pass0 (pa_cons (pv 0) (pa_cons (pe_callB call_len_seq (by rfl) m_len (by decide +kernel) (pa_cons (pv 3) pa_nil)) pa_nil))) get_list (pv 2) ip_sub set_list)
      (pss_cons (ps_augS (pv 3) (pe_call GDr (hr.mono (by decide)) (by rfl) gDr kDr bDr .nil pass0 (pa_cons (pv 0) (pa_cons (pe_callB call_len_seq (by rfl) m_len (by decide +kernel) (pa_cons (pv 3) pa_nil)) pa_nil))) get_list (pv 2) ip_add set_list)
      (pss_one (ps_ret (pe_callTy call_tuple_of (by rfl) m_tuple (by decide +kernel) (pa_cons (pv 3) pa_nil))))))), ?_⟩
    refine ⟨_, rfl, p, _, rfl, .inr hp, fun R nR => ?_⟩
    have s1 := same_upd (o := .lst (ps.map V.int)) nR
    have eR : (upd H R (.lst (ps.map V.int))) R = some (.lst (ps.map V.int)) := upd_same
    have RL := (f0.ne nR).1
    have RS := (f0.ne nR).2
    generalize upd H R (.lst (ps.map V.int)) = H1 at *
    have f1 := f0.same s1
    show tSeq _ _ _ [some (.ref L), some (.ref p), some (.int many), some (.ref R)] _
    refine ⟨_, rfl, _, rfl, _, rfl, R, _, rfl, .inl (.inl (.inl eR)), L, S, _, T, rfl, by rw [List.length_map]; omega, by rw [List.length_map]; omega, f1, by omega, fun H2 v2 k2 f2 l2 u2 => ?_⟩
    obtain ⟨j2, rfl⟩ := Int.eq_ofNat_of_zero_le l2
    have j2' : j2 < ps.length := by
      rw [List.length_map] at u2
      omega
    have eR2 := k2 _ _ RL eR
    refine ⟨R, _, j2, _, rfl, rfl, .inl (.inl eR2), gInt j2', _, rfl, _, _, rfl, rfl, R, _, _, j2, rfl, rfl, eR2, ixN_nat (by rw [List.length_map]; exact j2'), ?_⟩
    have kk3 : But L H (upd H2 R (.lst ((ps.map V.int).set j2 (.int (ps.getD j2 0 - many))))) := fun b o nb e => by
      have nbR : b ≠ R := fun z => by
        rw [z, nR] at e
        cases e
      rw [upd_ne nbR]
      exact k2 b o nb (s1 b o e)
    have f3 : Feed (upd H2 R (.lst ((ps.map V.int).set j2 (.int (ps.getD j2 0 - many))))) L S (T + 1) := Feed.upd f2 ⟨RL, RS⟩
    have eR3 : (upd H2 R (.lst ((ps.map V.int).set j2 (.int (ps.getD j2 0 - many))))) R = some (.lst ((ps.set j2 (ps.getD j2 0 - many)).map V.int)) := by
      rw [upd_same, List.map_set]
    generalize upd H2 R (.lst ((ps.map V.int).set j2 (.int (ps.getD j2 0 - many)))) = H3 at *
    have hb1 : ∀ x ∈ ps.set j2 (ps.getD j2 0 - many), x.natAbs < 2 ^ 691 := fun x hx => by
      rcases List.mem_or_eq_of_mem_set hx with z | z
      · exact Nat.lt_of_lt_of_le (hb x z) (Nat.pow_le_pow_right (by decide) (by decide))
      · have h1 := hb _ (getD_mem j2')
        rw [z]
        have e : (2 : Nat) ^ 691 = 2 ^ 690 + 2 ^ 690 := pw2 690
        generalize (2 : Nat) ^ 691 = D at *
        generalize (2 : Nat) ^ 690 = B at *
        omega
    have l1 : (ps.set j2 (ps.getD j2 0 - many)).length = ps.length := List.length_set
    generalize ps.set j2 (ps.getD j2 0 - many) = qs at *
    refine ⟨_, rfl, _, rfl, _, rfl, R, _, rfl, .inl (.inl (.inl eR3)), L, S, _, _, rfl, by rw [List.length_map]; omega, by rw [List.length_map]; omega, f3, by omega, fun H4 v4 k4 f4 l4 u4 => ?_⟩
    obtain ⟨j4, rfl⟩ := Int.eq_ofNat_of_zero_le l4
    have j4' : j4 < qs.length := by
      rw [List.length_map] at u4
      omega
    have eR4 := k4 _ _ RL eR3
    refine ⟨R, _, j4, _, rfl, rfl, .inl (.inl eR4), gInt j4', _, rfl, _, _, rfl, rfl, R, _, _, j4, rfl, rfl, eR4, ixN_nat (by rw [List.length_map]; exact j4'), ?_⟩
    have kk5 : But L H (upd H4 R (.lst ((qs.map V.int).set j4 (.int (qs.getD j4 0 + many))))) := fun b o nb e => by
      have nbR : b ≠ R := fun z => by
        rw [z, nR] at e
        cases e
      rw [upd_ne nbR]
      exact k4 b o nb (kk3 b o nb e)
    have f5 : Feed (upd H4 R (.lst ((qs.map V.int).set j4 (.int (qs.getD j4 0 + many))))) L S (T + 1 + 1) := Feed.upd f4 ⟨RL, RS⟩
    have eR5 : (upd H4 R (.lst ((qs.map V.int).set j4 (.int (qs.getD j4 0 + many))))) R = some (.lst ((qs.set j4 (qs.getD j4 0 + many)).map V.int)) := by
      rw [upd_same, List.map_set]
    generalize upd H4 R (.lst ((qs.map V.int).set j4 (.int (qs.getD j4 0 + many)))) = H5 at *
    refine ⟨_, rfl, R, _, rfl, .inl ⟨.inl (.inl eR5), fun r nr => ?_⟩⟩
    have sr := same_upd (o := .tup ((qs.set j4 (qs.getD j4 0 + many)).map V.int)) nr
    refine q _ r _ (kk5.same sr) ((f5.same sr).mono (by omega)) upd_same (by rw [List.length_set]; exact l1) fun x hx => ?_
    rcases List.mem_or_eq_of_mem_set hx with z | z
    · exact Nat.lt_of_lt_of_le (hb1 x z) (Nat.pow_le_pow_right (by decide) (by decide))
    · have h1 := hb1 _ (getD_mem j4')
      rw [z]
      refine Nat.lt_of_lt_of_le (m := 2 ^ 692) ?_ (Nat.pow_le_pow_right (by decide) (by decide))
      have e1 : (2 : Nat) ^ 691 = 2 ^ 690 + 2 ^ 690 := pw2 690
      have e : (2 : Nat) ^ 692 = 2 ^ 691 + 2 ^ 691 := pw2 691
      generalize (2 : Nat) ^ 690 = B at *
      generalize (2 : Nat) ^ 691 = C at *
      generalize (2 : Nat) ^ 692 = D at *
      omega
end
end K10

set_option Elab.async false
set_option linter.all false
set_option maxRecDepth 100000
set_option maxHeartbeats 8000000
set_option exponentiation.threshold 1000
namespace K10
open PySem PySem.Spec PyProof.Rows L2 TB K09

theorem scTh : FnScope ["_law_feed_here", "_law_total_here", "_law_weights_here", "_law_low", "_law_left", "_law_told", "_law_parts_here", "_law_far", "_law_at", "_law_to", "_law_row", "_law_things_here", "_law_many", "_law_odd_here", "_law_bent", "_law_k"] ["_law_feed_here", "_law_total_here", "_law_weights_here"] (defScope sTh) := ⟨rfl, rfl, rfl, by decide +kernel, rfl, by decide +kernel, by decide +kernel⟩
def far : Int := 10 ^ (64 : Int).toNat * 10 ^ (64 : Int).toNat * 10 ^ (60 : Int).toNat
theorem far_ok : far.natAbs < 2 ^ 690 := by decide +kernel
/-- of numbers this small -/
def Sm (ns : List Int) : Prop := ∀ x ∈ ns, x.natAbs < 2 ^ 690
theorem up690 {n m : Nat} (h : n < 2 ^ 690) : n < 2 ^ (700 + m) := Nat.lt_of_lt_of_le h (Nat.pow_le_pow_right (by decide) (by omega))
theorem up50 {x : Int} (h0 : 0 ≤ x) (h1 : x ≤ 1000000000001) : x.natAbs < 2 ^ 690 := Nat.lt_of_lt_of_le (show x.natAbs < 2 ^ 50 by omega) (Nat.pow_le_pow_right (by decide) (by omega))
theorem cut_ints (ns : List Int) (lo hi : Option Int) : ∃ ms : List Int, cutV (ns.map V.int) lo hi = ms.map V.int ∧ ms.length ≤ ns.length ∧ ∀ x ∈ ms, x ∈ ns := by
  unfold cutV
  refine ⟨(ns.drop (HT.sIx (ns.map V.int).length 0 lo)).take (HT.sIx (ns.map V.int).length (ns.map V.int).length hi - HT.sIx (ns.map V.int).length 0 lo), ?_, ?_, fun x hx => List.mem_of_mem_drop (List.mem_of_mem_take hx)⟩
  · rw [List.map_take, List.map_drop]
  · rw [List.length_take, List.length_drop]
    omega
abbrev Ft (d : PyData) : Prop := Fit 142 7 2 d
theorem ft_ints {ns : List Int} (hl : ns.length ≤ 100) (h : Sm ns) : Ft (.tuple (dInts ns)) := (fit_ints (j := 0) hl fun n hn => up690 (h n hn)).mono (by omega) (by omega) (by omega)
theorem ft_ints7 {ns : List Int} (hl : ns.length ≤ 100) (h : ∀ x ∈ ns, x.natAbs < 2 ^ 700) : Ft (.tuple (dInts ns)) := (fit_ints (j := 0) hl h).mono (by omega) (by omega) (by omega)
theorem ft_atom {d : PyData} (h1 : sz d = 1) (h2 : PyData.depth d = 0) (h3 : Ats 0 d) : Ft d := ⟨by omega, by omega, Ats.mono (by omega) d h3⟩
theorem ft_lst {ns : List Int} (hl : ns.length ≤ 100) (h : Sm ns) : Ft (.list (dInts ns)) :=
  (fit_lst (m := 100) (k := 0) (j := 0) (by rw [szs_ints]; exact hl) fun d hd => ⟨by rw [dep_ints ns d hd]; exact Nat.le_refl _, by
    obtain ⟨i, hi, rfl⟩ := List.mem_map.mp hd
    simp only [Ats]
    exact up690 (h i hi)⟩).mono (by omega) (by omega) (by omega)
theorem ft_mid {as bs : List Int} {d : PyData} (ha : as.length ≤ 30) (hb : bs.length ≤ 30) (h1 : Sm as) (h2 : Sm bs) (h : Fit 10 3 0 d) : Ft (.tuple (dInts as ++ [d] ++ dInts bs)) := by
  refine (fit_tup (m := 80) (k := 3) (j := 0) ?_ fun e he => ?_).mono (by omega) (by omega) (by omega)
  · have := h.sz
    rw [szs_app, szs_app, szs_ints, szs_ints]
    show _ + (sz d + 0) + _ ≤ 80
    omega
  · have ii : ∀ {ns : List Int}, Sm ns → e ∈ dInts ns → PyData.depth e ≤ 3 ∧ Ats 0 e := fun {ns} hs hm => by
      refine ⟨by rw [dep_ints ns e hm]; omega, ?_⟩
      obtain ⟨i, hi, rfl⟩ := List.mem_map.mp hm
      simp only [Ats]
      exact up690 (hs i hi)
    rcases List.mem_append.mp he with z | z
    · rcases List.mem_append.mp z with z | z
      · exact ii h1 z
      · rw [List.mem_singleton.mp z]
        exact ⟨h.dp, h.at_⟩
    · exact ii h2 z
theorem fit_c {d : PyData} (h1 : chk d = true) (h2 : sz d ≤ 10) (h3 : PyData.depth d ≤ 3) : Fit 10 3 0 d := ⟨h2, h3, chk_ats _ h1⟩
/-! the things: at W, with the feed at L -/
structure Th (K : PySem.W.Frag) (H : Hp) (L W : Addr) (n : Nat) : Prop where
  ex : ∃ us ds, H W = some (.lst us) ∧ DpAll K (hid [L, W] H) us ds ∧ (∀ d ∈ ds, Ft d) ∧ ds.length = n
section
variable {P : Program} {w : World} {K : PySem.W.Frag} {mg : Str → Option Value} {base : Heap}
theorem memL {L W : Addr} : L ∈ [L, W] := List.mem_cons_self
theorem memW {L W : Addr} : W ∈ [L, W] := List.mem_cons_of_mem _ List.mem_cons_self
theorem Th.but {H H' : Hp} {L W : Addr} {n : Nat} (t : Th K H L W n) (k : But L H H') (nW : W ≠ L) : Th K H' L W n := by
  obtain ⟨us, ds, a, b, c⟩ := t.ex
  exact ⟨⟨us, ds, k _ _ nW a, DpAll.same (hid_but memL k) _ _ b, c⟩⟩
theorem Th.same {H H' : Hp} {L W : Addr} {n : Nat} (t : Th K H L W n) (k : Same H H') : Th K H' L W n := by
  obtain ⟨us, ds, a, b, c⟩ := t.ex
  exact ⟨⟨us, ds, k _ _ a, DpAll.same (hid_same k) _ _ b, c⟩⟩
/-- one more -/
theorem Th.more {H : Hp} {L W : Addr} {n : Nat} {us ds} {x : V} {d : PyData} (a : H W = some (.lst us)) (b : DpAll K (hid [L, W] H) us ds) (c : (∀ d ∈ ds, Ft d) ∧ ds.length = n) (hx : Dp K (hid [L, W] H) x d) (gx : Ft d) :
    Th K (upd H W (.lst (us ++ [x]))) L W (n + 1) := by
  refine ⟨⟨us ++ [x], ds ++ [d], upd_same, ?_, fun e he => ?_, ?_⟩⟩
  · rw [hid_upd memW]
    exact DpAll.snoc hx b
  · rcases List.mem_append.mp he with z | z
    · exact c.1 e z
    · rw [List.mem_singleton.mp z]
      exact gx
  · rw [List.length_append, c.2]
    rfl
/-- a tuple lies at none of the lists -/
theorem hid_tup {H : Hp} {F : List Addr} {a : Addr} {xs : List V} (hF : ∀ f ∈ F, ∃ zs, H f = some (.lst zs)) (h : SqT K H a xs) : SqT K (hid F H) a xs := by
  have no : ∀ {b : Addr} {o : HO}, H b = some o → (∀ ys, o ≠ .lst ys) → hid F H b = some o := fun {b o} e ne => by
    have : b ∉ F := fun z => by
      obtain ⟨zs, ez⟩ := hF b z
      rw [ez] at e
      exact ne zs (Option.some.inj e).symm
    rw [hid_at this]
    exact e
  rcases h with (h | ⟨u, h⟩) | h
  · exact .inl (.inl (no h fun ys z => nomatch z))
  · exact .inl (.inr ⟨u, no h fun ys z => nomatch z⟩)
  · exact .inr h
theorem hid_new {H H' : Hp} {F : List Addr} {L W : Addr} {o : HO} (hL : L ∈ F) (sm : Same H H') (n : H' W = none) : Same (hid F H) (hid [L, W] (upd H' W o)) := fun b x e => by
  have nF : b ∉ F := fun z => by
    unfold hid at e
    rw [if_pos z] at e
    cases e
  rw [hid_at nF] at e
  have e' := sm _ _ e
  have nW : b ≠ W := fun z => by
    rw [z, n] at e'
    cases e'
  have nb : b ∉ [L, W] := fun z => by
    rcases List.mem_cons.mp z with rfl | z
    · exact nF hL
    · exact nW (List.mem_singleton.mp z)
  rw [hid_at nb, upd_ne nW]
  exact e'
theorem Th.lists {H : Hp} {L W S : Addr} {n : Nat} {T : Int} (t : Th K H L W n) (f : Feed H L S T) : ∀ b ∈ [L, W], ∃ zs, H b = some (.lst zs) := fun b hb => by
  rcases List.mem_cons.mp hb with rfl | hb
  · exact f.there
  · obtain ⟨us, ds, e, _⟩ := t.ex
    rw [List.mem_singleton.mp hb]
    exact ⟨_, e⟩
theorem Th.took {H : Hp} {L W S : Addr} {n : Nat} {T : Int} (t : Th K H L W n) (f : Feed H L S T) : Took [L, W] H := fun b hb z => by
  obtain ⟨zs, e⟩ := t.lists f b hb
  rw [e] at z
  cases z
/-! ### _law_things -/
def spTh (K : PySem.W.Frag) : Sp := fun vs H Q _ => ∃ (L S a : Addr) (T t : Int) (ws : List Int), vs = [.ref L, .int t, .ref a] ∧ Feed H L S T ∧ T < 700000 ∧ SqT K H a (ws.map V.int) ∧ OkW t ws ∧ ws.length ≤ 12 ∧
  ∀ (H' : Hp) (W : Addr) (us : List V) (ds : List PyData), But L H H' → Feed H' L S (T + 42) → H' W = some (.lst us) → DpAll K H' us ds → (∀ d ∈ ds, Ft d) → ds.length = 27 → Q (.ref W) H'
theorem ok_th {f fR fP fMo fBe fOd : Addr} {fd fdR fdP fdMo fdBe fdOd : FuncData} (F : Fun K "_law_things" "_law_things" sTh f fd)
    (GDr : FnOk P w K mg base CX0 1 fR fdR ["_law_feed_here", "_law_many"] spDraw) (kDr : PySem.W.keepIn K (.ref fR) = true) (bDr : Binds K fdR ["_law_feed_here", "_law_many"] []) (gDr : mg "_law_draw" = some (.ref fR))
    (GP : FnOk P w K mg base CX0 1 fP fdP ["_law_total_here", "_law_weights_here"] (spPa K)) (kP : PySem.W.keepIn K (.ref fP) = true) (bP : Binds K fdP ["_law_total_here", "_law_weights_here"] []) (gP : mg "_law_parts" = some (.ref fP))
    (GMo : FnOk P w K mg base CX0 2 fMo fdMo ["_law_feed_here", "_law_parts_here", "_law_many"] (spMo K)) (kMo : PySem.W.keepIn K (.ref fMo) = true) (bMo : Binds K fdMo ["_law_feed_here", "_law_parts_here", "_law_many"] []) (gMo : mg "_law_moved" = some (.ref fMo))
    (GBe : FnOk P w K mg base CX0 3 fBe fdBe ["_law_feed_here", "_law_thing", "_law_odd_here"] (spBd K 2)) (GBf : FnOk P w K mg base CX0 6 fBe fdBe ["_law_feed_here", "_law_thing", "_law_odd_here"] (spBd K 5)) (kBe : PySem.W.keepIn K (.ref fBe) = true) (bBe : Binds K fdBe ["_law_feed_here", "_law_thing", "_law_odd_here"] []) (gBe : mg "_law_bend" = some (.ref fBe))
    (GOd : FnOk P w K mg base CX0 1 fOd fdOd [] (spOdd K)) (kOd : PySem.W.keepIn K (.ref fOd) = true) (bOd : Binds K fdOd [] []) (gOd : mg "_law_odd" = some (.ref fOd))
    (m_tuple : mg "tuple" = none) (m_list : mg "list" = none) (m_len : mg "len" = none) (m_range : mg "range" = none) :
    FnOk P w K mg base CX0 7 f fd ["_law_feed_here", "_law_total_here", "_law_weights_here"] (spTh K) := by
  refine F.ok scTh (fun vs H Q E h => ?_) (fun cdv A outer s H vs Q E hr h => ?_)
  · obtain ⟨L, S, a, T, t, ws, rfl, _⟩ := h
    rfl
  · obtain ⟨L, S, a, T, t, ws, rfl, f0, T0, hA, ok, wl, q⟩ := h
    refine ⟨_, (pss_cons (ps_asg (pe_call GP (hr.mono (by decide)) (by rfl) gP kP bP .nil pass0 (pa_cons (pv 1) (pa_cons (pv 2) pa_nil))) (pg_tup rfl (pgs_cons (pg_name (i := 3) scTh.nd rfl (.inl rfl)) (pgs_cons (pg_name (i := 4) scTh.nd rfl (.inl rfl)) (pgs_cons (pg_name (i := 5) scTh.nd rfl (.inl rfl)) pgs_nil)))))
      (pss_cons (ps_set (i := 6) scTh.nd rfl (.inl rfl) (pe_callTy call_tuple_of (by rfl) m_tuple (by decide +kernel) (pa_cons (pv 5) pa_nil)))
      (pss_cons (ps_set (i := 7) scTh.nd rfl (.inl rfl) (pe_op op_mulW (pe_op op_mulW (pe_op op_pow pe_int pe_int) (pe_op op_pow pe_int pe_int)) (pe_op op_pow pe_int pe_int)))
      (pss_cons (ps_asg (pe_tup (pa_cons (pe_call GDr (hr.mono (by decide)) (by rfl) gDr kDr bDr .nil pass0 (pa_cons (pv 0) (pa_cons (pe_callB call_len_seq (by rfl) m_len (by decide +kernel) (pa_cons (pv 6) pa_nil)) pa_nil))) (pa_cons (pe_call GDr (hr.mono (by decide)) (by rfl) gDr kDr bDr .nil pass0 (pa_cons (pv 0) (pa_cons (pe_callB call_len_seq (by rfl) m_len (by decide +kernel) (pa_cons (pv 6) pa_nil)) pa_nil))) pa_nil))) (pg_tup rfl (pgs_cons (pg_name (i := 8) scTh.nd rfl (.inr rfl)) (pgs_cons (pg_name (i := 9) scTh.nd rfl (.inl rfl)) pgs_nil))))
      (pss_cons (ps_set (i := 10) scTh.nd rfl (.inl rfl) (pe_callTy call_list_of (by rfl) m_list (by decide +kernel) (pa_cons (pv 6) pa_nil)))
      (pss_cons (ps_asg (pe_ix ix_tup (pv 6) (pv 9) (fun _ _ => rfl)) (pg_sub (pv 10) (pv 8) set_list))
      (pss_cons (ps_asg (pe_ix ix_tup (pv 6) (pv 8) (fun _ _ => rfl)) (pg_sub (pv 10) (pv 9) set_list))
      (pss_cons (ps_set (i := 11) scTh.nd rfl (.inl rfl) (pe_lst (pa_cons (pv 6) (pa_cons (pe_callTy call_tuple_of (by rfl) m_tuple (by decide +kernel) (pa_cons (pv 10) pa_nil)) (pa_cons (pe_callTy call_tuple_of (by rfl) m_tuple (by decide +kernel) (pa_cons (pv 3) pa_nil)) (pa_cons (pe_callTy call_list_of (by rfl) m_list (by decide +kernel) (pa_cons (pv 6) pa_nil)) (pa_cons (pe_tup pa_nil) (pa_cons pe_non (pa_cons pe_int (pa_cons pe_str (pa_cons (pe_slice sl_tupA (pv 6) (po_some pe_int) po_none) (pa_cons (pe_op op_catA (pv 6) (pe_tup (pa_cons pe_int pa_nil))) (pa_cons (pe_revT (pv 6)) pa_nil)))))))))))))
      (pss_cons (ps_for PassesOwn.never rfl (pi_tup (pe_tup (pa_cons pe_int (pa_cons pe_int (pa_cons pe_int (pa_cons pe_int (pa_cons pe_int (pa_cons (pv 7) pa_nil)))))))) (pg_name (i := 12) scTh.nd rfl (.inl rfl)) (pss_one (ps_expr (pe_bm PySem.F.plainAttrs_list PySem.F.slot_list_append PySem.F.type_list_append mt_append (pv 11) (pa_cons (pe_call GMo (hr.mono (by decide)) (by rfl) gMo kMo bMo .nil pass0 (pa_cons (pv 0) (pa_cons (pv 6) (pa_cons (pv 12) pa_nil)))) pa_nil)))))
      (pss_cons (ps_for PassesOwn.never rfl (pi_tup (pe_tup (pa_cons pe_non (pa_cons pe_bl (pa_cons pe_str (pa_cons (pe_lst (pa_cons pe_int pa_nil)) (pa_cons (pe_tup (pa_cons pe_int pa_nil)) (pa_cons (pe_op op_add (pe_ix ix_tup (pv 6) (pv 8) (fun _ _ => rfl)) pe_int) (pa_cons (pe_un un_neg pe_int) pa_nil))))))))) (pg_name (i := 13) scTh.nd rfl (.inl rfl)) (pss_one (ps_expr (pe_bm PySem.F.plainAttrs_list PySem.F.slot_list_append PySem.F.type_list_append mt_append (pv 11) (pa_cons (pe_op op_catA (pe_op op_catA (pe_slice sl_tupA (pv 6) po_none (po_some (pv 8))) (pe_tup (pa_cons (pv 13) pa_nil))) (pe_slice sl_tupA (pv 6) (po_some (pe_op op_add (pv 8) pe_int)) po_none)) pa_nil)))))
      (pss_cons (ps_expr (pe_bm PySem.F.plainAttrs_list PySem.F.slot_list_append PySem.F.type_list_append mt_append (pv 11) (pa_cons (pe_callTy call_tuple_of (by rfl) m_tuple (by decide +kernel) (pa_cons (pe_lc (own := [("_law_k", 15)]) (g := gName 15) (tt := tYes) rfl scTh.nd (pi_range1 (by rfl) m_range (pa_cons (pe_callB call_len_seq (by rfl) m_len (by decide +kernel) (pa_cons (pv 6) pa_nil)) pa_nil)) (blkOk_by (own := [("_law_k", 15)]) (N := ["_law_feed_here", "_law_total_here", "_law_weights_here", "_law_low", "_law_left", "_law_told", "_law_parts_here", "_law_far", "_law_at", "_law_to", "_law_row", "_law_things_here", "_law_many", "_law_odd_here", "_law_bent", "_law_k"]) (sc := defScope sTh) (by decide +kernel)) (fun _ _ _ _ _ => (pg_name (i := 15) scTh.nd rfl (.inl rfl))) (fun _ _ _ _ _ => pts_nil) (fun _ _ _ _ _ => (pe_ifExp (pt_cmpR op_eq (pv 15) (pv 8) (nomark _)) (pv 1) pe_int))) pa_nil)) pa_nil)))
      (pss_cons (ps_set (i := 14) scTh.nd rfl (.inl rfl) (pe_call GBe (hr.mono (by decide)) (by rfl) gBe kBe bBe .nil pass0 (pa_cons (pv 0) (pa_cons (pv 6) (pa_cons (pe_call0 GOd (hr.mono (by decide)) (by rfl) gOd kOd bOd .nil pass0) pa_nil)))))
      (pss_one (ps_ret (pe_op op_cat (pv 11) (pe_lst (pa_cons (pv 14) (pa_cons (pe_call GBf (hr.mono (by decide)) (by rfl) gBe kBe bBe .nil pass0 (pa_cons (pv 0) (pa_cons (pv 14) (pa_cons (pe_call0 GOd (hr.mono (by decide)) (by rfl) gOd kOd bOd .nil pass0) pa_nil)))) pa_nil)))))))))))))))))), ?_⟩
    have n0 := ok.n0
    have pl := parts_len t ws
    have hps : Sm (parts t ws) := fun x hx => by
      obtain ⟨a, b⟩ := part_bound ok hx
      exact up50 a b
    have hlo : Sm (lows t ws) := fun x hx => by
      obtain ⟨w, hw, rfl⟩ := List.mem_map.mp hx
      obtain ⟨a, b⟩ := low_bound ok hw
      exact up50 a (by have := ok.t1; omega)
    have ll := lows_len t ws
    refine ⟨_, rfl, _, rfl, a, t, ws, rfl, hA, ok, fun H1 r x y z s1 er ex ey ez => ?_⟩
    generalize lows t ws = lo at *
    generalize rsts t ws = re at *
    generalize parts t ws = ps at *
    refine ⟨r, _, rfl, .inl (.inl er), rfl, _, _, rfl, _, _, rfl, _, _, rfl, rfl, ?_⟩
    refine ⟨_, rfl, z, _, rfl, .inl ⟨.inl (.inl ez), fun p np => ?_⟩⟩
    have s2 := same_upd (o := .tup (ps.map V.int)) np
    have hp : SqT K (upd H1 p (.tup (ps.map V.int))) p (ps.map V.int) := .inl (.inl upd_same)
    generalize upd H1 p (.tup (ps.map V.int)) = H2 at *
    have ex2 := s2 _ _ ex
    have f2 := f0.same (s1.trans s2)
    have k2 : But L H H2 := fun b o _ e => (s1.trans s2) b o e
    refine ⟨_, _, rfl, rfl, ⟨by decide, by decide, by decide⟩, _, _, rfl, rfl, ⟨by decide, by decide, by decide⟩, _, _, rfl, rfl, (by unfold CMulW; decide +kernel), _, _, rfl, rfl, ⟨by decide, by decide, by decide⟩, _, _, rfl, rfl, (by unfold CMulW; decide +kernel), ?_⟩
    show tSeq _ _ _ [some (.ref L), some (.int t), some (.ref a), some (.ref x), some (.ref y), some (.ref z), some (.ref p), some (.int far), none, none, none, none, none, none, none, none] _
    refine ⟨_, rfl, _, rfl, p, _, rfl, .inr hp, L, S, _, T, rfl, by rw [List.length_map]; omega, by rw [List.length_map]; omega, f2, by omega, fun H3 v3 k3 f3 l3 u3 => ?_⟩
    obtain ⟨z2, ez2⟩ := f2.there
    have hp3 := SqT.but k3 ez2 hp
    obtain ⟨z3, ez3⟩ := f3.there
    refine ⟨_, rfl, _, rfl, p, _, rfl, .inr hp3, L, S, _, _, rfl, by rw [List.length_map]; omega, by rw [List.length_map]; omega, f3, by omega, fun H4 v4 k4 f4 l4 u4 => ?_⟩
    have hp4 := SqT.but k4 ez3 hp3
    have xL : x ≠ L := fun z => by
      rw [z] at ex
      obtain ⟨_, _, _, _, a, _⟩ := f0.ex
      have b := s1 _ _ a
      rw [ex] at b
      have := Option.some.inj b
      cases lo with
      | nil => cases this
      | cons c lo => cases this
    have ex4 := k4 _ _ xL (k3 _ _ xL ex2)
    refine ⟨by show (2 : Nat) ≤ sizeLine; decide, fun Z nZ => ?_⟩
    have sZ := same_upd (o := .tup [.int v3, .int v4]) nZ
    refine ⟨Z, _, rfl, .inl (.inl upd_same), rfl, _, _, rfl, _, _, rfl, rfl, ?_⟩
    have hpZ := TB.Same.tup sZ hp4
    have exZ := sZ _ _ ex4
    have fZ := f4.same sZ
    have kZ : But L H (upd H4 Z (.tup [.int v3, .int v4])) := ((k2.trans k3).trans k4).same sZ
    generalize upd H4 Z (.tup [.int v3, .int v4]) = H5 at *
    obtain ⟨j3, rfl⟩ := Int.eq_ofNat_of_zero_le l3
    obtain ⟨j4, rfl⟩ := Int.eq_ofNat_of_zero_le l4
    have j3' : j3 < ps.length := by
      rw [List.length_map] at u3
      omega
    have j4' : j4 < ps.length := by
      rw [List.length_map] at u4
      omega
    show tSeq _ _ _ [some (.ref L), some (.int t), some (.ref a), some (.ref x), some (.ref y), some (.ref z), some (.ref p), some (.int far), some (.int (j3 : Int)), some (.int (j4 : Int)), none, none, none, none, none, none] _
    -- the row
    refine ⟨_, rfl, p, _, rfl, .inr hpZ, fun R nR => ?_⟩
    have sR := same_upd (o := .lst (ps.map V.int)) nR
    have eR : (upd H5 R (.lst (ps.map V.int))) R = some (.lst (ps.map V.int)) := upd_same
    generalize upd H5 R (.lst (ps.map V.int)) = H6 at *
    refine ⟨_, rfl, _, rfl, p, _, _, _, rfl, rfl, TB.Same.tup sR hpZ, atI_nat (gInt j4'), _, rfl, _, rfl, R, _, _, j3, rfl, rfl, eR, ixN_nat (by rw [List.length_map]; exact j3'), ?_⟩
    have sR2 : Same H5 (upd H6 R (.lst ((ps.map V.int).set j3 (.int (ps.getD j4 0))))) := same_new nR sR
    have eR2 : (upd H6 R (.lst ((ps.map V.int).set j3 (.int (ps.getD j4 0))))) R = some (.lst ((ps.set j3 (ps.getD j4 0)).map V.int)) := by
      rw [upd_same, List.map_set]
    generalize upd H6 R (.lst ((ps.map V.int).set j3 (.int (ps.getD j4 0)))) = H7 at *
    have q1 : Sm (ps.set j3 (ps.getD j4 0)) := fun x hx => by
      rcases List.mem_or_eq_of_mem_set hx with z | z
      · exact hps x z
      · rw [z]
        exact hps _ (getD_mem j4')
    have l1 : (ps.set j3 (ps.getD j4 0)).length = ps.length := List.length_set
    generalize ps.set j3 (ps.getD j4 0) = qs at *
    refine ⟨_, rfl, _, rfl, p, _, _, _, rfl, rfl, TB.Same.tup sR2 hpZ, atI_nat (gInt j3'), _, rfl, _, rfl, R, _, _, j4, rfl, rfl, eR2, ixN_nat (by rw [List.length_map]; omega), ?_⟩
    have sR3 : Same H5 (upd H7 R (.lst ((qs.map V.int).set j4 (.int (ps.getD j3 0))))) := same_new nR sR2
    have eR3 : (upd H7 R (.lst ((qs.map V.int).set j4 (.int (ps.getD j3 0))))) R = some (.lst ((qs.set j4 (ps.getD j3 0)).map V.int)) := by
      rw [upd_same, List.map_set]
    generalize upd H7 R (.lst ((qs.map V.int).set j4 (.int (ps.getD j3 0)))) = H8 at *
    have q2 : Sm (qs.set j4 (ps.getD j3 0)) := fun x hx => by
      rcases List.mem_or_eq_of_mem_set hx with z | z
      · exact q1 x z
      · rw [z]
        exact hps _ (getD_mem j3')
    have l2 : (qs.set j4 (ps.getD j3 0)).length = qs.length := List.length_set
    generalize qs.set j4 (ps.getD j3 0) = rs at *
    clear q1 eR2 sR2 sR eR
    show tSeq _ _ _ [some (.ref L), some (.int t), some (.ref a), some (.ref x), some (.ref y), some (.ref z), some (.ref p), some (.int far), some (.int (j3 : Int)), some (.int (j4 : Int)), some (.ref R), none, none, none, none, none] _
    have hp8 := TB.Same.tup sR3 hpZ
    -- the eleven
    refine ⟨_, rfl, _, rfl, R, _, rfl, .inl ⟨.inl (.inl eR3), fun p2 n2 => ?_⟩⟩
    have c2 := same_upd (o := .tup (rs.map V.int)) n2
    have h2 : SqT K (upd H8 p2 (.tup (rs.map V.int))) p2 (rs.map V.int) := .inl (.inl upd_same)
    generalize upd H8 p2 (.tup (rs.map V.int)) = G2 at *
    refine ⟨_, rfl, x, _, rfl, .inl ⟨.inl (.inl ((sR3.trans c2) _ _ exZ)), fun p3 n3 => ?_⟩⟩
    have c3 := same_upd (o := .tup (lo.map V.int)) n3
    have h3 : SqT K (upd G2 p3 (.tup (lo.map V.int))) p3 (lo.map V.int) := .inl (.inl upd_same)
    generalize upd G2 p3 (.tup (lo.map V.int)) = G3 at *
    refine ⟨_, rfl, p, _, rfl, .inr (TB.Same.tup (c2.trans c3) hp8), fun p4 n4 => ?_⟩
    have c4 := same_upd (o := .lst (ps.map V.int)) n4
    have h4 : (upd G3 p4 (.lst (ps.map V.int))) p4 = some (.lst (ps.map V.int)) := upd_same
    have n4L := ((fZ.same ((sR3.trans c2).trans c3)).ne n4).1
    generalize upd G3 p4 (.lst (ps.map V.int)) = G4 at *
    refine ⟨Nat.zero_le _, fun p5 n5 => ?_⟩
    have c5 := same_upd (o := .tup []) n5
    have h5 : SqT K (upd G4 p5 (.tup [])) p5 [] := .inl (.inl upd_same)
    generalize upd G4 p5 (.tup []) = G5 at *
    have hp5 := TB.Same.tup ((c2.trans c3).trans (c4.trans c5)) hp8
    refine ⟨_, rfl, _, rfl, ?_⟩
    show tNoPart _ _ _
    unfold tNoPart
    show rSlA _ _ (some 1) none _ _
    refine slA hp5 fun G6 p6 c6 h6 => ?_
    obtain ⟨ms, em, ml, mm⟩ := cut_ints ps (some 1) none
    rw [em] at h6
    refine ⟨_, rfl, by show (1 : Nat) ≤ sizeLine; decide, fun p7 n7 => ?_⟩
    have c7 := same_upd (o := .tup [.int 0]) n7
    refine catA (TB.Same.tup (c6.trans c7) hp5) (.inl (.inl upd_same)) (by rw [List.length_map]; show _ + 1 ≤ sizeLine; exact Nat.le_of_lt (small1000 (by omega))) fun G8 p8 c8 h8 => ?_
    have c68 := c6.trans (c7.trans c8)
    have h68 := TB.Same.tup (c7.trans c8) h6
    have h8' : SqT K G8 p8 ((ps ++ [0]).map V.int) := by
      rw [List.map_append]
      exact h8
    refine ⟨_, rfl, p, _, rfl, TB.Same.tup c68 hp5, fun p9 n9 => ?_⟩
    have c9 := same_upd (o := .tup (ps.map V.int).reverse) n9
    have h9 : SqT K (upd G8 p9 (.tup (ps.map V.int).reverse)) p9 ((ps.reverse).map V.int) := by
      rw [List.map_reverse]
      exact .inl (.inl upd_same)
    generalize upd G8 p9 (.tup (ps.map V.int).reverse) = G9 at *
    refine ⟨by show (11 : Nat) ≤ sizeLine; decide, fun W nW => ?_⟩
    have d59 := c68.trans c9
    have d49 := c5.trans d59
    have d39 := c4.trans d49
    have d29 := c3.trans d39
    have d89 := c2.trans d29
    have f9 := fZ.same (sR3.trans d89)
    have k9 := kZ.same (sR3.trans d89)
    have hF9 : ∀ b ∈ [L], ∃ zs, G9 b = some (.lst zs) := fun b hb => by
      rw [List.mem_singleton.mp hb]
      exact f9.there
    have hp9 := TB.Same.tup d59 hp5
    have lift : ∀ {b : Addr} {ns : List Int}, SqT K G9 b (ns.map V.int) → Dp K (hid [L] G9) (.ref b) (.tuple (dInts ns)) := fun {b ns} h => .tup (hid_tup hF9 h) (dp_ints ns)
    have dv : DpAll K (hid [L] G9) [.ref p, .ref p2, .ref p3, .ref p4, .ref p5, .non, .int 0, .str "", .ref p6, .ref p8, .ref p9] [.tuple (dInts ps), .tuple (dInts rs), .tuple (dInts lo), .list (dInts ps), .tuple (dInts []), .none, .int 0, .str "", .tuple (dInts ms), .tuple (dInts (ps ++ [0])), .tuple (dInts ps.reverse)] := by
      refine .cons (lift hp9) (.cons (lift (TB.Same.tup d29 h2)) (.cons (lift (TB.Same.tup d39 h3)) (.cons (.lst (.inl (.inl ?_)) (dp_ints ps)) (.cons (lift (ns := []) (TB.Same.tup d59 h5)) (.cons .non (.cons (.int _) (.cons (.str _) (.cons (lift (TB.Same.tup c9 h68)) (.cons (lift (TB.Same.tup c9 h8')) (.cons (lift h9) .nil))))))))))
      rw [hid_at (fun z => n4L (List.mem_singleton.mp z))]
      exact d49 _ _ h4
    have fd : ∀ d ∈ [PyData.tuple (dInts ps), .tuple (dInts rs), .tuple (dInts lo), .list (dInts ps), .tuple (dInts []), .none, .int 0, .str "", .tuple (dInts ms), .tuple (dInts (ps ++ [0])), .tuple (dInts ps.reverse)], Ft d := fun d hd => by
      simp only [List.mem_cons, List.not_mem_nil, or_false] at hd
      rcases hd with rfl | rfl | rfl | rfl | rfl | rfl | rfl | rfl | rfl | rfl | rfl
      · exact ft_ints (by omega) hps
      · exact ft_ints (by omega) q2
      · exact ft_ints (by omega) hlo
      · exact ft_lst (by omega) hps
      · exact ft_ints (by show (0 : Nat) ≤ 100; decide) fun x hx => by cases hx
      · exact ft_atom (by simp [sz]) (by simp [PyData.depth]) (by simp [Ats])
      · exact ft_atom (by simp [sz]) (by simp [PyData.depth]) (by simp only [Ats]; exact Nat.two_pow_pos _)
      · exact ft_atom (by simp [sz]) (by simp [PyData.depth]) (chk_ats _ (by decide +kernel))
      · exact ft_ints (by omega) fun x hx => hps x (mm x hx)
      · refine ft_ints (by rw [List.length_append]; show _ + 1 ≤ 100; omega) fun x hx => ?_
        rcases List.mem_append.mp hx with z | z
        · exact hps x z
        · rw [List.mem_singleton.mp z]
          exact Nat.two_pow_pos _
      · exact ft_ints (by rw [List.length_reverse]; omega) fun x hx => hps x (List.mem_reverse.mp hx)
    have WL := (f9.ne nW).1
    have WS := (f9.ne nW).2
    obtain ⟨z9, ez9⟩ := f9.there
    have nWH : H W = none := k9.free ez9 nW
    have th : Th K (upd G9 W (.lst [.ref p, .ref p2, .ref p3, .ref p4, .ref p5, .non, .int 0, .str "", .ref p6, .ref p8, .ref p9])) L W 11 := ⟨⟨_, _, upd_same, DpAll.same (hid_new List.mem_cons_self (Same.refl G9) nW) _ _ dv, fd, rfl⟩⟩
    have cW := same_upd (o := .lst [.ref p, .ref p2, .ref p3, .ref p4, .ref p5, .non, .int 0, .str "", .ref p6, .ref p8, .ref p9]) nW
    have fW := f9.same cW
    have kW := k9.same cW
    have hpW := TB.Same.tup cW hp9
    generalize upd G9 W (.lst [.ref p, .ref p2, .ref p3, .ref p4, .ref p5, .non, .int 0, .str "", .ref p6, .ref p8, .ref p9]) = HW at *
    clear dv fd lift h2 h3 h4 h5 h6 h8 h8' h9 h68
    show tSeq _ _ _ [some (.ref L), some (.int t), some (.ref a), some (.ref x), some (.ref y), some (.ref z), some (.ref p), some (.int far), some (.int (j3 : Int)), some (.int (j4 : Int)), some (.ref R), some (.ref W), none, none, none, none] _
    have mv : ∀ v ∈ [V.int 1, .int 1, .int 1, .int 2, .int 7, .int far], ∃ many : Int, v = .int many ∧ many.natAbs < 2 ^ 690 := fun v hv => by
      simp only [List.mem_cons, List.not_mem_nil, or_false] at hv
      rcases hv with rfl | rfl | rfl | rfl | rfl | rfl
      · exact ⟨_, rfl, up50 (by decide) (by decide)⟩
      · exact ⟨_, rfl, up50 (by decide) (by decide)⟩
      · exact ⟨_, rfl, up50 (by decide) (by decide)⟩
      · exact ⟨_, rfl, up50 (by decide) (by decide)⟩
      · exact ⟨_, rfl, up50 (by decide) (by decide)⟩
      · exact ⟨_, rfl, far_ok⟩
    -- the moved
    refine ⟨_, rfl, by show (6 : Nat) ≤ sizeLine; decide, fun M nM => ?_⟩
    have cM := same_upd (o := .tup [.int 1, .int 1, .int 1, .int 2, .int 7, .int far]) nM
    have hM : SqT K (upd HW M (.tup [.int 1, .int 1, .int 1, .int 2, .int 7, .int far])) M [.int 1, .int 1, .int 1, .int 2, .int 7, .int far] := .inl (.inl upd_same)
    generalize upd HW M (.tup [.int 1, .int 1, .int 1, .int 2, .int 7, .int far]) = HM at *
    refine ⟨M, rfl, ⟨_, hM⟩, ?_⟩
    refine for_tup (xs := [.int 1, .int 1, .int 1, .int 2, .int 7, .int far]) (fun i σ G => ∃ y12, σ = [some (.ref L), some (.int t), some (.ref a), some (.ref x), some (.ref y), some (.ref z), some (.ref p), some (.int far), some (.int (j3 : Int)), some (.int (j4 : Int)), some (.ref R), some (.ref W), y12, none, none, none] ∧ But L H G ∧ Feed G L S (T + 2 + 2 * i) ∧ SqT K G p (ps.map V.int) ∧ SqT K G M [.int 1, .int 1, .int 1, .int 2, .int 7, .int far] ∧ Th K G L W (11 + i))
      ⟨_, rfl, kW.same cM, (fW.same cM).mono (by omega), TB.Same.tup cM hpW, hM, th.same cM⟩ ?_ ?_ ?_
    · rintro i σ G _ ⟨y12, rfl, k1, f1, h1, h2, t1⟩
      exact h2
    · rintro i v σ G hv ⟨y12, rfl, k1, f1, h1, h2, t1⟩
      obtain ⟨many, rfl, hm⟩ := mv v (List.mem_of_getElem? hv)
      have il : i < 6 := (List.getElem?_eq_some_iff.mp hv).1
      obtain ⟨u0, d0, eW0, _⟩ := t1.ex
      refine ⟨_, rfl, .inl ⟨rfl, _, .inl (.inl eW0)⟩, _, rfl, _, rfl, _, rfl, L, S, p, _, many, ps, rfl, f1, by omega, h1, by omega, by omega, hps, hm, fun G2 r ms k2 f2 er lq hq => ?_⟩
      obtain ⟨z1, ez1⟩ := f1.there
      have t2 := t1.but k2 WL
      have ls2 := t2.lists f2
      obtain ⟨us, ds, eW, du, dc⟩ := t2.ex
      have ul := DpAll.len du
      have dl := dc.2
      refine ⟨W, us, _, rfl, rfl, eW, small1000 (by omega), ?_⟩
      refine ⟨_, rfl, fun b o nb e => ?_, (Feed.upd f2 ⟨WL, WS⟩).mono (by push_cast; omega), SqT.but But.upd eW (SqT.but k2 ez1 h1), SqT.but But.upd eW (SqT.but k2 ez1 h2), ?_⟩
      · have nb' : b ≠ W := fun z => by
          rw [z, nWH] at e
          cases e
        rw [upd_ne nb']
        exact k2 b o nb (k1 b o nb e)
      · exact Th.more eW du dc (.tup (hid_tup ls2 (.inl (.inl er))) (dp_ints ms)) (ft_ints7 (by omega) hq)
    rintro σ HN ⟨y12, rfl, kN, fN, hpN, _, tN⟩
    clear th fW kW hpW cM hM
    have fN : Feed HN L S (T + 14) := fN.mono (by show T + 2 + 2 * ((6 : Nat) : Int) ≤ T + 14; omega)
    have tN : Th K HN L W 17 := tN
    -- the odd ones
    have tkN := tN.took fN
    refine ⟨by show (1 : Nat) ≤ sizeLine; decide, fun o1 no1 => ?_⟩
    have co1 := same_upd (o := .lst [.int 1]) no1
    have ho1 : SqL K (hid [L, W] (upd HN o1 (.lst [.int 1]))) o1 [.int 1] := newL tkN no1
    have tk1 := tkN.same co1
    generalize upd HN o1 (.lst [.int 1]) = N1 at *
    refine ⟨by show (1 : Nat) ≤ sizeLine; decide, fun o2 no2 => ?_⟩
    have co2 := same_upd (o := .tup [.int 1]) no2
    have ho2 : SqT K (hid [L, W] (upd N1 o2 (.tup [.int 1]))) o2 [.int 1] := newT tk1 no2
    generalize upd N1 o2 (.tup [.int 1]) = N2 at *
    refine ⟨_, rfl, _, rfl, p, _, _, _, rfl, rfl, TB.Same.tup (co1.trans co2) hpN, atI_nat (gInt j3'), _, _, rfl, rfl, 1, rfl, by show (7 : Nat) ≤ sizeLine; decide, fun M2 nM2 => ?_⟩
    have cM2 := same_upd (o := .tup [.non, .bl true, .str "1", .ref o1, .ref o2, .int (ps.getD j3 0 + 1), .int (-1)]) nM2
    have hM2 : SqT K (upd N2 M2 (.tup [.non, .bl true, .str "1", .ref o1, .ref o2, .int (ps.getD j3 0 + 1), .int (-1)])) M2 [.non, .bl true, .str "1", .ref o1, .ref o2, .int (ps.getD j3 0 + 1), .int (-1)] := .inl (.inl upd_same)
    generalize upd N2 M2 (.tup [.non, .bl true, .str "1", .ref o1, .ref o2, .int (ps.getD j3 0 + 1), .int (-1)]) = N3 at *
    have cN3 := (co1.trans co2).trans cM2
    have dO : DpAll K (hid [L, W] N3) [.non, .bl true, .str "1", .ref o1, .ref o2, .int (ps.getD j3 0 + 1), .int (-1)] [.none, .bool true, .str "1", .list [.int 1], .tuple [.int 1], .int (ps.getD j3 0 + 1), .int (-1)] :=
      .cons .non (.cons (.bl _) (.cons (.str _) (.cons (Dp.same (hid_same (co2.trans cM2)) _ _ (.lst ho1 (.cons (.int _) .nil))) (.cons (Dp.same (hid_same cM2) _ _ (.tup ho2 (.cons (.int _) .nil))) (.cons (.int _) (.cons (.int _) .nil))))))
    have fO : ∀ d ∈ [PyData.none, .bool true, .str "1", .list [.int 1], .tuple [.int 1], .int (ps.getD j3 0 + 1), .int (-1)], Fit 10 3 0 d := fun d hd => by
      simp only [List.mem_cons, List.not_mem_nil, or_false] at hd
      rcases hd with rfl | rfl | rfl | rfl | rfl | rfl | rfl
      · exact fit_c (by decide +kernel) (by decide +kernel) (by decide +kernel)
      · exact fit_c (by decide +kernel) (by decide +kernel) (by decide +kernel)
      · exact fit_c (by decide +kernel) (by decide +kernel) (by decide +kernel)
      · exact fit_c (by decide +kernel) (by decide +kernel) (by decide +kernel)
      · exact fit_c (by decide +kernel) (by decide +kernel) (by decide +kernel)
      · refine ⟨by simp [sz], by simp [PyData.depth], ?_⟩
        simp only [Ats]
        have h1 := hps _ (getD_mem j3')
        have e : (2 : Nat) ^ 691 = 2 ^ 690 + 2 ^ 690 := pw2 690
        refine Nat.lt_of_lt_of_le (m := 2 ^ 691) ?_ (Nat.pow_le_pow_right (by decide) (by omega))
        have := Nat.two_pow_pos 690
        generalize (2 : Nat) ^ 690 = B at *
        generalize (2 : Nat) ^ 691 = C at *
        omega
      · exact fit_c (by decide +kernel) (by decide +kernel) (by decide +kernel)
    obtain ⟨as, ea, al, am⟩ := cut_ints ps none (some (j3 : Int))
    obtain ⟨bs, eb, bl, bm⟩ := cut_ints ps (some ((j3 : Int) + 1)) none
    refine ⟨M2, rfl, ⟨_, hM2⟩, ?_⟩
    refine for_tup (xs := [.non, .bl true, .str "1", .ref o1, .ref o2, .int (ps.getD j3 0 + 1), .int (-1)]) (fun i σ G => ∃ y13, σ = [some (.ref L), some (.int t), some (.ref a), some (.ref x), some (.ref y), some (.ref z), some (.ref p), some (.int far), some (.int (j3 : Int)), some (.int (j4 : Int)), some (.ref R), some (.ref W), y12, y13, none, none] ∧ But L H G ∧ Feed G L S (T + 14) ∧ SqT K G p (ps.map V.int) ∧ SqT K G M2 [.non, .bl true, .str "1", .ref o1, .ref o2, .int (ps.getD j3 0 + 1), .int (-1)] ∧
        DpAll K (hid [L, W] G) [.non, .bl true, .str "1", .ref o1, .ref o2, .int (ps.getD j3 0 + 1), .int (-1)] [.none, .bool true, .str "1", .list [.int 1], .tuple [.int 1], .int (ps.getD j3 0 + 1), .int (-1)] ∧ Th K G L W (17 + i))
      ⟨_, rfl, kN.same cN3, fN.same cN3, TB.Same.tup cN3 hpN, hM2, dO, tN.same cN3⟩ ?_ ?_ ?_
    · rintro i σ G _ ⟨y13, rfl, k1, f1, h1, h2, d1, t1⟩
      exact h2
    · rintro i v σ G hv ⟨y13, rfl, k1, f1, h1, h2, d1, t1⟩
      have il : i < 7 := (List.getElem?_eq_some_iff.mp hv).1
      obtain ⟨d, hd, dv⟩ := DpAll.get d1 hv
      have fd := fO d (List.mem_of_getElem? hd)
      have tk := t1.took f1
      have hpH := hid_tup (t1.lists f1) h1
      obtain ⟨u0, d0, eW0, _⟩ := t1.ex
      refine ⟨_, rfl, .inl ⟨rfl, _, .inl (.inl eW0)⟩, _, rfl, _, rfl, _, rfl, ?_⟩
      show rSlA _ _ none (some (j3 : Int)) _ _
      refine slH tk hpH fun G1 r1 s1 e1 => ?_
      rw [ea] at e1
      have t2 := tk.same s1
      refine ⟨_, rfl, by show (1 : Nat) ≤ sizeLine; decide, fun r2 n2 => ?_⟩
      have s2 := same_upd (o := .tup [v]) n2
      have e2 : SqT K (hid [L, W] (upd G1 r2 (.tup [v]))) r2 [v] := newT t2 n2
      have t3 := t2.same s2
      generalize upd G1 r2 (.tup [v]) = G2 at *
      refine catH t3 (TB.Same.tup (hid_same s2) e1) e2 (by rw [List.length_map]; show _ + 1 ≤ sizeLine; exact Nat.le_of_lt (small1000 (by omega))) fun G3 r3 s3 e3 => ?_
      have t4 := t3.same s3
      refine ⟨_, rfl, _, rfl, _, _, rfl, rfl, _, rfl, ?_⟩
      try (show tNoPart _ _ _; unfold tNoPart)
      show rSlA _ _ (some ((j3 : Int) + 1)) none _ _
      refine slH t4 (TB.Same.tup (hid_same ((s1.trans s2).trans s3)) hpH) fun G4 r4 s4 e4 => ?_
      rw [eb] at e4
      have t5 := t4.same s4
      refine catH t5 (TB.Same.tup (hid_same s4) e3) e4 (by rw [List.length_append, List.length_map, List.length_map]; show _ + 1 + _ ≤ sizeLine; exact Nat.le_of_lt (small1000 (by omega))) fun G5 r5 s5 e5 => ?_
      have s15 := ((s1.trans s2).trans s3).trans (s4.trans s5)
      obtain ⟨us, ds, eW, du, dc⟩ := (t1.same s15).ex
      have ul := DpAll.len du
      have dl := dc.2
      refine ⟨W, us, _, rfl, rfl, eW, small1000 (by omega), ?_⟩
      refine ⟨_, rfl, fun b o nb e => ?_, Feed.upd (f1.same s15) ⟨WL, WS⟩, SqT.but But.upd eW (TB.Same.tup s15 h1), SqT.but But.upd eW (TB.Same.tup s15 h2), ?_, ?_⟩
      · have nb' : b ≠ W := fun z => by
          rw [z, nWH] at e
          cases e
        rw [upd_ne nb']
        exact s15 b o (k1 b o nb e)
      · rw [hid_upd memW]
        exact DpAll.same (hid_same s15) _ _ d1
      · exact Th.more eW du dc (.tup e5 (DpAll.app (DpAll.app (dp_ints as) (.cons (Dp.same (hid_same s15) _ _ dv) .nil)) (dp_ints bs))) (ft_mid (by omega) (by omega) (fun x hx => hps x (am x hx)) (fun x hx => hps x (bm x hx)) fd)
    rintro σ HO ⟨y13, rfl, kO, f3, hpO, _, _, tO⟩
    clear dO fO hM2 cN3 tN ho1 ho2
    have tO : Th K HO L W 24 := tO
    show tSeq _ _ _ [some (.ref L), some (.int t), some (.ref a), some (.ref x), some (.ref y), some (.ref z), some (.ref p), some (.int far), some (.int (j3 : Int)), some (.int (j4 : Int)), some (.ref R), some (.ref W), y12, y13, none, none] _
    -- all in one
    obtain ⟨uO, dO, eWO, _⟩ := tO.ex
    refine ⟨_, rfl, .inl ⟨rfl, _, .inl (.inl eWO)⟩, ?_⟩
    refine ⟨_, rfl, p, _, rfl, .inr hpO, ((ps.map V.int).length : Int), rfl, by omega, by rw [List.length_map]; omega, fun D nD => ?_⟩
    refine lc_range (lo := 0) (n := ((ps.map V.int).length : Int).toNat) (fun j G => Same HO G ∧ ∃ zs : List Int, G D = some (.lst (zs.map V.int)) ∧ zs.length = j ∧ Sm zs) ⟨same_upd nD, [], upd_same, rfl, fun x hx => by cases hx⟩ (fun j G hj hP => ?_) (fun G hP => ?_)
    · obtain ⟨sm, zs, eD, zl, zb⟩ := hP
      rw [Int.toNat_natCast, List.length_map] at hj
      have more : ∀ {c : Int}, c.natAbs < 2 ^ 690 → Same HO (upd G D (.lst (zs.map V.int ++ [.int c]))) ∧ ∃ ys : List Int, (upd G D (.lst (zs.map V.int ++ [.int c]))) D = some (.lst (ys.map V.int)) ∧ ys.length = j + 1 ∧ Sm ys := fun {c} hc => by
        refine ⟨same_new nD sm, zs ++ [c], by rw [upd_same, List.map_append]; rfl, by rw [List.length_append, zl]; rfl, fun x hx => ?_⟩
        rcases List.mem_append.mp hx with y | y
        · exact zb x y
        · rw [List.mem_singleton.mp y]
          exact hc
      refine ⟨rfl, yes (iteT ?_)⟩
      refine ⟨_, rfl, _, rfl, rfl, _, rfl, ?_⟩
      change ite _ _ _
      refine ite2 (fun c => ?_) (fun c => ?_)
      · refine ⟨_, rfl, _, eD, by rw [List.length_map]; exact small1000 (by omega), more (up50 ok.t0 (by have := ok.t1; omega))⟩
      · refine ⟨_, eD, by rw [List.length_map]; exact small1000 (by omega), more (up50 (Int.le_refl _) (by decide))⟩
    obtain ⟨sG, zs, eD, zl, zb⟩ := hP
    rw [Int.toNat_natCast, List.length_map] at zl
    refine ⟨D, _, rfl, .inl ⟨.inl (.inl eD), fun p2 n2 => ?_⟩⟩
    have s2 := sG.trans (same_upd (o := .tup (zs.map V.int)) n2)
    have e2 : (upd G p2 (.tup (zs.map V.int))) p2 = some (.tup (zs.map V.int)) := upd_same
    generalize upd G p2 (.tup (zs.map V.int)) = G2 at *
    have t2 := tO.same s2
    have fG := f3.same s2
    have ls2 := t2.lists fG
    obtain ⟨us, ds, eW, du, dc⟩ := t2.ex
    have ul := DpAll.len du
    have dl := dc.2
    have hp2 := TB.Same.tup s2 hpO
    refine ⟨W, us, _, rfl, rfl, eW, small1000 (by omega), ?_⟩
    have t3 : Th K (upd G2 W (.lst (us ++ [.ref p2]))) L W 25 := Th.more eW du dc (.tup (hid_tup ls2 (.inl (.inl e2))) (dp_ints zs)) (ft_ints (by omega) zb)
    have f4 : Feed (upd G2 W (.lst (us ++ [.ref p2]))) L S (T + 14) := Feed.upd fG ⟨WL, WS⟩
    have hp3 : SqT K (upd G2 W (.lst (us ++ [.ref p2]))) p (ps.map V.int) := SqT.but But.upd eW hp2
    have k3 : But L H (upd G2 W (.lst (us ++ [.ref p2]))) := fun b o nb e => by
      have nb' : b ≠ W := fun z => by
        rw [z, nWH] at e
        cases e
      rw [upd_ne nb']
      exact s2 b o (kO b o nb e)
    generalize upd G2 W (.lst (us ++ [.ref p2])) = G3 at *
    clear t2 du dc eW ls2 eWO tO
    show tSeq _ _ _ [some (.ref L), some (.int t), some (.ref a), some (.ref x), some (.ref y), some (.ref z), some (.ref p), some (.int far), some (.int (j3 : Int)), some (.int (j4 : Int)), some (.ref R), some (.ref W), y12, y13, none, none] _
    -- the bends
    have tk3 := t3.took f4
    refine ⟨_, rfl, _, rfl, rfl, fun G4 ov s4 do4 => ?_⟩
    have do4' : Dp K (hid [L, W] G4) ov (.tuple dOdd) := Dp.same (newer_hid (fun b hb => .inl (tk3 b hb)) (Same.refl G4)) _ _ do4
    have hp4 := TB.Same.tup s4 hp3
    have t4 := t3.same s4
    have f5 := f4.same s4
    have ls4 := t4.lists f5
    have tk4 := t4.took f5
    refine ⟨L, S, T + 14, _, ov, .tuple (dInts ps), [L, W], 13, 0, rfl, f5, by show T + 14 + 4 * (((1 : Nat) : Int) + 1) < 900000; omega, memL, tk4, .tup (hid_tup ls4 hp4) (dp_ints ps), do4', fit_ints (by omega) fun n hn => up690 (hps n hn), by omega, by omega, fun G5 v5 d5 k5 f6 dv5 ft5 => ?_⟩
    have f6 : Feed G5 L S (T + 22) := f6.mono (by show T + 14 + 4 * (((1 : Nat) : Int) + 1) ≤ T + 22; omega)
    have ft5 : Fit 56 4 1 d5 := ft5
    have t5 := t4.but k5 WL
    have tk5 := t5.took f6
    refine ⟨_, rfl, _, rfl, _, rfl, _, rfl, rfl, fun G6 ow s6 do6 => ?_⟩
    have do6' : Dp K (hid [L, W] G6) ow (.tuple dOdd) := Dp.same (newer_hid (fun b hb => .inl (tk5 b hb)) (Same.refl G6)) _ _ do6
    have t6 := t5.same s6
    have f7 := f6.same s6
    have dv6 := Dp.same (hid_same s6) _ _ dv5
    refine ⟨L, S, T + 22, _, ow, d5, [L, W], 56, 1, rfl, f7, by show T + 22 + 4 * (((4 : Nat) : Int) + 1) < 900000; omega, memL, t6.took f7, dv6, do6', ft5, by omega, by omega, fun G7 v7 d7 k7 f8 dv7 ft7 => ?_⟩
    have f8 : Feed G7 L S (T + 42) := f8.mono (by show T + 22 + 4 * (((4 : Nat) : Int) + 1) ≤ T + 42; omega)
    have ft7 : Fit 142 7 2 d7 := ft7
    have t7 := t6.but k7 WL
    obtain ⟨us, ds, eW, du, dc, dl⟩ := t7.ex
    have ul := DpAll.len du
    refine ⟨by show (2 : Nat) ≤ sizeLine; decide, fun N nN => ?_⟩
    have sN := same_upd (o := .lst [v5, v7]) nN
    refine ⟨W, N, us, [v5, v7], rfl, rfl, sN _ _ eW, upd_same, by show _ + 2 ≤ sizeLine; exact Nat.le_of_lt (small1000 (by omega)), fun W2 nW2 => ?_⟩
    have sW2 := sN.trans (same_upd (o := .lst (us ++ [v5, v7])) nW2)
    refine q _ W2 (us ++ [v5, v7]) (ds ++ [d5, d7]) ((((k3.same s4).trans k5).same s6).trans k7 |>.same sW2) (f8.same sW2) upd_same ?_ (fun d hd => ?_) (by rw [List.length_append, dl]; rfl)
    · have dn : DpAll K G7 [v5, v7] [d5, d7] := .cons (Dp.same ((hid_but memL k7).trans hid_sub) _ _ dv6) (.cons (Dp.same hid_sub _ _ dv7) .nil)
      exact DpAll.same sW2 _ _ (DpAll.app (DpAll.same hid_sub _ _ du) dn)
    · rcases List.mem_append.mp hd with y | y
      · exact dc d y
      · simp only [List.mem_cons, List.not_mem_nil, or_false] at y
        rcases y with rfl | rfl
        · exact ft5.mono (by omega) (by omega) (by omega)
        · exact ft7
end
end K10

set_option Elab.async false
set_option linter.all false
set_option maxRecDepth 100000
set_option maxHeartbeats 8000000
set_option exponentiation.threshold 2000
namespace K10
open PySem PySem.Spec PyProof.Rows L2 TB K09

section
variable {X : Cx} {CX : CXT} {k : Nat} {f : Addr} {fd : FuncData} {ps : List Str} {sp : Sp} {dvs : List V} {ds : List Value} {E : XK} {x : Str} {p pos : Pos}
/-- f() of such a def -/
theorem pe_call0G (F : FnG X.prog X.w X.K X.mg X.base CX k f fd ps sp) (gd : X.A.guards = some []) (hr : Room k X.A) (hg : Gl X x) (hm : X.mg x = some (.ref f))
    (hk : PySem.W.keepIn X.K (.ref f) = true) (hb : Binds X.K fd ps ds) (hd : Vals dvs ds) (hx : Passes CX X E)
    (hdb : (x == ("__debug__" : Str)) = false := by decide) : PE X (.Call (.Name x p) [] [] pos) (tCall sp dvs E tNil) := by
  constructor
  intro pins s σ H Q I h
  refine wpAny_Call_Name_kw (ld_glob I hg hm ?_ hdb)
  have hl : ds.length = ps.length := hd.length.symm.trans (F.len _ _ _ _ h)
  refine PySem.W.callWith_K0 I.kIn hk ?_
  refine wpAny_call (codeAny_mono (F.run X.A gd hr X.stack s H I.env0 ⟨[], []⟩ _ _ (hb s [] I.kIn hl) hd Q E h) ?_)
  intro res s' hq
  match res, hq with
  | .error e, hq => exact hx pins σ H s e s' I hq
  | .ok (.ret u), hq => exact I.after hq
  | .ok .next, hq => exact hq.elim
  | .ok .brk, hq => exact hq.elim
  | .ok .cont, hq => exact hq.elim
end
theorem scHa : FnScope ["_law_weights_here", "_law_things_here", "_law_thing"] [] (defScope sHa) := ⟨rfl, rfl, rfl, by decide +kernel, rfl, by decide +kernel, by decide +kernel⟩
theorem scLaw : FnScope ["_law_script", "_law_feed_here", "_law_turn", "_law_weights_here", "_law_total_here", "_law_things_here", "_law_kept", "_law_thing"] ["_law_script"] (defScope sLaw) := ⟨rfl, rfl, rfl, by decide +kernel, rfl, by decide +kernel, by decide +kernel⟩
/-! ### how wide what is owed is -/
theorem sum_big {B : Nat} : ∀ l : List Int, (∀ x ∈ l, x.natAbs ≤ B) → l.sum.natAbs ≤ l.length * B
  | [], _ => Nat.zero_le _
  | x :: l, h => by
    have h1 := h x List.mem_cons_self
    have h2 := sum_big l fun y hy => h y (List.mem_cons_of_mem _ hy)
    rw [List.sum_cons, List.length_cons, Nat.succ_mul]
    have := Int.natAbs_add_le x l.sum
    omega
theorem ab_abs (x : Int) : (ab x).natAbs = x.natAbs := by
  unfold ab
  by_cases c : x < 0
  · rw [if_pos c, Int.natAbs_neg]
  · rw [if_neg c]
theorem getD_abs {ns : List Int} {B : Nat} (h : ∀ x ∈ ns, x.natAbs ≤ B) (i : Nat) : (ns.getD i 0).natAbs ≤ B := by
  by_cases c : i < ns.length
  · exact h _ (getD_mem c)
  · rw [List.getD_eq_getElem?_getD, List.getElem?_eq_none (by omega)]
    exact Nat.zero_le _
theorem off_big {t : Int} {ws ps : List Int} (ok : OkW t ws) (h : ∀ p ∈ ps, p.natAbs ≤ 2 ^ 800) : (off t ws ps).natAbs < 2 ^ 1900 := by
  have hw : ∀ x ∈ ws, x.natAbs ≤ 2 ^ 60 := fun x hx => by
    have := ok.w0 x hx
    omega
  have hs : ws.sum.natAbs ≤ 2 ^ 60 := by
    have := sum_ok ok
    omega
  have ht : t.natAbs ≤ 2 ^ 60 := by
    have := ok.t0
    have := ok.t1
    omega
  have one : ∀ x ∈ offL t ws ps ws.sum ws.length, x.natAbs ≤ 2 ^ 861 := fun x hx => by
    obtain ⟨i, _, rfl⟩ := List.mem_map.mp hx
    rw [ab_abs]
    have a1 : (ps.getD i 0 * ws.sum).natAbs ≤ 2 ^ 860 := by
      rw [Int.natAbs_mul]
      exact Nat.le_trans (Nat.mul_le_mul (getD_abs h i) hs) (Nat.le_of_eq (Nat.pow_add 2 800 60).symm)
    have a2 : (t * ws.getD i 0).natAbs ≤ 2 ^ 860 := by
      rw [Int.natAbs_mul]
      exact Nat.le_trans (Nat.mul_le_mul ht (getD_abs hw i)) (Nat.le_trans (Nat.le_of_eq (Nat.pow_add 2 60 60).symm) (Nat.pow_le_pow_right (by decide) (by decide)))
    have e : (2 : Nat) ^ 861 = 2 ^ 860 + 2 ^ 860 := pw2 860
    have := Int.natAbs_sub_le (ps.getD i 0 * ws.sum) (t * ws.getD i 0)
    rw [e]
    exact Nat.le_trans this (Nat.add_le_add a1 a2)
  have a := sum_big _ one
  have l : (offL t ws ps ws.sum ws.length).length = ws.length := by
    unfold offL
    rw [List.length_map, List.length_range]
  rw [l] at a
  refine Nat.lt_of_le_of_lt a ?_
  have n1 := ok.n1
  refine Nat.lt_of_le_of_lt (Nat.mul_le_mul_right _ (show ws.length ≤ 2 ^ 10 by omega)) ?_
  rw [← Nat.pow_add]
  exact Nat.pow_lt_pow_right (by decide) (by decide)
theorem fst_lt {p : Nat → Bool} {n i : Nat} (h : fst p n = some i) : i < n := List.mem_range.mp (List.mem_of_find?_eq_some h)
theorem sh_no {z : Str} {i : Int} (a : asc z) (l : z.length ≤ 20) (h : i.natAbs < 2 ^ 100) : Sh 1 10000 (noD z i) := by
  refine (sh_tup (k := 0) (n := 1921) fun d hd => ?_).mono (Nat.le_refl _) (by show 3 * 1921 + 2 * 3 + 3 ≤ 10000; decide)
  simp only [List.mem_cons, List.not_mem_nil, or_false] at hd
  rcases hd with rfl | rfl | rfl
  · exact (sh_txt (by unfold asc; decide +kernel)).mono (Nat.le_refl _) (by decide +kernel)
  · exact (sh_txt a).mono (Nat.le_refl _) (by omega)
  · exact sh_int h
theorem sh_told {n : Int} (h : n.natAbs < 2 ^ 1900) : Sh 1 10000 (toldD n) := by
  refine (sh_tup (k := 0) (n := 1921) fun d hd => ?_).mono (Nat.le_refl _) (by show 2 * 1921 + 2 * 2 + 3 ≤ 10000; decide)
  simp only [List.mem_cons, List.not_mem_nil, or_false] at hd
  rcases hd with rfl | rfl
  · exact (sh_txt (by unfold asc; decide +kernel)).mono (Nat.le_refl _) (by decide +kernel)
  · exact sh_big h
theorem sh_at {z : Str} {i n : Nat} (a : asc z) (l : z.length ≤ 20) (h : i < n) (hn : n ≤ 1000) : Sh 1 10000 (noD z i) := sh_no a l (by omega)
theorem sh_verd {t : Int} {ws : List Int} {d : PyData} (ok : OkW t ws) (f : Ft d) : Sh 1 10000 (verd t ws d) := by
  have shp : Sh 1 10000 (noD "shape" (-1)) := sh_no (by unfold asc; decide +kernel) (by decide +kernel) (by decide)
  cases d with
  | tuple ds =>
    have n1 := ok.n1
    show Sh 1 10000 (ite _ _ _)
    by_cases c : ds.length = ws.length
    · rw [if_pos c]
      cases e1 : fst (fun i => !isNum (ds.getD i .none)) ds.length with
      | some i => exact sh_at (by unfold asc; decide +kernel) (by decide +kernel) (fst_lt e1) (by omega)
      | none =>
        show Sh 1 10000 (ite _ _ _)
        by_cases c2 : (ds.map toI).sum = t
        · rw [if_pos c2]
          cases e2 : fst (badC (lows t ws) (ds.map toI)) ds.length with
          | some i => exact sh_at (by unfold asc; decide +kernel) (by decide +kernel) (fst_lt e2) (by omega)
          | none =>
            show Sh 1 10000 (match fst (badR (lows t ws) (rsts t ws) (ds.map toI)) ds.length with
              | some i => noD "rest" i
              | none => toldD (off t ws (ds.map toI)))
            cases e3 : fst (badR (lows t ws) (rsts t ws) (ds.map toI)) ds.length with
            | some i => exact sh_at (by unfold asc; decide +kernel) (by decide +kernel) (fst_lt e3) (by omega)
            | none =>
              refine sh_told (off_big ok fun p hp => ?_)
              obtain ⟨e, he, rfl⟩ := List.mem_map.mp hp
              have := Ats.tup.mp f.at_ e he
              cases e with
              | int i =>
                simp only [Ats] at this
                exact Nat.le_of_lt (Nat.lt_of_lt_of_le this (Nat.pow_le_pow_right (by decide) (by decide)))
              | _ => exact Nat.zero_le _
        · rw [if_neg c2]
          exact sh_no (by unfold asc; decide +kernel) (by decide +kernel) (by decide)
    · rw [if_neg c]
      exact shp
  | _ => exact shp
theorem verd_tup (t : Int) (ws : List Int) (d : PyData) : ∃ es, verd t ws d = .tuple es := by
  cases d with
  | tuple ds =>
    show ∃ es, ite _ _ _ = _
    by_cases c : ds.length = ws.length
    · rw [if_pos c]
      cases e1 : fst (fun i => !isNum (ds.getD i .none)) ds.length with
      | some i => exact ⟨_, rfl⟩
      | none =>
        show ∃ es, ite _ _ _ = _
        by_cases c2 : (ds.map toI).sum = t
        · rw [if_pos c2]
          cases e2 : fst (badC (lows t ws) (ds.map toI)) ds.length with
          | some i => exact ⟨_, rfl⟩
          | none =>
            show ∃ es, (match fst (badR (lows t ws) (rsts t ws) (ds.map toI)) ds.length with
              | some i => noD "rest" i
              | none => toldD (off t ws (ds.map toI))) = _
            cases e3 : fst (badR (lows t ws) (rsts t ws) (ds.map toI)) ds.length with
            | some i => exact ⟨_, rfl⟩
            | none => exact ⟨_, rfl⟩
        · rw [if_neg c2]
          exact ⟨_, rfl⟩
    · rw [if_neg c]
      exact ⟨_, rfl⟩
  | _ => exact ⟨_, rfl⟩
section
variable {P : Program} {w : World} {K : PySem.W.Frag} {mg : Str → Option Value} {base : Heap}
theorem verd_ref {H : Hp} {r : V} {t : Int} {ws : List Int} {d : PyData} (h : Dp K H r (verd t ws d)) : ∃ b, r = .ref b := by
  obtain ⟨es, e⟩ := verd_tup t ws d
  rw [e] at h
  obtain ⟨b, _, rfl, _⟩ := Dp.tup_inv h
  exact ⟨b, rfl⟩
theorem dInts_inj : ∀ {a b : List Int}, dInts a = dInts b → a = b
  | [], [], _ => rfl
  | [], _ :: _, h => by cases h
  | _ :: _, [], h => by cases h
  | x :: a, y :: b, h => by
    have h1 := List.cons.inj h
    rw [PyData.int.inj h1.1, dInts_inj h1.2]
theorem ls_calls {C a : Addr} {v : V} {t : Int} {ws ps : List Int} {H : Hp} {Q : VK} {E : XK} (hA : SqT K H a (ws.map V.int)) (ok : OkW t ws) (hd : Dp K H v (.tuple (dInts ps))) (pl : ps.length = ws.length) (es : ps.sum = t) (hp : passes t ws ps)
    (q : ∀ H', Same H H' → Q (.int (off t ws ps)) H') : spLs K C [.int t, .ref a, v] H Q E := by
  refine ⟨a, v, t, ws, .tuple (dInts ps), rfl, hA, ok, hd, fun z => ?_, fun ds i dd e dl hi hn _ => ?_, fun qs e ql => ?_⟩
  · have tu : isTup ws.length (.tuple (dInts ps)) = true := by
      show decide (((dInts ps).length : Int) = ws.length) = true
      unfold dInts
      rw [List.length_map, pl]
      exact decide_eq_true rfl
    rw [tu] at z
    cases z
  · obtain rfl : dInts ps = ds := PyData.tuple.inj e
    obtain ⟨n, _, rfl⟩ := List.mem_map.mp (List.mem_of_getElem? hi)
    cases hn
  · obtain rfl := dInts_inj (PyData.tuple.inj e)
    refine ⟨fun z => absurd es z, fun _ => ⟨fun i hi hb hj => ?_, fun hc i hi hb hj => ?_, fun _ => q⟩⟩
    · rw [hp.1 i hi] at hb
      cases hb
    · rw [hp.2 i hi] at hb
      cases hb
/-! ### _law_by_hand -/
def spHa : Sp := fun vs H Q _ => vs = [] ∧ ∀ H', Q (.bl true) H'
theorem ok_ha {C f fSa fJu fLs : Addr} {fd fdSa fdJu fdLs : FuncData} (F : Fun K "_law_by_hand" "_law_by_hand" sHa f fd)
    (GSa : FnOk P w K mg base CX0 5 fSa fdSa ["_law_total_here", "_law_weights_here", "_law_thing"] (spJu K)) (kSa : PySem.W.keepIn K (.ref fSa) = true) (bSa : Binds K fdSa ["_law_total_here", "_law_weights_here", "_law_thing"] []) (gSa : mg "_law_said" = some (.ref fSa))
    (GJu : FnOk P w K mg base CX0 2 fJu fdJu ["_law_total_here", "_law_weights_here", "_law_thing"] (spJu K)) (kJu : PySem.W.keepIn K (.ref fJu) = true) (bJu : Binds K fdJu ["_law_total_here", "_law_weights_here", "_law_thing"] []) (gJu : mg "_law_judged" = some (.ref fJu))
    (GLs : FnOk P w K mg base (L2.CX P w) 4 fLs fdLs ["total", "weights", "thing"] (spLs K C)) (kLs : PySem.W.keepIn K (.ref fLs) = true) (bLs : Binds K fdLs ["total", "weights", "thing"] []) (gLs : mg "lets_split" = some (.ref fLs))
    (m_repr : mg "repr" = none) : FnG P w K mg base CX0 6 f fd [] spHa := by
  refine gok F scHa (fun vs H Q E h => ?_) (fun cdv A gd outer s H vs Q E hr h => ?_)
  · obtain ⟨rfl, _⟩ := h
    rfl
  · obtain ⟨rfl, q⟩ := h
    refine ⟨_, (pss_cons (ps_set (i := 0) scHa.nd rfl (.inl rfl) (pe_tup (pa_cons pe_int (pa_cons pe_int (pa_cons pe_int pa_nil)))))
      (pss_cons (ps_set (i := 1) scHa.nd rfl (.inl rfl) (pe_lst (pa_cons (pe_tup (pa_cons pe_int (pa_cons pe_int (pa_cons pe_int pa_nil)))) (pa_cons (pe_tup (pa_cons pe_int (pa_cons pe_int (pa_cons pe_int pa_nil)))) (pa_cons (pe_tup (pa_cons pe_int (pa_cons pe_int (pa_cons pe_int pa_nil)))) (pa_cons (pe_tup (pa_cons pe_int (pa_cons pe_int (pa_cons pe_int pa_nil)))) (pa_cons (pe_tup (pa_cons pe_int (pa_cons pe_int (pa_cons (pe_un un_neg pe_int) pa_nil)))) (pa_cons (pe_tup (pa_cons pe_int (pa_cons pe_int (pa_cons (pe_un un_neg pe_int) pa_nil)))) (pa_cons (pe_tup (pa_cons pe_int (pa_cons pe_int (pa_cons pe_int (pa_cons pe_int pa_nil))))) (pa_cons (pe_tup (pa_cons pe_bl (pa_cons pe_int (pa_cons pe_int pa_nil)))) pa_nil))))))))))
      (pss_cons (ps_expr (pe_bm PySem.F.plainAttrs_list PySem.F.slot_list_append PySem.F.type_list_append mt_append (pv 1) (pa_cons (pe_tup (pa_cons pe_int (pa_cons pe_bl (pa_cons pe_int pa_nil)))) pa_nil)))
      (pss_cons (ps_for PassesOwn.never rfl (pi_list (pv 1)) (pg_name (i := 2) scHa.nd rfl (.inl rfl)) (pss_one (ps_if (pt_cmpR op_ne (pe_callB (call_reprT gd hr.units) (by rfl) m_repr (by decide +kernel) (pa_cons (pe_call GSa (hr.mono (by decide)) (by rfl) gSa kSa bSa .nil pass0 (pa_cons pe_int (pa_cons (pv 0) (pa_cons (pv 2) pa_nil)))) pa_nil)) (pe_callB (call_reprT gd hr.units) (by rfl) m_repr (by decide +kernel) (pa_cons (pe_call GJu (hr.mono (by decide)) (by rfl) gJu kJu bJu .nil pass0 (pa_cons pe_int (pa_cons (pv 0) (pa_cons (pv 2) pa_nil)))) pa_nil)) (nomark _)) (pss_one (ps_ret pe_bl)) pss_nil)))
      (pss_cons (ps_for PassesOwn.never rfl (pi_tup (pe_tup (pa_cons (pe_tup (pa_cons pe_int (pa_cons pe_int (pa_cons pe_int (pa_cons (pe_un un_neg pe_int) pa_nil))))) (pa_cons (pe_tup (pa_cons pe_int (pa_cons pe_int (pa_cons pe_int (pa_cons pe_int pa_nil))))) (pa_cons (pe_tup (pa_cons pe_int (pa_cons pe_int (pa_cons pe_int (pa_cons (pe_un un_neg pe_int) pa_nil))))) (pa_cons (pe_tup (pa_cons pe_int (pa_cons pe_int (pa_cons pe_int (pa_cons pe_int pa_nil))))) (pa_cons (pe_tup (pa_cons pe_int (pa_cons pe_int (pa_cons pe_int (pa_cons pe_int pa_nil))))) pa_nil))))))) (pg_name (i := 2) scHa.nd rfl (.inl rfl)) (pss_one (ps_if (pt_cmpR op_ne (pe_callB (call_reprT gd hr.units) (by rfl) m_repr (by decide +kernel) (pa_cons (pe_call GSa (hr.mono (by decide)) (by rfl) gSa kSa bSa .nil pass0 (pa_cons pe_int (pa_cons (pe_tup (pa_cons pe_int (pa_cons pe_int (pa_cons pe_int (pa_cons pe_int pa_nil))))) (pa_cons (pv 2) pa_nil)))) pa_nil)) (pe_callB (call_reprT gd hr.units) (by rfl) m_repr (by decide +kernel) (pa_cons (pe_call GJu (hr.mono (by decide)) (by rfl) gJu kJu bJu .nil pass0 (pa_cons pe_int (pa_cons (pe_tup (pa_cons pe_int (pa_cons pe_int (pa_cons pe_int (pa_cons pe_int pa_nil))))) (pa_cons (pv 2) pa_nil)))) pa_nil)) (nomark _)) (pss_one (ps_ret pe_bl)) pss_nil)))
      (pss_one (ps_ret (pe_and (pe_cmpR op_eq (pe_call GLs (hr.mono (by decide)) (by rfl) gLs kLs bLs .nil (passes_call takes0 (fun _ _ _ _ h => h)) (pa_cons pe_int (pa_cons (pv 0) (pa_cons (pe_tup (pa_cons pe_int (pa_cons pe_int (pa_cons pe_int pa_nil)))) pa_nil)))) pe_int (nomark _)) (pe_one (pe_cmpR op_eq (pe_call GLs (hr.mono (by decide)) (by rfl) gLs kLs bLs .nil (passes_call takes0 (fun _ _ _ _ h => h)) (pa_cons pe_int (pa_cons (pe_tup (pa_cons pe_int pa_nil)) (pa_cons (pe_tup (pa_cons pe_int pa_nil)) pa_nil)))) pe_int (nomark _))))))))))), ?_⟩
    have ok3 : OkW 1 [1, 2, 2] := ⟨by decide, by decide, by decide, by decide, by decide, by decide⟩
    have ok4 : OkW 1 [1, 2, 2, 5] := ⟨by decide, by decide, by decide, by decide, by decide, by decide⟩
    have ok1 : OkW 9 [3] := ⟨by decide, by decide, by decide, by decide, by decide, by decide⟩
    have sz : 200000 ≤ sizeLine := by rw [sizeLine_eq]; decide
    refine ⟨by show (3 : Nat) ≤ sizeLine; decide, fun a na => ?_⟩
    have ca := same_upd (o := .tup [.int 1, .int 2, .int 2]) na
    have hA : SqT K (upd H a (.tup [.int 1, .int 2, .int 2])) a (([1, 2, 2] : List Int).map V.int) := .inl (.inl upd_same)
    generalize upd H a (.tup [.int 1, .int 2, .int 2]) = H0 at *
    refine ⟨by show (3 : Nat) ≤ sizeLine; decide, fun p1 n1 => ?_⟩
    have c1 := same_upd (o := .tup [.int 0, .int 1, .int 0]) n1
    have e1 : (upd H0 p1 (.tup [.int 0, .int 1, .int 0])) p1 = some (.tup [.int 0, .int 1, .int 0]) := upd_same
    generalize upd H0 p1 (.tup [.int 0, .int 1, .int 0]) = H1 at *
    refine ⟨by show (3 : Nat) ≤ sizeLine; decide, fun p2 n2 => ?_⟩
    have c2 := same_upd (o := .tup [.int 0, .int 0, .int 1]) n2
    have e2 : (upd H1 p2 (.tup [.int 0, .int 0, .int 1])) p2 = some (.tup [.int 0, .int 0, .int 1]) := upd_same
    generalize upd H1 p2 (.tup [.int 0, .int 0, .int 1]) = H2 at *
    refine ⟨by show (3 : Nat) ≤ sizeLine; decide, fun p3 n3 => ?_⟩
    have c3 := same_upd (o := .tup [.int 1, .int 0, .int 0]) n3
    have e3 : (upd H2 p3 (.tup [.int 1, .int 0, .int 0])) p3 = some (.tup [.int 1, .int 0, .int 0]) := upd_same
    generalize upd H2 p3 (.tup [.int 1, .int 0, .int 0]) = H3 at *
    refine ⟨by show (3 : Nat) ≤ sizeLine; decide, fun p4 n4 => ?_⟩
    have c4 := same_upd (o := .tup [.int 0, .int 0, .int 0]) n4
    have e4 : (upd H3 p4 (.tup [.int 0, .int 0, .int 0])) p4 = some (.tup [.int 0, .int 0, .int 0]) := upd_same
    generalize upd H3 p4 (.tup [.int 0, .int 0, .int 0]) = H4 at *
    refine ⟨1, rfl, by show (3 : Nat) ≤ sizeLine; decide, fun p5 n5 => ?_⟩
    have c5 := same_upd (o := .tup [.int 1, .int 1, .int (-1)]) n5
    have e5 : (upd H4 p5 (.tup [.int 1, .int 1, .int (-1)])) p5 = some (.tup [.int 1, .int 1, .int (-1)]) := upd_same
    generalize upd H4 p5 (.tup [.int 1, .int 1, .int (-1)]) = H5 at *
    refine ⟨1, rfl, by show (3 : Nat) ≤ sizeLine; decide, fun p6 n6 => ?_⟩
    have c6 := same_upd (o := .tup [.int 0, .int 2, .int (-1)]) n6
    have e6 : (upd H5 p6 (.tup [.int 0, .int 2, .int (-1)])) p6 = some (.tup [.int 0, .int 2, .int (-1)]) := upd_same
    generalize upd H5 p6 (.tup [.int 0, .int 2, .int (-1)]) = H6 at *
    refine ⟨by show (4 : Nat) ≤ sizeLine; decide, fun p7 n7 => ?_⟩
    have c7 := same_upd (o := .tup [.int 0, .int 1, .int 0, .int 0]) n7
    have e7 : (upd H6 p7 (.tup [.int 0, .int 1, .int 0, .int 0])) p7 = some (.tup [.int 0, .int 1, .int 0, .int 0]) := upd_same
    generalize upd H6 p7 (.tup [.int 0, .int 1, .int 0, .int 0]) = H7 at *
    refine ⟨by show (3 : Nat) ≤ sizeLine; decide, fun p8 n8 => ?_⟩
    have c8 := same_upd (o := .tup [.bl true, .int 0, .int 0]) n8
    have e8 : (upd H7 p8 (.tup [.bl true, .int 0, .int 0])) p8 = some (.tup [.bl true, .int 0, .int 0]) := upd_same
    generalize upd H7 p8 (.tup [.bl true, .int 0, .int 0]) = H8 at *
    refine ⟨by show (8 : Nat) ≤ sizeLine; decide, fun W nW => ?_⟩
    have cW := same_upd (o := .lst [.ref p1, .ref p2, .ref p3, .ref p4, .ref p5, .ref p6, .ref p7, .ref p8]) nW
    have eW : (upd H8 W (.lst [.ref p1, .ref p2, .ref p3, .ref p4, .ref p5, .ref p6, .ref p7, .ref p8])) W = some (.lst [.ref p1, .ref p2, .ref p3, .ref p4, .ref p5, .ref p6, .ref p7, .ref p8]) := upd_same
    generalize upd H8 W (.lst [.ref p1, .ref p2, .ref p3, .ref p4, .ref p5, .ref p6, .ref p7, .ref p8]) = H9 at *
    refine ⟨_, rfl, .inl ⟨rfl, _, .inl (.inl eW)⟩, by show (3 : Nat) ≤ sizeLine; decide, fun p9 n9 => ?_⟩
    have c9 := same_upd (o := .tup [.int 0, .bl true, .int 0]) n9
    have e9 : (upd H9 p9 (.tup [.int 0, .bl true, .int 0])) p9 = some (.tup [.int 0, .bl true, .int 0]) := upd_same
    generalize upd H9 p9 (.tup [.int 0, .bl true, .int 0]) = HA at *
    have eW9 := c9 _ _ eW
    refine ⟨W, _, _, rfl, rfl, eW9, by show (8 : Nat) < sizeLine; decide, ?_⟩
    have sW : Same H8 (upd HA W (.lst ([.ref p1, .ref p2, .ref p3, .ref p4, .ref p5, .ref p6, .ref p7, .ref p8] ++ [.ref p9]))) := same_new nW (cW.trans c9)
    have s8 := sW
    have s7 := c8.trans s8
    have s6 := c7.trans s7
    have s5 := c6.trans s6
    have s4 := c5.trans s5
    have s3 := c4.trans s4
    have s2 := c3.trans s3
    have s1 := c2.trans s2
    have s0 := c1.trans s1
    have hW : (upd HA W (.lst ([.ref p1, .ref p2, .ref p3, .ref p4, .ref p5, .ref p6, .ref p7, .ref p8] ++ [.ref p9]))) W = some (.lst [.ref p1, .ref p2, .ref p3, .ref p4, .ref p5, .ref p6, .ref p7, .ref p8, .ref p9]) := upd_same
    have h9 : (upd HA W (.lst ([.ref p1, .ref p2, .ref p3, .ref p4, .ref p5, .ref p6, .ref p7, .ref p8] ++ [.ref p9]))) p9 = some (.tup [.int 0, .bl true, .int 0]) := by
      rw [upd_ne (ne_of e9 eW9 fun z => nomatch z)]
      exact e9
    have hA9 := TB.Same.tup s0 hA
    generalize upd HA W (.lst ([.ref p1, .ref p2, .ref p3, .ref p4, .ref p5, .ref p6, .ref p7, .ref p8] ++ [.ref p9])) = G at *
    have dv : DpAll K G [.ref p1, .ref p2, .ref p3, .ref p4, .ref p5, .ref p6, .ref p7, .ref p8, .ref p9] [.tuple [.int 0, .int 1, .int 0], .tuple [.int 0, .int 0, .int 1], .tuple [.int 1, .int 0, .int 0], .tuple [.int 0, .int 0, .int 0], .tuple [.int 1, .int 1, .int (-1)], .tuple [.int 0, .int 2, .int (-1)], .tuple [.int 0, .int 1, .int 0, .int 0], .tuple [.bool true, .int 0, .int 0], .tuple [.int 0, .bool true, .int 0]] :=
      .cons (.tup (.inl (.inl (s1 _ _ e1))) (.cons (.int _) (.cons (.int _) (.cons (.int _) (.nil))))) (.cons (.tup (.inl (.inl (s2 _ _ e2))) (.cons (.int _) (.cons (.int _) (.cons (.int _) (.nil))))) (.cons (.tup (.inl (.inl (s3 _ _ e3))) (.cons (.int _) (.cons (.int _) (.cons (.int _) (.nil))))) (.cons (.tup (.inl (.inl (s4 _ _ e4))) (.cons (.int _) (.cons (.int _) (.cons (.int _) (.nil))))) (.cons (.tup (.inl (.inl (s5 _ _ e5))) (.cons (.int _) (.cons (.int _) (.cons (.int _) (.nil))))) (.cons (.tup (.inl (.inl (s6 _ _ e6))) (.cons (.int _) (.cons (.int _) (.cons (.int _) (.nil))))) (.cons (.tup (.inl (.inl (s7 _ _ e7))) (.cons (.int _) (.cons (.int _) (.cons (.int _) (.cons (.int _) (.nil)))))) (.cons (.tup (.inl (.inl (s8 _ _ e8))) (.cons (.bl _) (.cons (.int _) (.cons (.int _) (.nil))))) (.cons (.tup (.inl (.inl h9)) (.cons (.int _) (.cons (.bl _) (.cons (.int _) (.nil))))) .nil))))))))
    have fd : ∀ d ∈ [PyData.tuple [.int 0, .int 1, .int 0], .tuple [.int 0, .int 0, .int 1], .tuple [.int 1, .int 0, .int 0], .tuple [.int 0, .int 0, .int 0], .tuple [.int 1, .int 1, .int (-1)], .tuple [.int 0, .int 2, .int (-1)], .tuple [.int 0, .int 1, .int 0, .int 0], .tuple [.bool true, .int 0, .int 0], .tuple [.int 0, .bool true, .int 0]], Ft d := fun d hd => by
      simp only [List.mem_cons, List.not_mem_nil, or_false] at hd
      rcases hd with rfl | rfl | rfl | rfl | rfl | rfl | rfl | rfl | rfl
      all_goals exact (fit_c (by decide +kernel) (by decide +kernel) (by decide +kernel)).mono (by omega) (by omega) (by omega)
    show tSeq _ _ _ [some (.ref a), some (.ref W), none] _
    refine ⟨_, rfl, W, rfl, ⟨_, .inl (.inl hW)⟩, ?_⟩
    refine for_list (xs := [.ref p1, .ref p2, .ref p3, .ref p4, .ref p5, .ref p6, .ref p7, .ref p8, .ref p9]) (fun j σ G1 => ∃ y2, σ = [some (.ref a), some (.ref W), y2] ∧ Same G G1) ⟨_, rfl, Same.refl G⟩ ?_ ?_ ?_
    · rintro j σ G1 _ ⟨y2, rfl, sg⟩
      exact .inl (.inl (sg _ _ hW))
    · rintro j v σ G0 hv ⟨y2, rfl, sg⟩
      obtain ⟨d, hd, dx⟩ := DpAll.get dv hv
      have sh := sh_verd ok3 (fd d (List.mem_of_getElem? hd))
      refine ⟨_, rfl, _, rfl, a, v, 1, [1, 2, 2], d, rfl, TB.Same.tup sg hA9, ok3, Dp.same sg _ _ dx, fun G1 r1 s1 d1 => ?_⟩
      obtain ⟨b1, rfl⟩ := verd_ref d1
      refine ⟨b1, _, rfl, d1, sh.sh, sh.nd, Nat.le_trans sh.dp (by omega), Nat.le_trans sh.ln (Nat.le_trans (by decide) sz), ?_⟩
      refine ⟨_, rfl, _, rfl, a, v, 1, [1, 2, 2], d, rfl, TB.Same.tup (sg.trans s1) hA9, ok3, Dp.same (sg.trans s1) _ _ dx, fun G2 r2 s2 d2 => ?_⟩
      obtain ⟨b2, rfl⟩ := verd_ref d2
      refine ⟨b2, _, rfl, d2, sh.sh, sh.nd, Nat.le_trans sh.dp (by omega), Nat.le_trans sh.ln (Nat.le_trans (by decide) sz), rfl, _, rfl, ?_⟩
      change ite _ _ _
      refine iteNS rfl ?_
      exact ⟨_, rfl, sg.trans (s1.trans s2)⟩
    rintro σ J ⟨y2, rfl, sJ⟩
    have hAJ := TB.Same.tup sJ hA9
    clear dv fd hW h9 hA9 s0 s1 s2 s3 s4 s5 s6 s7 s8 sW
    refine ⟨2, rfl, by show (4 : Nat) ≤ sizeLine; decide, fun q1 m1 => ?_⟩
    have x1 := same_upd (o := .tup [.int 1, .int 0, .int 2, .int (-2)]) m1
    have f1 : (upd J q1 (.tup [.int 1, .int 0, .int 2, .int (-2)])) q1 = some (.tup [.int 1, .int 0, .int 2, .int (-2)]) := upd_same
    generalize upd J q1 (.tup [.int 1, .int 0, .int 2, .int (-2)]) = J1 at *
    refine ⟨by show (4 : Nat) ≤ sizeLine; decide, fun q2 m2 => ?_⟩
    have x2 := same_upd (o := .tup [.int 1, .int 0, .int 0, .int 0]) m2
    have f2 : (upd J1 q2 (.tup [.int 1, .int 0, .int 0, .int 0])) q2 = some (.tup [.int 1, .int 0, .int 0, .int 0]) := upd_same
    generalize upd J1 q2 (.tup [.int 1, .int 0, .int 0, .int 0]) = J2 at *
    refine ⟨1, rfl, by show (4 : Nat) ≤ sizeLine; decide, fun q3 m3 => ?_⟩
    have x3 := same_upd (o := .tup [.int 0, .int 2, .int 0, .int (-1)]) m3
    have f3 : (upd J2 q3 (.tup [.int 0, .int 2, .int 0, .int (-1)])) q3 = some (.tup [.int 0, .int 2, .int 0, .int (-1)]) := upd_same
    generalize upd J2 q3 (.tup [.int 0, .int 2, .int 0, .int (-1)]) = J3 at *
    refine ⟨by show (4 : Nat) ≤ sizeLine; decide, fun q4 m4 => ?_⟩
    have x4 := same_upd (o := .tup [.int 0, .int 0, .int 0, .int 1]) m4
    have f4 : (upd J3 q4 (.tup [.int 0, .int 0, .int 0, .int 1])) q4 = some (.tup [.int 0, .int 0, .int 0, .int 1]) := upd_same
    generalize upd J3 q4 (.tup [.int 0, .int 0, .int 0, .int 1]) = J4 at *
    refine ⟨by show (4 : Nat) ≤ sizeLine; decide, fun q5 m5 => ?_⟩
    have x5 := same_upd (o := .tup [.int 0, .int 1, .int 0, .int 0]) m5
    have f5 : (upd J4 q5 (.tup [.int 0, .int 1, .int 0, .int 0])) q5 = some (.tup [.int 0, .int 1, .int 0, .int 0]) := upd_same
    generalize upd J4 q5 (.tup [.int 0, .int 1, .int 0, .int 0]) = J5 at *
    refine ⟨by show (5 : Nat) ≤ sizeLine; decide, fun M nM => ?_⟩
    have y5 := same_upd (o := .tup [.ref q1, .ref q2, .ref q3, .ref q4, .ref q5]) nM
    have hM : SqT K (upd J5 M (.tup [.ref q1, .ref q2, .ref q3, .ref q4, .ref q5])) M [.ref q1, .ref q2, .ref q3, .ref q4, .ref q5] := .inl (.inl upd_same)
    generalize upd J5 M (.tup [.ref q1, .ref q2, .ref q3, .ref q4, .ref q5]) = JM at *
    have y4 := x5.trans y5
    have y3 := x4.trans y4
    have y2 := x3.trans y3
    have y1 := x2.trans y2
    have y0 := x1.trans y1
    have dw : DpAll K JM [.ref q1, .ref q2, .ref q3, .ref q4, .ref q5] [.tuple [.int 1, .int 0, .int 2, .int (-2)], .tuple [.int 1, .int 0, .int 0, .int 0], .tuple [.int 0, .int 2, .int 0, .int (-1)], .tuple [.int 0, .int 0, .int 0, .int 1], .tuple [.int 0, .int 1, .int 0, .int 0]] :=
      .cons (.tup (.inl (.inl (y1 _ _ f1))) (.cons (.int _) (.cons (.int _) (.cons (.int _) (.cons (.int _) (.nil)))))) (.cons (.tup (.inl (.inl (y2 _ _ f2))) (.cons (.int _) (.cons (.int _) (.cons (.int _) (.cons (.int _) (.nil)))))) (.cons (.tup (.inl (.inl (y3 _ _ f3))) (.cons (.int _) (.cons (.int _) (.cons (.int _) (.cons (.int _) (.nil)))))) (.cons (.tup (.inl (.inl (y4 _ _ f4))) (.cons (.int _) (.cons (.int _) (.cons (.int _) (.cons (.int _) (.nil)))))) (.cons (.tup (.inl (.inl (y5 _ _ f5))) (.cons (.int _) (.cons (.int _) (.cons (.int _) (.cons (.int _) (.nil)))))) (.nil)))))
    have fe : ∀ d ∈ [PyData.tuple [.int 1, .int 0, .int 2, .int (-2)], .tuple [.int 1, .int 0, .int 0, .int 0], .tuple [.int 0, .int 2, .int 0, .int (-1)], .tuple [.int 0, .int 0, .int 0, .int 1], .tuple [.int 0, .int 1, .int 0, .int 0]], Ft d := fun d hd => by
      simp only [List.mem_cons, List.not_mem_nil, or_false] at hd
      rcases hd with rfl | rfl | rfl | rfl | rfl
      all_goals exact (fit_c (by decide +kernel) (by decide +kernel) (by decide +kernel)).mono (by omega) (by omega) (by omega)
    refine ⟨M, rfl, ⟨_, hM⟩, ?_⟩
    refine for_tup (xs := [.ref q1, .ref q2, .ref q3, .ref q4, .ref q5]) (fun j σ G1 => ∃ y2, σ = [some (.ref a), some (.ref W), y2] ∧ Same JM G1) ⟨_, rfl, Same.refl JM⟩ ?_ ?_ ?_
    · rintro j σ G1 _ ⟨y2, rfl, sg⟩
      exact TB.Same.tup sg hM
    · rintro j v σ G0 hv ⟨y2, rfl, sg⟩
      obtain ⟨d, hd, dx⟩ := DpAll.get dw hv
      have sh := sh_verd ok4 (fe d (List.mem_of_getElem? hd))
      refine ⟨by show (4 : Nat) ≤ sizeLine; decide, fun a1 na1 => ?_⟩
      have ca1 := same_upd (o := .tup [.int 1, .int 2, .int 2, .int 5]) na1
      refine ⟨_, rfl, a1, v, 1, [1, 2, 2, 5], d, rfl, .inl (.inl upd_same), ok4, Dp.same (sg.trans ca1) _ _ dx, fun G1 r1 s1 d1 => ?_⟩
      obtain ⟨b1, rfl⟩ := verd_ref d1
      refine ⟨b1, _, rfl, d1, sh.sh, sh.nd, Nat.le_trans sh.dp (by omega), Nat.le_trans sh.ln (Nat.le_trans (by decide) sz), ?_⟩
      refine ⟨by show (4 : Nat) ≤ sizeLine; decide, fun a2 na2 => ?_⟩
      have ca2 := same_upd (o := .tup [.int 1, .int 2, .int 2, .int 5]) na2
      refine ⟨_, rfl, a2, v, 1, [1, 2, 2, 5], d, rfl, .inl (.inl upd_same), ok4, Dp.same (((sg.trans ca1).trans s1).trans ca2) _ _ dx, fun G2 r2 s2 d2 => ?_⟩
      obtain ⟨b2, rfl⟩ := verd_ref d2
      refine ⟨b2, _, rfl, d2, sh.sh, sh.nd, Nat.le_trans sh.dp (by omega), Nat.le_trans sh.ln (Nat.le_trans (by decide) sz), rfl, _, rfl, ?_⟩
      change ite _ _ _
      refine iteNS rfl ?_
      exact ⟨_, rfl, ((sg.trans ca1).trans s1).trans (ca2.trans s2)⟩
    rintro σ N ⟨y2, rfl, sN⟩
    have hAN := TB.Same.tup (y0.trans sN) hAJ
    refine ⟨_, rfl, by show (3 : Nat) ≤ sizeLine; decide, fun u1 nu1 => ?_⟩
    show tNil _ _ _
    unfold tNil
    refine ls_calls (C := C) (a := a) (v := .ref u1) (H := upd N u1 (.tup (([0, 0, 1] : List Int).map V.int))) (t := 1) (ws := [1, 2, 2]) (ps := [0, 0, 1]) (TB.Same.tup (same_upd nu1) hAN) ok3 (.tup (.inl (.inl upd_same)) (dp_ints [0, 0, 1])) rfl rfl (by unfold passes; decide +kernel) fun N1 sN1 => ?_
    have o1 : off 1 [1, 2, 2] [0, 0, 1] = 6 := by decide +kernel
    rw [o1]
    refine ⟨rfl, _, rfl, iteT ?_⟩
    refine ⟨by show (1 : Nat) ≤ sizeLine; decide, fun u2 nu2 => ⟨by show (1 : Nat) ≤ sizeLine; decide, fun u3 nu3 => ?_⟩⟩
    simp only []
    refine ls_calls (C := C) (a := u2) (v := .ref u3) (H := upd (upd N1 u2 (.tup (([3] : List Int).map V.int))) u3 (.tup (([9] : List Int).map V.int))) (t := 9) (ws := [3]) (ps := [9]) (TB.Same.tup (same_upd nu3) (.inl (.inl upd_same))) ok1 (.tup (.inl (.inl upd_same)) (dp_ints [9])) rfl rfl (by unfold passes; decide +kernel) fun N2 sN2 => ?_
    have o2 : off 9 [3] [9] = 0 := by decide +kernel
    rw [o2]
    exact ⟨rfl, q _⟩
/-! ### the law -/
def spLaw (K : PySem.W.Frag) : Sp := fun vs H Q _ => ∃ (a : Addr) (ns : List Int), vs = [.ref a] ∧ SqL K H a (ns.map V.int) ∧ ns.length ≤ 63 ∧ ∀ H', Q (.bl true) H'
theorem ok_law {f fFd fR fW fT fTh fSa fJu fHa : Addr} {fd fdFd fdR fdW fdT fdTh fdSa fdJu fdHa : FuncData} (F : Fun K "law" "law" sLaw f fd)
    (GFd : FnOk P w K mg base CX0 1 fFd fdFd ["_law_script"] (spFeed K)) (kFd : PySem.W.keepIn K (.ref fFd) = true) (bFd : Binds K fdFd ["_law_script"] []) (gFd : mg "_law_feed" = some (.ref fFd))
    (GDr : FnOk P w K mg base CX0 1 fR fdR ["_law_feed_here", "_law_many"] spDraw) (kDr : PySem.W.keepIn K (.ref fR) = true) (bDr : Binds K fdR ["_law_feed_here", "_law_many"] []) (gDr : mg "_law_draw" = some (.ref fR))
    (GW : FnOk P w K mg base CX0 2 fW fdW ["_law_feed_here", "_law_many"] spWe) (kW : PySem.W.keepIn K (.ref fW) = true) (bW : Binds K fdW ["_law_feed_here", "_law_many"] []) (gW : mg "_law_weights" = some (.ref fW))
    (GT : FnOk P w K mg base CX0 2 fT fdT ["_law_feed_here", "_law_weights_here"] spTo) (kT : PySem.W.keepIn K (.ref fT) = true) (bT : Binds K fdT ["_law_feed_here", "_law_weights_here"] []) (gT : mg "_law_total" = some (.ref fT))
    (GTh : FnOk P w K mg base CX0 7 fTh fdTh ["_law_feed_here", "_law_total_here", "_law_weights_here"] (spTh K)) (kTh : PySem.W.keepIn K (.ref fTh) = true) (bTh : Binds K fdTh ["_law_feed_here", "_law_total_here", "_law_weights_here"] []) (gTh : mg "_law_things" = some (.ref fTh))
    (GSa : FnOk P w K mg base CX0 5 fSa fdSa ["_law_total_here", "_law_weights_here", "_law_thing"] (spJu K)) (kSa : PySem.W.keepIn K (.ref fSa) = true) (bSa : Binds K fdSa ["_law_total_here", "_law_weights_here", "_law_thing"] []) (gSa : mg "_law_said" = some (.ref fSa))
    (GJu : FnOk P w K mg base CX0 2 fJu fdJu ["_law_total_here", "_law_weights_here", "_law_thing"] (spJu K)) (kJu : PySem.W.keepIn K (.ref fJu) = true) (bJu : Binds K fdJu ["_law_total_here", "_law_weights_here", "_law_thing"] []) (gJu : mg "_law_judged" = some (.ref fJu))
    (GHa : FnG P w K mg base CX0 6 fHa fdHa [] spHa) (kHa : PySem.W.keepIn K (.ref fHa) = true) (bHa : Binds K fdHa [] []) (gHa : mg "_law_by_hand" = some (.ref fHa))
    (m_range : mg "range" = none) (m_repr : mg "repr" = none) (m_min : mg "min" = none) : FnG P w K mg base CX0 8 f fd ["_law_script"] (spLaw K) := by
  refine gok F scLaw (fun vs H Q E h => ?_) (fun cdv A gd outer s H vs Q E hr h => ?_)
  · obtain ⟨a, ns, rfl, _⟩ := h
    rfl
  · obtain ⟨a, ns, rfl, hS, hlen, q⟩ := h
    refine ⟨_, (pss_cons (ps_set (i := 1) scLaw.nd rfl (.inl rfl) (pe_call GFd (hr.mono (by decide)) (by rfl) gFd kFd bFd .nil pass0 (pa_cons (pv 0) pa_nil)))
      (pss_cons (ps_for PassesOwn.never rfl (pi_range1 (by rfl) m_range (pa_cons pe_int pa_nil)) (pg_name (i := 2) scLaw.nd rfl (.inl rfl)) (pss_cons (ps_set (i := 3) scLaw.nd rfl (.inl rfl) (pe_call GW (hr.mono (by decide)) (by rfl) gW kW bW .nil pass0 (pa_cons (pv 1) (pa_cons (pe_ix ix_tup (pe_tup (pa_cons pe_int (pa_cons pe_int pa_nil))) (pe_call GDr (hr.mono (by decide)) (by rfl) gDr kDr bDr .nil pass0 (pa_cons (pv 1) (pa_cons pe_int pa_nil))) (fun _ _ => rfl)) pa_nil))))
      (pss_cons (ps_set (i := 4) scLaw.nd rfl (.inl rfl) (pe_callB (call_min2 rfl) (by rfl) m_min (by decide +kernel) (pa_cons (pe_op op_pow pe_int pe_int) (pa_cons (pe_call GT (hr.mono (by decide)) (by rfl) gT kT bT .nil pass0 (pa_cons (pv 1) (pa_cons (pv 3) pa_nil))) pa_nil))))
      (pss_cons (ps_set (i := 5) scLaw.nd rfl (.inl rfl) (pe_call GTh (hr.mono (by decide)) (by rfl) gTh kTh bTh .nil pass0 (pa_cons (pv 1) (pa_cons (pv 4) (pa_cons (pv 3) pa_nil)))))
      (pss_cons (ps_set (i := 6) scLaw.nd rfl (.inl rfl) (pe_callB (call_reprT gd hr.units) (by rfl) m_repr (by decide +kernel) (pa_cons (pe_tup (pa_cons (pv 3) (pa_cons (pv 5) pa_nil))) pa_nil)))
      (pss_cons (ps_for PassesOwn.never rfl (pi_list (pv 5)) (pg_name (i := 7) scLaw.nd rfl (.inl rfl)) (pss_one (ps_if (pt_cmpR op_ne (pe_callB (call_reprT gd hr.units) (by rfl) m_repr (by decide +kernel) (pa_cons (pe_call GSa (hr.mono (by decide)) (by rfl) gSa kSa bSa .nil pass0 (pa_cons (pv 4) (pa_cons (pv 3) (pa_cons (pv 7) pa_nil)))) pa_nil)) (pe_callB (call_reprT gd hr.units) (by rfl) m_repr (by decide +kernel) (pa_cons (pe_call GJu (hr.mono (by decide)) (by rfl) gJu kJu bJu .nil pass0 (pa_cons (pv 4) (pa_cons (pv 3) (pa_cons (pv 7) pa_nil)))) pa_nil)) (nomark _)) (pss_one (ps_ret pe_bl)) pss_nil)))
      (pss_one (ps_if (pt_cmpR op_ne (pe_callB (call_reprT gd hr.units) (by rfl) m_repr (by decide +kernel) (pa_cons (pe_tup (pa_cons (pv 3) (pa_cons (pv 5) pa_nil))) pa_nil)) (pv 6) (nomark _)) (pss_one (ps_ret pe_bl)) pss_nil))))))))
      (pss_one (ps_ret (pe_call0G GHa gd (hr.mono (by decide)) (by rfl) gHa kHa bHa .nil pass0))))), ?_⟩
    have sz : 200000 ≤ sizeLine := by rw [sizeLine_eq]; decide
    refine ⟨_, rfl, a, ns, rfl, hS, by omega, fun H0 L S s0 nL f0 => ?_⟩
    refine ⟨3, rfl, by decide, by decide, ?_⟩
    refine for_range (lo := 0) (n := (3 : Int).toNat) (fun i σ H1 => ∃ y2 y3 y4 y5 y6 y7, σ = [some (.ref a), some (.ref L), y2, y3, y4, y5, y6, y7] ∧ Feed H1 L S (400 * i)) ⟨_, _, _, _, _, _, rfl, f0.mono (by omega)⟩ ?_ ?_
    · rintro i σ H1 hi ⟨y2, y3, y4, y5, y6, y7, rfl, f1⟩
      have hi' : i < 3 := hi
      generalize hTT : 400 * (i : Int) = T at f1
      have hT : T < 2000 := by omega
      refine ⟨_, rfl, by show (2 : Nat) ≤ sizeLine; decide, fun tp ntp => ?_⟩
      have s2 := same_upd (o := .tup [.int 12, .int 4]) ntp
      have etp : (upd H1 tp (.tup [.int 12, .int 4])) tp = some (.tup [.int 12, .int 4]) := upd_same
      have ntL := (f1.ne ntp).1
      have f2 := f1.same s2
      generalize upd H1 tp (.tup [.int 12, .int 4]) = H2 at *
      refine ⟨_, rfl, L, S, 2, _, rfl, by decide, by decide, f2, by omega, fun H3 v3 k3 f3 l3 u3 => ?_⟩
      have etp3 := k3 _ _ ntL etp
      obtain ⟨m, hm, m0, m1⟩ : ∃ m : Int, atI [V.int 12, V.int 4] v3 = some (.int m) ∧ 0 < m ∧ m ≤ 12 := by
        have c : v3 = 0 ∨ v3 = 1 := by omega
        rcases c with rfl | rfl
        · exact ⟨12, rfl, by decide, by decide⟩
        · exact ⟨4, rfl, by decide, by decide⟩
      refine ⟨tp, _, v3, .int m, rfl, rfl, .inl (.inl etp3), hm, L, S, m, _, rfl, m0, m1, f3, by omega, fun H4 r ws k4 f4 er hws wm => ?_⟩
      have nrL : r ≠ L := by
        obtain ⟨z, ez⟩ := f4.there
        exact ne_of er ez fun z => nomatch z
      show tSeq _ _ _ [some (.ref a), some (.ref L), some (.int (0 + (i : Int))), some (.ref r), y4, y5, y6, y7] _
      refine ⟨_, _, rfl, rfl, ⟨by decide, by decide, by decide⟩, _, rfl, _, rfl, L, S, r, _, ws, rfl, f4, by omega, er, hws, fun H5 t k5 f5 t0 t1 => ?_⟩
      have er5 := k5 _ _ nrL er
      have far : (10 : Int) ^ Int.toNat 12 = 1000000000000 := by decide
      have et : (if t < (10 : Int) ^ Int.toNat 12 then t else (10 : Int) ^ Int.toNat 12) = t := by
        rw [far]
        by_cases c : t < 1000000000000
        · rw [if_pos c]
        · rw [if_neg c]
          omega
      refine ⟨(10 : Int) ^ Int.toNat 12, t, rfl, ?_⟩
      rw [et]
      have ok := hws.ok t0 t1
      show tSeq _ _ _ [some (.ref a), some (.ref L), some (.int (0 + (i : Int))), some (.ref r), some (.int t), y5, y6, y7] _
      refine ⟨_, rfl, _, rfl, _, rfl, L, S, r, _, t, ws, rfl, f5, by omega, .inl (.inl er5), ok, hws.n1, fun H6 W us ds k6 f6 eW dv fd dl => ?_⟩
      have hr6 : SqT K H6 r (ws.map V.int) := .inl (.inl (k6 _ _ nrL er5))
      show tSeq _ _ _ [some (.ref a), some (.ref L), some (.int (0 + (i : Int))), some (.ref r), some (.int t), some (.ref W), y6, y7] _
      have shW : Sh 1 200000 (.tuple (dInts ws)) := sh_ints (fun v hv => by have := hws.w0 v hv; omega) (by have := hws.n1; omega)
      have shD : Sh 8 7668057 (.list ds) := (sh_lst (k := 7) (n := 284000) fun d hd => (fd d hd).sh (by decide)).mono (Nat.le_refl _) (by rw [dl]; decide)
      have shA : Sh 9 15336121 (.tuple [.tuple (dInts ws), .list ds]) := by
        refine (sh_tup (k := 8) (n := 7668057) fun d hd => ?_).mono (Nat.le_refl _) (by show 2 * 7668057 + 2 * 2 + 3 ≤ 15336121; decide)
        simp only [List.mem_cons, List.not_mem_nil, or_false] at hd
        rcases hd with rfl | rfl
        · exact shW.mono (by omega) (by omega)
        · exact shD
      have szA : 15336121 ≤ sizeLine := by rw [sizeLine_eq]; decide
      refine ⟨_, rfl, _, rfl, by show (2 : Nat) ≤ sizeLine; decide, fun Z nZ => ?_⟩
      have sZ := same_upd (o := .tup [.ref r, .ref W]) nZ
      have dA : ∀ {G : Hp} {Z : Addr}, Same H6 G → G Z = some (.tup [.ref r, .ref W]) → Dp K G (.ref Z) (.tuple [.tuple (dInts ws), .list ds]) := fun {G Z} sg e =>
        .tup (.inl (.inl e)) (.cons (.tup (TB.Same.tup sg hr6) (dp_ints _)) (.cons (.lst (.inl (.inl (sg _ _ eW))) (DpAll.same sg _ _ dv)) .nil))
      refine ⟨Z, _, rfl, dA sZ upd_same, shA.sh, shA.nd, Nat.le_trans shA.dp (by omega), Nat.le_trans shA.ln szA, ?_⟩
      generalize upd H6 Z (.tup [.ref r, .ref W]) = H7 at *
      refine ⟨_, rfl, W, rfl, ⟨_, .inl (.inl (sZ _ _ eW))⟩, ?_⟩
      refine for_list (xs := us) (fun j σ G => ∃ y7, σ = [some (.ref a), some (.ref L), some (.int (0 + (i : Int))), some (.ref r), some (.int t), some (.ref W), some (.str (txt (.tuple [.tuple (dInts ws), .list ds]))), y7] ∧ Same H6 G) ⟨_, rfl, sZ⟩ ?_ ?_ ?_
      · rintro j σ G _ ⟨y7, rfl, sg⟩
        exact .inl (.inl (sg _ _ eW))
      · rintro j v σ G hv ⟨y7, rfl, sg⟩
        obtain ⟨d, hd, dx⟩ := DpAll.get dv hv
        have sh := sh_verd ok (fd d (List.mem_of_getElem? hd))
        refine ⟨_, rfl, _, rfl, _, rfl, r, v, t, ws, d, rfl, TB.Same.tup sg hr6, ok, Dp.same sg _ _ dx, fun G1 r1 s1 d1 => ?_⟩
        obtain ⟨b1, rfl⟩ := verd_ref d1
        refine ⟨b1, _, rfl, d1, sh.sh, sh.nd, Nat.le_trans sh.dp (by omega), Nat.le_trans sh.ln (Nat.le_trans (by decide) sz), ?_⟩
        refine ⟨_, rfl, _, rfl, _, rfl, r, v, t, ws, d, rfl, TB.Same.tup (sg.trans s1) hr6, ok, Dp.same (sg.trans s1) _ _ dx, fun G2 r2 s2 d2 => ?_⟩
        obtain ⟨b2, rfl⟩ := verd_ref d2
        refine ⟨b2, _, rfl, d2, sh.sh, sh.nd, Nat.le_trans sh.dp (by omega), Nat.le_trans sh.ln (Nat.le_trans (by decide) sz), rfl, _, rfl, ?_⟩
        change ite _ _ _
        refine iteNS rfl ?_
        exact ⟨_, rfl, sg.trans (s1.trans s2)⟩
      rintro σ G ⟨y7, rfl, sg⟩
      refine ⟨_, rfl, _, rfl, by show (2 : Nat) ≤ sizeLine; decide, fun Z2 nZ2 => ?_⟩
      have sZ2 := sg.trans (same_upd (o := .tup [.ref r, .ref W]) nZ2)
      refine ⟨Z2, _, rfl, dA sZ2 upd_same, shA.sh, shA.nd, Nat.le_trans shA.dp (by omega), Nat.le_trans shA.ln szA, _, rfl, rfl, _, rfl, ?_⟩
      change ite _ _ _
      refine iteNS rfl ?_
      exact ⟨_, _, _, _, _, _, rfl, (f6.same sZ2).mono (by push_cast; omega)⟩
    · rintro σ H1 ⟨y2, y3, y4, y5, y6, y7, rfl, f1⟩
      exact ⟨rfl, fun H' => q H'⟩
end
end K10

set_option Elab.async false
set_option linter.all false
set_option maxRecDepth 100000
namespace K10
open PySem PySem.Spec PyProof.Rows L2 TB K09
theorem exm_two {K : PySem.W.Frag} {D S : Addr} (hB : PySem.W.subIn K (.ref S) (.type "BaseException") = some true) (hC : PySem.W.isClsIn K S = true) (hT : PySem.W.typeIn K (.ref S) = some (.type "type")) (hS : PySem.W.subIn K (.ref D) (.ref S) = some true) :
    PySem.W.exmOne K (.ref D) (.ref S) = some true := by
  have c1 : (PySem.W.subIn K (.ref S) (.type "BaseException") == some true) = true := by rw [hB] <;> rfl
  have c2 : ((PySem.W.clsIn K S).isSome && PySem.W.typeIn K (.ref S) == some (.type "type")) = true := by
    have z : (PySem.W.clsIn K S).isSome = true := hC
    rw [z, hT] <;> rfl
  show ite ((PySem.W.subIn K (.ref S) (.type "BaseException") == some true) = true) (ite (((PySem.W.clsIn K S).isSome && PySem.W.typeIn K (.ref S) == some (.type "type")) = true) (PySem.W.subIn K (.ref D) (.ref S)) none) none = some true
  rw [if_pos c1, if_pos c2]
  exact hS
theorem all_mk {l : PySem.W.OpenLaw} {w : World} {K : PySem.W.Frag} {h : Heap} {mg : Str → Option Value} {fa : Addr} (X : K.In h) (G : h.Ns mainGlobals mg) (hfa : mg "law" = some (.ref fa))
    {f1 : Addr} {od1 an1 : Option Addr} {sl1 : Array (Option Value)} {oc1 kV1 dc1 pm1 cd1 ct1 : Value}
    {f2 : Addr} {od2 an2 : Option Addr} {sl2 : Array (Option Value)} {oc2 kV2 dc2 pm2 cd2 ct2 : Value}
    {f3 : Addr} {od3 an3 : Option Addr} {sl3 : Array (Option Value)} {oc3 kV3 dc3 pm3 cd3 ct3 : Value}
    {f4 : Addr} {od4 an4 : Option Addr} {sl4 : Array (Option Value)} {oc4 kV4 dc4 pm4 cd4 ct4 : Value}
    {f5 : Addr} {od5 an5 : Option Addr} {sl5 : Array (Option Value)} {oc5 kV5 dc5 pm5 cd5 ct5 : Value}
    {f6 : Addr} {od6 an6 : Option Addr} {sl6 : Array (Option Value)} {oc6 kV6 dc6 pm6 cd6 ct6 : Value}
    {f7 : Addr} {od7 an7 : Option Addr} {sl7 : Array (Option Value)} {oc7 kV7 dc7 pm7 cd7 ct7 : Value}
    {f8 : Addr} {od8 an8 : Option Addr} {sl8 : Array (Option Value)} {oc8 kV8 dc8 pm8 cd8 ct8 : Value}
    {f9 : Addr} {od9 an9 : Option Addr} {sl9 : Array (Option Value)} {oc9 kV9 dc9 pm9 cd9 ct9 : Value}
    {f10 : Addr} {od10 an10 : Option Addr} {sl10 : Array (Option Value)} {oc10 kV10 dc10 pm10 cd10 ct10 : Value}
    {f11 : Addr} {od11 an11 : Option Addr} {sl11 : Array (Option Value)} {oc11 kV11 dc11 pm11 cd11 ct11 : Value}
    {f12 : Addr} {od12 an12 : Option Addr} {sl12 : Array (Option Value)} {oc12 kV12 dc12 pm12 cd12 ct12 : Value}
    {f13 : Addr} {od13 an13 : Option Addr} {sl13 : Array (Option Value)} {oc13 kV13 dc13 pm13 cd13 ct13 : Value}
    {f14 : Addr} {od14 an14 : Option Addr} {sl14 : Array (Option Value)} {oc14 kV14 dc14 pm14 cd14 ct14 : Value}
    {f15 : Addr} {od15 an15 : Option Addr} {sl15 : Array (Option Value)} {oc15 kV15 dc15 pm15 cd15 ct15 : Value}
    {f16 : Addr} {od16 an16 : Option Addr} {sl16 : Array (Option Value)} {oc16 kV16 dc16 pm16 cd16 ct16 : Value}
    {f17 : Addr} {od17 an17 : Option Addr} {sl17 : Array (Option Value)} {oc17 kV17 dc17 pm17 cd17 ct17 : Value}
    {f18 : Addr} {od18 an18 : Option Addr} {sl18 : Array (Option Value)} {oc18 kV18 dc18 pm18 cd18 ct18 : Value}
    {f19 : Addr} {od19 an19 : Option Addr} {sl19 : Array (Option Value)} {oc19 kV19 dc19 pm19 cd19 ct19 : Value}
    {f20 : Addr} {od20 an20 : Option Addr} {sl20 : Array (Option Value)} {oc20 kV20 dc20 pm20 cd20 ct20 : Value}
    {f21 : Addr} {od21 an21 : Option Addr} {sl21 : Array (Option Value)} {oc21 kV21 dc21 pm21 cd21 ct21 : Value}
    {BE LE NP : Addr}
    {CNp NNp fINp : Addr} {nmNp qnNp : Str} {bsNp : List Value} {snNp : List Str} {subNp : List Value} {abNp : Bool} {colNp : Option Bool} {ddNp : Option Addr} {mm0Np mm1Np mm2Np mm3Np mm5Np : Option Value}
    {odINp anINp : Option Addr} {slINp : Array (Option Value)} {ocINp kVINp dcINp pmINp cdINp ctINp : Value}
    (a1 : PySem.W.nsIn K mainGlobals "is_number" = some (some (.ref f1)))
    (l1 : K.lookup f1 = some ⟨oc1, od1, .func (PySem.W.fnOf "is_number" "is_number" (defArgs sNu) (defBody sNu) (defScope sNu) .none kV1 dc1 pm1 an1 cd1 ct1), sl1⟩)
    (c1 : PySem.W.codeIn K cd1 "is_number" = true) (k1 : PySem.W.keepIn K (.ref f1) = true)
    (a2 : PySem.W.nsIn K mainGlobals "is_tuple_of" = some (some (.ref f2)))
    (l2 : K.lookup f2 = some ⟨oc2, od2, .func (PySem.W.fnOf "is_tuple_of" "is_tuple_of" (defArgs sTu) (defBody sTu) (defScope sTu) .none kV2 dc2 pm2 an2 cd2 ct2), sl2⟩)
    (c2 : PySem.W.codeIn K cd2 "is_tuple_of" = true) (k2 : PySem.W.keepIn K (.ref f2) = true)
    (a3 : PySem.W.nsIn K mainGlobals "cuts" = some (some (.ref f3)))
    (l3 : K.lookup f3 = some ⟨oc3, od3, .func (PySem.W.fnOf "cuts" "cuts" (defArgs sCu) (defBody sCu) (defScope sCu) .none kV3 dc3 pm3 an3 cd3 ct3), sl3⟩)
    (c3 : PySem.W.codeIn K cd3 "cuts" = true) (k3 : PySem.W.keepIn K (.ref f3) = true)
    (a4 : PySem.W.nsIn K mainGlobals "rests" = some (some (.ref f4)))
    (l4 : K.lookup f4 = some ⟨oc4, od4, .func (PySem.W.fnOf "rests" "rests" (defArgs sRe) (defBody sRe) (defScope sRe) .none kV4 dc4 pm4 an4 cd4 ct4), sl4⟩)
    (c4 : PySem.W.codeIn K cd4 "rests" = true) (k4 : PySem.W.keepIn K (.ref f4) = true)
    (a5 : PySem.W.nsIn K mainGlobals "lets_split" = some (some (.ref f5)))
    (l5 : K.lookup f5 = some ⟨oc5, od5, .func (PySem.W.fnOf "lets_split" "lets_split" (defArgs sLs) (defBody sLs) (defScope sLs) .none kV5 dc5 pm5 an5 cd5 ct5), sl5⟩)
    (c5 : PySem.W.codeIn K cd5 "lets_split" = true) (k5 : PySem.W.keepIn K (.ref f5) = true)
    (a6 : PySem.W.nsIn K mainGlobals "look_at_cuts" = some (some (.ref f6)))
    (l6 : K.lookup f6 = some ⟨oc6, od6, .func (PySem.W.fnOf "look_at_cuts" "look_at_cuts" (defArgs sLc) (defBody sLc) (defScope sLc) .none kV6 dc6 pm6 an6 cd6 ct6), sl6⟩)
    (c6 : PySem.W.codeIn K cd6 "look_at_cuts" = true) (k6 : PySem.W.keepIn K (.ref f6) = true)
    (a7 : PySem.W.nsIn K mainGlobals "look_at_rests" = some (some (.ref f7)))
    (l7 : K.lookup f7 = some ⟨oc7, od7, .func (PySem.W.fnOf "look_at_rests" "look_at_rests" (defArgs sLr) (defBody sLr) (defScope sLr) .none kV7 dc7 pm7 an7 cd7 ct7), sl7⟩)
    (c7 : PySem.W.codeIn K cd7 "look_at_rests" = true) (k7 : PySem.W.keepIn K (.ref f7) = true)
    (a8 : PySem.W.nsIn K mainGlobals "_law_feed" = some (some (.ref f8)))
    (l8 : K.lookup f8 = some ⟨oc8, od8, .func (PySem.W.fnOf "_law_feed" "_law_feed" (defArgs sFeed) (defBody sFeed) (defScope sFeed) .none kV8 dc8 pm8 an8 cd8 ct8), sl8⟩)
    (c8 : PySem.W.codeIn K cd8 "_law_feed" = true) (k8 : PySem.W.keepIn K (.ref f8) = true)
    (a9 : PySem.W.nsIn K mainGlobals "_law_draw" = some (some (.ref f9)))
    (l9 : K.lookup f9 = some ⟨oc9, od9, .func (PySem.W.fnOf "_law_draw" "_law_draw" (defArgs sDraw) (defBody sDraw) (defScope sDraw) .none kV9 dc9 pm9 an9 cd9 ct9), sl9⟩)
    (c9 : PySem.W.codeIn K cd9 "_law_draw" = true) (k9 : PySem.W.keepIn K (.ref f9) = true)
    (a10 : PySem.W.nsIn K mainGlobals "_law_weights" = some (some (.ref f10)))
    (l10 : K.lookup f10 = some ⟨oc10, od10, .func (PySem.W.fnOf "_law_weights" "_law_weights" (defArgs sWe) (defBody sWe) (defScope sWe) .none kV10 dc10 pm10 an10 cd10 ct10), sl10⟩)
    (c10 : PySem.W.codeIn K cd10 "_law_weights" = true) (k10 : PySem.W.keepIn K (.ref f10) = true)
    (a11 : PySem.W.nsIn K mainGlobals "_law_total" = some (some (.ref f11)))
    (l11 : K.lookup f11 = some ⟨oc11, od11, .func (PySem.W.fnOf "_law_total" "_law_total" (defArgs sTo) (defBody sTo) (defScope sTo) .none kV11 dc11 pm11 an11 cd11 ct11), sl11⟩)
    (c11 : PySem.W.codeIn K cd11 "_law_total" = true) (k11 : PySem.W.keepIn K (.ref f11) = true)
    (a12 : PySem.W.nsIn K mainGlobals "_law_parts" = some (some (.ref f12)))
    (l12 : K.lookup f12 = some ⟨oc12, od12, .func (PySem.W.fnOf "_law_parts" "_law_parts" (defArgs sPa) (defBody sPa) (defScope sPa) .none kV12 dc12 pm12 an12 cd12 ct12), sl12⟩)
    (c12 : PySem.W.codeIn K cd12 "_law_parts" = true) (k12 : PySem.W.keepIn K (.ref f12) = true)
    (a13 : PySem.W.nsIn K mainGlobals "_law_bend" = some (some (.ref f13)))
    (l13 : K.lookup f13 = some ⟨oc13, od13, .func (PySem.W.fnOf "_law_bend" "_law_bend" (defArgs sBe) (defBody sBe) (defScope sBe) .none kV13 dc13 pm13 an13 cd13 ct13), sl13⟩)
    (c13 : PySem.W.codeIn K cd13 "_law_bend" = true) (k13 : PySem.W.keepIn K (.ref f13) = true)
    (a14 : PySem.W.nsIn K mainGlobals "_law_odd" = some (some (.ref f14)))
    (l14 : K.lookup f14 = some ⟨oc14, od14, .func (PySem.W.fnOf "_law_odd" "_law_odd" (defArgs sOd) (defBody sOd) (defScope sOd) .none kV14 dc14 pm14 an14 cd14 ct14), sl14⟩)
    (c14 : PySem.W.codeIn K cd14 "_law_odd" = true) (k14 : PySem.W.keepIn K (.ref f14) = true)
    (a15 : PySem.W.nsIn K mainGlobals "_law_number" = some (some (.ref f15)))
    (l15 : K.lookup f15 = some ⟨oc15, od15, .func (PySem.W.fnOf "_law_number" "_law_number" (defArgs sNm) (defBody sNm) (defScope sNm) .none kV15 dc15 pm15 an15 cd15 ct15), sl15⟩)
    (c15 : PySem.W.codeIn K cd15 "_law_number" = true) (k15 : PySem.W.keepIn K (.ref f15) = true)
    (a16 : PySem.W.nsIn K mainGlobals "_law_judged" = some (some (.ref f16)))
    (l16 : K.lookup f16 = some ⟨oc16, od16, .func (PySem.W.fnOf "_law_judged" "_law_judged" (defArgs sJu) (defBody sJu) (defScope sJu) .none kV16 dc16 pm16 an16 cd16 ct16), sl16⟩)
    (c16 : PySem.W.codeIn K cd16 "_law_judged" = true) (k16 : PySem.W.keepIn K (.ref f16) = true)
    (a17 : PySem.W.nsIn K mainGlobals "_law_said" = some (some (.ref f17)))
    (l17 : K.lookup f17 = some ⟨oc17, od17, .func (PySem.W.fnOf "_law_said" "_law_said" (defArgs sSa) (defBody sSa) (defScope sSa) .none kV17 dc17 pm17 an17 cd17 ct17), sl17⟩)
    (c17 : PySem.W.codeIn K cd17 "_law_said" = true) (k17 : PySem.W.keepIn K (.ref f17) = true)
    (a18 : PySem.W.nsIn K mainGlobals "_law_moved" = some (some (.ref f18)))
    (l18 : K.lookup f18 = some ⟨oc18, od18, .func (PySem.W.fnOf "_law_moved" "_law_moved" (defArgs sMo) (defBody sMo) (defScope sMo) .none kV18 dc18 pm18 an18 cd18 ct18), sl18⟩)
    (c18 : PySem.W.codeIn K cd18 "_law_moved" = true) (k18 : PySem.W.keepIn K (.ref f18) = true)
    (a19 : PySem.W.nsIn K mainGlobals "_law_things" = some (some (.ref f19)))
    (l19 : K.lookup f19 = some ⟨oc19, od19, .func (PySem.W.fnOf "_law_things" "_law_things" (defArgs sTh) (defBody sTh) (defScope sTh) .none kV19 dc19 pm19 an19 cd19 ct19), sl19⟩)
    (c19 : PySem.W.codeIn K cd19 "_law_things" = true) (k19 : PySem.W.keepIn K (.ref f19) = true)
    (a20 : PySem.W.nsIn K mainGlobals "_law_by_hand" = some (some (.ref f20)))
    (l20 : K.lookup f20 = some ⟨oc20, od20, .func (PySem.W.fnOf "_law_by_hand" "_law_by_hand" (defArgs sHa) (defBody sHa) (defScope sHa) .none kV20 dc20 pm20 an20 cd20 ct20), sl20⟩)
    (c20 : PySem.W.codeIn K cd20 "_law_by_hand" = true) (k20 : PySem.W.keepIn K (.ref f20) = true)
    (a21 : PySem.W.nsIn K mainGlobals "law" = some (some (.ref f21)))
    (l21 : K.lookup f21 = some ⟨oc21, od21, .func (PySem.W.fnOf "law" "law" (defArgs sLaw) (defBody sLaw) (defScope sLaw) .none kV21 dc21 pm21 an21 cd21 ct21), sl21⟩)
    (c21 : PySem.W.codeIn K cd21 "law" = true) (k21 : PySem.W.keepIn K (.ref f21) = true)
    (z_isinstance : PySem.W.nsIn K mainGlobals "isinstance" = some none)
    (z_int : PySem.W.nsIn K mainGlobals "int" = some none)
    (z_bool : PySem.W.nsIn K mainGlobals "bool" = some none)
    (z_tuple : PySem.W.nsIn K mainGlobals "tuple" = some none)
    (z_str : PySem.W.nsIn K mainGlobals "str" = some none)
    (z_len : PySem.W.nsIn K mainGlobals "len" = some none)
    (z_sum : PySem.W.nsIn K mainGlobals "sum" = some none)
    (z_zip : PySem.W.nsIn K mainGlobals "zip" = some none)
    (z_list : PySem.W.nsIn K mainGlobals "list" = some none)
    (z_enumerate : PySem.W.nsIn K mainGlobals "enumerate" = some none)
    (z_any : PySem.W.nsIn K mainGlobals "any" = some none)
    (z_abs : PySem.W.nsIn K mainGlobals "abs" = some none)
    (z_range : PySem.W.nsIn K mainGlobals "range" = some none)
    (z_min : PySem.W.nsIn K mainGlobals "min" = some none)
    (z_max : PySem.W.nsIn K mainGlobals "max" = some none)
    (z_repr : PySem.W.nsIn K mainGlobals "repr" = some none)
    (z_ValueError : PySem.W.nsIn K mainGlobals "ValueError" = some none)
    (aCNp : PySem.W.nsIn K mainGlobals "NoPaper" = some (some (.ref CNp)))
    (xLNp : K.lookup CNp = some (excClassObj nmNp qnNp CNp NNp bsNp [.ref BE, .type "ValueError", .type "Exception", .type "BaseException", .type "object"] true snNp subNp abNp colNp ddNp mm0Np mm1Np mm2Np mm3Np mm5Np "ValueError.__new__"))
    (saNp : PySem.W.findIn K (.ref CNp) "__setattr__" = some (some (.builtin "object.__setattr__")))
    (kCNp : PySem.W.keepIn K (.ref CNp) = true) (eCNp : PySem.W.subIn K (.ref CNp) (.type "BaseException") = some true) (tCNp : PySem.W.typeIn K (.ref CNp) = some (.type "type"))
    (jCNp : PySem.W.isClsIn K CNp = true) (sCNp : PySem.W.subIn K (.ref CNp) (.ref CNp) = some true)
    (aINp : PySem.W.findIn K (.ref CNp) "__init__" = some (some (.ref fINp))) (tINp : PySem.W.typeIn K (.ref fINp) = some (.type "function"))
    (lINp : K.lookup fINp = some ⟨ocINp, odINp, .func (PySem.W.fnOf "__init__" "NoPaper.__init__" (defArgs sIn) (defBody sIn) (defScope sIn) .none kVINp dcINp pmINp anINp cdINp ctINp), slINp⟩)
    (cINp : PySem.W.codeIn K cdINp "NoPaper.__init__" = true) (kINp : PySem.W.keepIn K (.ref fINp) = true)
    (n_wordNp : PySem.W.findIn K (.ref CNp) "word" = some none)
    (n_atNp : PySem.W.findIn K (.ref CNp) "at" = some none)
    (aBE : PySem.W.nsIn K mainGlobals "BillError" = some (some (.ref BE)))
    (aLE : PySem.W.nsIn K mainGlobals "LostError" = some (some (.ref LE)))
    (aNP : PySem.W.nsIn K mainGlobals "NoPage" = some (some (.ref NP)))
    (eBE : PySem.W.subIn K (.ref BE) (.type "BaseException") = some true)
    (jBE : PySem.W.isClsIn K BE = true)
    (tBE : PySem.W.typeIn K (.ref BE) = some (.type "type"))
    (sBE : PySem.W.subIn K (.ref CNp) (.ref BE) = some true)
    (gaC : PySem.W.findIn K (.ref CNp) "__getattribute__" = some (some (.builtin "BaseException.__getattribute__")))
    (ggC : PySem.W.findIn K (.ref CNp) "__getattr__" = some none)
    (caC : PySem.W.findIn K (.ref CNp) "__class__" = some (some (.builtin "object.__class__")))
    (gtC : PySem.W.specialIn K (.builtin "object.__class__") "__get__" = some (some (.builtin "getset_descriptor.__get__")))
    (tkC : PySem.W.takesIn K (.builtin "object.__class__") = some true)
    (mrC : PySem.W.mroIn K CNp (.type "object") = some true)
    (hdC : PySem.W.hasDictIn K CNp = true)
    (kt1 : PySem.W.kitOne K (.ref CNp) (.ref CNp) = some true)
    (kt2 : PySem.W.kitOne K (.ref CNp) (.type "ValueError") = some true)
    (kt3 : PySem.W.kitAny K (.ref CNp) [.ref LE, .ref NP] = some false) :
    ∃ fd : FuncData, (∀ (s : Shared) (v : Value), BindsTo s fd ⟨[v], []⟩ [("_law_script", v)]) ∧ ∀ base : Heap, K.In base → base.Ns mainGlobals mg → FnG l.prog w K mg base CX0 8 fa fd ["_law_script"] (spLaw K) := by
  have e := hfa.symm.trans (PySem.W.mg_of X G a21)
  cases e
  have F1 := fun_mk (st := sNu) l1 c1 k1
  have b1 := F1.binds (ps := ["thing"]) fun _ _ _ _ _ _ us hl => match us, hl with | [_], _ => rfl
  have g1 := PySem.W.mg_of X G a1
  have F2 := fun_mk (st := sTu) l2 c2 k2
  have b2 := F2.binds (ps := ["thing", "many"]) fun _ _ _ _ _ _ us hl => match us, hl with | [_, _], _ => rfl
  have g2 := PySem.W.mg_of X G a2
  have F3 := fun_mk (st := sCu) l3 c3 k3
  have b3 := F3.binds (ps := ["total", "weights"]) fun _ _ _ _ _ _ us hl => match us, hl with | [_, _], _ => rfl
  have g3 := PySem.W.mg_of X G a3
  have F4 := fun_mk (st := sRe) l4 c4 k4
  have b4 := F4.binds (ps := ["total", "weights"]) fun _ _ _ _ _ _ us hl => match us, hl with | [_, _], _ => rfl
  have g4 := PySem.W.mg_of X G a4
  have F5 := fun_mk (st := sLs) l5 c5 k5
  have b5 := F5.binds (ps := ["total", "weights", "thing"]) fun _ _ _ _ _ _ us hl => match us, hl with | [_, _, _], _ => rfl
  have g5 := PySem.W.mg_of X G a5
  have F6 := fun_mk (st := sLc) l6 c6 k6
  have b6 := F6.binds (ps := ["lows", "parts"]) fun _ _ _ _ _ _ us hl => match us, hl with | [_, _], _ => rfl
  have g6 := PySem.W.mg_of X G a6
  have F7 := fun_mk (st := sLr) l7 c7 k7
  have b7 := F7.binds (ps := ["lows", "left", "parts"]) fun _ _ _ _ _ _ us hl => match us, hl with | [_, _, _], _ => rfl
  have g7 := PySem.W.mg_of X G a7
  have F8 := fun_mk (st := sFeed) l8 c8 k8
  have b8 := F8.binds (ps := ["_law_script"]) fun _ _ _ _ _ _ us hl => match us, hl with | [_], _ => rfl
  have g8 := PySem.W.mg_of X G a8
  have F9 := fun_mk (st := sDraw) l9 c9 k9
  have b9 := F9.binds (ps := ["_law_feed_here", "_law_many"]) fun _ _ _ _ _ _ us hl => match us, hl with | [_, _], _ => rfl
  have g9 := PySem.W.mg_of X G a9
  have F10 := fun_mk (st := sWe) l10 c10 k10
  have b10 := F10.binds (ps := ["_law_feed_here", "_law_many"]) fun _ _ _ _ _ _ us hl => match us, hl with | [_, _], _ => rfl
  have g10 := PySem.W.mg_of X G a10
  have F11 := fun_mk (st := sTo) l11 c11 k11
  have b11 := F11.binds (ps := ["_law_feed_here", "_law_weights_here"]) fun _ _ _ _ _ _ us hl => match us, hl with | [_, _], _ => rfl
  have g11 := PySem.W.mg_of X G a11
  have F12 := fun_mk (st := sPa) l12 c12 k12
  have b12 := F12.binds (ps := ["_law_total_here", "_law_weights_here"]) fun _ _ _ _ _ _ us hl => match us, hl with | [_, _], _ => rfl
  have g12 := PySem.W.mg_of X G a12
  have F13 := fun_mk (st := sBe) l13 c13 k13
  have b13 := F13.binds (ps := ["_law_feed_here", "_law_thing", "_law_odd_here"]) fun _ _ _ _ _ _ us hl => match us, hl with | [_, _, _], _ => rfl
  have g13 := PySem.W.mg_of X G a13
  have F14 := fun_mk (st := sOd) l14 c14 k14
  have b14 := F14.binds (ps := []) fun _ _ _ _ _ _ us hl => match us, hl with | [], _ => rfl
  have g14 := PySem.W.mg_of X G a14
  have F15 := fun_mk (st := sNm) l15 c15 k15
  have b15 := F15.binds (ps := ["_law_thing"]) fun _ _ _ _ _ _ us hl => match us, hl with | [_], _ => rfl
  have g15 := PySem.W.mg_of X G a15
  have F16 := fun_mk (st := sJu) l16 c16 k16
  have b16 := F16.binds (ps := ["_law_total_here", "_law_weights_here", "_law_thing"]) fun _ _ _ _ _ _ us hl => match us, hl with | [_, _, _], _ => rfl
  have g16 := PySem.W.mg_of X G a16
  have F17 := fun_mk (st := sSa) l17 c17 k17
  have b17 := F17.binds (ps := ["_law_total_here", "_law_weights_here", "_law_thing"]) fun _ _ _ _ _ _ us hl => match us, hl with | [_, _, _], _ => rfl
  have g17 := PySem.W.mg_of X G a17
  have F18 := fun_mk (st := sMo) l18 c18 k18
  have b18 := F18.binds (ps := ["_law_feed_here", "_law_parts_here", "_law_many"]) fun _ _ _ _ _ _ us hl => match us, hl with | [_, _, _], _ => rfl
  have g18 := PySem.W.mg_of X G a18
  have F19 := fun_mk (st := sTh) l19 c19 k19
  have b19 := F19.binds (ps := ["_law_feed_here", "_law_total_here", "_law_weights_here"]) fun _ _ _ _ _ _ us hl => match us, hl with | [_, _, _], _ => rfl
  have g19 := PySem.W.mg_of X G a19
  have F20 := fun_mk (st := sHa) l20 c20 k20
  have b20 := F20.binds (ps := []) fun _ _ _ _ _ _ us hl => match us, hl with | [], _ => rfl
  have g20 := PySem.W.mg_of X G a20
  have F21 := fun_mk (st := sLaw) l21 c21 k21
  have b21 := F21.binds (ps := ["_law_script"]) fun _ _ _ _ _ _ us hl => match us, hl with | [_], _ => rfl
  have g21 := PySem.W.mg_of X G a21
  have m_isinstance := PySem.W.mg_none_of X G z_isinstance
  have m_int := PySem.W.mg_none_of X G z_int
  have m_bool := PySem.W.mg_none_of X G z_bool
  have m_tuple := PySem.W.mg_none_of X G z_tuple
  have m_str := PySem.W.mg_none_of X G z_str
  have m_len := PySem.W.mg_none_of X G z_len
  have m_sum := PySem.W.mg_none_of X G z_sum
  have m_zip := PySem.W.mg_none_of X G z_zip
  have m_list := PySem.W.mg_none_of X G z_list
  have m_enumerate := PySem.W.mg_none_of X G z_enumerate
  have m_any := PySem.W.mg_none_of X G z_any
  have m_abs := PySem.W.mg_none_of X G z_abs
  have m_range := PySem.W.mg_none_of X G z_range
  have m_min := PySem.W.mg_none_of X G z_min
  have m_max := PySem.W.mg_none_of X G z_max
  have m_repr := PySem.W.mg_none_of X G z_repr
  have m_ValueError := PySem.W.mg_none_of X G z_ValueError
  refine ⟨PySem.W.fnOf "law" "law" (defArgs sLaw) (defBody sLaw) (defScope sLaw) .none kV21 dc21 pm21 an21 cd21 ct21, fun s v => .of_eq rfl, fun base _ _ => ?_⟩
  have TNp : OexC K CNp := ⟨⟨nmNp, qnNp, NNp, bsNp, _, snNp, subNp, abNp, colNp, ddNp, mm0Np, mm1Np, mm2Np, mm3Np, mm5Np, xLNp, (show PySem.HandSPX.refsVE [.type "ValueError", .type "Exception", .type "BaseException", .type "object"] = true by decide +kernel)⟩, saNp, eCNp, tCNp, kCNp⟩
  have FINp := fun_mk (st := sIn) lINp cINp kINp
  have bINp := FINp.binds (ps := ["self", "word", "at"]) fun _ _ _ _ _ _ us hl => match us, hl with | [_, _, _], _ => rfl
  have gNp := PySem.W.mg_of X G aCNp
  have gBE := PySem.W.mg_of X G aBE
  have gLE := PySem.W.mg_of X G aLE
  have gNP := PySem.W.mg_of X G aNP
  have eNp := exm_two eBE jBE tBE sBE
  have IC : IsC K CNp := ⟨jCNp, gaC, ggC, eCNp, caC, gtC, tkC, mrC⟩
  have XC : XfC K CNp := ⟨gaC, ggC, eCNp, hdC⟩
  have GI := ok_in (P := l.prog) (w := w) (mg := mg) (base := base) (k := 0) TNp n_wordNp n_atNp FINp
  have GN := ok_n (P := l.prog) (w := w) (base := base) (k := 0) F1 m_isinstance m_int m_bool
  have GTu := ok_t (P := l.prog) (w := w) (base := base) (k := 0) F2 m_isinstance m_tuple m_len
  have GC := ok_cu (P := l.prog) (w := w) (mg := mg) (base := base) (k := 0) F3 m_sum m_tuple
  have GR := ok_re (P := l.prog) (w := w) (base := base) F4 GC k3 b3 g3 m_sum m_tuple m_zip
  have GLc := ok_lc (P := l.prog) (w := w) (base := base) F6 TNp aINp tINp GI bINp gNp m_enumerate
  have GLr := ok_lr (P := l.prog) (w := w) (base := base) F7 TNp aINp tINp GI bINp gNp m_enumerate m_zip m_any
  have GLs := ok_ls (P := l.prog) (w := w) (base := base) F5 TNp aINp tINp GI bINp gNp GTu k2 b2 g2 GN k1 b1 g1 GC k3 b3 g3 GR k4 b4 g4 GLc k6 b6 g6 GLr k7 b7 g7 m_len m_enumerate m_sum m_zip m_abs
  have GFd := ok_feed (P := l.prog) (w := w) (mg := mg) (base := base) (k := 0) F8
  have GDr := ok_draw (P := l.prog) (w := w) (mg := mg) (base := base) (k := 0) F9 m_len
  have GW := ok_we (P := l.prog) (w := w) (base := base) F10 GDr k9 b9 g9 m_range m_sum m_len m_tuple
  have GT := ok_to (P := l.prog) (w := w) (base := base) F11 GDr k9 b9 g9 m_sum m_len
  have GP := ok_pa (P := l.prog) (w := w) (mg := mg) (base := base) (k := 0) F12 m_sum m_zip m_list m_range m_len m_max
  have GBd := ok_bend (P := l.prog) (w := w) (base := base) F13 k13 b13 g13 GDr k9 b9 g9 m_isinstance m_tuple m_int m_str m_len m_list
  have GOd := ok_odd (P := l.prog) (w := w) (mg := mg) (base := base) (k := 0) F14
  have GNm := ok_number (P := l.prog) (w := w) (base := base) (k := 0) F15 m_isinstance m_int
  have GJu := ok_ju (P := l.prog) (w := w) (base := base) F16 GNm k15 b15 g15 GP k12 b12 g12 m_isinstance m_tuple m_len m_range m_sum m_zip m_max
  have GSa := ok_sa (P := l.prog) (w := w) (base := base) F17 gNp gBE gLE gNP eNp IC XC kt1 kt2 kt3 n_wordNp n_atNp GLs k5 b5 g5 m_isinstance m_ValueError
  have GMo := ok_mo (P := l.prog) (w := w) (base := base) F18 GDr k9 b9 g9 m_list m_tuple m_len
  have GTh := ok_th (P := l.prog) (w := w) (base := base) F19 GDr k9 b9 g9 GP k12 b12 g12 GMo k18 b18 g18 (GBd 2 (by decide)) (GBd 5 (by decide)) k13 b13 g13 GOd k14 b14 g14 m_tuple m_list m_len m_range
  have GHa := ok_ha (P := l.prog) (w := w) (base := base) F20 GSa k17 b17 g17 GJu k16 b16 g16 GLs k5 b5 g5 m_repr
  exact ok_law F21 GFd k8 b8 g8 GDr k9 b9 g9 GW k10 b10 g10 GT k11 b11 g11 GTh k19 b19 g19 GSa k17 b17 g17 GJu k16 b16 g16 GHa k20 b20 g20 m_range m_repr m_min
end K10
open PySem PySem.W PyProof.Rows
set_option maxHeartbeats 0 in
theorem PySem.Challenge.cw_tablebills_k10_splits_judged_holds : PySem.Challenge.rw_tablebills_k10_splits_judged.Holds := by
  w_on; o_law; k_head; (case hw => w_witness2)
  k_fill
  refine TB.walkG (l := PySem.Challenge.rw_tablebills_k10_splits_judged) (n := 63) (k := 8) (x := "_law_script") (sp := fun w => K10.spLaw _) rfl (by decide) rfl (fun w h Y => PySem.W.kIn_of Y) ⟨rfl, by decide, by decide⟩ ?F (fun _ _ a ns hl hS => ⟨a, ns, rfl, hS, hl, fun _ => rfl⟩)
  case F =>
    intro w mg fa h KX G hmg
    refine' K10.all_mk KX G hmg ?a1 ?l1 ?c1 ?k1 ?a2 ?l2 ?c2 ?k2 ?a3 ?l3 ?c3 ?k3 ?a4 ?l4 ?c4 ?k4 ?a5 ?l5 ?c5 ?k5 ?a6 ?l6 ?c6 ?k6 ?a7 ?l7 ?c7 ?k7 ?a8 ?l8 ?c8 ?k8 ?a9 ?l9 ?c9 ?k9 ?a10 ?l10 ?c10 ?k10 ?a11 ?l11 ?c11 ?k11 ?a12 ?l12 ?c12 ?k12 ?a13 ?l13 ?c13 ?k13 ?a14 ?l14 ?c14 ?k14 ?a15 ?l15 ?c15 ?k15 ?a16 ?l16 ?c16 ?k16 ?a17 ?l17 ?c17 ?k17 ?a18 ?l18 ?c18 ?k18 ?a19 ?l19 ?c19 ?k19 ?a20 ?l20 ?c20 ?k20 ?a21 ?l21 ?c21 ?k21 ?z_isinstance ?z_int ?z_bool ?z_tuple ?z_str ?z_len ?z_sum ?z_zip ?z_list ?z_enumerate ?z_any ?z_abs ?z_range ?z_min ?z_max ?z_repr ?z_ValueError ?aCNp ?xLNp ?saNp ?kCNp ?eCNp ?tCNp ?jCNp ?sCNp ?aINp ?tINp ?lINp ?cINp ?kINp ?n_wordNp ?n_atNp ?aBE ?aLE ?aNP ?eBE ?jBE ?tBE ?sBE ?gaC ?ggC ?caC ?gtC ?tkC ?mrC ?hdC ?kt1 ?kt2 ?kt3
    (case a1 => k_is); (case l1 => k_is); (case c1 => k_is); (case k1 => k_is); (case a2 => k_is); (case l2 => k_is); (case c2 => k_is); (case k2 => k_is); (case a3 => k_is); (case l3 => k_is); (case c3 => k_is); (case k3 => k_is); (case a4 => k_is); (case l4 => k_is); (case c4 => k_is); (case k4 => k_is); (case a5 => k_is); (case l5 => k_is); (case c5 => k_is); (case k5 => k_is); (case a6 => k_is); (case l6 => k_is); (case c6 => k_is); (case k6 => k_is); (case a7 => k_is); (case l7 => k_is); (case c7 => k_is); (case k7 => k_is); (case a8 => k_is); (case l8 => k_is); (case c8 => k_is); (case k8 => k_is); (case a9 => k_is); (case l9 => k_is); (case c9 => k_is); (case k9 => k_is); (case a10 => k_is); (case l10 => k_is); (case c10 => k_is); (case k10 => k_is); (case a11 => k_is); (case l11 => k_is); (case c11 => k_is); (case k11 => k_is); (case a12 => k_is); (case l12 => k_is); (case c12 => k_is); (case k12 => k_is); (case a13 => k_is); (case l13 => k_is); (case c13 => k_is); (case k13 => k_is); (case a14 => k_is); (case l14 => k_is); (case c14 => k_is); (case k14 => k_is); (case a15 => k_is); (case l15 => k_is); (case c15 => k_is); (case k15 => k_is); (case a16 => k_is); (case l16 => k_is); (case c16 => k_is); (case k16 => k_is); (case a17 => k_is); (case l17 => k_is); (case c17 => k_is); (case k17 => k_is); (case a18 => k_is); (case l18 => k_is); (case c18 => k_is); (case k18 => k_is); (case a19 => k_is); (case l19 => k_is); (case c19 => k_is); (case k19 => k_is); (case a20 => k_is); (case l20 => k_is); (case c20 => k_is); (case k20 => k_is); (case a21 => k_is); (case l21 => k_is); (case c21 => k_is); (case k21 => k_is); (case z_isinstance => k_is); (case z_int => k_is); (case z_bool => k_is); (case z_tuple => k_is); (case z_str => k_is); (case z_len => k_is); (case z_sum => k_is); (case z_zip => k_is); (case z_list => k_is); (case z_enumerate => k_is); (case z_any => k_is); (case z_abs => k_is); (case z_range => k_is); (case z_min => k_is); (case z_max => k_is); (case z_repr => k_is); (case z_ValueError => k_is); (case aCNp => k_is); (case xLNp => k_is); (case saNp => k_is); (case kCNp => k_is); (case eCNp => k_is); (case tCNp => k_is); (case jCNp => k_is); (case sCNp => first | rfl | k_is); (case aINp => k_is); (case tINp => k_is); (case lINp => k_is); (case cINp => k_is); (case kINp => k_is); (case n_wordNp => k_is); (case n_atNp => k_is); (case aBE => k_is); (case aLE => k_is); (case aNP => k_is); (case eBE => k_is); (case jBE => k_is); (case tBE => k_is); (case sBE => first | rfl | k_is); (case gaC => k_is); (case ggC => k_is); (case caC => k_is); (case gtC => k_is); (case tkC => k_is); (case mrC => k_is); (case hdC => first | rfl | k_is); (case kt1 => first | rfl | k_is); (case kt2 => first | rfl | k_is); (case kt3 => first | rfl | k_is)
