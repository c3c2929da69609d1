import PyProof.Rows.All
import Wide.All
import OpenK.AllK
import Wide.FinOn
import HandS.ForMost
import HandS.Wide
import HandS.Defaults
import HandS.Flow
import HandS.Style
import HandS.IsInst
import HandS.MakeKw
import HandS.Zip
import HandS.TupAny
import PySem.Challenge.RW_tablebills_k08_whole_deals_in_a_row
set_option Elab.async false
set_option linter.all false
set_option maxRecDepth 100000
namespace TB
open PySem PySem.Spec PyProof.Rows L2

/-! A def's promise, where no repr is under way around it. -/
section
variable (P : Program) (w : World) (K : PySem.W.Frag) (mg : Str → Option Value) (base : Heap)
structure FnG (CX : CXT) (k : Nat) (f : Addr) (fd : FuncData) (ps : List Str) (sp : Sp) : Prop where
  len : ∀ xs G R Z, sp xs G R Z → xs.length = ps.length
  run : ∀ (A : Around), A.guards = some [] → Room k A →
    ∀ (outer : List Env) (s : Shared) (H : Hp), Env0 P w K mg base A outer s H →
    ∀ (args : Args) (us : List Value) (vs : List V), BindsTo s fd args (ps.zip us) → Vals vs us →
    ∀ (Q : VK) (E : XK), sp vs H Q E →
      codeAny (model P w) A (Code.call (Value.ref f) args)
        (CR CX outer P w H s Q E) s
end

section
variable {P : Program} {w : World} {K : PySem.W.Frag} {mg : Str → Option Value} {base : Heap} {CX : CXT}
theorem FnG.of {k : Nat} {f : Addr} {fd : FuncData} {ps : List Str} {sp : Sp}
    (F : FnOk P w K mg base CX k f fd ps sp) : FnG P w K mg base CX k f fd ps sp :=
  ⟨F.len, fun A _ hr outer s H e0 args us vs hb r Q E h => F.run A outer s H args us vs Q E hr e0 hb r h⟩

/-- the body's walk gives the promise -/
theorem gfn {k : Nat} {f : Addr} {nm qual : Str} {prm : Arguments} {bd : List Stmt} {sc : Scope} {dV kV doc pm cdv ct oc : Value} {an od : Option Addr}
    {osl : Array (Option Value)} {N : List Str} {ps : List Str} {sp : Sp}
    (lk : K.lookup f = some ⟨oc, od, .func (PySem.W.fnOf nm qual prm bd sc dV kV doc pm an cdv ct), osl⟩)
    (hcd : PySem.W.codeIn K cdv qual = true) (S : FnScope N ps sc) (len : ∀ vs H Q E, sp vs H Q E → vs.length = ps.length)
    (walk : ∀ (A : Around), A.guards = some [] → ∀ (outer : List Env) (s : Shared) (H : Hp) (vs : List V) (Q : VK) (E : XK),
      Room k (A.deeper (envOfC qual sc s.heap.objs.size f cdv)) → sp vs H Q E →
      ∃ t, PSs (cxOf CX P w K mg base N qual sc f cdv A outer s H E) bd t ∧ t ⟨fun _ H' => Q .non H', Q, fun _ _ => False, fun _ _ => False⟩ (start N vs) H) :
    FnG P w K mg base CX (k + 1) f (PySem.W.fnOf nm qual prm bd sc dV kV doc pm an cdv ct) ps sp := by
  constructor
  · exact len
  intro A hg hr outer s H e0 args us vs hb r Q E hsp
  have keeps : ∀ b o, base.get? b = some o → s.heap.get? b = some o := fun b o e => (e0.bs b o e).1
  have KX : K.In s.heap := e0.mod.kin.keeps keeps
  have lim : s.heap.NoLimit := e0.mod.nolimit.keeps keeps
  obtain ⟨t, ht, hq⟩ := walk A hg outer s H vs Q E (hr.deeper _) hsp
  have crec := PySem.W.codeRec_of KX hcd
  refine codeAny_call_function hr.depth (KX _ _ lk) rfl S.co S.gen rfl crec (hb _ _ _ _ ?_)
  refine wpAny_newFunctionEnv_cells S.kind ?_ ?_
  · rintro ⟨n, v⟩ hy
    have q := S.par n (List.of_mem_zip hy).1
    cases q with
    | inl q => exact Or.inl q
    | inr q => exact Or.inr ⟨q, PySem.W.cellsFrom_some _ _ _ (Or.inl q)⟩
  · intro env he s1 x
    cases he
    have I := inv_start (CX := CX) (P := P) (w := w) (mg := mg) (N := N) (qual := qual) (f := f) (cd := cdv) (E := E) S hr.hd e0 (len _ _ _ _ hsp) r x
    refine ⟨lim.keeps x.toInCall.keep, codeAny_func (wpAny_mono (ht.run [] s1 (start N vs) H _ I hq) ?_ (fun e s' hs => hs))⟩
    intro fl s' hs
    match fl, hs with
    | .ret u, ⟨v, _, H', J, rv, q⟩ => exact ⟨v, H', J.os, J.bare, J.base, J.hok, rv, q⟩
    | .next, ⟨_, H', J, q⟩ => exact ⟨V.non, H', J.os, J.bare, J.base, J.hok, rfl, q⟩
    | .brk, ⟨_, _, _, q⟩ => exact q.elim
    | .cont, ⟨_, _, _, q⟩ => exact q.elim

theorem gok {x qual : Str} {st : Stmt} {f : Addr} {fd : FuncData} {N ps : List Str} {k : Nat} {sp : Sp} (F : Fun K x qual st f fd)
    (S : FnScope N ps (defScope st)) (len : ∀ vs H Q E, sp vs H Q E → vs.length = ps.length)
    (walk : ∀ (cdv : Value) (A : Around), A.guards = some [] → ∀ (outer : List Env) (s : Shared) (H : Hp) (vs : List V) (Q : VK) (E : XK),
      Room k (A.deeper (envOfC qual (defScope st) s.heap.objs.size f cdv)) → sp vs H Q E →
      ∃ t, PSs (cxOf CX0 P w K mg base N qual (defScope st) f cdv A outer s H E).nox (defBody st) t ∧
        t ⟨fun _ H' => Q .non H', Q, fun _ _ => False, fun _ _ => False⟩ (start N vs) H) :
    FnG P w K mg base CX0 (k + 1) f fd ps sp := by
  obtain ⟨_, _, _, _, _, _, cdv, _, _, rfl, lk, hcd⟩ := F.ex
  refine gfn lk hcd S len fun A hg outer s H vs Q E hr hsp => ?_
  obtain ⟨t, a, b⟩ := walk cdv A hg outer s H vs Q E hr hsp
  exact ⟨t, a.nox, b⟩
end

section
variable {X : Cx} {CX : CXT} {k : Nat} {f : Addr} {fd : FuncData} {ps : List Str} {sp : Sp} {dvs : List V} {ds : List Value} {E : XK} {x : Str} {p pos : Pos} {e : Expr} {es : List Expr} {t : TA}
/-- f(e, ..) of such a def -/
theorem pe_callG (F : FnG X.prog X.w X.K X.mg X.base CX k f fd ps sp) (gd : X.A.guards = some []) (hr : Room k X.A) (hg : Gl X x) (hm : X.mg x = some (.ref f))
    (hk : PySem.W.keepIn X.K (.ref f) = true) (hb : Binds X.K fd ps ds) (hd : Vals dvs ds) (hx : Passes CX X E) (ha : PA X (e :: es) t)
    (he : starEach (e :: es) X.env = (false, eval e X.env) :: starEach es X.env := by rfl) (hdb : (x == ("__debug__" : Str)) = false := by decide)
    (hpl : (backTo pos (starEach es X.env)).any (·.1) = false := by rfl) : PE X (.Call (.Name x p) (e :: es) [] pos) (tCall sp dvs E t) := by
  constructor
  intro pins s σ H Q I h
  refine wpAny_Call_Name_kw (ld_glob I hg hm (PySem.W.callWith_K (h₀ := X.base) I.ok.mod.kin hk (thn (ha.run pos pins s σ H _ I h) ?_) he hpl) hdb)
  rintro us s1 ⟨vs, H1, I1, r, q⟩
  have r2 := r.append hd
  have hl : (us ++ ds).length = ps.length := r2.length.symm.trans (F.len _ _ _ _ q)
  refine ⟨I1.kIn, wpAny_call (codeAny_mono (F.run X.A gd hr X.stack s1 H1 I1.env0 ⟨us, []⟩ _ _ (hb s1 us I1.kIn hl) r2 Q E q) ?_)⟩
  intro res s' hq
  match res, hq with
  | .error e, hq => exact hx pins σ H1 s1 e s' I1 hq
  | .ok (.ret u), hq => exact I1.after hq
  | .ok .next, hq => exact hq.elim
  | .ok .brk, hq => exact hq.elim
  | .ok .cont, hq => exact hq.elim
end

/-! repr of plain data -/
section
variable {X : Cx}
def rRepr (K : PySem.W.Frag) : List V → Hp → VK → Prop := fun xs H Q => ∃ a d, xs = [.ref a] ∧ Dp K H (.ref a) d ∧ d.showable = true ∧ d.hasDict = false ∧ d.depth ≤ 60 ∧ d.shown.length ≤ sizeLine ∧ Q (.str d.shown) H
theorem call_reprD (gd : X.A.guards = some []) (hu : X.A.units + 64 < cLine) : CallR X (.builtin "repr") (rRepr X.K) := by
  intro pins s σ H args us Q I r h
  obtain ⟨a, d, rfl, hd, hs, hn, hp, hz, q⟩ := h
  cases r with
  | cons r1 r2 =>
    cases r2
    have e := r1
    obtain rfl := show _ = Value.ref a from e
    obtain ⟨as, rd⟩ := Dp.reads I d _ _ hd rfl
    refine repr_of_reads' rd hs (PyData.noDict_hsm hn) gd (by omega) (fun _ _ z => z) (fun h' u tk k => ?_) hz
    exact ⟨.str d.shown, H, I.kept k, ⟨u, rfl⟩, q⟩

/-- xs[i] read, i no less than 0, by values -/
def rGetN (K : PySem.W.Frag) : V → V → Hp → VK → Prop := fun o i H Q => ∃ (p : Addr) (xs : List V) (j : Nat) (v : V), o = .ref p ∧ i = .int (j : Int) ∧ SqL K H p xs ∧ xs[j]? = some v ∧ Q v H
theorem get_list : PGet X (rGetN X.K) := by
  intro pins s σ H o i ov iv Q I ro ri h
  obtain ⟨p, xs, j, z, rfl, rfl, hq, he, q⟩ := h
  cases ro
  obtain ⟨t, rfl⟩ := ri
  obtain ⟨its, rl, pl, hz⟩ := I.list hq
  obtain ⟨v, ev, rv⟩ := rl.get he
  have hl := rl.length
  have hj : j < xs.length := (List.getElem?_eq_some_iff.mp he).1
  have hn := line63
  exact wpAny_getItem_list pl.isList (by omega) (by omega) (by rw [Int.toNat_natCast]; simpa using ev) ⟨z, H, I, rv, q⟩
end

/-! the law's own call, at the top's end -/
section
variable {P : Program} {w : World} {K : PySem.W.Frag} {mg mb : Str → Option Value} {k : Nat} {fa a : Addr} {fd : FuncData} {x : Str} {sp : Sp} {s1 : Shared} {vs : List Value} {ns : List Int}
/-- the abstract heap that tracks the script alone, or nothing -/
theorem lawG0 {H : Hp} (KX : K.In s1.heap) (hns : s1.heap.Ns mainGlobals mg) (hb : s1.heap.Ns builtinsNs mb)
    (hbb : ∀ y : Str, y ≠ "__name__" → mb y = bootBuiltins y) (hlim : s1.heap.NoLimit) (hg : s1.gens = #[])
    (ha : s1.heap.get? a = some { cls := .type "list", data := .seq vs.toArray }) (hr : Room k callerA)
    (F : ∀ base : Heap, K.In base → base.Ns mainGlobals mg → FnG P w K mg base CX0 k fa fd [x] sp)
    (hbind : ∀ (s : Shared) (u : Value), BindsTo s fd ⟨[u], []⟩ [(x, u)])
    (hO : Only H) (hok : HOk P w H s1.heap) (onlyA : ∀ b, H b ≠ none → b = a) (notK : H a ≠ none → K.lookup a = none)
    (hsp : sp [.ref a] H (fun v _ => v = .bl true) fun _ _ _ => False) :
    codeAny (model P w) callerA (.call (.ref fa) ⟨[.ref a], []⟩)
      (fun r s' => r = .ok (.ret (.bool true)) ∧ OldK s1.heap s'.heap ∧ s'.os = s1.os ∧ AllBare s'.gens) s1 := by
  have free : ∀ (b : Addr), (b = a → H b = none) → H b = none := by
    intro b hb
    by_cases e : H b = none
    · exact e
    · exact hb (onlyA b e)
  have nsB : ∀ {b : Addr} {m : Str → Option Value}, s1.heap.Ns b m → (hidT s1.heap H).Ns b m := by
    rintro b m ⟨o, es, ep, e, d, r⟩
    refine ⟨o, es, ep, hidT_get e (free b ?_), d, r⟩
    rintro rfl
    have q := Option.some.inj (e.symm.trans ha)
    rw [q] at d
    exact nomatch d
  have kinB : K.In (hidT s1.heap H) := by
    intro b o e
    refine hidT_get (KX b o e) (free b ?_)
    rintro rfl
    by_cases z : H b = none
    · exact z
    · exact absurd ((notK z).symm.trans e) (fun q => nomatch q)
  obtain ⟨mc, hl1, hl2⟩ := hlim
  have M : Mod K mg (hidT s1.heap H) := ⟨kinB, nsB hns, ⟨mb, nsB hb, hbb⟩, ⟨mc, nsB hl1, hl2⟩⟩
  have e0 : Env0 P w K mg (hidT s1.heap H) callerA [] s1 H :=
    { frames := rfl, mod := M, bs := fun b o e => of_hidT e, bsz := Nat.le_of_eq (hidT_size _ _), funs := trivial,
      frf := fun b hb => (nomatch (show b ∈ ([] : List Addr) from hb)), hok := hok, bare := .of_eq hg }
  have run := (F _ kinB (nsB hns)).run callerA rfl hr [] s1 H e0 ⟨[.ref a], []⟩ [.ref a] [.ref a] (hbind s1 _) (.cons rfl .nil) _ _ hsp
  refine codeAny_mono run ?_
  intro r s' h
  match r, h with
  | .ok (.ret u), ⟨v, H', os, bare, un, hok', rv, q⟩ =>
    have q' : v = V.bl true := q
    subst q'
    have eu : u = Value.bool true := rv
    subst eu
    refine ⟨rfl, OldK.of_keep ?_, os, bare⟩
    intro b o e
    by_cases z : H b = none
    · exact un.keep b o e z (fun q => nomatch (show b ∈ ([] : List Addr) from q)) (fun q => nomatch q)
    · rcases hO b with z1 | ⟨ob, xs, z1⟩
      · exact absurd z1 z
      · have e1 := (hok b _ z1).1
        have e2 := (hok' b _ (un.frzs b ob _ z1)).1
        rw [Option.some.inj (e.symm.trans e1)]
        exact e2

theorem lawG (KX : K.In s1.heap) (hns : s1.heap.Ns mainGlobals mg) (hb : s1.heap.Ns builtinsNs mb)
    (hbb : ∀ y : Str, y ≠ "__name__" → mb y = bootBuiltins y) (hlim : s1.heap.NoLimit) (hg : s1.gens = #[])
    (ha : s1.heap.get? a = some { cls := .type "list", data := .seq vs.toArray }) (hi : IntsAre vs ns) (hl : ns.length ≤ sizeLine) (hr : Room k callerA)
    (F : ∀ base : Heap, K.In base → base.Ns mainGlobals mg → FnG P w K mg base CX0 k fa fd [x] sp)
    (hbind : ∀ (s : Shared) (u : Value), BindsTo s fd ⟨[u], []⟩ [(x, u)])
    (hsp : ∀ H : Hp, SqL K H a (ns.map V.int) → sp [.ref a] H (fun v _ => v = .bl true) fun _ _ _ => False) :
    codeAny (model P w) callerA (.call (.ref fa) ⟨[.ref a], []⟩)
      (fun r s' => r = .ok (.ret (.bool true)) ∧ OldK s1.heap s'.heap ∧ s'.os = s1.os ∧ AllBare s'.gens) s1 := by
  have rv := vals_ints hi
  by_cases hk : K.lookup a = none
  · let ob : Obj := { cls := .type "list", data := .seq vs.toArray }
    let H : Hp := upd (fun _ => none) a (.frz ob (.lst (ns.map V.int)))
    have hA : H a = some (.frz ob (.lst (ns.map V.int))) := upd_same
    have hN : ∀ b, b ≠ a → H b = none := fun b ne => upd_ne ne
    refine lawG0 (H := H) KX hns hb hbb hlim hg ha hr F hbind ?_ ?_ ?_ (fun _ => hk) (hsp H (.inl (.inr ⟨ob, hA⟩)))
    · intro b
      by_cases e : b = a
      · exact .inr ⟨ob, _, e ▸ hA⟩
      · exact .inl (hN b e)
    · intro b u q
      by_cases e : b = a
      · subst e
        cases Option.some.inj (q.symm.trans hA)
        exact ⟨ha, Nat.le_trans (Nat.le_of_eq (List.length_map V.int)) hl, vs, _, rv, ha⟩
      · exact nomatch (hN b e).symm.trans q
    · intro b q
      by_cases e : b = a
      · exact e
      · exact absurd (hN b e) q
  · obtain ⟨o, ho⟩ := Option.ne_none_iff_exists'.mp hk
    have eo := Option.some.inj ((KX a o ho).symm.trans ha)
    subst eo
    refine lawG0 (H := fun _ => none) KX hns hb hbb hlim hg ha hr F hbind (fun _ => .inl rfl) (fun b u q => nomatch q) (fun b q => absurd rfl q) (fun q => absurd rfl q) (hsp _ (.inr ?_))
    exact ⟨_, vs.toArray, _, ho, rfl, rfl, rfl, by rw [List.size_toArray, hi.length]; exact hl, rv⟩
end

theorem walkG {l : PySem.W.OpenLaw} {n k : Nat} {q : Program} {loose : List Str} {XP : (Str → Option Value) → Heap → Prop} {YP : World → Heap → Prop} {d : DefRec} {K : Params → PySem.W.Frag} {sp : World → Sp} {x : Str}
    (hn : l.most = some n) (hn2 : n ≤ sizeLine) (hdf : d.params.defaults = [])
    (hY : ∀ (w : World) (h : Heap), YP w h → (K w.params).In h) (hr : Room k callerA)
    (F : ∀ (w : World) (mg : Str → Option Value) (fa : Addr) (g : Heap), (K w.params).In g → g.Ns mainGlobals mg → mg d.name = some (.ref fa) →
      ∃ fd : FuncData, (∀ (s : Shared) (v : Value), BindsTo s fd ⟨[v], []⟩ [(x, v)]) ∧
        ∀ base : Heap, (K w.params).In base → base.Ns mainGlobals mg → FnG l.prog w (K w.params) mg base CX0 k fa fd [x] (sp w))
    (hsp : ∀ (w : World) (H : Hp) (a : Addr) (ns : List Int), ns.length ≤ n → SqL (K w.params) H a (ns.map V.int) → sp w [.ref a] H (fun v _ => v = .bl true) fun _ _ _ => False) :
    PySem.W.WalkO q loose XP YP l.row.toRowW d [] fun f us => PySem.call f us := by
  refine Att.attach_call hn hdf ?_
  intro w s₀ s₁ mg mb fa o pm cd doc a vs ns G Y ho hd hcd hmg hobj hints hlen hg
  have KX := hY w _ Y
  obtain ⟨fd, bnd, prom⟩ := F w mg fa _ KX G.T.g hmg
  exact lawG KX G.T.g G.T.b G.T.builtins G.T.nolimit hg hobj hints (Nat.le_trans hlen hn2) hr prom bnd (fun H hS => hsp w H a ns hlen hS)
end TB

set_option Elab.async false
set_option linter.all false
set_option maxRecDepth 100000
namespace TB
open PySem PySem.Spec PyProof.Rows L2

/-! ### what is shown -/
structure Sh (k n : Nat) (d : PyData) : Prop where
  sh : d.showable = true
  nd : d.hasDict = false
  dp : d.depth ≤ k
  ln : d.shown.length ≤ n
theorem sh_int {i : Int} (h : i.natAbs < 2 ^ 100) : Sh 0 1921 (.int i) := by
  have hl : i.natAbs.log2 < 1920 := by
    by_cases h0 : i.natAbs = 0
    · rw [h0]; decide
    · exact (Nat.log2_lt h0).2 (Nat.lt_of_lt_of_le h (Nat.pow_le_pow_right (by decide) (by decide)))
  refine ⟨by simp only [PyData.showable, decide_eq_true_eq]; exact hl, by simp only [PyData.hasDict], by simp [PyData.depth], ?_⟩
  simp only [PyData.shown]
  exact int_text_len_1921 hl
theorem all_len {ds : List PyData} {k n : Nat} (h : ∀ d ∈ ds, Sh k n d) : PyData.showableAll ds = true ∧ PyData.hasDictAll ds = false ∧ PyData.depthAll ds ≤ k ∧ ((PyData.shownAll ds).map (·.length)).sum ≤ ds.length * n ∧ (PyData.shownAll ds).length = ds.length := by
  induction ds with
  | nil => simp [PyData.showableAll, PyData.hasDictAll, PyData.depthAll, PyData.shownAll]
  | cons d ds ih =>
    obtain ⟨a, b, c, e, f⟩ := ih fun x hx => h x (List.mem_cons_of_mem _ hx)
    have g := h d List.mem_cons_self
    refine ⟨by simp only [PyData.showableAll, g.sh, a, Bool.and_self], by simp only [PyData.hasDictAll, g.nd, b, Bool.or_self], ?_, ?_, ?_⟩
    · simp only [PyData.depthAll]
      have := g.dp
      omega
    · simp only [PyData.shownAll, List.map_cons, List.sum_cons, List.length_cons]
      have := g.ln
      rw [Nat.add_mul]
      omega
    · simp only [PyData.shownAll, List.length_cons, f]
theorem sh_tup {ds : List PyData} {k n : Nat} (h : ∀ d ∈ ds, Sh k n d) : Sh (k + 1) (ds.length * n + 2 * ds.length + 3) (.tuple ds) := by
  obtain ⟨a, b, c, e, f⟩ := all_len h
  refine ⟨by simp only [PyData.showable, a], by simp only [PyData.hasDict, b], by simp only [PyData.depth]; omega, ?_⟩
  simp only [PyData.shown]
  refine Nat.le_trans (tupleText_len_le _) ?_
  rw [f]
  omega
theorem sh_lst {ds : List PyData} {k n : Nat} (h : ∀ d ∈ ds, Sh k n d) : Sh (k + 1) (ds.length * n + 2 * ds.length + 3) (.list ds) := by
  obtain ⟨a, b, c, e, f⟩ := all_len h
  refine ⟨by simp only [PyData.showable, a], by simp only [PyData.hasDict, b], by simp only [PyData.depth]; omega, ?_⟩
  simp only [PyData.shown]
  refine Nat.le_trans (listText_len_le _) ?_
  rw [f]
  omega
theorem Sh.mono {k k' n n' : Nat} {d : PyData} (h : Sh k n d) (a : k ≤ k') (b : n ≤ n') : Sh k' n' d :=
  ⟨h.sh, h.nd, Nat.le_trans h.dp a, Nat.le_trans h.ln b⟩
def dInts (ns : List Int) : List PyData := ns.map PyData.int
theorem sh_ints {ns : List Int} (h : ∀ v ∈ ns, v.natAbs < 2 ^ 100) (hl : ns.length ≤ 100) : Sh 1 200000 (.tuple (dInts ns)) := by
  refine (sh_tup (k := 0) (n := 1921) fun d hd => ?_).mono (by omega) ?_
  · obtain ⟨v, hv, rfl⟩ := List.mem_map.mp hd
    exact sh_int (h v hv)
  · unfold dInts
    rw [List.length_map]
    omega
theorem dp_ints {K : PySem.W.Frag} {H : Hp} : ∀ ns : List Int, DpAll K H (ns.map V.int) (dInts ns)
  | [] => DpAll.nil
  | n :: ns => DpAll.cons (Dp.int n) (dp_ints ns)

/-- a comprehension without an if -/
theorem yes {σ : L2.St} {H : Hp} {R : Bool → Hp → Prop} (h : R true H) : tYes σ H R := h
theorem iteS {c A B : Prop} [Decidable c] (hc : c) (h : A) : if decide c = true then A else B := by
  rw [if_pos (decide_eq_true hc)]
  exact h
theorem ixN_nat {n k : Nat} (h : k < n) : ixN n (k : Int) = some k := by
  unfold ixN
  rw [if_pos (by omega), if_pos (by omega)]
  simp
theorem take_more {α : Type} {xs : List α} {i : Nat} {x : α} (h : xs[i]? = some x) : xs.take (i + 1) = xs.take i ++ [x] := by
  rw [List.take_add_one, h]
  rfl

theorem map_get {α β : Type} {f : α → β} {xs : List α} {i : Nat} {d : β} (h : (xs.map f)[i]? = some d) : ∃ p, xs[i]? = some p ∧ d = f p := by
  rw [List.getElem?_map] at h
  cases e : xs[i]? with
  | none => rw [e] at h; cases h
  | some p => rw [e] at h; exact ⟨p, rfl, (Option.some.inj h).symm⟩
theorem map_take_more {α β : Type} {f : α → β} {xs : List α} {i : Nat} {x : α} (h : xs[i]? = some x) : (xs.take (i + 1)).map f = (xs.take i).map f ++ [f x] := by
  rw [take_more h, List.map_append]
  rfl

/-! ### heaps -/
theorem same_upd {H : Hp} {p : Addr} {o : HO} (h : H p = none) : Same H (upd H p o) := fun b x e => by
  rw [upd_ne (ne_of_none e h)]
  exact e
theorem Same.tup {K : PySem.W.Frag} {H H' : Hp} {a : Addr} {xs : List V} (e : Same H H') (h : SqT K H a xs) : SqT K H' a xs := by
  rcases h with (h | ⟨o, h⟩) | h
  · exact .inl (.inl (e _ _ h))
  · exact .inl (.inr ⟨o, e _ _ h⟩)
  · exact .inr h
/-- all that was tracked is as it was, but what stands at f -/
def But (f : Addr) (H H' : Hp) : Prop := ∀ b o, b ≠ f → H b = some o → H' b = some o
theorem But.refl (f : Addr) (H : Hp) : But f H H := fun _ _ _ h => h
theorem But.trans {f : Addr} {H H1 H2 : Hp} (a : But f H H1) (b : But f H1 H2) : But f H H2 := fun c o n h => b c o n (a c o n h)
theorem But.same {f : Addr} {H H1 H2 : Hp} (a : But f H H1) (b : Same H1 H2) : But f H H2 := fun c o n h => b c o (a c o n h)
theorem But.of {f : Addr} {H H' : Hp} (a : Same H H') : But f H H' := fun c o _ h => a c o h
theorem But.upd {f : Addr} {H : Hp} {o : HO} : But f H (upd H f o) := fun b x n e => by
  rw [upd_ne n]
  exact e
theorem But.free {f : Addr} {H H' : Hp} {zs : List V} (e : But f H H') (hf : H' f = some (.lst zs)) {l : Addr} (h : H' l = none) : H l = none := by
  cases q : H l with
  | none => rfl
  | some o =>
    have n : l ≠ f := fun z => by
      rw [z, hf] at h
      cases h
    rw [e l o n q] at h
    cases h
mutual
theorem Dp.same {K : PySem.W.Frag} {H H' : Hp} (e : Same H H') : ∀ (d : PyData) (v : V), Dp K H v d → Dp K H' v d
  | .none, _, .non => .non
  | .bool _, _, .bl b => .bl b
  | .int _, _, .int i => .int i
  | .str _, _, .str x => .str x
  | .list ds, _, .lst h a => .lst (e.seq h) (DpAll.same e ds _ a)
  | .tuple ds, _, .tup h a => .tup (TB.Same.tup e h) (DpAll.same e ds _ a)
theorem DpAll.same {K : PySem.W.Frag} {H H' : Hp} (e : Same H H') : ∀ (ds : List PyData) (vs : List V), DpAll K H vs ds → DpAll K H' vs ds
  | [], _, .nil => .nil
  | d :: ds, _, .cons h t => .cons (Dp.same e d _ h) (DpAll.same e ds _ t)
end
theorem DpAll.snoc {K : PySem.W.Frag} {H : Hp} {v : V} {d : PyData} (h : Dp K H v d) : ∀ {vs : List V} {ds : List PyData}, DpAll K H vs ds → DpAll K H (vs ++ [v]) (ds ++ [d])
  | _, _, .nil => .cons h .nil
  | _, _, .cons a t => .cons a (DpAll.snoc h t)
theorem DpAll.len {K : PySem.W.Frag} {H : Hp} : ∀ {vs : List V} {ds : List PyData}, DpAll K H vs ds → vs.length = ds.length
  | _, _, .nil => rfl
  | _, _, .cons _ t => congrArg Nat.succ (DpAll.len t)
theorem DpAll.get {K : PySem.W.Frag} {H : Hp} : ∀ {vs : List V} {ds : List PyData} {i : Nat} {v : V}, DpAll K H vs ds → vs[i]? = some v → ∃ d, ds[i]? = some d ∧ Dp K H v d
  | _, _, _, _, .nil, h => by simp at h
  | _, _, 0, _, .cons a _, h => ⟨_, rfl, by simp at h; subst h; exact a⟩
  | _, _, i + 1, _, .cons _ t, h => by
    obtain ⟨d, e, q⟩ := DpAll.get t (i := i) (by simpa using h)
    exact ⟨d, by simpa using e, q⟩
theorem Dp.tup_inv {K : PySem.W.Frag} {H : Hp} {v : V} {ds : List PyData} (h : Dp K H v (.tuple ds)) : ∃ a xs, v = .ref a ∧ SqT K H a xs ∧ DpAll K H xs ds := by
  cases h with
  | tup h a => exact ⟨_, _, rfl, h, a⟩
theorem Dp.lst_inv {K : PySem.W.Frag} {H : Hp} {v : V} {ds : List PyData} (h : Dp K H v (.list ds)) : ∃ a xs, v = .ref a ∧ SqL K H a xs ∧ DpAll K H xs ds := by
  cases h with
  | lst h a => exact ⟨_, _, rfl, h, a⟩
theorem DpAll.cons_inv {K : PySem.W.Frag} {H : Hp} {xs : List V} {d : PyData} {ds : List PyData} (h : DpAll K H xs (d :: ds)) : ∃ v vs, xs = v :: vs ∧ Dp K H v d ∧ DpAll K H vs ds := by
  cases h with
  | cons a t => exact ⟨_, _, rfl, a, t⟩
theorem DpAll.nil_inv {K : PySem.W.Frag} {H : Hp} {xs : List V} (h : DpAll K H xs []) : xs = [] := by
  cases h
  rfl
theorem Dp.int_inv {K : PySem.W.Frag} {H : Hp} {v : V} {i : Int} (h : Dp K H v (.int i)) : v = .int i := by
  cases h
  rfl
theorem Dp.str_inv {K : PySem.W.Frag} {H : Hp} {v : V} {i : Str} (h : Dp K H v (.str i)) : v = .str i := by
  cases h
  rfl
theorem dp_strs {K : PySem.W.Frag} {H : Hp} : ∀ ns : List Str, DpAll K H (ns.map V.str) (ns.map PyData.str)
  | [] => DpAll.nil
  | n :: ns => DpAll.cons (Dp.str n) (dp_strs ns)

/-! no list stands in it -/
mutual
def noL : PyData → Bool
  | .list _ => false
  | .tuple xs => noLs xs
  | .dict _ => false
  | _ => true
def noLs : List PyData → Bool
  | [] => true
  | x :: xs => noL x && noLs xs
end
theorem SqT.but {K : PySem.W.Frag} {H H' : Hp} {o a : Addr} {xs zs : List V} (e : But o H H') (ho : H o = some (.lst zs)) (h : SqT K H a xs) : SqT K H' a xs := by
  rcases h with (h | ⟨u, h⟩) | h
  · exact .inl (.inl (e _ _ (ne_of h ho (fun z => nomatch z)) h))
  · exact .inl (.inr ⟨u, e _ _ (ne_of h ho (fun z => nomatch z)) h⟩)
  · exact .inr h
mutual
theorem Dp.but {K : PySem.W.Frag} {H H' : Hp} {o : Addr} {zs : List V} (e : But o H H') (ho : H o = some (.lst zs)) : ∀ (d : PyData) (v : V), noL d = true → Dp K H v d → Dp K H' v d
  | .none, _, _, .non => .non
  | .bool _, _, _, .bl b => .bl b
  | .int _, _, _, .int i => .int i
  | .str _, _, _, .str x => .str x
  | .list ds, _, n, _ => by simp [noL] at n
  | .tuple ds, _, n, .tup h a => .tup (TB.SqT.but e ho h) (DpAll.but e ho ds _ (by simpa only [noL] using n) a)
theorem DpAll.but {K : PySem.W.Frag} {H H' : Hp} {o : Addr} {zs : List V} (e : But o H H') (ho : H o = some (.lst zs)) : ∀ (ds : List PyData) (vs : List V), noLs ds = true → DpAll K H vs ds → DpAll K H' vs ds
  | [], _, _, .nil => .nil
  | d :: ds, _, n, .cons h t => by
    simp only [noLs, Bool.and_eq_true] at n
    exact .cons (Dp.but e ho d _ n.1 h) (DpAll.but e ho ds _ n.2 t)
end
theorem noLs_of {ds : List PyData} (h : ∀ d ∈ ds, noL d = true) : noLs ds = true := by
  induction ds with
  | nil => rfl
  | cons d ds ih => simp only [noLs, h d List.mem_cons_self, ih fun x hx => h x (List.mem_cons_of_mem _ hx), Bool.and_self]
theorem noLs_snoc {ds : List PyData} {d : PyData} (h : noLs ds = true) (n : noL d = true) : noLs (ds ++ [d]) = true := by
  induction ds with
  | nil => simp only [List.nil_append, noLs, n, Bool.and_true]
  | cons x ds ih =>
    simp only [noLs, Bool.and_eq_true] at h
    simp only [List.cons_append, noLs, h.1, ih h.2, Bool.and_self]

/-! ### a list that is being filled: at D, with these data -/
structure Acc (K : PySem.W.Frag) (H : Hp) (D : Addr) (ds : List PyData) : Prop where
  ex : ∃ us, H D = some (.lst us) ∧ DpAll K H us ds
  nl : noLs ds = true
theorem Acc.start {K : PySem.W.Frag} {H : Hp} {D : Addr} : Acc K (upd H D (.lst [])) D [] := ⟨⟨[], upd_same, .nil⟩, rfl⟩
theorem Acc.same {K : PySem.W.Frag} {H H' : Hp} {D : Addr} {ds : List PyData} (h : Acc K H D ds) (e : Same H H') : Acc K H' D ds := by
  obtain ⟨us, a, b⟩ := h.ex
  exact ⟨⟨us, e _ _ a, DpAll.same e _ _ b⟩, h.nl⟩
theorem Acc.but {K : PySem.W.Frag} {H H' : Hp} {D F : Addr} {ds : List PyData} {zs : List V} (h : Acc K H D ds) (e : But F H H') (hF : H F = some (.lst zs)) (n : D ≠ F) : Acc K H' D ds := by
  obtain ⟨us, a, b⟩ := h.ex
  exact ⟨⟨us, e _ _ n a, DpAll.but e hF _ _ h.nl b⟩, h.nl⟩
/-- one more -/
theorem Acc.more {K : PySem.W.Frag} {H : Hp} {D : Addr} {ds : List PyData} {v : V} {d : PyData} (h : Acc K H D ds) (dv : Dp K H v d) (n : noL d = true) (hl : ds.length ≤ 900) :
    ∃ us, H D = some (.lst us) ∧ us.length < sizeLine ∧ Acc K (upd H D (.lst (us ++ [v]))) D (ds ++ [d]) := by
  obtain ⟨us, a, b⟩ := h.ex
  have bu : But D H (upd H D (.lst (us ++ [v]))) := But.upd
  exact ⟨us, a, by rw [DpAll.len b]; exact small1000 (by omega), ⟨us ++ [v], upd_same, DpAll.snoc (Dp.but bu a _ _ n dv) (DpAll.but bu a _ _ h.nl b)⟩, noLs_snoc h.nl n⟩

theorem same_new {H H2 : Hp} {D : Addr} {o : HO} (nD : H D = none) (sm : Same H H2) : Same H (upd H2 D o) := fun c x e => by
  rw [upd_ne (ne_of_none e nD)]
  exact sm c x e
/-- a turn of a comprehension that changes nothing else -/
theorem Acc.turn {K : PySem.W.Frag} {H H1 H2 : Hp} {D : Addr} {ds ds' : List PyData} {v : V} {d : PyData} (nD : H D = none) (sm : Same H H1) (ac : Acc K H1 D ds) (s2 : Same H1 H2) (dv : Dp K H2 v d) (n : noL d = true) (hl : ds.length ≤ 900) (he : ds' = ds ++ [d]) :
    ∃ acc, H2 D = some (.lst acc) ∧ acc.length < sizeLine ∧ (Same H (upd H2 D (.lst (acc ++ [v]))) ∧ Acc K (upd H2 D (.lst (acc ++ [v]))) D ds') := by
  obtain ⟨us, a, b, c⟩ := (ac.same s2).more dv n hl
  exact ⟨us, a, b, same_new nD (sm.trans s2), he ▸ c⟩
/-- the tuple of all that was filled in -/
theorem Acc.tuple {K : PySem.W.Frag} {H : Hp} {D t : Addr} {us : List V} {ds : List PyData} (dv : DpAll K H us ds) (nt : H t = none) : Dp K (upd H t (.tup us)) (.ref t) (.tuple ds) :=
  .tup (.inl (.inl upd_same)) (DpAll.same (same_upd nt) _ _ dv)

/-! ### repr, its text kept shut -/
@[irreducible] def txt (d : PyData) : Str := d.shown
theorem txt_eq (d : PyData) : txt d = d.shown := by
  unfold txt
  rfl
section
variable {X : Cx}
def rReprT (K : PySem.W.Frag) : List V → Hp → VK → Prop := fun xs H Q => ∃ a d, xs = [.ref a] ∧ Dp K H (.ref a) d ∧ d.showable = true ∧ d.hasDict = false ∧ d.depth ≤ 60 ∧ d.shown.length ≤ sizeLine ∧ Q (.str (txt d)) H
theorem call_reprT (gd : X.A.guards = some []) (hu : X.A.units + 64 < cLine) : CallR X (.builtin "repr") (rReprT X.K) := by
  intro pins s σ H args us Q I r h
  obtain ⟨a, d, e, hd, hs, hn, hp, hz, q⟩ := h
  refine call_reprD gd hu pins s σ H args us Q I r ⟨a, d, e, hd, hs, hn, hp, hz, ?_⟩
  rw [← txt_eq]
  exact q
end

/-! ### a call by names alone -/
section
variable {X : Cx} {CX : CXT} {k : Nat} {f : Addr} {fd : FuncData} {ps ks : List Str} {sp : Sp} {E : XK} {x : Str} {p pos : Pos} {kws : List Keyword} {tk : TA} {g : List Value → List Value → List Value} {gV : List V → List V → List V}
theorem pe_callN0 (F : FnOk X.prog X.w X.K X.mg X.base CX k f fd ps sp) (hr : Room k X.A) (hg : Gl X x) (hm : X.mg x = some (.ref f)) (hk : PySem.W.keepIn X.K (.ref f) = true) (hb : KBn X.K fd ps 0 ks g gV) (hx : Passes CX X E) (hkw : PK X kws tk)
    (hks : (backToKw pos (keywordEach kws X.env)).filterMap (·.1) = ks := by rfl) (hall : (backToKw pos (keywordEach kws X.env)).all (·.1.isSome) = true := by rfl)
    (hpl : ((backTo pos (starEach [] X.env)).any (·.1) || (backToKw pos (keywordEach kws X.env)).any (·.1.isNone)) = false := by rfl) (hdb : (x == ("__debug__" : Str)) = false := by decide) :
    PE X (.Call (.Name x p) [] kws pos) (tCallN 0 ks.length sp gV E tNil tk) := by
  constructor
  intro pins s σ H Q I h
  refine wpAny_Call_Name_kw (ld_glob I hg hm (PySem.W.callWith_KW0 (h₀ := X.base) I.ok.mod.kin hk hall (thn (hkw.run pos pins s σ H _ I h) ?_) hpl) hdb)
  rintro ws s2 ⟨zs, H2, I2, rz, l1, l2, q2⟩
  rw [hks]
  exact ⟨I2.kIn, run_fnN (us := []) (vs := []) F hr hb hx I2 .nil rz l1 l2 q2⟩
end
end TB

set_option Elab.async false
set_option linter.all false
set_option maxRecDepth 100000
set_option maxHeartbeats 1000000
namespace TB
open PySem PySem.Spec PyProof.Rows L2

/-! ### sum, min, max of a tuple of numbers -/
section
variable {l : Addr} {its : List Value} {ns : List Int} {prog : Program} {w : World} {A : Around} {s : Shared} {Q E : Value → Shared → Prop}
theorem tup_old {h' : Heap} {ob : Obj} (kept : ∀ b o, b ∉ [s.heap.objs.size] → (s.heap.push ob).get? b = some o → h'.get? b = some o) : ∀ b o, s.heap.get? b = some o → h'.get? b = some o := fun b o e =>
  kept b o (fun z => by
    have z' : b = s.heap.objs.size := by simpa using z
    have := Heap.lt_size e
    rw [z'] at this
    exact Nat.lt_irrefl _ this) (Heap.get?_push_of_some _ e)
theorem tup_fp {ob : Obj} {xs : Array Value} (hl : s.heap.IsTuple l xs) : l < s.heap.objs.size ∧ ∀ b ∈ [s.heap.objs.size, l], b < (s.heap.push ob).objs.size := by
  obtain ⟨o, ho, _⟩ := hl
  have lt := Heap.lt_size ho
  refine ⟨lt, fun b hb => ?_⟩
  rw [Heap.size_push]
  have : b = s.heap.objs.size ∨ b = l := by simpa using hb
  rcases this with rfl | rfl
  · exact Nat.lt_succ_self _
  · exact Nat.lt_succ_of_lt lt
theorem sum_tupR (hh : A.handled = none) (hl : s.heap.IsTuple l its.toArray) (hi : IntsAre its ns)
    (told : ∀ h' tk t', (∀ b o, s.heap.get? b = some o → h'.get? b = some o) → Q (.int ns.sum t') { s with heap := h', toks := tk }) : wpAny (model prog w) A (call (.builtin "sum") [.ref l]) Q E s := by
  obtain ⟨pairs, e⟩ := hi.allInts.items
  have nums : numsOf (intItems pairs).toList = ns := by rw [← e]; exact hi.numsOf
  rw [nums_intItems] at nums
  rw [e] at hl
  refine call_sum_walkG (wpAny_pyIter_tuple hl ?_)
  refine ⟨_, [_, l], [_], _, _, _, numAt pairs, rfl, Walks.tuple (A := A.in1) hh _ l (Nat.ne_of_lt (tup_fp (ob := default) hl).1) (intItems pairs), ⟨⟨_, Heap.get?_push_size _ rfl, rfl, rfl⟩, hl.push _⟩, (tup_fp hl).2, fun _ _ => intItems_at, fun h' tk t' hk => ?_⟩
  have q := told h' tk t' (tup_old hk)
  have ez : (intItems pairs).size = pairs.size := by simp [intItems]
  rw [ez, preSum_eq, List.take_of_length_le (by simp), nums]
  exact q
theorem min_tupR (hh : A.handled = none) (hl : s.heap.IsTuple l its.toArray) (hi : IntsAre its ns) (hne : 0 < ns.length)
    (told : ∀ h' tk M t', (∀ b o, s.heap.get? b = some o → h'.get? b = some o) → M ∈ ns → (∀ a, a ∈ ns → M ≤ a) → Q (.int M t') { s with heap := h', toks := tk }) : wpAny (model prog w) A (call (.builtin "min") [.ref l]) Q E s := by
  obtain ⟨pairs, e⟩ := hi.allInts.items
  have nums : numsOf (intItems pairs).toList = ns := by rw [← e]; exact hi.numsOf
  rw [nums_intItems] at nums
  subst nums
  rw [e] at hl
  have some1 : 0 < pairs.size := by simpa using hne
  refine call_min_walk (wpAny_pyIter_tuple hl ?_)
  refine ⟨_, [_, l], [_], _, _, _, _, rfl, Walks.tuple (A := A.in1) hh _ l (Nat.ne_of_lt (tup_fp (ob := default) hl).1) (intItems pairs), ⟨⟨_, Heap.get?_push_size _ rfl, rfl, rfl⟩, hl.push _⟩, (tup_fp hl).2, by simpa [intItems] using some1, CmpOf.ints_lt (numAt pairs) (fun _ _ => intItems_at), fun v h' tk hP hk => ?_⟩
  have ez : (intItems pairs).size = pairs.size := by simp [intItems]
  rw [ez] at hP
  obtain ⟨t, rfl⟩ := intItems_at hP
  obtain ⟨_, least⟩ := argBest_lt (numAt pairs) (pairs.size - 1)
  refine told h' tk _ t (tup_old hk) ?_ fun a ha => ?_
  · rw [numAt_eq]
    exact PySem.getD_mem (by rw [List.length_map, Array.length_toList]; omega)
  · obtain ⟨i, hi', rfl⟩ := mem_getD ha
    have lt : i < pairs.toList.length := by simpa using hi'
    rw [Array.length_toList] at lt
    exact numAt_eq .. ▸ least i (by omega)
theorem max_tupR (hh : A.handled = none) (hl : s.heap.IsTuple l its.toArray) (hi : IntsAre its ns) (hne : 0 < ns.length)
    (told : ∀ h' tk M t', (∀ b o, s.heap.get? b = some o → h'.get? b = some o) → M ∈ ns → (∀ a, a ∈ ns → a ≤ M) → Q (.int M t') { s with heap := h', toks := tk }) : wpAny (model prog w) A (call (.builtin "max") [.ref l]) Q E s := by
  obtain ⟨pairs, e⟩ := hi.allInts.items
  have nums : numsOf (intItems pairs).toList = ns := by rw [← e]; exact hi.numsOf
  rw [nums_intItems] at nums
  subst nums
  rw [e] at hl
  have some1 : 0 < pairs.size := by simpa using hne
  refine call_max_walk (wpAny_pyIter_tuple hl ?_)
  refine ⟨_, [_, l], [_], _, _, _, _, rfl, Walks.tuple (A := A.in1) hh _ l (Nat.ne_of_lt (tup_fp (ob := default) hl).1) (intItems pairs), ⟨⟨_, Heap.get?_push_size _ rfl, rfl, rfl⟩, hl.push _⟩, (tup_fp hl).2, by simpa [intItems] using some1, CmpOf.ints_gt (numAt pairs) (fun _ _ => intItems_at), fun v h' tk hP hk => ?_⟩
  have ez : (intItems pairs).size = pairs.size := by simp [intItems]
  rw [ez] at hP
  obtain ⟨t, rfl⟩ := intItems_at hP
  obtain ⟨_, most⟩ := argBest_gt (numAt pairs) (pairs.size - 1)
  refine told h' tk _ t (tup_old hk) ?_ fun a ha => ?_
  · rw [numAt_eq]
    exact PySem.getD_mem (by rw [List.length_map, Array.length_toList]; omega)
  · obtain ⟨i, hi', rfl⟩ := mem_getD ha
    have lt : i < pairs.toList.length := by simpa using hi'
    rw [Array.length_toList] at lt
    exact numAt_eq .. ▸ most i (by omega)
end
section
variable {X : Cx}
def rSumT (K : PySem.W.Frag) : List V → Hp → VK → Prop := fun vs H Q => ∃ (a : Addr) (ns : List Int), vs = [V.ref a] ∧ SqT K H a (ns.map V.int) ∧ Q (.int ns.sum) H
def rMaxT (K : PySem.W.Frag) : List V → Hp → VK → Prop := fun vs H Q => ∃ (a : Addr) (ns : List Int), vs = [V.ref a] ∧ SqT K H a (ns.map V.int) ∧ 0 < ns.length ∧ ∀ m, m ∈ ns → (∀ y, y ∈ ns → y ≤ m) → Q (.int m) H
def rMinT (K : PySem.W.Frag) : List V → Hp → VK → Prop := fun vs H Q => ∃ (a : Addr) (ns : List Int), vs = [V.ref a] ∧ SqT K H a (ns.map V.int) ∧ 0 < ns.length ∧ ∀ m, m ∈ ns → (∀ y, y ∈ ns → m ≤ y) → Q (.int m) H
theorem call_sumT (hc : X.calm = true) : CallR X (.builtin "sum") (rSumT X.K) := by
  intro pins s σ H vs us Q I rel h
  obtain ⟨t, ns, rfl, at_t, q⟩ := h
  obtain ⟨its, rv, hl, _⟩ := I.tuple at_t
  rw [Vals.ref1 rel]
  exact sum_tupR (I.ok.hd hc) hl rv.ints fun h' tk t' hk => ⟨.int _, H, I.kept hk, ⟨_, rfl⟩, q⟩
theorem call_maxT (hc : X.calm = true) : CallR X (.builtin "max") (rMaxT X.K) := by
  intro pins s σ H vs us Q I rel h
  obtain ⟨t, ns, rfl, at_t, hne, q⟩ := h
  obtain ⟨its, rv, hl, _⟩ := I.tuple at_t
  rw [Vals.ref1 rel]
  exact max_tupR (I.ok.hd hc) hl rv.ints hne fun h' tk m t' hk h1 h2 => ⟨.int m, H, I.kept hk, ⟨_, rfl⟩, q m h1 h2⟩
theorem call_minT (hc : X.calm = true) : CallR X (.builtin "min") (rMinT X.K) := by
  intro pins s σ H vs us Q I rel h
  obtain ⟨t, ns, rfl, at_t, hne, q⟩ := h
  obtain ⟨its, rv, hl, _⟩ := I.tuple at_t
  rw [Vals.ref1 rel]
  exact min_tupR (I.ok.hd hc) hl rv.ints hne fun h' tk m t' hk h1 h2 => ⟨.int m, H, I.kept hk, ⟨_, rfl⟩, q m h1 h2⟩
end

/-! ### zip of a tuple and a list: one step of any two iterators -/
section
variable {w : World} {prog : Program} {s : Shared} {A : Around}
/-- nextOf i tells x and leaves T, from any state that keeps what s has but at the places off -/
def NextIs (prog : Program) (w : World) (s : Shared) (off : List Addr) (i : Addr) (x : Value) (T : Heap → Prop) : Prop :=
  ∀ (B : Around) (u : Shared) (Q : Value → Shared → Prop) (E : Value → Shared → Prop), (∀ c o, c ∉ off → s.heap.get? c = some o → u.heap.get? c = some o) →
    (∀ g, T g → Heap.SameBut i u.heap g → Q x { u with heap := g }) → wpAny (model prog w) B (Builtin.SmallTypes.nextOf (.ref i)) Q E u
/-- nextOf i stops -/
def NextEnds (prog : Program) (w : World) (s : Shared) (off : List Addr) (i : Addr) : Prop :=
  ∀ (B : Around) (u : Shared) (Q : Value → Shared → Prop) (E : Value → Shared → Prop), B.handled = none → (∀ c o, c ∉ off → s.heap.get? c = some o → u.heap.get? c = some o) →
    (∀ g e, Heap.ExtBut i u.heap g → (∃ o, g.get? e = some o ∧ o.cls = .type "StopIteration") → E (.ref e) { u with heap := g }) → wpAny (model prog w) B (Builtin.SmallTypes.nextOf (.ref i)) Q E u
/-- the five places of a zip are five -/
structure Five (z TI TO i j : Addr) : Prop where
  a : TI ≠ z
  b : TO ≠ z
  c : i ≠ z
  d : j ≠ z
  e : TO ≠ i
  f : TO ≠ j
  g : i ≠ j

theorem zip_step {E : Value → Shared → Prop} {z TI TO i j : Addr} {x y a b : Value} {T1 T2 : Heap → Prop} {Q : Option Value → Shared → Prop} (F : Five z TI TO i j)
    (hz : IsZip s.heap z TI TO .none) (hTI : IsPair s.heap TI (.ref i) (.ref j)) (hTO : IsPair s.heap TO a b)
    (lt : i < s.heap.objs.size ∧ j < s.heap.objs.size)
    (n1 : NextIs prog w s [z] i x T1) (n2 : NextIs prog w s [z, i, TO] j y T2)
    (k1 : ∀ g g' : Heap, T1 g → (∀ o, g.get? i = some o → g'.get? i = some o) → T1 g') (k2 : ∀ g g' : Heap, T2 g → (∀ o, g.get? j = some o → g'.get? j = some o) → T2 g')
    (hQ : ∀ g, IsZip g z TI TO (rawInt s.heap.objs.size) → IsPair g TO x y → T1 g → T2 g → IsPair g s.heap.objs.size x y → g.objs.size = s.heap.objs.size + 1 →
      (∀ c o, c ∉ [z, TO, i, j] → s.heap.get? c = some o → g.get? c = some o) → Q (some (.ref s.heap.objs.size)) { s with heap := g }) :
    wpAny (model prog w) A (pyNext (Value.ref z)) Q E s := by
  have isZ : s.TypeIs (.ref z) "zip" := ⟨_, hz, rfl⟩
  unfold pyNext
  refine wpAny_bind (wpAny_attempt (wpAny_callSpecial?_slot (name := Str.ofString "__next__") isZ PySem.F.slot_zip_next (wpAny_call_entry PySem.F.slot_zip_next isZ PySem.F.entry_zip_next ?_ (PySem.F.args_zip_next_1 _))))
  show wpAny _ _ (field (Value.ref z) 2 >>= _) _ _ _
  apply wpAny_bind
  refine wpAny_field hz rfl (x := .bool false) rfl ?_
  show wpAny _ _ (field (Value.ref z) 3 >>= _) _ _ _
  apply wpAny_bind
  refine wpAny_field hz rfl (x := .ref TI) rfl ?_
  apply wpAny_bind
  refine wpAny_seqItems hTI rfl ?_
  show wpAny _ _ (Builtin.SmallTypes.ownedTupleIsFree (Value.ref z) >>= _) _ _ _
  apply wpAny_bind; unfold Builtin.SmallTypes.ownedTupleIsFree; apply wpAny_bind
  refine wpAny_field hz rfl (x := .none) rfl (wpAny_pure ?_)
  simp only [if_true]
  apply wpAny_bind
  refine wpAny_rule ?_
  apply wpAny_bind
  refine wpAny_field hz rfl (x := .ref TO) rfl ?_
  apply wpAny_bind
  refine wpAny_setField_rec hz (by simp) fun g1 z1 s1 => ?_
  replace z1 : IsZip g1 z TI TO .ellipsis := z1
  apply wpAny_bind
  simp only [List.forIn_cons, List.forIn_nil, List.zipIdx_cons, List.zipIdx_nil]
  iterate 2 apply wpAny_bind
  apply wpAny_onRaise
  show wpAny _ _ (Builtin.SmallTypes.nextOf (.ref i) >>= _) _ _ _
  apply wpAny_bind
  refine n1 _ _ _ _ (fun c o n e => s1.extBut _ _ (by simpa using n) e) fun g2 t2 s2 => wpAny_pure ?_
  have o2 : IsPair g2 TO a b := s2.extBut _ _ F.e (s1.extBut _ _ F.b hTO)
  apply wpAny_bind
  refine wpAny_seqItems o2 rfl ?_
  apply wpAny_bind
  refine wpAny_updateSeq_pair o2 fun g3 o3 s3 => ?_
  replace o3 : IsPair g3 TO x b := o3
  apply wpAny_bind
  refine wpAny_letGo (wpAny_pure ?_)
  iterate 2 apply wpAny_bind
  apply wpAny_onRaise
  show wpAny _ _ (Builtin.SmallTypes.nextOf (.ref j) >>= _) _ _ _
  apply wpAny_bind
  refine n2 _ _ _ _ (fun c o n e => ?_) fun g4 t4 s4 => wpAny_pure ?_
  · have n' : c ≠ z ∧ c ≠ i ∧ c ≠ TO := by simpa using n
    exact s3.extBut _ _ n'.2.2 (s2.extBut _ _ n'.2.1 (s1.extBut _ _ n'.1 e))
  have o4 : IsPair g4 TO x b := s4.extBut _ _ F.f o3
  apply wpAny_bind
  refine wpAny_seqItems o4 rfl ?_
  apply wpAny_bind
  refine wpAny_updateSeq_pair o4 fun g5 o5 s5 => ?_
  replace o5 : IsPair g5 TO x y := o5
  apply wpAny_bind
  refine wpAny_letGo (wpAny_pure (wpAny_pure ?_))
  apply wpAny_bind
  refine wpAny_seqItems o5 rfl ?_
  apply wpAny_bind
  refine wpAny_newTuple ?_
  have size5 : g5.objs.size = s.heap.objs.size := by rw [s5.1, s4.1, s3.1, s2.1, s1.1]
  have z5 : IsZip g5 z TI TO .ellipsis := s5.extBut _ _ F.b.symm (s4.extBut _ _ F.d.symm (s3.extBut _ _ F.b.symm (s2.extBut _ _ F.c.symm z1)))
  have kept5 : ∀ c o, c ∉ [z, TO, i, j] → s.heap.get? c = some o → g5.get? c = some o := fun c o n e => by
    have n' : c ≠ z ∧ c ≠ TO ∧ c ≠ i ∧ c ≠ j := by simpa using n
    exact s5.extBut _ _ n'.2.1 (s4.extBut _ _ n'.2.2.2 (s3.extBut _ _ n'.2.1 (s2.extBut _ _ n'.2.2.1 (s1.extBut _ _ n'.1 e))))
  have u1 : T1 g5 := k1 _ _ t2 fun o e => s5.extBut _ _ F.e.symm (s4.extBut _ _ F.g (s3.extBut _ _ F.e.symm e))
  have u2 : T2 g5 := k2 _ _ t4 fun o e => s5.extBut _ _ F.f.symm e
  have zl : z < g5.objs.size := Heap.lt_size z5
  show wpAny _ _ (Builtin.SmallTypes.ownedTupleHandOut (.ref z) (.ref g5.objs.size) >>= _) _ _ _
  apply wpAny_bind; unfold Builtin.SmallTypes.ownedTupleHandOut
  have z6 : IsZip (g5.push { cls := .type "tuple", data := .seq #[x, y] }) z TI TO .ellipsis := Heap.get?_push_of_some _ z5
  apply wpAny_bind
  refine wpAny_setField_rec z6 (by simp) fun g7 z7 s7 => ?_
  replace z7 : IsZip g7 z TI TO (rawInt g5.objs.size) := z7
  refine wpAny_setField_rec z7 (by simp) fun g8 z8 s8 => ?_
  replace z8 : IsZip g8 z TI TO (rawInt g5.objs.size) := z8
  have up : ∀ c o, c ≠ z → g5.get? c = some o → g8.get? c = some o := fun c o n e => s8.extBut _ _ n (s7.extBut _ _ n (Heap.get?_push_of_some _ e))
  have pair8 : IsPair g8 g5.objs.size x y := s8.extBut _ _ (Nat.ne_of_gt zl) (s7.extBut _ _ (Nat.ne_of_gt zl) (Heap.get?_push_size _ rfl))
  have size8 : g8.objs.size = g5.objs.size + 1 := by rw [s8.1, s7.1, Heap.size_push]
  rw [size5] at z8 pair8 size8
  refine wpAny_pure ⟨_, rfl, wpAny_pure ?_⟩
  show Q (some (.ref g5.objs.size)) _
  rw [size5]
  exact hQ g8 z8 (up _ _ F.b o5) (k1 _ _ u1 fun o e => up _ o F.c e) (k2 _ _ u2 fun o e => up _ o F.d e) pair8 size8 fun c o n e => up c o (by simp at n; exact n.1) (kept5 c o n e)

theorem zip_stop0 {E : Value → Shared → Prop} {z TI TO i j : Addr} {a b : Value} {Q : Fin → Shared → Prop} (hh : A.handled = none) (F : Five z TI TO i j)
    (hz : IsZip s.heap z TI TO .none) (hTI : IsPair s.heap TI (.ref i) (.ref j)) (hTO : IsPair s.heap TO a b)
    (n : NextEnds prog w s [z] i ∨ (∃ (x : Value) (T : Heap → Prop), NextIs prog w s [z] i x T) ∧ NextEnds prog w s [z, i, TO] j)
    (fin : ∀ (g : Heap) (e : Addr), (∃ o, g.get? e = some o ∧ o.cls = .type "StopIteration") → (∀ c o, c ∉ [z, TO, i, j] → s.heap.get? c = some o → g.get? c = some o) → E (.ref e) { s with heap := g }) :
    wpAny (model prog w) A (Builtin.«zip.__next__» ⟨[Value.ref z], []⟩) Q E s := by
  show wpAny _ _ (field (Value.ref z) 2 >>= _) _ _ _
  apply wpAny_bind
  refine wpAny_field hz rfl (x := .bool false) rfl ?_
  show wpAny _ _ (field (Value.ref z) 3 >>= _) _ _ _
  apply wpAny_bind
  refine wpAny_field hz rfl (x := .ref TI) rfl ?_
  apply wpAny_bind
  refine wpAny_seqItems hTI rfl ?_
  show wpAny _ _ (Builtin.SmallTypes.ownedTupleIsFree (Value.ref z) >>= _) _ _ _
  apply wpAny_bind; unfold Builtin.SmallTypes.ownedTupleIsFree; apply wpAny_bind
  refine wpAny_field hz rfl (x := .none) rfl (wpAny_pure ?_)
  simp only [if_true]
  apply wpAny_bind
  refine wpAny_rule ?_
  apply wpAny_bind
  refine wpAny_field hz rfl (x := .ref TO) rfl ?_
  apply wpAny_bind
  refine wpAny_setField_rec hz (by simp) fun g1 z1 s1 => ?_
  replace z1 : IsZip g1 z TI TO .ellipsis := z1
  apply wpAny_bind
  simp only [List.forIn_cons, List.forIn_nil, List.zipIdx_cons, List.zipIdx_nil]
  iterate 2 apply wpAny_bind
  apply wpAny_onRaise
  show wpAny _ _ (Builtin.SmallTypes.nextOf (.ref i) >>= _) _ _ _
  rcases n with n | ⟨⟨x, T, n⟩, n'⟩
  · apply wpAny_bind
    refine n _ _ _ _ hh (fun c o m e => s1.extBut _ _ (by simpa using m) e) fun g2 e s2 he => ?_
    obtain ⟨oe, hoe, hce⟩ := he
    have z2 : IsZip g2 z TI TO .ellipsis := s2 _ _ F.c.symm z1
    have nez : e ≠ z := fun q => by subst q; rw [z2] at hoe; cases hoe; simp at hce
    refine wpAny_setField_rec z2 (by simp) fun g3 _ s3 => ?_
    refine fin g3 e ⟨oe, s3.extBut _ _ nez hoe, hce⟩ fun c o m q => ?_
    have m' : c ≠ z ∧ c ≠ TO ∧ c ≠ i ∧ c ≠ j := by simpa using m
    exact s3.extBut _ _ m'.1 (s2 _ _ m'.2.2.1 (s1.extBut _ _ m'.1 q))
  · apply wpAny_bind
    refine n _ _ _ _ (fun c o m e => s1.extBut _ _ (by simpa using m) e) fun g2 t2 s2 => wpAny_pure ?_
    have o2 : IsPair g2 TO a b := s2.extBut _ _ F.e (s1.extBut _ _ F.b hTO)
    apply wpAny_bind
    refine wpAny_seqItems o2 rfl ?_
    apply wpAny_bind
    refine wpAny_updateSeq_pair o2 fun g3 o3 s3 => ?_
    apply wpAny_bind
    refine wpAny_letGo (wpAny_pure ?_)
    iterate 2 apply wpAny_bind
    apply wpAny_onRaise
    show wpAny _ _ (Builtin.SmallTypes.nextOf (.ref j) >>= _) _ _ _
    apply wpAny_bind
    refine n' _ _ _ _ hh (fun c o m e => ?_) fun g4 e s4 he => ?_
    · have m' : c ≠ z ∧ c ≠ i ∧ c ≠ TO := by simpa using m
      exact s3.extBut _ _ m'.2.2 (s2.extBut _ _ m'.2.1 (s1.extBut _ _ m'.1 e))
    obtain ⟨oe, hoe, hce⟩ := he
    have z4 : IsZip g4 z TI TO .ellipsis := s4 _ _ F.d.symm (s3.extBut _ _ F.b.symm (s2.extBut _ _ F.c.symm z1))
    have nez : e ≠ z := fun q => by subst q; rw [z4] at hoe; cases hoe; simp at hce
    refine wpAny_setField_rec z4 (by simp) fun g5 _ s5 => ?_
    refine fin g5 e ⟨oe, s5.extBut _ _ nez hoe, hce⟩ fun c o m q => ?_
    have m' : c ≠ z ∧ c ≠ TO ∧ c ≠ i ∧ c ≠ j := by simpa using m
    exact s5.extBut _ _ m'.1 (s4 _ _ m'.2.2.2 (s3.extBut _ _ m'.2.1 (s2.extBut _ _ m'.2.2.1 (s1.extBut _ _ m'.1 q))))
theorem zip_stop {E : Value → Shared → Prop} {z TI TO i j : Addr} {a b : Value} {Q : Option Value → Shared → Prop} (hh : A.handled = none) (F : Five z TI TO i j)
    (hz : IsZip s.heap z TI TO .none) (hTI : IsPair s.heap TI (.ref i) (.ref j)) (hTO : IsPair s.heap TO a b)
    (n : NextEnds prog w s [z] i ∨ (∃ (x : Value) (T : Heap → Prop), NextIs prog w s [z] i x T) ∧ NextEnds prog w s [z, i, TO] j)
    (hQ : ∀ g, (∀ c o, c ∉ [z, TO, i, j] → s.heap.get? c = some o → g.get? c = some o) → Q none { s with heap := g }) :
    wpAny (model prog w) A (pyNext (Value.ref z)) Q E s := by
  have isZ : s.TypeIs (.ref z) "zip" := ⟨_, hz, rfl⟩
  unfold pyNext
  refine wpAny_bind (wpAny_attempt (wpAny_callSpecial?_slot (name := Str.ofString "__next__") isZ PySem.F.slot_zip_next (wpAny_call_entry PySem.F.slot_zip_next isZ PySem.F.entry_zip_next ?_ (PySem.F.args_zip_next_1 _))))
  refine zip_stop0 (A := A.in1) hh F hz hTI hTO n fun g e he hk => ?_
  obtain ⟨o, ho, hc⟩ := he
  apply wpAny_bind
  exact wpAny_isInstance (T := "StopIteration") (b := true) ⟨o, ho, hc⟩ isSubtype_stop (wpAny_pure (hQ _ hk))

/-! a tuple's and a list's -/
theorem next_tup {i l : Addr} {k : Nat} {xs : Array Value} {x : Value} {off : List Addr} (hi : s.heap.IsTupleIter i l k) (hl : s.heap.IsTuple l xs) (hx : xs[k]? = some x) (ni : i ∉ off) (nl : l ∉ off) :
    NextIs prog w s off i x (fun g => g.IsTupleIter i l (k + 1)) := fun B u Q E hk h =>
  RZ.nextOf_tuple_item (hi.at fun o e => hk _ o ni e) (hl.at fun o e => hk _ o nl e) hx h
theorem next_lst {i l : Addr} {k : Nat} {xs : Array Value} {x : Value} {off : List Addr} (hi : s.heap.IsListIter i l k) (hl : s.heap.IsList l xs) (hx : xs[k]? = some x) (ni : i ∉ off) (nl : l ∉ off) :
    NextIs prog w s off i x (fun g => g.IsListIter i l (k + 1)) := fun B u Q E hk h =>
  wpAny_nextOf_list_item (hi.at fun o e => hk _ o ni e) (hl.at fun o e => hk _ o nl e) hx h
theorem ends_tup {i l : Addr} {k : Nat} {xs : Array Value} {off : List Addr} (hi : s.heap.IsTupleIter i l k) (hl : s.heap.IsTuple l xs) (hx : xs[k]? = none) (ni : i ∉ off) (nl : l ∉ off) :
    NextEnds prog w s off i := fun B u Q E hh hk h =>
  RZ.nextOf_tuple_end hh (hi.at fun o e => hk _ o ni e) (hl.at fun o e => hk _ o nl e) hx h
theorem ends_lst {i l : Addr} {k : Nat} {xs : Array Value} {off : List Addr} (hi : s.heap.IsListIter i l k) (hl : s.heap.IsList l xs) (hx : xs[k]? = none) (ni : i ∉ off) (nl : l ∉ off) :
    NextEnds prog w s off i := fun B u Q E hh hk h =>
  wpAny_nextOf_list_end hh (hi.at fun o e => hk _ o ni e) (hl.at fun o e => hk _ o nl e) hx h
end

/-! zip(t, xs), t a tuple, xs a list -/
abbrev zTL1 (h : Heap) (a : Addr) : Heap := h.push { cls := .type "tuple_iterator", data := .fields #[.ref a, .int 0 0] }
abbrev zTL2 (h : Heap) (a b : Addr) : Heap := (zTL1 h a).push { cls := .type "list_iterator", data := .fields #[.ref b, .int 0 0] }
abbrev zTL3 (h : Heap) (a b : Addr) : Heap := (zTL2 h a b).push { cls := .type "tuple", data := .seq #[.ref h.objs.size, .ref (zTL1 h a).objs.size] }
abbrev zTL4 (h : Heap) (a b : Addr) : Heap := (zTL3 h a b).push { cls := .type "tuple", data := .seq #[.none, .none] }
abbrev zTL5 (h : Heap) (a b : Addr) : Heap := (zTL4 h a b).push { cls := .type "zip", data := .fields #[.none, .bool false, .bool false, .ref (zTL2 h a b).objs.size, .ref (zTL3 h a b).objs.size] }
theorem zTL_new (a b : Addr) (xs ys : Array Value) :
    Meets (Builtin.«zip.__new__» ⟨[.type "zip", .ref a, .ref b], []⟩) (fun _ R s => s.heap.IsTuple a xs ∧ s.heap.IsList b ys ∧ R (.ok (.ret (.ref (zTL4 s.heap a b).objs.size))) { s with heap := zTL5 s.heap a b }) :=
  .of_wp fun prog w A R st h => by
    obtain ⟨hp, g, d, tk, os⟩ := st
    obtain ⟨ha, hb, h⟩ := h
    have sub := sub_zip
    have iA : Heap.IsTuple (Shared.heap ⟨hp, g, d, tk, os⟩) a xs := ha
    have iB : Heap.IsList (Shared.heap ⟨hp.push { cls := .type "tuple_iterator", data := .fields #[.ref a, .int 0 0] }, g, d, tk, os⟩) b ys := Heap.IsList.push hb _
    wp_walk using wpAny_pyIter_tuple iA, wpAny_pyIter_list iB
    exact ⟨_, rfl, h⟩
section
variable {prog : Program} {w : World} {A : Around} {E : Value → Shared → Prop} {s : Shared}
theorem call_zTL {a b : Addr} {xs ys : Array Value} {Q : Value → Shared → Prop} (ha : s.heap.IsTuple a xs) (hb : s.heap.IsList b ys)
    (h : ∀ (n : Nat) (g : Heap), n = s.heap.objs.size → IsZip g (n + 4) (n + 2) (n + 3) .none → IsPair g (n + 2) (.ref n) (.ref (n + 1)) → IsPair g (n + 3) .none .none → g.IsTupleIter n a 0 → g.IsListIter (n + 1) b 0 →
      (∀ c o, s.heap.get? c = some o → g.get? c = some o) → Q (.ref (n + 4)) { s with heap := g }) :
    wpAny (model prog w) A (call (.type "zip") [.ref a, .ref b]) Q E s := by
  refine callType_new PySem.F.called_zip (by decide) (PySem.F.typeCall_zip_2 _ _) (PySem.F.newCall_zip_2 _ _) (fun o => PySem.F.args_object_init_3 o _ _) PySem.F.entry_zip_new (zTL_new a b xs ys) ⟨ha, hb, ?_⟩
  have e1 : (zTL1 s.heap a).objs.size = s.heap.objs.size + 1 := Heap.size_push ..
  have e2 : (zTL2 s.heap a b).objs.size = s.heap.objs.size + 2 := by rw [Heap.size_push, e1]
  have e3 : (zTL3 s.heap a b).objs.size = s.heap.objs.size + 3 := by rw [Heap.size_push, e2]
  have e4 : (zTL4 s.heap a b).objs.size = s.heap.objs.size + 4 := by rw [Heap.size_push, e3]
  have g5 : (zTL5 s.heap a b).get? (zTL4 s.heap a b).objs.size = some _ := Heap.get?_push_size _ rfl
  have g4 : (zTL5 s.heap a b).get? (zTL3 s.heap a b).objs.size = some _ := Heap.get?_push_of_some _ (Heap.get?_push_size _ rfl)
  have g3 : (zTL5 s.heap a b).get? (zTL2 s.heap a b).objs.size = some _ := Heap.get?_push_of_some _ (Heap.get?_push_of_some _ (Heap.get?_push_size _ rfl))
  have g2 : (zTL5 s.heap a b).get? (zTL1 s.heap a).objs.size = some _ := Heap.get?_push_of_some _ (Heap.get?_push_of_some _ (Heap.get?_push_of_some _ (Heap.get?_push_size _ rfl)))
  have g1 : (zTL5 s.heap a b).get? s.heap.objs.size = some _ := Heap.get?_push_of_some _ (Heap.get?_push_of_some _ (Heap.get?_push_of_some _ (Heap.get?_push_of_some _ (Heap.get?_push_size _ rfl))))
  show _ ∧ _
  rw [e2, e3, e4] at g5
  rw [e1, e2] at g3
  rw [e3] at g4
  rw [e1] at g2
  rw [e4]
  refine ⟨⟨_, g5, rfl⟩, h _ _ rfl g5 g3 g4 ⟨_, g1, rfl, rfl⟩ ⟨_, g2, rfl, rfl⟩ fun c o x => ?_⟩
  iterate 5 apply Heap.get?_push_of_some
  exact x
end

/-- what a turn over zip(t, xs) is -/
def ItTL (K : PySem.W.Frag) (a b : Addr) : It :=
  ⟨fun i H => ∃ (xs ys : List V) (x y : V), SqT K H a xs ∧ SqL K H b ys ∧ xs[i]? = some x ∧ ys[i]? = some y,
    fun i H v H' => ∃ T x y, v = .ref T ∧ H T = none ∧ H' = upd H T (.tup [x, y]) ∧ (∀ xs, SqT K H a xs → xs[i]? = some x) ∧ ∀ ys, SqL K H b ys → ys[i]? = some y,
    fun i H => ∃ xs ys : List V, SqT K H a xs ∧ SqL K H b ys ∧ (xs.length ≤ i ∨ ys.length ≤ i)⟩
theorem turn_TL {P : Program} {w : World} {K : PySem.W.Frag} {elts : List Expr} {kk : Nat} {tpos : Pos} {a b z TI TO i1 i2 : Addr} (V5 : Five z TI TO i1 i2) (nI : TI ≠ TO ∧ TI ≠ i1 ∧ TI ≠ i2) (na : a ∉ [z, TO, i1, i2]) (nb : b ∉ [z, TO, i1, i2]) :
    Turn P w K (.Tuple elts kk tpos) (ItTL K a b) [z, TI, TO, i1, i2] z (fun i h => IsZip h z TI TO .none ∧ IsPair h TI (.ref i1) (.ref i2) ∧ (∃ x y, IsPair h TO x y) ∧ h.IsTupleIter i1 a i ∧ h.IsListIter i2 b i) where
  mem := by simp
  obj := fun i h st c hc => by
    obtain ⟨isz, pI, ⟨x, y, pO⟩, ⟨o1, e1, _, d1⟩, ⟨o2, e2, _, d2⟩⟩ := st
    have five : c = z ∨ c = TI ∨ c = TO ∨ c = i1 ∨ c = i2 := by simpa using hc
    rcases five with rfl | rfl | rfl | rfl | rfl
    · exact ⟨_, isz, fun v q => nomatch q⟩
    · exact ⟨_, pI, fun v q => nomatch q⟩
    · exact ⟨_, pO, fun v q => nomatch q⟩
    · exact ⟨o1, e1, fun v q => by rw [d1] at q; cases q⟩
    · exact ⟨o2, e2, fun v q => by rw [d2] at q; cases q⟩
  keep := fun i h h' st k => by
    obtain ⟨isz, pI, ⟨x, y, pO⟩, h1, h2⟩ := st
    exact ⟨k _ (by simp) _ isz, k _ (by simp) _ pI, ⟨x, y, k _ (by simp) _ pO⟩, h1.at fun o q => k _ (by simp) o q, h2.at fun o q => k _ (by simp) o q⟩
  item := by
    intro X eP eW eK hc i pins s σ H E I hf st hg
    subst eP eW eK
    obtain ⟨isz, pI, ⟨x0, y0, pO⟩, h1, h2⟩ := st
    obtain ⟨xs, ys, x, y, qx, qy, hx, hy⟩ := hg
    obtain ⟨its, rv, p1, _⟩ := I.tuple qx
    obtain ⟨jts, rw_, p2, _⟩ := I.list qy
    obtain ⟨u, at_u, ru⟩ := rv.get hx
    obtain ⟨v, hv, rv2⟩ := rw_.get hy
    have zl : z < s.heap.objs.size := Heap.lt_size isz
    have l1 : i1 < s.heap.objs.size := by obtain ⟨_, e, _⟩ := h1; exact Heap.lt_size e
    have l2 : i2 < s.heap.objs.size := by obtain ⟨_, e, _⟩ := h2; exact Heap.lt_size e
    have na' : a ≠ z ∧ a ≠ TO ∧ a ≠ i1 ∧ a ≠ i2 := by simpa using na
    have nb' : b ≠ z ∧ b ≠ TO ∧ b ≠ i1 ∧ b ≠ i2 := by simpa using nb
    refine zip_step (T1 := fun g => g.IsTupleIter i1 a (i + 1)) (T2 := fun g => g.IsListIter i2 b (i + 1)) V5 isz pI pO ⟨l1, l2⟩ (next_tup h1 p1 (x := u) (by simpa using at_u) (by simpa using V5.c) (by simpa using na'.1))
      (next_lst h2 p2.isList (x := v) (by simpa using hv) (by simpa using ⟨V5.d, V5.g.symm, V5.f.symm⟩) (by simpa using ⟨nb'.1, nb'.2.2.1, nb'.2.1⟩)) (fun g g' t k => t.at k) (fun g g' t k => t.at k) fun g z' TO' t1 t2 hT hsz hk => ?_
    refine ⟨_, rfl, wpAny_letOwnedTupleGo_zip (s := { s with heap := g }) z' fun g2 z2 sb => ?_⟩
    have hT2 : g2.get? s.heap.objs.size = some { cls := .type "tuple", data := .seq #[u, v] } := (sb.2 _ (Nat.ne_of_gt zl)).trans hT
    have new : ObjOk X.prog X.w (upd H s.heap.objs.size (.tup [x, y])) g2 s.heap.objs.size (.tup [x, y]) := ⟨by show 2 ≤ sizeLine; decide, [u, v], .cons ru (.cons rv2 .nil), ⟨_, hT2, rfl, _, rfl⟩⟩
    have I1 : Inv X pins σ (upd H s.heap.objs.size (.tup [x, y])) { s with heap := g2 } := by
      refine I.turnedNew (t' := s.toks) (ch := [z, TI, TO, i1, i2]) (fun c o hb q => ?_) hf (Nat.le_refl _) new
      have n5 : c ≠ z ∧ c ≠ TI ∧ c ≠ TO ∧ c ≠ i1 ∧ c ≠ i2 := by simpa using hb
      exact (sb.2 c n5.1).trans (hk c o (by simpa using ⟨n5.1, n5.2.2.1, n5.2.2.2.1, n5.2.2.2.2⟩) q)
    have up : ∀ c o, c ≠ z → g.get? c = some o → g2.get? c = some o := fun c o n q => (sb.2 c n).trans q
    refine ⟨.ref s.heap.objs.size, _, I1, rfl, ⟨_, x, y, rfl, I.hok.fresh (Nat.le_refl _), rfl, fun l hl => by rw [I.tuple_inj hl qx]; exact hx, fun l hl => by rw [I.list_inj hl qy]; exact hy⟩, ⟨z2, ?_, ⟨u, v, up _ _ V5.b TO'⟩, t1.at fun o q => up _ o V5.c q, t2.at fun o q => up _ o V5.d q⟩, fun c hcm => ?_⟩
    · exact up _ _ V5.a (hk _ _ (by simpa using ⟨V5.a, nI.1, nI.2.1, nI.2.2⟩) pI)
    · have five : c = z ∨ c = TI ∨ c = TO ∨ c = i1 ∨ c = i2 := by simpa using hcm
      have lt : c < s.heap.objs.size := by
        rcases five with rfl | rfl | rfl | rfl | rfl
        · exact zl
        · exact Heap.lt_size pI
        · exact Heap.lt_size pO
        · exact l1
        · exact l2
      rw [upd_ne (Nat.ne_of_lt lt)]
      exact (hf c hcm).1
  done := by
    intro X eP eW eK hc i pins s σ H E I hf st hg
    subst eP eW eK
    obtain ⟨isz, pI, ⟨x0, y0, pO⟩, h1, h2⟩ := st
    obtain ⟨xs, ys, qx, qy, hend⟩ := hg
    obtain ⟨its, rv, p1, _⟩ := I.tuple qx
    obtain ⟨jts, rw_, p2, _⟩ := I.list qy
    have m1 := rv.length
    have m2 := rw_.length
    have na' : a ≠ z ∧ a ≠ TO ∧ a ≠ i1 ∧ a ≠ i2 := by simpa using na
    have nb' : b ≠ z ∧ b ≠ TO ∧ b ≠ i1 ∧ b ≠ i2 := by simpa using nb
    have n : NextEnds X.prog X.w s [z] i1 ∨ (∃ (x : Value) (T : Heap → Prop), NextIs X.prog X.w s [z] i1 x T) ∧ NextEnds X.prog X.w s [z, i1, TO] i2 := by
      by_cases c : xs.length ≤ i
      · exact .inl (ends_tup h1 p1 (by simp; omega) (by simpa using V5.c) (by simpa using na'.1))
      · have c2 : ys.length ≤ i := by omega
        exact .inr ⟨⟨its[i]'(by omega), _, next_tup h1 p1 (by simp) (by simpa using V5.c) (by simpa using na'.1)⟩, ends_lst h2 p2.isList (by simp; omega) (by simpa using ⟨V5.d, V5.g.symm, V5.f.symm⟩) (by simpa using ⟨nb'.1, nb'.2.2.1, nb'.2.1⟩)⟩
    refine zip_stop (I.ok.hd hc) V5 isz pI pO n fun g hk => ⟨rfl, I.turnedL (t' := s.toks) (ch := [z, TI, TO, i1, i2]) (fun c o hb q => ?_) hf⟩
    have n5 : c ≠ z ∧ c ≠ TI ∧ c ≠ TO ∧ c ≠ i1 ∧ c ≠ i2 := by simpa using hb
    exact hk c o (by simpa using ⟨n5.1, n5.2.2.1, n5.2.2.2.1, n5.2.2.2.2⟩) q
  self := fun _ _ _ _ _ st h => wpAny_pyIter_zip st.1 h

theorem five_at (n : Nat) : Five (n + 4) (n + 2) (n + 3) n (n + 1) := by
  constructor
  · show (n + 2 : Nat) ≠ n + 4; omega
  · show (n + 3 : Nat) ≠ n + 4; omega
  · show (n : Nat) ≠ n + 4; omega
  · show (n + 1 : Nat) ≠ n + 4; omega
  · show (n + 3 : Nat) ≠ n; omega
  · show (n + 3 : Nat) ≠ n + 1; omega
  · show (n : Nat) ≠ n + 1; omega
theorem six_at (n : Nat) : (n + 2 : Nat) ≠ n + 3 ∧ (n + 2 : Nat) ≠ n ∧ (n + 2 : Nat) ≠ n + 1 := by omega
theorem five_out {n a : Nat} (h : a < n) : a ∉ [n + 4, n + 3, n, n + 1] := by
  simp
  omega
def iTL (K : PySem.W.Frag) (ta : TA) : TI := fun σ H R => ta σ H fun vs H1 => ∃ a b xs ys, vs = [.ref a, .ref b] ∧ SqT K H1 a xs ∧ SqL K H1 b ys ∧ R (ItTL K a b) H1
theorem pi_zipTL {X : Cx} {e e2 : Expr} {ta : TA} {p pos tpos : Pos} {elts : List Expr} {kk : Nat} (hg : Gl X "zip") (hm : X.mg "zip" = none) (ha : PA X [e, e2] ta)
    (hs : starEach [e, e2] X.env = (false, eval e X.env) :: starEach [e2] X.env := by rfl) (hpl : (backTo pos (starEach [e2] X.env)).any (·.1) = false := by rfl) : PI X (.Tuple elts kk tpos) (.Call (.Name "zip" p) [e, e2] [] pos) (iTL X.K ta) := by
  refine ⟨fun pins s0 σ H R I h => ?_⟩
  refine Call_ (ld_blt I hg hm PyProof.Rows.boot_zip (PyProof.Rows.callWith_type1 (thn (ha.run pos pins s0 σ H _ I h) fun us u ⟨vs, H1, I1, r1, q1⟩ => ?_) hs hpl))
  obtain ⟨a, b, xs, ys, rfl, qx, qy, q⟩ := q1
  cases r1 with
  | cons r rr =>
    cases rr with
    | cons r' rr =>
      cases rr
      cases r
      cases r'
      obtain ⟨its, rv, p1, _⟩ := I1.tuple qx
      obtain ⟨jts, rw_, p2, _⟩ := I1.list qy
      have la : a < u.heap.objs.size := by obtain ⟨o, ho, _⟩ := id p1; exact Heap.lt_size ho
      have lb : b < u.heap.objs.size := p2.lt
      refine call_zTL (xs := its.toArray) p1 p2.isList fun n g hn hz hTI hTO h1 h2 hk => wpAny_pyIter_zip hz ?_
      have I2 : Inv X pins σ H1 { u with heap := g } := I1.kept (t' := u.toks) hk
      have fr : ∀ c, c ∈ [n + 4, n + 2, n + 3, n, n + 1] → FpOk X pins H1 c := fun c hcm => by
        have five : c = n + 4 ∨ c = n + 2 ∨ c = n + 3 ∨ c = n ∨ c = n + 1 := by simpa using hcm
        have le : u.heap.objs.size ≤ c := by rw [← hn]; omega
        exact I1.fpOk le (I1.hok.fresh le)
      refine ⟨n + 4, [n + 4, n + 2, n + 3, n, n + 1], _, _, H1, rfl, I2, turn_TL (z := n + 4) (TI := n + 2) (TO := n + 3) (i1 := n) (i2 := n + 1) (five_at n) (six_at n) (five_out (by rw [hn]; exact la)) (five_out (by rw [hn]; exact lb)), ⟨hz, hTI, ⟨_, _, hTO⟩, h1, h2⟩, fr, q⟩
/-- a loop over it, both of one length -/
theorem for_TL {K : PySem.W.Frag} {a b : Addr} {xs ys : List V} {g : TG} {tb : TS} {D : Ends} {σ : L2.St} {H : Hp} (hl : xs.length = ys.length) (Inv0 : Nat → L2.St → Hp → Prop) (h0 : Inv0 0 σ H) (hq : ∀ i σ H, Inv0 i σ H → SqT K H a xs ∧ SqL K H b ys)
    (hs : ∀ (i : Nat) (x y : V) (T : Addr) (σ : L2.St) (H : Hp), xs[i]? = some x → ys[i]? = some y → Inv0 i σ H → H T = none → g (.ref T) σ (upd H T (.tup [x, y])) fun σ2 H2 => tb { D with nx := Inv0 (i + 1), ct := Inv0 (i + 1), bk := D.nx } σ2 H2) (hd : ∀ σ H, Inv0 xs.length σ H → D.nx σ H) :
    ∃ Z : Nat → Nat → L2.St → Hp → Prop, (∃ m, Z 0 m σ H) ∧ ∀ i m σ H, Z i m σ H →
      ((ItTL K a b).stop i H ∧ D.nx σ H) ∨ ((ItTL K a b).go i H ∧ ∃ N : L2.St → Hp → Prop, (∀ σ' H', N σ' H' → ∃ m', m' < m ∧ Z (i + 1) m' σ' H') ∧ ∀ v H', (ItTL K a b).yld i H v H' → g v σ H' fun σ2 H2 => tb { D with nx := N, ct := N, bk := D.nx } σ2 H2) := by
  refine ⟨fun i m σ H => m = xs.length - i ∧ i ≤ xs.length ∧ Inv0 i σ H, ⟨xs.length, rfl, Nat.zero_le _, h0⟩, ?_⟩
  rintro i m σ H ⟨rfl, hi, p⟩
  obtain ⟨qx, qy⟩ := hq i σ H p
  by_cases lt : i < xs.length
  · have lt2 : i < ys.length := by omega
    refine .inr ⟨⟨xs, ys, _, _, qx, qy, List.getElem?_eq_getElem lt, List.getElem?_eq_getElem lt2⟩, Inv0 (i + 1), fun σ' H' p' => ⟨xs.length - (i + 1), by omega, rfl, lt, p'⟩, fun v H' y => ?_⟩
    obtain ⟨T, u1, u2, rfl, nT, rfl, f1, f2⟩ := y
    exact hs i u1 u2 T σ H (f1 xs qx) (f2 ys qy) p nT
  · obtain rfl : i = xs.length := by omega
    exact .inl ⟨⟨xs, ys, qx, qy, .inl (Nat.le_refl _)⟩, hd σ H p⟩
/-! ### slices and sums of tuples, whichever way they come -/
theorem slA {K : PySem.W.Frag} {H : Hp} {a : Addr} {xs : List V} {lo hi : Option Int} {Q : VK} (h : SqT K H a xs) (q : ∀ H' r, Same H H' → SqT K H' r (cutV xs lo hi) → Q (.ref r) H') : rSlA K (.ref a) lo hi H Q := by
  refine ⟨a, xs, rfl, h, fun hw => q H a (Same.refl H) ?_, fun _ p np => q _ p (same_upd np) (.inl (.inl upd_same))⟩
  unfold cutV
  rw [hw.1, hw.2, List.drop_zero, Nat.sub_zero, List.take_length]
  exact h
theorem catA {K : PySem.W.Frag} {H : Hp} {a b : Addr} {xs ys : List V} {Q : VK} (ha : SqT K H a xs) (hb : SqT K H b ys) (hl : xs.length + ys.length ≤ sizeLine) (q : ∀ H' r, Same H H' → SqT K H' r (xs ++ ys) → Q (.ref r) H') : rCatA K (.ref a) (.ref b) H Q := by
  refine ⟨a, b, xs, ys, rfl, rfl, ha, hb, hl, fun e => q H b (Same.refl H) ?_, fun _ e => q H a (Same.refl H) ?_, fun _ _ p np => q _ p (same_upd np) (.inl (.inl upd_same))⟩
  · rw [e, List.nil_append]
    exact hb
  · rw [e, List.append_nil]
    exact ha
theorem cut_last (xs : List V) (v : V) : cutV (xs ++ [v]) (some (-1)) none = [v] := by
  have e : HT.sIx (xs ++ [v]).length 0 (some (-1)) = xs.length := by
    show (if (-1 : Int) < 0 then (-1 + ((xs ++ [v]).length : Int)).toNat else min (-1 : Int).toNat (xs ++ [v]).length) = xs.length
    rw [if_pos (by decide), List.length_append, List.length_singleton]
    omega
  unfold cutV
  rw [e, HT.sIx_none, List.drop_left, List.length_append, List.length_singleton, Nat.add_sub_cancel_left]
  rfl
theorem cut_init (xs : List V) (v : V) : cutV (xs ++ [v]) none (some (-1)) = xs := by
  have e : HT.sIx (xs ++ [v]).length (xs ++ [v]).length (some (-1)) = xs.length := by
    show (if (-1 : Int) < 0 then (-1 + ((xs ++ [v]).length : Int)).toNat else min (-1 : Int).toNat (xs ++ [v]).length) = xs.length
    rw [if_pos (by decide), List.length_append, List.length_singleton]
    omega
  unfold cutV
  rw [e, HT.sIx_none, List.drop_zero, Nat.sub_zero, List.take_left]
end TB

set_option Elab.async false
set_option linter.all false
set_option maxRecDepth 100000
namespace K08
open PySem PySem.Spec PyProof.Rows L2 TB

/-! ### numbers -/
/-- how many numbers from 0 on below l have the rest j by m (for l no less than 0) -/
def nb (l m j : Int) : Int := (l - j + m - 1) / m
def tab (m : Nat) (f : Int → Int) : List Int := (List.range m).map fun (j : Nat) => f (j : Int)
def part (p : Int) (m : Nat) (b : Int) : List Int := tab m fun j => nb (b + p) m j - nb b m j

theorem div_at {m n q r : Int} (h0 : 0 ≤ r) (h1 : r < m) (e : n = m * q + r) : n / m = q := by
  have hm : 0 < m := by omega
  rw [e, Int.add_comm, Int.add_mul_ediv_left r q (by omega), Int.ediv_eq_zero_of_lt h0 h1]
  omega
theorem nb_step {n m j : Int} (hm : 0 < m) (h0 : 0 ≤ j) (h1 : j < m) : nb (n + 1) m j = nb n m j + if n % m = j then 1 else 0 := by
  have e : n = m * (n / m) + n % m := (Int.mul_ediv_add_emod n m).symm
  have r0 := Int.emod_nonneg n (show m ≠ 0 by omega)
  have r1 := Int.emod_lt_of_pos n hm
  generalize n / m = q at e
  generalize hr : n % m = r at e r0 r1
  unfold nb
  by_cases c : r = j
  · rw [if_pos c]
    rw [div_at (m := m) (q := q + 1) (r := 0) (by omega) (by omega) (by rw [Int.mul_add]; omega),
      div_at (m := m) (q := q) (r := m - 1) (by omega) (by omega) (by omega)]
  · rw [if_neg c]
    by_cases d : j < r
    · rw [div_at (m := m) (q := q + 1) (r := r - j) (by omega) (by omega) (by rw [Int.mul_add]; omega),
        div_at (m := m) (q := q + 1) (r := r - j - 1) (by omega) (by omega) (by rw [Int.mul_add]; omega)]
      omega
    · rw [div_at (m := m) (q := q) (r := r - j + m) (by omega) (by omega) (by omega),
        div_at (m := m) (q := q) (r := r - j + m - 1) (by omega) (by omega) (by omega)]
      omega
theorem nb_far {b p m j : Int} (hm : 0 < m) : nb (b + p) m j = p / m + nb (b + p % m) m j := by
  unfold nb
  have e : p = m * (p / m) + p % m := (Int.mul_ediv_add_emod p m).symm
  have : b + p - j + m - 1 = (b + p % m - j + m - 1) + m * (p / m) := by omega
  rw [this, Int.add_mul_ediv_left _ _ (by omega)]
  omega
theorem tab_len (m : Nat) (f : Int → Int) : (tab m f).length = m := by unfold tab; simp
theorem tab_get {m : Nat} {f : Int → Int} {j : Nat} (h : j < m) : (tab m f)[j]? = some (f j) := by unfold tab; simp [h]
theorem tab_congr {m : Nat} {f g : Int → Int} (h : ∀ j : Int, 0 ≤ j → j < m → f j = g j) : tab m f = tab m g := by
  unfold tab
  refine List.map_congr_left fun j hj => h j (by omega) ?_
  have := List.mem_range.mp hj
  omega
theorem tab_bump {m : Nat} {f : Int → Int} {k : Nat} (h : k < m) : (tab m f).set k (f k + 1) = tab m fun j => f j + if (k : Int) = j then 1 else 0 := by
  apply List.ext_getElem?
  intro i
  by_cases hi : i < m
  · rw [tab_get hi]
    by_cases e : i = k
    · subst e
      rw [List.getElem?_set_self (by rw [tab_len]; exact hi), if_pos rfl]
    · rw [List.getElem?_set_ne (Ne.symm e), tab_get hi, if_neg (by omega)]
      simp
  · rw [List.getElem?_eq_none (by rw [List.length_set, tab_len]; omega), List.getElem?_eq_none (by rw [tab_len]; omega)]
/-- one more penny, at the turn -/
theorem part_bump {m : Nat} (hm : 0 < m) (c : Int) (i b : Int) : ∃ k : Nat, ((b + i) % (m : Int)) = (k : Int) ∧ k < m ∧
    (tab m fun j => c + (nb (b + i) m j - nb b m j)).set k ((c + (nb (b + i) m k - nb b m k)) + 1) = tab m fun j => c + (nb (b + (i + 1)) m j - nb b m j) := by
  have r0 := Int.emod_nonneg (b + i) (show (m : Int) ≠ 0 by omega)
  have r1 := Int.emod_lt_of_pos (b + i) (show (0 : Int) < m by omega)
  refine ⟨((b + i) % (m : Int)).toNat, by omega, by omega, ?_⟩
  rw [tab_bump (f := fun j => c + (nb (b + i) m j - nb b m j)) (by omega)]
  refine tab_congr fun j h0 h1 => ?_
  rw [← Int.add_assoc b i 1, nb_step (n := b + i) (by omega) h0 h1, Int.toNat_of_nonneg r0]
  omega
theorem part_zero (m : Nat) (c b : Int) : (tab m fun j => c + (nb (b + 0) m j - nb b m j)) = tab m fun _ => c :=
  tab_congr fun j _ _ => by rw [Int.add_zero]; omega
theorem part_far {m : Nat} (hm : 0 < m) (p b : Int) : (tab m fun j => p / m + (nb (b + p % m) m j - nb b m j)) = part p m b :=
  tab_congr fun j _ _ => by rw [nb_far (p := p) (by omega)]; omega
theorem part_near (m : Nat) (p b : Int) : (tab m fun j => 0 + (nb (b + p) m j - nb b m j)) = part p m b :=
  tab_congr fun j _ _ => by omega
theorem nb_bound {l m j B : Int} (hm : 0 < m) (h0 : 0 ≤ j) (h1 : j < m) (l0 : 0 ≤ l) (l1 : l ≤ B) : 0 ≤ nb l m j ∧ nb l m j ≤ B + 1 := by
  unfold nb
  constructor
  · exact Int.ediv_nonneg (by omega) (by omega)
  · refine Int.le_trans (Int.ediv_le_ediv (b := B + m) hm (by omega)) ?_
    have e : (B + m) / m = B / m + 1 := by
      rw [show B + m = B + m * 1 by omega, Int.add_mul_ediv_left _ _ (by omega)]
    rw [e]
    have := Int.ediv_le_self (a := B) m (by omega)
    omega
theorem part_bound {p b : Int} {m : Nat} (hm : 0 < m) (p0 : 0 ≤ p) (b0 : 0 ≤ b) (hp : p ≤ 2 ^ 50) (hb : b ≤ 2 ^ 50) : ∀ v ∈ part p m b, v.natAbs < 2 ^ 60 := by
  intro v hv
  unfold part tab at hv
  obtain ⟨j, hj, rfl⟩ := List.mem_map.mp hv
  have := List.mem_range.mp hj
  have a := nb_bound (l := b + p) (m := m) (j := j) (B := 2 ^ 51) (by omega) (by omega) (by omega) (by omega) (by omega)
  have c := nb_bound (l := b) (m := m) (j := j) (B := 2 ^ 51) (by omega) (by omega) (by omega) (by omega) (by omega)
  show (nb (b + p) m j - nb b m j).natAbs < 2 ^ 60
  omega
theorem part_len (p : Int) (m : Nat) (b : Int) : (part p m b).length = m := tab_len _ _

/-- each piece dealt, begun where those ahead end -/
def deals (m : Nat) : List Int → Int → List (List Int)
  | [], _ => []
  | p :: ps, b => part p m b :: deals m ps (b + p)
theorem deals_snoc (m : Nat) (x : Int) : ∀ (ps : List Int) (b : Int), deals m (ps ++ [x]) b = deals m ps b ++ [part x m (b + ps.sum)]
  | [], b => by simp [deals]
  | p :: ps, b => by
    have := deals_snoc m x ps (b + p)
    simp only [List.cons_append, deals, this, List.sum_cons]
    rw [Int.add_assoc]
theorem deals_len (m : Nat) : ∀ (ps : List Int) (b : Int), (deals m ps b).length = ps.length
  | [], _ => rfl
  | _ :: ps, b => congrArg Nat.succ (deals_len m ps _)
def dRow (r : List Int) : PyData := .tuple (dInts r)
theorem noL_rows (rows : List (List Int)) : noLs (rows.map dRow) = true := noLs_of fun d hd => by
  obtain ⟨r, _, rfl⟩ := List.mem_map.mp hd
  show noLs (dInts r) = true
  refine noLs_of fun x hx => ?_
  obtain ⟨i, _, rfl⟩ := List.mem_map.mp hx
  rfl
/-- the list at o has these rows, each a tuple of ints -/
def RowsAt (K : PySem.W.Frag) (H : Hp) (o : Addr) (rows : List (List Int)) : Prop := ∃ vs, H o = some (.lst vs) ∧ DpAll K H vs (rows.map dRow)
theorem RowsAt.same {K : PySem.W.Frag} {H H' : Hp} {o : Addr} {rows : List (List Int)} (e : Same H H') (h : RowsAt K H o rows) : RowsAt K H' o rows := by
  obtain ⟨vs, a, b⟩ := h
  exact ⟨vs, e _ _ a, DpAll.same e _ _ b⟩
/-- a row more -/
theorem rows_more {K : PySem.W.Frag} {H H' : Hp} {o t : Addr} {us : List V} {rows : List (List Int)} {r : List Int} (eo : H o = some (.lst us)) (dv : DpAll K H us (rows.map dRow)) (sm : Same H H') (nt : H t = none) (et : H' t = some (.tup (r.map V.int))) :
    RowsAt K (upd H' o (.lst (us ++ [.ref t]))) o (rows ++ [r]) := by
  have eo' := sm _ _ eo
  refine ⟨_, upd_same, ?_⟩
  rw [List.map_append]
  have d1 := DpAll.but (K := K) (But.upd (f := o) (H := H') (o := .lst (us ++ [.ref t]))) eo' _ _ (noL_rows rows) (DpAll.same sm _ _ dv)
  refine DpAll.snoc (d := dRow r) ?_ d1
  have hto : t ≠ o := fun e => by
    rw [e, eo] at nt
    cases nt
  exact .tup (.inl (.inl (by rw [upd_ne hto]; exact et))) (dp_ints r)

/-! ### what k08 asks of the numbers -/
theorem tab_succ (m : Nat) (f : Int → Int) : tab (m + 1) f = tab m f ++ [f m] := by
  unfold tab
  rw [List.range_succ, List.map_append]
  rfl
theorem sum_const (c : Int) : ∀ m : Nat, (tab m fun _ => c).sum = m * c
  | 0 => by simp [tab]
  | m + 1 => by
    rw [tab_succ, List.sum_append, sum_const c m]
    simp [Int.add_mul]
theorem sum_sub (f g : Int → Int) : ∀ m : Nat, (tab m fun j => f j - g j).sum = (tab m f).sum - (tab m g).sum
  | 0 => by simp [tab]
  | m + 1 => by
    rw [tab_succ, tab_succ, tab_succ, List.sum_append, List.sum_append, List.sum_append, sum_sub f g m]
    simp
    omega
theorem sum_bump (f : Int → Int) (k : Nat) : ∀ m : Nat, k < m → (tab m fun j => f j + if (k : Int) = j then 1 else 0).sum = (tab m f).sum + 1
  | 0, h => by omega
  | m + 1, h => by
    rw [tab_succ, tab_succ, List.sum_append, List.sum_append]
    by_cases c : k < m
    · rw [sum_bump f k m c, if_neg (by omega)]
      simp
      omega
    · have e : k = m := by omega
      subst e
      rw [tab_congr (g := f) (fun j h0 h1 => by rw [if_neg (by omega)]; omega), if_pos rfl]
      simp
      omega
theorem nb_zero {m j : Int} (h0 : 0 ≤ j) (h1 : j < m) : nb 0 m j = 0 := by
  unfold nb
  exact Int.ediv_eq_zero_of_lt (by omega) (by omega)
theorem sum_nb {m : Nat} (hm : 0 < m) : ∀ n : Nat, (tab m fun j => nb n m j).sum = n
  | 0 => by
    have e : (tab m fun j => nb ((0 : Nat) : Int) m j) = tab m fun _ => 0 := tab_congr fun j h0 h1 => nb_zero h0 h1
    rw [e, sum_const]
    simp
  | n + 1 => by
    have r0 := Int.emod_nonneg (n : Int) (show (m : Int) ≠ 0 by omega)
    have r1 := Int.emod_lt_of_pos (n : Int) (show (0 : Int) < m by omega)
    have e : (tab m fun j => nb ((n + 1 : Nat) : Int) m j) = tab m fun j => nb n m j + if ((((n : Int) % m).toNat : Nat) : Int) = j then 1 else 0 := by
      refine tab_congr fun j h0 h1 => ?_
      rw [Int.toNat_of_nonneg r0, ← nb_step (by omega) h0 h1]
      rfl
    rw [e, sum_bump _ _ _ (by omega), sum_nb hm n]
    rfl
theorem sum_part {p b : Int} {m : Nat} (hm : 0 < m) (p0 : 0 ≤ p) (b0 : 0 ≤ b) : (part p m b).sum = p := by
  unfold part
  rw [sum_sub (fun j => nb (b + p) m j) (fun j => nb b m j)]
  have e1 := sum_nb hm (b + p).toNat
  have e2 := sum_nb hm b.toNat
  rw [Int.toNat_of_nonneg (by omega)] at e1 e2
  rw [e1, e2]
  omega
theorem part_two {p b v : Int} {m : Nat} (hm : 0 < m) (h : v ∈ part p m b) : p / m ≤ v ∧ v ≤ p / m + 1 := by
  unfold part tab at h
  obtain ⟨j, hj, rfl⟩ := List.mem_map.mp h
  have r0 := Int.emod_nonneg p (show (m : Int) ≠ 0 by omega)
  have r1 := Int.emod_lt_of_pos p (show (0 : Int) < m by omega)
  show p / m ≤ nb (b + p) m j - nb b m j ∧ nb (b + p) m j - nb b m j ≤ p / m + 1
  rw [nb_far (p := p) (by omega)]
  have a : nb b m j ≤ nb (b + p % m) m j := Int.ediv_le_ediv (by omega) (by omega)
  have c : nb (b + p % m) m j ≤ nb b m j + 1 := by
    have e : nb b m j + 1 = (b - j + m - 1 + m * 1) / m := by
      unfold nb
      rw [Int.add_mul_ediv_left _ _ (by omega)]
    rw [e]
    exact Int.ediv_le_ediv (by omega) (by omega)
  omega
theorem sum_ge {c : Int} : ∀ {l : List Int}, (∀ y ∈ l, c ≤ y) → l.length * c ≤ l.sum
  | [], _ => by simp
  | x :: l, h => by
    have a := h x List.mem_cons_self
    have b := sum_ge fun y hy => h y (List.mem_cons_of_mem _ hy)
    rw [List.sum_cons, List.length_cons]
    have : ((l.length + 1 : Nat) : Int) * c = l.length * c + c := by
      rw [Int.natCast_add, Int.add_mul]
      simp
    omega
theorem min_part {p b v : Int} {m : Nat} (hm : 0 < m) (p0 : 0 ≤ p) (b0 : 0 ≤ b) (h : v ∈ part p m b) (hl : ∀ y ∈ part p m b, v ≤ y) : v = p / m := by
  have a := part_two hm h
  by_cases c : v = p / m
  · exact c
  · exfalso
    have s := sum_ge (c := p / m + 1) fun y hy => by
      have := hl y hy
      omega
    rw [sum_part hm p0 b0, part_len, Int.mul_add] at s
    have e : p = m * (p / m) + p % m := (Int.mul_ediv_add_emod p m).symm
    have r1 := Int.emod_lt_of_pos p (show (0 : Int) < m by omega)
    omega
theorem part_close {p b x y : Int} {m : Nat} (hm : 0 < m) (hx : x ∈ part p m b) (hy : y ∈ part p m b) : x - y ≤ 1 := by
  have := part_two hm hx
  have := part_two hm hy
  omega
theorem part_add (p q b : Int) (m : Nat) : (tab m fun j => (nb (b + p) m j - nb b m j) + (nb (b + p + q) m j - nb (b + p) m j)) = part (p + q) m b := by
  unfold part
  refine tab_congr fun j _ _ => ?_
  rw [Int.add_assoc]
  omega
theorem nb_round {l m j k : Int} (hm : 0 < m) : nb (l + m * k) m j = nb l m j + k := by
  unfold nb
  rw [show l + m * k - j + m - 1 = l - j + m - 1 + m * k by omega, Int.add_mul_ediv_left _ _ (by omega)]
theorem part_round {p b k : Int} {m : Nat} (hm : 0 < m) : part p m (b + m * k) = part p m b := by
  unfold part
  refine tab_congr fun j _ _ => ?_
  rw [show b + m * k + p = b + p + m * k by omega, nb_round (by omega), nb_round (by omega)]
  omega
theorem nb_turn (l m j : Int) : nb (l + 1) m j = nb l m (j - 1) := by
  unfold nb
  rw [show l + 1 - j = l - (j - 1) by omega]
theorem nb_turn0 {l m : Int} (hm : 0 < m) : nb (l + 1) m 0 = nb l m (m - 1) + 1 := by
  unfold nb
  rw [show l + 1 - 0 + m - 1 = l + m * 1 by omega, show l - (m - 1) + m - 1 = l by omega, Int.add_mul_ediv_left _ _ (by omega)]
theorem tab_cons (m : Nat) (f : Int → Int) : tab (m + 1) f = f 0 :: tab m fun j => f (j + 1) := by
  unfold tab
  rw [List.range_succ_eq_map, List.map_cons, List.map_map]
  rfl
theorem part_turn (p b : Int) (n : Nat) : part p (n + 1) (b + 1) = [nb (b + p) (n + 1 : Nat) n - nb b (n + 1 : Nat) n] ++ tab n fun j => nb (b + p) (n + 1 : Nat) j - nb b (n + 1 : Nat) j := by
  unfold part
  rw [tab_cons]
  have e : b + 1 + p = b + p + 1 := by omega
  have z : (0 : Int) < (n + 1 : Nat) := by omega
  have w : ((n + 1 : Nat) : Int) - 1 = n := by omega
  rw [e, nb_turn0 z, nb_turn0 z, w, List.singleton_append]
  refine congr (congrArg List.cons (by omega)) (tab_congr fun j _ _ => ?_)
  rw [nb_turn, nb_turn, show j + 1 - 1 = j by omega]
theorem part_last (p b : Int) (n : Nat) : part p (n + 1) b = (tab n fun j => nb (b + p) (n + 1 : Nat) j - nb b (n + 1 : Nat) j) ++ [nb (b + p) (n + 1 : Nat) n - nb b (n + 1 : Nat) n] := tab_succ _ _

/-! columns -/
theorem sum_nn : ∀ {l : List Int}, (∀ v ∈ l, 0 ≤ v) → 0 ≤ l.sum
  | [], _ => by simp
  | x :: l, h => by
    have a := h x List.mem_cons_self
    have b := sum_nn fun v hv => h v (List.mem_cons_of_mem _ hv)
    rw [List.sum_cons]
    omega
def col (rows : List (List Int)) (j : Int) : Int := (rows.map fun r => r.getD j.toNat 0).sum
theorem col_deals {m : Nat} {j : Int} (h0 : 0 ≤ j) (h1 : j < m) : ∀ (ps : List Int) (b : Int), col (deals m ps b) j = nb (b + ps.sum) m j - nb b m j
  | [], b => by simp [deals, col]
  | p :: ps, b => by
    have ih := col_deals h0 h1 ps (b + p)
    unfold col at ih ⊢
    rw [deals, List.map_cons, List.sum_cons, ih, List.sum_cons]
    have e : (part p m b).getD j.toNat 0 = nb (b + p) m j - nb b m j := by
      unfold part
      rw [List.getD_eq_getElem?_getD, tab_get (by omega), Option.getD_some, Int.toNat_of_nonneg h0]
    rw [e, Int.add_assoc]
    omega
theorem deals_cut (m : Nat) : ∀ (i n : Nat) (ps : List Int) (b : Int), ((deals m ps b).drop i).take n = deals m ((ps.drop i).take n) (b + (ps.take i).sum)
  | 0, 0, ps, b => by simp [deals]
  | 0, n + 1, [], b => by simp [deals]
  | 0, n + 1, p :: ps, b => by
    have ih := deals_cut m 0 n ps (b + p)
    simp only [List.drop_zero, List.take_zero, List.sum_nil, Int.add_zero] at ih
    simp [deals, ih]
  | i + 1, n, [], b => by simp [deals]
  | i + 1, n, p :: ps, b => by
    have ih := deals_cut m i n ps (b + p)
    simp only [deals, List.drop_succ_cons, ih, List.take_succ_cons, List.sum_cons, Int.add_assoc]
theorem col_two (m : Nat) {j : Int} (h0 : 0 ≤ j) (h1 : j < m) (p q b : Int) : col [part p m b, part q m (b + p)] j = (nb (b + p) m j - nb b m j) + (nb (b + p + q) m j - nb (b + p) m j) := by
  have e : ∀ p b : Int, (part p m b).getD j.toNat 0 = nb (b + p) m j - nb b m j := fun p b => by
    unfold part
    rw [List.getD_eq_getElem?_getD, tab_get (by omega), Option.getD_some, Int.toNat_of_nonneg h0]
  show (part p m b).getD j.toNat 0 + ((part q m (b + p)).getD j.toNat 0 + 0) = _
  rw [e, e, Int.add_zero]
theorem part_all {p b : Int} {m : Nat} : (part p m b).length = m := part_len _ _ _
theorem deals_rows {m : Nat} : ∀ (ps : List Int) (b : Int), ∀ r ∈ deals m ps b, r.length = m
  | [], _, r, hr => by cases hr
  | p :: ps, b, r, hr => by
    rcases List.mem_cons.mp hr with rfl | hr
    · exact part_len _ _ _
    · exact deals_rows ps _ r hr
/-- eqv of numbers with themselves -/
theorem eqv_ints : ∀ ns : List Int, PyData.eqvAll (dInts ns) (dInts ns) = true
  | [] => rfl
  | n :: ns => by
    have := eqv_ints ns
    unfold dInts at this ⊢
    simp [PyData.eqvAll, PyData.eqv, this]
theorem deals_get {m : Nat} : ∀ {ps : List Int} {b : Int} {i : Nat} {p : Int}, ps[i]? = some p → (deals m ps b)[i]? = some (part p m (b + (ps.take i).sum))
  | [], _, _, _, h => by simp at h
  | x :: ps, b, 0, p, h => by
    simp at h
    subst h
    simp [deals]
  | x :: ps, b, i + 1, p, h => by
    have ih := deals_get (m := m) (b := b + x) (i := i) (by simpa using h)
    simp only [deals, List.getElem?_cons_succ, ih, List.take_succ_cons, List.sum_cons, Int.add_assoc]
end K08

set_option Elab.async false
set_option linter.all false
set_option maxRecDepth 100000
namespace K08
open PySem PySem.Spec PyProof.Rows L2 TB

/-! ### the text -/
def topS (i : Nat) : Stmt := PySem.Challenge.pw_tablebills_k08_whole_deals_in_a_row.main.body.getD i (.Pass ⟨0, 0, 0, 0⟩)
abbrev sNb : Stmt := topS 1
abbrev sDeal : Stmt := topS 2
abbrev sOn : Stmt := topS 3
abbrev sFeed : Stmt := topS 5
abbrev sDraw : Stmt := topS 6
abbrev sPence : Stmt := topS 7
abbrev sAdded : Stmt := topS 8
abbrev sRow : Stmt := topS 9
abbrev sDeals : Stmt := topS 10
abbrev sLaw : Stmt := topS 11
theorem scNb : FnScope ["limit", "many", "hand"] ["limit", "many", "hand"] (defScope sNb) := ⟨rfl, rfl, rfl, by decide +kernel, rfl, by decide +kernel, by decide +kernel⟩
theorem scDeal : FnScope ["pence", "many", "begun", "ended", "hand"] ["pence", "many", "begun"] (defScope sDeal) := ⟨rfl, rfl, rfl, by decide +kernel, rfl, by decide +kernel, by decide +kernel⟩
theorem scOn : FnScope ["pieces", "many", "told", "begun", "pence"] ["pieces", "many"] (defScope sOn) := ⟨rfl, rfl, rfl, by decide +kernel, rfl, by decide +kernel, by decide +kernel⟩

section
variable {P : Program} {w : World} {K : PySem.W.Frag} {mg : Str → Option Value} {base : Heap}

/-! ### numbers_below -/
def spNb : Sp := fun vs H Q _ => ∃ (l m j : Int), vs = [.int l, .int m, .int j] ∧ 0 < m ∧ m < 1000 ∧ Q (.int (nb l m j)) H
theorem ok_nb {f : Addr} {fd : FuncData} {k : Nat} (F : Fun K "numbers_below" "numbers_below" sNb f fd) : FnOk P w K mg base CX0 (k + 1) f fd ["limit", "many", "hand"] spNb := by
  refine F.ok scNb (fun vs H Q E h => ?_) (fun cdv A outer s H vs Q E hr h => ?_)
  · obtain ⟨l, m, j, rfl, _⟩ := h
    rfl
  · obtain ⟨l, m, j, rfl, h0, h1, q⟩ := h
    refine ⟨_, pss_one (ps_ret (pe_op op_fdiv (pe_op op_sub (pe_op op_add (pe_op op_sub (pv 0) (pv 2)) (pv 1)) pe_int) (pv 1))), ?_⟩
    refine ⟨_, rfl, _, rfl, _, _, rfl, rfl, _, rfl, _, _, rfl, rfl, _, _, rfl, rfl, _, rfl, _, _, rfl, rfl, ⟨h0, by omega⟩, q⟩

/-! ### deal -/
def spDeal : Sp := fun vs H Q _ => ∃ (p b : Int) (m : Nat), vs = [.int p, .int (m : Int), .int b] ∧ 0 < m ∧ m < 1000 ∧
  ∀ H' t, Same H H' → H t = none → H' t = some (.tup ((part p m b).map V.int)) → Q (.ref t) H'
theorem ok_deal {f fN : Addr} {fd fdN : FuncData} {dvs : List V} (F : FunD K "deal" "deal" (defArgs sDeal) (defBody sDeal) (defScope sDeal) dvs [] f fd) (FN : Fun K "numbers_below" "numbers_below" sNb fN fdN) (bN : Binds K fdN ["limit", "many", "hand"] [])
    (gN : mg "numbers_below" = some (.ref fN)) (mt : mg "tuple" = none) (mr : mg "range" = none) : FnOk P w K mg base CX0 3 f fd ["pence", "many", "begun"] spDeal := by
  have GN : FnOk P w K mg base CX0 1 fN fdN ["limit", "many", "hand"] spNb := ok_nb FN
  refine F.ok scDeal (fun vs H Q E h => ?_) (fun cdv A outer s H vs Q E hr h => ?_)
  · obtain ⟨p, b, m, rfl, _⟩ := h
    rfl
  · obtain ⟨p, b, m, rfl, h0, h1, q⟩ := h
    refine ⟨_, pss_cons (ps_set (i := 3) scDeal.nd rfl (.inr rfl) (pe_op op_add (pv 2) (pv 0)))
      (pss_one (ps_ret (pe_callTy call_tuple_of (by rfl) mt (by decide +kernel) (pa_cons
        (pe_lc (own := [("hand", 4)]) (g := gName 4) (tt := tYes) rfl scDeal.nd (pi_range1 (by rfl) mr (pa_cons (pv 1) pa_nil))
          (blkOk_by (N := ["pence", "many", "begun", "ended", "hand"]) (sc := defScope sDeal) (by decide +kernel))
          (fun _ _ _ _ _ => pg_name (i := 4) scDeal.nd rfl (.inl rfl)) (fun _ _ _ _ _ => pts_nil)
          (fun _ _ _ _ _ => pe_op op_sub
            (pe_call GN (hr.mono (by decide)) (by rfl) gN FN.kp bN .nil pass0 (pa_cons (pv 3) (pa_cons (pv 1) (pa_cons (pv 4) pa_nil))))
            (pe_call GN (hr.mono (by decide)) (by rfl) gN FN.kp bN .nil pass0 (pa_cons (pv 2) (pa_cons (pv 1) (pa_cons (pv 4) pa_nil)))))) pa_nil)))), ?_⟩
    refine ⟨_, rfl, _, rfl, b, p, rfl, rfl, ?_⟩
    refine ⟨_, rfl, (m : Int), rfl, by omega, by omega, fun D nD => ?_⟩
    refine lc_range (lo := 0) (n := (m : Int).toNat) (fun i H1 => Same H H1 ∧ H1 D = some (.lst ((tab i fun j => nb (b + p) m j - nb b m j).map V.int))) ⟨same_upd nD, upd_same⟩ (fun i H1 hi hP => ?_) (fun H1 hP => ?_)
    · obtain ⟨sm, eD⟩ := hP
      refine ⟨rfl, yes (iteT ?_)⟩
      refine ⟨_, rfl, _, rfl, _, rfl, b + p, m, 0 + (i : Int), rfl, by omega, by omega, ?_⟩
      refine ⟨_, rfl, _, rfl, _, rfl, b, m, 0 + (i : Int), rfl, by omega, by omega, ?_⟩
      refine ⟨_, _, rfl, rfl, _, eD, ?_, ?_, ?_⟩
      · rw [List.length_map, tab_len]
        exact small1000 (by omega)
      · intro c o e
        rw [upd_ne (ne_of_none e nD)]
        exact sm c o e
      · rw [upd_same]
        unfold tab
        rw [List.range_succ, List.map_append, List.map_append, Int.zero_add]
        rfl
    · obtain ⟨sm, eD⟩ := hP
      rw [Int.toNat_natCast] at eD
      refine ⟨D, _, rfl, .inl ⟨.inl (.inl eD), fun t nt => ?_⟩⟩
      have s2 : Same H1 (upd H1 t (.tup ((part p m b).map V.int))) := same_upd nt
      exact q _ t (sm.trans s2) (sm.free nt) upd_same

/-! ### dealt_on -/
def spOn (K : PySem.W.Frag) : Sp := fun vs H Q _ => ∃ (a : Addr) (ps : List Int) (m : Nat), vs = [.ref a, .int (m : Int)] ∧ SqT K H a (ps.map V.int) ∧ ps.length ≤ 100 ∧ 0 < m ∧ m < 1000 ∧
  ∀ H' o, Same H H' → H o = none → RowsAt K H' o (deals m ps 0) → Q (.ref o) H'
theorem ok_on {f fD : Addr} {fd fdD : FuncData} (F : Fun K "dealt_on" "dealt_on" sOn f fd) (GD : FnOk P w K mg base CX0 3 fD fdD ["pence", "many", "begun"] spDeal) (kD : PySem.W.keepIn K (.ref fD) = true) (bD : Binds K fdD ["pence", "many", "begun"] [])
    (gD : mg "deal" = some (.ref fD)) : FnOk P w K mg base CX0 4 f fd ["pieces", "many"] (spOn K) := by
  refine F.ok scOn (fun vs H Q E h => ?_) (fun cdv A outer s H vs Q E hr h => ?_)
  · obtain ⟨a, ps, m, rfl, _⟩ := h
    rfl
  · obtain ⟨a, ps, m, rfl, hA, hlen, h0, h1, q⟩ := h
    refine ⟨_, pss_cons (ps_set (i := 2) scOn.nd rfl (.inl rfl) (pe_lst pa_nil))
      (pss_cons (ps_set (i := 3) scOn.nd rfl (.inl rfl) pe_int)
      (pss_cons (ps_for PassesOwn.never rfl (pi_tup (pv 0)) (pg_name (i := 4) scOn.nd rfl (.inl rfl))
        (pss_cons (ps_expr (pe_bm PySem.F.plainAttrs_list PySem.F.slot_list_append PySem.F.type_list_append mt_append (pv 2)
          (pa_cons (pe_call GD hr (by rfl) gD kD bD .nil pass0 (pa_cons (pv 4) (pa_cons (pv 1) (pa_cons (pv 3) pa_nil)))) pa_nil)))
        (pss_one (ps_aug (i := 3) scOn.nd rfl (.inl rfl) (pv 4) ip_add))))
      (pss_one (ps_ret (pv 2))))), ?_⟩
    refine ⟨Nat.zero_le _, fun o no => ?_⟩
    have s1 : Same H (upd H o (.lst [])) := same_upd no
    refine ⟨.ref a, rfl, a, rfl, ⟨_, TB.Same.tup s1 hA⟩, ?_⟩
    refine for_tup (xs := ps.map V.int) (fun i σ H1 => ∃ y, σ = [some (.ref a), some (.int m), some (.ref o), some (.int (ps.take i).sum), y] ∧ Same H H1 ∧ RowsAt K H1 o (deals m (ps.take i) 0)) ?_ ?_ ?_ ?_
    · exact ⟨none, rfl, s1, [], upd_same, .nil⟩
    · rintro i σ H1 _ ⟨y, _, sm, _⟩
      exact TB.Same.tup sm hA
    · rintro i x σ H1 hx ⟨y, rfl, sm, us, eo, dv⟩
      obtain ⟨p, hp, rfl⟩ : ∃ p, ps[i]? = some p ∧ x = V.int p := by
        rw [List.getElem?_map] at hx
        cases e : ps[i]? with
        | none => rw [e] at hx; cases hx
        | some p => rw [e] at hx; exact ⟨p, rfl, (Option.some.inj hx).symm⟩
      refine ⟨.ref o, rfl, .inl ⟨rfl, _, .inl (.inl eo)⟩, .int p, rfl, .int m, rfl, .int (ps.take i).sum, rfl, p, (ps.take i).sum, m, rfl, h0, h1, fun H2 t sm2 nt et => ?_⟩
      have eo2 := sm2 _ _ eo
      have ul := DpAll.len dv
      rw [List.length_map, deals_len] at ul
      refine ⟨o, _, _, rfl, rfl, eo2, ?_, ?_⟩
      · rw [ul]
        have := List.length_take_le i ps
        exact small1000 (by have := List.length_take_le' i ps; omega)
      · refine ⟨_, rfl, _, rfl, _, _, rfl, rfl, some (.int p), ?_, ?_, ?_⟩
        · rw [take_more hp, List.sum_append]
          simp
        · intro b z e
          rw [upd_ne (ne_of_none e no)]
          exact sm2 _ _ (sm _ _ e)
        · rw [take_more hp, deals_snoc, Int.zero_add]
          exact rows_more eo dv sm2 nt et
    · rintro σ H1 ⟨y, rfl, sm, hR⟩
      rw [List.length_map, List.take_length] at hR
      exact ⟨.ref o, rfl, q H1 o sm no hR⟩
end
theorem scFeed : FnScope ["_law_script"] ["_law_script"] (defScope sFeed) := ⟨rfl, rfl, rfl, by decide +kernel, rfl, by decide +kernel, by decide +kernel⟩
theorem scDraw : FnScope ["_law_feed_here", "_law_many", "_law_told", "_law_cell", "_law_turn", "_law_mixed"] ["_law_feed_here", "_law_many"] (defScope sDraw) := ⟨rfl, rfl, rfl, by decide +kernel, rfl, by decide +kernel, by decide +kernel⟩

/-! ### the feed: the script's numbers, a place, a rest, how many draws -/
structure Feed (H : Hp) (F S : Addr) (T : Int) : Prop where
  ex : ∃ (ns : List Int) (p r t : Int), H F = some (.lst [.ref S, .int p, .int r, .int t]) ∧ S ≠ F ∧ H S = some (.lst (ns.map V.int)) ∧ ns.length ≤ 1000 ∧ 0 ≤ p ∧ 0 ≤ r ∧ 0 ≤ t ∧ t ≤ T
theorem Feed.same {H H' : Hp} {F S : Addr} {T : Int} (e : Same H H') (h : Feed H F S T) : Feed H' F S T := by
  obtain ⟨ns, p, r, t, a, n, b, c⟩ := h.ex
  exact ⟨⟨ns, p, r, t, e _ _ a, n, e _ _ b, c⟩⟩
theorem Feed.there {H : Hp} {F S : Addr} {T : Int} (h : Feed H F S T) : ∃ zs, H F = some (.lst zs) := by
  obtain ⟨ns, p, r, t, a, _⟩ := h.ex
  exact ⟨_, a⟩
/-- a new place is neither the feed nor its numbers -/
theorem Feed.ne {H : Hp} {F S D : Addr} {T : Int} (h : Feed H F S T) (n : H D = none) : D ≠ F ∧ D ≠ S := by
  obtain ⟨ns, p, r, t, a, _, b, _⟩ := h.ex
  exact ⟨(ne_of_none a n).symm, (ne_of_none b n).symm⟩
theorem Feed.upd {H : Hp} {F S D : Addr} {T : Int} {o : HO} (h : Feed H F S T) (n : D ≠ F ∧ D ≠ S) : Feed (upd H D o) F S T := by
  obtain ⟨ns, p, r, t, a, k, b, c⟩ := h.ex
  exact ⟨⟨ns, p, r, t, by rw [upd_ne n.1.symm]; exact a, k, by rw [upd_ne n.2.symm]; exact b, c⟩⟩
theorem Feed.mono {H : Hp} {F S : Addr} {T T' : Int} (h : Feed H F S T) (l : T ≤ T') : Feed H F S T' := by
  obtain ⟨ns, p, r, t, a, n, b, c, d, e, f, g⟩ := h.ex
  exact ⟨⟨ns, p, r, t, a, n, b, c, d, e, f, by omega⟩⟩
section
variable {P : Program} {w : World} {K : PySem.W.Frag} {mg : Str → Option Value} {base : Heap}
/-! ### _law_feed -/
def spFeed (K : PySem.W.Frag) : Sp := fun vs H Q _ => ∃ (a : Addr) (ns : List Int), vs = [.ref a] ∧ SqL K H a (ns.map V.int) ∧ ns.length ≤ 1000 ∧
  ∀ H' F S, Same H H' → H F = none → Feed H' F S 0 → Q (.ref F) H'
theorem cutV_ints (ns : List Int) (lo hi : Option Int) : ∃ ms : List Int, cutV (ns.map V.int) lo hi = ms.map V.int ∧ ms.length ≤ ns.length := by
  unfold cutV
  refine ⟨(ns.drop (HT.sIx (ns.map V.int).length 0 lo)).take (HT.sIx (ns.map V.int).length (ns.map V.int).length hi - HT.sIx (ns.map V.int).length 0 lo), ?_, ?_⟩
  · rw [List.map_take, List.map_drop]
  · rw [List.length_take, List.length_drop]
    omega
theorem ok_feed {f : Addr} {fd : FuncData} {k : Nat} (F : Fun K "_law_feed" "_law_feed" sFeed f fd) : FnOk P w K mg base CX0 (k + 1) f fd ["_law_script"] (spFeed K) := by
  refine F.ok scFeed (fun vs H Q E h => ?_) (fun cdv A outer s H vs Q E hr h => ?_)
  · obtain ⟨a, ns, rfl, _⟩ := h
    rfl
  · obtain ⟨a, ns, rfl, hS, hl, q⟩ := h
    refine ⟨_, pss_one (ps_ret (pe_lst (pa_cons (pe_slice sl_list (pv 0) po_none (po_some pe_int)) (pa_cons pe_int (pa_cons pe_int (pa_cons pe_int pa_nil)))))), ?_⟩
    obtain ⟨ms, em, hm⟩ := cutV_ints ns none (some 63)
    refine ⟨.ref a, rfl, 63, rfl, a, _, rfl, hS, fun S nS => ⟨by show (4 : Nat) ≤ sizeLine; decide, fun L nL => ?_⟩⟩
    have s1 : Same H (upd H S (.lst (cutV (ns.map V.int) none (some 63)))) := same_upd nS
    have nSL : S ≠ L := fun e => by
      rw [← e, upd_same] at nL
      cases nL
    refine q _ L S (s1.trans (same_upd nL)) (s1.free nL) ⟨⟨ms, 0, 0, 0, upd_same, nSL, ?_, by omega, by omega, by omega, by omega, by omega⟩⟩
    rw [upd_ne nSL, upd_same, em]

/-! ### _law_draw -/
def spDraw : Sp := fun vs H Q _ => ∃ (F S : Addr) (m T : Int), vs = [.ref F, .int m] ∧ 0 < m ∧ m < 2 ^ 50 ∧ Feed H F S T ∧ T < 2 ^ 40 ∧
  ∀ H' v, But F H H' → Feed H' F S (T + 1) → 0 ≤ v → v < m → Q (.int v) H'
theorem eqv_nil : ∀ ns : List Int, PyData.eqv (.list (dInts ns)) (.list []) = decide (ns = [])
  | [] => by simp [dInts, PyData.eqv, PyData.eqvAll]
  | n :: ns => by simp [dInts, PyData.eqv, PyData.eqvAll]
theorem shaped_ints (ns : List Int) : SeqAt.shaped (.list (dInts ns)) = true := by
  have h : ∀ ms : List Int, PyData.canLayAll0 (dInts ms) = true ∧ PyData.depthAll (dInts ms) = 0 := by
    intro ms
    induction ms with
    | nil => exact ⟨rfl, rfl⟩
    | cons m ms ih => exact ⟨by simpa [dInts, PyData.canLayAll0, PyData.canLay0] using ih.1, by simpa [dInts, PyData.depthAll, PyData.depth] using ih.2⟩
  unfold SeqAt.shaped
  simp only [PyData.canLay0, PyData.depth, (h ns).1, (h ns).2]
  decide
theorem ok_draw {f : Addr} {fd : FuncData} {k : Nat} (F : Fun K "_law_draw" "_law_draw" sDraw f fd) (m_len : mg "len" = none) : FnOk P w K mg base CX0 (k + 1) f fd ["_law_feed_here", "_law_many"] spDraw := by
  refine F.ok scDraw (fun vs H Q E h => ?_) (fun cdv A outer s H vs Q E hr h => ?_)
  · obtain ⟨a, S, m, T, rfl, _⟩ := h
    rfl
  · obtain ⟨L, S, m, T, rfl, m0, m1, hF, hT, q⟩ := h
    refine ⟨_, (pss_cons (ps_augS (pv 0) pe_int get_list pe_int ip_add set_list)
      (pss_cons (ps_if (pt_cmpR op_gt (pe_ix ix_list (pv 0) pe_int (fun _ _ => rfl)) pe_int (nomark _)) (pss_cons (ps_set (i := 2) scDraw.nd rfl (.inl rfl) (pe_op op_mod (pe_ix ix_list (pv 0) pe_int (fun _ _ => rfl)) (pv 1)))
      (pss_cons (ps_asg (pe_op op_fdivW (pe_ix ix_list (pv 0) pe_int (fun _ _ => rfl)) (pv 1)) (pg_sub (pv 0) pe_int set_list))
      (pss_one (ps_ret (pv 2))))) pss_nil)
      (pss_cons (ps_set (i := 3) scDraw.nd rfl (.inl rfl) (pe_ifExp (pt_cmpR (op_eqD hr.units) (pe_ix ix_list (pv 0) pe_int (fun _ _ => rfl)) (pe_lst pa_nil) (nomark _)) pe_int (pe_ix ix_list (pe_ix ix_list (pv 0) pe_int (fun _ _ => rfl)) (pe_op op_mod (pe_ix ix_list (pv 0) pe_int (fun _ _ => rfl)) (pe_callB call_len_seq (by rfl) m_len (by decide +kernel) (pa_cons (pe_ix ix_list (pv 0) pe_int (fun _ _ => rfl)) pa_nil))) (fun _ _ => rfl))))
      (pss_cons (ps_augS (pv 0) pe_int get_list pe_int ip_add set_list)
      (pss_cons (ps_if (PW.pt (pw_and (pt_cmpR op_ge (pv 3) (pe_op op_pow pe_int pe_int) (nomark _)) (pw_and1 (pt_cmpR op_le (pe_ix ix_list (pv 0) pe_int (fun _ _ => rfl)) (pe_callB call_len_seq (by rfl) m_len (by decide +kernel) (pa_cons (pe_ix ix_list (pv 0) pe_int (fun _ _ => rfl)) pa_nil)) (nomark _))))) (pss_cons (ps_asg (pe_op op_fdivW (pv 3) (pv 1)) (pg_sub (pv 0) pe_int set_list))
      (pss_one (ps_ret (pe_op op_mod (pv 3) (pv 1))))) pss_nil)
      (pss_cons (ps_set (i := 4) scDraw.nd rfl (.inl rfl) (pe_ix ix_list (pv 0) pe_int (fun _ _ => rfl)))
      (pss_cons (ps_set (i := 5) scDraw.nd rfl (.inl rfl) (pe_op op_mod (pe_op op_add (pe_op op_add (pe_op op_mod (pv 3) pe_int) (pe_op op_mul (pe_op op_mul pe_int (pv 4)) (pv 4))) (pe_op op_mul pe_int (pv 4))) pe_int))
      (pss_cons (ps_set (i := 5) scDraw.nd rfl (.inl rfl) (pe_op op_mod (pe_op op_add (pe_op op_mul (pv 5) (pv 5)) (pe_op op_mul pe_int (pv 4))) pe_int))
      (pss_cons (ps_set (i := 5) scDraw.nd rfl (.inl rfl) (pe_op op_mod (pe_op op_add (pe_op op_mul (pv 5) (pv 5)) (pe_op op_mul pe_int (pv 4))) pe_int))
      (pss_one (ps_ret (pe_op op_mod (pe_op op_fdivW (pe_op op_mod (pe_op op_add (pe_op op_mul (pv 5) (pv 5)) (pv 4)) pe_int) pe_int) (pv 1))))))))))))), ?_⟩
    obtain ⟨ns, p, r, t, eF, nSF, hS, hn, p0, r0, t0, tT⟩ := hF.ex
    -- feed[3] += 1
    refine ⟨.ref L, rfl, L, _, 3, _, rfl, rfl, .inl (.inl eF), rfl, _, _, rfl, rfl, L, _, 3, 3, rfl, rfl, eF, rfl, ?_⟩
    generalize hH1 : upd H L (.lst (List.set [V.ref S, V.int p, V.int r, V.int t] 3 (V.int ((fun i j => i + j) t 1)))) = H1
    have e1 : H1 L = some (.lst [.ref S, .int p, .int r, .int (t + 1)]) := by
      rw [← hH1]
      exact upd_same
    have b1 : But L H H1 := by
      rw [← hH1]
      exact But.upd
    clear hH1
    have hS1 := b1 _ _ nSF hS
    have back : ∀ (H2 : Hp) (p' r' : Int) (v : Int), But L H H2 → H2 S = some (.lst (ns.map V.int)) → H2 L = some (.lst [.ref S, .int p', .int r', .int (t + 1)]) → 0 ≤ p' → 0 ≤ r' → 0 ≤ v → v < m → Q (.int v) H2 :=
      fun H2 p' r' v a hs b c d x y => q H2 v a ⟨⟨ns, p', r', t + 1, b, nSF, hs, hn, c, d, by omega, by omega⟩⟩ x y
    -- if feed[2] > 0
    refine ⟨.ref L, rfl, L, _, 2, _, rfl, rfl, .inl (.inl e1), atI_nat (j := 2) rfl, _, _, rfl, rfl, _, rfl, ite2 (fun c => ?_) (fun c => ?_)⟩
    · refine ⟨.ref L, rfl, L, _, 2, _, rfl, rfl, .inl (.inl e1), atI_nat (j := 2) rfl, _, rfl, r, m, rfl, rfl, m0, ?_⟩
      refine ⟨.ref L, rfl, L, _, 2, _, rfl, rfl, .inl (.inl e1), atI_nat (j := 2) rfl, _, rfl, r, m, rfl, rfl, wide_div (b := 60) m0 (by omega) (by omega) (by omega), ?_⟩
      refine ⟨.ref L, rfl, L, _, 2, 2, rfl, rfl, e1, rfl, ?_⟩
      have b2 : But L H1 (upd H1 L (.lst [.ref S, .int p, .int (r / m), .int (t + 1)])) := But.upd
      refine ⟨_, rfl, ?_⟩
      exact back _ p (r / m) (r % m) (b1.trans b2) (b2 _ _ nSF hS1) upd_same p0 (Int.ediv_nonneg r0 (by omega)) (Int.emod_nonneg _ (by omega)) (Int.emod_lt_of_pos _ m0)
    · -- the cell
      refine ⟨.ref L, rfl, L, _, 0, _, rfl, rfl, .inl (.inl e1), atI_nat (j := 0) rfl, Nat.zero_le _, fun z nz => ?_⟩
      have sz : Same H1 (upd H1 z (.lst [])) := same_upd nz
      generalize hH2 : upd H1 z (.lst []) = H2 at sz
      have ez : H2 z = some (.lst []) := by
        rw [← hH2]
        exact upd_same
      have b2 : But L H H2 := b1.same sz
      have e2 := sz _ _ e1
      have hS2 := sz _ _ hS1
      clear hH2
      refine ⟨.list (dInts ns), .list [], .lst (.inl (.inl hS2)) (dp_ints ns), .lst (.inl (.inl ez)) .nil, shaped_ints ns, rfl, _, rfl, ?_⟩
      rw [eqv_nil]
      refine ite2 (fun c => ?_) (fun c => ?_)
      rotate_left
      have hne : 0 < (ns.map V.int).length := by
        cases ns with
        | nil => exact absurd rfl c
        | cons x xs => simp
      have i0 := Int.emod_nonneg p (show ((ns.map V.int).length : Int) ≠ 0 by omega)
      have i1 := Int.emod_lt_of_pos p (show (0 : Int) < (ns.map V.int).length by omega)
      obtain ⟨j, hj⟩ : ∃ j : Nat, p % ((ns.map V.int).length : Int) = (j : Int) := ⟨_, (Int.toNat_of_nonneg i0).symm⟩
      have hjl : j < ns.length := by
        rw [hj, List.length_map] at i1
        omega
      have gj : (ns.map V.int)[j]? = some (.int ns[j]) := by
        rw [List.getElem?_map, List.getElem?_eq_getElem hjl]
        rfl
      refine ⟨.ref L, rfl, L, _, 0, _, rfl, rfl, .inl (.inl e2), atI_nat (j := 0) rfl, .ref L, rfl, L, _, 1, _, rfl, rfl, .inl (.inl e2), atI_nat (j := 1) rfl, .ref L, rfl, L, _, 0, _, rfl, rfl, .inl (.inl e2), atI_nat (j := 0) rfl, S, _, rfl, .inl (.inl (.inl hS2)), p, _, rfl, rfl, by omega, S, _, _, _, rfl, rfl, .inl (.inl hS2), (by rw [hj]; exact atI_nat gj), ?_⟩
      all_goals
        -- feed[1] += 1
        refine ⟨.ref L, rfl, L, _, 1, _, rfl, rfl, .inl (.inl e2), rfl, _, _, rfl, rfl, L, _, 1, 1, rfl, rfl, e2, rfl, ?_⟩
        generalize hH3 : upd H2 L (.lst (List.set [V.ref S, V.int p, V.int r, V.int (t + 1)] 1 (V.int ((fun i j => i + j) p 1)))) = H3
        have e3 : H3 L = some (.lst [.ref S, .int (p + 1), .int r, .int (t + 1)]) := by
          rw [← hH3]
          exact upd_same
        have b23 : But L H2 H3 := by
          rw [← hH3]
          exact But.upd
        have b3 := b2.trans b23
        have hS3 := b23 _ _ nSF hS2
        clear hH3
        have back3 : ∀ r' v : Int, 0 ≤ r' → 0 ≤ v → v < m → Q (.int v) (upd H3 L (.lst [.ref S, .int (p + 1), .int r', .int (t + 1)])) := fun r' v x y z =>
          have b34 : But L H3 (upd H3 L (.lst [.ref S, .int (p + 1), .int r', .int (t + 1)])) := But.upd
          back _ (p + 1) r' v (b3.trans b34) (b34 _ _ nSF hS3) upd_same (by omega) x y z
        -- if cell >= 10 ** 18 and ..
        refine ⟨_, rfl, _, _, rfl, rfl, ⟨by decide, by decide, by decide⟩, _, _, rfl, rfl, _, rfl, ite2 (fun c1 => ?_) (fun c1 => ?_)⟩
        · refine ⟨.ref L, rfl, L, _, 1, _, rfl, rfl, .inl (.inl e3), atI_nat (j := 1) rfl, .ref L, rfl, L, _, 0, _, rfl, rfl, .inl (.inl e3), atI_nat (j := 0) rfl, S, _, rfl, .inl (.inl (.inl hS3)), _, _, rfl, rfl, _, rfl, ite2 (fun c2 => ?_) (fun c2 => ?_)⟩
          · refine ⟨_, rfl, _, rfl, _, _, rfl, rfl, wide_div (b := 60) m0 (by omega) (by omega) (by omega), .ref L, rfl, L, _, 2, 2, rfl, rfl, e3, rfl, ?_⟩
            refine ⟨_, rfl, _, rfl, _, _, rfl, rfl, m0, ?_⟩
            exact back3 _ _ (Int.ediv_nonneg (Int.le_trans (by decide) (of_decide_eq_true c1)) (by omega)) (Int.emod_nonneg _ (by omega)) (Int.emod_lt_of_pos _ m0)
          · refine ⟨.ref L, rfl, L, _, 3, _, rfl, rfl, .inl (.inl e3), atI_nat (j := 3) rfl, ?_⟩
            refine ⟨_, rfl, _, _, rfl, rfl, (by show (0 : Int) < _; decide), _, rfl, _, _, rfl, rfl, .inl ⟨by decide, by decide⟩, _, rfl, _, _, rfl, rfl, .inr ⟨by omega, by omega⟩, _, _, rfl, rfl, _, rfl, _, _, rfl, rfl, .inl ⟨by decide, by decide⟩, _, _, rfl, rfl, _, _, rfl, rfl, (by show (0 : Int) < _; decide), ?_⟩
            refine ⟨_, rfl, _, rfl, _, _, rfl, rfl, .inl ⟨by omega, by omega⟩, _, rfl, _, _, rfl, rfl, .inl ⟨by decide, by decide⟩, _, _, rfl, rfl, _, _, rfl, rfl, (by show (0 : Int) < _; decide), ?_⟩
            refine ⟨_, rfl, _, rfl, _, _, rfl, rfl, .inl ⟨by omega, by omega⟩, _, rfl, _, _, rfl, rfl, .inl ⟨by decide, by decide⟩, _, _, rfl, rfl, _, _, rfl, rfl, (by show (0 : Int) < _; decide), ?_⟩
            refine ⟨_, rfl, _, rfl, _, _, rfl, rfl, .inl ⟨by omega, by omega⟩, _, rfl, _, _, rfl, rfl, _, _, rfl, rfl, (by show (0 : Int) < _; decide), _, _, rfl, rfl, wide_div (b := 60) (by decide) (by decide) (by omega) (by omega), _, rfl, _, _, rfl, rfl, m0, ?_⟩
            exact back H3 (p + 1) r _ b3 hS3 e3 (by omega) r0 (Int.emod_nonneg _ (by omega)) (Int.emod_lt_of_pos _ m0)
        · refine ⟨.ref L, rfl, L, _, 3, _, rfl, rfl, .inl (.inl e3), atI_nat (j := 3) rfl, ?_⟩
          refine ⟨_, rfl, _, _, rfl, rfl, (by show (0 : Int) < _; decide), _, rfl, _, _, rfl, rfl, .inl ⟨by decide, by decide⟩, _, rfl, _, _, rfl, rfl, .inr ⟨by omega, by omega⟩, _, _, rfl, rfl, _, rfl, _, _, rfl, rfl, .inl ⟨by decide, by decide⟩, _, _, rfl, rfl, _, _, rfl, rfl, (by show (0 : Int) < _; decide), ?_⟩
          refine ⟨_, rfl, _, rfl, _, _, rfl, rfl, .inl ⟨by omega, by omega⟩, _, rfl, _, _, rfl, rfl, .inl ⟨by decide, by decide⟩, _, _, rfl, rfl, _, _, rfl, rfl, (by show (0 : Int) < _; decide), ?_⟩
          refine ⟨_, rfl, _, rfl, _, _, rfl, rfl, .inl ⟨by omega, by omega⟩, _, rfl, _, _, rfl, rfl, .inl ⟨by decide, by decide⟩, _, _, rfl, rfl, _, _, rfl, rfl, (by show (0 : Int) < _; decide), ?_⟩
          refine ⟨_, rfl, _, rfl, _, _, rfl, rfl, .inl ⟨by omega, by omega⟩, _, rfl, _, _, rfl, rfl, _, _, rfl, rfl, (by show (0 : Int) < _; decide), _, _, rfl, rfl, wide_div (b := 60) (by decide) (by decide) (by omega) (by omega), _, rfl, _, _, rfl, rfl, m0, ?_⟩
          exact back H3 (p + 1) r _ b3 hS3 e3 (by omega) r0 (Int.emod_nonneg _ (by omega)) (Int.emod_lt_of_pos _ m0)
end
theorem scPence : FnScope ["_law_feed_here", "_law_far"] ["_law_feed_here"] (defScope sPence) := ⟨rfl, rfl, rfl, by decide +kernel, rfl, by decide +kernel, by decide +kernel⟩
section
variable {P : Program} {w : World} {K : PySem.W.Frag} {mg : Str → Option Value} {base : Heap}
/-! ### _law_pence -/
def spPence : Sp := fun vs H Q _ => ∃ (F S : Addr) (T : Int), vs = [.ref F] ∧ Feed H F S T ∧ T < 2 ^ 39 ∧
  ∀ H' v, But F H H' → Feed H' F S (T + 5) → 0 ≤ v → v ≤ 10000000000 → Q (.int v) H'
theorem ok_pence {f fR : Addr} {fd fdR : FuncData} (F : Fun K "_law_pence" "_law_pence" sPence f fd) (GR : FnOk P w K mg base CX0 1 fR fdR ["_law_feed_here", "_law_many"] spDraw) (kR : PySem.W.keepIn K (.ref fR) = true)
    (bR : Binds K fdR ["_law_feed_here", "_law_many"] []) (gR : mg "_law_draw" = some (.ref fR)) : FnOk P w K mg base CX0 2 f fd ["_law_feed_here"] spPence := by
  refine F.ok scPence (fun vs H Q E h => ?_) (fun cdv A outer s H vs Q E hr h => ?_)
  · obtain ⟨a, S, T, rfl, _⟩ := h
    rfl
  · obtain ⟨L, S, T, rfl, hF, hT, q⟩ := h
    refine ⟨_, (pss_cons (ps_set (i := 1) scPence.nd rfl (.inl rfl) (pe_op op_sub (pe_op op_pow pe_int pe_int) (pe_call GR (hr.mono (by decide)) (by rfl) gR kR bR .nil pass0 (pa_cons (pv 0) (pa_cons pe_int pa_nil)))))
      (pss_one (ps_ret (pe_ix ix_tup (pe_tup (pa_cons pe_int (pa_cons (pe_call GR (hr.mono (by decide)) (by rfl) gR kR bR .nil pass0 (pa_cons (pv 0) (pa_cons pe_int pa_nil))) (pa_cons (pe_call GR (hr.mono (by decide)) (by rfl) gR kR bR .nil pass0 (pa_cons (pv 0) (pa_cons pe_int pa_nil))) (pa_cons (pe_call GR (hr.mono (by decide)) (by rfl) gR kR bR .nil pass0 (pa_cons (pv 0) (pa_cons (pe_op op_pow pe_int pe_int) pa_nil))) (pa_cons (pv 1) pa_nil)))))) (pe_call GR (hr.mono (by decide)) (by rfl) gR kR bR .nil pass0 (pa_cons (pv 0) (pa_cons pe_int pa_nil))) (fun _ _ => rfl))))), ?_⟩
    refine ⟨_, _, rfl, rfl, ⟨by decide, by decide, by decide⟩, _, rfl, L, S, 30, T, rfl, by decide, by decide, hF, by omega, fun H1 v1 k1 f1 l1 u1 => ?_⟩
    refine ⟨_, _, rfl, rfl, ?_⟩
    refine ⟨_, rfl, L, S, 40, _, rfl, by decide, by decide, f1, by omega, fun H2 v2 k2 f2 l2 u2 => ?_⟩
    refine ⟨_, rfl, L, S, 100000, _, rfl, by decide, by decide, f2, by omega, fun H3 v3 k3 f3 l3 u3 => ?_⟩
    refine ⟨_, rfl, _, _, rfl, rfl, ⟨by decide, by decide, by decide⟩, L, S, 10 ^ 10, _, rfl, by decide, by decide, f3, by omega, fun H4 v4 k4 f4 l4 u4 => ?_⟩
    refine ⟨_, rfl, by show (5 : Nat) ≤ sizeLine; decide, fun tp ntp => ?_⟩
    have s4 : Same H4 (upd H4 tp (.tup [.int 0, .int v2, .int v3, .int v4, .int (10 ^ Int.toNat 10 - v1)])) := same_upd ntp
    refine ⟨_, rfl, L, S, 5, _, rfl, by decide, by decide, f4.same s4, by omega, fun H5 v5 k5 f5 l5 u5 => ?_⟩
    have kk : But L H H5 := (((k1.trans k2).trans k3).trans k4).same s4 |>.trans k5
    have ff : Feed H5 L S (T + 5) := f5.mono (by omega)
    have far : (10 : Int) ^ Int.toNat 10 = 10000000000 := by decide
    obtain ⟨zs, ez⟩ := f4.there
    have nt : tp ≠ L := fun e => by
      rw [e, ez] at ntp
      cases ntp
    have et : H5 tp = some (.tup [.int 0, .int v2, .int v3, .int v4, .int (10 ^ Int.toNat 10 - v1)]) := k5 _ _ nt upd_same
    have tT : SqT K H5 tp [.int 0, .int v2, .int v3, .int v4, .int (10 ^ Int.toNat 10 - v1)] := .inl (.inl et)
    have c : v5 = 0 ∨ v5 = 1 ∨ v5 = 2 ∨ v5 = 3 ∨ v5 = 4 := by omega
    rcases c with rfl | rfl | rfl | rfl | rfl
    · exact ⟨tp, _, 0, _, rfl, rfl, tT, atI_nat (j := 0) rfl, q H5 _ kk ff (by omega) (by omega)⟩
    · exact ⟨tp, _, 1, _, rfl, rfl, tT, atI_nat (j := 1) rfl, q H5 _ kk ff (by omega) (by omega)⟩
    · exact ⟨tp, _, 2, _, rfl, rfl, tT, atI_nat (j := 2) rfl, q H5 _ kk ff (by omega) (by omega)⟩
    · exact ⟨tp, _, 3, _, rfl, rfl, tT, atI_nat (j := 3) rfl, q H5 _ kk ff (by omega) (by omega)⟩
    · exact ⟨tp, _, 4, _, rfl, rfl, tT, atI_nat (j := 4) rfl, q H5 _ kk ff (by omega) (by omega)⟩
end
end K08

set_option Elab.async false
set_option linter.all false
set_option maxRecDepth 100000
namespace K08
open PySem PySem.Spec PyProof.Rows L2 TB

theorem scAdded : FnScope ["_law_rows", "_law_many", "_law_hand", "_law_row"] ["_law_rows", "_law_many"] (defScope sAdded) := ⟨rfl, rfl, rfl, by decide +kernel, rfl, by decide +kernel, by decide +kernel⟩
abbrev lcAdded : Scope := { kind := .function, names := [(".0", .local), ("_law_hand", .cell), ("sum", .globalImplicit), ("_law_rows", .cell)], isGenerator := false, isCoroutine := false }
section
variable {P : Program} {w : World} {K : PySem.W.Frag} {mg : Str → Option Value} {base : Heap}
theorem dRow_at {K : PySem.W.Frag} {H : Hp} {v : V} {r : List Int} (h : Dp K H v (dRow r)) : ∃ a, v = .ref a ∧ SqT K H a (r.map V.int) := by
  obtain ⟨a, xs, rfl, hq, hd⟩ := Dp.tup_inv h
  refine ⟨a, rfl, ?_⟩
  have : xs = r.map V.int := by
    clear hq h
    induction r generalizing xs with
    | nil => exact DpAll.nil_inv hd
    | cons n r ih =>
      obtain ⟨v, vs, rfl, h1, h2⟩ := DpAll.cons_inv hd
      rw [Dp.int_inv h1, ih vs h2]
      rfl
  rw [← this]
  exact hq
/-! ### _law_added -/
def spAdded (K : PySem.W.Frag) : Sp := fun vs H Q _ => ∃ (a : Addr) (xs : List V) (rows : List (List Int)) (m : Nat), vs = [.ref a, .int (m : Int)] ∧ SqL K H a xs ∧ DpAll K H xs (rows.map dRow) ∧ (∀ r ∈ rows, r.length = m) ∧ rows.length ≤ 100 ∧ m ≤ 100 ∧
  ∀ H' o, Same H H' → H o = none → H' o = some (.lst ((tab m fun j => col rows j).map V.int)) → Q (.ref o) H'
theorem ok_added {f : Addr} {fd : FuncData} {k : Nat} (F : Fun K "_law_added" "_law_added" sAdded f fd) (m_range : mg "range" = none) (m_sum : mg "sum" = none) :
    FnOk P w K mg base CX0 (k + 1) f fd ["_law_rows", "_law_many"] (spAdded K) := by
  refine F.ok scAdded (fun vs H Q E h => ?_) (fun cdv A outer s H vs Q E hr h => ?_)
  · obtain ⟨a, xs, rows, m, rfl, _⟩ := h
    rfl
  · obtain ⟨a, xs, rows, m, rfl, hA, hD, hR, hl, hm, q⟩ := h
    refine ⟨_, (pss_one (ps_ret (pe_lc (own := [("_law_hand", 2)]) (g := gName 2) (tt := tYes) (te := tCB (rSum K) (tCons (tLc (iList K (tVar 0)) (gName 3) tYes (tOp (rIxT K) (tVar 3) (tVar 2)) [3]) tNil)) rfl scAdded.nd (pi_range1 (by rfl) m_range (pa_cons (pv 1) pa_nil)) (blkOk_by (own := [("_law_hand", 2)]) (N := ["_law_rows", "_law_many", "_law_hand", "_law_row"]) (sc := defScope sAdded) (by decide +kernel)) (fun _ _ _ _ _ => (pg_name (i := 2) scAdded.nd rfl (.inr rfl))) (fun _ _ _ _ _ => pts_nil) (fun _ _ _ _ _ => (pe_callB (cr_sum rfl) (by rfl) m_sum (by decide +kernel) (pa_cons (pe_lc (own := [("_law_row", 3)]) (g := gName 3) (tt := tYes) (te := tOp (rIxT K) (tVar 3) (tVar 2)) rfl scAdded.nd (pi_list (pv 0)) (blkOk_by (own := [("_law_row", 3)]) (N := ["_law_rows", "_law_many", "_law_hand", "_law_row"]) (sc := lcAdded) (by decide +kernel)) (fun _ _ _ _ _ => (pg_name (i := 3) scAdded.nd rfl (.inl rfl))) (fun _ _ _ _ _ => pts_nil) (fun _ _ _ _ _ => (pe_ix ix_tup (pv 3) (pv 2) (fun _ _ => rfl)))) pa_nil)))))), ?_⟩
    have xl := DpAll.len hD
    rw [List.length_map] at xl
    refine ⟨_, rfl, (m : Int), rfl, by omega, by omega, fun D nD => ?_⟩
    refine lc_range (lo := 0) (n := (m : Int).toNat) (fun i H1 => Same H H1 ∧ H1 D = some (.lst ((tab i fun j => col rows j).map V.int))) ⟨same_upd nD, upd_same⟩ (fun i H1 hi hP => ?_) (fun H1 hP => ?_)
    · obtain ⟨sm, eD⟩ := hP
      have hi' : i < m := by simpa using hi
      refine ⟨rfl, yes (iteT ?_)⟩
      refine ⟨_, rfl, a, rfl, ⟨_, sm.seq hA⟩, fun D2 nD2 => ?_⟩
      have nD21 : H1 D2 = none := nD2
      refine lc_list (xs := xs) (fun n H2 => Same H1 H2 ∧ H2 D2 = some (.lst (((rows.take n).map fun r => r.getD i 0).map V.int))) ⟨same_upd nD2, upd_same⟩ (fun n H2 _ hP => (sm.trans hP.1).seq hA) (fun n x H2 hx hP => ?_) (fun H2 hP => ?_)
      · obtain ⟨s2, e2⟩ := hP
        obtain ⟨d, hd, dx⟩ := DpAll.get hD hx
        obtain ⟨r, hr1, rfl⟩ := map_get hd
        obtain ⟨t, rfl, hT⟩ := dRow_at dx
        have rl := hR r (List.mem_of_getElem? hr1)
        refine ⟨rfl, yes (iteT ?_)⟩
        have gi : r[i]? = some (r.getD i 0) := by
          rw [List.getD_eq_getElem?_getD, List.getElem?_eq_getElem (by omega)]
          rfl
        have gv : (r.map V.int)[i]? = some (V.int (r.getD i 0)) := by
          rw [List.getElem?_map, gi]
          rfl
        refine ⟨_, rfl, _, rfl, t, _, _, _, rfl, rfl, TB.Same.tup (sm.trans s2) hT, (by rw [Int.zero_add]; exact atI_nat gv), _, e2, ?_, same_new nD21 s2, ?_⟩
        · rw [List.length_map, List.length_map]
          have := List.length_take_le n rows
          exact small1000 (by have := List.length_take_le' n rows; omega)
        · rw [upd_same, map_take_more hr1, List.map_append]
          rfl
      · obtain ⟨s2, e2⟩ := hP
        rw [List.take_of_length_le (by omega)] at e2
        refine ⟨D2, _, rfl, .inl (.inl e2), _, s2 _ _ eD, ?_, same_new nD (sm.trans s2), ?_⟩
        · rw [List.length_map, tab_len]
          exact small1000 (by omega)
        · rw [upd_same, tab_succ, List.map_append]
          rfl
    · obtain ⟨sm, eD⟩ := hP
      rw [Int.toNat_natCast] at eD
      exact q H1 D sm nD eD
end
end K08

set_option Elab.async false
set_option linter.all false
set_option maxRecDepth 100000
namespace K08
open PySem PySem.Spec PyProof.Rows L2 TB

theorem scRow : FnScope ["_law_pieces", "_law_many", "_law_told", "_law_begun", "_law_pence_here", "_law_row"] ["_law_pieces", "_law_many", "_law_told"] (defScope sRow) := ⟨rfl, rfl, rfl, by decide +kernel, rfl, by decide +kernel, by decide +kernel⟩
theorem scDeals : FnScope ["_law_feed_here", "_law_many", "_law_one", "_law_other", "_law_begun", "_law_both", "_law_row"] ["_law_feed_here", "_law_many"] (defScope sDeals) := ⟨rfl, rfl, rfl, by decide +kernel, rfl, by decide +kernel, by decide +kernel⟩
theorem shaped_row (ns : List Int) : SeqAt.shaped (dRow ns) = true := by
  have h : ∀ ms : List Int, PyData.canLayAll0 (dInts ms) = true ∧ PyData.depthAll (dInts ms) = 0 := by
    intro ms
    induction ms with
    | nil => exact ⟨rfl, rfl⟩
    | cons m ms ih => exact ⟨by simpa [dInts, PyData.canLayAll0, PyData.canLay0] using ih.1, by simpa [dInts, PyData.depthAll, PyData.depth] using ih.2⟩
  unfold SeqAt.shaped dRow
  simp only [PyData.canLay0, PyData.depth, (h ns).1, (h ns).2]
  decide
theorem eqv_row (ns : List Int) : PyData.eqv (dRow ns) (dRow ns) = true := by
  unfold dRow
  simp only [PyData.eqv]
  exact eqv_ints ns
theorem eqv_lst (ns : List Int) : PyData.eqv (.list (dInts ns)) (.list (dInts ns)) = true := by
  simp only [PyData.eqv]
  exact eqv_ints ns
section
variable {P : Program} {w : World} {K : PySem.W.Frag} {mg : Str → Option Value} {base : Heap}
theorem dp_row {H : Hp} {t : Addr} {r : List Int} (e : SqT K H t (r.map V.int)) : Dp K H (.ref t) (dRow r) := .tup e (dp_ints r)
/-! ### _law_row_right -/
def spRow (K : PySem.W.Frag) : Sp := fun vs H Q _ => ∃ (a o : Addr) (ps : List Int) (m : Nat), vs = [.ref a, .int (m : Int), .ref o] ∧ SqT K H a (ps.map V.int) ∧ RowsAt K H o (deals m ps 0) ∧ (∀ v ∈ ps, 0 ≤ v) ∧ ps.length ≤ 100 ∧ 0 < m ∧ m ≤ 100 ∧
  ∀ H', Same H H' → Q (.bl true) H'
theorem ok_row {f fD : Addr} {fd fdD : FuncData} (F : Fun K "_law_row_right" "_law_row_right" sRow f fd)
    (GD : FnOk P w K mg base CX0 3 fD fdD ["pence", "many", "begun"] spDeal) (kD : PySem.W.keepIn K (.ref fD) = true) (bD : Binds K fdD ["pence", "many", "begun"] []) (gD : mg "deal" = some (.ref fD))
    (m_zip : mg "zip" = none) (m_len : mg "len" = none) (m_sum : mg "sum" = none) (m_min : mg "min" = none) (m_max : mg "max" = none) :
    FnOk P w K mg base CX0 4 f fd ["_law_pieces", "_law_many", "_law_told"] (spRow K) := by
  refine F.ok scRow (fun vs H Q E h => ?_) (fun cdv A outer s H vs Q E hr h => ?_)
  · obtain ⟨a, o, ps, m, rfl, _⟩ := h
    rfl
  · obtain ⟨a, o, ps, m, rfl, hA, hO, hp, hl, m0, m1, q⟩ := h
    refine ⟨_, (pss_cons (ps_set (i := 3) scRow.nd rfl (.inl rfl) pe_int)
      (pss_cons (ps_for PassesOwn.never rfl (pi_zipTL (by rfl) m_zip (pa_cons (pv 0) (pa_cons (pv 2) pa_nil))) (pg_tup rfl (pgs_cons (pg_name (i := 4) scRow.nd rfl (.inl rfl)) (pgs_cons (pg_name (i := 5) scRow.nd rfl (.inl rfl)) pgs_nil))) (pss_cons (ps_if (PW.pt (pw_or (pt_cmpR op_ne (pe_callB call_len_seq (by rfl) m_len (by decide +kernel) (pa_cons (pv 5) pa_nil)) (pv 1) (nomark _)) (pw_or (pt_cmpR op_ne (pe_callB (call_sumT rfl) (by rfl) m_sum (by decide +kernel) (pa_cons (pv 5) pa_nil)) (pv 4) (nomark _)) (pw_or1 (pt_cmpR (op_neD hr.units) (pv 5) (pe_call GD (hr.mono (by decide)) (by rfl) gD kD bD .nil pass0 (pa_cons (pv 4) (pa_cons (pv 1) (pa_cons (pv 3) pa_nil)))) (nomark _)))))) (pss_one (ps_ret pe_bl)) pss_nil)
      (pss_cons (ps_if (PW.pt (pw_or (pt_cmpR op_ne (pe_callB (call_minT rfl) (by rfl) m_min (by decide +kernel) (pa_cons (pv 5) pa_nil)) (pe_op op_fdivW (pv 4) (pv 1)) (nomark _)) (pw_or1 (pt_cmpR op_gt (pe_op op_sub (pe_callB (call_maxT rfl) (by rfl) m_max (by decide +kernel) (pa_cons (pv 5) pa_nil)) (pe_callB (call_minT rfl) (by rfl) m_min (by decide +kernel) (pa_cons (pv 5) pa_nil))) pe_int (nomark _))))) (pss_one (ps_ret pe_bl)) pss_nil)
      (pss_one (ps_aug (i := 3) scRow.nd rfl (.inl rfl) (pv 4) ip_add)))))
      (pss_one (ps_ret (pe_cmpR op_eq (pe_callB call_len_seq (by rfl) m_len (by decide +kernel) (pa_cons (pv 2) pa_nil)) (pe_callB call_len_seq (by rfl) m_len (by decide +kernel) (pa_cons (pv 0) pa_nil)) (nomark _)))))), ?_⟩
    obtain ⟨us, eo, dv⟩ := hO
    have ul := DpAll.len dv
    rw [List.length_map, deals_len] at ul
    refine ⟨_, rfl, _, rfl, a, o, _, _, rfl, hA, .inl (.inl eo), ?_⟩
    have pl : (ps.map V.int).length = us.length := by rw [List.length_map, ul]
    refine for_TL (xs := ps.map V.int) (ys := us) pl (fun i σ H1 => ∃ y z, σ = [some (.ref a), some (.int m), some (.ref o), some (.int (ps.take i).sum), y, z] ∧ Same H H1) ⟨_, _, rfl, Same.refl _⟩ ?_ ?_ ?_
    · rintro i σ H1 ⟨_, _, _, sm⟩
      exact ⟨TB.Same.tup sm hA, sm.seq (.inl (.inl eo))⟩
    · rintro i x y T σ H1 hx hy ⟨y1, z1, rfl, sm⟩ nT
      obtain ⟨p, hpi, rfl⟩ := map_get hx
      obtain ⟨d, hd, dy⟩ := DpAll.get dv hy
      obtain ⟨r, hr1, rfl⟩ := map_get hd
      rw [deals_get hpi, Int.zero_add] at hr1
      cases Option.some.inj hr1
      obtain ⟨t, rfl, hT⟩ := dRow_at dy
      have p0 : 0 ≤ p := hp p (List.mem_of_getElem? hpi)
      have b0 : 0 ≤ (ps.take i).sum := sum_nn fun v hv => hp v (List.mem_of_mem_take hv)
      generalize hb : (ps.take i).sum = b at *
      have s1 : Same H (upd H1 T (.tup [.int p, .ref t])) := sm.trans (same_upd nT)
      generalize hH2 : upd H1 T (.tup [V.int p, V.ref t]) = H2 at *
      have eT : H2 T = some (.tup [.int p, .ref t]) := by
        rw [← hH2]
        exact upd_same
      clear hH2
      have hT2 : SqT K H2 t ((part p m b).map V.int) := TB.Same.tup s1 hT
      have tl := part_len p m b
      refine ⟨T, _, rfl, .inl (.inl eT), rfl, _, _, rfl, _, _, rfl, rfl, ?_⟩
      have ne0 : 0 < (part p m b).length := by omega
      -- if len(row) != many or ..
      refine ⟨_, rfl, t, _, rfl, .inr hT2, _, rfl, rfl, _, rfl, iteNS (by rw [List.length_map, tl]) ?_⟩
      refine ⟨_, rfl, t, part p m b, rfl, hT2, _, rfl, rfl, _, rfl, iteNS (by rw [sum_part m0 p0 b0]) ?_⟩
      refine ⟨_, rfl, _, rfl, _, rfl, _, rfl, p, b, m, rfl, m0, by omega, fun H3 t3 s3 n3 e3 => ?_⟩
      have hT3 : SqT K H3 t ((part p m b).map V.int) := TB.Same.tup s3 hT2
      refine ⟨dRow (part p m b), dRow (part p m b), dp_row hT3, dp_row (.inl (.inl e3)), shaped_row _, shaped_row _, _, rfl, ?_⟩
      rw [eqv_row]
      refine iteF ?_
      -- if min(row) != ..
      refine ⟨_, rfl, t, part p m b, rfl, hT3, ne0, fun v hv hl1 => ?_⟩
      refine ⟨_, rfl, _, rfl, p, m, rfl, rfl, wide_div (b := 60) (by omega) (by omega) (by omega) (by omega), rfl, _, rfl, iteNS (by rw [min_part m0 p0 b0 hv hl1]) ?_⟩
      refine ⟨_, rfl, t, part p m b, rfl, hT3, ne0, fun v1 hv1 _ => ?_⟩
      refine ⟨_, rfl, t, part p m b, rfl, hT3, ne0, fun v2 hv2 _ => ?_⟩
      have cl := part_close m0 hv1 hv2
      refine ⟨_, _, rfl, rfl, _, _, rfl, rfl, _, rfl, ite2 (fun c => ?_) (fun _ => ?_)⟩
      · have c' : (1 : Int) < v1 - v2 := of_decide_eq_true c
        omega
      refine ⟨_, rfl, _, rfl, _, _, rfl, rfl, some (.int p), some (.ref t), ?_, s1.trans s3⟩
      rw [take_more hpi, List.sum_append, hb]
      simp
    · rintro σ H1 ⟨y, z, rfl, sm⟩
      refine ⟨_, rfl, o, _, rfl, .inl (sm.seq (.inl (.inl eo))), _, rfl, a, _, rfl, .inr (TB.Same.tup sm hA), ?_⟩
      refine ⟨rfl, ?_⟩
      show Q (.bl (decide _)) _
      rw [decide_eq_true (by rw [pl])]
      exact q _ sm
/-! ### _law_deals_right -/
def spDeals : Sp := fun vs H Q _ => ∃ (F S : Addr) (T : Int) (m : Nat), vs = [.ref F, .int (m : Int)] ∧ Feed H F S T ∧ T < 2 ^ 38 ∧ 0 < m ∧ m ≤ 100 ∧
  ∀ H', But F H H' → Feed H' F S (T + 16) → Q (.bl true) H'
theorem ok_deals {f fD fR fP fA : Addr} {fd fdD fdR fdP fdA : FuncData} (F : Fun K "_law_deals_right" "_law_deals_right" sDeals f fd)
    (GR : FnOk P w K mg base CX0 1 fR fdR ["_law_feed_here", "_law_many"] spDraw) (kR : PySem.W.keepIn K (.ref fR) = true) (bR : Binds K fdR ["_law_feed_here", "_law_many"] []) (gR : mg "_law_draw" = some (.ref fR))
    (GP : FnOk P w K mg base CX0 2 fP fdP ["_law_feed_here"] spPence) (kP : PySem.W.keepIn K (.ref fP) = true) (bP : Binds K fdP ["_law_feed_here"] []) (gP : mg "_law_pence" = some (.ref fP))
    (GA : FnOk P w K mg base CX0 1 fA fdA ["_law_rows", "_law_many"] (spAdded K)) (kA : PySem.W.keepIn K (.ref fA) = true) (bA : Binds K fdA ["_law_rows", "_law_many"] []) (gA : mg "_law_added" = some (.ref fA))
    (GD : FnOk P w K mg base CX0 3 fD fdD ["pence", "many", "begun"] spDeal) (kD : PySem.W.keepIn K (.ref fD) = true) (bD : Binds K fdD ["pence", "many", "begun"] []) (gD : mg "deal" = some (.ref fD))
    (m_list : mg "list" = none) :
    FnOk P w K mg base CX0 4 f fd ["_law_feed_here", "_law_many"] spDeals := by
  refine F.ok scDeals (fun vs H Q E h => ?_) (fun cdv A outer s H vs Q E hr h => ?_)
  · obtain ⟨a, S, T, m, rfl, _⟩ := h
    rfl
  · obtain ⟨L, S, T, m, rfl, hF, hT, m0, m1, q⟩ := h
    refine ⟨_, (pss_cons (ps_par3 (i := 2) (j := 3) (l := 4) (by rfl) scDeals.nd rfl rfl rfl (by decide) (by decide) (by decide) rfl rfl rfl (pa_cons (pe_call GP (hr.mono (by decide)) (by rfl) gP kP bP .nil pass0 (pa_cons (pv 0) pa_nil)) (pa_cons (pe_call GP (hr.mono (by decide)) (by rfl) gP kP bP .nil pass0 (pa_cons (pv 0) pa_nil)) (pa_cons (pe_call GP (hr.mono (by decide)) (by rfl) gP kP bP .nil pass0 (pa_cons (pv 0) pa_nil)) pa_nil))) (by rfl))
      (pss_cons (ps_set (i := 5) scDeals.nd rfl (.inl rfl) (pe_call GA (hr.mono (by decide)) (by rfl) gA kA bA .nil pass0 (pa_cons (pe_lst (pa_cons (pe_call GD (hr.mono (by decide)) (by rfl) gD kD bD .nil pass0 (pa_cons (pv 2) (pa_cons (pv 1) (pa_cons (pv 4) pa_nil)))) (pa_cons (pe_call GD (hr.mono (by decide)) (by rfl) gD kD bD .nil pass0 (pa_cons (pv 3) (pa_cons (pv 1) (pa_cons (pe_op op_add (pv 4) (pv 2)) pa_nil)))) pa_nil))) (pa_cons (pv 1) pa_nil))))
      (pss_cons (ps_if (pt_cmpR (op_neD hr.units) (pv 5) (pe_callTy call_list_of (by rfl) m_list (by decide +kernel) (pa_cons (pe_call GD (hr.mono (by decide)) (by rfl) gD kD bD .nil pass0 (pa_cons (pe_op op_add (pv 2) (pv 3)) (pa_cons (pv 1) (pa_cons (pv 4) pa_nil)))) pa_nil)) (nomark _)) (pss_one (ps_ret pe_bl)) pss_nil)
      (pss_cons (ps_if (pt_cmpR (op_neD hr.units) (pe_call GD (hr.mono (by decide)) (by rfl) gD kD bD .nil pass0 (pa_cons (pv 2) (pa_cons (pv 1) (pa_cons (pe_op op_add (pv 4) (pe_op op_mul (pv 1) (pe_call GR (hr.mono (by decide)) (by rfl) gR kR bR .nil pass0 (pa_cons (pv 0) (pa_cons pe_int pa_nil))))) pa_nil)))) (pe_call GD (hr.mono (by decide)) (by rfl) gD kD bD .nil pass0 (pa_cons (pv 2) (pa_cons (pv 1) (pa_cons (pv 4) pa_nil)))) (nomark _)) (pss_one (ps_ret pe_bl)) pss_nil)
      (pss_cons (ps_set (i := 6) scDeals.nd rfl (.inl rfl) (pe_call GD (hr.mono (by decide)) (by rfl) gD kD bD .nil pass0 (pa_cons (pv 2) (pa_cons (pv 1) (pa_cons (pv 4) pa_nil)))))
      (pss_one (ps_ret (pe_cmpR (op_eqD hr.units) (pe_call GD (hr.mono (by decide)) (by rfl) gD kD bD .nil pass0 (pa_cons (pv 2) (pa_cons (pv 1) (pa_cons (pe_op op_add (pv 4) pe_int) pa_nil)))) (pe_op op_catA (pe_slice sl_tupA (pv 6) (po_some (pe_un un_neg pe_int)) po_none) (pe_slice sl_tupA (pv 6) po_none (po_some (pe_un un_neg pe_int)))) (nomark _))))))))), ?_⟩
    refine ⟨_, rfl, L, S, _, rfl, hF, by omega, fun H1 p k1 f1 p0 p1 => ?_⟩
    refine ⟨_, rfl, L, S, _, rfl, f1, by omega, fun H2 o k2 f2 o0 o1 => ?_⟩
    refine ⟨_, rfl, L, S, _, rfl, f2, by omega, fun H3 b k3 f3 b0 b1 => ?_⟩
    refine ⟨_, _, _, rfl, ?_⟩
    -- both
    refine ⟨_, rfl, _, rfl, _, rfl, p, b, m, rfl, m0, by omega, fun H4 t4 s4 n4 e4 => ?_⟩
    refine ⟨_, rfl, _, rfl, _, rfl, _, rfl, _, _, rfl, rfl, o, b + p, m, rfl, m0, by omega, fun H5 t5 s5 n5 e5 => ?_⟩
    refine ⟨by show (2 : Nat) ≤ sizeLine; decide, fun l6 n6 => ?_⟩
    have s6 : Same H5 (upd H5 l6 (.lst [.ref t4, .ref t5])) := same_upd n6
    generalize hH6 : upd H5 l6 (.lst [V.ref t4, V.ref t5]) = H6 at *
    have e6 : H6 l6 = some (.lst [.ref t4, .ref t5]) := by
      rw [← hH6]
      exact upd_same
    clear hH6
    have rows : ∀ r ∈ [part p m b, part o m (b + p)], r.length = m := by
      intro r hr
      rcases List.mem_cons.mp hr with rfl | hr
      · exact part_len _ _ _
      · rcases List.mem_cons.mp hr with rfl | hr
        · exact part_len _ _ _
        · cases hr
    refine ⟨_, rfl, l6, _, [part p m b, part o m (b + p)], m, rfl, .inl (.inl e6), .cons (dp_row (.inl (.inl (s6 _ _ (s5 _ _ e4))))) (.cons (dp_row (.inl (.inl (s6 _ _ e5)))) .nil), rows, by show (2 : Nat) ≤ 100; decide, m1, fun H7 l7 s7 n7 e7 => ?_⟩
    have two : (tab m fun j => col [part p m b, part o m (b + p)] j) = part (p + o) m b := by
      rw [← part_add]
      exact tab_congr fun j h0 h1 => col_two m h0 h1 p o b
    rw [two] at e7
    -- if both != list(..)
    refine ⟨_, rfl, _, rfl, _, rfl, _, _, rfl, rfl, _, rfl, _, rfl, p + o, b, m, rfl, m0, by omega, fun H8 t8 s8 n8 e8 => ?_⟩
    refine ⟨t8, _, rfl, .inr (.inl (.inl e8)), fun l9 n9 => ?_⟩
    have s9 : Same H8 (upd H8 l9 (.lst ((part (p + o) m b).map V.int))) := same_upd n9
    generalize hH9 : upd H8 l9 (.lst ((part (p + o) m b).map V.int)) = H9 at *
    have e9 : H9 l9 = some (.lst ((part (p + o) m b).map V.int)) := by
      rw [← hH9]
      exact upd_same
    clear hH9
    refine ⟨.list (dInts (part (p + o) m b)), .list (dInts (part (p + o) m b)), .lst (.inl (.inl (s9 _ _ (s8 _ _ e7)))) (dp_ints _), .lst (.inl (.inl e9)) (dp_ints _), shaped_ints _, shaped_ints _, _, rfl, ?_⟩
    rw [eqv_lst]
    refine iteF ?_
    have s39 : Same H3 H9 := ((((s4.trans s5).trans s6).trans s7).trans s8).trans s9
    -- rounds
    refine ⟨_, rfl, _, rfl, _, rfl, _, rfl, _, rfl, L, S, 1000, _, rfl, by decide, by decide, f3.same s39, by omega, fun H10 k k10 f10 k0 k1000 => ?_⟩
    refine ⟨_, _, rfl, rfl, .inl ⟨by omega, by omega⟩, _, _, rfl, rfl, p, b + m * k, m, rfl, m0, by omega, fun H11 t11 s11 n11 e11 => ?_⟩
    rw [part_round m0] at e11
    refine ⟨_, rfl, _, rfl, _, rfl, p, b, m, rfl, m0, by omega, fun H12 t12 s12 n12 e12 => ?_⟩
    refine ⟨dRow (part p m b), dRow (part p m b), dp_row (.inl (.inl (s12 _ _ e11))), dp_row (.inl (.inl e12)), shaped_row _, shaped_row _, _, rfl, ?_⟩
    rw [eqv_row]
    refine iteF ?_
    -- one later
    refine ⟨_, rfl, _, rfl, _, rfl, p, b, m, rfl, m0, by omega, fun H13 t13 s13 n13 e13 => ?_⟩
    refine ⟨_, rfl, _, rfl, _, rfl, _, _, rfl, rfl, p, b + 1, m, rfl, m0, by omega, fun H14 t14 s14 n14 e14 => ?_⟩
    obtain ⟨n, rfl⟩ : ∃ n, m = n + 1 := ⟨m - 1, by omega⟩
    have h13 : SqT K H14 t13 ((part p (n + 1) b).map V.int) := .inl (.inl (s14 _ _ e13))
    rw [part_last, List.map_append] at h13
    refine ⟨_, rfl, _, rfl, _, rfl, ?_⟩
    show tNoPart _ _ _
    unfold tNoPart
    show rSlA _ _ (some (-1)) none _ _
    refine slA h13 fun H15 r1 s15 h15 => ?_
    refine ⟨_, rfl, _, rfl, _, rfl, ?_⟩
    show rSlA _ _ none (some (-1)) _ _
    refine slA (TB.Same.tup s15 h13) fun H16 r2 s16 h16 => ?_
    have h15 : SqT K H15 r1 [V.int (nb (b + p) (n + 1 : Nat) n - nb b (n + 1 : Nat) n)] := by
      have z := h15
      rw [List.map_singleton, cut_last] at z
      exact z
    have h16 : SqT K H16 r2 ((tab n fun j => nb (b + p) (n + 1 : Nat) j - nb b (n + 1 : Nat) j).map V.int) := by
      have z := h16
      rw [List.map_singleton, cut_init] at z
      exact z
    refine catA (TB.Same.tup s16 h15) h16 (by rw [List.length_map, tab_len, List.length_singleton]; exact Nat.le_of_lt (small1000 (by omega))) fun H17 r3 s17 h17 => ?_
    have h17 : SqT K H17 r3 ((part p (n + 1) (b + 1)).map V.int) := by
      rw [part_turn, List.map_append]
      exact h17
    refine ⟨dRow (part p (n + 1) (b + 1)), dRow (part p (n + 1) (b + 1)), dp_row (.inl (.inl (s17 _ _ (s16 _ _ (s15 _ _ e14))))), dp_row h17, shaped_row _, shaped_row _, ?_⟩
    rw [eqv_row]
    refine q _ ?_ ?_
    · exact ((((((k1.trans k2).trans k3).same s39).trans k10).same s11).same s12).same (((((s13.trans s14).trans s15).trans s16).trans s17))
    · exact ((f10.same s11).same s12).same (((((s13.trans s14).trans s15).trans s16).trans s17)) |>.mono (by omega)
end
end K08

set_option Elab.async false
set_option linter.all false
set_option maxRecDepth 100000
namespace K08
open PySem PySem.Spec PyProof.Rows L2 TB

theorem scLaw : FnScope ["_law_script", "_law_feed_here", "_law_turn", "_law_pieces", "_law_many", "_law_told", "_law_begin", "_law_own", "_law_k"] ["_law_script"] (defScope sLaw) := ⟨rfl, rfl, rfl, by decide +kernel, rfl, by decide +kernel, by decide +kernel⟩
theorem DpAll.drop {K : PySem.W.Frag} {H : Hp} : ∀ {vs : List V} {ds : List PyData} (i : Nat), DpAll K H vs ds → DpAll K H (vs.drop i) (ds.drop i)
  | _, _, 0, h => h
  | _, _, i + 1, .nil => .nil
  | _, _, i + 1, .cons _ t => DpAll.drop i t
theorem DpAll.take {K : PySem.W.Frag} {H : Hp} : ∀ {vs : List V} {ds : List PyData} (i : Nat), DpAll K H vs ds → DpAll K H (vs.take i) (ds.take i)
  | _, _, 0, h => by
    rw [List.take_zero, List.take_zero]
    exact .nil
  | _, _, i + 1, .nil => .nil
  | _, _, i + 1, .cons a t => .cons a (DpAll.take i t)
section
variable {P : Program} {w : World} {K : PySem.W.Frag} {mg : Str → Option Value} {base : Heap}
/-! ### the law -/
def spLaw (K : PySem.W.Frag) : Sp := fun vs H Q _ => ∃ (a : Addr) (ns : List Int), vs = [.ref a] ∧ SqL K H a (ns.map V.int) ∧ ns.length ≤ 63 ∧ ∀ H', Q (.bl true) H'
theorem ok_law {f fFd fR fP fO fA fRr fDr : Addr} {fd fdFd fdR fdP fdO fdA fdRr fdDr : FuncData} (F : Fun K "law" "law" sLaw f fd)
    (GFd : FnOk P w K mg base CX0 1 fFd fdFd ["_law_script"] (spFeed K)) (kFd : PySem.W.keepIn K (.ref fFd) = true) (bFd : Binds K fdFd ["_law_script"] []) (gFd : mg "_law_feed" = some (.ref fFd))
    (GR : FnOk P w K mg base CX0 1 fR fdR ["_law_feed_here", "_law_many"] spDraw) (kR : PySem.W.keepIn K (.ref fR) = true) (bR : Binds K fdR ["_law_feed_here", "_law_many"] []) (gR : mg "_law_draw" = some (.ref fR))
    (GP : FnOk P w K mg base CX0 2 fP fdP ["_law_feed_here"] spPence) (kP : PySem.W.keepIn K (.ref fP) = true) (bP : Binds K fdP ["_law_feed_here"] []) (gP : mg "_law_pence" = some (.ref fP))
    (GO : FnOk P w K mg base CX0 4 fO fdO ["pieces", "many"] (spOn K)) (kO : PySem.W.keepIn K (.ref fO) = true) (bO : Binds K fdO ["pieces", "many"] []) (gO : mg "dealt_on" = some (.ref fO))
    (GA : FnOk P w K mg base CX0 1 fA fdA ["_law_rows", "_law_many"] (spAdded K)) (kA : PySem.W.keepIn K (.ref fA) = true) (bA : Binds K fdA ["_law_rows", "_law_many"] []) (gA : mg "_law_added" = some (.ref fA))
    (GRr : FnOk P w K mg base CX0 4 fRr fdRr ["_law_pieces", "_law_many", "_law_told"] (spRow K)) (kRr : PySem.W.keepIn K (.ref fRr) = true) (bRr : Binds K fdRr ["_law_pieces", "_law_many", "_law_told"] []) (gRr : mg "_law_row_right" = some (.ref fRr))
    (GDr : FnOk P w K mg base CX0 4 fDr fdDr ["_law_feed_here", "_law_many"] spDeals) (kDr : PySem.W.keepIn K (.ref fDr) = true) (bDr : Binds K fdDr ["_law_feed_here", "_law_many"] []) (gDr : mg "_law_deals_right" = some (.ref fDr))
    (m_range : mg "range" = none) (m_tuple : mg "tuple" = none) (m_len : mg "len" = none) (m_max : mg "max" = none) (m_min : mg "min" = none) :
    FnG P w K mg base CX0 5 f fd ["_law_script"] (spLaw K) := by
  refine gok F scLaw (fun vs H Q E h => ?_) (fun cdv A gd outer s H vs Q E hr h => ?_)
  · obtain ⟨a, ns, rfl, _⟩ := h
    rfl
  · obtain ⟨a, ns, rfl, hS, hlen, q⟩ := h
    refine ⟨_, (pss_cons (ps_set (i := 1) scLaw.nd rfl (.inr rfl) (pe_call GFd (hr.mono (by decide)) (by rfl) gFd kFd bFd .nil pass0 (pa_cons (pv 0) pa_nil)))
      (pss_cons (ps_for PassesOwn.never rfl (pi_range1 (by rfl) m_range (pa_cons pe_int pa_nil)) (pg_name (i := 2) scLaw.nd rfl (.inl rfl)) (pss_cons (ps_set (i := 3) scLaw.nd rfl (.inl rfl) (pe_callTy call_tuple_of (by rfl) m_tuple (by decide +kernel) (pa_cons (pe_lc (own := [("_law_k", 8)]) (g := gName 8) (tt := tYes) rfl scLaw.nd (pi_range1 (by rfl) m_range (pa_cons (pe_call GR (hr.mono (by decide)) (by rfl) gR kR bR .nil pass0 (pa_cons (pv 1) (pa_cons (pe_ix ix_tup (pe_tup (pa_cons pe_int (pa_cons pe_int pa_nil))) (pe_op op_fdivW (pe_call GR (hr.mono (by decide)) (by rfl) gR kR bR .nil pass0 (pa_cons (pv 1) (pa_cons pe_int pa_nil))) pe_int) (fun _ _ => rfl)) pa_nil))) pa_nil)) (blkOk_by (own := [("_law_k", 8)]) (N := ["_law_script", "_law_feed_here", "_law_turn", "_law_pieces", "_law_many", "_law_told", "_law_begin", "_law_own", "_law_k"]) (sc := defScope sLaw) (by decide +kernel)) (fun _ _ _ _ _ => (pg_name (i := 8) scLaw.nd rfl (.inl rfl))) (fun _ _ _ _ _ => pts_nil) (fun _ _ _ _ _ => (pe_call GP (hr.mono (by decide)) (by rfl) gP kP bP .nil pass0 (pa_cons (pv 1) pa_nil)))) pa_nil)))
      (pss_cons (ps_set (i := 4) scLaw.nd rfl (.inl rfl) (pe_op op_add pe_int (pe_call GR (hr.mono (by decide)) (by rfl) gR kR bR .nil pass0 (pa_cons (pv 1) (pa_cons pe_int pa_nil)))))
      (pss_cons (ps_set (i := 5) scLaw.nd rfl (.inl rfl) (pe_call GO (hr.mono (by decide)) (by rfl) gO kO bO .nil pass0 (pa_cons (pv 3) (pa_cons (pv 4) pa_nil))))
      (pss_cons (ps_if (PW.pt (pw_or (pt_not (pt_val (pe_call GRr (hr.mono (by decide)) (by rfl) gRr kRr bRr .nil pass0 (pa_cons (pv 3) (pa_cons (pv 4) (pa_cons (pv 5) pa_nil)))))) (pw_or1 (pt_not (pt_val (pe_call GDr (hr.mono (by decide)) (by rfl) gDr kDr bDr .nil pass0 (pa_cons (pv 1) (pa_cons (pv 4) pa_nil)))))))) (pss_one (ps_ret pe_bl)) pss_nil)
      (pss_one (ps_for PassesOwn.never rfl (pi_range1 (by rfl) m_range (pa_cons (pe_callB call_len_seq (by rfl) m_len (by decide +kernel) (pa_cons (pv 3) pa_nil)) pa_nil)) (pg_name (i := 6) scLaw.nd rfl (.inl rfl)) (pss_cons (ps_set (i := 7) scLaw.nd rfl (.inl rfl) (pe_call GA (hr.mono (by decide)) (by rfl) gA kA bA .nil pass0 (pa_cons (pe_slice sl_list (pv 5) (po_some (pv 6)) (po_some (pe_op op_add (pe_op op_add (pv 6) pe_int) (pe_call GR (hr.mono (by decide)) (by rfl) gR kR bR .nil pass0 (pa_cons (pv 1) (pa_cons (pe_callB call_len_seq (by rfl) m_len (by decide +kernel) (pa_cons (pv 3) pa_nil)) pa_nil)))))) (pa_cons (pv 4) pa_nil))))
      (pss_one (ps_if (pt_cmpR op_gt (pe_op op_sub (pe_callB (cr_max rfl) (by rfl) m_max (by decide +kernel) (pa_cons (pv 7) pa_nil)) (pe_callB (cr_min rfl) (by rfl) m_min (by decide +kernel) (pa_cons (pv 7) pa_nil))) pe_int (nomark _)) (pss_one (ps_ret pe_bl)) pss_nil))))))))))
      (pss_one (ps_ret pe_bl)))), ?_⟩
    refine ⟨_, rfl, a, ns, rfl, hS, by omega, fun H0 L S s1 nL f0 => ?_⟩
    refine ⟨3, rfl, by decide, by decide, ?_⟩
    refine for_range (lo := 0) (n := (3 : Int).toNat) (fun i σ H2 => ∃ y2 y3 y4 y5 y6 y7, σ = [some (.ref a), some (.ref L), y2, y3, y4, y5, y6, y7, none] ∧ Feed H2 L S (300 * i)) ⟨_, _, _, _, _, _, rfl, f0.mono (by omega)⟩ ?_ ?_
    · rintro i σ H ht ⟨y2, y3, y4, y5, y6, y7, rfl, hF⟩
      have hi : i < 3 := ht
      generalize hTT : (300 * (i : Int)) = T at hF
      have hT : T < 1000 := by omega
      -- how many
      refine ⟨.ref L, rfl, by show (2 : Nat) ≤ sizeLine; decide, fun t1 n1 => ?_⟩
      have s0 : Same H (upd H t1 (.tup [.int 6, .int 41])) := same_upd n1
      refine ⟨_, rfl, L, S, 3, T, rfl, by decide, by decide, hF.same s0, by omega, fun H1 v1 k1 f1 l1 u1 => ?_⟩
      refine ⟨_, _, rfl, rfl, wide_div (b := 60) (by decide) (by decide) (by omega) (by omega), ?_⟩
      have nt1 : t1 ≠ L := (hF.ne n1).1
      have et1 : SqT K H1 t1 [.int 6, .int 41] := .inl (.inl (k1 _ _ nt1 upd_same))
      obtain ⟨x, hx, x0, x1⟩ : ∃ x : Int, atI [V.int 6, V.int 41] (v1 / 2) = some (.int x) ∧ 0 < x ∧ x ≤ 41 := by
        have c : v1 / 2 = 0 ∨ v1 / 2 = 1 := by omega
        rcases c with c | c
        · rw [c]
          exact ⟨6, rfl, by decide, by decide⟩
        · rw [c]
          exact ⟨41, rfl, by decide, by decide⟩
      refine ⟨t1, _, _, _, rfl, rfl, et1, hx, L, S, x, _, rfl, x0, by omega, f1, by omega, fun H2 n k2 f2 l2 u2 => ?_⟩
      refine ⟨n, rfl, by omega, by omega, fun D nD => ?_⟩
      have nD2 := f2.ne nD
      -- the pieces
      refine lc_range (lo := 0) (n := n.toNat) (fun i H3 => Feed H3 L S (T + 2 + 5 * i) ∧ ∃ vs : List Int, vs.length = i ∧ (∀ v ∈ vs, 0 ≤ v ∧ v ≤ 10000000000) ∧ H3 D = some (.lst (vs.map V.int)))
        ⟨(f2.same (same_upd nD)).mono (by omega), [], rfl, (fun v hv => by cases hv), upd_same⟩ (fun i H3 hi hP => ?_) (fun H3 hP => ?_)
      · obtain ⟨f3, vs, hl, hv, eD⟩ := hP
        refine ⟨rfl, yes (iteT ?_)⟩
        refine ⟨_, rfl, L, S, _, rfl, f3, by omega, fun H4 v k4 f4 l4 u4 => ?_⟩
        have eD4 := k4 _ _ nD2.1 eD
        refine ⟨_, eD4, ?_, ?_, vs ++ [v], ?_, ?_, ?_⟩
        · rw [List.length_map]
          exact small1000 (by omega)
        · exact (f4.upd nD2).mono (by omega)
        · rw [List.length_append, hl]
          rfl
        · intro y hy
          rcases List.mem_append.mp hy with z | z
          · exact hv y z
          · rw [List.mem_singleton.mp z]
            exact ⟨l4, u4⟩
        · rw [upd_same, List.map_append]
          rfl
      · obtain ⟨f3, vs, hl, hv, eD⟩ := hP
        have hvl : vs.length ≤ 41 := by omega
        refine ⟨D, _, rfl, .inl ⟨.inl (.inl eD), fun tp ntp => ?_⟩⟩
        have s4 : Same H3 (upd H3 tp (.tup (vs.map V.int))) := same_upd ntp
        generalize hH4 : upd H3 tp (.tup (vs.map V.int)) = H4 at s4
        have et4 : H4 tp = some (.tup (vs.map V.int)) := by
          rw [← hH4]
          exact upd_same
        clear hH4
        have f4 := f3.same s4
        have ntL := (f3.ne ntp).1
        -- many
        refine ⟨_, rfl, L, S, 12, _, rfl, by decide, by decide, f4, by omega, fun H5 v k5 f5 l5 u5 => ?_⟩
        have et5 := k5 _ _ ntL et4
        refine ⟨_, _, rfl, rfl, ?_⟩
        obtain ⟨m, hm⟩ : ∃ m : Nat, 1 + v = (m : Int) := ⟨(1 + v).toNat, by omega⟩
        have m0 : 0 < m := by omega
        have m1 : m ≤ 12 := by omega
        show tSeq _ _ _ [some (.ref a), some (.ref L), some (.int (0 + (i : Int))), some (.ref tp), some (.int (1 + v)), y5, y6, y7, none] _
        rw [hm]
        -- told
        refine ⟨_, rfl, _, rfl, tp, vs, m, rfl, .inl (.inl et5), by omega, m0, by omega, fun H6 o s6 no hR => ?_⟩
        have f6 := f5.same s6
        have noL := (f5.ne no).1
        have et6 := s6 _ _ et5
        refine ⟨_, rfl, _, rfl, _, rfl, tp, o, vs, m, rfl, .inl (.inl et6), hR, (fun v hv1 => (hv v hv1).1), by omega, m0, by omega, fun H7 s7 => ?_⟩
        refine ⟨true, rfl, iteF ?_⟩
        refine ⟨_, rfl, _, rfl, L, S, _, m, rfl, f6.same s7, by omega, m0, by omega, fun H8 k8 f8 => ?_⟩
        refine ⟨true, rfl, iteF ?_⟩
        have hR7 := hR.same s7
        obtain ⟨us, eo, dv⟩ := hR7
        obtain ⟨zs, ez⟩ := (f6.same s7).there
        have eo8 := k8 _ _ noL eo
        have dv8 : DpAll K H8 us ((deals m vs 0).map dRow) := DpAll.but k8 ez _ _ (noL_rows _) dv
        have et8 := k8 _ _ ntL (s7 _ _ et6)
        have ul := DpAll.len dv
        rw [List.length_map, deals_len] at ul
        -- all windows
        refine ⟨_, rfl, tp, _, rfl, .inr (.inl (.inl et8)), _, rfl, by omega, ?_, ?_⟩
        · rw [List.length_map]
          omega
        rw [List.length_map]
        refine for_range (lo := 0) (n := (vs.length : Int).toNat) (fun j σ H9 => ∃ y6 y7, σ = [some (.ref a), some (.ref L), some (.int (0 + (i : Int))), some (.ref tp), some (.int m), some (.ref o), y6, y7, none] ∧ Feed H9 L S (T + 240 + j) ∧ H9 tp = some (.tup (vs.map V.int)) ∧ H9 o = some (.lst us) ∧ DpAll K H9 us ((deals m vs 0).map dRow)) ⟨_, _, rfl, f8.mono (by omega), et8, eo8, dv8⟩ ?_ ?_
        · rintro j σ H9 hj ⟨y6, y7, rfl, f9, et9, eo9, dv9⟩
          have hj' : j < vs.length := by simpa using hj
          refine ⟨_, rfl, _, rfl, _, rfl, _, rfl, _, _, rfl, rfl, _, rfl, _, rfl, tp, _, rfl, .inr (.inl (.inl et9)), ?_⟩
          refine ⟨L, S, ((vs.map V.int).length : Int), _, rfl, (by rw [List.length_map]; omega), (by rw [List.length_map]; omega), f9, by omega, fun H10 d k10 f10 d0 d1 => ?_⟩
          obtain ⟨zs9, ez9⟩ := f9.there
          have eo10 := k10 _ _ noL eo9
          have et10 := k10 _ _ ntL et9
          have dv10 : DpAll K H10 us ((deals m vs 0).map dRow) := DpAll.but k10 ez9 _ _ (noL_rows _) dv9
          refine ⟨_, _, rfl, rfl, _, rfl, o, us, rfl, .inl (.inl eo10), fun l nl => ?_⟩
          have sl : Same H10 (upd H10 l (.lst (cutV us (some (0 + (j : Int))) (some (0 + (j : Int) + 1 + d))))) := same_upd nl
          have el : (upd H10 l (.lst (cutV us (some (0 + (j : Int))) (some (0 + (j : Int) + 1 + d))))) l = some (.lst (cutV us (some (0 + (j : Int))) (some (0 + (j : Int) + 1 + d)))) := upd_same
          generalize (upd H10 l (.lst (cutV us (some (0 + (j : Int))) (some (0 + (j : Int) + 1 + d))))) = H11 at *
          unfold cutV at el
          generalize HT.sIx us.length 0 (some (0 + (j : Int))) = lo at el
          generalize HT.sIx us.length us.length (some (0 + (j : Int) + 1 + d)) - lo = wd at el
          have rowsE : (((deals m vs 0).map dRow).drop lo).take wd = (deals m ((vs.drop lo).take wd) (0 + (vs.take lo).sum)).map dRow := by
            rw [← List.map_drop, ← List.map_take, deals_cut]
          have dv11 : DpAll K H11 ((us.drop lo).take wd) ((deals m ((vs.drop lo).take wd) (0 + (vs.take lo).sum)).map dRow) := by
            rw [← rowsE]
            exact DpAll.take wd (DpAll.drop lo (DpAll.same sl _ _ dv10))
          refine ⟨_, rfl, l, _, _, m, rfl, .inl (.inl el), dv11, deals_rows _ _, ?_, by omega, fun H12 l2 s12 nl2 e12 => ?_⟩
          · rw [deals_len]
            have := List.length_take_le' wd (vs.drop lo)
            rw [List.length_drop] at this
            omega
          have tabE : (tab m fun j => col (deals m ((vs.drop lo).take wd) (0 + (vs.take lo).sum)) j) = part ((vs.drop lo).take wd).sum m (0 + (vs.take lo).sum) := tab_congr fun j h0 h1 => col_deals h0 h1 _ _
          rw [tabE] at e12
          have pl : 0 < (part ((vs.drop lo).take wd).sum m (0 + (vs.take lo).sum)).length := by
            rw [part_len]
            exact m0
          refine ⟨_, rfl, l2, _, rfl, .inl (.inl e12), pl, fun x1 hx1 _ => ?_⟩
          refine ⟨_, rfl, l2, _, rfl, .inl (.inl e12), pl, fun x2 hx2 _ => ?_⟩
          have cl := part_close m0 hx1 hx2
          refine ⟨_, _, rfl, rfl, _, _, rfl, rfl, _, rfl, ite2 (fun c => ?_) (fun _ => ?_)⟩
          · have c' : (1 : Int) < x1 - x2 := of_decide_eq_true c
            omega
          have s1012 : Same H10 H12 := sl.trans s12
          exact ⟨_, _, rfl, (f10.same s1012).mono (by omega), s1012 _ _ et10, s1012 _ _ eo10, DpAll.same s1012 _ _ dv10⟩
        · rintro σ H9 ⟨y6, y7, rfl, f9, _⟩
          exact ⟨_, _, _, _, _, _, rfl, f9.mono (by simp only [Int.toNat_natCast]; omega)⟩
    · rintro σ H2 ⟨y2, y3, y4, y5, y6, y7, rfl, _⟩
      exact q _
end
end K08

set_option Elab.async false
set_option linter.all false
set_option maxRecDepth 100000
namespace K08
open PySem PySem.Spec PyProof.Rows L2 TB
theorem all_mk {l : PySem.W.OpenLaw} {w : World} {K : PySem.W.Frag} {h : Heap} {mg : Str → Option Value} {fa : Addr} (X : K.In h) (G : h.Ns mainGlobals mg) (hfa : mg "law" = some (.ref fa))
    {f1 : Addr} {od1 an1 : Option Addr} {sl1 : Array (Option Value)} {oc1 kV1 dc1 pm1 cd1 ct1 : Value}
    {f2 : Addr} {od2 an2 : Option Addr} {sl2 : Array (Option Value)} {oc2 kV2 dc2 pm2 cd2 ct2 : Value} {T2 : Addr} {tc2 : Value} {td2 : Option Addr} {ts2 : Array (Option Value)} {tn2 : Nat} {tk2_0 : Tok}
    {f3 : Addr} {od3 an3 : Option Addr} {sl3 : Array (Option Value)} {oc3 kV3 dc3 pm3 cd3 ct3 : Value}
    {f4 : Addr} {od4 an4 : Option Addr} {sl4 : Array (Option Value)} {oc4 kV4 dc4 pm4 cd4 ct4 : Value}
    {f5 : Addr} {od5 an5 : Option Addr} {sl5 : Array (Option Value)} {oc5 kV5 dc5 pm5 cd5 ct5 : Value}
    {f6 : Addr} {od6 an6 : Option Addr} {sl6 : Array (Option Value)} {oc6 kV6 dc6 pm6 cd6 ct6 : Value}
    {f7 : Addr} {od7 an7 : Option Addr} {sl7 : Array (Option Value)} {oc7 kV7 dc7 pm7 cd7 ct7 : Value}
    {f8 : Addr} {od8 an8 : Option Addr} {sl8 : Array (Option Value)} {oc8 kV8 dc8 pm8 cd8 ct8 : Value}
    {f9 : Addr} {od9 an9 : Option Addr} {sl9 : Array (Option Value)} {oc9 kV9 dc9 pm9 cd9 ct9 : Value}
    {f10 : Addr} {od10 an10 : Option Addr} {sl10 : Array (Option Value)} {oc10 kV10 dc10 pm10 cd10 ct10 : Value}
    (a1 : PySem.W.nsIn K mainGlobals "numbers_below" = some (some (.ref f1)))
    (l1 : K.lookup f1 = some ⟨oc1, od1, .func (PySem.W.fnOf "numbers_below" "numbers_below" (defArgs sNb) (defBody sNb) (defScope sNb) .none kV1 dc1 pm1 an1 cd1 ct1), sl1⟩)
    (c1 : PySem.W.codeIn K cd1 "numbers_below" = true) (k1 : PySem.W.keepIn K (.ref f1) = true)
    (a2 : PySem.W.nsIn K mainGlobals "deal" = some (some (.ref f2)))
    (l2 : K.lookup f2 = some ⟨oc2, od2, .func (PySem.W.fnOf "deal" "deal" (defArgs sDeal) (defBody sDeal) (defScope sDeal) (.ref T2) kV2 dc2 pm2 an2 cd2 ct2), sl2⟩)
    (c2 : PySem.W.codeIn K cd2 "deal" = true) (k2 : PySem.W.keepIn K (.ref f2) = true)
    (t2 : K.lookup T2 = some ⟨tc2, td2, .seq #[.int 0 tk2_0] tn2, ts2⟩)
    (a3 : PySem.W.nsIn K mainGlobals "dealt_on" = some (some (.ref f3)))
    (l3 : K.lookup f3 = some ⟨oc3, od3, .func (PySem.W.fnOf "dealt_on" "dealt_on" (defArgs sOn) (defBody sOn) (defScope sOn) .none kV3 dc3 pm3 an3 cd3 ct3), sl3⟩)
    (c3 : PySem.W.codeIn K cd3 "dealt_on" = true) (k3 : PySem.W.keepIn K (.ref f3) = true)
    (a4 : PySem.W.nsIn K mainGlobals "_law_feed" = some (some (.ref f4)))
    (l4 : K.lookup f4 = some ⟨oc4, od4, .func (PySem.W.fnOf "_law_feed" "_law_feed" (defArgs sFeed) (defBody sFeed) (defScope sFeed) .none kV4 dc4 pm4 an4 cd4 ct4), sl4⟩)
    (c4 : PySem.W.codeIn K cd4 "_law_feed" = true) (k4 : PySem.W.keepIn K (.ref f4) = true)
    (a5 : PySem.W.nsIn K mainGlobals "_law_draw" = some (some (.ref f5)))
    (l5 : K.lookup f5 = some ⟨oc5, od5, .func (PySem.W.fnOf "_law_draw" "_law_draw" (defArgs sDraw) (defBody sDraw) (defScope sDraw) .none kV5 dc5 pm5 an5 cd5 ct5), sl5⟩)
    (c5 : PySem.W.codeIn K cd5 "_law_draw" = true) (k5 : PySem.W.keepIn K (.ref f5) = true)
    (a6 : PySem.W.nsIn K mainGlobals "_law_pence" = some (some (.ref f6)))
    (l6 : K.lookup f6 = some ⟨oc6, od6, .func (PySem.W.fnOf "_law_pence" "_law_pence" (defArgs sPence) (defBody sPence) (defScope sPence) .none kV6 dc6 pm6 an6 cd6 ct6), sl6⟩)
    (c6 : PySem.W.codeIn K cd6 "_law_pence" = true) (k6 : PySem.W.keepIn K (.ref f6) = true)
    (a7 : PySem.W.nsIn K mainGlobals "_law_added" = some (some (.ref f7)))
    (l7 : K.lookup f7 = some ⟨oc7, od7, .func (PySem.W.fnOf "_law_added" "_law_added" (defArgs sAdded) (defBody sAdded) (defScope sAdded) .none kV7 dc7 pm7 an7 cd7 ct7), sl7⟩)
    (c7 : PySem.W.codeIn K cd7 "_law_added" = true) (k7 : PySem.W.keepIn K (.ref f7) = true)
    (a8 : PySem.W.nsIn K mainGlobals "_law_row_right" = some (some (.ref f8)))
    (l8 : K.lookup f8 = some ⟨oc8, od8, .func (PySem.W.fnOf "_law_row_right" "_law_row_right" (defArgs sRow) (defBody sRow) (defScope sRow) .none kV8 dc8 pm8 an8 cd8 ct8), sl8⟩)
    (c8 : PySem.W.codeIn K cd8 "_law_row_right" = true) (k8 : PySem.W.keepIn K (.ref f8) = true)
    (a9 : PySem.W.nsIn K mainGlobals "_law_deals_right" = some (some (.ref f9)))
    (l9 : K.lookup f9 = some ⟨oc9, od9, .func (PySem.W.fnOf "_law_deals_right" "_law_deals_right" (defArgs sDeals) (defBody sDeals) (defScope sDeals) .none kV9 dc9 pm9 an9 cd9 ct9), sl9⟩)
    (c9 : PySem.W.codeIn K cd9 "_law_deals_right" = true) (k9 : PySem.W.keepIn K (.ref f9) = true)
    (a10 : PySem.W.nsIn K mainGlobals "law" = some (some (.ref f10)))
    (l10 : K.lookup f10 = some ⟨oc10, od10, .func (PySem.W.fnOf "law" "law" (defArgs sLaw) (defBody sLaw) (defScope sLaw) .none kV10 dc10 pm10 an10 cd10 ct10), sl10⟩)
    (c10 : PySem.W.codeIn K cd10 "law" = true) (k10 : PySem.W.keepIn K (.ref f10) = true)
    (z_len : PySem.W.nsIn K mainGlobals "len" = some none)
    (z_range : PySem.W.nsIn K mainGlobals "range" = some none)
    (z_tuple : PySem.W.nsIn K mainGlobals "tuple" = some none)
    (z_list : PySem.W.nsIn K mainGlobals "list" = some none)
    (z_sum : PySem.W.nsIn K mainGlobals "sum" = some none)
    (z_min : PySem.W.nsIn K mainGlobals "min" = some none)
    (z_max : PySem.W.nsIn K mainGlobals "max" = some none)
    (z_zip : PySem.W.nsIn K mainGlobals "zip" = some none) :
    ∃ fd : FuncData, (∀ (s : Shared) (v : Value), BindsTo s fd ⟨[v], []⟩ [("_law_script", v)]) ∧ ∀ base : Heap, K.In base → base.Ns mainGlobals mg → FnG l.prog w K mg base CX0 5 fa fd ["_law_script"] (spLaw K) := by
  have e := hfa.symm.trans (PySem.W.mg_of X G a10)
  cases e
  have F1 := fun_mk (st := sNb) l1 c1 k1
  have b1 := F1.binds (ps := ["limit", "many", "hand"]) fun _ _ _ _ _ _ us hl => match us, hl with | [_, _, _], _ => rfl
  have g1 := PySem.W.mg_of X G a1
  have F2 : FunD K "deal" "deal" (defArgs sDeal) (defBody sDeal) (defScope sDeal) [.int 0] [] f2 (PySem.W.fnOf "deal" "deal" (defArgs sDeal) (defBody sDeal) (defScope sDeal) (.ref T2) kV2 dc2 pm2 an2 cd2 ct2) :=
    ⟨⟨oc2, od2, _, _, _, _, _, _, _, sl2, rfl, l2, c2, .inr ⟨fun z => (nomatch z), T2, _, [.int 0 tk2_0], tn2, rfl, t2, rfl, .cons ⟨_, rfl⟩ (.nil)⟩, .inl rfl⟩, k2⟩
  have b2 : Binds K (PySem.W.fnOf "deal" "deal" (defArgs sDeal) (defBody sDeal) (defScope sDeal) (.ref T2) kV2 dc2 pm2 an2 cd2 ct2) ["pence", "many", "begun"] [] := by
    obtain ⟨ds, vd, bd⟩ := F2.binds1 (ps := ["pence", "many", "begun"]) 3 1 (fun z => (nomatch z)) rfl (fun T kV doc pm an cdv ct us its hu hi => match us, hu, its, hi with | [_, _, _], _, [_], _ => ⟨_, rfl, rfl⟩)
    cases vd
    exact bd
  have g2 := PySem.W.mg_of X G a2
  have F3 := fun_mk (st := sOn) l3 c3 k3
  have b3 := F3.binds (ps := ["pieces", "many"]) fun _ _ _ _ _ _ us hl => match us, hl with | [_, _], _ => rfl
  have g3 := PySem.W.mg_of X G a3
  have F4 := fun_mk (st := sFeed) l4 c4 k4
  have b4 := F4.binds (ps := ["_law_script"]) fun _ _ _ _ _ _ us hl => match us, hl with | [_], _ => rfl
  have g4 := PySem.W.mg_of X G a4
  have F5 := fun_mk (st := sDraw) l5 c5 k5
  have b5 := F5.binds (ps := ["_law_feed_here", "_law_many"]) fun _ _ _ _ _ _ us hl => match us, hl with | [_, _], _ => rfl
  have g5 := PySem.W.mg_of X G a5
  have F6 := fun_mk (st := sPence) l6 c6 k6
  have b6 := F6.binds (ps := ["_law_feed_here"]) fun _ _ _ _ _ _ us hl => match us, hl with | [_], _ => rfl
  have g6 := PySem.W.mg_of X G a6
  have F7 := fun_mk (st := sAdded) l7 c7 k7
  have b7 := F7.binds (ps := ["_law_rows", "_law_many"]) fun _ _ _ _ _ _ us hl => match us, hl with | [_, _], _ => rfl
  have g7 := PySem.W.mg_of X G a7
  have F8 := fun_mk (st := sRow) l8 c8 k8
  have b8 := F8.binds (ps := ["_law_pieces", "_law_many", "_law_told"]) fun _ _ _ _ _ _ us hl => match us, hl with | [_, _, _], _ => rfl
  have g8 := PySem.W.mg_of X G a8
  have F9 := fun_mk (st := sDeals) l9 c9 k9
  have b9 := F9.binds (ps := ["_law_feed_here", "_law_many"]) fun _ _ _ _ _ _ us hl => match us, hl with | [_, _], _ => rfl
  have g9 := PySem.W.mg_of X G a9
  have F10 := fun_mk (st := sLaw) l10 c10 k10
  have b10 := F10.binds (ps := ["_law_script"]) fun _ _ _ _ _ _ us hl => match us, hl with | [_], _ => rfl
  have g10 := PySem.W.mg_of X G a10
  have m_len := PySem.W.mg_none_of X G z_len
  have m_range := PySem.W.mg_none_of X G z_range
  have m_tuple := PySem.W.mg_none_of X G z_tuple
  have m_list := PySem.W.mg_none_of X G z_list
  have m_sum := PySem.W.mg_none_of X G z_sum
  have m_min := PySem.W.mg_none_of X G z_min
  have m_max := PySem.W.mg_none_of X G z_max
  have m_zip := PySem.W.mg_none_of X G z_zip
  refine ⟨PySem.W.fnOf "law" "law" (defArgs sLaw) (defBody sLaw) (defScope sLaw) .none kV10 dc10 pm10 an10 cd10 ct10, fun s v => .of_eq rfl, fun base _ _ => ?_⟩
  have GD := ok_deal (P := l.prog) (w := w) (base := base) F2 F1 b1 g1 m_tuple m_range
  have GO := ok_on (P := l.prog) (w := w) (base := base) F3 GD k2 b2 g2
  have GFd := ok_feed (P := l.prog) (w := w) (mg := mg) (base := base) (k := 0) F4
  have GR := ok_draw (P := l.prog) (w := w) (base := base) (k := 0) F5 m_len
  have GP := ok_pence (P := l.prog) (w := w) (base := base) F6 GR k5 b5 g5
  have GA := ok_added (P := l.prog) (w := w) (base := base) (k := 0) F7 m_range m_sum
  have GRr := ok_row (P := l.prog) (w := w) (base := base) F8 GD k2 b2 g2 m_zip m_len m_sum m_min m_max
  have GDr := ok_deals (P := l.prog) (w := w) (base := base) F9 GR k5 b5 g5 GP k6 b6 g6 GA k7 b7 g7 GD k2 b2 g2 m_list
  exact ok_law F10 GFd k4 b4 g4 GR k5 b5 g5 GP k6 b6 g6 GO k3 b3 g3 GA k7 b7 g7 GRr k8 b8 g8 GDr k9 b9 g9 m_range m_tuple m_len m_max m_min
end K08
open PySem PySem.W PyProof.Rows
set_option maxHeartbeats 0 in
theorem PySem.Challenge.cw_tablebills_k08_whole_deals_in_a_row_holds : PySem.Challenge.rw_tablebills_k08_whole_deals_in_a_row.Holds := by
  w_on; o_law; k_head; (case hw => w_witness2)
  k_fill
  refine TB.walkG (l := PySem.Challenge.rw_tablebills_k08_whole_deals_in_a_row) (n := 63) (k := 5) (x := "_law_script") (sp := fun w => K08.spLaw _) rfl (by decide) rfl (fun w h Y => PySem.W.kIn_of Y) ⟨rfl, by decide, by decide⟩ ?F (fun _ _ a ns hl hS => ⟨a, ns, rfl, hS, hl, fun _ => rfl⟩)
  case F =>
    intro w mg fa h KX G hmg
    refine' K08.all_mk KX G hmg ?a1 ?l1 ?c1 ?k1 ?a2 ?l2 ?c2 ?k2 ?t2 ?a3 ?l3 ?c3 ?k3 ?a4 ?l4 ?c4 ?k4 ?a5 ?l5 ?c5 ?k5 ?a6 ?l6 ?c6 ?k6 ?a7 ?l7 ?c7 ?k7 ?a8 ?l8 ?c8 ?k8 ?a9 ?l9 ?c9 ?k9 ?a10 ?l10 ?c10 ?k10 ?z_len ?z_range ?z_tuple ?z_list ?z_sum ?z_min ?z_max ?z_zip
    (case a1 => k_is); (case l1 => k_is); (case c1 => k_is); (case k1 => k_is); (case a2 => k_is); (case l2 => k_is); (case c2 => k_is); (case k2 => k_is); (case t2 => k_is); (case a3 => k_is); (case l3 => k_is); (case c3 => k_is); (case k3 => k_is); (case a4 => k_is); (case l4 => k_is); (case c4 => k_is); (case k4 => k_is); (case a5 => k_is); (case l5 => k_is); (case c5 => k_is); (case k5 => k_is); (case a6 => k_is); (case l6 => k_is); (case c6 => k_is); (case k6 => k_is); (case a7 => k_is); (case l7 => k_is); (case c7 => k_is); (case k7 => k_is); (case a8 => k_is); (case l8 => k_is); (case c8 => k_is); (case k8 => k_is); (case a9 => k_is); (case l9 => k_is); (case c9 => k_is); (case k9 => k_is); (case a10 => k_is); (case l10 => k_is); (case c10 => k_is); (case k10 => k_is); (case z_len => k_is); (case z_range => k_is); (case z_tuple => k_is); (case z_list => k_is); (case z_sum => k_is); (case z_min => k_is); (case z_max => k_is); (case z_zip => k_is)
