import PyProof.Rows.All
import Wide.All
import OpenK.AllK
import Wide.FinOn
import HandS.ForMost
import HandS.Wide
import HandS.Defaults
import HandS.Flow
import HandS.Style
import HandS.IsInst
import HandS.MakeKw
import HandS.Zip
import HandS.TupAny
import HandS.RaiseMore
import KE.GoesMore
import HandS.Walk
import HandS.SortRule
import KE.GoesEnum
import HandS.ForExc
import HandS.ExcInit
import KE.KExcIs
import HandS.ExcField
import PyProof.Rows.IntBool
import PyProof.AutoSeq1
import PySem.Challenge.RW_tablebills_k13_whole_parted_again
set_option Elab.async false
set_option linter.all false
set_option maxRecDepth 100000
namespace TB
open PySem PySem.Spec PyProof.Rows L2

/-! A def's promise, where no repr is under way around it. -/
section
variable (P : Program) (w : World) (K : PySem.W.Frag) (mg : Str → Option Value) (base : Heap)
structure FnG (CX : CXT) (k : Nat) (f : Addr) (fd : FuncData) (ps : List Str) (sp : Sp) : Prop where
  len : ∀ xs G R Z, sp xs G R Z → xs.length = ps.length
  run : ∀ (A : Around), A.guards = some [] → Room k A →
    ∀ (outer : List Env) (s : Shared) (H : Hp), Env0 P w K mg base A outer s H →
    ∀ (args : Args) (us : List Value) (vs : List V), BindsTo s fd args (ps.zip us) → Vals vs us →
    ∀ (Q : VK) (E : XK), sp vs H Q E →
      codeAny (model P w) A (Code.call (Value.ref f) args)
        (CR CX outer P w H s Q E) s
end

section
variable {P : Program} {w : World} {K : PySem.W.Frag} {mg : Str → Option Value} {base : Heap} {CX : CXT}
theorem FnG.of {k : Nat} {f : Addr} {fd : FuncData} {ps : List Str} {sp : Sp}
    (F : FnOk P w K mg base CX k f fd ps sp) : FnG P w K mg base CX k f fd ps sp :=
  ⟨F.len, fun A _ hr outer s H e0 args us vs hb r Q E h => F.run A outer s H args us vs Q E hr e0 hb r h⟩

/-- the body's walk gives the promise -/
theorem gfn {k : Nat} {f : Addr} {nm qual : Str} {prm : Arguments} {bd : List Stmt} {sc : Scope} {dV kV doc pm cdv ct oc : Value} {an od : Option Addr}
    {osl : Array (Option Value)} {N : List Str} {ps : List Str} {sp : Sp}
    (lk : K.lookup f = some ⟨oc, od, .func (PySem.W.fnOf nm qual prm bd sc dV kV doc pm an cdv ct), osl⟩)
    (hcd : PySem.W.codeIn K cdv qual = true) (S : FnScope N ps sc) (len : ∀ vs H Q E, sp vs H Q E → vs.length = ps.length)
    (walk : ∀ (A : Around), A.guards = some [] → ∀ (outer : List Env) (s : Shared) (H : Hp) (vs : List V) (Q : VK) (E : XK),
      Room k (A.deeper (envOfC qual sc s.heap.objs.size f cdv)) → sp vs H Q E →
      ∃ t, PSs (cxOf CX P w K mg base N qual sc f cdv A outer s H E) bd t ∧ t ⟨fun _ H' => Q .non H', Q, fun _ _ => False, fun _ _ => False⟩ (start N vs) H) :
    FnG P w K mg base CX (k + 1) f (PySem.W.fnOf nm qual prm bd sc dV kV doc pm an cdv ct) ps sp := by
  constructor
  · exact len
  intro A hg hr outer s H e0 args us vs hb r Q E hsp
  have keeps : ∀ b o, base.get? b = some o → s.heap.get? b = some o := fun b o e => (e0.bs b o e).1
  have KX : K.In s.heap := e0.mod.kin.keeps keeps
  have lim : s.heap.NoLimit := e0.mod.nolimit.keeps keeps
  obtain ⟨t, ht, hq⟩ := walk A hg outer s H vs Q E (hr.deeper _) hsp
  have crec := PySem.W.codeRec_of KX hcd
  refine codeAny_call_function hr.depth (KX _ _ lk) rfl S.co S.gen rfl crec (hb _ _ _ _ ?_)
  refine wpAny_newFunctionEnv_cells S.kind ?_ ?_
  · rintro ⟨n, v⟩ hy
    have q := S.par n (List.of_mem_zip hy).1
    cases q with
    | inl q => exact Or.inl q
    | inr q => exact Or.inr ⟨q, PySem.W.cellsFrom_some _ _ _ (Or.inl q)⟩
  · intro env he s1 x
    cases he
    have I := inv_start (CX := CX) (P := P) (w := w) (mg := mg) (N := N) (qual := qual) (f := f) (cd := cdv) (E := E) S hr.hd e0 (len _ _ _ _ hsp) r x
    refine ⟨lim.keeps x.toInCall.keep, codeAny_func (wpAny_mono (ht.run [] s1 (start N vs) H _ I hq) ?_ (fun e s' hs => hs))⟩
    intro fl s' hs
    match fl, hs with
    | .ret u, ⟨v, _, H', J, rv, q⟩ => exact ⟨v, H', J.os, J.bare, J.base, J.hok, rv, q⟩
    | .next, ⟨_, H', J, q⟩ => exact ⟨V.non, H', J.os, J.bare, J.base, J.hok, rfl, q⟩
    | .brk, ⟨_, _, _, q⟩ => exact q.elim
    | .cont, ⟨_, _, _, q⟩ => exact q.elim

theorem gok {x qual : Str} {st : Stmt} {f : Addr} {fd : FuncData} {N ps : List Str} {k : Nat} {sp : Sp} (F : Fun K x qual st f fd)
    (S : FnScope N ps (defScope st)) (len : ∀ vs H Q E, sp vs H Q E → vs.length = ps.length)
    (walk : ∀ (cdv : Value) (A : Around), A.guards = some [] → ∀ (outer : List Env) (s : Shared) (H : Hp) (vs : List V) (Q : VK) (E : XK),
      Room k (A.deeper (envOfC qual (defScope st) s.heap.objs.size f cdv)) → sp vs H Q E →
      ∃ t, PSs (cxOf CX0 P w K mg base N qual (defScope st) f cdv A outer s H E).nox (defBody st) t ∧
        t ⟨fun _ H' => Q .non H', Q, fun _ _ => False, fun _ _ => False⟩ (start N vs) H) :
    FnG P w K mg base CX0 (k + 1) f fd ps sp := by
  obtain ⟨_, _, _, _, _, _, cdv, _, _, rfl, lk, hcd⟩ := F.ex
  refine gfn lk hcd S len fun A hg outer s H vs Q E hr hsp => ?_
  obtain ⟨t, a, b⟩ := walk cdv A hg outer s H vs Q E hr hsp
  exact ⟨t, a.nox, b⟩
end

section
variable {X : Cx} {CX : CXT} {k : Nat} {f : Addr} {fd : FuncData} {ps : List Str} {sp : Sp} {dvs : List V} {ds : List Value} {E : XK} {x : Str} {p pos : Pos} {e : Expr} {es : List Expr} {t : TA}
/-- f(e, ..) of such a def -/
theorem pe_callG (F : FnG X.prog X.w X.K X.mg X.base CX k f fd ps sp) (gd : X.A.guards = some []) (hr : Room k X.A) (hg : Gl X x) (hm : X.mg x = some (.ref f))
    (hk : PySem.W.keepIn X.K (.ref f) = true) (hb : Binds X.K fd ps ds) (hd : Vals dvs ds) (hx : Passes CX X E) (ha : PA X (e :: es) t)
    (he : starEach (e :: es) X.env = (false, eval e X.env) :: starEach es X.env := by rfl) (hdb : (x == ("__debug__" : Str)) = false := by decide)
    (hpl : (backTo pos (starEach es X.env)).any (·.1) = false := by rfl) : PE X (.Call (.Name x p) (e :: es) [] pos) (tCall sp dvs E t) := by
  constructor
  intro pins s σ H Q I h
  refine wpAny_Call_Name_kw (ld_glob I hg hm (PySem.W.callWith_K (h₀ := X.base) I.ok.mod.kin hk (thn (ha.run pos pins s σ H _ I h) ?_) he hpl) hdb)
  rintro us s1 ⟨vs, H1, I1, r, q⟩
  have r2 := r.append hd
  have hl : (us ++ ds).length = ps.length := r2.length.symm.trans (F.len _ _ _ _ q)
  refine ⟨I1.kIn, wpAny_call (codeAny_mono (F.run X.A gd hr X.stack s1 H1 I1.env0 ⟨us, []⟩ _ _ (hb s1 us I1.kIn hl) r2 Q E q) ?_)⟩
  intro res s' hq
  match res, hq with
  | .error e, hq => exact hx pins σ H1 s1 e s' I1 hq
  | .ok (.ret u), hq => exact I1.after hq
  | .ok .next, hq => exact hq.elim
  | .ok .brk, hq => exact hq.elim
  | .ok .cont, hq => exact hq.elim
end

/-! repr of plain data -/
section
variable {X : Cx}
def rRepr (K : PySem.W.Frag) : List V → Hp → VK → Prop := fun xs H Q => ∃ a d, xs = [.ref a] ∧ Dp K H (.ref a) d ∧ d.showable = true ∧ d.hasDict = false ∧ d.depth ≤ 60 ∧ d.shown.length ≤ sizeLine ∧ Q (.str d.shown) H
theorem call_reprD (gd : X.A.guards = some []) (hu : X.A.units + 64 < cLine) : CallR X (.builtin "repr") (rRepr X.K) := by
  intro pins s σ H args us Q I r h
  obtain ⟨a, d, rfl, hd, hs, hn, hp, hz, q⟩ := h
  cases r with
  | cons r1 r2 =>
    cases r2
    have e := r1
    obtain rfl := show _ = Value.ref a from e
    obtain ⟨as, rd⟩ := Dp.reads I d _ _ hd rfl
    refine repr_of_reads' rd hs (PyData.noDict_hsm hn) gd (by omega) (fun _ _ z => z) (fun h' u tk k => ?_) hz
    exact ⟨.str d.shown, H, I.kept k, ⟨u, rfl⟩, q⟩

/-- xs[i] read, i no less than 0, by values -/
def rGetN (K : PySem.W.Frag) : V → V → Hp → VK → Prop := fun o i H Q => ∃ (p : Addr) (xs : List V) (j : Nat) (v : V), o = .ref p ∧ i = .int (j : Int) ∧ SqL K H p xs ∧ xs[j]? = some v ∧ Q v H
theorem get_list : PGet X (rGetN X.K) := by
  intro pins s σ H o i ov iv Q I ro ri h
  obtain ⟨p, xs, j, z, rfl, rfl, hq, he, q⟩ := h
  cases ro
  obtain ⟨t, rfl⟩ := ri
  obtain ⟨its, rl, pl, hz⟩ := I.list hq
  obtain ⟨v, ev, rv⟩ := rl.get he
  have hl := rl.length
  have hj : j < xs.length := (List.getElem?_eq_some_iff.mp he).1
  have hn := line63
  exact wpAny_getItem_list pl.isList (by omega) (by omega) (by rw [Int.toNat_natCast]; simpa using ev) ⟨z, H, I, rv, q⟩
end

/-! the law's own call, at the top's end -/
section
variable {P : Program} {w : World} {K : PySem.W.Frag} {mg mb : Str → Option Value} {k : Nat} {fa a : Addr} {fd : FuncData} {x : Str} {sp : Sp} {s1 : Shared} {vs : List Value} {ns : List Int}
/-- the abstract heap that tracks the script alone, or nothing -/
theorem lawG0 {H : Hp} (KX : K.In s1.heap) (hns : s1.heap.Ns mainGlobals mg) (hb : s1.heap.Ns builtinsNs mb)
    (hbb : ∀ y : Str, y ≠ "__name__" → mb y = bootBuiltins y) (hlim : s1.heap.NoLimit) (hg : s1.gens = #[])
    (ha : s1.heap.get? a = some { cls := .type "list", data := .seq vs.toArray }) (hr : Room k callerA)
    (F : ∀ base : Heap, K.In base → base.Ns mainGlobals mg → FnG P w K mg base CX0 k fa fd [x] sp)
    (hbind : ∀ (s : Shared) (u : Value), BindsTo s fd ⟨[u], []⟩ [(x, u)])
    (hO : Only H) (hok : HOk P w H s1.heap) (onlyA : ∀ b, H b ≠ none → b = a) (notK : H a ≠ none → K.lookup a = none)
    (hsp : sp [.ref a] H (fun v _ => v = .bl true) fun _ _ _ => False) :
    codeAny (model P w) callerA (.call (.ref fa) ⟨[.ref a], []⟩)
      (fun r s' => r = .ok (.ret (.bool true)) ∧ OldK s1.heap s'.heap ∧ s'.os = s1.os ∧ AllBare s'.gens) s1 := by
  have free : ∀ (b : Addr), (b = a → H b = none) → H b = none := by
    intro b hb
    by_cases e : H b = none
    · exact e
    · exact hb (onlyA b e)
  have nsB : ∀ {b : Addr} {m : Str → Option Value}, s1.heap.Ns b m → (hidT s1.heap H).Ns b m := by
    rintro b m ⟨o, es, ep, e, d, r⟩
    refine ⟨o, es, ep, hidT_get e (free b ?_), d, r⟩
    rintro rfl
    have q := Option.some.inj (e.symm.trans ha)
    rw [q] at d
    exact nomatch d
  have kinB : K.In (hidT s1.heap H) := by
    intro b o e
    refine hidT_get (KX b o e) (free b ?_)
    rintro rfl
    by_cases z : H b = none
    · exact z
    · exact absurd ((notK z).symm.trans e) (fun q => nomatch q)
  obtain ⟨mc, hl1, hl2⟩ := hlim
  have M : Mod K mg (hidT s1.heap H) := ⟨kinB, nsB hns, ⟨mb, nsB hb, hbb⟩, ⟨mc, nsB hl1, hl2⟩⟩
  have e0 : Env0 P w K mg (hidT s1.heap H) callerA [] s1 H :=
    { frames := rfl, mod := M, bs := fun b o e => of_hidT e, bsz := Nat.le_of_eq (hidT_size _ _), funs := trivial,
      frf := fun b hb => (nomatch (show b ∈ ([] : List Addr) from hb)), hok := hok, bare := .of_eq hg }
  have run := (F _ kinB (nsB hns)).run callerA rfl hr [] s1 H e0 ⟨[.ref a], []⟩ [.ref a] [.ref a] (hbind s1 _) (.cons rfl .nil) _ _ hsp
  refine codeAny_mono run ?_
  intro r s' h
  match r, h with
  | .ok (.ret u), ⟨v, H', os, bare, un, hok', rv, q⟩ =>
    have q' : v = V.bl true := q
    subst q'
    have eu : u = Value.bool true := rv
    subst eu
    refine ⟨rfl, OldK.of_keep ?_, os, bare⟩
    intro b o e
    by_cases z : H b = none
    · exact un.keep b o e z (fun q => nomatch (show b ∈ ([] : List Addr) from q)) (fun q => nomatch q)
    · rcases hO b with z1 | ⟨ob, xs, z1⟩
      · exact absurd z1 z
      · have e1 := (hok b _ z1).1
        have e2 := (hok' b _ (un.frzs b ob _ z1)).1
        rw [Option.some.inj (e.symm.trans e1)]
        exact e2

theorem lawG (KX : K.In s1.heap) (hns : s1.heap.Ns mainGlobals mg) (hb : s1.heap.Ns builtinsNs mb)
    (hbb : ∀ y : Str, y ≠ "__name__" → mb y = bootBuiltins y) (hlim : s1.heap.NoLimit) (hg : s1.gens = #[])
    (ha : s1.heap.get? a = some { cls := .type "list", data := .seq vs.toArray }) (hi : IntsAre vs ns) (hl : ns.length ≤ sizeLine) (hr : Room k callerA)
    (F : ∀ base : Heap, K.In base → base.Ns mainGlobals mg → FnG P w K mg base CX0 k fa fd [x] sp)
    (hbind : ∀ (s : Shared) (u : Value), BindsTo s fd ⟨[u], []⟩ [(x, u)])
    (hsp : ∀ H : Hp, SqL K H a (ns.map V.int) → sp [.ref a] H (fun v _ => v = .bl true) fun _ _ _ => False) :
    codeAny (model P w) callerA (.call (.ref fa) ⟨[.ref a], []⟩)
      (fun r s' => r = .ok (.ret (.bool true)) ∧ OldK s1.heap s'.heap ∧ s'.os = s1.os ∧ AllBare s'.gens) s1 := by
  have rv := vals_ints hi
  by_cases hk : K.lookup a = none
  · let ob : Obj := { cls := .type "list", data := .seq vs.toArray }
    let H : Hp := upd (fun _ => none) a (.frz ob (.lst (ns.map V.int)))
    have hA : H a = some (.frz ob (.lst (ns.map V.int))) := upd_same
    have hN : ∀ b, b ≠ a → H b = none := fun b ne => upd_ne ne
    refine lawG0 (H := H) KX hns hb hbb hlim hg ha hr F hbind ?_ ?_ ?_ (fun _ => hk) (hsp H (.inl (.inr ⟨ob, hA⟩)))
    · intro b
      by_cases e : b = a
      · exact .inr ⟨ob, _, e ▸ hA⟩
      · exact .inl (hN b e)
    · intro b u q
      by_cases e : b = a
      · subst e
        cases Option.some.inj (q.symm.trans hA)
        exact ⟨ha, Nat.le_trans (Nat.le_of_eq (List.length_map V.int)) hl, vs, _, rv, ha⟩
      · exact nomatch (hN b e).symm.trans q
    · intro b q
      by_cases e : b = a
      · exact e
      · exact absurd (hN b e) q
  · obtain ⟨o, ho⟩ := Option.ne_none_iff_exists'.mp hk
    have eo := Option.some.inj ((KX a o ho).symm.trans ha)
    subst eo
    refine lawG0 (H := fun _ => none) KX hns hb hbb hlim hg ha hr F hbind (fun _ => .inl rfl) (fun b u q => nomatch q) (fun b q => absurd rfl q) (fun q => absurd rfl q) (hsp _ (.inr ?_))
    exact ⟨_, vs.toArray, _, ho, rfl, rfl, rfl, by rw [List.size_toArray, hi.length]; exact hl, rv⟩
end

theorem walkG {l : PySem.W.OpenLaw} {n k : Nat} {q : Program} {loose : List Str} {XP : (Str → Option Value) → Heap → Prop} {YP : World → Heap → Prop} {d : DefRec} {K : Params → PySem.W.Frag} {sp : World → Sp} {x : Str}
    (hn : l.most = some n) (hn2 : n ≤ sizeLine) (hdf : d.params.defaults = [])
    (hY : ∀ (w : World) (h : Heap), YP w h → (K w.params).In h) (hr : Room k callerA)
    (F : ∀ (w : World) (mg : Str → Option Value) (fa : Addr) (g : Heap), (K w.params).In g → g.Ns mainGlobals mg → mg d.name = some (.ref fa) →
      ∃ fd : FuncData, (∀ (s : Shared) (v : Value), BindsTo s fd ⟨[v], []⟩ [(x, v)]) ∧
        ∀ base : Heap, (K w.params).In base → base.Ns mainGlobals mg → FnG l.prog w (K w.params) mg base CX0 k fa fd [x] (sp w))
    (hsp : ∀ (w : World) (H : Hp) (a : Addr) (ns : List Int), ns.length ≤ n → SqL (K w.params) H a (ns.map V.int) → sp w [.ref a] H (fun v _ => v = .bl true) fun _ _ _ => False) :
    PySem.W.WalkO q loose XP YP l.row.toRowW d [] fun f us => PySem.call f us := by
  refine Att.attach_call hn hdf ?_
  intro w s₀ s₁ mg mb fa o pm cd doc a vs ns G Y ho hd hcd hmg hobj hints hlen hg
  have KX := hY w _ Y
  obtain ⟨fd, bnd, prom⟩ := F w mg fa _ KX G.T.g hmg
  exact lawG KX G.T.g G.T.b G.T.builtins G.T.nolimit hg hobj hints (Nat.le_trans hlen hn2) hr prom bnd (fun H hS => hsp w H a ns hlen hS)
end TB

set_option Elab.async false
set_option linter.all false
set_option maxRecDepth 100000
namespace TB
open PySem PySem.Spec PyProof.Rows L2

/-! ### what is shown -/
structure Sh (k n : Nat) (d : PyData) : Prop where
  sh : d.showable = true
  nd : d.hasDict = false
  dp : d.depth ≤ k
  ln : d.shown.length ≤ n
theorem sh_int {i : Int} (h : i.natAbs < 2 ^ 100) : Sh 0 1921 (.int i) := by
  have hl : i.natAbs.log2 < 1920 := by
    by_cases h0 : i.natAbs = 0
    · rw [h0]; decide
    · exact (Nat.log2_lt h0).2 (Nat.lt_of_lt_of_le h (Nat.pow_le_pow_right (by decide) (by decide)))
  refine ⟨by simp only [PyData.showable, decide_eq_true_eq]; exact hl, by simp only [PyData.hasDict], by simp [PyData.depth], ?_⟩
  simp only [PyData.shown]
  exact int_text_len_1921 hl
theorem all_len {ds : List PyData} {k n : Nat} (h : ∀ d ∈ ds, Sh k n d) : PyData.showableAll ds = true ∧ PyData.hasDictAll ds = false ∧ PyData.depthAll ds ≤ k ∧ ((PyData.shownAll ds).map (·.length)).sum ≤ ds.length * n ∧ (PyData.shownAll ds).length = ds.length := by
  induction ds with
  | nil => simp [PyData.showableAll, PyData.hasDictAll, PyData.depthAll, PyData.shownAll]
  | cons d ds ih =>
    obtain ⟨a, b, c, e, f⟩ := ih fun x hx => h x (List.mem_cons_of_mem _ hx)
    have g := h d List.mem_cons_self
    refine ⟨by simp only [PyData.showableAll, g.sh, a, Bool.and_self], by simp only [PyData.hasDictAll, g.nd, b, Bool.or_self], ?_, ?_, ?_⟩
    · simp only [PyData.depthAll]
      have := g.dp
      omega
    · simp only [PyData.shownAll, List.map_cons, List.sum_cons, List.length_cons]
      have := g.ln
      rw [Nat.add_mul]
      omega
    · simp only [PyData.shownAll, List.length_cons, f]
theorem sh_tup {ds : List PyData} {k n : Nat} (h : ∀ d ∈ ds, Sh k n d) : Sh (k + 1) (ds.length * n + 2 * ds.length + 3) (.tuple ds) := by
  obtain ⟨a, b, c, e, f⟩ := all_len h
  refine ⟨by simp only [PyData.showable, a], by simp only [PyData.hasDict, b], by simp only [PyData.depth]; omega, ?_⟩
  simp only [PyData.shown]
  refine Nat.le_trans (tupleText_len_le _) ?_
  rw [f]
  omega
theorem sh_lst {ds : List PyData} {k n : Nat} (h : ∀ d ∈ ds, Sh k n d) : Sh (k + 1) (ds.length * n + 2 * ds.length + 3) (.list ds) := by
  obtain ⟨a, b, c, e, f⟩ := all_len h
  refine ⟨by simp only [PyData.showable, a], by simp only [PyData.hasDict, b], by simp only [PyData.depth]; omega, ?_⟩
  simp only [PyData.shown]
  refine Nat.le_trans (listText_len_le _) ?_
  rw [f]
  omega
theorem Sh.mono {k k' n n' : Nat} {d : PyData} (h : Sh k n d) (a : k ≤ k') (b : n ≤ n') : Sh k' n' d :=
  ⟨h.sh, h.nd, Nat.le_trans h.dp a, Nat.le_trans h.ln b⟩
def dInts (ns : List Int) : List PyData := ns.map PyData.int
theorem sh_ints {ns : List Int} (h : ∀ v ∈ ns, v.natAbs < 2 ^ 100) (hl : ns.length ≤ 100) : Sh 1 200000 (.tuple (dInts ns)) := by
  refine (sh_tup (k := 0) (n := 1921) fun d hd => ?_).mono (by omega) ?_
  · obtain ⟨v, hv, rfl⟩ := List.mem_map.mp hd
    exact sh_int (h v hv)
  · unfold dInts
    rw [List.length_map]
    omega
theorem dp_ints {K : PySem.W.Frag} {H : Hp} : ∀ ns : List Int, DpAll K H (ns.map V.int) (dInts ns)
  | [] => DpAll.nil
  | n :: ns => DpAll.cons (Dp.int n) (dp_ints ns)

/-- a comprehension without an if -/
theorem yes {σ : L2.St} {H : Hp} {R : Bool → Hp → Prop} (h : R true H) : tYes σ H R := h
theorem iteS {c A B : Prop} [Decidable c] (hc : c) (h : A) : if decide c = true then A else B := by
  rw [if_pos (decide_eq_true hc)]
  exact h
theorem ixN_nat {n k : Nat} (h : k < n) : ixN n (k : Int) = some k := by
  unfold ixN
  rw [if_pos (by omega), if_pos (by omega)]
  simp
theorem take_more {α : Type} {xs : List α} {i : Nat} {x : α} (h : xs[i]? = some x) : xs.take (i + 1) = xs.take i ++ [x] := by
  rw [List.take_add_one, h]
  rfl

theorem map_get {α β : Type} {f : α → β} {xs : List α} {i : Nat} {d : β} (h : (xs.map f)[i]? = some d) : ∃ p, xs[i]? = some p ∧ d = f p := by
  rw [List.getElem?_map] at h
  cases e : xs[i]? with
  | none => rw [e] at h; cases h
  | some p => rw [e] at h; exact ⟨p, rfl, (Option.some.inj h).symm⟩
theorem map_take_more {α β : Type} {f : α → β} {xs : List α} {i : Nat} {x : α} (h : xs[i]? = some x) : (xs.take (i + 1)).map f = (xs.take i).map f ++ [f x] := by
  rw [take_more h, List.map_append]
  rfl

/-! ### heaps -/
theorem same_upd {H : Hp} {p : Addr} {o : HO} (h : H p = none) : Same H (upd H p o) := fun b x e => by
  rw [upd_ne (ne_of_none e h)]
  exact e
theorem Same.tup {K : PySem.W.Frag} {H H' : Hp} {a : Addr} {xs : List V} (e : Same H H') (h : SqT K H a xs) : SqT K H' a xs := by
  rcases h with (h | ⟨o, h⟩) | h
  · exact .inl (.inl (e _ _ h))
  · exact .inl (.inr ⟨o, e _ _ h⟩)
  · exact .inr h
/-- all that was tracked is as it was, but what stands at f -/
def But (f : Addr) (H H' : Hp) : Prop := ∀ b o, b ≠ f → H b = some o → H' b = some o
theorem But.refl (f : Addr) (H : Hp) : But f H H := fun _ _ _ h => h
theorem But.trans {f : Addr} {H H1 H2 : Hp} (a : But f H H1) (b : But f H1 H2) : But f H H2 := fun c o n h => b c o n (a c o n h)
theorem But.same {f : Addr} {H H1 H2 : Hp} (a : But f H H1) (b : Same H1 H2) : But f H H2 := fun c o n h => b c o (a c o n h)
theorem But.of {f : Addr} {H H' : Hp} (a : Same H H') : But f H H' := fun c o _ h => a c o h
theorem But.upd {f : Addr} {H : Hp} {o : HO} : But f H (upd H f o) := fun b x n e => by
  rw [upd_ne n]
  exact e
theorem But.free {f : Addr} {H H' : Hp} {zs : List V} (e : But f H H') (hf : H' f = some (.lst zs)) {l : Addr} (h : H' l = none) : H l = none := by
  cases q : H l with
  | none => rfl
  | some o =>
    have n : l ≠ f := fun z => by
      rw [z, hf] at h
      cases h
    rw [e l o n q] at h
    cases h
mutual
theorem Dp.same {K : PySem.W.Frag} {H H' : Hp} (e : Same H H') : ∀ (d : PyData) (v : V), Dp K H v d → Dp K H' v d
  | .none, _, .non => .non
  | .bool _, _, .bl b => .bl b
  | .int _, _, .int i => .int i
  | .str _, _, .str x => .str x
  | .list ds, _, .lst h a => .lst (e.seq h) (DpAll.same e ds _ a)
  | .tuple ds, _, .tup h a => .tup (TB.Same.tup e h) (DpAll.same e ds _ a)
theorem DpAll.same {K : PySem.W.Frag} {H H' : Hp} (e : Same H H') : ∀ (ds : List PyData) (vs : List V), DpAll K H vs ds → DpAll K H' vs ds
  | [], _, .nil => .nil
  | d :: ds, _, .cons h t => .cons (Dp.same e d _ h) (DpAll.same e ds _ t)
end
theorem DpAll.snoc {K : PySem.W.Frag} {H : Hp} {v : V} {d : PyData} (h : Dp K H v d) : ∀ {vs : List V} {ds : List PyData}, DpAll K H vs ds → DpAll K H (vs ++ [v]) (ds ++ [d])
  | _, _, .nil => .cons h .nil
  | _, _, .cons a t => .cons a (DpAll.snoc h t)
theorem DpAll.len {K : PySem.W.Frag} {H : Hp} : ∀ {vs : List V} {ds : List PyData}, DpAll K H vs ds → vs.length = ds.length
  | _, _, .nil => rfl
  | _, _, .cons _ t => congrArg Nat.succ (DpAll.len t)
theorem DpAll.get {K : PySem.W.Frag} {H : Hp} : ∀ {vs : List V} {ds : List PyData} {i : Nat} {v : V}, DpAll K H vs ds → vs[i]? = some v → ∃ d, ds[i]? = some d ∧ Dp K H v d
  | _, _, _, _, .nil, h => by simp at h
  | _, _, 0, _, .cons a _, h => ⟨_, rfl, by simp at h; subst h; exact a⟩
  | _, _, i + 1, _, .cons _ t, h => by
    obtain ⟨d, e, q⟩ := DpAll.get t (i := i) (by simpa using h)
    exact ⟨d, by simpa using e, q⟩
theorem Dp.tup_inv {K : PySem.W.Frag} {H : Hp} {v : V} {ds : List PyData} (h : Dp K H v (.tuple ds)) : ∃ a xs, v = .ref a ∧ SqT K H a xs ∧ DpAll K H xs ds := by
  cases h with
  | tup h a => exact ⟨_, _, rfl, h, a⟩
theorem Dp.lst_inv {K : PySem.W.Frag} {H : Hp} {v : V} {ds : List PyData} (h : Dp K H v (.list ds)) : ∃ a xs, v = .ref a ∧ SqL K H a xs ∧ DpAll K H xs ds := by
  cases h with
  | lst h a => exact ⟨_, _, rfl, h, a⟩
theorem DpAll.cons_inv {K : PySem.W.Frag} {H : Hp} {xs : List V} {d : PyData} {ds : List PyData} (h : DpAll K H xs (d :: ds)) : ∃ v vs, xs = v :: vs ∧ Dp K H v d ∧ DpAll K H vs ds := by
  cases h with
  | cons a t => exact ⟨_, _, rfl, a, t⟩
theorem DpAll.nil_inv {K : PySem.W.Frag} {H : Hp} {xs : List V} (h : DpAll K H xs []) : xs = [] := by
  cases h
  rfl
theorem Dp.int_inv {K : PySem.W.Frag} {H : Hp} {v : V} {i : Int} (h : Dp K H v (.int i)) : v = .int i := by
  cases h
  rfl
theorem Dp.str_inv {K : PySem.W.Frag} {H : Hp} {v : V} {i : Str} (h : Dp K H v (.str i)) : v = .str i := by
  cases h
  rfl
theorem dp_strs {K : PySem.W.Frag} {H : Hp} : ∀ ns : List Str, DpAll K H (ns.map V.str) (ns.map PyData.str)
  | [] => DpAll.nil
  | n :: ns => DpAll.cons (Dp.str n) (dp_strs ns)

/-! no list stands in it -/
mutual
def noL : PyData → Bool
  | .list _ => false
  | .tuple xs => noLs xs
  | .dict _ => false
  | _ => true
def noLs : List PyData → Bool
  | [] => true
  | x :: xs => noL x && noLs xs
end
theorem SqT.but {K : PySem.W.Frag} {H H' : Hp} {o a : Addr} {xs zs : List V} (e : But o H H') (ho : H o = some (.lst zs)) (h : SqT K H a xs) : SqT K H' a xs := by
  rcases h with (h | ⟨u, h⟩) | h
  · exact .inl (.inl (e _ _ (ne_of h ho (fun z => nomatch z)) h))
  · exact .inl (.inr ⟨u, e _ _ (ne_of h ho (fun z => nomatch z)) h⟩)
  · exact .inr h
mutual
theorem Dp.but {K : PySem.W.Frag} {H H' : Hp} {o : Addr} {zs : List V} (e : But o H H') (ho : H o = some (.lst zs)) : ∀ (d : PyData) (v : V), noL d = true → Dp K H v d → Dp K H' v d
  | .none, _, _, .non => .non
  | .bool _, _, _, .bl b => .bl b
  | .int _, _, _, .int i => .int i
  | .str _, _, _, .str x => .str x
  | .list ds, _, n, _ => by simp [noL] at n
  | .tuple ds, _, n, .tup h a => .tup (TB.SqT.but e ho h) (DpAll.but e ho ds _ (by simpa only [noL] using n) a)
theorem DpAll.but {K : PySem.W.Frag} {H H' : Hp} {o : Addr} {zs : List V} (e : But o H H') (ho : H o = some (.lst zs)) : ∀ (ds : List PyData) (vs : List V), noLs ds = true → DpAll K H vs ds → DpAll K H' vs ds
  | [], _, _, .nil => .nil
  | d :: ds, _, n, .cons h t => by
    simp only [noLs, Bool.and_eq_true] at n
    exact .cons (Dp.but e ho d _ n.1 h) (DpAll.but e ho ds _ n.2 t)
end
theorem noLs_of {ds : List PyData} (h : ∀ d ∈ ds, noL d = true) : noLs ds = true := by
  induction ds with
  | nil => rfl
  | cons d ds ih => simp only [noLs, h d List.mem_cons_self, ih fun x hx => h x (List.mem_cons_of_mem _ hx), Bool.and_self]
theorem noLs_snoc {ds : List PyData} {d : PyData} (h : noLs ds = true) (n : noL d = true) : noLs (ds ++ [d]) = true := by
  induction ds with
  | nil => simp only [List.nil_append, noLs, n, Bool.and_true]
  | cons x ds ih =>
    simp only [noLs, Bool.and_eq_true] at h
    simp only [List.cons_append, noLs, h.1, ih h.2, Bool.and_self]

/-! ### a list that is being filled: at D, with these data -/
structure Acc (K : PySem.W.Frag) (H : Hp) (D : Addr) (ds : List PyData) : Prop where
  ex : ∃ us, H D = some (.lst us) ∧ DpAll K H us ds
  nl : noLs ds = true
theorem Acc.start {K : PySem.W.Frag} {H : Hp} {D : Addr} : Acc K (upd H D (.lst [])) D [] := ⟨⟨[], upd_same, .nil⟩, rfl⟩
theorem Acc.same {K : PySem.W.Frag} {H H' : Hp} {D : Addr} {ds : List PyData} (h : Acc K H D ds) (e : Same H H') : Acc K H' D ds := by
  obtain ⟨us, a, b⟩ := h.ex
  exact ⟨⟨us, e _ _ a, DpAll.same e _ _ b⟩, h.nl⟩
theorem Acc.but {K : PySem.W.Frag} {H H' : Hp} {D F : Addr} {ds : List PyData} {zs : List V} (h : Acc K H D ds) (e : But F H H') (hF : H F = some (.lst zs)) (n : D ≠ F) : Acc K H' D ds := by
  obtain ⟨us, a, b⟩ := h.ex
  exact ⟨⟨us, e _ _ n a, DpAll.but e hF _ _ h.nl b⟩, h.nl⟩
/-- one more -/
theorem Acc.more {K : PySem.W.Frag} {H : Hp} {D : Addr} {ds : List PyData} {v : V} {d : PyData} (h : Acc K H D ds) (dv : Dp K H v d) (n : noL d = true) (hl : ds.length ≤ 900) :
    ∃ us, H D = some (.lst us) ∧ us.length < sizeLine ∧ Acc K (upd H D (.lst (us ++ [v]))) D (ds ++ [d]) := by
  obtain ⟨us, a, b⟩ := h.ex
  have bu : But D H (upd H D (.lst (us ++ [v]))) := But.upd
  exact ⟨us, a, by rw [DpAll.len b]; exact small1000 (by omega), ⟨us ++ [v], upd_same, DpAll.snoc (Dp.but bu a _ _ n dv) (DpAll.but bu a _ _ h.nl b)⟩, noLs_snoc h.nl n⟩

theorem same_new {H H2 : Hp} {D : Addr} {o : HO} (nD : H D = none) (sm : Same H H2) : Same H (upd H2 D o) := fun c x e => by
  rw [upd_ne (ne_of_none e nD)]
  exact sm c x e
/-- a turn of a comprehension that changes nothing else -/
theorem Acc.turn {K : PySem.W.Frag} {H H1 H2 : Hp} {D : Addr} {ds ds' : List PyData} {v : V} {d : PyData} (nD : H D = none) (sm : Same H H1) (ac : Acc K H1 D ds) (s2 : Same H1 H2) (dv : Dp K H2 v d) (n : noL d = true) (hl : ds.length ≤ 900) (he : ds' = ds ++ [d]) :
    ∃ acc, H2 D = some (.lst acc) ∧ acc.length < sizeLine ∧ (Same H (upd H2 D (.lst (acc ++ [v]))) ∧ Acc K (upd H2 D (.lst (acc ++ [v]))) D ds') := by
  obtain ⟨us, a, b, c⟩ := (ac.same s2).more dv n hl
  exact ⟨us, a, b, same_new nD (sm.trans s2), he ▸ c⟩
/-- the tuple of all that was filled in -/
theorem Acc.tuple {K : PySem.W.Frag} {H : Hp} {D t : Addr} {us : List V} {ds : List PyData} (dv : DpAll K H us ds) (nt : H t = none) : Dp K (upd H t (.tup us)) (.ref t) (.tuple ds) :=
  .tup (.inl (.inl upd_same)) (DpAll.same (same_upd nt) _ _ dv)

/-! ### repr, its text kept shut -/
@[irreducible] def txt (d : PyData) : Str := d.shown
theorem txt_eq (d : PyData) : txt d = d.shown := by
  unfold txt
  rfl
section
variable {X : Cx}
def rReprT (K : PySem.W.Frag) : List V → Hp → VK → Prop := fun xs H Q => ∃ a d, xs = [.ref a] ∧ Dp K H (.ref a) d ∧ d.showable = true ∧ d.hasDict = false ∧ d.depth ≤ 60 ∧ d.shown.length ≤ sizeLine ∧ Q (.str (txt d)) H
theorem call_reprT (gd : X.A.guards = some []) (hu : X.A.units + 64 < cLine) : CallR X (.builtin "repr") (rReprT X.K) := by
  intro pins s σ H args us Q I r h
  obtain ⟨a, d, e, hd, hs, hn, hp, hz, q⟩ := h
  refine call_reprD gd hu pins s σ H args us Q I r ⟨a, d, e, hd, hs, hn, hp, hz, ?_⟩
  rw [← txt_eq]
  exact q
end

/-! ### a call by names alone -/
section
variable {X : Cx} {CX : CXT} {k : Nat} {f : Addr} {fd : FuncData} {ps ks : List Str} {sp : Sp} {E : XK} {x : Str} {p pos : Pos} {kws : List Keyword} {tk : TA} {g : List Value → List Value → List Value} {gV : List V → List V → List V}
theorem pe_callN0 (F : FnOk X.prog X.w X.K X.mg X.base CX k f fd ps sp) (hr : Room k X.A) (hg : Gl X x) (hm : X.mg x = some (.ref f)) (hk : PySem.W.keepIn X.K (.ref f) = true) (hb : KBn X.K fd ps 0 ks g gV) (hx : Passes CX X E) (hkw : PK X kws tk)
    (hks : (backToKw pos (keywordEach kws X.env)).filterMap (·.1) = ks := by rfl) (hall : (backToKw pos (keywordEach kws X.env)).all (·.1.isSome) = true := by rfl)
    (hpl : ((backTo pos (starEach [] X.env)).any (·.1) || (backToKw pos (keywordEach kws X.env)).any (·.1.isNone)) = false := by rfl) (hdb : (x == ("__debug__" : Str)) = false := by decide) :
    PE X (.Call (.Name x p) [] kws pos) (tCallN 0 ks.length sp gV E tNil tk) := by
  constructor
  intro pins s σ H Q I h
  refine wpAny_Call_Name_kw (ld_glob I hg hm (PySem.W.callWith_KW0 (h₀ := X.base) I.ok.mod.kin hk hall (thn (hkw.run pos pins s σ H _ I h) ?_) hpl) hdb)
  rintro ws s2 ⟨zs, H2, I2, rz, l1, l2, q2⟩
  rw [hks]
  exact ⟨I2.kIn, run_fnN (us := []) (vs := []) F hr hb hx I2 .nil rz l1 l2 q2⟩
end
end TB

set_option Elab.async false
set_option linter.all false
set_option maxRecDepth 100000
set_option maxHeartbeats 1000000
namespace TB
open PySem PySem.Spec PyProof.Rows L2

/-! ### sum, min, max of a tuple of numbers -/
section
variable {l : Addr} {its : List Value} {ns : List Int} {prog : Program} {w : World} {A : Around} {s : Shared} {Q E : Value → Shared → Prop}
theorem tup_old {h' : Heap} {ob : Obj} (kept : ∀ b o, b ∉ [s.heap.objs.size] → (s.heap.push ob).get? b = some o → h'.get? b = some o) : ∀ b o, s.heap.get? b = some o → h'.get? b = some o := fun b o e =>
  kept b o (fun z => by
    have z' : b = s.heap.objs.size := by simpa using z
    have := Heap.lt_size e
    rw [z'] at this
    exact Nat.lt_irrefl _ this) (Heap.get?_push_of_some _ e)
theorem tup_fp {ob : Obj} {xs : Array Value} (hl : s.heap.IsTuple l xs) : l < s.heap.objs.size ∧ ∀ b ∈ [s.heap.objs.size, l], b < (s.heap.push ob).objs.size := by
  obtain ⟨o, ho, _⟩ := hl
  have lt := Heap.lt_size ho
  refine ⟨lt, fun b hb => ?_⟩
  rw [Heap.size_push]
  have : b = s.heap.objs.size ∨ b = l := by simpa using hb
  rcases this with rfl | rfl
  · exact Nat.lt_succ_self _
  · exact Nat.lt_succ_of_lt lt
theorem sum_tupR (hh : A.handled = none) (hl : s.heap.IsTuple l its.toArray) (hi : IntsAre its ns)
    (told : ∀ h' tk t', (∀ b o, s.heap.get? b = some o → h'.get? b = some o) → Q (.int ns.sum t') { s with heap := h', toks := tk }) : wpAny (model prog w) A (call (.builtin "sum") [.ref l]) Q E s := by
  obtain ⟨pairs, e⟩ := hi.allInts.items
  have nums : numsOf (intItems pairs).toList = ns := by rw [← e]; exact hi.numsOf
  rw [nums_intItems] at nums
  rw [e] at hl
  refine call_sum_walkG (wpAny_pyIter_tuple hl ?_)
  refine ⟨_, [_, l], [_], _, _, _, numAt pairs, rfl, Walks.tuple (A := A.in1) hh _ l (Nat.ne_of_lt (tup_fp (ob := default) hl).1) (intItems pairs), ⟨⟨_, Heap.get?_push_size _ rfl, rfl, rfl⟩, hl.push _⟩, (tup_fp hl).2, fun _ _ => intItems_at, fun h' tk t' hk => ?_⟩
  have q := told h' tk t' (tup_old hk)
  have ez : (intItems pairs).size = pairs.size := by simp [intItems]
  rw [ez, preSum_eq, List.take_of_length_le (by simp), nums]
  exact q
theorem min_tupR (hh : A.handled = none) (hl : s.heap.IsTuple l its.toArray) (hi : IntsAre its ns) (hne : 0 < ns.length)
    (told : ∀ h' tk M t', (∀ b o, s.heap.get? b = some o → h'.get? b = some o) → M ∈ ns → (∀ a, a ∈ ns → M ≤ a) → Q (.int M t') { s with heap := h', toks := tk }) : wpAny (model prog w) A (call (.builtin "min") [.ref l]) Q E s := by
  obtain ⟨pairs, e⟩ := hi.allInts.items
  have nums : numsOf (intItems pairs).toList = ns := by rw [← e]; exact hi.numsOf
  rw [nums_intItems] at nums
  subst nums
  rw [e] at hl
  have some1 : 0 < pairs.size := by simpa using hne
  refine call_min_walk (wpAny_pyIter_tuple hl ?_)
  refine ⟨_, [_, l], [_], _, _, _, _, rfl, Walks.tuple (A := A.in1) hh _ l (Nat.ne_of_lt (tup_fp (ob := default) hl).1) (intItems pairs), ⟨⟨_, Heap.get?_push_size _ rfl, rfl, rfl⟩, hl.push _⟩, (tup_fp hl).2, by simpa [intItems] using some1, CmpOf.ints_lt (numAt pairs) (fun _ _ => intItems_at), fun v h' tk hP hk => ?_⟩
  have ez : (intItems pairs).size = pairs.size := by simp [intItems]
  rw [ez] at hP
  obtain ⟨t, rfl⟩ := intItems_at hP
  obtain ⟨_, least⟩ := argBest_lt (numAt pairs) (pairs.size - 1)
  refine told h' tk _ t (tup_old hk) ?_ fun a ha => ?_
  · rw [numAt_eq]
    exact PySem.getD_mem (by rw [List.length_map, Array.length_toList]; omega)
  · obtain ⟨i, hi', rfl⟩ := mem_getD ha
    have lt : i < pairs.toList.length := by simpa using hi'
    rw [Array.length_toList] at lt
    exact numAt_eq .. ▸ least i (by omega)
theorem max_tupR (hh : A.handled = none) (hl : s.heap.IsTuple l its.toArray) (hi : IntsAre its ns) (hne : 0 < ns.length)
    (told : ∀ h' tk M t', (∀ b o, s.heap.get? b = some o → h'.get? b = some o) → M ∈ ns → (∀ a, a ∈ ns → a ≤ M) → Q (.int M t') { s with heap := h', toks := tk }) : wpAny (model prog w) A (call (.builtin "max") [.ref l]) Q E s := by
  obtain ⟨pairs, e⟩ := hi.allInts.items
  have nums : numsOf (intItems pairs).toList = ns := by rw [← e]; exact hi.numsOf
  rw [nums_intItems] at nums
  subst nums
  rw [e] at hl
  have some1 : 0 < pairs.size := by simpa using hne
  refine call_max_walk (wpAny_pyIter_tuple hl ?_)
  refine ⟨_, [_, l], [_], _, _, _, _, rfl, Walks.tuple (A := A.in1) hh _ l (Nat.ne_of_lt (tup_fp (ob := default) hl).1) (intItems pairs), ⟨⟨_, Heap.get?_push_size _ rfl, rfl, rfl⟩, hl.push _⟩, (tup_fp hl).2, by simpa [intItems] using some1, CmpOf.ints_gt (numAt pairs) (fun _ _ => intItems_at), fun v h' tk hP hk => ?_⟩
  have ez : (intItems pairs).size = pairs.size := by simp [intItems]
  rw [ez] at hP
  obtain ⟨t, rfl⟩ := intItems_at hP
  obtain ⟨_, most⟩ := argBest_gt (numAt pairs) (pairs.size - 1)
  refine told h' tk _ t (tup_old hk) ?_ fun a ha => ?_
  · rw [numAt_eq]
    exact PySem.getD_mem (by rw [List.length_map, Array.length_toList]; omega)
  · obtain ⟨i, hi', rfl⟩ := mem_getD ha
    have lt : i < pairs.toList.length := by simpa using hi'
    rw [Array.length_toList] at lt
    exact numAt_eq .. ▸ most i (by omega)
end
section
variable {X : Cx}
def rSumT (K : PySem.W.Frag) : List V → Hp → VK → Prop := fun vs H Q => ∃ (a : Addr) (ns : List Int), vs = [V.ref a] ∧ SqT K H a (ns.map V.int) ∧ Q (.int ns.sum) H
def rMaxT (K : PySem.W.Frag) : List V → Hp → VK → Prop := fun vs H Q => ∃ (a : Addr) (ns : List Int), vs = [V.ref a] ∧ SqT K H a (ns.map V.int) ∧ 0 < ns.length ∧ ∀ m, m ∈ ns → (∀ y, y ∈ ns → y ≤ m) → Q (.int m) H
def rMinT (K : PySem.W.Frag) : List V → Hp → VK → Prop := fun vs H Q => ∃ (a : Addr) (ns : List Int), vs = [V.ref a] ∧ SqT K H a (ns.map V.int) ∧ 0 < ns.length ∧ ∀ m, m ∈ ns → (∀ y, y ∈ ns → m ≤ y) → Q (.int m) H
theorem call_sumT (hc : X.calm = true) : CallR X (.builtin "sum") (rSumT X.K) := by
  intro pins s σ H vs us Q I rel h
  obtain ⟨t, ns, rfl, at_t, q⟩ := h
  obtain ⟨its, rv, hl, _⟩ := I.tuple at_t
  rw [Vals.ref1 rel]
  exact sum_tupR (I.ok.hd hc) hl rv.ints fun h' tk t' hk => ⟨.int _, H, I.kept hk, ⟨_, rfl⟩, q⟩
theorem call_maxT (hc : X.calm = true) : CallR X (.builtin "max") (rMaxT X.K) := by
  intro pins s σ H vs us Q I rel h
  obtain ⟨t, ns, rfl, at_t, hne, q⟩ := h
  obtain ⟨its, rv, hl, _⟩ := I.tuple at_t
  rw [Vals.ref1 rel]
  exact max_tupR (I.ok.hd hc) hl rv.ints hne fun h' tk m t' hk h1 h2 => ⟨.int m, H, I.kept hk, ⟨_, rfl⟩, q m h1 h2⟩
theorem call_minT (hc : X.calm = true) : CallR X (.builtin "min") (rMinT X.K) := by
  intro pins s σ H vs us Q I rel h
  obtain ⟨t, ns, rfl, at_t, hne, q⟩ := h
  obtain ⟨its, rv, hl, _⟩ := I.tuple at_t
  rw [Vals.ref1 rel]
  exact min_tupR (I.ok.hd hc) hl rv.ints hne fun h' tk m t' hk h1 h2 => ⟨.int m, H, I.kept hk, ⟨_, rfl⟩, q m h1 h2⟩
end

/-! ### zip of a tuple and a list: one step of any two iterators -/
section
variable {w : World} {prog : Program} {s : Shared} {A : Around}
/-- nextOf i tells x and leaves T, from any state that keeps what s has but at the places off -/
def NextIs (prog : Program) (w : World) (s : Shared) (off : List Addr) (i : Addr) (x : Value) (T : Heap → Prop) : Prop :=
  ∀ (B : Around) (u : Shared) (Q : Value → Shared → Prop) (E : Value → Shared → Prop), (∀ c o, c ∉ off → s.heap.get? c = some o → u.heap.get? c = some o) →
    (∀ g, T g → Heap.SameBut i u.heap g → Q x { u with heap := g }) → wpAny (model prog w) B (Builtin.SmallTypes.nextOf (.ref i)) Q E u
/-- nextOf i stops -/
def NextEnds (prog : Program) (w : World) (s : Shared) (off : List Addr) (i : Addr) : Prop :=
  ∀ (B : Around) (u : Shared) (Q : Value → Shared → Prop) (E : Value → Shared → Prop), B.handled = none → (∀ c o, c ∉ off → s.heap.get? c = some o → u.heap.get? c = some o) →
    (∀ g e, Heap.ExtBut i u.heap g → (∃ o, g.get? e = some o ∧ o.cls = .type "StopIteration") → E (.ref e) { u with heap := g }) → wpAny (model prog w) B (Builtin.SmallTypes.nextOf (.ref i)) Q E u
/-- the five places of a zip are five -/
structure Five (z TI TO i j : Addr) : Prop where
  a : TI ≠ z
  b : TO ≠ z
  c : i ≠ z
  d : j ≠ z
  e : TO ≠ i
  f : TO ≠ j
  g : i ≠ j

theorem zip_step {E : Value → Shared → Prop} {z TI TO i j : Addr} {x y a b : Value} {T1 T2 : Heap → Prop} {Q : Option Value → Shared → Prop} (F : Five z TI TO i j)
    (hz : IsZip s.heap z TI TO .none) (hTI : IsPair s.heap TI (.ref i) (.ref j)) (hTO : IsPair s.heap TO a b)
    (lt : i < s.heap.objs.size ∧ j < s.heap.objs.size)
    (n1 : NextIs prog w s [z] i x T1) (n2 : NextIs prog w s [z, i, TO] j y T2)
    (k1 : ∀ g g' : Heap, T1 g → (∀ o, g.get? i = some o → g'.get? i = some o) → T1 g') (k2 : ∀ g g' : Heap, T2 g → (∀ o, g.get? j = some o → g'.get? j = some o) → T2 g')
    (hQ : ∀ g, IsZip g z TI TO (rawInt s.heap.objs.size) → IsPair g TO x y → T1 g → T2 g → IsPair g s.heap.objs.size x y → g.objs.size = s.heap.objs.size + 1 →
      (∀ c o, c ∉ [z, TO, i, j] → s.heap.get? c = some o → g.get? c = some o) → Q (some (.ref s.heap.objs.size)) { s with heap := g }) :
    wpAny (model prog w) A (pyNext (Value.ref z)) Q E s := by
  have isZ : s.TypeIs (.ref z) "zip" := ⟨_, hz, rfl⟩
  unfold pyNext
  refine wpAny_bind (wpAny_attempt (wpAny_callSpecial?_slot (name := Str.ofString "__next__") isZ PySem.F.slot_zip_next (wpAny_call_entry PySem.F.slot_zip_next isZ PySem.F.entry_zip_next ?_ (PySem.F.args_zip_next_1 _))))
  show wpAny _ _ (field (Value.ref z) 2 >>= _) _ _ _
  apply wpAny_bind
  refine wpAny_field hz rfl (x := .bool false) rfl ?_
  show wpAny _ _ (field (Value.ref z) 3 >>= _) _ _ _
  apply wpAny_bind
  refine wpAny_field hz rfl (x := .ref TI) rfl ?_
  apply wpAny_bind
  refine wpAny_seqItems hTI rfl ?_
  show wpAny _ _ (Builtin.SmallTypes.ownedTupleIsFree (Value.ref z) >>= _) _ _ _
  apply wpAny_bind; unfold Builtin.SmallTypes.ownedTupleIsFree; apply wpAny_bind
  refine wpAny_field hz rfl (x := .none) rfl (wpAny_pure ?_)
  simp only [if_true]
  apply wpAny_bind
  refine wpAny_rule ?_
  apply wpAny_bind
  refine wpAny_field hz rfl (x := .ref TO) rfl ?_
  apply wpAny_bind
  refine wpAny_setField_rec hz (by simp) fun g1 z1 s1 => ?_
  replace z1 : IsZip g1 z TI TO .ellipsis := z1
  apply wpAny_bind
  simp only [List.forIn_cons, List.forIn_nil, List.zipIdx_cons, List.zipIdx_nil]
  iterate 2 apply wpAny_bind
  apply wpAny_onRaise
  show wpAny _ _ (Builtin.SmallTypes.nextOf (.ref i) >>= _) _ _ _
  apply wpAny_bind
  refine n1 _ _ _ _ (fun c o n e => s1.extBut _ _ (by simpa using n) e) fun g2 t2 s2 => wpAny_pure ?_
  have o2 : IsPair g2 TO a b := s2.extBut _ _ F.e (s1.extBut _ _ F.b hTO)
  apply wpAny_bind
  refine wpAny_seqItems o2 rfl ?_
  apply wpAny_bind
  refine wpAny_updateSeq_pair o2 fun g3 o3 s3 => ?_
  replace o3 : IsPair g3 TO x b := o3
  apply wpAny_bind
  refine wpAny_letGo (wpAny_pure ?_)
  iterate 2 apply wpAny_bind
  apply wpAny_onRaise
  show wpAny _ _ (Builtin.SmallTypes.nextOf (.ref j) >>= _) _ _ _
  apply wpAny_bind
  refine n2 _ _ _ _ (fun c o n e => ?_) fun g4 t4 s4 => wpAny_pure ?_
  · have n' : c ≠ z ∧ c ≠ i ∧ c ≠ TO := by simpa using n
    exact s3.extBut _ _ n'.2.2 (s2.extBut _ _ n'.2.1 (s1.extBut _ _ n'.1 e))
  have o4 : IsPair g4 TO x b := s4.extBut _ _ F.f o3
  apply wpAny_bind
  refine wpAny_seqItems o4 rfl ?_
  apply wpAny_bind
  refine wpAny_updateSeq_pair o4 fun g5 o5 s5 => ?_
  replace o5 : IsPair g5 TO x y := o5
  apply wpAny_bind
  refine wpAny_letGo (wpAny_pure (wpAny_pure ?_))
  apply wpAny_bind
  refine wpAny_seqItems o5 rfl ?_
  apply wpAny_bind
  refine wpAny_newTuple ?_
  have size5 : g5.objs.size = s.heap.objs.size := by rw [s5.1, s4.1, s3.1, s2.1, s1.1]
  have z5 : IsZip g5 z TI TO .ellipsis := s5.extBut _ _ F.b.symm (s4.extBut _ _ F.d.symm (s3.extBut _ _ F.b.symm (s2.extBut _ _ F.c.symm z1)))
  have kept5 : ∀ c o, c ∉ [z, TO, i, j] → s.heap.get? c = some o → g5.get? c = some o := fun c o n e => by
    have n' : c ≠ z ∧ c ≠ TO ∧ c ≠ i ∧ c ≠ j := by simpa using n
    exact s5.extBut _ _ n'.2.1 (s4.extBut _ _ n'.2.2.2 (s3.extBut _ _ n'.2.1 (s2.extBut _ _ n'.2.2.1 (s1.extBut _ _ n'.1 e))))
  have u1 : T1 g5 := k1 _ _ t2 fun o e => s5.extBut _ _ F.e.symm (s4.extBut _ _ F.g (s3.extBut _ _ F.e.symm e))
  have u2 : T2 g5 := k2 _ _ t4 fun o e => s5.extBut _ _ F.f.symm e
  have zl : z < g5.objs.size := Heap.lt_size z5
  show wpAny _ _ (Builtin.SmallTypes.ownedTupleHandOut (.ref z) (.ref g5.objs.size) >>= _) _ _ _
  apply wpAny_bind; unfold Builtin.SmallTypes.ownedTupleHandOut
  have z6 : IsZip (g5.push { cls := .type "tuple", data := .seq #[x, y] }) z TI TO .ellipsis := Heap.get?_push_of_some _ z5
  apply wpAny_bind
  refine wpAny_setField_rec z6 (by simp) fun g7 z7 s7 => ?_
  replace z7 : IsZip g7 z TI TO (rawInt g5.objs.size) := z7
  refine wpAny_setField_rec z7 (by simp) fun g8 z8 s8 => ?_
  replace z8 : IsZip g8 z TI TO (rawInt g5.objs.size) := z8
  have up : ∀ c o, c ≠ z → g5.get? c = some o → g8.get? c = some o := fun c o n e => s8.extBut _ _ n (s7.extBut _ _ n (Heap.get?_push_of_some _ e))
  have pair8 : IsPair g8 g5.objs.size x y := s8.extBut _ _ (Nat.ne_of_gt zl) (s7.extBut _ _ (Nat.ne_of_gt zl) (Heap.get?_push_size _ rfl))
  have size8 : g8.objs.size = g5.objs.size + 1 := by rw [s8.1, s7.1, Heap.size_push]
  rw [size5] at z8 pair8 size8
  refine wpAny_pure ⟨_, rfl, wpAny_pure ?_⟩
  show Q (some (.ref g5.objs.size)) _
  rw [size5]
  exact hQ g8 z8 (up _ _ F.b o5) (k1 _ _ u1 fun o e => up _ o F.c e) (k2 _ _ u2 fun o e => up _ o F.d e) pair8 size8 fun c o n e => up c o (by simp at n; exact n.1) (kept5 c o n e)

theorem zip_stop0 {E : Value → Shared → Prop} {z TI TO i j : Addr} {a b : Value} {Q : Fin → Shared → Prop} (hh : A.handled = none) (F : Five z TI TO i j)
    (hz : IsZip s.heap z TI TO .none) (hTI : IsPair s.heap TI (.ref i) (.ref j)) (hTO : IsPair s.heap TO a b)
    (n : NextEnds prog w s [z] i ∨ (∃ (x : Value) (T : Heap → Prop), NextIs prog w s [z] i x T) ∧ NextEnds prog w s [z, i, TO] j)
    (fin : ∀ (g : Heap) (e : Addr), (∃ o, g.get? e = some o ∧ o.cls = .type "StopIteration") → (∀ c o, c ∉ [z, TO, i, j] → s.heap.get? c = some o → g.get? c = some o) → E (.ref e) { s with heap := g }) :
    wpAny (model prog w) A (Builtin.«zip.__next__» ⟨[Value.ref z], []⟩) Q E s := by
  show wpAny _ _ (field (Value.ref z) 2 >>= _) _ _ _
  apply wpAny_bind
  refine wpAny_field hz rfl (x := .bool false) rfl ?_
  show wpAny _ _ (field (Value.ref z) 3 >>= _) _ _ _
  apply wpAny_bind
  refine wpAny_field hz rfl (x := .ref TI) rfl ?_
  apply wpAny_bind
  refine wpAny_seqItems hTI rfl ?_
  show wpAny _ _ (Builtin.SmallTypes.ownedTupleIsFree (Value.ref z) >>= _) _ _ _
  apply wpAny_bind; unfold Builtin.SmallTypes.ownedTupleIsFree; apply wpAny_bind
  refine wpAny_field hz rfl (x := .none) rfl (wpAny_pure ?_)
  simp only [if_true]
  apply wpAny_bind
  refine wpAny_rule ?_
  apply wpAny_bind
  refine wpAny_field hz rfl (x := .ref TO) rfl ?_
  apply wpAny_bind
  refine wpAny_setField_rec hz (by simp) fun g1 z1 s1 => ?_
  replace z1 : IsZip g1 z TI TO .ellipsis := z1
  apply wpAny_bind
  simp only [List.forIn_cons, List.forIn_nil, List.zipIdx_cons, List.zipIdx_nil]
  iterate 2 apply wpAny_bind
  apply wpAny_onRaise
  show wpAny _ _ (Builtin.SmallTypes.nextOf (.ref i) >>= _) _ _ _
  rcases n with n | ⟨⟨x, T, n⟩, n'⟩
  · apply wpAny_bind
    refine n _ _ _ _ hh (fun c o m e => s1.extBut _ _ (by simpa using m) e) fun g2 e s2 he => ?_
    obtain ⟨oe, hoe, hce⟩ := he
    have z2 : IsZip g2 z TI TO .ellipsis := s2 _ _ F.c.symm z1
    have nez : e ≠ z := fun q => by subst q; rw [z2] at hoe; cases hoe; simp at hce
    refine wpAny_setField_rec z2 (by simp) fun g3 _ s3 => ?_
    refine fin g3 e ⟨oe, s3.extBut _ _ nez hoe, hce⟩ fun c o m q => ?_
    have m' : c ≠ z ∧ c ≠ TO ∧ c ≠ i ∧ c ≠ j := by simpa using m
    exact s3.extBut _ _ m'.1 (s2 _ _ m'.2.2.1 (s1.extBut _ _ m'.1 q))
  · apply wpAny_bind
    refine n _ _ _ _ (fun c o m e => s1.extBut _ _ (by simpa using m) e) fun g2 t2 s2 => wpAny_pure ?_
    have o2 : IsPair g2 TO a b := s2.extBut _ _ F.e (s1.extBut _ _ F.b hTO)
    apply wpAny_bind
    refine wpAny_seqItems o2 rfl ?_
    apply wpAny_bind
    refine wpAny_updateSeq_pair o2 fun g3 o3 s3 => ?_
    apply wpAny_bind
    refine wpAny_letGo (wpAny_pure ?_)
    iterate 2 apply wpAny_bind
    apply wpAny_onRaise
    show wpAny _ _ (Builtin.SmallTypes.nextOf (.ref j) >>= _) _ _ _
    apply wpAny_bind
    refine n' _ _ _ _ hh (fun c o m e => ?_) fun g4 e s4 he => ?_
    · have m' : c ≠ z ∧ c ≠ i ∧ c ≠ TO := by simpa using m
      exact s3.extBut _ _ m'.2.2 (s2.extBut _ _ m'.2.1 (s1.extBut _ _ m'.1 e))
    obtain ⟨oe, hoe, hce⟩ := he
    have z4 : IsZip g4 z TI TO .ellipsis := s4 _ _ F.d.symm (s3.extBut _ _ F.b.symm (s2.extBut _ _ F.c.symm z1))
    have nez : e ≠ z := fun q => by subst q; rw [z4] at hoe; cases hoe; simp at hce
    refine wpAny_setField_rec z4 (by simp) fun g5 _ s5 => ?_
    refine fin g5 e ⟨oe, s5.extBut _ _ nez hoe, hce⟩ fun c o m q => ?_
    have m' : c ≠ z ∧ c ≠ TO ∧ c ≠ i ∧ c ≠ j := by simpa using m
    exact s5.extBut _ _ m'.1 (s4 _ _ m'.2.2.2 (s3.extBut _ _ m'.2.1 (s2.extBut _ _ m'.2.2.1 (s1.extBut _ _ m'.1 q))))
theorem zip_stop {E : Value → Shared → Prop} {z TI TO i j : Addr} {a b : Value} {Q : Option Value → Shared → Prop} (hh : A.handled = none) (F : Five z TI TO i j)
    (hz : IsZip s.heap z TI TO .none) (hTI : IsPair s.heap TI (.ref i) (.ref j)) (hTO : IsPair s.heap TO a b)
    (n : NextEnds prog w s [z] i ∨ (∃ (x : Value) (T : Heap → Prop), NextIs prog w s [z] i x T) ∧ NextEnds prog w s [z, i, TO] j)
    (hQ : ∀ g, (∀ c o, c ∉ [z, TO, i, j] → s.heap.get? c = some o → g.get? c = some o) → Q none { s with heap := g }) :
    wpAny (model prog w) A (pyNext (Value.ref z)) Q E s := by
  have isZ : s.TypeIs (.ref z) "zip" := ⟨_, hz, rfl⟩
  unfold pyNext
  refine wpAny_bind (wpAny_attempt (wpAny_callSpecial?_slot (name := Str.ofString "__next__") isZ PySem.F.slot_zip_next (wpAny_call_entry PySem.F.slot_zip_next isZ PySem.F.entry_zip_next ?_ (PySem.F.args_zip_next_1 _))))
  refine zip_stop0 (A := A.in1) hh F hz hTI hTO n fun g e he hk => ?_
  obtain ⟨o, ho, hc⟩ := he
  apply wpAny_bind
  exact wpAny_isInstance (T := "StopIteration") (b := true) ⟨o, ho, hc⟩ isSubtype_stop (wpAny_pure (hQ _ hk))

/-! a tuple's and a list's -/
theorem next_tup {i l : Addr} {k : Nat} {xs : Array Value} {x : Value} {off : List Addr} (hi : s.heap.IsTupleIter i l k) (hl : s.heap.IsTuple l xs) (hx : xs[k]? = some x) (ni : i ∉ off) (nl : l ∉ off) :
    NextIs prog w s off i x (fun g => g.IsTupleIter i l (k + 1)) := fun B u Q E hk h =>
  RZ.nextOf_tuple_item (hi.at fun o e => hk _ o ni e) (hl.at fun o e => hk _ o nl e) hx h
theorem next_lst {i l : Addr} {k : Nat} {xs : Array Value} {x : Value} {off : List Addr} (hi : s.heap.IsListIter i l k) (hl : s.heap.IsList l xs) (hx : xs[k]? = some x) (ni : i ∉ off) (nl : l ∉ off) :
    NextIs prog w s off i x (fun g => g.IsListIter i l (k + 1)) := fun B u Q E hk h =>
  wpAny_nextOf_list_item (hi.at fun o e => hk _ o ni e) (hl.at fun o e => hk _ o nl e) hx h
theorem ends_tup {i l : Addr} {k : Nat} {xs : Array Value} {off : List Addr} (hi : s.heap.IsTupleIter i l k) (hl : s.heap.IsTuple l xs) (hx : xs[k]? = none) (ni : i ∉ off) (nl : l ∉ off) :
    NextEnds prog w s off i := fun B u Q E hh hk h =>
  RZ.nextOf_tuple_end hh (hi.at fun o e => hk _ o ni e) (hl.at fun o e => hk _ o nl e) hx h
theorem ends_lst {i l : Addr} {k : Nat} {xs : Array Value} {off : List Addr} (hi : s.heap.IsListIter i l k) (hl : s.heap.IsList l xs) (hx : xs[k]? = none) (ni : i ∉ off) (nl : l ∉ off) :
    NextEnds prog w s off i := fun B u Q E hh hk h =>
  wpAny_nextOf_list_end hh (hi.at fun o e => hk _ o ni e) (hl.at fun o e => hk _ o nl e) hx h
end

/-! zip(t, xs), t a tuple, xs a list -/
abbrev zTL1 (h : Heap) (a : Addr) : Heap := h.push { cls := .type "tuple_iterator", data := .fields #[.ref a, .int 0 0] }
abbrev zTL2 (h : Heap) (a b : Addr) : Heap := (zTL1 h a).push { cls := .type "list_iterator", data := .fields #[.ref b, .int 0 0] }
abbrev zTL3 (h : Heap) (a b : Addr) : Heap := (zTL2 h a b).push { cls := .type "tuple", data := .seq #[.ref h.objs.size, .ref (zTL1 h a).objs.size] }
abbrev zTL4 (h : Heap) (a b : Addr) : Heap := (zTL3 h a b).push { cls := .type "tuple", data := .seq #[.none, .none] }
abbrev zTL5 (h : Heap) (a b : Addr) : Heap := (zTL4 h a b).push { cls := .type "zip", data := .fields #[.none, .bool false, .bool false, .ref (zTL2 h a b).objs.size, .ref (zTL3 h a b).objs.size] }
theorem zTL_new (a b : Addr) (xs ys : Array Value) :
    Meets (Builtin.«zip.__new__» ⟨[.type "zip", .ref a, .ref b], []⟩) (fun _ R s => s.heap.IsTuple a xs ∧ s.heap.IsList b ys ∧ R (.ok (.ret (.ref (zTL4 s.heap a b).objs.size))) { s with heap := zTL5 s.heap a b }) :=
  .of_wp fun prog w A R st h => by
    obtain ⟨hp, g, d, tk, os⟩ := st
    obtain ⟨ha, hb, h⟩ := h
    have sub := sub_zip
    have iA : Heap.IsTuple (Shared.heap ⟨hp, g, d, tk, os⟩) a xs := ha
    have iB : Heap.IsList (Shared.heap ⟨hp.push { cls := .type "tuple_iterator", data := .fields #[.ref a, .int 0 0] }, g, d, tk, os⟩) b ys := Heap.IsList.push hb _
    wp_walk using wpAny_pyIter_tuple iA, wpAny_pyIter_list iB
    exact ⟨_, rfl, h⟩
section
variable {prog : Program} {w : World} {A : Around} {E : Value → Shared → Prop} {s : Shared}
theorem call_zTL {a b : Addr} {xs ys : Array Value} {Q : Value → Shared → Prop} (ha : s.heap.IsTuple a xs) (hb : s.heap.IsList b ys)
    (h : ∀ (n : Nat) (g : Heap), n = s.heap.objs.size → IsZip g (n + 4) (n + 2) (n + 3) .none → IsPair g (n + 2) (.ref n) (.ref (n + 1)) → IsPair g (n + 3) .none .none → g.IsTupleIter n a 0 → g.IsListIter (n + 1) b 0 →
      (∀ c o, s.heap.get? c = some o → g.get? c = some o) → Q (.ref (n + 4)) { s with heap := g }) :
    wpAny (model prog w) A (call (.type "zip") [.ref a, .ref b]) Q E s := by
  refine callType_new PySem.F.called_zip (by decide) (PySem.F.typeCall_zip_2 _ _) (PySem.F.newCall_zip_2 _ _) (fun o => PySem.F.args_object_init_3 o _ _) PySem.F.entry_zip_new (zTL_new a b xs ys) ⟨ha, hb, ?_⟩
  have e1 : (zTL1 s.heap a).objs.size = s.heap.objs.size + 1 := Heap.size_push ..
  have e2 : (zTL2 s.heap a b).objs.size = s.heap.objs.size + 2 := by rw [Heap.size_push, e1]
  have e3 : (zTL3 s.heap a b).objs.size = s.heap.objs.size + 3 := by rw [Heap.size_push, e2]
  have e4 : (zTL4 s.heap a b).objs.size = s.heap.objs.size + 4 := by rw [Heap.size_push, e3]
  have g5 : (zTL5 s.heap a b).get? (zTL4 s.heap a b).objs.size = some _ := Heap.get?_push_size _ rfl
  have g4 : (zTL5 s.heap a b).get? (zTL3 s.heap a b).objs.size = some _ := Heap.get?_push_of_some _ (Heap.get?_push_size _ rfl)
  have g3 : (zTL5 s.heap a b).get? (zTL2 s.heap a b).objs.size = some _ := Heap.get?_push_of_some _ (Heap.get?_push_of_some _ (Heap.get?_push_size _ rfl))
  have g2 : (zTL5 s.heap a b).get? (zTL1 s.heap a).objs.size = some _ := Heap.get?_push_of_some _ (Heap.get?_push_of_some _ (Heap.get?_push_of_some _ (Heap.get?_push_size _ rfl)))
  have g1 : (zTL5 s.heap a b).get? s.heap.objs.size = some _ := Heap.get?_push_of_some _ (Heap.get?_push_of_some _ (Heap.get?_push_of_some _ (Heap.get?_push_of_some _ (Heap.get?_push_size _ rfl))))
  show _ ∧ _
  rw [e2, e3, e4] at g5
  rw [e1, e2] at g3
  rw [e3] at g4
  rw [e1] at g2
  rw [e4]
  refine ⟨⟨_, g5, rfl⟩, h _ _ rfl g5 g3 g4 ⟨_, g1, rfl, rfl⟩ ⟨_, g2, rfl, rfl⟩ fun c o x => ?_⟩
  iterate 5 apply Heap.get?_push_of_some
  exact x
end

/-- what a turn over zip(t, xs) is -/
def ItTL (K : PySem.W.Frag) (a b : Addr) : It :=
  ⟨fun i H => ∃ (xs ys : List V) (x y : V), SqT K H a xs ∧ SqL K H b ys ∧ xs[i]? = some x ∧ ys[i]? = some y,
    fun i H v H' => ∃ T x y, v = .ref T ∧ H T = none ∧ H' = upd H T (.tup [x, y]) ∧ (∀ xs, SqT K H a xs → xs[i]? = some x) ∧ ∀ ys, SqL K H b ys → ys[i]? = some y,
    fun i H => ∃ xs ys : List V, SqT K H a xs ∧ SqL K H b ys ∧ (xs.length ≤ i ∨ ys.length ≤ i)⟩
theorem turn_TL {P : Program} {w : World} {K : PySem.W.Frag} {elts : List Expr} {kk : Nat} {tpos : Pos} {a b z TI TO i1 i2 : Addr} (V5 : Five z TI TO i1 i2) (nI : TI ≠ TO ∧ TI ≠ i1 ∧ TI ≠ i2) (na : a ∉ [z, TO, i1, i2]) (nb : b ∉ [z, TO, i1, i2]) :
    Turn P w K (.Tuple elts kk tpos) (ItTL K a b) [z, TI, TO, i1, i2] z (fun i h => IsZip h z TI TO .none ∧ IsPair h TI (.ref i1) (.ref i2) ∧ (∃ x y, IsPair h TO x y) ∧ h.IsTupleIter i1 a i ∧ h.IsListIter i2 b i) where
  mem := by simp
  obj := fun i h st c hc => by
    obtain ⟨isz, pI, ⟨x, y, pO⟩, ⟨o1, e1, _, d1⟩, ⟨o2, e2, _, d2⟩⟩ := st
    have five : c = z ∨ c = TI ∨ c = TO ∨ c = i1 ∨ c = i2 := by simpa using hc
    rcases five with rfl | rfl | rfl | rfl | rfl
    · exact ⟨_, isz, fun v q => nomatch q⟩
    · exact ⟨_, pI, fun v q => nomatch q⟩
    · exact ⟨_, pO, fun v q => nomatch q⟩
    · exact ⟨o1, e1, fun v q => by rw [d1] at q; cases q⟩
    · exact ⟨o2, e2, fun v q => by rw [d2] at q; cases q⟩
  keep := fun i h h' st k => by
    obtain ⟨isz, pI, ⟨x, y, pO⟩, h1, h2⟩ := st
    exact ⟨k _ (by simp) _ isz, k _ (by simp) _ pI, ⟨x, y, k _ (by simp) _ pO⟩, h1.at fun o q => k _ (by simp) o q, h2.at fun o q => k _ (by simp) o q⟩
  item := by
    intro X eP eW eK hc i pins s σ H E I hf st hg
    subst eP eW eK
    obtain ⟨isz, pI, ⟨x0, y0, pO⟩, h1, h2⟩ := st
    obtain ⟨xs, ys, x, y, qx, qy, hx, hy⟩ := hg
    obtain ⟨its, rv, p1, _⟩ := I.tuple qx
    obtain ⟨jts, rw_, p2, _⟩ := I.list qy
    obtain ⟨u, at_u, ru⟩ := rv.get hx
    obtain ⟨v, hv, rv2⟩ := rw_.get hy
    have zl : z < s.heap.objs.size := Heap.lt_size isz
    have l1 : i1 < s.heap.objs.size := by obtain ⟨_, e, _⟩ := h1; exact Heap.lt_size e
    have l2 : i2 < s.heap.objs.size := by obtain ⟨_, e, _⟩ := h2; exact Heap.lt_size e
    have na' : a ≠ z ∧ a ≠ TO ∧ a ≠ i1 ∧ a ≠ i2 := by simpa using na
    have nb' : b ≠ z ∧ b ≠ TO ∧ b ≠ i1 ∧ b ≠ i2 := by simpa using nb
    refine zip_step (T1 := fun g => g.IsTupleIter i1 a (i + 1)) (T2 := fun g => g.IsListIter i2 b (i + 1)) V5 isz pI pO ⟨l1, l2⟩ (next_tup h1 p1 (x := u) (by simpa using at_u) (by simpa using V5.c) (by simpa using na'.1))
      (next_lst h2 p2.isList (x := v) (by simpa using hv) (by simpa using ⟨V5.d, V5.g.symm, V5.f.symm⟩) (by simpa using ⟨nb'.1, nb'.2.2.1, nb'.2.1⟩)) (fun g g' t k => t.at k) (fun g g' t k => t.at k) fun g z' TO' t1 t2 hT hsz hk => ?_
    refine ⟨_, rfl, wpAny_letOwnedTupleGo_zip (s := { s with heap := g }) z' fun g2 z2 sb => ?_⟩
    have hT2 : g2.get? s.heap.objs.size = some { cls := .type "tuple", data := .seq #[u, v] } := (sb.2 _ (Nat.ne_of_gt zl)).trans hT
    have new : ObjOk X.prog X.w (upd H s.heap.objs.size (.tup [x, y])) g2 s.heap.objs.size (.tup [x, y]) := ⟨by show 2 ≤ sizeLine; decide, [u, v], .cons ru (.cons rv2 .nil), ⟨_, hT2, rfl, _, rfl⟩⟩
    have I1 : Inv X pins σ (upd H s.heap.objs.size (.tup [x, y])) { s with heap := g2 } := by
      refine I.turnedNew (t' := s.toks) (ch := [z, TI, TO, i1, i2]) (fun c o hb q => ?_) hf (Nat.le_refl _) new
      have n5 : c ≠ z ∧ c ≠ TI ∧ c ≠ TO ∧ c ≠ i1 ∧ c ≠ i2 := by simpa using hb
      exact (sb.2 c n5.1).trans (hk c o (by simpa using ⟨n5.1, n5.2.2.1, n5.2.2.2.1, n5.2.2.2.2⟩) q)
    have up : ∀ c o, c ≠ z → g.get? c = some o → g2.get? c = some o := fun c o n q => (sb.2 c n).trans q
    refine ⟨.ref s.heap.objs.size, _, I1, rfl, ⟨_, x, y, rfl, I.hok.fresh (Nat.le_refl _), rfl, fun l hl => by rw [I.tuple_inj hl qx]; exact hx, fun l hl => by rw [I.list_inj hl qy]; exact hy⟩, ⟨z2, ?_, ⟨u, v, up _ _ V5.b TO'⟩, t1.at fun o q => up _ o V5.c q, t2.at fun o q => up _ o V5.d q⟩, fun c hcm => ?_⟩
    · exact up _ _ V5.a (hk _ _ (by simpa using ⟨V5.a, nI.1, nI.2.1, nI.2.2⟩) pI)
    · have five : c = z ∨ c = TI ∨ c = TO ∨ c = i1 ∨ c = i2 := by simpa using hcm
      have lt : c < s.heap.objs.size := by
        rcases five with rfl | rfl | rfl | rfl | rfl
        · exact zl
        · exact Heap.lt_size pI
        · exact Heap.lt_size pO
        · exact l1
        · exact l2
      rw [upd_ne (Nat.ne_of_lt lt)]
      exact (hf c hcm).1
  done := by
    intro X eP eW eK hc i pins s σ H E I hf st hg
    subst eP eW eK
    obtain ⟨isz, pI, ⟨x0, y0, pO⟩, h1, h2⟩ := st
    obtain ⟨xs, ys, qx, qy, hend⟩ := hg
    obtain ⟨its, rv, p1, _⟩ := I.tuple qx
    obtain ⟨jts, rw_, p2, _⟩ := I.list qy
    have m1 := rv.length
    have m2 := rw_.length
    have na' : a ≠ z ∧ a ≠ TO ∧ a ≠ i1 ∧ a ≠ i2 := by simpa using na
    have nb' : b ≠ z ∧ b ≠ TO ∧ b ≠ i1 ∧ b ≠ i2 := by simpa using nb
    have n : NextEnds X.prog X.w s [z] i1 ∨ (∃ (x : Value) (T : Heap → Prop), NextIs X.prog X.w s [z] i1 x T) ∧ NextEnds X.prog X.w s [z, i1, TO] i2 := by
      by_cases c : xs.length ≤ i
      · exact .inl (ends_tup h1 p1 (by simp; omega) (by simpa using V5.c) (by simpa using na'.1))
      · have c2 : ys.length ≤ i := by omega
        exact .inr ⟨⟨its[i]'(by omega), _, next_tup h1 p1 (by simp) (by simpa using V5.c) (by simpa using na'.1)⟩, ends_lst h2 p2.isList (by simp; omega) (by simpa using ⟨V5.d, V5.g.symm, V5.f.symm⟩) (by simpa using ⟨nb'.1, nb'.2.2.1, nb'.2.1⟩)⟩
    refine zip_stop (I.ok.hd hc) V5 isz pI pO n fun g hk => ⟨rfl, I.turnedL (t' := s.toks) (ch := [z, TI, TO, i1, i2]) (fun c o hb q => ?_) hf⟩
    have n5 : c ≠ z ∧ c ≠ TI ∧ c ≠ TO ∧ c ≠ i1 ∧ c ≠ i2 := by simpa using hb
    exact hk c o (by simpa using ⟨n5.1, n5.2.2.1, n5.2.2.2.1, n5.2.2.2.2⟩) q
  self := fun _ _ _ _ _ st h => wpAny_pyIter_zip st.1 h

theorem five_at (n : Nat) : Five (n + 4) (n + 2) (n + 3) n (n + 1) := by
  constructor
  · show (n + 2 : Nat) ≠ n + 4; omega
  · show (n + 3 : Nat) ≠ n + 4; omega
  · show (n : Nat) ≠ n + 4; omega
  · show (n + 1 : Nat) ≠ n + 4; omega
  · show (n + 3 : Nat) ≠ n; omega
  · show (n + 3 : Nat) ≠ n + 1; omega
  · show (n : Nat) ≠ n + 1; omega
theorem six_at (n : Nat) : (n + 2 : Nat) ≠ n + 3 ∧ (n + 2 : Nat) ≠ n ∧ (n + 2 : Nat) ≠ n + 1 := by omega
theorem five_out {n a : Nat} (h : a < n) : a ∉ [n + 4, n + 3, n, n + 1] := by
  simp
  omega
def iTL (K : PySem.W.Frag) (ta : TA) : TI := fun σ H R => ta σ H fun vs H1 => ∃ a b xs ys, vs = [.ref a, .ref b] ∧ SqT K H1 a xs ∧ SqL K H1 b ys ∧ R (ItTL K a b) H1
theorem pi_zipTL {X : Cx} {e e2 : Expr} {ta : TA} {p pos tpos : Pos} {elts : List Expr} {kk : Nat} (hg : Gl X "zip") (hm : X.mg "zip" = none) (ha : PA X [e, e2] ta)
    (hs : starEach [e, e2] X.env = (false, eval e X.env) :: starEach [e2] X.env := by rfl) (hpl : (backTo pos (starEach [e2] X.env)).any (·.1) = false := by rfl) : PI X (.Tuple elts kk tpos) (.Call (.Name "zip" p) [e, e2] [] pos) (iTL X.K ta) := by
  refine ⟨fun pins s0 σ H R I h => ?_⟩
  refine Call_ (ld_blt I hg hm PyProof.Rows.boot_zip (PyProof.Rows.callWith_type1 (thn (ha.run pos pins s0 σ H _ I h) fun us u ⟨vs, H1, I1, r1, q1⟩ => ?_) hs hpl))
  obtain ⟨a, b, xs, ys, rfl, qx, qy, q⟩ := q1
  cases r1 with
  | cons r rr =>
    cases rr with
    | cons r' rr =>
      cases rr
      cases r
      cases r'
      obtain ⟨its, rv, p1, _⟩ := I1.tuple qx
      obtain ⟨jts, rw_, p2, _⟩ := I1.list qy
      have la : a < u.heap.objs.size := by obtain ⟨o, ho, _⟩ := id p1; exact Heap.lt_size ho
      have lb : b < u.heap.objs.size := p2.lt
      refine call_zTL (xs := its.toArray) p1 p2.isList fun n g hn hz hTI hTO h1 h2 hk => wpAny_pyIter_zip hz ?_
      have I2 : Inv X pins σ H1 { u with heap := g } := I1.kept (t' := u.toks) hk
      have fr : ∀ c, c ∈ [n + 4, n + 2, n + 3, n, n + 1] → FpOk X pins H1 c := fun c hcm => by
        have five : c = n + 4 ∨ c = n + 2 ∨ c = n + 3 ∨ c = n ∨ c = n + 1 := by simpa using hcm
        have le : u.heap.objs.size ≤ c := by rw [← hn]; omega
        exact I1.fpOk le (I1.hok.fresh le)
      refine ⟨n + 4, [n + 4, n + 2, n + 3, n, n + 1], _, _, H1, rfl, I2, turn_TL (z := n + 4) (TI := n + 2) (TO := n + 3) (i1 := n) (i2 := n + 1) (five_at n) (six_at n) (five_out (by rw [hn]; exact la)) (five_out (by rw [hn]; exact lb)), ⟨hz, hTI, ⟨_, _, hTO⟩, h1, h2⟩, fr, q⟩
/-- a loop over it, both of one length -/
theorem for_TL {K : PySem.W.Frag} {a b : Addr} {xs ys : List V} {g : TG} {tb : TS} {D : Ends} {σ : L2.St} {H : Hp} (hl : xs.length = ys.length) (Inv0 : Nat → L2.St → Hp → Prop) (h0 : Inv0 0 σ H) (hq : ∀ i σ H, Inv0 i σ H → SqT K H a xs ∧ SqL K H b ys)
    (hs : ∀ (i : Nat) (x y : V) (T : Addr) (σ : L2.St) (H : Hp), xs[i]? = some x → ys[i]? = some y → Inv0 i σ H → H T = none → g (.ref T) σ (upd H T (.tup [x, y])) fun σ2 H2 => tb { D with nx := Inv0 (i + 1), ct := Inv0 (i + 1), bk := D.nx } σ2 H2) (hd : ∀ σ H, Inv0 xs.length σ H → D.nx σ H) :
    ∃ Z : Nat → Nat → L2.St → Hp → Prop, (∃ m, Z 0 m σ H) ∧ ∀ i m σ H, Z i m σ H →
      ((ItTL K a b).stop i H ∧ D.nx σ H) ∨ ((ItTL K a b).go i H ∧ ∃ N : L2.St → Hp → Prop, (∀ σ' H', N σ' H' → ∃ m', m' < m ∧ Z (i + 1) m' σ' H') ∧ ∀ v H', (ItTL K a b).yld i H v H' → g v σ H' fun σ2 H2 => tb { D with nx := N, ct := N, bk := D.nx } σ2 H2) := by
  refine ⟨fun i m σ H => m = xs.length - i ∧ i ≤ xs.length ∧ Inv0 i σ H, ⟨xs.length, rfl, Nat.zero_le _, h0⟩, ?_⟩
  rintro i m σ H ⟨rfl, hi, p⟩
  obtain ⟨qx, qy⟩ := hq i σ H p
  by_cases lt : i < xs.length
  · have lt2 : i < ys.length := by omega
    refine .inr ⟨⟨xs, ys, _, _, qx, qy, List.getElem?_eq_getElem lt, List.getElem?_eq_getElem lt2⟩, Inv0 (i + 1), fun σ' H' p' => ⟨xs.length - (i + 1), by omega, rfl, lt, p'⟩, fun v H' y => ?_⟩
    obtain ⟨T, u1, u2, rfl, nT, rfl, f1, f2⟩ := y
    exact hs i u1 u2 T σ H (f1 xs qx) (f2 ys qy) p nT
  · obtain rfl : i = xs.length := by omega
    exact .inl ⟨⟨xs, ys, qx, qy, .inl (Nat.le_refl _)⟩, hd σ H p⟩
/-! ### slices and sums of tuples, whichever way they come -/
theorem slA {K : PySem.W.Frag} {H : Hp} {a : Addr} {xs : List V} {lo hi : Option Int} {Q : VK} (h : SqT K H a xs) (q : ∀ H' r, Same H H' → SqT K H' r (cutV xs lo hi) → Q (.ref r) H') : rSlA K (.ref a) lo hi H Q := by
  refine ⟨a, xs, rfl, h, fun hw => q H a (Same.refl H) ?_, fun _ p np => q _ p (same_upd np) (.inl (.inl upd_same))⟩
  unfold cutV
  rw [hw.1, hw.2, List.drop_zero, Nat.sub_zero, List.take_length]
  exact h
theorem catA {K : PySem.W.Frag} {H : Hp} {a b : Addr} {xs ys : List V} {Q : VK} (ha : SqT K H a xs) (hb : SqT K H b ys) (hl : xs.length + ys.length ≤ sizeLine) (q : ∀ H' r, Same H H' → SqT K H' r (xs ++ ys) → Q (.ref r) H') : rCatA K (.ref a) (.ref b) H Q := by
  refine ⟨a, b, xs, ys, rfl, rfl, ha, hb, hl, fun e => q H b (Same.refl H) ?_, fun _ e => q H a (Same.refl H) ?_, fun _ _ p np => q _ p (same_upd np) (.inl (.inl upd_same))⟩
  · rw [e, List.nil_append]
    exact hb
  · rw [e, List.append_nil]
    exact ha
theorem cut_last (xs : List V) (v : V) : cutV (xs ++ [v]) (some (-1)) none = [v] := by
  have e : HT.sIx (xs ++ [v]).length 0 (some (-1)) = xs.length := by
    show (if (-1 : Int) < 0 then (-1 + ((xs ++ [v]).length : Int)).toNat else min (-1 : Int).toNat (xs ++ [v]).length) = xs.length
    rw [if_pos (by decide), List.length_append, List.length_singleton]
    omega
  unfold cutV
  rw [e, HT.sIx_none, List.drop_left, List.length_append, List.length_singleton, Nat.add_sub_cancel_left]
  rfl
theorem cut_init (xs : List V) (v : V) : cutV (xs ++ [v]) none (some (-1)) = xs := by
  have e : HT.sIx (xs ++ [v]).length (xs ++ [v]).length (some (-1)) = xs.length := by
    show (if (-1 : Int) < 0 then (-1 + ((xs ++ [v]).length : Int)).toNat else min (-1 : Int).toNat (xs ++ [v]).length) = xs.length
    rw [if_pos (by decide), List.length_append, List.length_singleton]
    omega
  unfold cutV
  rw [e, HT.sIx_none, List.drop_zero, Nat.sub_zero, List.take_left]
end TB

set_option Elab.async false
set_option linter.all false
set_option maxRecDepth 100000
namespace TB
open PySem PySem.Spec PyProof.Rows L2 HT

/-! ### t[::-1] of a tuple -/
theorem back_adjust (n : Nat) : Builtin.Slice.sliceAdjust none none (-1) (n : Int) = ((n : Int) - 1, -1) := by
  simp [Builtin.Slice.sliceAdjust]
theorem back_places (n : Nat) : Builtin.Slice.slicePlaces ((n : Int) - 1) (-1) (-1) = n := by
  have no : ¬ ((-1 : Int) > 0) := by decide
  simp only [Builtin.Slice.slicePlaces, no, if_false]
  by_cases c : (n : Int) - 1 > -1
  · rw [if_pos c, show (- -1 : Int) = 1 by decide, Int.ediv_one]
    omega
  · rw [if_neg c]
    omega
theorem fm_congr {α β : Type} {f g : α → Option β} : ∀ {l : List α}, (∀ a ∈ l, f a = g a) → l.filterMap f = l.filterMap g
  | [], _ => rfl
  | x :: l, h => by
    rw [List.filterMap_cons, List.filterMap_cons, h x List.mem_cons_self, fm_congr fun a ha => h a (List.mem_cons_of_mem _ ha)]
theorem back_pick (xs : Array Value) : ((List.range xs.size).filterMap fun (m : Nat) => xs[(((xs.size : Int) - 1) + (m : Int) * (-1)).toNat]?).toArray = xs.toList.reverse.toArray := by
  have e : (List.range xs.size).filterMap (fun (m : Nat) => xs[(((xs.size : Int) - 1) + (m : Int) * (-1)).toNat]?) = ((List.range xs.size).map fun m => xs.size - 1 - m).filterMap (xs[·]?) := by
    rw [List.filterMap_map]
    refine fm_congr fun m hm => ?_
    have : (((xs.size : Int) - 1) + (m : Int) * (-1)).toNat = xs.size - 1 - m := by
      have := List.mem_range.mp hm
      omega
    rw [this]
    rfl
  rw [e, PySem.W.krv_range, List.filterMap_reverse, PySem.W.krv_all]
section
variable {w : World} {prog : Program} {s : Shared} {A : Around} {E : Value → Shared → Prop}
theorem back_applied {sl : Addr} {vs : Value} {n : Nat} {Q : Int × Int × Nat → Shared → Prop} (hs : s.heap.IsSliceOf sl .none .none vs) (ps : IsPart vs (some (-1))) (h : Q ((n : Int) - 1, -1, n) s) :
    wpAny (model prog w) A (Builtin.Slice.sliceApplied (Value.ref sl) (pure (n : Int))) Q E s := by
  obtain ⟨o, ho, _, hd⟩ := id hs
  unfold Builtin.Slice.sliceApplied
  unfold Builtin.Slice.sliceFields
  refine wpAny_bind (wpAny_bind (wpAny_field ho hd (x := .none) rfl (wpAny_bind (wpAny_field ho hd (x := .none) rfl (wpAny_bind (wpAny_field ho hd (x := vs) rfl (wpAny_pure ?_)))))))
  apply wpAny_bind
  refine slicePart_ ps ?_
  show wpAny _ _ (if ((-1 : Int) == 0) = true then _ else _) _ _ s
  rw [if_neg (by decide)]
  apply wpAny_bind
  refine slicePart_ .none ?_
  apply wpAny_bind
  refine slicePart_ .none ?_
  apply wpAny_bind
  refine wpAny_pure ?_
  show wpAny _ _ (match Builtin.Slice.sliceAdjust none none (-1) (n : Int) with | (lo, hi) => pure (lo, (-1 : Int), Builtin.Slice.slicePlaces lo hi (-1))) _ _ s
  rw [back_adjust]
  show wpAny _ _ (pure ((n : Int) - 1, (-1 : Int), Builtin.Slice.slicePlaces ((n : Int) - 1) (-1) (-1))) _ _ s
  rw [back_places]
  exact wpAny_pure h
theorem back_item {t sl : Addr} {items : Array Value} {vs : Value} {Q : Value → Shared → Prop} (ht : IsTup s.heap t items) (hs : s.heap.IsSliceOf sl .none .none vs) (ps : IsPart vs (some (-1)))
    (h : Q (.ref s.heap.objs.size) { s with heap := s.heap.push { cls := .type "tuple", data := .seq items.toList.reverse.toArray } }) (hsz : items.size ≤ sizeLine) : wpAny (model prog w) A (getItem (.ref t) (.ref sl)) Q E s := by
  have fits : sizeOk (.seq items.toList.reverse.toArray) := by
    show items.toList.reverse.toArray.size ≤ sizeLine
    rw [List.size_toArray, List.length_reverse, Array.length_toList]
    exact hsz
  obtain ⟨o, ho, hc, hd⟩ := id hs
  have isS : s.TypeIs (.ref sl) "slice" := ⟨o, ho, hc⟩
  unfold getItem
  try with_reducible apply wpAny_holding
  try refine wpAny_bind (wpAny_pure ?_)
  apply wpAny_bind
  refine wpAny_sequenceKey ht.typeIs (by decide) ?_
  apply wpAny_bind
  refine wpAny_callSpecial?_slot (name := Str.ofString "__getitem__") ht.typeIs PyProof.Rows.slot_tuple_getitem (wpAny_call_entry PyProof.Rows.slot_tuple_getitem ht.typeIs entry_tuple_getitem ?_ (args_tuple_getitem _ _))
  show wpAny _ _ (Builtin.Tuple.tupleItemsOf (Value.ref t) >>= _) _ _ s
  apply wpAny_bind
  refine tupleItemsOf_ ht ?_
  apply wpAny_bind
  refine wpAny_typeOf isS ?_
  rw [if_pos (by decide)]
  apply wpAny_bind
  refine back_applied hs ps ?_
  show wpAny _ _ (if (((items.size : Int) - 1) == 0 && (-1 : Int) == 1 && items.size == items.size) = true then _ else _) _ _ s
  rw [if_neg (by simp), back_pick]
  first
    | exact wpAny_bind (m := Builtin.Tuple.tupleExact _) (wpAny_newObj_type (wpAny_pure ⟨_, rfl, wpAny_pure h⟩) fits)
    | exact wpAny_bind (m := Builtin.Tuple.tupleExact _) (wpAny_newObj_type (wpAny_bind (wpAny_pure (wpAny_pure ⟨_, rfl, wpAny_pure h⟩))) fits)
    | exact wpAny_bind (wpAny_bind (m := Builtin.Tuple.tupleExact _) (wpAny_newObj_type (wpAny_pure (wpAny_pure ⟨_, rfl, wpAny_pure h⟩)) fits))
    | exact wpAny_bind (wpAny_bind (m := Builtin.Tuple.tupleExact _) (wpAny_newObj_type (wpAny_pure ⟨_, rfl, wpAny_pure h⟩) fits))
end
def tRevT (K : PySem.W.Frag) (te : TE) : TE := fun σ H Q => te σ H fun x H1 => ∃ a xs, x = .ref a ∧ SqT K H1 a xs ∧ ∀ p, H1 p = none → Q (.ref p) (upd H1 p (.tup xs.reverse))
section
variable {X : Cx}
theorem pe_revT {e : Expr} {te : TE} {k : Nat} {p1 p2 p3 pos : Pos} (he : PE X e te) : PE X (.Subscript e (.Slice none none (some (.UnaryOp .USub (.Constant (.int 1) k p1) p2)) p3) pos) (tRevT X.K te) := by
  refine ⟨fun pins s0 σ H Q I h => ?_⟩
  refine Subscript_ (thn (he.run pins s0 σ H _ I h) fun v s1 ⟨x, H1, I1, r1, q1⟩ => ?_)
  obtain ⟨a, xs, rfl, hx, q⟩ := q1
  cases r1
  have step : PO X (some (.UnaryOp .USub (.Constant (.int 1) k p1) p2)) (tPart (tUn (rU fun i => .int (-i)) (tC (.int 1)))) := po_some (pe_un un_neg pe_int)
  refine wpAny_Slice (thn (po_none.run pins s1 σ H1 (fun o G => o = none ∧ G = H1) I1 ⟨rfl, rfl⟩) fun vl s2 ⟨l, G2, I2, pl, el, e2⟩ => ?_)
  subst el e2
  refine thn (po_none.run pins s2 σ G2 (fun o G => o = none ∧ G = G2) I2 ⟨rfl, rfl⟩) fun vu s3 ⟨u, G3, I3, pu, eu, e3⟩ => ?_
  subst eu e3
  refine thn (step.run pins s3 σ G3 (fun o G => o = some (-1) ∧ G = G3) I3 ⟨1, rfl, -1, rfl, rfl, rfl⟩) fun vs s4 ⟨o, G4, I4, ps, eo, e4⟩ => ?_
  subst eo e4
  cases pl
  cases pu
  have I5 : Inv X pins σ G4 { s4 with heap := s4.heap.push { cls := .type "slice", data := .fields #[.none, .none, vs] } } := I4.kept (t' := s4.toks) fun b ob z => Heap.get?_push_of_some _ z
  obtain ⟨its, r, ht, hz⟩ := I5.tuple hx
  have lens := r.length
  show wpAny (model X.prog X.w) X.A (subscriptTail e (.Slice none none (some (.UnaryOp .USub (.Constant (.int 1) k p1) p2)) p3) (.ref a) (.ref s4.heap.objs.size)) (EP X pins σ Q) X.xe { s4 with heap := s4.heap.push { cls := .type "slice", data := .fields #[.none, .none, vs] } }
  refine tail_any (ops := [.ref a, .ref s4.heap.objs.size]) ht.typeIs (PyProof.Rows.slot_tuple_getitem.lookup) ?_ (by with_unfolding_all rfl)
  refine back_item ht (Heap.IsSliceOf.new _ .none .none vs) ps ?_ (by rw [List.size_toArray]; omega)
  refine ⟨.ref _, _, I5.laid (t' := s4.toks) (o := .tup xs.reverse) (fun b ob z => Heap.get?_push_of_some _ z) (Nat.le_refl _) ?_, rfl, q _ (I5.hok.fresh (Nat.le_refl _))⟩
  exact ⟨by rw [List.length_reverse]; exact hz, its.reverse, r.reverse, ⟨_, Heap.get?_push_size _ rfl, rfl, 0, rfl⟩⟩
end
end TB

set_option Elab.async false
set_option linter.all false
set_option maxRecDepth 100000
set_option maxHeartbeats 1000000
namespace TB
open PySem PySem.Spec PyProof.Rows L2

/-! ### heaps without some places -/
def hid (F : List Addr) (H : Hp) : Hp := fun b => if b ∈ F then none else H b
theorem hid_at {F : List Addr} {H : Hp} {b : Addr} (n : b ∉ F) : hid F H b = H b := if_neg n
theorem hid_sub {F : List Addr} {H : Hp} : Same (hid F H) H := fun b o e => by
  unfold hid at e
  by_cases h : b ∈ F
  · rw [if_pos h] at e
    cases e
  · rw [if_neg h] at e
    exact e
theorem hid_mono {F : List Addr} {H H' : Hp} (k : ∀ b o, b ∉ F → H b = some o → H' b = some o) : Same (hid F H) (hid F H') := fun b o e => by
  unfold hid at e
  by_cases h : b ∈ F
  · rw [if_pos h] at e
    cases e
  · rw [if_neg h] at e
    rw [hid_at h]
    exact k b o h e
theorem hid_same {F : List Addr} {H H' : Hp} (s : Same H H') : Same (hid F H) (hid F H') := hid_mono fun b o _ e => s b o e
theorem hid_but {F : List Addr} {L : Addr} {H H' : Hp} (hL : L ∈ F) (k : But L H H') : Same (hid F H) (hid F H') := hid_mono fun b o nb e => k b o (fun z => nb (z ▸ hL)) e
theorem hid_upd {F : List Addr} {H : Hp} {W : Addr} {o : HO} (h : W ∈ F) : hid F (upd H W o) = hid F H := by
  funext b
  unfold hid
  by_cases c : b ∈ F
  · rw [if_pos c, if_pos c]
  · have ne : b ≠ W := fun z => c (z ▸ h)
    rw [if_neg c, if_neg c, upd_ne ne]
/-- the places that are hidden are taken -/
def Took (F : List Addr) (H : Hp) : Prop := ∀ f ∈ F, H f ≠ none
theorem Took.out {F : List Addr} {H : Hp} {p : Addr} (t : Took F H) (n : H p = none) : p ∉ F := fun z => t p z n
theorem Took.same {F : List Addr} {H H' : Hp} (t : Took F H) (s : Same H H') : Took F H' := fun f hf z => by
  cases e : H f with
  | none => exact t f hf e
  | some o =>
    rw [s f o e] at z
    cases z
theorem Took.but {F : List Addr} {L : Addr} {H H' : Hp} {zs : List V} (t : Took F H) (k : But L H H') (e : H' L = some (.lst zs)) : Took F H' := fun f hf z => t f hf (k.free e z)

/-! ### slices, sums of tuples, all outside the hidden places -/
section
variable {K : PySem.W.Frag} {F : List Addr} {H : Hp}
theorem slH {a : Addr} {xs : List V} {lo hi : Option Int} {Q : VK} (t : Took F H) (h : SqT K (hid F H) a xs) (q : ∀ H' r, Same H H' → SqT K (hid F H') r (cutV xs lo hi) → Q (.ref r) H') : rSlA K (.ref a) lo hi H Q := by
  refine ⟨a, xs, rfl, Same.tup hid_sub h, fun hw => q H a (Same.refl H) ?_, fun _ p np => q _ p (same_upd np) (.inl (.inl ?_))⟩
  · unfold cutV
    rw [hw.1, hw.2, List.drop_zero, Nat.sub_zero, List.take_length]
    exact h
  · rw [hid_at (t.out np)]
    exact upd_same
theorem catH {a b : Addr} {xs ys : List V} {Q : VK} (t : Took F H) (ha : SqT K (hid F H) a xs) (hb : SqT K (hid F H) b ys) (hl : xs.length + ys.length ≤ sizeLine) (q : ∀ H' r, Same H H' → SqT K (hid F H') r (xs ++ ys) → Q (.ref r) H') : rCatA K (.ref a) (.ref b) H Q := by
  refine ⟨a, b, xs, ys, rfl, rfl, Same.tup hid_sub ha, Same.tup hid_sub hb, hl, fun e => q H b (Same.refl H) ?_, fun _ e => q H a (Same.refl H) ?_, fun _ _ p np => q _ p (same_upd np) (.inl (.inl ?_))⟩
  · rw [e, List.nil_append]
    exact hb
  · rw [e, List.append_nil]
    exact ha
  · rw [hid_at (t.out np)]
    exact upd_same
theorem newT {p : Addr} {xs : List V} (t : Took F H) (n : H p = none) : SqT K (hid F (upd H p (.tup xs))) p xs := .inl (.inl (by
  rw [hid_at (t.out n)]
  exact upd_same))
theorem newL {p : Addr} {xs : List V} (t : Took F H) (n : H p = none) : SqL K (hid F (upd H p (.lst xs))) p xs := .inl (.inl (by
  rw [hid_at (t.out n)]
  exact upd_same))
end
/-! ### the data of slices -/
def cutD (ds : List PyData) (lo hi : Option Int) : List PyData := (ds.drop (HT.sIx ds.length 0 lo)).take (HT.sIx ds.length ds.length hi - HT.sIx ds.length 0 lo)
theorem cutD_mem {ds : List PyData} {lo hi : Option Int} {d : PyData} (h : d ∈ cutD ds lo hi) : d ∈ ds := List.mem_of_mem_drop (List.mem_of_mem_take h)
theorem cutD_len (ds : List PyData) (lo hi : Option Int) : (cutD ds lo hi).length ≤ ds.length := by
  unfold cutD
  rw [List.length_take, List.length_drop]
  omega
theorem DpAll.drop {K : PySem.W.Frag} {H : Hp} : ∀ {vs : List V} {ds : List PyData} (i : Nat), DpAll K H vs ds → DpAll K H (vs.drop i) (ds.drop i)
  | _, _, 0, h => h
  | _, _, _ + 1, .nil => .nil
  | _, _, i + 1, .cons _ t => DpAll.drop i t
theorem DpAll.take {K : PySem.W.Frag} {H : Hp} : ∀ {vs : List V} {ds : List PyData} (i : Nat), DpAll K H vs ds → DpAll K H (vs.take i) (ds.take i)
  | _, _, 0, _ => by
    rw [List.take_zero, List.take_zero]
    exact .nil
  | _, _, _ + 1, .nil => .nil
  | _, _, i + 1, .cons a t => .cons a (DpAll.take i t)
theorem DpAll.cut {K : PySem.W.Frag} {H : Hp} {vs : List V} {ds : List PyData} {lo hi : Option Int} (h : DpAll K H vs ds) : DpAll K H (cutV vs lo hi) (cutD ds lo hi) := by
  unfold cutV cutD
  rw [DpAll.len h]
  exact DpAll.take _ (DpAll.drop _ h)
theorem DpAll.app {K : PySem.W.Frag} {H : Hp} : ∀ {vs ws : List V} {ds es : List PyData}, DpAll K H vs ds → DpAll K H ws es → DpAll K H (vs ++ ws) (ds ++ es)
  | _, _, _, _, .nil, h => h
  | _, _, _, _, .cons a t, h => .cons a (DpAll.app t h)
theorem DpAll.rev {K : PySem.W.Frag} {H : Hp} : ∀ {vs : List V} {ds : List PyData}, DpAll K H vs ds → DpAll K H vs.reverse ds.reverse
  | _, _, .nil => .nil
  | _, _, .cons a t => by
    rw [List.reverse_cons, List.reverse_cons]
    exact DpAll.snoc a (DpAll.rev t)
/-- one of a list's things, by a place that was drawn -/
theorem pickD {K : PySem.W.Frag} {H : Hp} {us : List V} {ds : List PyData} {v : Int} (h : DpAll K H us ds) (h0 : 0 ≤ v) (h1 : v < us.length) : ∃ x d, atI us v = some x ∧ Dp K H x d ∧ d ∈ ds := by
  obtain ⟨j, rfl⟩ : ∃ j : Nat, v = (j : Int) := ⟨v.toNat, (Int.toNat_of_nonneg h0).symm⟩
  have hj : j < us.length := by omega
  obtain ⟨d, e, dx⟩ := DpAll.get h (List.getElem?_eq_getElem hj)
  exact ⟨us[j], d, atI_nat (List.getElem?_eq_getElem hj), dx, List.mem_of_getElem? e⟩
/-! ### things of this depth and width -/
def atom : PyData → Prop
  | .none => True
  | .bool _ => True
  | .int _ => True
  | .str z => PyData.strOk z = true
  | _ => False
def Gd (n : Nat) : Nat → PyData → Prop
  | 0, d => atom d
  | k + 1, d => atom d ∨ ∃ ds, (d = .tuple ds ∨ d = .list ds) ∧ ds.length ≤ n ∧ ∀ e ∈ ds, Gd n k e
theorem Gd.atom {n k : Nat} {d : PyData} (h : atom d) : Gd n k d := by
  cases k with
  | zero => exact h
  | succ k => exact .inl h
theorem Gd.mono {n m : Nat} (hn : n ≤ m) : ∀ {k l : Nat} {d : PyData}, k ≤ l → Gd n k d → Gd m l d
  | 0, _, _, _, h => Gd.atom h
  | k + 1, 0, _, h, _ => by omega
  | k + 1, l + 1, _, hk, .inl h => .inl h
  | k + 1, l + 1, _, hk, .inr ⟨ds, e, hl, h⟩ => .inr ⟨ds, e, Nat.le_trans hl hn, fun d hd => Gd.mono hn (Nat.le_of_succ_le_succ hk) (h d hd)⟩
theorem Gd.tup {n k : Nat} {ds : List PyData} (hl : ds.length ≤ n) (h : ∀ e ∈ ds, Gd n k e) : Gd n (k + 1) (.tuple ds) := .inr ⟨ds, .inl rfl, hl, h⟩
theorem Gd.lst {n k : Nat} {ds : List PyData} (hl : ds.length ≤ n) (h : ∀ e ∈ ds, Gd n k e) : Gd n (k + 1) (.list ds) := .inr ⟨ds, .inr rfl, hl, h⟩
theorem Gd.tup_inv {n k : Nat} {ds : List PyData} (h : Gd n k (.tuple ds)) : ∃ l, k = l + 1 ∧ ds.length ≤ n ∧ ∀ e ∈ ds, Gd n l e := by
  cases k with
  | zero => exact absurd h id
  | succ k =>
    rcases h with h | ⟨es, e | e, hl, h⟩
    · exact absurd h id
    · cases e
      exact ⟨k, rfl, hl, h⟩
    · cases e
theorem Gd.lays {n : Nat} : ∀ {k : Nat} {d : PyData}, Gd n k d → PyData.canLay0 d = true ∧ PyData.depth d ≤ k
  | k, d, h => by
    have at_ : ∀ {d : PyData}, TB.atom d → PyData.canLay0 d = true ∧ PyData.depth d = 0 := by
      intro d h
      cases d with
      | none => exact ⟨rfl, rfl⟩
      | bool b => exact ⟨rfl, rfl⟩
      | int i => exact ⟨rfl, rfl⟩
      | str z => exact ⟨h, rfl⟩
      | list ds => exact absurd h id
      | tuple ds => exact absurd h id
      | dict ds => exact absurd h id
    cases k with
    | zero =>
      obtain ⟨a, b⟩ := at_ h
      exact ⟨a, by omega⟩
    | succ k =>
      rcases h with h | ⟨ds, e, _, h⟩
      · obtain ⟨a, b⟩ := at_ h
        exact ⟨a, by omega⟩
      · have all : ∀ es : List PyData, (∀ e ∈ es, Gd n k e) → PyData.canLayAll0 es = true ∧ PyData.depthAll es ≤ k := by
          intro es
          induction es with
          | nil => exact fun _ => ⟨rfl, Nat.zero_le _⟩
          | cons e es ih =>
            intro he
            obtain ⟨a, b⟩ := ih fun x hx => he x (List.mem_cons_of_mem _ hx)
            obtain ⟨c, d⟩ := Gd.lays (he e List.mem_cons_self)
            refine ⟨by simp only [PyData.canLayAll0, a, c, Bool.and_self], ?_⟩
            simp only [PyData.depthAll]
            omega
        obtain ⟨a, b⟩ := all ds h
        rcases e with rfl | rfl
        · exact ⟨by simp only [PyData.canLay0, a], by simp only [PyData.depth]; omega⟩
        · exact ⟨by simp only [PyData.canLay0, a], by simp only [PyData.depth]; omega⟩
theorem Gd.shaped {n k : Nat} {d : PyData} (h : Gd n k d) (hk : k ≤ 60) : SeqAt.shaped d = true := by
  obtain ⟨a, b⟩ := h.lays
  unfold SeqAt.shaped
  rw [a, decide_eq_true (by omega)]
  rfl
theorem eqv_void : ∀ ds : List PyData, PyData.eqv (.tuple ds) (.tuple []) = decide (ds = [])
  | [] => by simp [PyData.eqv, PyData.eqvAll]
  | d :: ds => by simp [PyData.eqv, PyData.eqvAll]
/-! ### a statement, and what is known behind it -/
def tCut (t : TS) : TS := fun D σ H => ∃ R : L2.St → Hp → Prop, t { D with nx := R } σ H ∧ ∀ σ' H', R σ' H' → D.nx σ' H'
theorem ps_cut {X : Cx} {st : Stmt} {t : TS} (h : PS X st t) : PS X st (tCut t) := by
  refine ⟨fun pins s0 σ H D I hw => ?_⟩
  obtain ⟨R, a, b⟩ := hw
  refine thn (h.run pins s0 σ H _ I a) fun fl s1 z => ?_
  cases fl with
  | next =>
    obtain ⟨σ', H', I2, z⟩ := z
    exact ⟨σ', H', I2, b _ _ z⟩
  | brk => exact z
  | cont => exact z
  | ret v => exact z
end TB

set_option Elab.async false
set_option linter.all false
set_option maxRecDepth 100000
set_option maxHeartbeats 1000000
namespace TB
open PySem PySem.Spec PyProof.Rows L2

/-! ### enumerate(t), t a tuple -/
abbrev eT1 (h : Heap) (a : Addr) : Heap := h.push { cls := .type "tuple_iterator", data := .fields #[.ref a, .int 0 0] }
abbrev eT2 (h : Heap) (a : Addr) : Heap := (eT1 h a).push { cls := .type "enumerate", data := .fields #[.none, .bool false, .ref h.objs.size, rawInt 0, .none, .none] }
theorem enT_new (a : Addr) (xs : Array Value) (n : Nat) (dct : Option Addr) (sl : Array (Option Value)) :
    Meets (Builtin.«enumerate.__new__» ⟨[.type "enumerate", .ref a], []⟩) (fun _ R s => s.heap.get? a = some { cls := .type "tuple", dict := dct, data := .seq xs n, slots := sl } ∧ R (.ok (.ret (.ref (eT1 s.heap a).objs.size))) { s with heap := eT2 s.heap a }) :=
  .of_wp fun prog w A R st h => by
    obtain ⟨hp, g, d, tk, os⟩ := st
    obtain ⟨ha, h⟩ := h
    have sub := sub_enumerate
    have iA : Heap.IsTuple (Shared.heap ⟨hp, g, d, tk, os⟩) a xs := ⟨_, ha, rfl, n, rfl⟩
    wp_walk using AutoSeq1.wpAny_loadPart' ha
    refine wpAny_stack_any fun st => wpAny_pure ?_
    split
    · rename_i c _ _ _ _ _
      cases (c == Value.type "enumerate")
      · wp_walk using AutoSeq1.wpAny_loadPart' ha, wpAny_pyIter_tuple iA
        exact ⟨_, rfl, h⟩
      · wp_walk using AutoSeq1.wpAny_loadPart' ha, wpAny_pyIter_tuple iA
        exact ⟨_, rfl, h⟩
    · wp_walk using AutoSeq1.wpAny_loadPart' ha, wpAny_pyIter_tuple iA
      exact ⟨_, rfl, h⟩
section
variable {prog : Program} {w : World} {A : Around} {E : Value → Shared → Prop} {s : Shared}
theorem call_enT {a : Addr} {xs : Array Value} {Q : Value → Shared → Prop} (ha : s.heap.IsTuple a xs)
    (h : ∀ (n : Nat) (g : Heap), n = s.heap.objs.size → IsEnum g (n + 1) n 0 .none → g.IsTupleIter n a 0 → (∀ c o, s.heap.get? c = some o → g.get? c = some o) → Q (.ref (n + 1)) { s with heap := g }) :
    wpAny (model prog w) A (call (.type "enumerate") [.ref a]) Q E s := by
  obtain ⟨⟨c, dct, dt, sl⟩, ho, hc, n, hd⟩ := ha
  obtain rfl : c = .type "tuple" := hc
  obtain rfl : dt = .seq xs n := hd
  refine callType_new F.called_enumerate (by decide) (F.typeCall_enumerate_1 _) (F.newCall_enumerate_1 _) (fun ob => F.args_object_init_2 ob _) F.entry_enumerate_new (enT_new a xs n dct sl) ⟨ho, ?_⟩
  have e1 : (eT1 s.heap a).objs.size = s.heap.objs.size + 1 := Heap.size_push ..
  have g2 : (eT2 s.heap a).get? (eT1 s.heap a).objs.size = some _ := Heap.get?_push_size _ rfl
  have g1 : (eT2 s.heap a).get? s.heap.objs.size = some _ := Heap.get?_push_of_some _ (Heap.get?_push_size _ rfl)
  show _ ∧ _
  rw [e1] at g2
  rw [e1]
  exact ⟨⟨_, g2, rfl⟩, h _ _ rfl g2 ⟨_, g1, rfl, rfl⟩ fun c o z => Heap.get?_push_of_some _ (Heap.get?_push_of_some _ z)⟩
end
/-- a turn over it: a new pair of the place and the thing there -/
def ItET (K : PySem.W.Frag) (a : Addr) : It :=
  ⟨fun i H => ∃ (xs : List V) (x : V), SqT K H a xs ∧ xs[i]? = some x, fun i H v H' => ∃ T x, v = .ref T ∧ H T = none ∧ H' = upd H T (.tup [.int (i : Nat), x]) ∧ ∀ xs, SqT K H a xs → xs[i]? = some x, fun i H => ∃ xs : List V, SqT K H a xs ∧ xs.length ≤ i⟩
theorem turn_ET {P : Program} {w : World} {K : PySem.W.Frag} {elts : List Expr} {kk : Nat} {tpos : Pos} {a e it : Addr} (nei : e ≠ it) (na : a ≠ it) (nae : a ≠ e) :
    Turn P w K (.Tuple elts kk tpos) (ItET K a) [e, it] e (fun i h => (∃ old, IsEnum h e it ((i : Nat) : Int) old) ∧ h.IsTupleIter it a i) where
  mem := by simp
  obj := fun i h st b hb => by
    obtain ⟨⟨old, he⟩, ⟨o, ho, hc, hd⟩⟩ := st
    have two : b = e ∨ b = it := by simpa using hb
    rcases two with rfl | rfl
    · exact ⟨_, he, fun v q => nomatch q⟩
    · exact ⟨o, ho, fun v q => by rw [hd] at q; cases q⟩
  keep := fun i h h' st k => by
    obtain ⟨⟨old, he⟩, hi⟩ := st
    exact ⟨⟨old, k _ (by simp) _ he⟩, hi.at fun o q => k _ (by simp) o q⟩
  item := by
    intro X eP eW eK hc i pins s σ H E I hf st hg
    subst eP eW eK
    obtain ⟨⟨old, he⟩, hit⟩ := st
    obtain ⟨xs, x, hq, hx⟩ := hg
    obtain ⟨its, rv, p, hz⟩ := I.tuple hq
    obtain ⟨u, hu, ru⟩ := rv.get hx
    have el : e < s.heap.objs.size := Heap.lt_size he
    have il : it < s.heap.objs.size := by obtain ⟨_, q, _⟩ := hit; exact Heap.lt_size q
    have ilt : i < its.toArray.size := by
      rw [List.size_toArray]
      exact (List.getElem?_eq_some_iff.mp hu).1
    have D := Draws.tuple (prog := X.prog) (w := X.w) (A := X.A.in1) (I.ok.hd hc) it a na its.toArray
    refine wpAny_pyNext_enum_itemD D he ⟨hit, p⟩ ilt nei (by simp; exact ⟨nei, nae.symm⟩) fun y g tk hP ho st2 hT hsz hk => ?_
    have yu : y = u := by
      have z : some y = some u := by
        rw [← hu, ← hP]
        simp
      exact Option.some.inj z
    subst yu
    refine ⟨_, rfl, wpAny_letOwnedTupleGo_enum (s := { s with heap := g, toks := tk + 1 }) ho fun g2 he2 sb => ?_⟩
    have hT2 : g2.get? s.heap.objs.size = some { cls := .type "tuple", data := .seq #[.int i tk, y] } := (sb.2 _ (Nat.ne_of_gt el)).trans hT
    have new : ObjOk X.prog X.w (upd H s.heap.objs.size (.tup [.int (i : Nat), x])) g2 s.heap.objs.size (.tup [.int (i : Nat), x]) := ⟨by show 2 ≤ sizeLine; decide, [.int i tk, y], .cons ⟨_, rfl⟩ (.cons ru .nil), ⟨_, hT2, rfl, _, rfl⟩⟩
    have I1 : Inv X pins σ (upd H s.heap.objs.size (.tup [.int (i : Nat), x])) { s with heap := g2, toks := tk + 1 } := by
      refine I.turnedNew (ch := [e, it]) (fun b ob hb q => ?_) hf (Nat.le_refl _) new
      have n2 : b ≠ e ∧ b ≠ it := by simpa using hb
      exact (sb.2 b n2.1).trans (hk b ob n2.1 n2.2 q)
    refine ⟨.ref s.heap.objs.size, _, I1, rfl, ⟨_, x, rfl, I.hok.fresh (Nat.le_refl _), rfl, fun l hl => by rw [I.tuple_inj hl hq]; exact hx⟩, ⟨⟨y, ?_⟩, st2.1.at fun o q => (sb.2 it (Ne.symm nei)).trans q⟩, fun b hb => ?_⟩
    · have i1 : ((i + 1 : Nat) : Int) = (i : Int) + 1 := by omega
      rw [i1]
      exact he2
    · have two : b = e ∨ b = it := by simpa using hb
      have lt : b < s.heap.objs.size := by
        rcases two with rfl | rfl
        · exact el
        · exact il
      rw [upd_ne (Nat.ne_of_lt lt)]
      exact (hf b hb).1
  done := by
    intro X eP eW eK hc i pins s σ H E I hf st hg
    subst eP eW eK
    obtain ⟨⟨old, he⟩, hit⟩ := st
    obtain ⟨xs, hq, hx⟩ := hg
    obtain ⟨its, rv, p, hz⟩ := I.tuple hq
    have hl := rv.length
    obtain ⟨f0, f1, f2, f3, f4, f5⟩ := hf it (by simp)
    have hT : s.TypeIs (.ref e) "enumerate" := ⟨_, he, rfl⟩
    unfold pyNext
    refine wpAny_bind (wpAny_attempt (wpAny_callSpecial?_slot (name := Str.ofString "__next__") hT F.slot_enumerate_next (wpAny_call_entry F.slot_enumerate_next hT F.entry_enumerate_next ?_ (F.args_enumerate_next_1 _))))
    show wpAny _ _ (field (.ref e) 2 >>= _) _ _ _
    refine wpAny_bind (wpAny_field he rfl (x := .ref it) rfl ?_)
    refine wpAny_bind (wpAny_nextOf_tuple_end (A := X.A.in1) (I.ok.hd hc) hit p (by simp; omega) fun g ex eb hx' => ?_)
    obtain ⟨o, ho, hce⟩ := hx'
    refine wpAny_bind (wpAny_isInstance (T := "StopIteration") (b := true) ⟨o, ho, hce⟩ isSubtype_stop ?_)
    exact wpAny_pure ⟨rfl, I.turned (t' := s.toks) (fun b o hb q => eb b o hb q) f0 f1 f3 f4 f5⟩
  self := fun A i s Q E st h => by
    obtain ⟨⟨_, he⟩, _⟩ := st
    exact wpAny_pyIter_enum he h
def iET (K : PySem.W.Frag) (ta : TA) : TI := fun σ H R => ta σ H fun vs H1 => ∃ a xs, vs = [.ref a] ∧ SqT K H1 a xs ∧ R (ItET K a) H1
theorem pi_enumT {X : Cx} {e : Expr} {ta : TA} {p pos tpos : Pos} {elts : List Expr} {kk : Nat} (hg : Gl X "enumerate") (hm : X.mg "enumerate" = none) (ha : PA X [e] ta)
    (hs : starEach [e] X.env = [(false, eval e X.env)] := by rfl) : PI X (.Tuple elts kk tpos) (.Call (.Name "enumerate" p) [e] [] pos) (iET X.K ta) := by
  refine ⟨fun pins s0 σ H R I h => ?_⟩
  refine Call_ (ld_blt I hg hm boot_enumerate (PyProof.Rows.callWith_type1 (thn (ha.run pos pins s0 σ H _ I h) fun us u ⟨vs, H1, I1, r1, q1⟩ => ?_) hs rfl))
  obtain ⟨a, xs, rfl, hq, q⟩ := q1
  cases r1 with
  | cons r rr =>
    cases rr
    cases r
    obtain ⟨its, rv, p1, _⟩ := I1.tuple hq
    have la : a < u.heap.objs.size := by obtain ⟨o, ho, _⟩ := id p1; exact Heap.lt_size ho
    refine call_enT (xs := its.toArray) p1 fun n g hn he hi hk => wpAny_pyIter_enum he ?_
    have I2 : Inv X pins σ H1 { u with heap := g } := I1.kept (t' := u.toks) hk
    have fr : ∀ c, c ∈ [n + 1, n] → FpOk X pins H1 c := fun c hcm => by
      have two : c = n + 1 ∨ c = n := by simpa using hcm
      have le : u.heap.objs.size ≤ c := by rw [← hn]; omega
      exact I1.fpOk le (I1.hok.fresh le)
    exact ⟨n + 1, [n + 1, n], _, _, H1, rfl, I2, turn_ET (e := n + 1) (it := n) (Nat.succ_ne_self _) (by rw [hn]; exact Nat.ne_of_lt la) (by rw [hn]; exact Nat.ne_of_lt (Nat.lt_succ_of_lt la)), ⟨⟨.none, he⟩, hi⟩, fr, q⟩
section
variable {K : PySem.W.Frag} {a b : Addr} {xs ys : List V}
theorem walk_ET : Walk (ItET K a) xs.length (fun H => SqT K H a xs) (YPair (fun i => some (.int (i : Nat))) (fun i => xs[i]?)) := by
  refine ⟨fun i _ hi q => ⟨xs, xs[i], q, by simp [hi]⟩, fun _ q => ⟨xs, q, Nat.le_refl _⟩, fun i H x H' _ q y => ?_⟩
  obtain ⟨T, z, h1, h2, h3, h4⟩ := y
  exact ⟨T, _, z, h1, h2, h3, rfl, h4 xs q⟩
theorem walk_zT {n : Nat} (hn : n = min xs.length ys.length) : Walk (RZ.ItzT K a b) n (fun H => SqT K H a xs ∧ SqT K H b ys) (YPair (fun i => xs[i]?) (fun i => ys[i]?)) := by
  refine ⟨fun i H hi q => ?_, fun H q => ?_, fun i H x H' hi q y => ?_⟩
  · have h1 : i < xs.length := by omega
    have h2 : i < ys.length := by omega
    exact ⟨xs, ys, xs[i], ys[i], q.1, q.2, by simp [h1], by simp [h2]⟩
  · exact ⟨xs, ys, q.1, q.2, by omega⟩
  · obtain ⟨T, u, v, h1, h2, h3, h4, h5⟩ := y
    exact ⟨T, u, v, h1, h2, h3, h4 xs q.1, h5 ys q.2⟩
theorem walk_TL {n : Nat} (hn : n = min xs.length ys.length) : Walk (ItTL K a b) n (fun H => SqT K H a xs ∧ SqL K H b ys) (YPair (fun i => xs[i]?) (fun i => ys[i]?)) := by
  refine ⟨fun i H hi q => ?_, fun H q => ?_, fun i H x H' hi q y => ?_⟩
  · have h1 : i < xs.length := by omega
    have h2 : i < ys.length := by omega
    exact ⟨xs, ys, xs[i], ys[i], q.1, q.2, by simp [h1], by simp [h2]⟩
  · exact ⟨xs, ys, q.1, q.2, by omega⟩
  · obtain ⟨T, u, v, h1, h2, h3, h4, h5⟩ := y
    exact ⟨T, u, v, h1, h2, h3, h4 xs q.1, h5 ys q.2⟩
end
end TB

set_option Elab.async false
set_option linter.all false
set_option maxRecDepth 100000
set_option maxHeartbeats 1000000
namespace K09
open PySem PySem.Spec PyProof.Rows L2 TB

/-! ### the split, by numbers alone -/
def lows (t : Int) (ws : List Int) : List Int := ws.map fun w => t * w / ws.sum
def rsts (t : Int) (ws : List Int) : List Int := ws.map fun w => t * w - t * w / ws.sum * ws.sum
def leR (rs : List Int) (a b : Nat) : Bool := decide (rs.getD b 0 < rs.getD a 0 ∨ (rs.getD a 0 = rs.getD b 0 ∧ a ≤ b))
def ats (rs : List Int) : List Nat := (List.range rs.length).mergeSort (leR rs)
def bump (ls : List Int) (S : List Nat) : List Int := (List.range ls.length).map fun i => ls.getD i 0 + if i ∈ S then 1 else 0
def odd (t : Int) (ws : List Int) : Nat := (t - (lows t ws).sum).toNat
def parts (t : Int) (ws : List Int) : List Int := bump (lows t ws) ((ats (rsts t ws)).take (odd t ws))
structure OkW (t : Int) (ws : List Int) : Prop where
  t0 : 0 ≤ t
  t1 : t ≤ 1000000000000
  n0 : 0 < ws.length
  n1 : ws.length ≤ 12
  w0 : ∀ w ∈ ws, 0 ≤ w ∧ w ≤ 1000000000
  s0 : 0 < ws.sum
theorem leR_iff {rs : List Int} {a b : Nat} : leR rs a b = true ↔ (rs.getD b 0 < rs.getD a 0 ∨ (rs.getD a 0 = rs.getD b 0 ∧ a ≤ b)) := by
  unfold leR
  exact decide_eq_true_iff
theorem leR_tr (rs : List Int) (a b c : Nat) (h1 : leR rs a b = true) (h2 : leR rs b c = true) : leR rs a c = true := by
  rw [leR_iff] at *
  omega
theorem leR_tot (rs : List Int) (a b : Nat) : (leR rs a b || leR rs b a) = true := by
  rw [Bool.or_eq_true, leR_iff, leR_iff]
  omega
theorem leR_anti {rs : List Int} {a b : Nat} (h1 : leR rs a b = true) (h2 : leR rs b a = true) : a = b := by
  rw [leR_iff] at *
  omega
theorem ats_perm (rs : List Int) : (ats rs).Perm (List.range rs.length) := List.mergeSort_perm _ _
theorem ats_len (rs : List Int) : (ats rs).length = rs.length := by
  rw [(ats_perm rs).length_eq, List.length_range]
theorem ats_sorted (rs : List Int) : (ats rs).Pairwise fun a b => leR rs a b = true := List.pairwise_mergeSort (leR_tr rs) (leR_tot rs) _
theorem ats_eq {rs : List Int} {l : List Nat} (p : l.Perm (List.range rs.length)) (s : l.Pairwise fun a b => leR rs a b = true) : ats rs = l :=
  List.Perm.eq_of_pairwise (fun a b _ _ h1 h2 => leR_anti h1 h2) (ats_sorted rs) s ((ats_perm rs).trans p.symm)
theorem ats_nodup (rs : List Int) : (ats rs).Nodup := (ats_perm rs).symm.nodup List.nodup_range
theorem ats_lt {rs : List Int} {a : Nat} (h : a ∈ ats rs) : a < rs.length := List.mem_range.mp ((ats_perm rs).mem_iff.mp h)
theorem bump_len (ls : List Int) (S : List Nat) : (bump ls S).length = ls.length := by
  unfold bump
  rw [List.length_map, List.length_range]
theorem bump_get {ls : List Int} {S : List Nat} {i : Nat} (h : i < ls.length) : (bump ls S)[i]? = some (ls.getD i 0 + if i ∈ S then 1 else 0) := by
  unfold bump
  rw [List.getElem?_map, List.getElem?_range h]
  rfl
theorem getD_of {ls : List Int} {i : Nat} (h : i < ls.length) : ls[i]? = some (ls.getD i 0) := by
  rw [List.getElem?_eq_getElem h, List.getD_eq_getElem?_getD, List.getElem?_eq_getElem h]
  rfl
theorem bump_nil (ls : List Int) : bump ls [] = ls := by
  refine List.ext_getElem? fun i => ?_
  by_cases h : i < ls.length
  · rw [bump_get h, getD_of h]
    simp
  · rw [List.getElem?_eq_none (by rw [bump_len]; omega), List.getElem?_eq_none (by omega)]
theorem bump_more {ls : List Int} {S : List Nat} {a : Nat} (h : a < ls.length) (n : a ∉ S) : (bump ls S).set a (ls.getD a 0 + 1) = bump ls (S ++ [a]) := by
  refine List.ext_getElem? fun i => ?_
  rw [List.getElem?_set]
  by_cases e : a = i
  · subst e
    rw [if_pos rfl, if_pos (by rw [bump_len]; exact h), bump_get h, if_pos (by simp)]
  · rw [if_neg e]
    by_cases hi : i < ls.length
    · rw [bump_get hi, bump_get hi]
      have : (i ∈ S ++ [a]) ↔ i ∈ S := by
        simp
        exact fun z => absurd z.symm e
      simp only [this]
    · rw [List.getElem?_eq_none (by rw [bump_len]; omega), List.getElem?_eq_none (by rw [bump_len]; omega)]
theorem take_not {l : List Nat} (h : l.Nodup) {i a : Nat} (e : l[i]? = some a) : a ∉ l.take i := by
  intro hm
  obtain ⟨j, hj⟩ := List.mem_iff_getElem?.mp hm
  have hjl : j < (l.take i).length := (List.getElem?_eq_some_iff.mp hj).1
  rw [List.length_take] at hjl
  rw [List.getElem?_take, if_pos (by omega)] at hj
  have hjn : j < l.length := (List.getElem?_eq_some_iff.mp hj).1
  have := (List.getElem?_inj hjn h).mp (hj.trans e.symm)
  omega
/-- what is not among the first i comes behind the i-th -/
theorem ats_first {rs : List Int} {i a k : Nat} (e : (ats rs)[i]? = some a) (hk : k < rs.length) (n : k ∉ (ats rs).take i) : leR rs a k = true := by
  have km : k ∈ ats rs := (ats_perm rs).mem_iff.mpr (List.mem_range.mpr hk)
  obtain ⟨j, hj⟩ := List.mem_iff_getElem?.mp km
  have jl : j < (ats rs).length := (List.getElem?_eq_some_iff.mp hj).1
  have il : i < (ats rs).length := (List.getElem?_eq_some_iff.mp e).1
  have ij : i ≤ j := by
    refine Nat.le_of_not_lt fun z => n ?_
    refine List.mem_iff_getElem?.mpr ⟨j, ?_⟩
    rw [List.getElem?_take, if_pos z]
    exact hj
  by_cases c : i = j
  · subst c
    rw [Option.some.inj (e.symm.trans hj)]
    rw [leR_iff]
    omega
  · have p := List.pairwise_iff_getElem.mp (ats_sorted rs) i j il jl (by omega)
    rw [(List.getElem?_eq_some_iff.mp e).2, (List.getElem?_eq_some_iff.mp hj).2] at p
    exact p
/-! ### how many are odd -/
theorem sum_rst (t W : Int) : ∀ ws : List Int, (ws.map fun w => t * w - t * w / W * W).sum = t * ws.sum - (ws.map fun w => t * w / W).sum * W
  | [] => by simp
  | w :: ws => by
    rw [List.map_cons, List.sum_cons, List.map_cons, List.sum_cons, List.sum_cons, sum_rst t W ws, Int.mul_add, Int.add_mul]
    omega
theorem rst_mod (x W : Int) : x - x / W * W = x % W := by
  have := Int.emod_add_mul_ediv x W
  rw [Int.mul_comm] at this
  omega
theorem sum_mod (W : Int) (hW : 0 < W) (t : Int) : ∀ ws : List Int, 0 ≤ (ws.map fun w => t * w - t * w / W * W).sum ∧ (ws.map fun w => t * w - t * w / W * W).sum ≤ ws.length * (W - 1)
  | [] => by simp
  | w :: ws => by
    obtain ⟨a, b⟩ := sum_mod W hW t ws
    rw [List.map_cons, List.sum_cons, List.length_cons, rst_mod]
    have c := Int.emod_nonneg (t * w) (show W ≠ 0 by omega)
    have d := Int.emod_lt_of_pos (t * w) hW
    refine ⟨by omega, ?_⟩
    have : ((ws.length + 1 : Nat) : Int) * (W - 1) = ws.length * (W - 1) + (W - 1) := by
      push_cast
      rw [Int.add_mul, Int.one_mul]
    omega
theorem odd_at {t : Int} {ws : List Int} (h : OkW t ws) : (odd t ws : Int) = t - (lows t ws).sum ∧ odd t ws < ws.length := by
  have hW := h.s0
  obtain ⟨a, b⟩ := sum_mod ws.sum hW t ws
  rw [sum_rst] at a b
  have e : t * ws.sum - (ws.map fun w => t * w / ws.sum).sum * ws.sum = (t - (lows t ws).sum) * ws.sum := by
    unfold lows
    rw [Int.sub_mul]
  rw [e] at a b
  have d0 : 0 ≤ t - (lows t ws).sum := Int.le_of_not_gt fun z => by
    have := Int.mul_neg_of_neg_of_pos z hW
    omega
  have d1 : t - (lows t ws).sum < ws.length := Int.lt_of_not_ge fun z => by
    have m := Int.mul_le_mul_of_nonneg_right z (Int.le_of_lt hW)
    have n0 := h.n0
    have : (ws.length : Int) * (ws.sum - 1) = ws.length * ws.sum - ws.length := by rw [Int.mul_sub, Int.mul_one]
    omega
  unfold odd
  exact ⟨by omega, by omega⟩
theorem lows_len (t : Int) (ws : List Int) : (lows t ws).length = ws.length := List.length_map _
theorem rsts_len (t : Int) (ws : List Int) : (rsts t ws).length = ws.length := List.length_map _
theorem parts_len (t : Int) (ws : List Int) : (parts t ws).length = ws.length := by
  unfold parts
  rw [bump_len, lows_len]
theorem sum_ge : ∀ {ws : List Int} {w : Int}, (∀ w ∈ ws, 0 ≤ w) → w ∈ ws → 0 ≤ ws.sum ∧ w ≤ ws.sum
  | x :: ws, w, h, hm => by
    have x0 := h x List.mem_cons_self
    have s0 : 0 ≤ ws.sum := by
      clear hm
      induction ws with
      | nil => simp
      | cons y ys ih =>
        have := h y (by simp)
        have := ih fun z hz => h z (by
          rcases List.mem_cons.mp hz with r | r
          · simp [r]
          · simp [r])
        rw [List.sum_cons]
        omega
    rw [List.sum_cons]
    rcases List.mem_cons.mp hm with rfl | hm
    · omega
    · have := (sum_ge (fun z hz => h z (List.mem_cons_of_mem _ hz)) hm).2
      omega
theorem sum_le : ∀ {ws : List Int}, (∀ w ∈ ws, 0 ≤ w ∧ w ≤ 1000000000) → 0 ≤ ws.sum ∧ ws.sum ≤ 1000000000 * ws.length
  | [], _ => by simp
  | x :: ws, h => by
    have := h x List.mem_cons_self
    have := sum_le fun w hw => h w (List.mem_cons_of_mem _ hw)
    rw [List.sum_cons, List.length_cons]
    push_cast
    omega
theorem low_bound {t : Int} {ws : List Int} (h : OkW t ws) {w : Int} (hw : w ∈ ws) : 0 ≤ t * w / ws.sum ∧ t * w / ws.sum ≤ t := by
  obtain ⟨w0, w1⟩ := h.w0 w hw
  have ws0 := (sum_ge (fun z hz => (h.w0 z hz).1) hw).2
  have s0 := h.s0
  have t0 := h.t0
  refine ⟨Int.ediv_nonneg (Int.mul_nonneg t0 w0) (by omega), ?_⟩
  refine Int.le_of_lt_add_one ((Int.ediv_lt_iff_lt_mul s0).mpr ?_)
  have := Int.mul_le_mul_of_nonneg_left ws0 t0
  rw [Int.add_mul, Int.one_mul]
  omega
theorem rst_bound {t : Int} {ws : List Int} (h : OkW t ws) {r : Int} (hr : r ∈ rsts t ws) : 0 ≤ r ∧ r < 20000000000 := by
  obtain ⟨w, hw, rfl⟩ := List.mem_map.mp hr
  have s0 := h.s0
  obtain ⟨_, s1⟩ := sum_le h.w0
  have n1 := h.n1
  show 0 ≤ t * w - t * w / ws.sum * ws.sum ∧ t * w - t * w / ws.sum * ws.sum < _
  rw [rst_mod]
  exact ⟨Int.emod_nonneg _ (by omega), Int.lt_of_lt_of_le (Int.emod_lt_of_pos _ s0) (by omega)⟩
theorem part_bound {t : Int} {ws : List Int} (h : OkW t ws) {p : Int} (hp : p ∈ parts t ws) : 0 ≤ p ∧ p ≤ 1000000000001 := by
  unfold parts bump at hp
  obtain ⟨i, hi, rfl⟩ := List.mem_map.mp hp
  have hl := List.mem_range.mp hi
  have g := getD_of hl
  have m := List.mem_of_getElem? g
  unfold lows at m
  obtain ⟨w, hw, e⟩ := List.mem_map.mp m
  obtain ⟨a, b⟩ := low_bound h hw
  have t1 := h.t1
  unfold lows
  rw [← e]
  by_cases c : i ∈ List.take (odd t ws) (ats (rsts t ws))
  · rw [if_pos c]
    omega
  · rw [if_neg c]
    omega
theorem rst_get {t : Int} {ws : List Int} {i : Nat} {w : Int} (h : ws[i]? = some w) : (rsts t ws)[i]? = some (t * w - t * w / ws.sum * ws.sum) := by
  unfold rsts
  rw [List.getElem?_map, h]
  rfl
theorem low_get {t : Int} {ws : List Int} {i : Nat} {w : Int} (h : ws[i]? = some w) : (lows t ws)[i]? = some (t * w / ws.sum) := by
  unfold lows
  rw [List.getElem?_map, h]
  rfl
end K09

set_option Elab.async false
set_option linter.all false
set_option maxRecDepth 100000
set_option maxHeartbeats 1000000
namespace TB
open PySem PySem.Spec PyProof.Rows L2

/-! ### zip(t, u, v), three tuples -/
def It3 (K : PySem.W.Frag) (a b c : Addr) : It :=
  ⟨fun i H => ∃ (xs ys zs : List V) (x y z : V), (SqT K H a xs ∧ SqT K H b ys ∧ SqT K H c zs) ∧ xs[i]? = some x ∧ ys[i]? = some y ∧ zs[i]? = some z,
    fun i H v H' => ∃ T x y z, v = .ref T ∧ H T = none ∧ H' = upd H T (.tup [x, y, z]) ∧ (∀ xs, SqT K H a xs → xs[i]? = some x) ∧ (∀ ys, SqT K H b ys → ys[i]? = some y) ∧ ∀ zs, SqT K H c zs → zs[i]? = some z,
    fun i H => ∃ xs ys zs : List V, (SqT K H a xs ∧ SqT K H b ys ∧ SqT K H c zs) ∧ i = min (min xs.length ys.length) zs.length⟩
theorem turn_3 {P : Program} {w : World} {K : PySem.W.Frag} {elts : List Expr} {kk : Nat} {tpos : Pos} {a b c z TI TO i1 i2 i3 : Addr} (S : ZipSep3 z TI TO i1 i2 i3 [i1, a] [i2, b] [i3, c]) (na : a ≠ i1) (nb : b ≠ i2) (nc : c ≠ i3) :
    Turn P w K (.Tuple elts kk tpos) (It3 K a b c) [z, TI, TO, i1, i2, i3] z (fun i h => IsZip h z TI TO .none ∧ IsTupOf3 h TI (.ref i1) (.ref i2) (.ref i3) ∧ (∃ x y u, IsTupOf3 h TO x y u) ∧ h.IsTupleIter i1 a i ∧ h.IsTupleIter i2 b i ∧ h.IsTupleIter i3 c i) where
  mem := by simp
  obj := fun i h st q hq => by
    obtain ⟨isz, pI, ⟨x, y, u, pO⟩, ⟨o1, e1, _, d1⟩, ⟨o2, e2, _, d2⟩, ⟨o3, e3, _, d3⟩⟩ := st
    have six : q = z ∨ q = TI ∨ q = TO ∨ q = i1 ∨ q = i2 ∨ q = i3 := by simpa using hq
    rcases six with rfl | rfl | rfl | rfl | rfl | rfl
    · exact ⟨_, isz, fun v q => nomatch q⟩
    · exact ⟨_, pI, fun v q => nomatch q⟩
    · exact ⟨_, pO, fun v q => nomatch q⟩
    · exact ⟨o1, e1, fun v q => by rw [d1] at q; cases q⟩
    · exact ⟨o2, e2, fun v q => by rw [d2] at q; cases q⟩
    · exact ⟨o3, e3, fun v q => by rw [d3] at q; cases q⟩
  keep := fun i h h' st k => by
    obtain ⟨isz, pI, ⟨x, y, u, pO⟩, h1, h2, h3⟩ := st
    exact ⟨k _ (by simp) _ isz, k _ (by simp) _ pI, ⟨x, y, u, k _ (by simp) _ pO⟩, h1.at fun o q => k _ (by simp) o q, h2.at fun o q => k _ (by simp) o q, h3.at fun o q => k _ (by simp) o q⟩
  item := by
    intro X eP eW eK hc i pins s σ H E I hf st hg
    subst eP eW eK
    obtain ⟨isz, pI, pO, h1, h2, h3⟩ := st
    obtain ⟨xs, ys, zs, x, y, u, ⟨qx, qy, qz⟩, hx, hy, hu⟩ := hg
    obtain ⟨is1, r1, p1, _⟩ := I.tuple qx
    obtain ⟨is2, r2, p2, _⟩ := I.tuple qy
    obtain ⟨is3, r3, p3, _⟩ := I.tuple qz
    obtain ⟨v1, a1, w1⟩ := r1.get hx
    obtain ⟨v2, a2, w2⟩ := r2.get hy
    obtain ⟨v3, a3, w3⟩ := r3.get hu
    have D1 := Draws.tuple (prog := X.prog) (w := X.w) (A := X.A.in1) (I.ok.hd hc) i1 a na is1.toArray
    have D2 := Draws.tuple (prog := X.prog) (w := X.w) (A := X.A.in1) (I.ok.hd hc) i2 b nb is2.toArray
    have D3 := Draws.tuple (prog := X.prog) (w := X.w) (A := X.A.in1) (I.ok.hd hc) i3 c nc is3.toArray
    have WT := WalksT.zipD3 S D1 D2 D3
    have l1 := (List.getElem?_eq_some_iff.mp a1).1
    have l2 := (List.getElem?_eq_some_iff.mp a2).1
    have l3 := (List.getElem?_eq_some_iff.mp a3).1
    have il : i < min (min is1.toArray.size is2.toArray.size) is3.toArray.size := by
      simp only [List.size_toArray]
      omega
    have inH : ∀ q ∈ [z, TI, TO, i1, i2, i3], q < s.heap.objs.size := fun q hq => by
      have six : q = z ∨ q = TI ∨ q = TO ∨ q = i1 ∨ q = i2 ∨ q = i3 := by simpa using hq
      obtain ⟨_, _, _, pO'⟩ := pO
      obtain ⟨_, e1, _⟩ := h1
      obtain ⟨_, e2, _⟩ := h2
      obtain ⟨_, e3, _⟩ := h3
      rcases six with rfl | rfl | rfl | rfl | rfl | rfl
      · exact Heap.lt_size isz
      · exact Heap.lt_size pI
      · exact Heap.lt_size pO'
      · exact Heap.lt_size e1
      · exact Heap.lt_size e2
      · exact Heap.lt_size e3
    refine WT.item i s _ E il ⟨isz, pI, pO, ⟨h1, p1⟩, ⟨h2, p2⟩, ⟨h3, p3⟩⟩ fun T vals g tk hP le hT mid hk => ?_
    obtain ⟨x1, x2, x3, e1, e2, e3, rfl⟩ := hP
    have k1 : x1 = v1 := Option.some.inj (by rw [← a1, ← e1]; simp)
    have k2 : x2 = v2 := Option.some.inj (by rw [← a2, ← e2]; simp)
    have k3 : x3 = v3 := Option.some.inj (by rw [← a3, ← e3]; simp)
    subst k1 k2 k3
    have out := WT.apart i T g mid
    refine ⟨_, rfl, WT.go elts kk tpos i T { s with heap := g, toks := tk } _ E mid fun g2 st2 hk2 => ?_⟩
    obtain ⟨z2, I2', O2', ⟨t1, _⟩, ⟨t2, _⟩, ⟨t3, _⟩⟩ := st2
    have hT2 : g2.IsTuple T #[x1, x2, x3] := hT.at fun o q => hk2 T o out q
    have new : ObjOk X.prog X.w (upd H T (.tup [x, y, u])) g2 T (.tup [x, y, u]) := ⟨by show 3 ≤ sizeLine; decide, [x1, x2, x3], .cons w1 (.cons w2 (.cons w3 .nil)), hT2⟩
    have I1 : Inv X pins σ (upd H T (.tup [x, y, u])) { s with heap := g2, toks := tk } := by
      refine I.turnedNew (ch := [z, TI, TO, i1, i2, i3]) (fun q o hq e => ?_) hf le new
      have six : q ≠ z ∧ q ≠ TI ∧ q ≠ TO ∧ q ≠ i1 ∧ q ≠ i2 ∧ q ≠ i3 := by simpa using hq
      have five : q ∉ [z, TO, i1, i2, i3] := by simpa using ⟨six.1, six.2.2.1, six.2.2.2.1, six.2.2.2.2.1, six.2.2.2.2.2⟩
      exact hk2 q o five (hk q o five e)
    refine ⟨.ref T, _, I1, rfl, ⟨T, x, y, u, rfl, I.hok.fresh le, rfl, fun l hl => by rw [I.tuple_inj hl qx]; exact hx, fun l hl => by rw [I.tuple_inj hl qy]; exact hy, fun l hl => by rw [I.tuple_inj hl qz]; exact hu⟩, ⟨z2, I2', O2', t1, t2, t3⟩, fun q hq => ?_⟩
    have lt := inH q hq
    rw [upd_ne (Nat.ne_of_lt (Nat.lt_of_lt_of_le lt le))]
    exact (hf q hq).1
  done := by
    intro X eP eW eK hc i pins s σ H E I hf st hg
    subst eP eW eK
    obtain ⟨isz, pI, pO, h1, h2, h3⟩ := st
    obtain ⟨xs, ys, zs, ⟨qx, qy, qz⟩, hend⟩ := hg
    obtain ⟨is1, r1, p1, _⟩ := I.tuple qx
    obtain ⟨is2, r2, p2, _⟩ := I.tuple qy
    obtain ⟨is3, r3, p3, _⟩ := I.tuple qz
    have m1 := r1.length
    have m2 := r2.length
    have m3 := r3.length
    have D1 := Draws.tuple (prog := X.prog) (w := X.w) (A := X.A.in1) (I.ok.hd hc) i1 a na is1.toArray
    have D2 := Draws.tuple (prog := X.prog) (w := X.w) (A := X.A.in1) (I.ok.hd hc) i2 b nb is2.toArray
    have D3 := Draws.tuple (prog := X.prog) (w := X.w) (A := X.A.in1) (I.ok.hd hc) i3 c nc is3.toArray
    have WT := WalksT.zipD3 S D1 D2 D3
    have ei : min (min is1.toArray.size is2.toArray.size) is3.toArray.size = i := by
      simp only [List.size_toArray]
      omega
    refine WT.done s _ E (by rw [ei]; exact ⟨isz, pI, pO, ⟨h1, p1⟩, ⟨h2, p2⟩, ⟨h3, p3⟩⟩) fun g tk hk => ⟨rfl, I.turnedL (ch := [z, TI, TO, i1, i2, i3]) (fun q o hq e => ?_) hf⟩
    have six : q ≠ z ∧ q ≠ TI ∧ q ≠ TO ∧ q ≠ i1 ∧ q ≠ i2 ∧ q ≠ i3 := by simpa using hq
    exact hk q o (by simpa using ⟨six.1, six.2.2.1, six.2.2.2.1, six.2.2.2.2.1, six.2.2.2.2.2⟩) e
  self := fun _ _ _ _ _ st h => wpAny_pyIter_zip st.1 h
def i3T (K : PySem.W.Frag) (ta : TA) : TI := fun σ H R => ta σ H fun vs H1 => ∃ a b c xs ys zs, vs = [.ref a, .ref b, .ref c] ∧ (SqT K H1 a xs ∧ SqT K H1 b ys ∧ SqT K H1 c zs) ∧ R (It3 K a b c) H1
theorem pi_zip3 {X : Cx} {e e2 e3 : Expr} {ta : TA} {p pos tpos : Pos} {elts : List Expr} {kk : Nat} (hg : Gl X "zip") (hm : X.mg "zip" = none) (ha : PA X [e, e2, e3] ta)
    (hs : starEach [e, e2, e3] X.env = (false, eval e X.env) :: starEach [e2, e3] X.env := by rfl) (hpl : (backTo pos (starEach [e2, e3] X.env)).any (·.1) = false := by rfl) : PI X (.Tuple elts kk tpos) (.Call (.Name "zip" p) [e, e2, e3] [] pos) (i3T X.K ta) := by
  refine ⟨fun pins s0 σ H R I h => ?_⟩
  refine Call_ (ld_blt I hg hm PyProof.Rows.boot_zip (PyProof.Rows.callWith_type1 (thn (ha.run pos pins s0 σ H _ I h) fun us u ⟨vs, H1, I1, r1, q1⟩ => ?_) hs hpl))
  obtain ⟨a, b, c, xs, ys, zs, rfl, ⟨qx, qy, qz⟩, q⟩ := q1
  cases r1 with
  | cons ra rr =>
    cases rr with
    | cons rb rr =>
      cases rr with
      | cons rc rr =>
        cases rr
        cases ra
        cases rb
        cases rc
        obtain ⟨is1, _, p1, _⟩ := I1.tuple qx
        obtain ⟨is2, _, p2, _⟩ := I1.tuple qy
        obtain ⟨is3, _, p3, _⟩ := I1.tuple qz
        have la : a < u.heap.objs.size := by obtain ⟨o, ho, _⟩ := id p1; exact Heap.lt_size ho
        have lb : b < u.heap.objs.size := by obtain ⟨o, ho, _⟩ := id p2; exact Heap.lt_size ho
        have lc : c < u.heap.objs.size := by obtain ⟨o, ho, _⟩ := id p3; exact Heap.lt_size ho
        refine zip_begins3 (begins_tuple a is1.toArray) (begins_tuple b is2.toArray) (begins_tuple c is3.toArray) p1 p2 p3 fun g hz hTI hTO g1 g2 g3 hsz hk => wpAny_pyIter_zip hz ?_
        have I2 : Inv X pins σ H1 { u with heap := g } := I1.kept (t' := u.toks) hk
        generalize hn : u.heap.objs.size = n at *
        have fr : ∀ q, q ∈ [n + 5, n + 3, n + 4, n, n + 1, n + 2] → FpOk X pins H1 q := fun q hq => by
          have six : q = n + 5 ∨ q = n + 3 ∨ q = n + 4 ∨ q = n ∨ q = n + 1 ∨ q = n + 2 := by simpa using hq
          have le : u.heap.objs.size ≤ q := by rw [hn]; omega
          exact I1.fpOk le (I1.hok.fresh le)
        have sep := zip_sep3 (N := n) (fp1 := [a]) (fp2 := [b]) (fp3 := [c]) (fun q hq => by rw [List.mem_singleton.mp hq]; exact la) (fun q hq => by rw [List.mem_singleton.mp hq]; exact lb) (fun q hq => by rw [List.mem_singleton.mp hq]; exact lc)
        exact ⟨n + 5, [n + 5, n + 3, n + 4, n, n + 1, n + 2], _, _, H1, rfl, I2, turn_3 (z := n + 5) (TI := n + 3) (TO := n + 4) (i1 := n) (i2 := n + 1) (i3 := n + 2) sep (Nat.ne_of_lt la) (Nat.ne_of_lt (Nat.lt_succ_of_lt lb)) (Nat.ne_of_lt (Nat.lt_succ_of_lt (Nat.lt_succ_of_lt lc))),
          ⟨hz, hTI, ⟨_, _, _, hTO⟩, ⟨_, g1, rfl, rfl⟩, ⟨_, g2, rfl, rfl⟩, ⟨_, g3, rfl, rfl⟩⟩, fr, q⟩
/-- a new triple of the i-th things -/
def YTri (xs ys zs : List V) : Nat → Hp → V → Hp → Prop := fun i H v H' => ∃ T x y z, v = .ref T ∧ H T = none ∧ H' = upd H T (.tup [x, y, z]) ∧ xs[i]? = some x ∧ ys[i]? = some y ∧ zs[i]? = some z
theorem walk_3 {K : PySem.W.Frag} {a b c : Addr} {xs ys zs : List V} {n : Nat} (hn : n = min (min xs.length ys.length) zs.length) : Walk (It3 K a b c) n (fun H => SqT K H a xs ∧ SqT K H b ys ∧ SqT K H c zs) (YTri xs ys zs) := by
  refine ⟨fun i H hi q => ?_, fun H q => ⟨xs, ys, zs, q, hn⟩, fun i H x H' hi q y => ?_⟩
  · have h1 : i < xs.length := by omega
    have h2 : i < ys.length := by omega
    have h3 : i < zs.length := by omega
    exact ⟨xs, ys, zs, xs[i], ys[i], zs[i], q, by simp [h1], by simp [h2], by simp [h3]⟩
  · obtain ⟨T, u, v, r, h1, h2, h3, h4, h5, h6⟩ := y
    exact ⟨T, u, v, r, h1, h2, h3, h4 xs q.1, h5 ys q.2.1, h6 zs q.2.2⟩
end TB

set_option Elab.async false
set_option linter.all false
set_option maxRecDepth 100000
set_option maxHeartbeats 1000000
namespace K13
open PySem PySem.Spec PyProof.Rows L2 TB K09

/-! ### the text -/
def topS (i : Nat) : Stmt := PySem.Challenge.pw_tablebills_k13_whole_parted_again.main.body.getD i (.Pass ⟨0, 0, 0, 0⟩)
def inCls (s : Stmt) : List Stmt := match s with
  | .ClassDef _ _ _ b _ _ _ _ _ _ _ => b
  | _ => []
abbrev sIn : Stmt := (inCls (topS 14)).getD 0 (.Pass ⟨0, 0, 0, 0⟩)
abbrev sNu : Stmt := topS 1
abbrev sCt : Stmt := topS 2
abbrev sTu : Stmt := topS 3
abbrev sCu : Stmt := topS 5
abbrev sRe : Stmt := topS 6
abbrev sSp : Stmt := topS 7
abbrev sIt : Stmt := topS 9
abbrev sIp : Stmt := topS 10
abbrev sLv : Stmt := topS 11
abbrev sLs : Stmt := topS 16
abbrev sLc : Stmt := topS 17
abbrev sLr : Stmt := topS 18
abbrev sFeed : Stmt := topS 20
abbrev sDraw : Stmt := topS 21
abbrev sWe : Stmt := topS 22
abbrev sTr : Stmt := topS 23
abbrev sMy : Stmt := topS 24
abbrev sAt : Stmt := topS 25
abbrev sRt : Stmt := topS 26
abbrev sAg : Stmt := topS 27
abbrev sLaw : Stmt := topS 28
theorem scFeed : FnScope ["_law_script"] ["_law_script"] (defScope sFeed) := ⟨rfl, rfl, rfl, by decide +kernel, rfl, by decide +kernel, by decide +kernel⟩
theorem scDraw : FnScope ["_law_feed_here", "_law_many_here", "_law_told", "_law_cell", "_law_turn", "_law_mixed"] ["_law_feed_here", "_law_many_here"] (defScope sDraw) := ⟨rfl, rfl, rfl, by decide +kernel, rfl, by decide +kernel, by decide +kernel⟩

/-! ### the feed: the script's numbers, a place, a rest, how many draws -/
structure Feed (H : Hp) (F S : Addr) (T : Int) : Prop where
  ex : ∃ (ns : List Int) (p r t : Int), H F = some (.lst [.ref S, .int p, .int r, .int t]) ∧ S ≠ F ∧ H S = some (.lst (ns.map V.int)) ∧ ns.length ≤ 1000 ∧ 0 ≤ p ∧ 0 ≤ r ∧ 0 ≤ t ∧ t ≤ T
theorem Feed.same {H H' : Hp} {F S : Addr} {T : Int} (e : Same H H') (h : Feed H F S T) : Feed H' F S T := by
  obtain ⟨ns, p, r, t, a, n, b, c⟩ := h.ex
  exact ⟨⟨ns, p, r, t, e _ _ a, n, e _ _ b, c⟩⟩
theorem Feed.there {H : Hp} {F S : Addr} {T : Int} (h : Feed H F S T) : ∃ zs, H F = some (.lst zs) := by
  obtain ⟨ns, p, r, t, a, _⟩ := h.ex
  exact ⟨_, a⟩
/-- a new place is neither the feed nor its numbers -/
theorem Feed.ne {H : Hp} {F S D : Addr} {T : Int} (h : Feed H F S T) (n : H D = none) : D ≠ F ∧ D ≠ S := by
  obtain ⟨ns, p, r, t, a, _, b, _⟩ := h.ex
  exact ⟨(ne_of_none a n).symm, (ne_of_none b n).symm⟩
theorem Feed.upd {H : Hp} {F S D : Addr} {T : Int} {o : HO} (h : Feed H F S T) (n : D ≠ F ∧ D ≠ S) : Feed (upd H D o) F S T := by
  obtain ⟨ns, p, r, t, a, k, b, c⟩ := h.ex
  exact ⟨⟨ns, p, r, t, by rw [upd_ne n.1.symm]; exact a, k, by rw [upd_ne n.2.symm]; exact b, c⟩⟩
theorem Feed.mono {H : Hp} {F S : Addr} {T T' : Int} (h : Feed H F S T) (l : T ≤ T') : Feed H F S T' := by
  obtain ⟨ns, p, r, t, a, n, b, c, d, e, f, g⟩ := h.ex
  exact ⟨⟨ns, p, r, t, a, n, b, c, d, e, f, by omega⟩⟩
section
variable {P : Program} {w : World} {K : PySem.W.Frag} {mg : Str → Option Value} {base : Heap}
/-! ### _law_feed -/
def spFeed (K : PySem.W.Frag) : Sp := fun vs H Q _ => ∃ (a : Addr) (ns : List Int), vs = [.ref a] ∧ SqL K H a (ns.map V.int) ∧ ns.length ≤ 1000 ∧
  ∀ H' F S, Same H H' → H F = none → Feed H' F S 0 → Q (.ref F) H'
theorem cutV_ints (ns : List Int) (lo hi : Option Int) : ∃ ms : List Int, cutV (ns.map V.int) lo hi = ms.map V.int ∧ ms.length ≤ ns.length := by
  unfold cutV
  refine ⟨(ns.drop (HT.sIx (ns.map V.int).length 0 lo)).take (HT.sIx (ns.map V.int).length (ns.map V.int).length hi - HT.sIx (ns.map V.int).length 0 lo), ?_, ?_⟩
  · rw [List.map_take, List.map_drop]
  · rw [List.length_take, List.length_drop]
    omega
theorem ok_feed {f : Addr} {fd : FuncData} {k : Nat} (F : Fun K "_law_feed" "_law_feed" sFeed f fd) : FnOk P w K mg base CX0 (k + 1) f fd ["_law_script"] (spFeed K) := by
  refine F.ok scFeed (fun vs H Q E h => ?_) (fun cdv A outer s H vs Q E hr h => ?_)
  · obtain ⟨a, ns, rfl, _⟩ := h
    rfl
  · obtain ⟨a, ns, rfl, hS, hl, q⟩ := h
    refine ⟨_, pss_one (ps_ret (pe_lst (pa_cons (pe_slice sl_list (pv 0) po_none (po_some pe_int)) (pa_cons pe_int (pa_cons pe_int (pa_cons pe_int pa_nil)))))), ?_⟩
    obtain ⟨ms, em, hm⟩ := cutV_ints ns none (some 63)
    refine ⟨.ref a, rfl, 63, rfl, a, _, rfl, hS, fun S nS => ⟨by show (4 : Nat) ≤ sizeLine; decide, fun L nL => ?_⟩⟩
    have s1 : Same H (upd H S (.lst (cutV (ns.map V.int) none (some 63)))) := same_upd nS
    have nSL : S ≠ L := fun e => by
      rw [← e, upd_same] at nL
      cases nL
    refine q _ L S (s1.trans (same_upd nL)) (s1.free nL) ⟨⟨ms, 0, 0, 0, upd_same, nSL, ?_, by omega, by omega, by omega, by omega, by omega⟩⟩
    rw [upd_ne nSL, upd_same, em]

/-! ### _law_draw -/
def spDraw : Sp := fun vs H Q _ => ∃ (F S : Addr) (m T : Int), vs = [.ref F, .int m] ∧ 0 < m ∧ m < 2 ^ 50 ∧ Feed H F S T ∧ T < 2 ^ 40 ∧
  ∀ H' v, But F H H' → Feed H' F S (T + 1) → 0 ≤ v → v < m → Q (.int v) H'
theorem eqv_nil : ∀ ns : List Int, PyData.eqv (.list (dInts ns)) (.list []) = decide (ns = [])
  | [] => by simp [dInts, PyData.eqv, PyData.eqvAll]
  | n :: ns => by simp [dInts, PyData.eqv, PyData.eqvAll]
theorem shaped_ints (ns : List Int) : SeqAt.shaped (.list (dInts ns)) = true := by
  have h : ∀ ms : List Int, PyData.canLayAll0 (dInts ms) = true ∧ PyData.depthAll (dInts ms) = 0 := by
    intro ms
    induction ms with
    | nil => exact ⟨rfl, rfl⟩
    | cons m ms ih => exact ⟨by simpa [dInts, PyData.canLayAll0, PyData.canLay0] using ih.1, by simpa [dInts, PyData.depthAll, PyData.depth] using ih.2⟩
  unfold SeqAt.shaped
  simp only [PyData.canLay0, PyData.depth, (h ns).1, (h ns).2]
  decide
theorem ok_draw {f : Addr} {fd : FuncData} {k : Nat} (F : Fun K "_law_draw" "_law_draw" sDraw f fd) (m_len : mg "len" = none) : FnOk P w K mg base CX0 (k + 1) f fd ["_law_feed_here", "_law_many_here"] spDraw := by
  refine F.ok scDraw (fun vs H Q E h => ?_) (fun cdv A outer s H vs Q E hr h => ?_)
  · obtain ⟨a, S, m, T, rfl, _⟩ := h
    rfl
  · obtain ⟨L, S, m, T, rfl, m0, m1, hF, hT, q⟩ := h
    refine ⟨_, (pss_cons (ps_augS (pv 0) pe_int get_list pe_int ip_add set_list)
      (pss_cons (ps_if (pt_cmpR op_gt (pe_ix ix_list (pv 0) pe_int (fun _ _ => rfl)) pe_int (nomark _)) (pss_cons (ps_set (i := 2) scDraw.nd rfl (.inl rfl) (pe_op op_mod (pe_ix ix_list (pv 0) pe_int (fun _ _ => rfl)) (pv 1)))
      (pss_cons (ps_asg (pe_op op_fdivW (pe_ix ix_list (pv 0) pe_int (fun _ _ => rfl)) (pv 1)) (pg_sub (pv 0) pe_int set_list))
      (pss_one (ps_ret (pv 2))))) pss_nil)
      (pss_cons (ps_set (i := 3) scDraw.nd rfl (.inl rfl) (pe_ifExp (pt_cmpR (op_eqD hr.units) (pe_ix ix_list (pv 0) pe_int (fun _ _ => rfl)) (pe_lst pa_nil) (nomark _)) pe_int (pe_ix ix_list (pe_ix ix_list (pv 0) pe_int (fun _ _ => rfl)) (pe_op op_mod (pe_ix ix_list (pv 0) pe_int (fun _ _ => rfl)) (pe_callB call_len_seq (by rfl) m_len (by decide +kernel) (pa_cons (pe_ix ix_list (pv 0) pe_int (fun _ _ => rfl)) pa_nil))) (fun _ _ => rfl))))
      (pss_cons (ps_augS (pv 0) pe_int get_list pe_int ip_add set_list)
      (pss_cons (ps_if (PW.pt (pw_and (pt_cmpR op_ge (pv 3) (pe_op op_pow pe_int pe_int) (nomark _)) (pw_and1 (pt_cmpR op_le (pe_ix ix_list (pv 0) pe_int (fun _ _ => rfl)) (pe_callB call_len_seq (by rfl) m_len (by decide +kernel) (pa_cons (pe_ix ix_list (pv 0) pe_int (fun _ _ => rfl)) pa_nil)) (nomark _))))) (pss_cons (ps_asg (pe_op op_fdivW (pv 3) (pv 1)) (pg_sub (pv 0) pe_int set_list))
      (pss_one (ps_ret (pe_op op_mod (pv 3) (pv 1))))) pss_nil)
      (pss_cons (ps_set (i := 4) scDraw.nd rfl (.inl rfl) (pe_ix ix_list (pv 0) pe_int (fun _ _ => rfl)))
      (pss_cons (ps_set (i := 5) scDraw.nd rfl (.inl rfl) (pe_op op_mod (pe_op op_add (pe_op op_add (pe_op op_mod (pv 3) pe_int) (pe_op op_mul (pe_op op_mul pe_int (pv 4)) (pv 4))) (pe_op op_mul pe_int (pv 4))) pe_int))
      (pss_cons (ps_set (i := 5) scDraw.nd rfl (.inl rfl) (pe_op op_mod (pe_op op_add (pe_op op_mul (pv 5) (pv 5)) (pe_op op_mul pe_int (pv 4))) pe_int))
      (pss_cons (ps_set (i := 5) scDraw.nd rfl (.inl rfl) (pe_op op_mod (pe_op op_add (pe_op op_mul (pv 5) (pv 5)) (pe_op op_mul pe_int (pv 4))) pe_int))
      (pss_one (ps_ret (pe_op op_mod (pe_op op_fdivW (pe_op op_mod (pe_op op_add (pe_op op_mul (pv 5) (pv 5)) (pv 4)) pe_int) pe_int) (pv 1))))))))))))), ?_⟩
    obtain ⟨ns, p, r, t, eF, nSF, hS, hn, p0, r0, t0, tT⟩ := hF.ex
    -- feed[3] += 1
    refine ⟨.ref L, rfl, L, _, 3, _, rfl, rfl, .inl (.inl eF), rfl, _, _, rfl, rfl, L, _, 3, 3, rfl, rfl, eF, rfl, ?_⟩
    generalize hH1 : upd H L (.lst (List.set [V.ref S, V.int p, V.int r, V.int t] 3 (V.int ((fun i j => i + j) t 1)))) = H1
    have e1 : H1 L = some (.lst [.ref S, .int p, .int r, .int (t + 1)]) := by
      rw [← hH1]
      exact upd_same
    have b1 : But L H H1 := by
      rw [← hH1]
      exact But.upd
    clear hH1
    have hS1 := b1 _ _ nSF hS
    have back : ∀ (H2 : Hp) (p' r' : Int) (v : Int), But L H H2 → H2 S = some (.lst (ns.map V.int)) → H2 L = some (.lst [.ref S, .int p', .int r', .int (t + 1)]) → 0 ≤ p' → 0 ≤ r' → 0 ≤ v → v < m → Q (.int v) H2 :=
      fun H2 p' r' v a hs b c d x y => q H2 v a ⟨⟨ns, p', r', t + 1, b, nSF, hs, hn, c, d, by omega, by omega⟩⟩ x y
    -- if feed[2] > 0
    refine ⟨.ref L, rfl, L, _, 2, _, rfl, rfl, .inl (.inl e1), atI_nat (j := 2) rfl, _, _, rfl, rfl, _, rfl, ite2 (fun c => ?_) (fun c => ?_)⟩
    · refine ⟨.ref L, rfl, L, _, 2, _, rfl, rfl, .inl (.inl e1), atI_nat (j := 2) rfl, _, rfl, r, m, rfl, rfl, m0, ?_⟩
      refine ⟨.ref L, rfl, L, _, 2, _, rfl, rfl, .inl (.inl e1), atI_nat (j := 2) rfl, _, rfl, r, m, rfl, rfl, wide_div (b := 60) m0 (by omega) (by omega) (by omega), ?_⟩
      refine ⟨.ref L, rfl, L, _, 2, 2, rfl, rfl, e1, rfl, ?_⟩
      have b2 : But L H1 (upd H1 L (.lst [.ref S, .int p, .int (r / m), .int (t + 1)])) := But.upd
      refine ⟨_, rfl, ?_⟩
      exact back _ p (r / m) (r % m) (b1.trans b2) (b2 _ _ nSF hS1) upd_same p0 (Int.ediv_nonneg r0 (by omega)) (Int.emod_nonneg _ (by omega)) (Int.emod_lt_of_pos _ m0)
    · -- the cell
      refine ⟨.ref L, rfl, L, _, 0, _, rfl, rfl, .inl (.inl e1), atI_nat (j := 0) rfl, Nat.zero_le _, fun z nz => ?_⟩
      have sz : Same H1 (upd H1 z (.lst [])) := same_upd nz
      generalize hH2 : upd H1 z (.lst []) = H2 at sz
      have ez : H2 z = some (.lst []) := by
        rw [← hH2]
        exact upd_same
      have b2 : But L H H2 := b1.same sz
      have e2 := sz _ _ e1
      have hS2 := sz _ _ hS1
      clear hH2
      refine ⟨.list (dInts ns), .list [], .lst (.inl (.inl hS2)) (dp_ints ns), .lst (.inl (.inl ez)) .nil, shaped_ints ns, rfl, _, rfl, ?_⟩
      rw [eqv_nil]
      refine ite2 (fun c => ?_) (fun c => ?_)
      rotate_left
      have hne : 0 < (ns.map V.int).length := by
        cases ns with
        | nil => exact absurd rfl c
        | cons x xs => simp
      have i0 := Int.emod_nonneg p (show ((ns.map V.int).length : Int) ≠ 0 by omega)
      have i1 := Int.emod_lt_of_pos p (show (0 : Int) < (ns.map V.int).length by omega)
      obtain ⟨j, hj⟩ : ∃ j : Nat, p % ((ns.map V.int).length : Int) = (j : Int) := ⟨_, (Int.toNat_of_nonneg i0).symm⟩
      have hjl : j < ns.length := by
        rw [hj, List.length_map] at i1
        omega
      have gj : (ns.map V.int)[j]? = some (.int ns[j]) := by
        rw [List.getElem?_map, List.getElem?_eq_getElem hjl]
        rfl
      refine ⟨.ref L, rfl, L, _, 0, _, rfl, rfl, .inl (.inl e2), atI_nat (j := 0) rfl, .ref L, rfl, L, _, 1, _, rfl, rfl, .inl (.inl e2), atI_nat (j := 1) rfl, .ref L, rfl, L, _, 0, _, rfl, rfl, .inl (.inl e2), atI_nat (j := 0) rfl, S, _, rfl, .inl (.inl (.inl hS2)), p, _, rfl, rfl, by omega, S, _, _, _, rfl, rfl, .inl (.inl hS2), (by rw [hj]; exact atI_nat gj), ?_⟩
      all_goals
        -- feed[1] += 1
        refine ⟨.ref L, rfl, L, _, 1, _, rfl, rfl, .inl (.inl e2), rfl, _, _, rfl, rfl, L, _, 1, 1, rfl, rfl, e2, rfl, ?_⟩
        generalize hH3 : upd H2 L (.lst (List.set [V.ref S, V.int p, V.int r, V.int (t + 1)] 1 (V.int ((fun i j => i + j) p 1)))) = H3
        have e3 : H3 L = some (.lst [.ref S, .int (p + 1), .int r, .int (t + 1)]) := by
          rw [← hH3]
          exact upd_same
        have b23 : But L H2 H3 := by
          rw [← hH3]
          exact But.upd
        have b3 := b2.trans b23
        have hS3 := b23 _ _ nSF hS2
        clear hH3
        have back3 : ∀ r' v : Int, 0 ≤ r' → 0 ≤ v → v < m → Q (.int v) (upd H3 L (.lst [.ref S, .int (p + 1), .int r', .int (t + 1)])) := fun r' v x y z =>
          have b34 : But L H3 (upd H3 L (.lst [.ref S, .int (p + 1), .int r', .int (t + 1)])) := But.upd
          back _ (p + 1) r' v (b3.trans b34) (b34 _ _ nSF hS3) upd_same (by omega) x y z
        -- if cell >= 10 ** 18 and ..
        refine ⟨_, rfl, _, _, rfl, rfl, ⟨by decide, by decide, by decide⟩, _, _, rfl, rfl, _, rfl, ite2 (fun c1 => ?_) (fun c1 => ?_)⟩
        · refine ⟨.ref L, rfl, L, _, 1, _, rfl, rfl, .inl (.inl e3), atI_nat (j := 1) rfl, .ref L, rfl, L, _, 0, _, rfl, rfl, .inl (.inl e3), atI_nat (j := 0) rfl, S, _, rfl, .inl (.inl (.inl hS3)), _, _, rfl, rfl, _, rfl, ite2 (fun c2 => ?_) (fun c2 => ?_)⟩
          · refine ⟨_, rfl, _, rfl, _, _, rfl, rfl, wide_div (b := 60) m0 (by omega) (by omega) (by omega), .ref L, rfl, L, _, 2, 2, rfl, rfl, e3, rfl, ?_⟩
            refine ⟨_, rfl, _, rfl, _, _, rfl, rfl, m0, ?_⟩
            exact back3 _ _ (Int.ediv_nonneg (Int.le_trans (by decide) (of_decide_eq_true c1)) (by omega)) (Int.emod_nonneg _ (by omega)) (Int.emod_lt_of_pos _ m0)
          · refine ⟨.ref L, rfl, L, _, 3, _, rfl, rfl, .inl (.inl e3), atI_nat (j := 3) rfl, ?_⟩
            refine ⟨_, rfl, _, _, rfl, rfl, (by show (0 : Int) < _; decide), _, rfl, _, _, rfl, rfl, .inl ⟨by decide, by decide⟩, _, rfl, _, _, rfl, rfl, .inr ⟨by omega, by omega⟩, _, _, rfl, rfl, _, rfl, _, _, rfl, rfl, .inl ⟨by decide, by decide⟩, _, _, rfl, rfl, _, _, rfl, rfl, (by show (0 : Int) < _; decide), ?_⟩
            refine ⟨_, rfl, _, rfl, _, _, rfl, rfl, .inl ⟨by omega, by omega⟩, _, rfl, _, _, rfl, rfl, .inl ⟨by decide, by decide⟩, _, _, rfl, rfl, _, _, rfl, rfl, (by show (0 : Int) < _; decide), ?_⟩
            refine ⟨_, rfl, _, rfl, _, _, rfl, rfl, .inl ⟨by omega, by omega⟩, _, rfl, _, _, rfl, rfl, .inl ⟨by decide, by decide⟩, _, _, rfl, rfl, _, _, rfl, rfl, (by show (0 : Int) < _; decide), ?_⟩
            refine ⟨_, rfl, _, rfl, _, _, rfl, rfl, .inl ⟨by omega, by omega⟩, _, rfl, _, _, rfl, rfl, _, _, rfl, rfl, (by show (0 : Int) < _; decide), _, _, rfl, rfl, wide_div (b := 60) (by decide) (by decide) (by omega) (by omega), _, rfl, _, _, rfl, rfl, m0, ?_⟩
            exact back H3 (p + 1) r _ b3 hS3 e3 (by omega) r0 (Int.emod_nonneg _ (by omega)) (Int.emod_lt_of_pos _ m0)
        · refine ⟨.ref L, rfl, L, _, 3, _, rfl, rfl, .inl (.inl e3), atI_nat (j := 3) rfl, ?_⟩
          refine ⟨_, rfl, _, _, rfl, rfl, (by show (0 : Int) < _; decide), _, rfl, _, _, rfl, rfl, .inl ⟨by decide, by decide⟩, _, rfl, _, _, rfl, rfl, .inr ⟨by omega, by omega⟩, _, _, rfl, rfl, _, rfl, _, _, rfl, rfl, .inl ⟨by decide, by decide⟩, _, _, rfl, rfl, _, _, rfl, rfl, (by show (0 : Int) < _; decide), ?_⟩
          refine ⟨_, rfl, _, rfl, _, _, rfl, rfl, .inl ⟨by omega, by omega⟩, _, rfl, _, _, rfl, rfl, .inl ⟨by decide, by decide⟩, _, _, rfl, rfl, _, _, rfl, rfl, (by show (0 : Int) < _; decide), ?_⟩
          refine ⟨_, rfl, _, rfl, _, _, rfl, rfl, .inl ⟨by omega, by omega⟩, _, rfl, _, _, rfl, rfl, .inl ⟨by decide, by decide⟩, _, _, rfl, rfl, _, _, rfl, rfl, (by show (0 : Int) < _; decide), ?_⟩
          refine ⟨_, rfl, _, rfl, _, _, rfl, rfl, .inl ⟨by omega, by omega⟩, _, rfl, _, _, rfl, rfl, _, _, rfl, rfl, (by show (0 : Int) < _; decide), _, _, rfl, rfl, wide_div (b := 60) (by decide) (by decide) (by omega) (by omega), _, rfl, _, _, rfl, rfl, m0, ?_⟩
          exact back H3 (p + 1) r _ b3 hS3 e3 (by omega) r0 (Int.emod_nonneg _ (by omega)) (Int.emod_lt_of_pos _ m0)
end
theorem scCu : FnScope ["total", "weights", "whole", "weight"] ["total", "weights"] (defScope sCu) := ⟨rfl, rfl, rfl, by decide +kernel, rfl, by decide +kernel, by decide +kernel⟩
theorem scRe : FnScope ["total", "weights", "whole", "weight", "cut"] ["total", "weights"] (defScope sRe) := ⟨rfl, rfl, rfl, by decide +kernel, rfl, by decide +kernel, by decide +kernel⟩
theorem map_int {ns : List Int} {i : Nat} {x : V} (h : (ns.map V.int)[i]? = some x) : ∃ n, ns[i]? = some n ∧ x = .int n := map_get h
section
variable {P : Program} {w : World} {K : PySem.W.Frag} {mg : Str → Option Value} {base : Heap}
/-! ### cuts, rests -/
def spL (K : PySem.W.Frag) (g : Int → List Int → List Int) : Sp := fun vs H Q _ => ∃ (a : Addr) (t : Int) (ws : List Int), vs = [.int t, .ref a] ∧ SqT K H a (ws.map V.int) ∧ OkW t ws ∧
  ∀ H' r, Same H H' → H r = none → H' r = some (.tup ((g t ws).map V.int)) → Q (.ref r) H'
theorem mul_ok {t w : Int} {ws : List Int} (h : OkW t ws) : -(2 ^ 64) < t ∧ t < 2 ^ 64 := ⟨by have := h.t0; omega, by have := h.t1; omega⟩
theorem sum_ok {t : Int} {ws : List Int} (h : OkW t ws) : ws.sum.natAbs < 2 ^ 60 := by
  have := sum_le h.w0
  have := h.n1
  omega
theorem ok_cu {f : Addr} {fd : FuncData} {k : Nat} (F : Fun K "cuts" "cuts" sCu f fd) (m_sum : mg "sum" = none) (m_tuple : mg "tuple" = none) : FnOk P w K mg base CX0 (k + 1) f fd ["total", "weights"] (spL K lows) := by
  refine F.ok scCu (fun vs H Q E h => ?_) (fun cdv A outer s H vs Q E hr h => ?_)
  · obtain ⟨a, t, ws, rfl, _⟩ := h
    rfl
  · obtain ⟨a, t, ws, rfl, hA, ok, q⟩ := h
    refine ⟨_, (pss_cons (ps_set (i := 2) scCu.nd rfl (.inr rfl) (pe_callB (call_sumT rfl) (by rfl) m_sum (by decide +kernel) (pa_cons (pv 1) pa_nil)))
      (pss_one (ps_ret (pe_callTy call_tuple_of (by rfl) m_tuple (by decide +kernel) (pa_cons (pe_lc (own := [("weight", 3)]) (g := gName 3) (tt := tYes) rfl scCu.nd (pi_tup (pv 1)) (blkOk_by (own := [("weight", 3)]) (N := ["total", "weights", "whole", "weight"]) (sc := defScope sCu) (by decide +kernel)) (fun _ _ _ _ _ => (pg_name (i := 3) scCu.nd rfl (.inl rfl))) (fun _ _ _ _ _ => pts_nil) (fun _ _ _ _ _ => (pe_op op_fdivW (pe_op op_mul (pv 0) (pv 3)) (pv 2)))) pa_nil))))), ?_⟩
    refine ⟨_, rfl, a, ws, rfl, hA, ?_⟩
    refine ⟨_, rfl, a, rfl, ⟨_, hA⟩, fun D nD => ?_⟩
    refine lc_tup (xs := ws.map V.int) (fun i H1 => Same H H1 ∧ H1 D = some (.lst (((ws.take i).map fun w => t * w / ws.sum).map V.int))) ⟨same_upd nD, upd_same⟩ ?_ ?_ ?_
    · rintro i H1 _ ⟨sm, _⟩
      exact TB.Same.tup sm hA
    · rintro i x H1 hx ⟨sm, eD⟩
      obtain ⟨w, hw, rfl⟩ := map_int hx
      refine ⟨rfl, yes (iteT ?_)⟩
      refine ⟨_, rfl, _, rfl, _, _, rfl, rfl, .inl (mul_ok (w := w) ok), _, rfl, _, _, rfl, rfl, wide_div (b := 60) ok.s0 (sum_ok ok) (by omega) (by omega), ?_⟩
      refine ⟨_, eD, ?_, same_new nD sm, ?_⟩
      · rw [List.length_map, List.length_map]
        have := List.length_take_le' i ws
        have := ok.n1
        exact small1000 (by omega)
      · rw [upd_same, map_take_more hw, List.map_append]
        rfl
    · rintro H1 ⟨sm, eD⟩
      rw [List.length_map, List.take_length] at eD
      exact ⟨D, _, rfl, .inl ⟨.inl (.inl eD), fun r nr => q _ r (sm.trans (same_upd nr)) (sm.free nr) upd_same⟩⟩
theorem ok_re {f fC : Addr} {fd fdC : FuncData} (F : Fun K "rests" "rests" sRe f fd)
    (GC : FnOk P w K mg base CX0 1 fC fdC ["total", "weights"] (spL K lows)) (kC : PySem.W.keepIn K (.ref fC) = true) (bC : Binds K fdC ["total", "weights"] []) (gC : mg "cuts" = some (.ref fC))
    (m_sum : mg "sum" = none) (m_tuple : mg "tuple" = none) (m_zip : mg "zip" = none) : FnOk P w K mg base CX0 2 f fd ["total", "weights"] (spL K rsts) := by
  refine F.ok scRe (fun vs H Q E h => ?_) (fun cdv A outer s H vs Q E hr h => ?_)
  · obtain ⟨a, t, ws, rfl, _⟩ := h
    rfl
  · obtain ⟨a, t, ws, rfl, hA, ok, q⟩ := h
    refine ⟨_, (pss_cons (ps_set (i := 2) scRe.nd rfl (.inr rfl) (pe_callB (call_sumT rfl) (by rfl) m_sum (by decide +kernel) (pa_cons (pv 1) pa_nil)))
      (pss_one (ps_ret (pe_callTy call_tuple_of (by rfl) m_tuple (by decide +kernel) (pa_cons (pe_lc (own := [("weight", 3), ("cut", 4)]) (g := gTup K 2 (gCons (gName 3) (gCons (gName 4) gNil))) (tt := tYes) rfl scRe.nd (RZ.pi_zipA (by rfl) m_zip (pa_cons (pv 1) (pa_cons (pe_call GC (hr.mono (by decide)) (by rfl) gC kC bC .nil pass0 (pa_cons (pv 0) (pa_cons (pv 1) pa_nil))) pa_nil))) (blkOk_by (own := [("weight", 3), ("cut", 4)]) (N := ["total", "weights", "whole", "weight", "cut"]) (sc := defScope sRe) (by decide +kernel)) (fun _ _ _ _ _ => (pg_tup rfl (pgs_cons (pg_name (i := 3) scRe.nd rfl (.inl rfl)) (pgs_cons (pg_name (i := 4) scRe.nd rfl (.inl rfl)) pgs_nil)))) (fun _ _ _ _ _ => pts_nil) (fun _ _ _ _ _ => (pe_op op_sub (pe_op op_mul (pv 0) (pv 3)) (pe_op op_mul (pv 4) (pv 2))))) pa_nil))))), ?_⟩
    refine ⟨_, rfl, a, ws, rfl, hA, ?_⟩
    refine ⟨_, rfl, _, rfl, _, rfl, a, t, ws, rfl, hA, ok, fun H1 r s1 nr er => ?_⟩
    refine ⟨a, r, _, _, rfl, .inr ⟨TB.Same.tup s1 hA, .inl (.inl er), fun D nD => ?_⟩⟩
    have ll := lows_len t ws
    refine lc_it (walk_zT (xs := ws.map V.int) (ys := (lows t ws).map V.int) (n := ws.length) (by rw [List.length_map, List.length_map, ll]; omega)) (fun i H2 => Same H1 H2 ∧ H2 D = some (.lst (((ws.take i).map fun w => t * w - t * w / ws.sum * ws.sum).map V.int))) ⟨same_upd nD, upd_same⟩ ?_ ?_ ?_
    · rintro i H2 _ ⟨sm, _⟩
      exact ⟨TB.Same.tup (s1.trans sm) hA, .inl (.inl (sm _ _ er))⟩
    · rintro i x H2 H3 hi ⟨sm, eD⟩ ⟨T, u, v, rfl, nT, rfl, hu, hv⟩
      obtain ⟨w, hw, rfl⟩ := map_int hu
      obtain ⟨c, hc, rfl⟩ := map_int hv
      obtain rfl := Option.some.inj ((low_get hw).symm.trans hc)
      have lb := low_bound ok (List.mem_of_getElem? hw)
      have t1 := ok.t1
      refine ⟨T, _, rfl, .inl (.inl upd_same), rfl, _, _, rfl, _, _, rfl, rfl, rfl, yes (iteT ?_)⟩
      refine ⟨_, rfl, _, rfl, _, _, rfl, rfl, .inl (mul_ok (w := w) ok), _, rfl, _, rfl, _, _, rfl, rfl, .inl ⟨by omega, by omega⟩, _, _, rfl, rfl, ?_⟩
      have sT := same_upd (o := .tup [.int w, .int (t * w / ws.sum)]) nT
      refine ⟨_, sT _ _ eD, ?_, same_new nD (sm.trans sT), ?_⟩
      · rw [List.length_map, List.length_map]
        have := List.length_take_le' i ws
        have := ok.n1
        exact small1000 (by omega)
      · rw [upd_same, map_take_more hw, List.map_append]
        rfl
    · rintro H2 ⟨sm, eD⟩
      rw [List.take_length] at eD
      exact ⟨D, _, rfl, .inl ⟨.inl (.inl eD), fun z nz => q _ z (s1.trans (sm.trans (same_upd nz))) ((s1.trans sm).free nz) upd_same⟩⟩
end
end K13

set_option Elab.async false
set_option linter.all false
set_option maxRecDepth 100000
set_option maxHeartbeats 1000000
namespace K09
open PySem PySem.Spec PyProof.Rows L2 TB
/-! ### pairs of a rest and its place -/
def keyOf (H : Hp) : V → Int × Int
  | .ref T => match H T with
    | some (.tup [.int i, .int j]) => (i, j)
    | _ => (0, 0)
  | _ => (0, 0)
theorem keyOf_at {H : Hp} {T : Addr} {i j : Int} (h : H T = some (.tup [.int i, .int j])) : keyOf H (.ref T) = (i, j) := by
  simp only [keyOf, h]
structure Prs (H : Hp) (us : List V) (rs : List Int) : Prop where
  len : us.length = rs.length
  at_ : ∀ (j : Nat) (r : Int), rs[j]? = some r → ∃ T : Addr, us[j]? = some (.ref T) ∧ H T = some (.tup [.int (-r), .int (j : Int)])
theorem Prs.mem {H : Hp} {us : List V} {rs : List Int} (h : Prs H us rs) {x : V} (hx : x ∈ us) : ∃ (T : Addr) (r : Int) (j : Nat), x = .ref T ∧ rs[j]? = some r ∧ H T = some (.tup [.int (-r), .int (j : Int)]) := by
  obtain ⟨j, hj⟩ := List.mem_iff_getElem?.mp hx
  have jl : j < rs.length := by
    rw [← h.len]
    exact (List.getElem?_eq_some_iff.mp hj).1
  obtain ⟨T, e, f⟩ := h.at_ j _ (List.getElem?_eq_getElem jl)
  exact ⟨T, _, j, Option.some.inj (hj.symm.trans e), List.getElem?_eq_getElem jl, f⟩
theorem getD_at {rs : List Int} {j : Nat} {r : Int} (h : rs[j]? = some r) : rs.getD j 0 = r := by
  rw [List.getD_eq_getElem?_getD, h]
  rfl
theorem pairs_sorted {H : Hp} {us ys : List V} {rs : List Int} (h : Prs H us rs) (s : SrtO.Srtd (ltP (keyOf H)) ys) (b : SrtO.Stb (ltP (keyOf H)) ys us) :
    ys.length = rs.length ∧ ∀ (i a : Nat), (ats rs)[i]? = some a → ∃ (T : Addr) (r : Int), ys[i]? = some (.ref T) ∧ rs[a]? = some r ∧ H T = some (.tup [.int (-r), .int (a : Int)]) := by
  have yl : ys.length = rs.length := by rw [b.perm.length_eq, h.len]
  have eu : us.map (fun y => (keyOf H y).2.toNat) = List.range rs.length := by
    refine List.ext_getElem? fun j => ?_
    by_cases hj : j < rs.length
    · obtain ⟨T, e, f⟩ := h.at_ j _ (List.getElem?_eq_getElem hj)
      rw [List.getElem?_map, e, List.getElem?_range hj]
      show some (keyOf H (.ref T)).2.toNat = _
      rw [keyOf_at f]
      simp
    · rw [List.getElem?_eq_none (by rw [List.length_map, h.len]; omega), List.getElem?_eq_none (by rw [List.length_range]; omega)]
  have pr : (ys.map fun y => (keyOf H y).2.toNat).Perm (List.range rs.length) := by
    rw [← eu]
    exact b.perm.map _
  have so : (ys.map fun y => (keyOf H y).2.toNat).Pairwise fun a b => leR rs a b = true := by
    rw [List.pairwise_map]
    refine List.Pairwise.imp_of_mem (fun {x y} hx hy hs => ?_) s
    obtain ⟨T, r, j, rfl, hr, eT⟩ := h.mem (b.perm.mem_iff.mp hx)
    obtain ⟨T', r', j', rfl, hr', eT'⟩ := h.mem (b.perm.mem_iff.mp hy)
    have hs' : SrtO.lexB (keyOf H (.ref T')) (keyOf H (.ref T)) = false := hs
    rw [keyOf_at eT, keyOf_at eT'] at hs'
    have := SrtO.lexB_no.mp hs'
    rw [keyOf_at eT, keyOf_at eT', leR_iff]
    show rs.getD (j' : Int).toNat 0 < rs.getD (j : Int).toNat 0 ∨ _
    rw [Int.toNat_natCast, Int.toNat_natCast, getD_at hr, getD_at hr']
    simp only at this
    omega
  have ea := ats_eq pr so
  refine ⟨yl, fun i a hi => ?_⟩
  rw [ea, List.getElem?_map] at hi
  cases e : ys[i]? with
  | none => rw [e] at hi; cases hi
  | some y =>
    rw [e] at hi
    have hi' := Option.some.inj hi
    obtain ⟨T, r, j, rfl, hr, eT⟩ := h.mem (b.perm.mem_iff.mp (List.mem_of_getElem? e))
    have hi' : (keyOf H (.ref T)).2.toNat = a := hi'
    rw [keyOf_at eT] at hi'
    obtain rfl : j = a := by simpa using hi'
    exact ⟨T, r, rfl, hr, eT⟩
theorem cut_take (xs : List V) (n : Nat) : cutV xs none (some (n : Int)) = xs.take n := by
  have e : HT.sIx xs.length xs.length (some (n : Int)) = min n xs.length := by
    show (if (n : Int) < 0 then ((n : Int) + xs.length).toNat else min (n : Int).toNat xs.length) = _
    rw [if_neg (by omega), Int.toNat_natCast]
  unfold cutV
  rw [e, HT.sIx_none, List.drop_zero, Nat.sub_zero]
  by_cases c : n ≤ xs.length
  · rw [Nat.min_eq_left c]
  · rw [Nat.min_eq_right (by omega), List.take_length, List.take_of_length_le (by omega)]
theorem but_new {H H1 H2 : Hp} {p : Addr} (n : H p = none) (s : Same H H1) (b : But p H1 H2) : Same H H2 := fun c o e => b c o (ne_of_none e n) (s c o e)
end K09

set_option Elab.async false
set_option linter.all false
set_option maxRecDepth 100000
set_option maxHeartbeats 1000000
namespace K13
open PySem PySem.Spec PyProof.Rows L2 TB K09

theorem scSp : FnScope ["total", "weights", "parts", "left", "odd", "turn", "rest", "at"] ["total", "weights"] (defScope sSp) := ⟨rfl, rfl, rfl, by decide +kernel, rfl, by decide +kernel, by decide +kernel⟩
section
variable {P : Program} {w : World} {K : PySem.W.Frag} {mg : Str → Option Value} {base : Heap}
theorem ok_sp {f fC fR : Addr} {fd fdC fdR : FuncData} (F : Fun K "split" "split" sSp f fd)
    (GC : FnOk P w K mg base CX0 1 fC fdC ["total", "weights"] (spL K lows)) (kC : PySem.W.keepIn K (.ref fC) = true) (bC : Binds K fdC ["total", "weights"] []) (gC : mg "cuts" = some (.ref fC))
    (GR : FnOk P w K mg base CX0 2 fR fdR ["total", "weights"] (spL K rsts)) (kR : PySem.W.keepIn K (.ref fR) = true) (bR : Binds K fdR ["total", "weights"] []) (gR : mg "rests" = some (.ref fR))
    (m_list : mg "list" = none) (m_sum : mg "sum" = none) (m_sorted : mg "sorted" = none) (m_enumerate : mg "enumerate" = none) (m_tuple : mg "tuple" = none) : FnOk P w K mg base CX0 3 f fd ["total", "weights"] (spL K parts) := by
  refine F.ok scSp (fun vs H Q E h => ?_) (fun cdv A outer s H vs Q E hr h => ?_)
  · obtain ⟨a, t, ws, rfl, _⟩ := h
    rfl
  · obtain ⟨a, t, ws, rfl, hA, ok, q⟩ := h
    refine ⟨_, (pss_cons (ps_set (i := 2) scSp.nd rfl (.inl rfl) (pe_callTy call_list_of (by rfl) m_list (by decide +kernel) (pa_cons (pe_call GC (hr.mono (by decide)) (by rfl) gC kC bC .nil pass0 (pa_cons (pv 0) (pa_cons (pv 1) pa_nil))) pa_nil)))
      (pss_cons (ps_set (i := 3) scSp.nd rfl (.inl rfl) (pe_call GR (hr.mono (by decide)) (by rfl) gR kR bR .nil pass0 (pa_cons (pv 0) (pa_cons (pv 1) pa_nil))))
      (pss_cons (ps_set (i := 4) scSp.nd rfl (.inl rfl) (pe_op op_sub (pv 0) (pe_callB (cr_sum rfl) (by rfl) m_sum (by decide +kernel) (pa_cons (pv 2) pa_nil))))
      (pss_cons (ps_set (i := 5) scSp.nd rfl (.inl rfl) (pe_callB cr_sortedPO (by rfl) m_sorted (by decide +kernel) (pa_cons (pe_lc (own := [("at", 7), ("rest", 6)]) (g := gTup K 2 (gCons (gName 7) (gCons (gName 6) gNil))) (tt := tYes) rfl scSp.nd (pi_enumT (by rfl) m_enumerate (pa_cons (pv 3) pa_nil)) (blkOk_by (own := [("at", 7), ("rest", 6)]) (N := ["total", "weights", "parts", "left", "odd", "turn", "rest", "at"]) (sc := defScope sSp) (by decide +kernel)) (fun _ _ _ _ _ => (pg_tup rfl (pgs_cons (pg_name (i := 7) scSp.nd rfl (.inl rfl)) (pgs_cons (pg_name (i := 6) scSp.nd rfl (.inl rfl)) pgs_nil)))) (fun _ _ _ _ _ => pts_nil) (fun _ _ _ _ _ => (pe_tup (pa_cons (pe_un un_neg (pv 6)) (pa_cons (pv 7) pa_nil))))) pa_nil)))
      (pss_cons (ps_for PassesOwn.never rfl (pi_list (pe_slice sl_list (pv 5) po_none (po_some (pv 4)))) (pg_tup rfl (pgs_cons (pg_name (i := 6) scSp.nd rfl (.inl rfl)) (pgs_cons (pg_name (i := 7) scSp.nd rfl (.inl rfl)) pgs_nil))) (pss_one (ps_augS (pv 2) (pv 7) get_list pe_int ip_add set_list)))
      (pss_one (ps_ret (pe_callTy call_tuple_of (by rfl) m_tuple (by decide +kernel) (pa_cons (pv 2) pa_nil))))))))), ?_⟩
    obtain ⟨eo, lo⟩ := odd_at ok
    have n1 := ok.n1
    have ll := lows_len t ws
    have rl := rsts_len t ws
    -- parts
    refine ⟨_, rfl, _, rfl, a, t, ws, rfl, hA, ok, fun H1 r s1 nr er => ?_⟩
    refine ⟨r, _, rfl, .inr (.inl (.inl er)), fun P0 nP => ?_⟩
    have nP0 : H P0 = none := s1.free nP
    have s2 := s1.trans (same_upd (o := .lst ((lows t ws).map V.int)) nP)
    have eP : (upd H1 P0 (.lst ((lows t ws).map V.int))) P0 = some (.lst ((lows t ws).map V.int)) := upd_same
    generalize upd H1 P0 (.lst ((lows t ws).map V.int)) = H2 at *
    -- left
    refine ⟨_, rfl, _, rfl, a, t, ws, rfl, TB.Same.tup s2 hA, ok, fun H3 l s3 nl el => ?_⟩
    have eP3 := s3 _ _ eP
    -- odd
    refine ⟨_, rfl, _, rfl, P0, lows t ws, rfl, .inl (.inl eP3), _, _, rfl, rfl, ?_⟩
    show tSeq _ _ _ [some (.int t), some (.ref a), some (.ref P0), some (.ref l), some (.int (t - (lows t ws).sum)), none, none, none] _
    rw [← eo]
    -- turn
    refine ⟨_, rfl, l, _, rfl, .inl (.inl el), fun D nD => ?_⟩
    refine lc_it (walk_ET (xs := (rsts t ws).map V.int)) (fun i H4 => Same H3 H4 ∧ ∃ us : List V, H4 D = some (.lst us) ∧ us.length = i ∧ ∀ (j : Nat) (r : Int), j < i → (rsts t ws)[j]? = some r → ∃ T : Addr, us[j]? = some (.ref T) ∧ H4 T = some (.tup [.int (-r), .int (j : Int)]))
      ⟨same_upd nD, [], upd_same, rfl, fun j r hj => absurd hj (Nat.not_lt_zero _)⟩ ?_ ?_ ?_
    · rintro i H4 _ ⟨sm, _⟩
      exact .inl (.inl (sm _ _ el))
    · rintro i x H4 H5 hi ⟨sm, us, eD, ul, hus⟩ ⟨T, u, v, rfl, nT, rfl, hu, hv⟩
      obtain ⟨r0, hr0, rfl⟩ := map_int hv
      obtain rfl := Option.some.inj hu
      rw [List.length_map, rl] at hi
      have sT := same_upd (o := .tup [.int (i : Nat), .int r0]) nT
      refine ⟨T, _, rfl, .inl (.inl upd_same), rfl, _, _, rfl, _, _, rfl, rfl, rfl, yes (iteT ?_)⟩
      refine ⟨_, rfl, _, rfl, _, rfl, by show (2 : Nat) ≤ sizeLine; decide, fun T2 nT2 => ?_⟩
      have s2' := sT.trans (same_upd (o := .tup [.int (-r0), .int (i : Nat)]) nT2)
      have eT2 : (upd (upd H4 T (.tup [.int (i : Nat), .int r0])) T2 (.tup [.int (-r0), .int (i : Nat)])) T2 = some (.tup [.int (-r0), .int (i : Nat)]) := upd_same
      have eD2 := s2' _ _ eD
      refine ⟨us, eD2, by rw [ul]; exact small1000 (by omega), same_new nD (sm.trans s2'), us ++ [.ref T2], upd_same, by rw [List.length_append, ul]; rfl, fun j r hj hr => ?_⟩
      by_cases c : j < i
      · obtain ⟨T3, e3, f3⟩ := hus j r c hr
        have f4 := s2' _ _ f3
        refine ⟨T3, ?_, ?_⟩
        · rw [List.getElem?_append_left (by omega)]
          exact e3
        · rw [upd_ne (ne_of f4 eD2 fun z => nomatch z)]
          exact f4
      · obtain rfl : j = i := by omega
        obtain rfl := Option.some.inj (hr0.symm.trans hr)
        refine ⟨T2, ?_, ?_⟩
        · rw [← ul]
          simp
        · rw [upd_ne (ne_of eT2 eD2 fun z => nomatch z)]
          exact eT2
    · rintro H4 ⟨s4, us, eD, ul, hus⟩
      rw [List.length_map] at ul hus
      have pa : Prs H4 us (rsts t ws) := ⟨ul, fun j r hr => hus j r (List.getElem?_eq_some_iff.mp hr).1 hr⟩
      refine ⟨D, us, keyOf H4, rfl, .inl (.inl eD), fun x hx => ?_, fun ys p srt stb np => ?_⟩
      · obtain ⟨T, r, j, rfl, _, eT⟩ := pa.mem hx
        exact ⟨T, rfl, by rw [keyOf_at eT]; exact eT⟩
      obtain ⟨yl, hys⟩ := pairs_sorted pa srt stb
      have s5 := same_upd (o := .lst ys) np
      have ep : (upd H4 p (.lst ys)) p = some (.lst ys) := upd_same
      generalize upd H4 p (.lst ys) = H5 at *
      -- the loop
      refine ⟨_, rfl, _, rfl, _, rfl, p, _, rfl, .inl (.inl ep), fun S nS => ?_⟩
      rw [cut_take]
      have s6 := same_upd (o := .lst (ys.take (odd t ws))) nS
      have eS : (upd H5 S (.lst (ys.take (odd t ws)))) S = some (.lst (ys.take (odd t ws))) := upd_same
      generalize upd H5 S (.lst (ys.take (odd t ws))) = H6 at *
      have eP6 := s6 _ _ (s5 _ _ (s4 _ _ eP3))
      have nSP : S ≠ P0 := fun z => by
        rw [z, s5 _ _ (s4 _ _ eP3)] at nS
        cases nS
      refine ⟨S, rfl, ⟨_, .inl (.inl eS)⟩, ?_⟩
      have tl : (ys.take (odd t ws)).length = odd t ws := by
        rw [List.length_take]
        omega
      refine for_list (xs := ys.take (odd t ws)) (fun i σ H7 => ∃ y6 y7, σ = [some (.int t), some (.ref a), some (.ref P0), some (.ref l), some (.int (odd t ws : Int)), some (.ref p), y6, y7] ∧ But P0 H6 H7 ∧ H7 P0 = some (.lst ((bump (lows t ws) ((ats (rsts t ws)).take i)).map V.int)))
        ⟨_, _, rfl, But.refl _ _, by rw [List.take_zero, bump_nil]; exact eP6⟩ ?_ ?_ ?_
      · rintro i σ H7 _ ⟨y6, y7, rfl, bu, _⟩
        exact .inl (.inl (bu _ _ nSP eS))
      · rintro i x σ H7 hx ⟨y6, y7, rfl, bu, eP7⟩
        have hi : i < odd t ws := by
          rw [← tl]
          exact (List.getElem?_eq_some_iff.mp hx).1
        rw [List.getElem?_take, if_pos hi] at hx
        have il : i < (ats (rsts t ws)).length := by
          rw [ats_len]
          omega
        have ea := List.getElem?_eq_getElem il
        generalize (ats (rsts t ws))[i] = b at ea
        obtain ⟨T, r1, eT, hr1, fT⟩ := hys i b ea
        obtain rfl := Option.some.inj (hx.symm.trans eT)
        have fT6 := s6 _ _ (s5 _ _ fT)
        have fT7 := bu _ _ (ne_of fT6 eP6 fun z => nomatch z) fT6
        have bl : b < (lows t ws).length := by
          have := ats_lt (List.mem_of_getElem? ea)
          omega
        have nb := take_not (ats_nodup _) ea
        have gb : (bump (lows t ws) ((ats (rsts t ws)).take i))[b]? = some ((lows t ws).getD b 0) := by
          rw [bump_get bl, if_neg nb, Int.add_zero]
        refine ⟨T, _, rfl, .inl (.inl fT7), rfl, _, _, rfl, _, _, rfl, rfl, ?_⟩
        refine ⟨_, rfl, _, rfl, P0, _, b, .int ((lows t ws).getD b 0), rfl, rfl, .inl (.inl eP7), by rw [List.getElem?_map, gb]; rfl, _, _, rfl, rfl, P0, _, _, b, rfl, rfl, eP7, ixN_nat (by rw [List.length_map, bump_len]; exact bl), ?_⟩
        refine ⟨_, _, rfl, bu.trans But.upd, ?_⟩
        rw [upd_same, take_more ea, ← bump_more bl nb, List.map_set]
      · rintro σ H7 ⟨y6, y7, rfl, bu, eP7⟩
        rw [tl] at eP7
        refine ⟨_, rfl, P0, _, rfl, .inl ⟨.inl (.inl eP7), fun z nz => ?_⟩⟩
        have s7 : Same H H7 := but_new nP0 (s2.trans (s3.trans (s4.trans (s5.trans s6)))) bu
        exact q _ z (s7.trans (same_upd nz)) (s7.free nz) upd_same
end
end K13

set_option Elab.async false
set_option linter.all false
set_option maxRecDepth 100000
set_option maxHeartbeats 2000000
namespace K13
open PySem PySem.Spec PyProof.Rows L2 TB K09

theorem scWe : FnScope ["_law_feed_here", "_law_many_here", "_law_style", "_law_found", "_law_k", "_law_near"] ["_law_feed_here", "_law_many_here"] (defScope sWe) := ⟨rfl, rfl, rfl, by decide +kernel, rfl, by decide +kernel, by decide +kernel⟩
structure Ws (ws : List Int) : Prop where
  n0 : 0 < ws.length
  n1 : ws.length ≤ 12
  w0 : ∀ w ∈ ws, 0 ≤ w ∧ w ≤ 1000000000
  s0 : 0 < ws.sum
theorem Ws.ok {ws : List Int} {t : Int} (h : Ws ws) (t0 : 0 ≤ t) (t1 : t ≤ 1000000000000) : OkW t ws := ⟨t0, t1, h.n0, h.n1, h.w0, h.s0⟩
theorem but_upd {H H' : Hp} {L O : Addr} {o : HO} (n : H O = none) (b : But L H H') : But L H (upd H' O o) := fun c x m e => by
  rw [upd_ne (ne_of_none e n)]
  exact b c x m e
theorem ixN_last {n : Nat} (h : 0 < n) : ixN n (-1) = some (n - 1) := by
  unfold ixN
  rw [if_neg (by decide), if_pos (by omega)]
  congr 1
  omega
theorem mem_set {ws : List Int} {j : Nat} {v w : Int} (h : w ∈ ws.set j v) : w ∈ ws ∨ w = v := by
  rcases List.mem_or_eq_of_mem_set h with z | z
  · exact .inl z
  · exact .inr z
theorem pick6 {a b c d e f v : Int} (h0 : 0 ≤ v) (h1 : v < 6) : ∃ x, atI [V.int a, V.int b, V.int c, V.int d, V.int e, V.int f] v = some (.int x) ∧ (x = a ∨ x = b ∨ x = c ∨ x = d ∨ x = e ∨ x = f) := by
  have z : v = 0 ∨ v = 1 ∨ v = 2 ∨ v = 3 ∨ v = 4 ∨ v = 5 := by omega
  rcases z with rfl | rfl | rfl | rfl | rfl | rfl
  · exact ⟨a, rfl, by simp⟩
  · exact ⟨b, rfl, by simp⟩
  · exact ⟨c, rfl, by simp⟩
  · exact ⟨d, rfl, by simp⟩
  · exact ⟨e, rfl, by simp⟩
  · exact ⟨f, rfl, by simp⟩
section
variable {P : Program} {w : World} {K : PySem.W.Frag} {mg : Str → Option Value} {base : Heap}
/-! ### _law_weights -/
def spWe : Sp := fun vs H Q _ => ∃ (F S : Addr) (m T : Int), vs = [.ref F, .int m] ∧ 0 < m ∧ m ≤ 12 ∧ Feed H F S T ∧ T < 100000 ∧
  ∀ (H' : Hp) (r : Addr) (ws : List Int), But F H H' → Feed H' F S (T + 150) → H' r = some (.tup (ws.map V.int)) → Ws ws → (ws.length : Int) ≤ m → Q (.ref r) H'
theorem ok_we {f fR : Addr} {fd fdR : FuncData} (F : Fun K "_law_weights" "_law_weights" sWe f fd)
    (GDr : FnOk P w K mg base CX0 1 fR fdR ["_law_feed_here", "_law_many_here"] spDraw) (kDr : PySem.W.keepIn K (.ref fR) = true) (bDr : Binds K fdR ["_law_feed_here", "_law_many_here"] []) (gDr : mg "_law_draw" = some (.ref fR))
    (m_range : mg "range" = none) (m_sum : mg "sum" = none) (m_len : mg "len" = none) (m_tuple : mg "tuple" = none) : FnOk P w K mg base CX0 2 f fd ["_law_feed_here", "_law_many_here"] spWe := by
  refine F.ok scWe (fun vs H Q E h => ?_) (fun cdv A outer s H vs Q E hr h => ?_)
  · obtain ⟨a, S, m, T, rfl, _⟩ := h
    rfl
  · obtain ⟨L, S, m, T, rfl, m0, m1, hF, hT, q⟩ := h
    refine ⟨_, (pss_cons (ps_set (i := 2) scWe.nd rfl (.inl rfl) (pe_call GDr (hr.mono (by decide)) (by rfl) gDr kDr bDr .nil pass0 (pa_cons (pv 0) (pa_cons pe_int pa_nil))))
      (pss_cons (ps_set (i := 3) scWe.nd rfl (.inl rfl) (pe_lst pa_nil))
      (pss_cons (ps_for PassesOwn.never rfl (pi_range1 (by rfl) m_range (pa_cons (pe_op op_add pe_int (pe_call GDr (hr.mono (by decide)) (by rfl) gDr kDr bDr .nil pass0 (pa_cons (pv 0) (pa_cons (pv 1) pa_nil)))) pa_nil)) (pg_name (i := 4) scWe.nd rfl (.inl rfl)) (pss_cons (ps_set (i := 5) scWe.nd rfl (.inl rfl) (pe_op op_sub (pe_op op_pow pe_int pe_int) (pe_call GDr (hr.mono (by decide)) (by rfl) gDr kDr bDr .nil pass0 (pa_cons (pv 0) (pa_cons pe_int pa_nil)))))
      (pss_cons (ps_expr (pe_bm PySem.F.plainAttrs_list PySem.F.slot_list_append PySem.F.type_list_append mt_append (pv 3) (pa_cons (pe_ix ix_tup (pe_tup (pa_cons (pe_call GDr (hr.mono (by decide)) (by rfl) gDr kDr bDr .nil pass0 (pa_cons (pv 0) (pa_cons pe_int pa_nil))) (pa_cons pe_int (pa_cons (pe_call GDr (hr.mono (by decide)) (by rfl) gDr kDr bDr .nil pass0 (pa_cons (pv 0) (pa_cons pe_int pa_nil))) (pa_cons (pv 5) (pa_cons (pe_op op_add pe_int (pe_call GDr (hr.mono (by decide)) (by rfl) gDr kDr bDr .nil pass0 (pa_cons (pv 0) (pa_cons (pe_op op_pow pe_int pe_int) pa_nil)))) (pa_cons (pv 5) pa_nil))))))) (pv 2) (fun _ _ => rfl)) pa_nil)))
      (pss_one (ps_cut (ps_if (PW.pt (pw_and (pt_cmpR op_eq (pv 2) pe_int (nomark _)) (pw_and1 (pt_cmpR op_eq (pe_call GDr (hr.mono (by decide)) (by rfl) gDr kDr bDr .nil pass0 (pa_cons (pv 0) (pa_cons pe_int pa_nil))) pe_int (nomark _))))) (pss_one (ps_asg (pe_call GDr (hr.mono (by decide)) (by rfl) gDr kDr bDr .nil pass0 (pa_cons (pv 0) (pa_cons pe_int pa_nil))) (pg_sub (pv 3) (pe_un un_neg pe_int) set_list))) pss_nil))))))
      (pss_cons (ps_cut (ps_if (pt_cmpR op_eq (pe_callB (cr_sum rfl) (by rfl) m_sum (by decide +kernel) (pa_cons (pv 3) pa_nil)) pe_int (nomark _)) (pss_one (ps_asg (pe_op op_add pe_int (pe_call GDr (hr.mono (by decide)) (by rfl) gDr kDr bDr .nil pass0 (pa_cons (pv 0) (pa_cons pe_int pa_nil)))) (pg_sub (pv 3) (pe_call GDr (hr.mono (by decide)) (by rfl) gDr kDr bDr .nil pass0 (pa_cons (pv 0) (pa_cons (pe_callB call_len_seq (by rfl) m_len (by decide +kernel) (pa_cons (pv 3) pa_nil)) pa_nil))) set_list))) pss_nil))
      (pss_one (ps_ret (pe_callTy call_tuple_of (by rfl) m_tuple (by decide +kernel) (pa_cons (pv 3) pa_nil)))))))), ?_⟩
    refine ⟨_, rfl, L, S, 6, T, rfl, by decide, by decide, hF, by omega, fun H1 st k1 f1 l1 u1 => ?_⟩
    refine ⟨Nat.zero_le _, fun O nO => ?_⟩
    obtain ⟨z1, ez1⟩ := f1.there
    have nO0 : H O = none := k1.free ez1 nO
    have nOL := f1.ne nO
    have k2 : But L H (upd H1 O (.lst [])) := but_upd nO0 k1
    have f2 := f1.same (same_upd (o := .lst []) nO)
    have eO : (upd H1 O (.lst [])) O = some (.lst (([] : List Int).map V.int)) := upd_same
    generalize upd H1 O (.lst []) = H2 at *
    show tSeq _ _ _ [some (.ref L), some (.int m), some (.int st), some (.ref O), none, none] _
    refine ⟨_, rfl, _, rfl, L, S, m, _, rfl, m0, by omega, f2, by omega, fun H3 v3 k3 f3 l3 u3 => ⟨_, _, rfl, rfl, 1 + v3, rfl, by omega, by omega, ?_⟩⟩
    have eO3 := k3 _ _ nOL.1 eO
    refine for_range (lo := 0) (n := (1 + v3).toNat) (fun i σ H4 => ∃ y4 y5, σ = [some (.ref L), some (.int m), some (.int st), some (.ref O), y4, y5] ∧ Feed H4 L S (T + 2 + 10 * i) ∧ But L H H4 ∧ ∃ ws : List Int, ws.length = i ∧ (∀ w ∈ ws, 0 ≤ w ∧ w ≤ 1000000000) ∧ H4 O = some (.lst (ws.map V.int)))
      ⟨_, _, rfl, f3.mono (by omega), k2.trans k3, [], rfl, (fun w hw => by cases hw), eO3⟩ ?_ ?_
    · rintro i σ H4 hi ⟨y4, y5, rfl, f4, k4, ws, wl, hw, eO4⟩
      have hi' : i < 12 := by omega
      generalize hTT : T + 2 + 10 * (i : Int) = T4 at f4
      have hT4 : T4 < 200000 := by omega
      refine ⟨_, _, rfl, rfl, ⟨by decide, by decide, by decide⟩, _, rfl, L, S, 3, _, rfl, by decide, by decide, f4, by omega, fun H5 v5 k5 f5 l5 u5 => ⟨_, _, rfl, rfl, ?_⟩⟩
      have near : (10 : Int) ^ Int.toNat 9 = 1000000000 := by decide
      show tSeq _ _ _ [some (.ref L), some (.int m), some (.int st), some (.ref O), some (.int (0 + (i : Int))), some (.int ((10 : Int) ^ Int.toNat 9 - v5))] _
      rw [near]
      have eO5 := k5 _ _ nOL.1 eO4
      refine ⟨_, rfl, .inl ⟨rfl, _, .inl (.inl eO5)⟩, ?_⟩
      refine ⟨_, rfl, L, S, 4, _, rfl, by decide, by decide, f5, by omega, fun H6 v6 k6 f6 l6 u6 => ?_⟩
      refine ⟨_, rfl, L, S, 50, _, rfl, by decide, by decide, f6, by omega, fun H7 v7 k7 f7 l7 u7 => ?_⟩
      refine ⟨_, rfl, _, rfl, _, _, rfl, rfl, ⟨by decide, by decide, by decide⟩, L, S, 10 ^ 9, _, rfl, by decide, by decide, f7, by omega, fun H8 v8 k8 f8 l8 u8 => ⟨_, _, rfl, rfl, _, rfl, by show (6 : Nat) ≤ sizeLine; decide, fun tp ntp => ?_⟩⟩
      have s9 := same_upd (o := .tup [.int v6, .int 1, .int v7, .int (1000000000 - v5), .int (1 + v8), .int (1000000000 - v5)]) ntp
      have etp : (upd H8 tp (.tup [.int v6, .int 1, .int v7, .int (1000000000 - v5), .int (1 + v8), .int (1000000000 - v5)])) tp = some (.tup [.int v6, .int 1, .int v7, .int (1000000000 - v5), .int (1 + v8), .int (1000000000 - v5)]) := upd_same
      have u8' : v8 < 1000000000 := u8
      obtain ⟨x, hx, x6⟩ := pick6 (a := v6) (b := 1) (c := v7) (d := 1000000000 - v5) (e := 1 + v8) (f := 1000000000 - v5) l1 u1
      have x0 : 0 ≤ x ∧ x ≤ 1000000000 := by omega
      refine ⟨_, rfl, tp, _, st, .int x, rfl, rfl, .inl (.inl etp), hx, ?_⟩
      have k9 : But L H4 (upd H8 tp (.tup [.int v6, .int 1, .int v7, .int (1000000000 - v5), .int (1 + v8), .int (1000000000 - v5)])) := (((k5.trans k6).trans k7).trans k8).same s9
      have f9 := f8.same s9
      generalize upd H8 tp (.tup [.int v6, .int 1, .int v7, .int (1000000000 - v5), .int (1 + v8), .int (1000000000 - v5)]) = H9 at *
      have eO9 := k9 _ _ nOL.1 eO4
      refine ⟨O, _, _, rfl, rfl, eO9, by rw [List.length_map, wl]; exact small1000 (by omega), ?_⟩
      have f10 := f9.upd (o := .lst (ws.map V.int ++ [.int x])) nOL
      have k10 : But L H (upd H9 O (.lst (ws.map V.int ++ [.int x]))) := but_upd nO0 (k4.trans k9)
      have eO10 : (upd H9 O (.lst (ws.map V.int ++ [.int x]))) O = some (.lst ((ws ++ [x]).map V.int)) := by
        rw [upd_same, List.map_append]
        rfl
      generalize upd H9 O (.lst (ws.map V.int ++ [.int x])) = H10 at *
      have hw2 : ∀ w ∈ ws ++ [x], 0 ≤ w ∧ w ≤ 1000000000 := fun w hm => by
        rcases List.mem_append.mp hm with z | z
        · exact hw w z
        · rw [List.mem_singleton.mp z]
          exact x0
      have wl2 : (ws ++ [x]).length = i + 1 := by
        rw [List.length_append, wl]
        rfl
      refine ⟨fun σ' H' => ∃ y4 y5, σ' = [some (.ref L), some (.int m), some (.int st), some (.ref O), y4, y5] ∧ Feed H' L S (T + 2 + 10 * ((i + 1 : Nat) : Int)) ∧ But L H H' ∧ ∃ ws : List Int, ws.length = i + 1 ∧ (∀ w ∈ ws, 0 ≤ w ∧ w ≤ 1000000000) ∧ H' O = some (.lst (ws.map V.int)), ?_, fun _ _ z => z⟩
      refine ⟨_, rfl, rfl, _, rfl, ?_⟩
      change ite _ _ _
      refine ite2 (fun c => ?_) (fun c => ?_)
      · refine ⟨_, rfl, L, S, 2, _, rfl, by decide, by decide, f10, by omega, fun H11 v11 k11 f11 l11 u11 => ⟨rfl, _, rfl, ?_⟩⟩
        change ite _ _ _
        have eO11 := k11 _ _ nOL.1 eO10
        refine ite2 (fun c2 => ?_) (fun c2 => ?_)
        · refine ⟨_, rfl, L, S, 3, _, rfl, by decide, by decide, f11, by omega, fun H12 v12 k12 f12 l12 u12 => ?_⟩
          have eO12 := k12 _ _ nOL.1 eO11
          refine ⟨_, rfl, 1, rfl, O, _, _, _, rfl, rfl, eO12, ixN_last (by rw [List.length_map, wl2]; omega), ?_⟩
          refine ⟨_, _, rfl, (f12.upd nOL).mono (by omega), but_upd nO0 ((k10.trans k11).trans k12), (ws ++ [x]).set (((ws ++ [x]).map V.int).length - 1) v12, by rw [List.length_set, wl2], fun w hm => ?_, ?_⟩
          · rcases mem_set hm with z | z
            · exact hw2 w z
            · rw [z]
              omega
          · rw [upd_same, List.map_set]
        · exact ⟨_, _, rfl, f11.mono (by omega), k10.trans k11, _, wl2, hw2, eO11⟩
      · exact iteF ⟨_, _, rfl, f10.mono (by omega), k10, _, wl2, hw2, eO10⟩
    · rintro σ H4 ⟨y4, y5, rfl, f4, k4, ws, wl, hw, eO4⟩
      have wn : 0 < ws.length := by omega
      have wn12 : ws.length ≤ 12 := by omega
      have wnm : (ws.length : Int) ≤ m := by omega
      have f4 : Feed H4 L S (T + 130) := f4.mono (by omega)
      refine ⟨fun σ' H' => ∃ ws : List Int, σ' = [some (.ref L), some (.int m), some (.int st), some (.ref O), y4, y5] ∧ Feed H' L S (T + 150) ∧ But L H H' ∧ Ws ws ∧ H' O = some (.lst (ws.map V.int)) ∧ (ws.length : Int) ≤ m, ?_, ?_⟩
      · refine ⟨_, rfl, O, ws, rfl, .inl (.inl eO4), rfl, _, rfl, ?_⟩
        refine ite2 (fun c => ?_) (fun c => ?_)
        · refine ⟨_, rfl, L, S, 3, _, rfl, by decide, by decide, f4, by omega, fun H5 v5 k5 f5 l5 u5 => ⟨_, _, rfl, rfl, ?_⟩⟩
          have eO5 := k5 _ _ nOL.1 eO4
          refine ⟨_, rfl, _, rfl, _, rfl, O, _, rfl, .inl (.inl (.inl eO5)), L, S, ((ws.map V.int).length : Int), _, rfl, by rw [List.length_map]; omega, by rw [List.length_map]; omega, f5, by omega, fun H6 v6 k6 f6 l6 u6 => ?_⟩
          have eO6 := k6 _ _ nOL.1 eO5
          obtain ⟨j, rfl⟩ : ∃ j : Nat, v6 = (j : Int) := ⟨v6.toNat, (Int.toNat_of_nonneg l6).symm⟩
          rw [List.length_map] at u6
          have jl : j < ws.length := by omega
          refine ⟨O, _, _, j, rfl, rfl, eO6, ixN_nat (by rw [List.length_map]; exact jl), ?_⟩
          have hw3 : ∀ w ∈ ws.set j (1 + v5), 0 ≤ w ∧ w ≤ 1000000000 := fun w hm => by
            rcases mem_set hm with z | z
            · exact hw w z
            · rw [z]
              omega
          refine ⟨ws.set j (1 + v5), rfl, (f6.upd nOL).mono (by omega), but_upd nO0 ((k4.trans k5).trans k6), ⟨by rw [List.length_set]; exact wn, by rw [List.length_set]; exact wn12, hw3, ?_⟩, ?_, by rw [List.length_set]; exact wnm⟩
          · have mm : (1 + v5) ∈ ws.set j (1 + v5) := by
              refine List.mem_iff_getElem?.mpr ⟨j, ?_⟩
              rw [List.getElem?_set, if_pos rfl, if_pos jl]
            have := (sum_ge (fun z hz => (hw3 z hz).1) mm).2
            omega
          · rw [upd_same, List.map_set]
        · refine ⟨ws, rfl, f4.mono (by omega), k4, ⟨wn, wn12, hw, ?_⟩, eO4, wnm⟩
          have s0 := (sum_le hw).1
          have : ws.sum ≠ 0 := fun z => c (decide_eq_true (by rw [z]))
          omega
      · rintro σ' H5 ⟨ws, rfl, f5, k5, hws, eO5, wnm⟩
        refine ⟨_, rfl, O, _, rfl, .inl ⟨.inl (.inl eO5), fun r nr => ?_⟩⟩
        exact q _ r ws (k5.same (same_upd nr)) (f5.same (same_upd nr)) upd_same hws wnm
end
end K13

set_option Elab.async false
set_option linter.all false
set_option maxRecDepth 100000
set_option maxHeartbeats 2000000
namespace K13
open PySem PySem.Spec PyProof.Rows L2 TB K09

theorem scIn : FnScope ["self", "word", "at"] ["self", "word", "at"] (defScope sIn) := ⟨rfl, rfl, rfl, by decide +kernel, rfl, by decide +kernel, by decide +kernel⟩
theorem scNu : FnScope ["thing"] ["thing"] (defScope sNu) := ⟨rfl, rfl, rfl, by decide +kernel, rfl, by decide +kernel, by decide +kernel⟩
theorem scTu : FnScope ["thing", "many"] ["thing", "many"] (defScope sTu) := ⟨rfl, rfl, rfl, by decide +kernel, rfl, by decide +kernel, by decide +kernel⟩
theorem scLc : FnScope ["lows", "parts", "at", "part"] ["lows", "parts"] (defScope sLc) := ⟨rfl, rfl, rfl, by decide +kernel, rfl, by decide +kernel, by decide +kernel⟩
theorem scLr : FnScope ["lows", "left", "parts", "short", "at", "part", "low", "rest"] ["lows", "left", "parts"] (defScope sLr) := ⟨rfl, rfl, rfl, by decide +kernel, rfl, by decide +kernel, by decide +kernel⟩
/-! ### kinds of things -/
def isNum : PyData → Bool
  | .int _ => true
  | _ => false
def isTup (m : Int) : PyData → Bool
  | .tuple ds => decide ((ds.length : Int) = m)
  | _ => false
section
variable {K : PySem.W.Frag} {H : Hp}
theorem ty_lst {a : Addr} {xs : List V} (h : SqL K H a xs) : TyX K H (.ref a) (.type "list") := by
  rcases h with (h | ⟨o, h⟩) | ⟨o, its, n, e, c, _⟩
  · exact .base (.lst h)
  · exact .base (.frz h)
  · exact .kList e c
theorem ty_tup {a : Addr} {xs : List V} (h : SqT K H a xs) : TyX K H (.ref a) (.type "tuple") := by
  rcases h with (h | ⟨o, h⟩) | ⟨o, its, n, e, c, _⟩
  · exact .base (.tup h)
  · exact .fTuple h
  · exact .kTuple e c
def isTp : PyData → Bool
  | .tuple _ => true
  | _ => false
theorem isiT {v : V} {d : PyData} (hd : Dp K H v d) : ∃ t : Value, TyX K H v t ∧ PySem.W.kitOne K t (.type "tuple") = some (isTp d) := by
  cases hd with
  | non => exact ⟨_, .base .non, (kit_ty (r := false) (by decide +kernel))⟩
  | bl b => exact ⟨_, .base (.bl b), (kit_ty (r := false) (by decide +kernel))⟩
  | int i => exact ⟨_, .base (.int i), (kit_ty (r := false) (by decide +kernel))⟩
  | str x => exact ⟨_, .base (.str x), (kit_ty (r := false) (by decide +kernel))⟩
  | lst h _ => exact ⟨_, ty_lst h, (kit_ty (r := false) (by decide +kernel))⟩
  | tup h _ => exact ⟨_, ty_tup h, (kit_ty (r := true) (by decide +kernel))⟩
end
theorem dec_int' {i j : Int} : decide (V.int i = V.int j) = decide (i = j) := by
  by_cases c : i = j
  · rw [c, decide_eq_true rfl, decide_eq_true rfl]
  · rw [decide_eq_false c, decide_eq_false fun z => c (V.int.inj z)]
section
variable {P : Program} {w : World} {K : PySem.W.Frag} {mg : Str → Option Value} {base : Heap}
def spKind (K : PySem.W.Frag) (f : PyData → Bool) : Sp := fun vs H Q _ => ∃ (v : V) (d : PyData), vs = [v] ∧ Dp K H v d ∧ ∀ H', Same H H' → Q (.bl (f d)) H'
theorem ok_n {f : Addr} {fd : FuncData} {k : Nat} (F : Fun K "is_number" "is_number" sNu f fd) (m_isinstance : mg "isinstance" = none) (m_int : mg "int" = none) (m_bool : mg "bool" = none) :
    FnOk P w K mg base CX0 (k + 1) f fd ["thing"] (spKind K isNum) := by
  refine F.ok scNu (fun vs H Q E h => ?_) (fun cdv A outer s H vs Q E hr h => ?_)
  · obtain ⟨v, d, rfl, _⟩ := h
    rfl
  · obtain ⟨v, d, rfl, hd, q⟩ := h
    have q := q H (Same.refl H)
    refine ⟨_, (pss_one (ps_ret (pe_and (pe_callB call_isi (by rfl) m_isinstance (by decide +kernel) (pa_cons (pv 0) (pa_cons (pe_bltn (v := .ty "int") (u := .type "int") (by rfl) m_int (by decide +kernel) rfl) pa_nil))) (pe_one (pe_not (pe_callB call_isi (by rfl) m_isinstance (by decide +kernel) (pa_cons (pv 0) (pa_cons (pe_bltn (v := .ty "bool") (u := .type "bool") (by rfl) m_bool (by decide +kernel) rfl) pa_nil)))))))), ?_⟩
    cases hd with
    | non => exact ⟨_, rfl, _, .ty "int", _, .type "int", false, rfl, .ty _, .base .non, kit_ty (by decide +kernel), false, rfl, iteF q⟩
    | bl b => exact ⟨_, rfl, _, .ty "int", _, .type "int", true, rfl, .ty _, .base (.bl b), kit_ty (by decide +kernel), true, rfl, iteT ⟨_, rfl, _, .ty "bool", _, .type "bool", true, rfl, .ty _, .base (.bl b), kit_ty (by decide +kernel), true, rfl, q⟩⟩
    | int i => exact ⟨_, rfl, _, .ty "int", _, .type "int", true, rfl, .ty _, .base (.int i), kit_ty (by decide +kernel), true, rfl, iteT ⟨_, rfl, _, .ty "bool", _, .type "bool", false, rfl, .ty _, .base (.int i), kit_ty (by decide +kernel), false, rfl, q⟩⟩
    | str x => exact ⟨_, rfl, _, .ty "int", _, .type "int", false, rfl, .ty _, .base (.str x), kit_ty (by decide +kernel), false, rfl, iteF q⟩
    | lst h _ => exact ⟨_, rfl, _, .ty "int", _, .type "int", false, rfl, .ty _, ty_lst h, kit_ty (by decide +kernel), false, rfl, iteF q⟩
    | tup h _ => exact ⟨_, rfl, _, .ty "int", _, .type "int", false, rfl, .ty _, ty_tup h, kit_ty (by decide +kernel), false, rfl, iteF q⟩
def spTup (K : PySem.W.Frag) (g : Int → PyData → Bool) : Sp := fun vs H Q _ => ∃ (v : V) (d : PyData) (m : Int), vs = [v, .int m] ∧ m ≤ 100 ∧ Dp K H v d ∧ ∀ H', Same H H' → Q (.bl (g m d)) H'
theorem ok_t {f : Addr} {fd : FuncData} {k : Nat} (F : Fun K "is_tuple_of" "is_tuple_of" sTu f fd) (m_isinstance : mg "isinstance" = none) (m_tuple : mg "tuple" = none) (m_len : mg "len" = none) :
    FnOk P w K mg base CX0 (k + 1) f fd ["thing", "many"] (spTup K isTup) := by
  refine F.ok scTu (fun vs H Q E h => ?_) (fun cdv A outer s H vs Q E hr h => ?_)
  · obtain ⟨v, d, m, rfl, _⟩ := h
    rfl
  · obtain ⟨v, d, m, rfl, hm, hd, q⟩ := h
    have q := q H (Same.refl H)
    refine ⟨_, (pss_one (ps_ret (pe_and (pe_callB call_isi (by rfl) m_isinstance (by decide +kernel) (pa_cons (pv 0) (pa_cons (pe_bltn (v := .ty "tuple") (u := .type "tuple") (by rfl) m_tuple (by decide +kernel) rfl) pa_nil))) (pe_one (pe_cmpR op_eq (pe_callB call_len_seq (by rfl) m_len (by decide +kernel) (pa_cons (pv 0) pa_nil)) (pv 1) (nomark _)))))), ?_⟩
    obtain ⟨t, ty, kt⟩ := isiT hd
    refine ⟨_, rfl, _, .ty "tuple", t, .type "tuple", _, rfl, .ty _, ty, kt, _, rfl, ?_⟩
    cases hd with
    | tup h t =>
      refine iteT ⟨_, rfl, _, _, rfl, .inr h, _, rfl, rfl, ?_⟩
      have ln := DpAll.len t
      rw [ln]
      show Q (.bl (decide (V.int _ = V.int m))) H
      rw [dec_int']
      exact q
    | non => exact iteF q
    | bl b => exact iteF q
    | int i => exact iteF q
    | str x => exact iteF q
    | lst h _ => exact iteF q
/-! ### NoPaper(word, at) -/
def spIn (K : PySem.W.Frag) (C : Addr) : Sp := fun vs H Q _ => ∃ (a : Addr) (x y : V), vs = [.ref a, x, y] ∧ H a = some (exo a C none) ∧
  ∀ dx, H dx = none → dx ≠ a → Q .non (upd (upd (upd H dx (exd dx [("word", x)])) a (exo a C (some dx))) dx (exd dx [("at", y), ("word", x)]))
theorem ok_in {C f : Addr} {fd : FuncData} {k : Nat} (T : OexC K C) (nW : PySem.W.findIn K (.ref C) "word" = some none) (nA : PySem.W.findIn K (.ref C) "at" = some none) (F : Fun K "__init__" "NoPaper.__init__" sIn f fd) :
    FnOk P w K mg base CX0 (k + 1) f fd ["self", "word", "at"] (spIn K C) := by
  refine F.ok scIn (fun vs H Q E h => ?_) (fun cdv A outer s H vs Q E hr h => ?_)
  · obtain ⟨a, x, y, rfl, _⟩ := h
    rfl
  · obtain ⟨a, x, y, rfl, ea, q⟩ := h
    refine ⟨_, pss_cons (ps_ost (pv 0) (pv 1)) (pss_one (ps_ost (pv 0) (pv 2))), ?_⟩
    refine ⟨_, rfl, _, rfl, a, C, rfl, T, nW, .inl ⟨ea, fun dx n ne => ?_⟩⟩
    exact ⟨_, rfl, _, rfl, a, C, rfl, T, nA, .inr ⟨dx, _, upd_same, by rw [upd_ne ne]; exact upd_same, by show (1 : Nat) ≤ 900; decide, q dx n ne⟩⟩
/-- it leaves with this word and this place -/
def Rs (C : Addr) (H : Hp) (E : XK) (z : Str) (i : Int) : Prop := ∀ (H' : Hp) (d : Addr), Same H H' → H d = none → H' d = some (.xd [("at", .int i), ("word", .str z)]) → E (.ref C) (some d) H'
theorem Rs.same {C : Addr} {H H1 : Hp} {E : XK} {z : Str} {i : Int} (r : Rs C H E z i) (s : Same H H1) : Rs C H1 E z i := fun H' d s' n e => r H' d (s.trans s') (s.free n) e
theorem made {C a : Addr} {H : Hp} {W : XK} {z : Str} {i : Int} (na : H a = none) (r : Rs C H W z i) :
    spIn K C [.ref a, .str z, .int i] (upd H a (exo a C none)) (fun v H2 => v = .non ∧ ∃ (d : Addr) (fs : List (Str × V)), H2 a = some (exo a C (some d)) ∧ H2 d = some (exd d fs) ∧ H d = none ∧ W (.ref C) (some d) (upd (del H2 a) d (.xd fs))) (fun _ _ _ => False) := by
  refine ⟨a, _, _, rfl, upd_same, fun dx n ne => ⟨rfl, dx, _, ?_, upd_same, ?_, ?_⟩⟩
  · rw [upd_ne (Ne.symm ne), upd_same]
  · rw [upd_ne ne] at n
    exact n
  · rw [upd_ne ne] at n
    refine r _ dx (fun b o e => ?_) n upd_same
    have n1 : b ≠ dx := ne_of_none e n
    have n2 : b ≠ a := ne_of_none e na
    rw [upd_ne n1, del_ne n2, upd_ne n1, upd_ne n2, upd_ne n1, upd_ne n2]
    exact e
/-! ### look_at_cuts -/
def badC (ls ps : List Int) (i : Nat) : Bool := decide (ps.getD i 0 ≠ ls.getD i 0 ∧ ps.getD i 0 ≠ ls.getD i 0 + 1)
def spLc (K : PySem.W.Frag) (C : Addr) : Sp := fun vs H Q E => ∃ (a b : Addr) (ls ps : List Int), vs = [.ref a, .ref b] ∧ SqT K H a (ls.map V.int) ∧ SqT K H b (ps.map V.int) ∧ ls.length = ps.length ∧ ps.length ≤ 100 ∧
  ((∀ i, i < ps.length → badC ls ps i = false) → ∀ H', Same H H' → Q .non H') ∧ (∀ i, i < ps.length → badC ls ps i = true → (∀ j, j < i → badC ls ps j = false) → Rs C H E "cut" i)
theorem gInt {ns : List Int} {i : Nat} (h : i < ns.length) : (ns.map V.int)[i]? = some (.int (ns.getD i 0)) := by
  rw [List.getElem?_map, getD_of h]
  rfl
theorem ok_lc {C f fI : Addr} {fd fdI : FuncData} (F : Fun K "look_at_cuts" "look_at_cuts" sLc f fd)
    (TNp : OexC K C) (iCNp : PySem.W.findIn K (.ref C) "__init__" = some (some (.ref fI))) (tINp : PySem.W.typeIn K (.ref fI) = some (.type "function"))
    (GINp : FnOk P w K mg base CX0 1 fI fdI ["self", "word", "at"] (spIn K C)) (bINp : Binds K fdI ["self", "word", "at"] []) (gNp : mg "NoPaper" = some (.ref C)) (m_enumerate : mg "enumerate" = none) :
    FnOk P w K mg base (L2.CX P w) 3 f fd ["lows", "parts"] (spLc K C) := by
  refine F.okX scLc (fun vs H Q E h => ?_) (fun cdv A outer s H vs Q E hr h => ?_)
  · obtain ⟨a, b, ls, ps, rfl, _⟩ := h
    rfl
  · obtain ⟨a, b, ls, ps, rfl, hA, hB, ln, l100, q, r⟩ := h
    refine ⟨_, (pss_one (ps_for (passes_of rfl) rfl (pi_enumT (by rfl) m_enumerate (pa_cons (pv 1) pa_nil)) (pg_tup rfl (pgs_cons (pg_name (i := 2) scLc.nd rfl (.inl rfl)) (pgs_cons (pg_name (i := 3) scLc.nd rfl (.inl rfl)) pgs_nil))) (pss_one (ps_if (PW.pt (pw_and (pt_cmpR op_ne (pv 3) (pe_ix ix_tup (pv 0) (pv 2) (fun _ _ => rfl)) (nomark _)) (pw_and1 (pt_cmpR op_ne (pv 3) (pe_op op_add (pe_ix ix_tup (pv 0) (pv 2) (fun _ _ => rfl)) pe_int) (nomark _))))) (pss_one (ps_raise rfl (takes_of rfl rfl rfl rfl) (pmk_oex TNp iCNp tINp GINp (hr.mono (by decide)) bINp .nil pass0 (by rfl) gNp (pa_cons pe_str (pa_cons (pv 2) pa_nil))))) pss_nil)))), ?_⟩
    refine ⟨_, rfl, b, _, rfl, hB, ?_⟩
    refine for_it (walk_ET (xs := ps.map V.int)) (fun i σ H1 => ∃ y2 y3, σ = [some (.ref a), some (.ref b), y2, y3] ∧ Same H H1 ∧ ∀ j, j < i → badC ls ps j = false) ⟨_, _, rfl, Same.refl _, fun j hj => absurd hj (Nat.not_lt_zero _)⟩ ?_ ?_ ?_
    · rintro i σ H1 _ ⟨y2, y3, rfl, sm, _⟩
      exact TB.Same.tup sm hB
    · rintro i x σ H1 H2 hi ⟨y2, y3, rfl, sm, al⟩ ⟨T, u, v, rfl, nT, rfl, hu, hv⟩
      obtain rfl := Option.some.inj hu
      rw [List.length_map] at hi
      obtain rfl := Option.some.inj ((gInt hi).symm.trans hv)
      have sT := same_upd (o := .tup [.int (i : Nat), .int (ps.getD i 0)]) nT
      have s2 := sm.trans sT
      refine ⟨T, _, rfl, .inl (.inl upd_same), rfl, _, _, rfl, _, _, rfl, rfl, ?_⟩
      have hA2 := TB.Same.tup s2 hA
      have gl : atI (ls.map V.int) (i : Int) = some (.int (ls.getD i 0)) := atI_nat (gInt (by omega))
      have step : badC ls ps i = false → ∀ j, j < i + 1 → badC ls ps j = false := fun z j hj => by
        by_cases c : j < i
        · exact al j c
        · obtain rfl : j = i := by omega
          exact z
      refine ⟨_, rfl, _, rfl, _, rfl, a, _, _, _, rfl, rfl, hA2, gl, rfl, _, rfl, ?_⟩
      change ite _ _ _
      refine ite2 (fun c => ?_) (fun c => ?_)
      · refine ⟨_, rfl, _, rfl, _, rfl, a, _, _, _, rfl, rfl, hA2, gl, _, _, rfl, rfl, rfl, _, rfl, ?_⟩
        change ite _ _ _
        have n1 : ps.getD i 0 ≠ ls.getD i 0 := fun z => by
          rw [z, decide_eq_true rfl] at c
          cases c
        refine ite2 (fun c2 => ?_) (fun c2 => ?_)
        · have n2 : ps.getD i 0 ≠ ls.getD i 0 + 1 := fun z => by
            rw [z, decide_eq_true rfl] at c2
            cases c2
          refine ⟨_, rfl, by show (2 : Nat) ≤ 1000; decide, fun e ne => ?_⟩
          exact made ne ((r i hi (decide_eq_true ⟨n1, n2⟩) al).same s2)
        · refine ⟨_, _, rfl, s2, step (decide_eq_false fun z => z.2 ?_)⟩
          refine V.int.inj (Decidable.byContradiction fun y => c2 ?_)
          rw [decide_eq_false y]
          rfl
      · refine iteF ⟨_, _, rfl, s2, step (decide_eq_false fun z => z.1 ?_)⟩
        refine V.int.inj (Decidable.byContradiction fun y => c ?_)
        rw [decide_eq_false y]
        rfl
    · rintro σ H1 ⟨y2, y3, rfl, sm, al⟩
      rw [List.length_map] at al
      exact q al H1 sm
end
end K13

set_option Elab.async false
set_option linter.all false
set_option maxRecDepth 100000
set_option maxHeartbeats 2000000
namespace K13
open PySem PySem.Spec PyProof.Rows L2 TB K09

theorem scLs : FnScope ["total", "weights", "thing", "at", "part", "whole", "weight"] ["total", "weights", "thing"] (defScope sLs) := ⟨rfl, rfl, rfl, by decide +kernel, rfl, by decide +kernel, by decide +kernel⟩
/-! ### look_at_rests -/
def shorts (ls rs ps : List Int) (n : Nat) : List Int := ((List.range n).filter fun j => decide (ps.getD j 0 = ls.getD j 0)).map fun j => rs.getD j 0
theorem shorts_more (ls rs ps : List Int) (n : Nat) : shorts ls rs ps (n + 1) = shorts ls rs ps n ++ if ps.getD n 0 = ls.getD n 0 then [rs.getD n 0] else [] := by
  unfold shorts
  rw [List.range_succ, List.filter_append, List.map_append]
  congr 1
  by_cases c : ps.getD n 0 = ls.getD n 0
  · rw [if_pos c, List.filter_cons, if_pos (decide_eq_true c)]
    rfl
  · rw [if_neg c, List.filter_cons, if_neg (by rw [decide_eq_false c]; exact Bool.false_ne_true)]
    rfl
theorem shorts_len (ls rs ps : List Int) (n : Nat) : (shorts ls rs ps n).length ≤ n := by
  unfold shorts
  rw [List.length_map]
  exact Nat.le_trans (List.length_filter_le _ _) (by rw [List.length_range]; exact Nat.le_refl _)
def badR (ls rs ps : List Int) (i : Nat) : Bool := decide (ls.getD i 0 < ps.getD i 0) && (shorts ls rs ps ps.length).any fun r => decide (rs.getD i 0 < r)
section
variable {P : Program} {w : World} {K : PySem.W.Frag} {mg : Str → Option Value} {base : Heap}
def spLr (K : PySem.W.Frag) (C : Addr) : Sp := fun vs H Q E => ∃ (a b c : Addr) (ls rs ps : List Int), vs = [.ref a, .ref b, .ref c] ∧ SqT K H a (ls.map V.int) ∧ SqT K H b (rs.map V.int) ∧ SqT K H c (ps.map V.int) ∧ ls.length = ps.length ∧ rs.length = ps.length ∧ ps.length ≤ 100 ∧
  ((∀ i, i < ps.length → badR ls rs ps i = false) → ∀ H', Same H H' → Q .non H') ∧ (∀ i, i < ps.length → badR ls rs ps i = true → (∀ j, j < i → badR ls rs ps j = false) → Rs C H E "rest" i)
theorem ok_lr {C f fI : Addr} {fd fdI : FuncData} (F : Fun K "look_at_rests" "look_at_rests" sLr f fd)
    (TNp : OexC K C) (iCNp : PySem.W.findIn K (.ref C) "__init__" = some (some (.ref fI))) (tINp : PySem.W.typeIn K (.ref fI) = some (.type "function"))
    (GINp : FnOk P w K mg base CX0 1 fI fdI ["self", "word", "at"] (spIn K C)) (bINp : Binds K fdI ["self", "word", "at"] []) (gNp : mg "NoPaper" = some (.ref C)) (m_enumerate : mg "enumerate" = none) (m_zip : mg "zip" = none) (m_any : mg "any" = none) :
    FnOk P w K mg base (L2.CX P w) 3 f fd ["lows", "left", "parts"] (spLr K C) := by
  refine F.okX scLr (fun vs H Q E h => ?_) (fun cdv A outer s H vs Q E hr h => ?_)
  · obtain ⟨a, b, c, ls, rs, ps, rfl, _⟩ := h
    rfl
  · obtain ⟨a, b, c, ls, rs, ps, rfl, hA, hB, hC, ll, rl, l100, q, r⟩ := h
    refine ⟨_, (pss_cons (ps_setLc (i := 3) (own := [("low", 6), ("rest", 7), ("part", 5)]) (g := gTup K 3 (gCons (gName 6) (gCons (gName 7) (gCons (gName 5) gNil)))) rfl scLr.nd rfl rfl (sw_true rfl rfl rfl (by decide +kernel)) (pi_zip3 (by rfl) m_zip (pa_cons (pv 0) (pa_cons (pv 1) (pa_cons (pv 2) pa_nil)))) (blkOk_by (own := [("low", 6), ("rest", 7), ("part", 5)]) (N := ["lows", "left", "parts", "short", "at", "part", "low", "rest"]) (sc := defScope sLr) (by decide +kernel)) (fun _ _ _ _ _ => (pg_tup rfl (pgs_cons (pg_name (i := 6) scLr.nd rfl (.inl rfl)) (pgs_cons (pg_name (i := 7) scLr.nd rfl (.inl rfl)) (pgs_cons (pg_name (i := 5) scLr.nd rfl (.inl rfl)) pgs_nil))))) (fun _ _ _ _ _ => (pts_one (pt_cmpR op_eq (pv 5) (pv 6) (nomark _)))) (fun _ _ _ _ _ => (pv 7)))
      (pss_one (ps_for (passes_of rfl) rfl (pi_enumT (by rfl) m_enumerate (pa_cons (pv 2) pa_nil)) (pg_tup rfl (pgs_cons (pg_name (i := 4) scLr.nd rfl (.inr rfl)) (pgs_cons (pg_name (i := 5) scLr.nd rfl (.inl rfl)) pgs_nil))) (pss_one (ps_if (PW.pt (pw_and (pt_cmpR op_gt (pv 5) (pe_ix ix_tup (pv 0) (pv 4) (fun _ _ => rfl)) (nomark _)) (pw_and1 (pt_val (pe_callB (cr_any rfl) (by rfl) m_any (by decide +kernel) (pa_cons (pe_lc (own := [("rest", 7)]) (g := gName 7) (tt := tYes) (te := tOp (rI0 fun i j => .bl (decide (j < i))) (tVar 7) (tOp (rIxT K) (tVar 1) (tVar 4))) rfl scLr.nd (pi_list (pv 3)) (blkOk_by (own := [("rest", 7)]) (N := ["lows", "left", "parts", "short", "at", "part", "low", "rest"]) (sc := defScope sLr) (by decide +kernel)) (fun _ _ _ _ _ => (pg_name (i := 7) scLr.nd rfl (.inl rfl))) (fun _ _ _ _ _ => pts_nil) (fun _ _ _ _ _ => (pe_cmpR op_gt (pv 7) (pe_ix ix_tup (pv 1) (pv 4) (fun _ _ => rfl)) (nomark _)))) pa_nil)))))) (pss_one (ps_raise rfl (takes_of rfl rfl rfl rfl) (pmk_oex TNp iCNp tINp GINp (hr.mono (by decide)) bINp .nil pass0 (by rfl) gNp (pa_cons pe_str (pa_cons (pv 4) pa_nil))))) pss_nil))))), ?_⟩
    refine ⟨_, rfl, _, rfl, _, rfl, a, b, c, _, _, _, rfl, ⟨hA, hB, hC⟩, fun D nD => ?_⟩
    refine lc_it (walk_3 (xs := ls.map V.int) (ys := rs.map V.int) (zs := ps.map V.int) (n := ps.length) (by rw [List.length_map, List.length_map, List.length_map]; omega)) (fun i H1 => Same H H1 ∧ H1 D = some (.lst ((shorts ls rs ps i).map V.int))) ⟨same_upd nD, upd_same⟩ ?_ ?_ ?_
    · rintro i H1 _ ⟨sm, _⟩
      exact ⟨TB.Same.tup sm hA, TB.Same.tup sm hB, TB.Same.tup sm hC⟩
    · rintro i x H1 H2 hi ⟨sm, eD⟩ ⟨T, u, v, z, rfl, nT, rfl, hu, hv, hz⟩
      obtain rfl := Option.some.inj ((gInt (by omega)).symm.trans hu)
      obtain rfl := Option.some.inj ((gInt (by omega)).symm.trans hv)
      obtain rfl := Option.some.inj ((gInt hi).symm.trans hz)
      have sT := same_upd (o := .tup [.int (ls.getD i 0), .int (rs.getD i 0), .int (ps.getD i 0)]) nT
      refine ⟨T, _, rfl, .inl (.inl upd_same), rfl, _, _, rfl, _, _, rfl, _, _, rfl, rfl, rfl, ?_⟩
      refine ⟨_, rfl, _, rfl, rfl, _, rfl, ite2 (fun c => ?_) (fun c => ?_)⟩
      · have c' : ps.getD i 0 = ls.getD i 0 := V.int.inj (of_decide_eq_true c)
        refine ⟨_, rfl, _, sT _ _ eD, ?_, same_new nD (sm.trans sT), ?_⟩
        · rw [List.length_map]
          have := shorts_len ls rs ps i
          exact small1000 (by omega)
        · rw [upd_same, shorts_more, if_pos c', List.map_append]
          rfl
      · have c' : ¬ ps.getD i 0 = ls.getD i 0 := fun z => c (decide_eq_true (by rw [z]))
        refine ⟨sm.trans sT, ?_⟩
        rw [shorts_more, if_neg c', List.append_nil]
        exact sT _ _ eD
    rintro H1 ⟨s1, eD⟩
    have sl := shorts_len ls rs ps ps.length
    refine ⟨_, rfl, c, _, rfl, TB.Same.tup s1 hC, ?_⟩
    refine for_it (walk_ET (xs := ps.map V.int)) (fun i σ H2 => ∃ y4 y5, σ = [some (.ref a), some (.ref b), some (.ref c), some (.ref D), y4, y5, none, none] ∧ Same H1 H2 ∧ ∀ j, j < i → badR ls rs ps j = false) ⟨_, _, rfl, Same.refl _, fun j hj => absurd hj (Nat.not_lt_zero _)⟩ ?_ ?_ ?_
    · rintro i σ H2 _ ⟨y4, y5, rfl, sm, _⟩
      exact TB.Same.tup (s1.trans sm) hC
    · rintro i x σ H2 H3 hi ⟨y4, y5, rfl, sm, al⟩ ⟨T, u, v, rfl, nT, rfl, hu, hv⟩
      obtain rfl := Option.some.inj hu
      rw [List.length_map] at hi
      obtain rfl := Option.some.inj ((gInt hi).symm.trans hv)
      have sT := same_upd (o := .tup [.int (i : Nat), .int (ps.getD i 0)]) nT
      have s3 := sm.trans sT
      refine ⟨T, _, rfl, .inl (.inl upd_same), rfl, _, _, rfl, _, _, rfl, rfl, ?_⟩
      have gl : atI (ls.map V.int) (i : Int) = some (.int (ls.getD i 0)) := atI_nat (gInt (by omega))
      have gr : atI (rs.map V.int) (i : Int) = some (.int (rs.getD i 0)) := atI_nat (gInt (by omega))
      have step : badR ls rs ps i = false → ∀ j, j < i + 1 → badR ls rs ps j = false := fun z j hj => by
        by_cases c : j < i
        · exact al j c
        · obtain rfl : j = i := by omega
          exact z
      refine ⟨_, rfl, _, rfl, _, rfl, a, _, _, _, rfl, rfl, TB.Same.tup (s1.trans s3) hA, gl, _, _, rfl, rfl, _, rfl, ?_⟩
      change ite _ _ _
      refine ite2 (fun c => ?_) (fun c => ?_)
      · have c1 : ls.getD i 0 < ps.getD i 0 := of_decide_eq_true c
        refine ⟨_, rfl, D, rfl, ⟨_, .inl (.inl (s3 _ _ eD))⟩, fun D2 nD2 => ?_⟩
        refine lc_list (xs := (shorts ls rs ps ps.length).map V.int) (fun j H4 => Same (upd H2 T (.tup [.int (i : Nat), .int (ps.getD i 0)])) H4 ∧ H4 D2 = some (.lst ((((shorts ls rs ps ps.length).take j).map fun r => decide (rs.getD i 0 < r)).map V.bl))) ⟨same_upd nD2, upd_same⟩ ?_ ?_ ?_
        · rintro j H4 _ ⟨s4, _⟩
          exact .inl (.inl (s4 _ _ (s3 _ _ eD)))
        · rintro j x H4 hx ⟨s4, eD2⟩
          obtain ⟨r0, hr0, rfl⟩ := map_int hx
          refine ⟨rfl, yes (iteT ?_)⟩
          refine ⟨_, rfl, _, rfl, _, rfl, b, _, _, _, rfl, rfl, TB.Same.tup (s1.trans (s3.trans s4)) hB, gr, _, _, rfl, rfl, _, eD2, ?_, same_new nD2 s4, ?_⟩
          · rw [List.length_map, List.length_map]
            have := List.length_take_le' j (shorts ls rs ps ps.length)
            exact small1000 (by omega)
          · rw [upd_same, map_take_more hr0, List.map_append]
            rfl
        rintro H4 ⟨s4, eD2⟩
        rw [List.length_map, List.take_length] at eD2
        refine ⟨D2, _, rfl, .inl (.inl eD2), _, rfl, ?_⟩
        change ite _ _ _
        rw [List.any_map]
        have s5 := s1.trans (s3.trans s4)
        refine ite2 (fun c2 => ?_) (fun c2 => ?_)
        · refine ⟨_, rfl, by show (2 : Nat) ≤ 1000; decide, fun e ne => ?_⟩
          refine made ne ((r i hi ?_ al).same s5)
          unfold badR
          rw [decide_eq_true c1, Bool.true_and]
          exact c2
        · refine ⟨_, _, rfl, s3.trans s4, step ?_⟩
          unfold badR
          rw [decide_eq_true c1, Bool.true_and]
          cases e : (shorts ls rs ps ps.length).any fun r => decide (rs.getD i 0 < r) with
          | false => rfl
          | true => exact absurd e c2
      · refine iteF ⟨_, _, rfl, s3, step ?_⟩
        unfold badR
        rw [decide_eq_false fun z => c (decide_eq_true z), Bool.false_and]
    · rintro σ H2 ⟨y4, y5, rfl, sm, al⟩
      rw [List.length_map] at al
      exact q al H2 (s1.trans sm)
/-! ### lets_split -/
def ab (x : Int) : Int := if x < 0 then -x else x
def offL (t : Int) (ws ps : List Int) (W : Int) (n : Nat) : List Int := (List.range n).map fun i => ab (ps.getD i 0 * W - t * ws.getD i 0)
def off (t : Int) (ws ps : List Int) : Int := (offL t ws ps ws.sum ws.length).sum
def passes (t : Int) (ws ps : List Int) : Prop := (∀ i, i < ps.length → badC (lows t ws) ps i = false) ∧ ∀ i, i < ps.length → badR (lows t ws) (rsts t ws) ps i = false
def spLs (K : PySem.W.Frag) (C : Addr) : Sp := fun vs H Q E => ∃ (a : Addr) (v : V) (t : Int) (ws : List Int) (d : PyData), vs = [.int t, .ref a, v] ∧ SqT K H a (ws.map V.int) ∧ OkW t ws ∧ Dp K H v d ∧
  (isTup ws.length d = false → Rs C H E "shape" (-1)) ∧
  (∀ ds i dd, d = .tuple ds → ds.length = ws.length → ds[i]? = some dd → isNum dd = false → (∀ (j : Nat) (dj : PyData), j < i → ds[j]? = some dj → isNum dj = true) → Rs C H E "number" i) ∧
  (∀ ps, d = .tuple (dInts ps) → ps.length = ws.length →
    (ps.sum ≠ t → Rs C H E "sum" (-1)) ∧
    (ps.sum = t → (∀ i : Nat, i < ps.length → badC (lows t ws) ps i = true → (∀ j, j < i → badC (lows t ws) ps j = false) → Rs C H E "cut" i) ∧
      ((∀ i, i < ps.length → badC (lows t ws) ps i = false) → ∀ i : Nat, i < ps.length → badR (lows t ws) (rsts t ws) ps i = true → (∀ j, j < i → badR (lows t ws) (rsts t ws) ps j = false) → Rs C H E "rest" i) ∧
      (passes t ws ps → ∀ H', Same H H' → Q (.int (off t ws ps)) H')))
theorem nums_ints : ∀ {ds : List PyData}, (∀ d ∈ ds, isNum d = true) → ∃ ns : List Int, ds = dInts ns
  | [], _ => ⟨[], rfl⟩
  | d :: ds, h => by
    obtain ⟨ns, rfl⟩ := nums_ints fun x hx => h x (List.mem_cons_of_mem _ hx)
    have hd := h d List.mem_cons_self
    cases d with
    | int i => exact ⟨i :: ns, rfl⟩
    | _ => exact nomatch (show false = true from hd)
theorem ints_at {H : Hp} {ns : List Int} : ∀ {xs : List V}, DpAll K H xs (dInts ns) → xs = ns.map V.int := by
  induction ns with
  | nil => intro xs h; exact DpAll.nil_inv h
  | cons n ns ih =>
    intro xs h
    obtain ⟨x, r, rfl, h1, t⟩ := DpAll.cons_inv h
    rw [Dp.int_inv h1, ih t]
    rfl
theorem ok_ls {C f fI fTu fN fC fR fLc fLr : Addr} {fd fdI fdTu fdN fdC fdR fdLc fdLr : FuncData} (F : Fun K "lets_split" "lets_split" sLs f fd)
    (TNp : OexC K C) (iCNp : PySem.W.findIn K (.ref C) "__init__" = some (some (.ref fI))) (tINp : PySem.W.typeIn K (.ref fI) = some (.type "function"))
    (GINp : FnOk P w K mg base CX0 1 fI fdI ["self", "word", "at"] (spIn K C)) (bINp : Binds K fdI ["self", "word", "at"] []) (gNp : mg "NoPaper" = some (.ref C))
    (GTu : FnOk P w K mg base CX0 1 fTu fdTu ["thing", "many"] (spTup K isTup)) (kTu : PySem.W.keepIn K (.ref fTu) = true) (bTu : Binds K fdTu ["thing", "many"] []) (gTu : mg "is_tuple_of" = some (.ref fTu))
    (GN : FnOk P w K mg base CX0 1 fN fdN ["thing"] (spKind K isNum)) (kN : PySem.W.keepIn K (.ref fN) = true) (bN : Binds K fdN ["thing"] []) (gN : mg "is_number" = some (.ref fN))
    (GC : FnOk P w K mg base CX0 1 fC fdC ["total", "weights"] (spL K lows)) (kC : PySem.W.keepIn K (.ref fC) = true) (bC : Binds K fdC ["total", "weights"] []) (gC : mg "cuts" = some (.ref fC))
    (GR : FnOk P w K mg base CX0 2 fR fdR ["total", "weights"] (spL K rsts)) (kR : PySem.W.keepIn K (.ref fR) = true) (bR : Binds K fdR ["total", "weights"] []) (gR : mg "rests" = some (.ref fR))
    (GLc : FnOk P w K mg base (L2.CX P w) 3 fLc fdLc ["lows", "parts"] (spLc K C)) (kLc : PySem.W.keepIn K (.ref fLc) = true) (bLc : Binds K fdLc ["lows", "parts"] []) (gLc : mg "look_at_cuts" = some (.ref fLc))
    (GLr : FnOk P w K mg base (L2.CX P w) 3 fLr fdLr ["lows", "left", "parts"] (spLr K C)) (kLr : PySem.W.keepIn K (.ref fLr) = true) (bLr : Binds K fdLr ["lows", "left", "parts"] []) (gLr : mg "look_at_rests" = some (.ref fLr))
    (m_len : mg "len" = none) (m_enumerate : mg "enumerate" = none) (m_sum : mg "sum" = none) (m_zip : mg "zip" = none) (m_abs : mg "abs" = none) :
    FnOk P w K mg base (L2.CX P w) 4 f fd ["total", "weights", "thing"] (spLs K C) := by
  refine F.okX scLs (fun vs H Q E h => ?_) (fun cdv A outer s H vs Q E hr h => ?_)
  · obtain ⟨a, v, t, ws, d, rfl, _⟩ := h
    rfl
  · obtain ⟨a, v, t, ws, d, rfl, hA, ok, hd, rShape, rNum, rest⟩ := h
    refine ⟨_, (pss_cons (ps_if (pt_not (pt_val (pe_call GTu (hr.mono (by decide)) (by rfl) gTu kTu bTu .nil pass0 (pa_cons (pv 2) (pa_cons (pe_callB call_len_seq (by rfl) m_len (by decide +kernel) (pa_cons (pv 1) pa_nil)) pa_nil))))) (pss_one (ps_raise rfl (takes_of rfl rfl rfl rfl) (pmk_oex TNp iCNp tINp GINp (hr.mono (by decide)) bINp .nil pass0 (by rfl) gNp (pa_cons pe_str (pa_cons (pe_un un_neg pe_int) pa_nil))))) pss_nil)
      (pss_cons (ps_for (passes_of rfl) rfl (pi_enumT (by rfl) m_enumerate (pa_cons (pv 2) pa_nil)) (pg_tup rfl (pgs_cons (pg_name (i := 3) scLs.nd rfl (.inl rfl)) (pgs_cons (pg_name (i := 4) scLs.nd rfl (.inl rfl)) pgs_nil))) (pss_one (ps_if (pt_not (pt_val (pe_call GN (hr.mono (by decide)) (by rfl) gN kN bN .nil pass0 (pa_cons (pv 4) pa_nil)))) (pss_one (ps_raise rfl (takes_of rfl rfl rfl rfl) (pmk_oex TNp iCNp tINp GINp (hr.mono (by decide)) bINp .nil pass0 (by rfl) gNp (pa_cons pe_str (pa_cons (pv 3) pa_nil))))) pss_nil)))
      (pss_cons (ps_if (pt_cmpR op_ne (pe_callB (call_sumT rfl) (by rfl) m_sum (by decide +kernel) (pa_cons (pv 2) pa_nil)) (pv 0) (nomark _)) (pss_one (ps_raise rfl (takes_of rfl rfl rfl rfl) (pmk_oex TNp iCNp tINp GINp (hr.mono (by decide)) bINp .nil pass0 (by rfl) gNp (pa_cons pe_str (pa_cons (pe_un un_neg pe_int) pa_nil))))) pss_nil)
      (pss_cons (ps_expr (pe_call GLc (hr.mono (by decide)) (by rfl) gLc kLc bLc .nil (passes_call (takes_of rfl rfl rfl rfl) (fun _ _ _ _ h => h)) (pa_cons (pe_call GC (hr.mono (by decide)) (by rfl) gC kC bC .nil pass0 (pa_cons (pv 0) (pa_cons (pv 1) pa_nil))) (pa_cons (pv 2) pa_nil))))
      (pss_cons (ps_expr (pe_call GLr (hr.mono (by decide)) (by rfl) gLr kLr bLr .nil (passes_call (takes_of rfl rfl rfl rfl) (fun _ _ _ _ h => h)) (pa_cons (pe_call GC (hr.mono (by decide)) (by rfl) gC kC bC .nil pass0 (pa_cons (pv 0) (pa_cons (pv 1) pa_nil))) (pa_cons (pe_call GR (hr.mono (by decide)) (by rfl) gR kR bR .nil pass0 (pa_cons (pv 0) (pa_cons (pv 1) pa_nil))) (pa_cons (pv 2) pa_nil)))))
      (pss_cons (ps_set (i := 5) scLs.nd rfl (.inr rfl) (pe_callB (call_sumT rfl) (by rfl) m_sum (by decide +kernel) (pa_cons (pv 1) pa_nil)))
      (pss_one (ps_ret (pe_callB (cr_sum rfl) (by rfl) m_sum (by decide +kernel) (pa_cons (pe_lc (own := [("weight", 6), ("part", 4)]) (g := gTup K 2 (gCons (gName 6) (gCons (gName 4) gNil))) (tt := tYes) rfl scLs.nd (RZ.pi_zipA (by rfl) m_zip (pa_cons (pv 1) (pa_cons (pv 2) pa_nil))) (blkOk_by (own := [("weight", 6), ("part", 4)]) (N := ["total", "weights", "thing", "at", "part", "whole", "weight"]) (sc := defScope sLs) (by decide +kernel)) (fun _ _ _ _ _ => (pg_tup rfl (pgs_cons (pg_name (i := 6) scLs.nd rfl (.inl rfl)) (pgs_cons (pg_name (i := 4) scLs.nd rfl (.inl rfl)) pgs_nil)))) (fun _ _ _ _ _ => pts_nil) (fun _ _ _ _ _ => (pe_callB call_abs (by rfl) m_abs (by decide +kernel) (pa_cons (pe_op op_sub (pe_op op_mul (pv 4) (pv 5)) (pe_op op_mul (pv 0) (pv 6))) pa_nil)))) pa_nil)))))))))), ?_⟩
    have n1 := ok.n1
    refine ⟨_, rfl, _, rfl, a, _, rfl, .inr hA, v, d, ((ws.map V.int).length : Int), rfl, by rw [List.length_map]; omega, hd, fun H1 s1 => ⟨_, rfl, ?_⟩⟩
    rw [List.length_map]
    change ite _ _ _
    refine ite2 (fun c => ?_) (fun c => ?_)
    · refine ⟨1, rfl, by show (2 : Nat) ≤ 1000; decide, fun e ne => ?_⟩
      refine made ne ((rShape ?_).same s1)
      cases z : isTup ws.length d with
      | false => rfl
      | true => rw [z] at c; cases c
    have tp : isTup ws.length d = true := by
      cases z : isTup ws.length d with
      | true => rfl
      | false => rw [z] at c; exact absurd rfl c
    cases d with
    | tuple ds =>
      have dl : ds.length = ws.length := by
        have : (ds.length : Int) = ws.length := of_decide_eq_true tp
        omega
      obtain ⟨p, xs, rfl, hp, dp⟩ := Dp.tup_inv hd
      have xl := DpAll.len dp
      have hp1 := TB.Same.tup s1 hp
      -- numbers
      refine ⟨_, rfl, p, _, rfl, hp1, ?_⟩
      refine for_it (walk_ET (xs := xs)) (fun i σ H2 => ∃ y3 y4, σ = [some (.int t), some (.ref a), some (.ref p), y3, y4, none, none] ∧ Same H1 H2 ∧ ∀ (j : Nat) (dj : PyData), j < i → ds[j]? = some dj → isNum dj = true) ⟨_, _, rfl, Same.refl _, fun j dj hj => absurd hj (Nat.not_lt_zero _)⟩ ?_ ?_ ?_
      · rintro i σ H2 _ ⟨y3, y4, rfl, sm, _⟩
        exact TB.Same.tup sm hp1
      · rintro i x σ H2 H3 hi ⟨y3, y4, rfl, sm, al⟩ ⟨T, u, v, rfl, nT, rfl, hu, hv⟩
        obtain rfl := Option.some.inj hu
        obtain ⟨di, hdi, dv⟩ := DpAll.get dp hv
        have sT := same_upd (o := .tup [.int (i : Nat), v]) nT
        have s3 := s1.trans (sm.trans sT)
        refine ⟨T, _, rfl, .inl (.inl upd_same), rfl, _, _, rfl, _, _, rfl, rfl, ?_⟩
        refine ⟨_, rfl, v, di, rfl, Dp.same s3 _ _ dv, fun H4 s4 => ⟨_, rfl, ?_⟩⟩
        change ite _ _ _
        refine ite2 (fun c2 => ?_) (fun c2 => ?_)
        · refine ⟨_, rfl, by show (2 : Nat) ≤ 1000; decide, fun e ne => ?_⟩
          refine made ne ((rNum ds i di rfl dl hdi ?_ al).same (s3.trans s4))
          cases z : isNum di with
          | false => rfl
          | true => rw [z] at c2; cases c2
        · refine ⟨_, _, rfl, (sm.trans sT).trans s4, fun j dj hj hdj => ?_⟩
          by_cases c3 : j < i
          · exact al j dj c3 hdj
          · obtain rfl : j = i := by omega
            obtain rfl := Option.some.inj (hdi.symm.trans hdj)
            cases z : isNum di with
            | true => rfl
            | false => rw [z] at c2; exact absurd rfl c2
      rintro σ H2 ⟨y3, y4, rfl, s2, al⟩
      obtain ⟨ps, rfl⟩ := nums_ints (ds := ds) fun d hd => by
        obtain ⟨j, hj⟩ := List.mem_iff_getElem?.mp hd
        exact al j d (by have := (List.getElem?_eq_some_iff.mp hj).1; omega) hj
      obtain rfl := ints_at dp
      have pl : ps.length = ws.length := by
        unfold dInts at dl
        rw [List.length_map] at dl
        exact dl
      obtain ⟨rSum, rGo⟩ := rest ps rfl pl
      have s02 := s1.trans s2
      have hp2 := TB.Same.tup s2 hp1
      refine ⟨_, rfl, p, ps, rfl, hp2, _, rfl, rfl, _, rfl, ?_⟩
      change ite _ _ _
      refine ite2 (fun c2 => ?_) (fun c2 => ?_)
      · refine ⟨1, rfl, by show (2 : Nat) ≤ 1000; decide, fun e ne => ?_⟩
        refine made ne ((rSum fun z => ?_).same s02)
        rw [z, decide_eq_true rfl] at c2
        cases c2
      have es : ps.sum = t := by
        refine V.int.inj (Decidable.byContradiction fun y => c2 ?_)
        rw [decide_eq_false y]
        rfl
      obtain ⟨rCut, rRest, q⟩ := rGo es
      have ll := lows_len t ws
      have rl := rsts_len t ws
      -- cuts
      refine ⟨_, rfl, _, rfl, a, t, ws, rfl, TB.Same.tup s02 hA, ok, fun H3 x s3 nx ex => ?_⟩
      have s03 := s02.trans s3
      refine ⟨_, rfl, x, p, lows t ws, ps, rfl, .inl (.inl ex), TB.Same.tup s3 hp2, by omega, by omega, fun allC H4 s4 => ?_, fun i hi hb hj => (rCut i hi hb hj).same s03⟩
      have s04 := s03.trans s4
      -- rests
      refine ⟨_, rfl, _, rfl, a, t, ws, rfl, TB.Same.tup s04 hA, ok, fun H5 y s5 ny ey => ?_⟩
      have s05 := s04.trans s5
      refine ⟨_, rfl, _, rfl, a, t, ws, rfl, TB.Same.tup s05 hA, ok, fun H6 z s6 nz ez => ?_⟩
      have s06 := s05.trans s6
      refine ⟨_, rfl, y, z, p, lows t ws, rsts t ws, ps, rfl, .inl (.inl (s6 _ _ ey)), .inl (.inl ez), TB.Same.tup ((s3.trans s4).trans (s5.trans s6)) hp2, by omega, by omega, by omega, fun allR H7 s7 => ?_, fun i hi hb hj => (rRest allC i hi hb hj).same s06⟩
      have s07 := s06.trans s7
      -- off
      refine ⟨_, rfl, a, ws, rfl, TB.Same.tup s07 hA, ?_⟩
      have hA7 := TB.Same.tup s07 hA
      have hp7 : SqT K H7 p (ps.map V.int) := TB.Same.tup (((s3.trans s4).trans (s5.trans s6)).trans s7) hp2
      refine ⟨_, rfl, _, rfl, a, p, _, _, rfl, .inr ⟨hA7, hp7, fun D nD => ?_⟩⟩
      refine lc_it (walk_zT (xs := ws.map V.int) (ys := ps.map V.int) (n := ws.length) (by rw [List.length_map, List.length_map]; omega)) (fun i H8 => Same H7 H8 ∧ H8 D = some (.lst ((offL t ws ps ws.sum i).map V.int))) ⟨same_upd nD, upd_same⟩ ?_ ?_ ?_
      · rintro i H8 _ ⟨sm, _⟩
        exact ⟨TB.Same.tup sm hA7, TB.Same.tup sm hp7⟩
      · rintro i x H8 H9 hi ⟨sm, eD⟩ ⟨T, u, v, rfl, nT, rfl, hu, hv⟩
        obtain rfl := Option.some.inj ((gInt hi).symm.trans hu)
        obtain rfl := Option.some.inj ((gInt (by omega)).symm.trans hv)
        have sT := same_upd (o := .tup [.int (ws.getD i 0), .int (ps.getD i 0)]) nT
        have sw := sum_ok ok
        refine ⟨T, _, rfl, .inl (.inl upd_same), rfl, _, _, rfl, _, _, rfl, rfl, rfl, yes (iteT ?_)⟩
        refine ⟨_, rfl, _, rfl, _, _, rfl, rfl, .inr ⟨by omega, by omega⟩, _, rfl, _, rfl, _, _, rfl, rfl, .inl (mul_ok (w := 0) ok), _, _, rfl, rfl, _, rfl, ?_⟩
        refine ⟨_, sT _ _ eD, ?_, same_new nD (sm.trans sT), ?_⟩
        · rw [List.length_map]
          unfold offL
          rw [List.length_map, List.length_range]
          exact small1000 (by omega)
        · rw [upd_same]
          unfold offL
          rw [List.range_succ, List.map_append, List.map_append]
          rfl
      · rintro H8 ⟨sm, eD⟩
        exact ⟨D, _, rfl, .inl (.inl eD), q ⟨allC, allR⟩ H8 (s07.trans sm)⟩
    | _ => exact nomatch (show false = true from tp)
end
end K13

set_option Elab.async false
set_option linter.all false
set_option maxRecDepth 100000
set_option maxHeartbeats 1000000
namespace K13
open PySem PySem.Spec PyProof.Rows L2 TB K09

/-! ### sums by place -/
def sumN (n : Nat) (f : Nat → Int) : Int := ((List.range n).map f).sum
theorem sumN_succ (n : Nat) (f : Nat → Int) : sumN (n + 1) f = sumN n f + f n := by
  unfold sumN
  rw [List.range_succ, List.map_append, List.sum_append]
  simp
theorem sumN_le {n : Nat} {f g : Nat → Int} (h : ∀ i, i < n → f i ≤ g i) : sumN n f ≤ sumN n g := by
  induction n with
  | zero => exact Int.le_refl _
  | succ n ih =>
    rw [sumN_succ, sumN_succ]
    have := ih fun i hi => h i (by omega)
    have := h n (by omega)
    omega
theorem sumN_eq {n : Nat} {f g : Nat → Int} (h : ∀ i, i < n → f i ≤ g i) (e : sumN n g ≤ sumN n f) : ∀ i, i < n → f i = g i := by
  induction n with
  | zero => intro i hi; omega
  | succ n ih =>
    rw [sumN_succ, sumN_succ] at e
    have a := sumN_le fun i hi => h i (Nat.lt_succ_of_lt hi)
    have b := h n (by omega)
    intro i hi
    by_cases c : i = n
    · subst c
      omega
    · exact ih (fun i hi => h i (by omega)) (by omega) i (by omega)
theorem sumN_add (n : Nat) (f g : Nat → Int) : sumN n (fun i => f i + g i) = sumN n f + sumN n g := by
  induction n with
  | zero => rfl
  | succ n ih =>
    rw [sumN_succ, sumN_succ, sumN_succ, ih]
    omega
theorem sumN_sub (n : Nat) (f g : Nat → Int) : sumN n (fun i => f i - g i) = sumN n f - sumN n g := by
  induction n with
  | zero => rfl
  | succ n ih =>
    rw [sumN_succ, sumN_succ, sumN_succ, ih]
    omega
theorem sumN_mul (n : Nat) (k : Int) (f : Nat → Int) : sumN n (fun i => k * f i) = k * sumN n f := by
  induction n with
  | zero => show (0 : Int) = k * 0; rw [Int.mul_zero]
  | succ n ih => rw [sumN_succ, sumN_succ, ih, Int.mul_add]
theorem sumN_congr {n : Nat} {f g : Nat → Int} (h : ∀ i, i < n → f i = g i) : sumN n f = sumN n g :=
  Int.le_antisymm (sumN_le fun i hi => by rw [h i hi]; exact Int.le_refl _) (sumN_le fun i hi => by rw [h i hi]; exact Int.le_refl _)
theorem sumN_list (ps : List Int) : sumN ps.length (fun i => ps.getD i 0) = ps.sum := by
  unfold sumN
  congr 1
  refine List.ext_getElem? fun i => ?_
  by_cases h : i < ps.length
  · rw [List.getElem?_map, List.getElem?_range h, getD_of h]
    rfl
  · rw [List.getElem?_eq_none (by rw [List.length_map, List.length_range]; omega), List.getElem?_eq_none (by omega)]
theorem off_sum (t : Int) (ws ps : List Int) : off t ws ps = sumN ws.length fun i => ab (ps.getD i 0 * ws.sum - t * ws.getD i 0) := rfl
/-! ### one place -/
theorem ab_pos {x : Int} (h : 0 ≤ x) : ab x = x := by
  unfold ab
  rw [if_neg (by omega)]
theorem ab_neg {x : Int} (h : x ≤ 0) : ab x = -x := by
  unfold ab
  by_cases c : x < 0
  · rw [if_pos c]
  · rw [if_neg c]
    omega
/-- W the whole, r a rest, m the price of a penny -/
theorem one_place {W r m y : Int} (r0 : 0 ≤ r) (r1 : r < W) (m0 : -W < m) (m1 : m < W) :
    (r ≤ ab (y * W - r) - m * y ∨ W - r - m ≤ ab (y * W - r) - m * y) ∧
    (ab (y * W - r) - m * y ≤ r → ab (y * W - r) - m * y ≤ W - r - m → (y = 0 ∧ m ≤ W - 2 * r) ∨ (y = 1 ∧ W - 2 * r ≤ m)) := by
  by_cases h : y ≤ -1
  · have e1 : y * W ≤ -1 * W := Int.mul_le_mul_of_nonneg_right h (by omega)
    have e : ab (y * W - r) = r - y * W := by rw [ab_neg (by omega)]; omega
    have k : (-y) * (W + m) ≥ 1 * (W + m) := Int.mul_le_mul_of_nonneg_right (by omega) (by omega)
    have k2 : (-y) * (W + m) = -(y * W) - m * y := by rw [Int.mul_add, Int.neg_mul, Int.neg_mul, Int.mul_comm y m]; omega
    rw [e]
    exact ⟨.inl (by omega), fun a b => by omega⟩
  · by_cases h2 : 2 ≤ y
    · have e1 : 2 * W ≤ y * W := Int.mul_le_mul_of_nonneg_right h2 (by omega)
      have e : ab (y * W - r) = y * W - r := ab_pos (by omega)
      have k : (y - 1) * (W - m) ≥ 1 * (W - m) := Int.mul_le_mul_of_nonneg_right (by omega) (by omega)
      have k2 : (y - 1) * (W - m) = y * W - m * y - W + m := by rw [Int.sub_mul, Int.mul_sub, Int.one_mul, Int.mul_comm y m]; omega
      rw [e]
      exact ⟨.inr (by omega), fun a b => by omega⟩
    · have c : y = 0 ∨ y = 1 := by omega
      rcases c with rfl | rfl
      · have e : ab (0 * W - r) = r := by rw [Int.zero_mul, ab_neg (by omega)]; omega
        rw [e, Int.mul_zero]
        exact ⟨.inl (by omega), fun a b => .inl ⟨rfl, by omega⟩⟩
      · have e : ab (1 * W - r) = W - r := by rw [Int.one_mul]; exact ab_pos (by omega)
        rw [e, Int.mul_one]
        exact ⟨.inr (by omega), fun a b => .inr ⟨rfl, by omega⟩⟩
/-! ### the weights, the cuts, the rests by place -/
theorem getD_map {α : Type} (f : Int → Int) {ws : List Int} {i : Nat} (h : i < ws.length) : (ws.map f).getD i 0 = f (ws.getD i 0) := by
  rw [List.getD_eq_getElem?_getD, List.getElem?_map, getD_of h]
  rfl
theorem place {t : Int} {ws : List Int} (ok : OkW t ws) {i : Nat} (h : i < ws.length) :
    t * ws.getD i 0 = (lows t ws).getD i 0 * ws.sum + (rsts t ws).getD i 0 ∧ 0 ≤ (rsts t ws).getD i 0 ∧ (rsts t ws).getD i 0 < ws.sum := by
  have a : (lows t ws).getD i 0 = t * ws.getD i 0 / ws.sum := getD_map (α := Int) (fun w => t * w / ws.sum) h
  have b : (rsts t ws).getD i 0 = t * ws.getD i 0 - t * ws.getD i 0 / ws.sum * ws.sum := getD_map (α := Int) (fun w => t * w - t * w / ws.sum * ws.sum) h
  have s0 := ok.s0
  rw [a, b]
  refine ⟨by omega, ?_, ?_⟩
  · rw [rst_mod]
    exact Int.emod_nonneg _ (by omega)
  · rw [rst_mod]
    exact Int.emod_lt_of_pos _ s0
theorem step_at {t : Int} {ws : List Int} (ok : OkW t ws) (ps : List Int) {i : Nat} (h : i < ws.length) :
    ps.getD i 0 * ws.sum - t * ws.getD i 0 = (ps.getD i 0 - (lows t ws).getD i 0) * ws.sum - (rsts t ws).getD i 0 := by
  rw [(place ok h).1, Int.sub_mul]
  omega
/-- the price that a let split has -/
structure Price (t : Int) (ws ps : List Int) (m : Int) : Prop where
  lo : -ws.sum < m
  hi : m < ws.sum
  at_ : ∀ i, i < ws.length → (ps.getD i 0 = (lows t ws).getD i 0 ∧ m ≤ ws.sum - 2 * (rsts t ws).getD i 0) ∨ (ps.getD i 0 = (lows t ws).getD i 0 + 1 ∧ ws.sum - 2 * (rsts t ws).getD i 0 ≤ m)
theorem badC_no {ls ps : List Int} {i : Nat} (h : badC ls ps i = false) : ps.getD i 0 = ls.getD i 0 ∨ ps.getD i 0 = ls.getD i 0 + 1 := by
  have := of_decide_eq_false h
  omega
theorem shorts_mem {ls rs ps : List Int} {n : Nat} {r : Int} : r ∈ shorts ls rs ps n ↔ ∃ j, j < n ∧ ps.getD j 0 = ls.getD j 0 ∧ r = rs.getD j 0 := by
  unfold shorts
  rw [List.mem_map]
  constructor
  · rintro ⟨j, hj, rfl⟩
    rw [List.mem_filter, List.mem_range] at hj
    exact ⟨j, hj.1, of_decide_eq_true hj.2, rfl⟩
  · rintro ⟨j, hj, e, rfl⟩
    exact ⟨j, List.mem_filter.mpr ⟨List.mem_range.mpr hj, decide_eq_true e⟩, rfl⟩
theorem badR_no {ls rs ps : List Int} {i : Nat} (h : badR ls rs ps i = false) (c : ls.getD i 0 < ps.getD i 0) {j : Nat} (hj : j < ps.length) (e : ps.getD j 0 = ls.getD j 0) : rs.getD j 0 ≤ rs.getD i 0 := by
  unfold badR at h
  rw [decide_eq_true c, Bool.true_and, List.any_eq_false] at h
  have := h _ (shorts_mem.mpr ⟨j, hj, e, rfl⟩)
  have z : ¬ rs.getD i 0 < rs.getD j 0 := fun y => this (decide_eq_true y)
  omega
theorem exists_min (f : Nat → Int) : ∀ l : List Nat, l ≠ [] → ∃ a ∈ l, ∀ b ∈ l, f a ≤ f b
  | [], h => absurd rfl h
  | [a], _ => ⟨a, List.mem_cons_self, fun b hb => by rw [List.mem_singleton.mp hb]; exact Int.le_refl _⟩
  | a :: c :: l, _ => by
    obtain ⟨m, hm, le⟩ := exists_min f (c :: l) (by simp)
    by_cases h : f a ≤ f m
    · refine ⟨a, List.mem_cons_self, fun b hb => ?_⟩
      rcases List.mem_cons.mp hb with rfl | hb
      · exact Int.le_refl _
      · exact Int.le_trans h (le b hb)
    · refine ⟨m, List.mem_cons_of_mem _ hm, fun b hb => ?_⟩
      rcases List.mem_cons.mp hb with rfl | hb
      · omega
      · exact le b hb
theorem sum_rests {t : Int} {ws ps : List Int} (ok : OkW t ws) (pl : ps.length = ws.length) (es : ps.sum = t) :
    sumN ws.length (fun i => (rsts t ws).getD i 0) = ws.sum * sumN ws.length fun i => ps.getD i 0 - (lows t ws).getD i 0 := by
  have a : sumN ws.length (fun i => (rsts t ws).getD i 0) = (rsts t ws).sum := by rw [← sumN_list, rsts_len]
  have b : sumN ws.length (fun i => (lows t ws).getD i 0) = (lows t ws).sum := by rw [← sumN_list, lows_len]
  have c : sumN ws.length (fun i => ps.getD i 0) = ps.sum := by rw [← sumN_list, pl]
  rw [sumN_sub, a, b, c, es]
  show (ws.map fun w => t * w - t * w / ws.sum * ws.sum).sum = _
  rw [sum_rst, Int.mul_sub, Int.mul_comm ws.sum t, Int.mul_comm ws.sum]
  rfl
theorem has_price {t : Int} {ws ps : List Int} (ok : OkW t ws) (pl : ps.length = ws.length) (es : ps.sum = t) (h : passes t ws ps) : ∃ m, Price t ws ps m := by
  obtain ⟨hc, hr⟩ := h
  rw [pl] at hc hr
  have s0 := ok.s0
  have sr := sum_rests ok pl es
  by_cases u : (List.range ws.length).filter (fun i => decide ((lows t ws).getD i 0 < ps.getD i 0)) = []
  · have all : ∀ i, i < ws.length → ps.getD i 0 = (lows t ws).getD i 0 := fun i hi => by
      rcases badC_no (hc i hi) with z | z
      · exact z
      · have : i ∈ (List.range ws.length).filter (fun i => decide ((lows t ws).getD i 0 < ps.getD i 0)) := List.mem_filter.mpr ⟨List.mem_range.mpr hi, decide_eq_true (by omega)⟩
        rw [u] at this
        cases this
    have z0 : sumN ws.length (fun i => ps.getD i 0 - (lows t ws).getD i 0) = 0 := by
      rw [sumN_congr (g := fun _ => 0 * 0) fun i hi => by rw [all i hi]; omega, sumN_mul, Int.zero_mul]
    rw [z0, Int.mul_zero] at sr
    have rz := sumN_eq (n := ws.length) (f := fun _ => 0 * 0) (g := fun i => (rsts t ws).getD i 0) (fun i hi => by have := (place ok hi).2.1; omega) (by rw [sr, sumN_mul, Int.zero_mul]; exact Int.le_refl _)
    refine ⟨0, by omega, by omega, fun i hi => .inl ⟨all i hi, ?_⟩⟩
    have := rz i hi
    omega
  · obtain ⟨a, ha, le⟩ := exists_min (fun i => (rsts t ws).getD i 0) _ u
    rw [List.mem_filter, List.mem_range] at ha
    obtain ⟨al, ag⟩ := ha
    have ag : (lows t ws).getD a 0 < ps.getD a 0 := of_decide_eq_true ag
    obtain ⟨_, a0, a1⟩ := place ok al
    have short : ∀ j, j < ws.length → ps.getD j 0 = (lows t ws).getD j 0 → (rsts t ws).getD j 0 ≤ (rsts t ws).getD a 0 := fun j hj e => badR_no (hr a al) ag (by omega) e
    have pos : 0 < (rsts t ws).getD a 0 := Int.lt_of_not_ge fun z => by
      have e0 : (rsts t ws).getD a 0 = 0 := by omega
      have le1 : sumN ws.length (fun i => (rsts t ws).getD i 0) ≤ sumN ws.length fun i => (ws.sum - 1) * (ps.getD i 0 - (lows t ws).getD i 0) := sumN_le fun i hi => by
        obtain ⟨_, i0, i1⟩ := place ok hi
        rcases badC_no (hc i hi) with y | y
        · have := short i hi y
          rw [y, Int.sub_self, Int.mul_zero]
          omega
        · rw [y, show (lows t ws).getD i 0 + 1 - (lows t ws).getD i 0 = 1 by omega, Int.mul_one]
          omega
      rw [sumN_mul, sr, Int.sub_mul, Int.one_mul] at le1
      have pos1 : 1 ≤ sumN ws.length fun i => ps.getD i 0 - (lows t ws).getD i 0 := by
        have one : sumN ws.length (fun i => if i = a then 1 else 0) = 1 := by
          clear le1 sr short le u e0 z
          have : ∀ n, sumN n (fun i => if i = a then 1 else 0) = if a < n then 1 else 0 := by
            intro n
            induction n with
            | zero => rfl
            | succ n ih =>
              rw [sumN_succ, ih]
              by_cases c1 : a < n
              · rw [if_pos c1, if_neg (by omega), if_pos (by omega)]
                rfl
              · by_cases c2 : n = a
                · rw [if_neg c1, if_pos c2, if_pos (by omega)]
                  rfl
                · rw [if_neg c1, if_neg c2, if_neg (by omega)]
                  rfl
          rw [this, if_pos al]
        rw [← one]
        refine sumN_le fun i hi => ?_
        by_cases c : i = a
        · rw [if_pos c, c]
          omega
        · rw [if_neg c]
          rcases badC_no (hc i hi) with y | y <;> omega
      omega
    refine ⟨ws.sum - 2 * (rsts t ws).getD a 0, by omega, by omega, fun i hi => ?_⟩
    rcases badC_no (hc i hi) with y | y
    · have := short i hi y
      exact .inl ⟨y, by omega⟩
    · refine .inr ⟨y, ?_⟩
      have := le i (List.mem_filter.mpr ⟨List.mem_range.mpr hi, decide_eq_true (by omega)⟩)
      omega
theorem off_price {t : Int} {ws : List Int} (ok : OkW t ws) {qs : List Int} (ql : qs.length = ws.length) (es : qs.sum = t) (m : Int) :
    sumN ws.length (fun i => ab ((qs.getD i 0 - (lows t ws).getD i 0) * ws.sum - (rsts t ws).getD i 0) - m * (qs.getD i 0 - (lows t ws).getD i 0)) = off t ws qs - m * (t - (lows t ws).sum) := by
  rw [sumN_sub, sumN_mul, sumN_sub]
  have b : sumN ws.length (fun i => (lows t ws).getD i 0) = (lows t ws).sum := by rw [← sumN_list, lows_len]
  have c : sumN ws.length (fun i => qs.getD i 0) = qs.sum := by rw [← sumN_list, ql]
  rw [b, c, es, off_sum]
  congr 1
  exact sumN_congr fun i hi => by rw [step_at ok qs hi]
/-- none is less off than a let one; those as little off are let -/
theorem least {t : Int} {ws ps qs : List Int} (ok : OkW t ws) (pl : ps.length = ws.length) (ep : ps.sum = t) (h : passes t ws ps) (ql : qs.length = ws.length) (eq : qs.sum = t) :
    off t ws ps ≤ off t ws qs ∧ (off t ws qs ≤ off t ws ps → passes t ws qs) := by
  obtain ⟨m, pr⟩ := has_price ok pl ep h
  have ap := off_price ok pl ep m
  have aq := off_price ok ql eq m
  have each : ∀ i, i < ws.length → ab ((ps.getD i 0 - (lows t ws).getD i 0) * ws.sum - (rsts t ws).getD i 0) - m * (ps.getD i 0 - (lows t ws).getD i 0) ≤
      ab ((qs.getD i 0 - (lows t ws).getD i 0) * ws.sum - (rsts t ws).getD i 0) - m * (qs.getD i 0 - (lows t ws).getD i 0) := fun i hi => by
    obtain ⟨_, r0, r1⟩ := place ok hi
    obtain ⟨a, _⟩ := one_place (y := qs.getD i 0 - (lows t ws).getD i 0) r0 r1 pr.lo pr.hi
    rcases pr.at_ i hi with ⟨e, c⟩ | ⟨e, c⟩
    · rw [e, Int.sub_self, Int.zero_mul, Int.mul_zero, ab_neg (by omega)]
      rcases a with a | a <;> omega
    · rw [e, show (lows t ws).getD i 0 + 1 - (lows t ws).getD i 0 = 1 by omega, Int.one_mul, Int.mul_one, ab_pos (by omega)]
      rcases a with a | a <;> omega
  have tot := sumN_le each
  rw [ap, aq] at tot
  refine ⟨by omega, fun le => ?_⟩
  have same := sumN_eq each (by rw [ap, aq]; omega)
  have kind : ∀ i, i < ws.length → (qs.getD i 0 = (lows t ws).getD i 0 ∧ m ≤ ws.sum - 2 * (rsts t ws).getD i 0) ∨ (qs.getD i 0 = (lows t ws).getD i 0 + 1 ∧ ws.sum - 2 * (rsts t ws).getD i 0 ≤ m) := fun i hi => by
    obtain ⟨_, r0, r1⟩ := place ok hi
    obtain ⟨_, b⟩ := one_place (y := qs.getD i 0 - (lows t ws).getD i 0) r0 r1 pr.lo pr.hi
    have s := same i hi
    have b' := b (by
      rw [← s]
      rcases pr.at_ i hi with ⟨e, c⟩ | ⟨e, c⟩
      · rw [e, Int.sub_self, Int.zero_mul, Int.mul_zero, ab_neg (by omega)]
        omega
      · rw [e, show (lows t ws).getD i 0 + 1 - (lows t ws).getD i 0 = 1 by omega, Int.one_mul, Int.mul_one, ab_pos (by omega)]
        omega) (by
      rw [← s]
      rcases pr.at_ i hi with ⟨e, c⟩ | ⟨e, c⟩
      · rw [e, Int.sub_self, Int.zero_mul, Int.mul_zero, ab_neg (by omega)]
        omega
      · rw [e, show (lows t ws).getD i 0 + 1 - (lows t ws).getD i 0 = 1 by omega, Int.one_mul, Int.mul_one, ab_pos (by omega)]
        omega)
    rcases b' with ⟨e, c⟩ | ⟨e, c⟩
    · exact .inl ⟨by omega, c⟩
    · exact .inr ⟨by omega, c⟩
  refine ⟨fun i hi => ?_, fun i hi => ?_⟩
  · refine decide_eq_false ?_
    rcases kind i (by omega) with ⟨e, _⟩ | ⟨e, _⟩ <;> omega
  · unfold badR
    by_cases c : (lows t ws).getD i 0 < qs.getD i 0
    · rw [decide_eq_true c, Bool.true_and, List.any_eq_false]
      intro r hr
      obtain ⟨j, hj, e, rfl⟩ := shorts_mem.mp hr
      intro z
      have z : (rsts t ws).getD i 0 < (rsts t ws).getD j 0 := of_decide_eq_true z
      have ki := kind i (by omega)
      have kj := kind j (by omega)
      omega
    · rw [decide_eq_false c, Bool.false_and]
/-! ### the split itself is let -/
theorem sum_set : ∀ {l : List Int} {a : Nat} {v : Int}, a < l.length → (l.set a v).sum = l.sum - l.getD a 0 + v
  | [], a, v, h => by simp at h
  | x :: l, 0, v, h => by
    rw [List.set_cons_zero, List.sum_cons, List.sum_cons]
    show v + l.sum = x + l.sum - x + v
    omega
  | x :: l, a + 1, v, h => by
    rw [List.set_cons_succ, List.sum_cons, List.sum_cons, sum_set (by simpa using h)]
    show x + (l.sum - l.getD a 0 + v) = x + l.sum - l.getD a 0 + v
    omega
theorem sum_bump {ls rs : List Int} (e : ls.length = rs.length) : ∀ k, k ≤ rs.length → (bump ls ((ats rs).take k)).sum = ls.sum + k
  | 0, _ => by rw [List.take_zero, bump_nil]; simp
  | k + 1, h => by
    have kl : k < (ats rs).length := by
      rw [ats_len]
      omega
    have ea := List.getElem?_eq_getElem kl
    generalize (ats rs)[k] = b at ea
    have bl : b < ls.length := by
      have := ats_lt (List.mem_of_getElem? ea)
      omega
    have nb := take_not (ats_nodup _) ea
    have gb : (bump ls ((ats rs).take k)).getD b 0 = ls.getD b 0 := by
      rw [List.getD_eq_getElem?_getD, bump_get bl, if_neg nb, Int.add_zero]
      rfl
    rw [take_more ea, ← bump_more bl nb, sum_set (by rw [bump_len]; exact bl), gb, sum_bump e k (by omega)]
    push_cast
    omega
theorem parts_sum {t : Int} {ws : List Int} (ok : OkW t ws) : (parts t ws).sum = t := by
  obtain ⟨eo, lo⟩ := odd_at ok
  unfold parts
  rw [sum_bump (by rw [lows_len, rsts_len]) _ (by rw [rsts_len]; omega)]
  omega
theorem parts_pass {t : Int} {ws : List Int} (ok : OkW t ws) : passes t ws (parts t ws) := by
  have pl := parts_len t ws
  have ll := lows_len t ws
  have rl := rsts_len t ws
  have val : ∀ i, i < ws.length → (parts t ws).getD i 0 = (lows t ws).getD i 0 + if i ∈ (ats (rsts t ws)).take (odd t ws) then 1 else 0 := fun i hi => by
    unfold parts
    rw [List.getD_eq_getElem?_getD, bump_get (by omega)]
    rfl
  refine ⟨fun i hi => ?_, fun i hi => ?_⟩
  · refine decide_eq_false ?_
    rw [val i (by omega)]
    by_cases c : i ∈ (ats (rsts t ws)).take (odd t ws)
    · rw [if_pos c]
      omega
    · rw [if_neg c]
      omega
  · unfold badR
    by_cases c : (lows t ws).getD i 0 < (parts t ws).getD i 0
    · rw [decide_eq_true c, Bool.true_and, List.any_eq_false]
      intro r hr z
      obtain ⟨j, hj, e, rfl⟩ := shorts_mem.mp hr
      have z : (rsts t ws).getD i 0 < (rsts t ws).getD j 0 := of_decide_eq_true z
      rw [val i (by omega)] at c
      rw [val j (by omega)] at e
      have im : i ∈ (ats (rsts t ws)).take (odd t ws) := Decidable.byContradiction fun y => by
        rw [if_neg y] at c
        omega
      have jn : j ∉ (ats (rsts t ws)).take (odd t ws) := fun y => by
        rw [if_pos y] at e
        omega
      obtain ⟨k, hk⟩ := List.mem_iff_getElem?.mp im
      have kl := (List.getElem?_eq_some_iff.mp hk).1
      rw [List.length_take] at kl
      rw [List.getElem?_take, if_pos (by omega)] at hk
      have jn2 : j ∉ (ats (rsts t ws)).take k := fun y => jn (by
        obtain ⟨x, hx⟩ := List.mem_iff_getElem?.mp y
        have xl := (List.getElem?_eq_some_iff.mp hx).1
        rw [List.length_take] at xl
        rw [List.getElem?_take, if_pos (by omega)] at hx
        refine List.mem_iff_getElem?.mpr ⟨x, ?_⟩
        rw [List.getElem?_take, if_pos (by omega)]
        exact hx)
      have := leR_iff.mp (ats_first hk (by omega) jn2)
      omega
    · rw [decide_eq_false c, Bool.false_and]
/-! ### all rows -/
def pr (t : Int) : List Int := (List.range (t + 3).toNat).map fun k : Nat => -1 + (k : Int)
def ext (t : Int) (r : List Int) : List (List Int) := (pr t).map fun p => r ++ [p]
def rowsN (t : Int) : Nat → List (List Int)
  | 0 => [[]]
  | i + 1 => (rowsN t i).flatMap (ext t)
def allR (n : Nat) (t : Int) : List (List Int) := (rowsN t (n - 1)).map fun r => r ++ [t - r.sum]
theorem pr_len (t : Int) : (pr t).length = (t + 3).toNat := by
  unfold pr
  rw [List.length_map, List.length_range]
theorem ext_len (t : Int) (r : List Int) : (ext t r).length = (t + 3).toNat := by
  unfold ext
  rw [List.length_map, pr_len]
theorem flat_len (t : Int) : ∀ rs : List (List Int), (rs.flatMap (ext t)).length = rs.length * (t + 3).toNat
  | [] => by simp
  | r :: rs => by
    rw [List.flatMap_cons, List.length_append, flat_len t rs, ext_len, List.length_cons, Nat.add_mul]
    omega
theorem rowsN_len (t : Int) : ∀ i, (rowsN t i).length = (t + 3).toNat ^ i
  | 0 => by simp [rowsN]
  | i + 1 => by
    show ((rowsN t i).flatMap (ext t)).length = _
    rw [flat_len, rowsN_len t i, Nat.pow_succ]
theorem rowsN_row (t : Int) : ∀ i, ∀ r ∈ rowsN t i, r.length = i
  | 0, r, h => by
    rw [List.mem_singleton.mp h]
    rfl
  | i + 1, r, h => by
    obtain ⟨q, hq, hr⟩ := List.mem_flatMap.mp h
    obtain ⟨p, _, rfl⟩ := List.mem_map.mp hr
    rw [List.length_append, rowsN_row t i q hq]
    rfl
theorem rowsN_mem {t : Int} (t0 : 0 ≤ t) : ∀ i (r : List Int), r.length = i → (∀ p ∈ r, -1 ≤ p ∧ p ≤ t + 1) → r ∈ rowsN t i
  | 0, r, h, _ => by
    rw [List.length_eq_zero_iff.mp h]
    exact List.mem_singleton.mpr rfl
  | i + 1, r, h, hp => by
    rcases List.eq_nil_or_concat r with z | ⟨q, p, rfl⟩
    · rw [z] at h
      cases h
    · rw [List.concat_eq_append] at h hp ⊢
      rw [List.length_append] at h
      refine List.mem_flatMap.mpr ⟨q, rowsN_mem t0 i q (by simpa using h) (fun x hx => hp x (List.mem_append_left _ hx)), List.mem_map.mpr ⟨p, ?_, rfl⟩⟩
      obtain ⟨a, b⟩ := hp p (List.mem_append_right _ (List.mem_singleton.mpr rfl))
      exact List.mem_map.mpr ⟨(p + 1).toNat, List.mem_range.mpr (by omega), by omega⟩
theorem allR_row {n : Nat} {t : Int} (n0 : 0 < n) {r : List Int} (h : r ∈ allR n t) : r.length = n ∧ r.sum = t := by
  obtain ⟨q, hq, rfl⟩ := List.mem_map.mp h
  have := rowsN_row t _ q hq
  refine ⟨?_, ?_⟩
  · rw [List.length_append, this]
    show n - 1 + 1 = n
    omega
  · rw [List.sum_append]
    simp
    omega
theorem allR_mem {n : Nat} {t : Int} (t0 : 0 ≤ t) (n0 : 0 < n) {r : List Int} (h : r.length = n) (e : r.sum = t) (hp : ∀ p ∈ r, -1 ≤ p ∧ p ≤ t + 1) : r ∈ allR n t := by
  rcases List.eq_nil_or_concat r with z | ⟨q, p, rfl⟩
  · rw [z] at h
    simp at h
    omega
  · rw [List.concat_eq_append] at h hp e ⊢
    rw [List.length_append] at h
    have hq : q.length = n - 1 := by
      have : q.length + 1 = n := h
      omega
    refine List.mem_map.mpr ⟨q, rowsN_mem t0 _ q hq fun x hx => hp x (List.mem_append_left _ hx), ?_⟩
    rw [List.sum_append] at e
    have : t - q.sum = p := by
      simp at e
      omega
    rw [this]
theorem few {n : Nat} {t : Int} (t0 : 0 ≤ t) (h : (n ≤ 3 ∧ t ≤ 4) ∨ (n ≤ 4 ∧ t ≤ 2)) {i : Nat} (hi : i ≤ n - 1) : (t + 3).toNat ^ i ≤ 125 := by
  rcases h with ⟨a, b⟩ | ⟨a, b⟩
  · exact Nat.le_trans (Nat.pow_le_pow_left (show (t + 3).toNat ≤ 7 by omega) i) (Nat.le_trans (Nat.pow_le_pow_right (by decide) (show i ≤ 2 by omega)) (by decide))
  · exact Nat.le_trans (Nat.pow_le_pow_left (show (t + 3).toNat ≤ 5 by omega) i) (Nat.le_trans (Nat.pow_le_pow_right (by decide) (show i ≤ 3 by omega)) (by decide))
theorem allR_parts {t : Int} {ws : List Int} (ok : OkW t ws) : parts t ws ∈ allR ws.length t := by
  refine allR_mem ok.t0 ok.n0 (parts_len t ws) (parts_sum ok) fun p hp => ?_
  unfold parts K09.bump at hp
  obtain ⟨i, hi, rfl⟩ := List.mem_map.mp hp
  have hl := List.mem_range.mp hi
  have g := getD_of hl
  have m := List.mem_of_getElem? g
  unfold lows at m
  obtain ⟨w, hw, e⟩ := List.mem_map.mp m
  obtain ⟨a, b⟩ := low_bound ok hw
  unfold lows
  rw [← e]
  by_cases c : i ∈ List.take (odd t ws) (ats (rsts t ws))
  · rw [if_pos c]
    omega
  · rw [if_neg c]
    omega
end K13

set_option Elab.async false
set_option linter.all false
set_option maxRecDepth 100000
set_option maxHeartbeats 1000000
namespace TB
open PySem PySem.Spec PyProof.Rows L2

/-! ### isinstance of a caught error that has fields -/
structure IsC (K : PySem.W.Frag) (D : Addr) : Prop where
  cl : (PySem.W.clsIn K D).isSome = true
  ga : PySem.W.findIn K (.ref D) "__getattribute__" = some (some (.builtin "BaseException.__getattribute__"))
  gg : PySem.W.findIn K (.ref D) "__getattr__" = some none
  sb : PySem.W.subIn K (.ref D) (.type "BaseException") = some true
  ca : PySem.W.findIn K (.ref D) "__class__" = some (some (.builtin "object.__class__"))
  gt : PySem.W.specialIn K (.builtin "object.__class__") "__get__" = some (some (.builtin "getset_descriptor.__get__"))
  tk : PySem.W.takesIn K (.builtin "object.__class__") = some true
  mr : PySem.W.mroIn K D (.type "object") = some true
/-- one class -/
def rIsX (K : PySem.W.Frag) (a : Addr) (cls : Value) (d : Option Addr) : List V → Hp → VK → Prop := fun xs H Q => ∃ (D dd : Addr) (fs : List (Str × V)) (c : V) (cv : Value) (b : Bool),
  xs = [.ref a, c] ∧ cls = .ref D ∧ d = some dd ∧ H dd = some (.xd fs) ∧ IsC K D ∧ ClsV c cv ∧ PySem.W.kitOne K (.ref D) cv = some b ∧ Q (.bl b) H
/-- a tuple of classes, just laid -/
def rIsXT (K : PySem.W.Frag) (a : Addr) (cls : Value) (d : Option Addr) : List V → Hp → VK → Prop := fun xs H Q => ∃ (D dd tp : Addr) (fs : List (Str × V)) (cs : List V) (us : List Value) (b : Bool),
  xs = [.ref a, .ref tp] ∧ cls = .ref D ∧ d = some dd ∧ H dd = some (.xd fs) ∧ IsC K D ∧ H tp = some (.tup cs) ∧ Paired ClsV cs us ∧ PySem.W.kitAny K (.ref D) us = some b ∧ Q (.bl b) H
section
variable {X : Cx} {a : Addr} {oe : Obj} {cls : Value} {d : Option Addr} {pn : List (Addr × Obj)}
theorem inst_x {pins : List (Addr × Obj)} {s : Shared} {σ : L2.St} {H : Hp} {D dd : Addr} {fs : List (Str × V)} (hz : Zc (.ref D) (some dd) oe) (hf : ∃ vs, oe.data = .fields vs) (I : Inv (X.suite a ((a, oe) :: pn)) pins σ H s) (ed : H dd = some (.xd fs)) :
    ∃ od, PySem.W.InstAt s.heap a oe D (some od) := by
  obtain ⟨at_a, _⟩ := I.pin (a, oe) (List.mem_append_left _ List.mem_cons_self)
  obtain ⟨vs, hv⟩ := hf
  have ox : ObjOk X.prog X.w H s.heap dd (.xd fs) := I.hok dd _ ed
  obtain ⟨mA, ns, _⟩ := ox
  obtain ⟨od, ho, _⟩ := lookIn_ns ns
  refine ⟨od, at_a, hz.1, ?_, ?_⟩
  · unfold PySem.W.notCls
    rw [hv] <;> rfl
  · rw [hz.2]
    exact ho
theorem call_isX (hz : Zc cls d oe) (hf : ∃ vs, oe.data = .fields vs) : CallR (X.suite a ((a, oe) :: pn)) (.builtin "isinstance") (rIsX X.K a cls d) := by
  intro pins s σ H xs us Q I r h
  obtain ⟨D, dd, fs, c, cv, b, rfl, rfl, rfl, ed, C, kc, e, q⟩ := h
  obtain ⟨u1, u2, rfl, r1, r2⟩ := vals2 r
  cases (show u1 = Value.ref a from r1)
  obtain rfl := kc.eq r2
  obtain ⟨od, J⟩ := inst_x hz hf I ed
  exact PySem.W.kia_one (PySem.W.kitx_exc C.cl C.ga C.gg C.sb C.ca C.gt C.tk C.mr) I.kIn J e (fun z => nomatch z) fun tk => ⟨.bl b, H, I.tok tk, rfl, q⟩
theorem call_isXT (hz : Zc cls d oe) (hf : ∃ vs, oe.data = .fields vs) : CallR (X.suite a ((a, oe) :: pn)) (.builtin "isinstance") (rIsXT X.K a cls d) := by
  intro pins s σ H xs us Q I r h
  obtain ⟨D, dd, tp, fs, cs, ws, b, rfl, rfl, rfl, ed, C, hT, kc, e, q⟩ := h
  obtain ⟨u1, u2, rfl, r1, r2⟩ := vals2 r
  cases (show u1 = Value.ref a from r1)
  cases (show u2 = Value.ref tp from r2)
  obtain ⟨od, J⟩ := inst_x hz hf I ed
  obtain ⟨_, its, rv, o, h1, h2, n, h3⟩ := (show ObjOk X.prog X.w H s.heap tp (.tup cs) from I.hok tp _ hT)
  obtain rfl := ClsV.all kc rv
  obtain ⟨oc, od2, dt, sl⟩ := o
  simp only at h2 h3
  subst h2 h3
  exact PySem.W.kia_tup (PySem.W.kitx_exc C.cl C.ga C.gg C.sb C.ca C.gt C.tk C.mr) I.kIn J h1 e (fun z => nomatch z) fun tk => ⟨.bl b, H, I.tok tk, rfl, q⟩
end
end TB

set_option Elab.async false
set_option linter.all false
set_option maxRecDepth 100000
set_option maxHeartbeats 1000000
namespace TB
open PySem PySem.Spec PyProof.Rows L2

/-! ### numbers and truths in sums -/
theorem gives_neg_bool (a : Bool) : Gives (Builtin.«int.__neg__» ⟨[.bool a], []⟩) (.int (-(if a = true then (1 : Int) else 0))) :=
  .of_wp fun M A E s Q h => by
    obtain ⟨hp, g, d, tk, os⟩ := s
    wp_walk
    exact ⟨_, rfl, h⟩
theorem neg_bool {prog : Program} {w : World} {A : Around} {E : Value → Shared → Prop} {s : Shared} {a : Bool} {Q : Value → Shared → Prop} (h : Q (.int (-(if a = true then (1 : Int) else 0)) s.toks) { s with toks := s.toks + 1 }) :
    wpAny (model prog w) A (unaryOp .USub (.bool a)) Q E s :=
  unaryOp_gives (op := .USub) (typeIs_bool' s a) rfl F.slot_bool_neg F.entry_int_neg (F.args_int_neg_1 _) (gives_neg_bool a) h
/-- the number that stands behind a number or a truth -/
inductive Nm : V → Int → Prop
  | int (i : Int) : Nm (.int i) i
  | bl (b : Bool) : Nm (.bl b) (if b = true then 1 else 0)
def rAddN : R2 := fun x y H Q => ∃ i j, Nm x i ∧ y = .int j ∧ Q (.int (i + j)) H
def rSubN : R2 := fun x y H Q => ∃ i j, Nm x i ∧ y = .int j ∧ Q (.int (i - j)) H
def rNegN : V → Hp → VK → Prop := fun x H Q => ∃ i, Nm x i ∧ Q (.int (-i)) H
section
variable {X : Cx}
theorem op_addN : OpR X (binaryOp .Add) rAddN := by
  intro pins s σ H x y v u Q I rx ry h
  obtain ⟨i, j, n, rfl, q⟩ := h
  cases n with
  | int i => exact op_add pins s σ H _ _ v u Q I rx ry ⟨i, j, rfl, rfl, q⟩
  | bl b =>
    obtain ⟨t, rfl⟩ := ry
    cases (show v = Value.bool b from rx)
    exact PySem.IntBool.add_bool_int ⟨.int _, H, I.tok _, ⟨_, rfl⟩, q⟩
theorem op_subN : OpR X (binaryOp .Sub) rSubN := by
  intro pins s σ H x y v u Q I rx ry h
  obtain ⟨i, j, n, rfl, q⟩ := h
  cases n with
  | int i => exact op_sub pins s σ H _ _ v u Q I rx ry ⟨i, j, rfl, rfl, q⟩
  | bl b =>
    obtain ⟨t, rfl⟩ := ry
    cases (show v = Value.bool b from rx)
    exact PySem.IntBool.sub_bool_int ⟨.int _, H, I.tok _, ⟨_, rfl⟩, q⟩
theorem un_negN : UnR X (unaryOp .USub) rNegN := by
  intro pins s σ H x v Q I rx h
  obtain ⟨i, n, q⟩ := h
  cases n with
  | int i => exact un_neg pins s σ H _ v Q I rx ⟨i, rfl, q⟩
  | bl b =>
    cases (show v = Value.bool b from rx)
    exact neg_bool ⟨.int _, H, I.tok _, ⟨_, rfl⟩, q⟩
end
end TB

set_option Elab.async false
set_option linter.all false
set_option maxRecDepth 100000
set_option maxHeartbeats 1000000
namespace TB
open PySem PySem.Spec PyProof.Rows L2

/-! ### how large a thing is, and what stands at its ends -/
def asc (z : Str) : Prop := ∀ c ∈ z.cps.toList, c < 128
theorem asc_app {x y : Str} (hx : asc x) (hy : asc y) : asc (x ++ y) := fun c hc => by
  have e : (x ++ y).cps.toList = x.cps.toList ++ y.cps.toList := Array.toList_append
  rw [e] at hc
  rcases List.mem_append.mp hc with h | h
  · exact hx c h
  · exact hy c h
theorem asc_cut {z : Str} (hz : asc z) (lo hi : Option Int) : asc (cutS z lo hi) := fun c hc => hz c (List.mem_of_mem_drop (List.mem_of_mem_take hc))
theorem cutS_len (z : Str) (lo hi : Option Int) : (cutS z lo hi).length ≤ z.length := by
  show (List.toArray _).size ≤ _
  rw [List.size_toArray, List.length_take, List.length_drop]
  have : z.cps.toList.length = z.length := Array.length_toList
  omega
mutual
def sz : PyData → Nat
  | .tuple xs => 1 + szs xs
  | .list xs => 1 + szs xs
  | _ => 1
def szs : List PyData → Nat
  | [] => 0
  | x :: xs => sz x + szs xs
end
mutual
def Ats (j : Nat) : PyData → Prop
  | .none => True
  | .bool _ => True
  | .int i => i.natAbs < 2 ^ (700 + j)
  | .str z => asc z ∧ z.length ≤ 20 + j
  | .tuple xs => AtsL j xs
  | .list xs => AtsL j xs
  | .dict _ => False
def AtsL (j : Nat) : List PyData → Prop
  | [] => True
  | x :: xs => Ats j x ∧ AtsL j xs
end
theorem atsL_iff {j : Nat} : ∀ {ds : List PyData}, AtsL j ds ↔ ∀ d ∈ ds, Ats j d
  | [] => ⟨fun _ d h => (by cases h), fun _ => by simp [AtsL]⟩
  | d :: ds => by
    simp only [AtsL, List.mem_cons, forall_eq_or_imp]
    rw [atsL_iff (ds := ds)]
theorem Ats.tup {j : Nat} {ds : List PyData} : Ats j (.tuple ds) ↔ ∀ d ∈ ds, Ats j d := by
  simp only [Ats]
  exact atsL_iff
theorem Ats.lst {j : Nat} {ds : List PyData} : Ats j (.list ds) ↔ ∀ d ∈ ds, Ats j d := by
  simp only [Ats]
  exact atsL_iff
mutual
theorem Ats.mono {i j : Nat} (h : i ≤ j) : ∀ (d : PyData), Ats i d → Ats j d
  | .none, _ => by simp [Ats]
  | .bool _, _ => by simp [Ats]
  | .int n, a => by
    simp only [Ats] at a ⊢
    exact Nat.lt_of_lt_of_le a (Nat.pow_le_pow_right (by decide) (by omega))
  | .str z, a => by
    simp only [Ats] at a ⊢
    exact ⟨a.1, by omega⟩
  | .tuple xs, a => by
    simp only [Ats] at a ⊢
    exact AtsL.mono h xs a
  | .list xs, a => by
    simp only [Ats] at a ⊢
    exact AtsL.mono h xs a
  | .dict _, a => by simp [Ats] at a
theorem AtsL.mono {i j : Nat} (h : i ≤ j) : ∀ (ds : List PyData), AtsL i ds → AtsL j ds
  | [], _ => by simp [AtsL]
  | d :: ds, a => by
    simp only [AtsL] at a ⊢
    exact ⟨Ats.mono h d a.1, AtsL.mono h ds a.2⟩
end
theorem sz_pos (d : PyData) : 1 ≤ sz d := by
  cases d <;> simp [sz]
theorem szs_app : ∀ (a b : List PyData), szs (a ++ b) = szs a + szs b
  | [], b => by simp [szs]
  | x :: a, b => by
    simp only [List.cons_append, szs, szs_app a b]
    omega
theorem szs_drop : ∀ (n : Nat) (ds : List PyData), szs (ds.drop n) ≤ szs ds
  | 0, ds => Nat.le_refl _
  | n + 1, [] => Nat.le_refl _
  | n + 1, x :: ds => by
    have := szs_drop n ds
    simp only [List.drop_succ_cons, szs]
    omega
theorem szs_take : ∀ (n : Nat) (ds : List PyData), szs (ds.take n) ≤ szs ds
  | 0, ds => by simp [szs]
  | n + 1, [] => Nat.le_refl _
  | n + 1, x :: ds => by
    have := szs_take n ds
    simp only [List.take_succ_cons, szs]
    omega
theorem szs_cut (ds : List PyData) (lo hi : Option Int) : szs (cutD ds lo hi) ≤ szs ds := by
  unfold cutD
  exact Nat.le_trans (szs_take _ _) (szs_drop _ _)
theorem szs_mem : ∀ {ds : List PyData} {d : PyData}, d ∈ ds → sz d ≤ szs ds
  | x :: ds, d, h => by
    simp only [szs]
    rcases List.mem_cons.mp h with rfl | h
    · omega
    · have := szs_mem h
      omega
theorem szs_len : ∀ (ds : List PyData), ds.length ≤ szs ds
  | [] => Nat.le_refl _
  | x :: ds => by
    have := szs_len ds
    have := sz_pos x
    simp only [szs, List.length_cons]
    omega
theorem sz_tup (ds : List PyData) : sz (.tuple ds) = 1 + szs ds := by simp [sz]
theorem sz_lst (ds : List PyData) : sz (.list ds) = 1 + szs ds := by simp [sz]
theorem dep_tup (ds : List PyData) : PyData.depth (.tuple ds) = PyData.depthAll ds + 1 := by simp only [PyData.depth]
theorem dep_lst (ds : List PyData) : PyData.depth (.list ds) = PyData.depthAll ds + 1 := by simp only [PyData.depth]
theorem dep_all {k : Nat} : ∀ {ds : List PyData}, PyData.depthAll ds ≤ k ↔ ∀ d ∈ ds, PyData.depth d ≤ k
  | [] => ⟨fun _ d h => (by cases h), fun _ => by simp [PyData.depthAll]⟩
  | x :: ds => by
    simp only [PyData.depthAll, List.mem_cons, forall_eq_or_imp]
    rw [← dep_all (ds := ds)]
    omega
theorem sh_big {i : Int} (h : i.natAbs < 2 ^ 1900) : Sh 0 1921 (.int i) := by
  have hl : i.natAbs.log2 < 1920 := by
    by_cases h0 : i.natAbs = 0
    · rw [h0]; decide
    · exact (Nat.log2_lt h0).2 (Nat.lt_of_lt_of_le h (Nat.pow_le_pow_right (by decide) (by decide)))
  refine ⟨by simp only [PyData.showable, decide_eq_true_eq]; exact hl, by simp only [PyData.hasDict], by simp [PyData.depth], ?_⟩
  simp only [PyData.shown]
  exact int_text_len_1921 hl
theorem sh_txt {z : Str} (a : asc z) : Sh 0 (10 * z.length + 2) (.str z) := by
  refine ⟨rfl, rfl, by simp [PyData.depth], ?_⟩
  simp only [PyData.shown]
  exact StrLaws.reprText_len z fun c hc => Nat.lt_of_lt_of_le (a c hc) (by decide)
mutual
theorem ats_sh {j : Nat} (hj : j ≤ 100) : ∀ d : PyData, Ats j d → d.showable = true ∧ d.hasDict = false ∧ d.shown.length + 10 ≤ 2000 * sz d ∧ PyData.canLay0 d = true
  | .none, _ => by
    refine ⟨rfl, rfl, ?_, rfl⟩
    simp only [sz]
    decide
  | .bool b, _ => by
    refine ⟨rfl, rfl, ?_, rfl⟩
    simp only [sz]
    cases b <;> decide
  | .int i, a => by
    simp only [Ats] at a
    have s := sh_big (Nat.lt_of_lt_of_le a (Nat.pow_le_pow_right (show 0 < 2 by decide) (show 700 + j ≤ 1900 by omega)))
    refine ⟨s.sh, s.nd, ?_, rfl⟩
    have := s.ln
    simp only [sz]
    omega
  | .str z, a => by
    simp only [Ats] at a
    have s := sh_txt a.1
    refine ⟨s.sh, s.nd, ?_, ?_⟩
    · have := s.ln
      simp only [sz]
      omega
    · show PyData.strOk z = true
      unfold PyData.strOk
      simp only [Array.all_eq_true, Bool.and_eq_true]
      first
        | (intro i hi
           have := a.1 z.cps[i] (by simp)
           simp
           omega)
        | (have h := a.1
           simp
           omega)
  | .tuple xs, a => by
    simp only [Ats] at a
    obtain ⟨p, q, r, s, t⟩ := ats_shs hj xs a
    refine ⟨by simp only [PyData.showable, p], by simp only [PyData.hasDict, q], ?_, by simp only [PyData.canLay0, t]⟩
    simp only [PyData.shown, sz]
    have := tupleText_len_le (PyData.shownAll xs)
    rw [s] at this
    omega
  | .list xs, a => by
    simp only [Ats] at a
    obtain ⟨p, q, r, s, t⟩ := ats_shs hj xs a
    refine ⟨by simp only [PyData.showable, p], by simp only [PyData.hasDict, q], ?_, by simp only [PyData.canLay0, t]⟩
    simp only [PyData.shown, sz]
    have := listText_len_le (PyData.shownAll xs)
    rw [s] at this
    omega
  | .dict _, a => by simp [Ats] at a
theorem ats_shs {j : Nat} (hj : j ≤ 100) : ∀ ds : List PyData, AtsL j ds → PyData.showableAll ds = true ∧ PyData.hasDictAll ds = false ∧ ((PyData.shownAll ds).map (·.length)).sum + 10 * ds.length ≤ 2000 * szs ds ∧ (PyData.shownAll ds).length = ds.length ∧ PyData.canLayAll0 ds = true
  | [], _ => by simp [PyData.showableAll, PyData.hasDictAll, PyData.shownAll, szs, PyData.canLayAll0]
  | d :: ds, a => by
    simp only [AtsL] at a
    obtain ⟨p, q, r, s⟩ := ats_sh hj d a.1
    obtain ⟨p', q', r', s', t'⟩ := ats_shs hj ds a.2
    refine ⟨by simp only [PyData.showableAll, p, p', Bool.and_self], by simp only [PyData.hasDictAll, q, q', Bool.or_self], ?_, by simp only [PyData.shownAll, List.length_cons, s'], by simp only [PyData.canLayAll0, s, t', Bool.and_self]⟩
    simp only [PyData.shownAll, List.map_cons, List.sum_cons, szs, List.length_cons]
    omega
end
/-- of this size, this depth, with such ends -/
structure Fit (m k j : Nat) (d : PyData) : Prop where
  sz : sz d ≤ m
  dp : PyData.depth d ≤ k
  at_ : Ats j d
theorem Fit.mono {m m' k k' j j' : Nat} {d : PyData} (h : Fit m k j d) (a : m ≤ m') (b : k ≤ k') (c : j ≤ j') : Fit m' k' j' d := ⟨Nat.le_trans h.sz a, Nat.le_trans h.dp b, Ats.mono c d h.at_⟩
theorem Fit.sh {m k j : Nat} {d : PyData} (h : Fit m k j d) (hj : j ≤ 100) : Sh k (2000 * m) d := by
  obtain ⟨a, b, c, _⟩ := ats_sh hj d h.at_
  have := h.sz
  exact ⟨a, b, h.dp, by omega⟩
theorem Fit.shaped {m k j : Nat} {d : PyData} (h : Fit m k j d) (hj : j ≤ 100) (hk : k ≤ 60) : SeqAt.shaped d = true := by
  obtain ⟨_, _, _, a⟩ := ats_sh hj d h.at_
  have := h.dp
  unfold SeqAt.shaped
  rw [a, decide_eq_true (by omega)]
  rfl
theorem Fit.mem {m k j : Nat} {ds : List PyData} {d : PyData} (h : Fit m (k + 1) j (.tuple ds)) (hm : d ∈ ds) : Fit m k j d := by
  refine ⟨?_, ?_, Ats.tup.mp h.at_ d hm⟩
  · have := h.sz
    rw [sz_tup] at this
    have := szs_mem hm
    omega
  · have := h.dp
    rw [dep_tup] at this
    exact dep_all.mp (show PyData.depthAll ds ≤ k by omega) d hm
theorem fit_tup {m k j : Nat} {ds : List PyData} (hs : szs ds ≤ m) (h : ∀ d ∈ ds, PyData.depth d ≤ k ∧ Ats j d) : Fit (m + 1) (k + 1) j (.tuple ds) :=
  ⟨by rw [sz_tup]; omega, by rw [dep_tup]; have := dep_all.mpr fun d hd => (h d hd).1; omega, Ats.tup.mpr fun d hd => (h d hd).2⟩
theorem fit_lst {m k j : Nat} {ds : List PyData} (hs : szs ds ≤ m) (h : ∀ d ∈ ds, PyData.depth d ≤ k ∧ Ats j d) : Fit (m + 1) (k + 1) j (.list ds) :=
  ⟨by rw [sz_lst]; omega, by rw [dep_lst]; have := dep_all.mpr fun d hd => (h d hd).1; omega, Ats.lst.mpr fun d hd => (h d hd).2⟩
theorem dep_ints (ns : List Int) : ∀ d ∈ dInts ns, PyData.depth d = 0 := fun d hd => by
  obtain ⟨i, _, rfl⟩ := List.mem_map.mp hd
  simp [PyData.depth]
theorem szs_ints : ∀ ns : List Int, szs (dInts ns) = ns.length
  | [] => rfl
  | n :: ns => by
    show sz (.int n) + szs (dInts ns) = _
    rw [szs_ints ns]
    simp [sz]
    omega
theorem fit_ints {ns : List Int} {m j : Nat} (hl : ns.length ≤ m) (h : ∀ n ∈ ns, n.natAbs < 2 ^ (700 + j)) : Fit (m + 1) 1 j (.tuple (dInts ns)) :=
  fit_tup (by rw [szs_ints]; exact hl) fun d hd => ⟨by rw [dep_ints ns d hd]; exact Nat.le_refl _, by
    obtain ⟨i, hi, rfl⟩ := List.mem_map.mp hd
    simp only [Ats]
    exact h i hi⟩
end TB

set_option Elab.async false
set_option linter.all false
set_option maxRecDepth 100000
set_option maxHeartbeats 2000000
namespace TB
open PySem PySem.Spec PyProof.Rows L2 PySem.AutoSeq1

/-! ### a list made longer by a tuple's things -/
set_option maxRecDepth 8000 in
theorem ext_tup (l t : Addr) (xs ys : Array Value) (n m : Nat) (dd : Option Addr) (sl : Array (Option Value)) (c0 : ¬(!xs.isEmpty && Builtin.List.listTooLong (xs.size + ys.size)) = true) (c1 : xs.size ≤ sizeLine) (c2 : xs.size + ys.size ≤ sizeLine + 1) :
    Meets (Builtin.«list.extend» ⟨[.ref l, .ref t], []⟩) (fun _ R s => s.heap.get? l = some { cls := .type "list", dict := none, data := .seq xs n, slots := #[] } ∧ s.heap.get? t = some { cls := .type "tuple", dict := dd, data := .seq ys m, slots := sl } ∧ R (.ok (.ret Value.none)) { s with heap := s.heap.update l (Obj.mapSeq fun x => x ++ ys), toks := s.toks }) :=
  .of_wp fun prog w A R s h => by
    obtain ⟨hp, g, d, tk, os⟩ := s
    obtain ⟨a1, a2, h⟩ := h
    have f1 := idx_int
    have f2 := AutoSeq1.sub_tuple_tuple
    have f3 := AutoSeq1.sub_list_list
    have f4 := AutoSeq1.sub_tuple_list
    have f5 := AutoSeq1.sub_list_tuple
    have z' : (xs ++ ys).size ≤ sizeLine + 1 := by rw [Array.size_append]; exact c2
    wp_walk using (wpAny_updateSeq a1 rfl (hz := c1) (_hz' := z')), wpAny_loadPart' a1, wpAny_loadPart' a2
    exact ⟨_, rfl, h⟩
section
variable {X : Cx}
def rExtT (K : PySem.W.Frag) : V → List V → Hp → VK → Prop := fun x vs H Q => ∃ l t xs zs, x = .ref l ∧ vs = [.ref t] ∧ H l = some (.lst xs) ∧ SqT K H t zs ∧ xs.length + zs.length ≤ sizeLine ∧ Q .non (upd H l (.lst (xs ++ zs)))
theorem mt_extendT : MtM X "list.extend" (rExtT X.K) := by
  intro pins s σ H x vs v us Q I rx rv h
  obtain ⟨l, t, xs, zs, rfl, rfl, hH, hB, hz, q⟩ := h
  cases rx
  obtain ⟨u, rfl, ru⟩ := rv.one
  cases ru
  obtain ⟨z, its, n, r, hl, e⟩ := I.lstM hH
  obtain ⟨its2, r2, ⟨o2, e2, k2, n2, d2⟩, z2⟩ := I.tuple hB
  obtain ⟨oc, od, oda, osl⟩ := o2
  cases k2
  cases d2
  have l2 := r2.length
  have fits : its.toArray.size + its2.toArray.size ≤ sizeLine := by
    rw [List.size_toArray, List.size_toArray]
    omega
  have short : ¬ (!its.toArray.isEmpty && Builtin.List.listTooLong (its.toArray.size + its2.toArray.size)) = true := fun y => by
    rw [notLongL fits, Bool.and_false] at y
    cases y
  refine call_meets F.slot_list_extend ⟨_, e, rfl⟩ F.entry_list_extend (F.args_list_extend_2 _ _) (ext_tup l t its.toArray its2.toArray n n2 _ _ short (by rw [List.size_toArray]; omega) (by omega)) ⟨e, e2, ?_⟩
  refine ⟨.non, _, I.lset (its' := its ++ its2) hH e (by simp) (r.append r2) ?_, rfl, q⟩
  rw [List.length_append]
  omega
end
end TB

set_option Elab.async false
set_option linter.all false
set_option maxRecDepth 100000
set_option maxHeartbeats 1000000
namespace K13
open PySem PySem.Spec PyProof.Rows L2 TB K09

/-! ### trees as data -/
abbrev Pr := Int × PyData
def dP (p : Pr) : PyData := .tuple [.int p.1, p.2]
def dT (ps : List Pr) : PyData := .tuple (ps.map dP)
def isE : PyData → Bool
  | .tuple [] => true
  | _ => false
theorem isE_yes {d : PyData} (h : isE d = true) : d = .tuple [] := by
  match d, h with
  | .tuple [], _ => rfl
def unP : PyData → Pr
  | .tuple [.int w, b] => (w, b)
  | _ => (0, .none)
def prs : PyData → List Pr
  | .tuple ds => ds.map unP
  | _ => []
theorem prs_dT (ps : List Pr) : prs (dT ps) = ps := by
  show (ps.map dP).map unP = ps
  rw [List.map_map]
  exact List.map_id'' (fun p => rfl) ps
def OkT : Nat → PyData → Prop
  | 0, _ => False
  | n + 1, d => ∃ ps : List Pr, d = dT ps ∧ Ws (ps.map Prod.fst) ∧ ∀ p ∈ ps, p.2 = .tuple [] ∨ OkT n p.2
theorem OkT.up : ∀ {n : Nat} {d : PyData}, OkT n d → OkT (n + 1) d
  | 0, _, h => h.elim
  | n + 1, d, ⟨ps, e, hw, h⟩ => ⟨ps, e, hw, fun p hp => (h p hp).imp id OkT.up⟩
theorem OkT.to {n m : Nat} {d : PyData} (h : OkT n d) (l : n ≤ m) : OkT m d := by
  induction l with
  | refl => exact h
  | step _ ih => exact ih.up
theorem OkT.notE {n : Nat} {d : PyData} (h : OkT n d) : isE d = false := by
  cases n with
  | zero => exact h.elim
  | succ n =>
    obtain ⟨ps, rfl, hw, _⟩ := h
    cases ps with
    | nil => exact absurd hw.n0 (by simp)
    | cons p ps => rfl
mutual
def own (n : Nat) (x : Int × Pr) : List Int := if isE x.2.2 = true then [x.1] else lvs n x.1 x.2.2
termination_by (n, 1)
/-- the leaves of t by the tree d, to n within one another -/
def lvs (n : Nat) (t : Int) (d : PyData) : List Int := match n with
  | 0 => []
  | n + 1 => ((parts t ((prs d).map Prod.fst)).zip (prs d)).flatMap (own n)
termination_by (n, 0)
end
mutual
def cnP (n : Nat) (p : Pr) : Nat := if isE p.2 = true then 1 else cnt n p.2
termination_by (n, 1)
def cnt (n : Nat) (d : PyData) : Nat := match n with
  | 0 => 0
  | n + 1 => ((prs d).map (cnP n)).sum
termination_by (n, 0)
end
theorem lvs_dT (n : Nat) (t : Int) (ps : List Pr) : lvs (n + 1) t (dT ps) = ((parts t (ps.map Prod.fst)).zip ps).flatMap (own n) := by
  rw [lvs, prs_dT]
theorem cnt_dT (n : Nat) (ps : List Pr) : cnt (n + 1) (dT ps) = (ps.map (cnP n)).sum := by
  rw [cnt, prs_dT]
theorem own_E (n : Nat) (x w : Int) : own n (x, w, .tuple []) = [x] := by
  rw [own]
  rfl
theorem own_T {n : Nat} {x w : Int} {d : PyData} (h : isE d = false) : own n (x, w, d) = lvs n x d := by
  rw [own, if_neg (by rw [h]; decide)]
theorem cnP_E (n : Nat) (w : Int) : cnP n (w, .tuple []) = 1 := by
  rw [cnP]
  rfl
theorem cnP_T {n : Nat} {w : Int} {d : PyData} (h : isE d = false) : cnP n (w, d) = cnt n d := by
  rw [cnP, if_neg (by rw [h]; decide)]
theorem zlen {f : Int × Pr → List Int} {g : Pr → Nat} : ∀ (as : List Int) (ps : List Pr), as.length = ps.length → (∀ x ∈ as.zip ps, (f x).length = g x.2) → ((as.zip ps).flatMap f).length = (ps.map g).sum
  | [], [], _, _ => rfl
  | a :: as, p :: ps, e, h => by
    rw [List.zip_cons_cons, List.flatMap_cons, List.length_append, List.map_cons, List.sum_cons, zlen as ps (by simpa using e) fun x hx => h x (List.mem_cons_of_mem _ hx), h (a, p) List.mem_cons_self]
theorem zsum {f : Int × Pr → List Int} : ∀ (as : List Int) (ps : List Pr), as.length = ps.length → (∀ x ∈ as.zip ps, (f x).sum = x.1) → ((as.zip ps).flatMap f).sum = as.sum
  | [], [], _, _ => rfl
  | a :: as, p :: ps, e, h => by
    rw [List.zip_cons_cons, List.flatMap_cons, List.sum_append, List.sum_cons, zsum as ps (by simpa using e) fun x hx => h x (List.mem_cons_of_mem _ hx), h (a, p) List.mem_cons_self]
theorem zip_mem {as : List Int} {ps : List Pr} {x : Int × Pr} (h : x ∈ as.zip ps) : x.1 ∈ as ∧ x.2 ∈ ps := List.of_mem_zip (a := x.1) (b := x.2) h
theorem part_ok {t : Int} {ws : List Int} (ok : OkW t ws) {p : Int} (hp : p ∈ parts t ws) : 0 ≤ p ∧ p ≤ t := by
  have h0 : ∀ q ∈ parts t ws, 0 ≤ q := fun q hq => (part_bound ok hq).1
  have := (sum_ge h0 hp).2
  rw [parts_sum ok] at this
  exact ⟨h0 p hp, this⟩
theorem pl_len (t : Int) (ps : List Pr) : (parts t (ps.map Prod.fst)).length = ps.length := by
  rw [parts_len, List.length_map]
theorem lvs_len : ∀ {n : Nat} {t : Int} {d : PyData}, OkT n d → (lvs n t d).length = cnt n d
  | 0, _, _, h => h.elim
  | n + 1, t, d, ⟨ps, e, hw, h⟩ => by
    subst e
    rw [lvs_dT, cnt_dT]
    refine zlen _ _ (pl_len t ps) fun x hx => ?_
    obtain ⟨x, w, b⟩ := x
    rcases h (w, b) (zip_mem hx).2 with z | z
    · cases (show b = .tuple [] from z)
      rw [own_E, cnP_E]
      rfl
    · have ne := OkT.notE z
      rw [own_T ne, cnP_T ne]
      exact lvs_len z
theorem lvs_all : ∀ {n : Nat} {t : Int} {d : PyData}, OkT n d → 0 ≤ t → t ≤ 1000000000000 → (lvs n t d).sum = t ∧ ∀ x ∈ lvs n t d, 0 ≤ x ∧ x ≤ t
  | 0, _, _, h, _, _ => h.elim
  | n + 1, t, d, ⟨ps, e, hw, h⟩, t0, t1 => by
    subst e
    have ok := hw.ok t0 t1
    have each : ∀ x ∈ (parts t (ps.map Prod.fst)).zip ps, (own n x).sum = x.1 ∧ ∀ y ∈ own n x, 0 ≤ y ∧ y ≤ t := fun x hx => by
      obtain ⟨x, w, b⟩ := x
      obtain ⟨p0, p1⟩ := part_ok ok (zip_mem hx).1
      rcases h (w, b) (zip_mem hx).2 with z | z
      · cases (show b = .tuple [] from z)
        rw [own_E]
        refine ⟨by simp, fun y hy => ?_⟩
        rw [List.mem_singleton.mp hy]
        exact ⟨p0, p1⟩
      · rw [own_T (OkT.notE z)]
        obtain ⟨s, a⟩ := lvs_all z p0 (Int.le_trans p1 t1)
        exact ⟨s, fun y hy => ⟨(a y hy).1, Int.le_trans (a y hy).2 p1⟩⟩
    rw [lvs_dT]
    refine ⟨?_, fun y hy => ?_⟩
    · rw [zsum _ _ (pl_len t ps) fun x hx => (each x hx).1, parts_sum ok]
    · obtain ⟨x, hx, hy⟩ := List.mem_flatMap.mp hy
      exact (each x hx).2 y hy
theorem cnt_pos : ∀ {n : Nat} {d : PyData}, OkT n d → 0 < cnt n d
  | 0, _, h => h.elim
  | n + 1, d, ⟨ps, e, hw, h⟩ => by
    subst e
    rw [cnt_dT]
    cases ps with
    | nil => exact absurd hw.n0 (by simp)
    | cons p ps =>
      rw [List.map_cons, List.sum_cons]
      have : 0 < cnP n p := by
        obtain ⟨w, b⟩ := p
        rcases h (w, b) List.mem_cons_self with z | z
        · cases (show b = .tuple [] from z)
          rw [cnP_E]
          decide
        · rw [cnP_T (OkT.notE z)]
          exact cnt_pos z
      omega
/-- pairs of () alone -/
def flatP (ws : List Int) : List Pr := ws.map fun w => (w, .tuple [])
theorem flat_fst (ws : List Int) : (flatP ws).map Prod.fst = ws := by
  unfold flatP
  rw [List.map_map]
  exact List.map_id'' (fun p => rfl) ws
theorem zip_flat (n : Nat) : ∀ (as : List Int) (ws : List Int), as.length = ws.length → (as.zip (flatP ws)).flatMap (own n) = as
  | [], [], _ => rfl
  | a :: as, w :: ws, e => by
    show own n (a, w, .tuple []) ++ (as.zip (flatP ws)).flatMap (own n) = _
    rw [own_E, zip_flat n as ws (by simpa using e)]
    rfl
theorem lvs_flat (n : Nat) (t : Int) (ws : List Int) : lvs (n + 1) t (dT (flatP ws)) = parts t ws := by
  rw [lvs_dT, flat_fst, zip_flat n _ _ (parts_len t ws)]
theorem ok_flat {ws : List Int} (h : Ws ws) (n : Nat) : OkT (n + 1) (dT (flatP ws)) := ⟨_, rfl, by rw [flat_fst]; exact h, fun p hp => by
  obtain ⟨w, _, rfl⟩ := List.mem_map.mp hp
  exact .inl rfl⟩
theorem cnt_flat (n : Nat) (ws : List Int) : cnt (n + 1) (dT (flatP ws)) = ws.length := by
  rw [cnt_dT]
  unfold flatP
  rw [List.map_map]
  induction ws with
  | nil => rfl
  | cons w ws ih =>
    rw [List.map_cons, List.sum_cons, ih]
    show cnP n (w, .tuple []) + _ = _
    rw [cnP_E, List.length_cons]
    omega
/-! ### one pair alone; a weight of 0 -/
theorem parts_one {t : Int} (t0 : 0 ≤ t) (t1 : t ≤ 1000000000000) : parts t [7] = [t] := by
  have ok : OkW t [7] := ⟨t0, t1, by decide, by decide, fun w hw => by rw [List.mem_singleton.mp hw]; decide, by decide⟩
  have l := parts_len t [7]
  have s := parts_sum ok
  match e : parts t [7], l, s with
  | [x], _, s => simpa using s
theorem sum_lin (a : Int) (f g h : Nat → Int) : ∀ n : Nat, ((List.range n).map fun j => a * (f j - g j) - h j).sum = a * (((List.range n).map f).sum - ((List.range n).map g).sum) - ((List.range n).map h).sum
  | 0 => by simp
  | n + 1 => by
    simp only [List.range_succ, List.map_append, List.sum_append, List.map_cons, List.map_nil, List.sum_cons, List.sum_nil, sum_lin a f g h n]
    simp only [Int.mul_sub, Int.mul_add, Int.add_zero]
    omega
theorem sum_at : ∀ ls : List Int, ((List.range ls.length).map fun j => ls.getD j 0).sum = ls.sum := fun ls => by
  congr 1
  refine List.ext_getElem? fun i => ?_
  rw [List.getElem?_map]
  by_cases c : i < ls.length
  · rw [List.getElem?_range c]
    show some (ls.getD i 0) = _
    exact (getD_of c).symm
  · rw [List.getElem?_eq_none (by simpa using c), List.getElem?_eq_none (by omega)]
    rfl
theorem sum_one_le {f : Nat → Int} {n i : Nat} (h : ∀ j, j < n → 0 ≤ f j) (hi : i < n) : f i ≤ ((List.range n).map f).sum :=
  (sum_ge (ws := (List.range n).map f) (w := f i) (fun w hw => by
    obtain ⟨j, hj, rfl⟩ := List.mem_map.mp hw
    exact h j (List.mem_range.mp hj)) (List.mem_map.mpr ⟨i, List.mem_range.mpr hi, rfl⟩)).2
theorem parts_zero {t : Int} {ws : List Int} (ok : OkW t ws) {i : Nat} (h : ws[i]? = some 0) : (parts t ws)[i]? = some 0 := by
  obtain ⟨hc, hr⟩ := parts_pass ok
  have pl := parts_len t ws
  have ll := lows_len t ws
  have rl := rsts_len t ws
  have hi : i < ws.length := by
    have := List.getElem?_eq_some_iff.mp h
    exact this.1
  have gl : (lows t ws).getD i 0 = 0 := by
    rw [List.getD_eq_getElem?_getD, low_get h]
    simp
  have gr : (rsts t ws).getD i 0 = 0 := by
    rw [List.getD_eq_getElem?_getD, rst_get h]
    simp
  have gp := getD_of (ls := parts t ws) (i := i) (by omega)
  rw [gp]
  by_cases c : (parts t ws).getD i 0 = 0
  · rw [c]
  · exfalso
    have way : ∀ j, j < ws.length → (parts t ws).getD j 0 = (lows t ws).getD j 0 ∨ (parts t ws).getD j 0 = (lows t ws).getD j 0 + 1 := fun j hj => by
      have := hc j (by omega)
      unfold badC at this
      have := of_decide_eq_false this
      by_cases z : (parts t ws).getD j 0 = (lows t ws).getD j 0
      · exact .inl z
      · exact .inr (Classical.not_not.mp fun y => this ⟨z, y⟩)
    have up : (parts t ws).getD i 0 = 1 := by
      rcases way i hi with z | z <;> omega
    have W0 := ok.s0
    have rb : ∀ j, j < ws.length → 0 ≤ (rsts t ws).getD j 0 ∧ (rsts t ws).getD j 0 ≤ ws.sum - 1 := fun j hj => by
      have e := List.getElem?_eq_getElem hj
      rw [List.getD_eq_getElem?_getD, rst_get e]
      show 0 ≤ t * ws[j] - t * ws[j] / ws.sum * ws.sum ∧ t * ws[j] - t * ws[j] / ws.sum * ws.sum ≤ ws.sum - 1
      rw [rst_mod]
      have a := Int.emod_nonneg (t * ws[j]) (show ws.sum ≠ 0 by omega)
      have b := Int.emod_lt_of_pos (t * ws[j]) W0
      omega
    have still : ∀ j, j < ws.length → (parts t ws).getD j 0 = (lows t ws).getD j 0 → (rsts t ws).getD j 0 = 0 := fun j hj e => by
      have nb := hr i (by omega)
      unfold badR at nb
      rw [decide_eq_true (by omega), Bool.true_and] at nb
      have := List.any_eq_false.mp nb ((rsts t ws).getD j 0) (by
        unfold shorts
        exact List.mem_map.mpr ⟨j, List.mem_filter.mpr ⟨List.mem_range.mpr (by omega), decide_eq_true e⟩, rfl⟩)
      have := mt (decide_eq_true (p := (rsts t ws).getD i 0 < (rsts t ws).getD j 0)) this
      have := (rb j hj).1
      omega
    have term : ∀ j, j < ws.length → 0 ≤ (ws.sum - 1) * ((parts t ws).getD j 0 - (lows t ws).getD j 0) - (rsts t ws).getD j 0 := fun j hj => by
      have := rb j hj
      rcases way j hj with z | z
      · rw [z, Int.sub_self, Int.mul_zero, still j hj z]
        decide
      · rw [z, show (lows t ws).getD j 0 + 1 - (lows t ws).getD j 0 = 1 by omega, Int.mul_one]
        omega
    have big := sum_one_le term hi
    rw [sum_lin] at big
    have e1 : ((List.range ws.length).map fun j => (parts t ws).getD j 0).sum = t := by
      rw [← pl, sum_at, parts_sum ok]
    have e2 : ((List.range ws.length).map fun j => (lows t ws).getD j 0).sum = (lows t ws).sum := by
      rw [← ll, sum_at]
    have e3 : ((List.range ws.length).map fun j => (rsts t ws).getD j 0).sum = (rsts t ws).sum := by
      rw [← rl, sum_at]
    rw [e1, e2, e3, up, gl, gr] at big
    have e4 : (rsts t ws).sum = t * ws.sum - (lows t ws).sum * ws.sum := sum_rst t ws.sum ws
    rw [e4, ← Int.sub_mul] at big
    have term2 : ∀ j, j < ws.length → 0 ≤ 1 * ((parts t ws).getD j 0 - (lows t ws).getD j 0) - 0 := fun j hj => by
      rcases way j hj with z | z <;> omega
    have big2 := sum_one_le term2 hi
    rw [sum_lin 1 _ _ fun _ => 0, e1, e2, up, gl] at big2
    have e5 : ((List.range ws.length).map fun _ => (0 : Int)).sum = 0 := by
      generalize ws.length = n
      induction n with
      | zero => rfl
      | succ n ih => rw [List.range_succ, List.map_append, List.sum_append, ih]; rfl
    rw [e5] at big2
    generalize t - (lows t ws).sum = o at big big2
    rw [Int.mul_comm o ws.sum] at big
    simp only [Int.sub_mul, Int.one_mul] at big
    generalize ws.sum * o = z at big
    omega
end K13

set_option Elab.async false
set_option linter.all false
set_option maxRecDepth 100000
set_option maxHeartbeats 1000000
namespace K13
open PySem PySem.Spec PyProof.Rows L2 TB K09

theorem scCt : FnScope ["thing"] ["thing"] (defScope sCt) := ⟨rfl, rfl, rfl, by decide +kernel, rfl, by decide +kernel, by decide +kernel⟩
theorem scIp : FnScope ["thing"] ["thing"] (defScope sIp) := ⟨rfl, rfl, rfl, by decide +kernel, rfl, by decide +kernel, by decide +kernel⟩
theorem scIt : FnScope ["thing", "pair"] ["thing"] (defScope sIt) := ⟨rfl, rfl, rfl, by decide +kernel, rfl, by decide +kernel, by decide +kernel⟩
def isCnt : PyData → Bool
  | .int i => decide (0 ≤ i)
  | _ => false
theorem okt_at : ∀ {n : Nat} {d : PyData}, OkT n d → Ats 0 d ∧ PyData.depth d ≤ 2 * n + 1
  | 0, _, h => h.elim
  | n + 1, d, ⟨ps, e, hw, h⟩ => by
    subst e
    have each : ∀ x ∈ ps.map dP, Ats 0 x ∧ PyData.depth x ≤ 2 * n + 2 := fun x hx => by
      obtain ⟨p, hp, rfl⟩ := List.mem_map.mp hx
      have hb : Ats 0 p.2 ∧ PyData.depth p.2 ≤ 2 * n + 1 ∨ p.2 = .tuple [] := by
        rcases h p hp with z | z
        · exact .inr z
        · exact .inl (okt_at z)
      have hw1 := hw.w0 p.1 (List.mem_map.mpr ⟨p, hp, rfl⟩)
      have ai : Ats 0 (.int p.1) := by
        simp only [Ats]
        have : p.1.natAbs ≤ 1000000000 := by omega
        exact Nat.lt_of_le_of_lt this (by decide +kernel)
      unfold dP
      refine ⟨Ats.tup.mpr fun y hy => ?_, ?_⟩
      · rcases List.mem_cons.mp hy with rfl | hy
        · exact ai
        · rw [List.mem_singleton.mp hy]
          rcases hb with z | z
          · exact z.1
          · rw [z]
            exact Ats.tup.mpr fun _ k => nomatch k
      · rcases hb with z | z
        · simp only [PyData.depth, PyData.depthAll]
          omega
        · rw [z]
          simp only [PyData.depth, PyData.depthAll]
          omega
    refine ⟨Ats.tup.mpr fun x hx => (each x hx).1, ?_⟩
    unfold dT
    rw [dep_tup]
    have := (dep_all (k := 2 * n + 2) (ds := ps.map dP)).mpr fun x hx => (each x hx).2
    omega
theorem okt_shaped {n : Nat} {d : PyData} (h : d = .tuple [] ∨ OkT n d) (hn : n ≤ 20) : SeqAt.shaped d = true := by
  rcases h with rfl | h
  · rfl
  · obtain ⟨a, b⟩ := okt_at h
    exact Fit.shaped (m := sz d) (k := 2 * n + 1) (j := 0) ⟨Nat.le_refl _, b, a⟩ (by omega) (by omega)
theorem eqv_E {n : Nat} {d : PyData} (h : d = .tuple [] ∨ OkT n d) : PyData.eqv d (.tuple []) = isE d := by
  rcases h with rfl | h
  · simp [PyData.eqv, PyData.eqvAll, isE]
  · rw [h.notE]
    cases n with
    | zero => exact h.elim
    | succ n =>
      obtain ⟨ps, rfl, hw, _⟩ := h
      cases ps with
      | nil => exact absurd hw.n0 (by simp)
      | cons p ps => simp [dT, PyData.eqv, PyData.eqvAll]
section
variable {P : Program} {w : World} {K : PySem.W.Frag} {mg : Str → Option Value} {base : Heap}
theorem dp_pair {H : Hp} {v : V} {p : Pr} (h : Dp K H v (dP p)) : ∃ a y, v = .ref a ∧ SqT K H a [.int p.1, y] ∧ Dp K H y p.2 := by
  obtain ⟨a, xs, rfl, hq, t⟩ := Dp.tup_inv h
  obtain ⟨x, r1, rfl, h1, t⟩ := DpAll.cons_inv t
  obtain ⟨y, r2, rfl, h2, t⟩ := DpAll.cons_inv t
  rw [Dp.int_inv h1, DpAll.nil_inv t] at hq
  exact ⟨a, y, rfl, hq, h2⟩
theorem ok_ct {f fN : Addr} {fd fdN : FuncData} (F : Fun K "is_count" "is_count" sCt f fd) (GN : FnOk P w K mg base CX0 1 fN fdN ["thing"] (spKind K isNum)) (kN : PySem.W.keepIn K (.ref fN) = true) (bN : Binds K fdN ["thing"] []) (gN : mg "is_number" = some (.ref fN)) :
    FnOk P w K mg base CX0 2 f fd ["thing"] (spKind K isCnt) := by
  refine F.ok scCt (fun vs H Q E h => ?_) (fun cdv A outer s H vs Q E hr h => ?_)
  · obtain ⟨v, d, rfl, _⟩ := h
    rfl
  · obtain ⟨v, d, rfl, hd, q⟩ := h
    refine ⟨_, (pss_one (ps_ret (pe_and (pe_call GN (hr.mono (by omega)) (by rfl) gN kN bN .nil pass0 (pa_cons (pv 0) pa_nil)) (pe_one (pe_cmpR op_ge (pv 0) pe_int (nomark _)))))), ?_⟩
    refine ⟨_, rfl, v, d, rfl, hd, fun H1 s1 => ⟨_, rfl, ?_⟩⟩
    have q1 := q H1 s1
    cases hd with
    | int i => exact iteT ⟨_, rfl, i, 0, rfl, rfl, q1⟩
    | non => exact iteF q1
    | bl b => exact iteF q1
    | str x => exact iteF q1
    | lst h _ => exact iteF q1
    | tup h _ => exact iteF q1
def spIt (K : PySem.W.Frag) (n : Nat) : Sp := fun vs H Q _ => ∃ (v : V) (d : PyData), vs = [v] ∧ Dp K H v d ∧ OkT n d ∧ ∀ H', Same H H' → Q (.bl true) H'
def spIp (K : PySem.W.Frag) (n : Nat) : Sp := fun vs H Q _ => ∃ (v : V) (p : Pr), vs = [v] ∧ Dp K H v (dP p) ∧ 0 ≤ p.1 ∧ (p.2 = .tuple [] ∨ OkT n p.2) ∧ ∀ H', Same H H' → Q (.bl true) H'
theorem ok_ip {f fTu fCt fIt : Addr} {fd fdTu fdCt fdIt : FuncData} {n : Nat} (hn : n ≤ 20) (F : Fun K "is_pair" "is_pair" sIp f fd)
    (GTu : FnOk P w K mg base CX0 1 fTu fdTu ["thing", "many"] (spTup K isTup)) (kTu : PySem.W.keepIn K (.ref fTu) = true) (bTu : Binds K fdTu ["thing", "many"] []) (gTu : mg "is_tuple_of" = some (.ref fTu))
    (GCt : FnOk P w K mg base CX0 2 fCt fdCt ["thing"] (spKind K isCnt)) (kCt : PySem.W.keepIn K (.ref fCt) = true) (bCt : Binds K fdCt ["thing"] []) (gCt : mg "is_count" = some (.ref fCt))
    (GIt : FnOk P w K mg base CX0 (2 * n + 3) fIt fdIt ["thing"] (spIt K n)) (kIt : PySem.W.keepIn K (.ref fIt) = true) (bIt : Binds K fdIt ["thing"] []) (gIt : mg "is_tree" = some (.ref fIt)) :
    FnOk P w K mg base CX0 (2 * n + 4) f fd ["thing"] (spIp K n) := by
  refine F.ok scIp (fun vs H Q E h => ?_) (fun cdv A outer s H vs Q E hr h => ?_)
  · obtain ⟨v, p, rfl, _⟩ := h
    rfl
  · obtain ⟨v, p, rfl, hd, p0, pb, q⟩ := h
    refine ⟨_, (pss_one (ps_ret (pe_and (pe_call GTu (hr.mono (by omega)) (by rfl) gTu kTu bTu .nil pass0 (pa_cons (pv 0) (pa_cons pe_int pa_nil))) (pe_and (pe_call GCt (hr.mono (by omega)) (by rfl) gCt kCt bCt .nil pass0 (pa_cons (pe_ix ix_tup (pv 0) pe_int (fun _ _ => rfl)) pa_nil)) (pe_one (pe_or (pe_cmpR (op_eqD hr.units) (pe_ix ix_tup (pv 0) pe_int (fun _ _ => rfl)) (pe_tup pa_nil) (nomark _)) (pe_one (pe_call GIt (hr.mono (by omega)) (by rfl) gIt kIt bIt .nil pass0 (pa_cons (pe_ix ix_tup (pv 0) pe_int (fun _ _ => rfl)) pa_nil))))))))), ?_⟩
    refine ⟨_, rfl, v, _, 2, rfl, by decide, hd, fun H1 s1 => ⟨_, rfl, ?_⟩⟩
    refine iteT ?_
    obtain ⟨a, y, rfl, ha, dy⟩ := dp_pair hd
    refine ⟨_, rfl, a, _, 0, _, rfl, rfl, TB.Same.tup s1 ha, atI_nat (j := 0) rfl, _, .int p.1, rfl, .int _, fun H2 s2 => ⟨_, rfl, ?_⟩⟩
    have s12 := s1.trans s2
    have e0 : isCnt (.int p.1) = true := decide_eq_true p0
    rw [e0]
    refine iteT ?_
    refine ⟨_, rfl, a, _, 1, _, rfl, rfl, TB.Same.tup s12 ha, atI_nat (j := 1) rfl, Nat.zero_le _, fun z nz => ?_⟩
    have sz := same_upd (o := .tup []) nz
    have s13 := s12.trans sz
    refine ⟨p.2, .tuple [], Dp.same s13 _ _ dy, .tup (.inl (.inl upd_same)) .nil, okt_shaped pb hn, rfl, ?_⟩
    rw [eqv_E pb]
    generalize upd H2 z (.tup []) = H3 at *
    refine ⟨_, rfl, ?_⟩
    rcases pb with pb | pb
    · rw [pb]
      exact iteT (q _ s13)
    · rw [pb.notE]
      refine iteF ?_
      exact ⟨_, rfl, a, _, 1, _, rfl, rfl, TB.Same.tup s13 ha, atI_nat (j := 1) rfl, y, p.2, rfl, Dp.same s13 _ _ dy, pb, fun H4 s4 => q _ (s13.trans s4)⟩
theorem ok_it {f fIp : Addr} {fd fdIp : FuncData} {n : Nat} (hn : n ≤ 20) (F : Fun K "is_tree" "is_tree" sIt f fd)
    (GIp : FnOk P w K mg base CX0 (2 * n + 4) fIp fdIp ["thing"] (spIp K n)) (kIp : PySem.W.keepIn K (.ref fIp) = true) (bIp : Binds K fdIp ["thing"] []) (gIp : mg "is_pair" = some (.ref fIp))
    (m_isinstance : mg "isinstance" = none) (m_tuple : mg "tuple" = none) (m_all : mg "all" = none) (m_any : mg "any" = none) :
    FnOk P w K mg base CX0 (2 * (n + 1) + 3) f fd ["thing"] (spIt K (n + 1)) := by
  refine F.ok scIt (fun vs H Q E h => ?_) (fun cdv A outer s H vs Q E hr h => ?_)
  · obtain ⟨v, p, rfl, _⟩ := h
    rfl
  · obtain ⟨v, d, rfl, hd, ⟨ps, rfl, hw, hp⟩, q⟩ := h
    refine ⟨_, (pss_one (ps_ret (pe_and (pe_callB call_isi (by rfl) m_isinstance (by decide +kernel) (pa_cons (pv 0) (pa_cons (pe_bltn (v := .ty "tuple") (u := .type "tuple") (by rfl) m_tuple (by decide +kernel) rfl) pa_nil))) (pe_and (pe_callB (cr_all rfl) (by rfl) m_all (by decide +kernel) (pa_cons (pe_lc (own := [("pair", 1)]) (g := gName 1) (tt := tYes) rfl scIt.nd (pi_tup (pv 0)) (blkOk_by (own := [("pair", 1)]) (N := ["thing", "pair"]) (sc := defScope sIt) (by decide +kernel)) (fun _ _ _ _ _ => (pg_name (i := 1) scIt.nd rfl (.inl rfl))) (fun _ _ _ _ _ => pts_nil) (fun _ _ _ _ _ => (pe_call GIp (hr.mono (by omega)) (by rfl) gIp kIp bIp .nil pass0 (pa_cons (pv 1) pa_nil)))) pa_nil)) (pe_one (pe_callB (cr_any rfl) (by rfl) m_any (by decide +kernel) (pa_cons (pe_lc (own := [("pair", 1)]) (g := gName 1) (tt := tYes) (te := tOp (rI0 fun i j => .bl (decide (j < i))) (tOp (rIxT K) (tVar 1) (tC (.int 0))) (tC (.int 0))) rfl scIt.nd (pi_tup (pv 0)) (blkOk_by (own := [("pair", 1)]) (N := ["thing", "pair"]) (sc := defScope sIt) (by decide +kernel)) (fun _ _ _ _ _ => (pg_name (i := 1) scIt.nd rfl (.inl rfl))) (fun _ _ _ _ _ => pts_nil) (fun _ _ _ _ _ => (pe_cmpR op_gt (pe_ix ix_tup (pv 1) pe_int (fun _ _ => rfl)) pe_int (nomark _)))) pa_nil))))))), ?_⟩
    obtain ⟨t, ty, kt⟩ := isiT hd
    refine ⟨_, rfl, _, .ty "tuple", t, .type "tuple", _, rfl, .ty _, ty, kt, _, rfl, iteT ?_⟩
    obtain ⟨a, xs, rfl, ha, da⟩ := Dp.tup_inv hd
    have ln := DpAll.len da
    rw [List.length_map] at ln
    have pl : ps.length ≤ 12 := by
      have := hw.n1
      rwa [List.length_map] at this
    have item : ∀ {i : Nat} {x : V}, xs[i]? = some x → ∃ p ∈ ps, ps[i]? = some p ∧ Dp K H x (dP p) := fun {i x} hx => by
      obtain ⟨d, hdi, dx⟩ := DpAll.get da hx
      rw [List.getElem?_map] at hdi
      obtain ⟨p, hp, rfl⟩ := Option.map_eq_some_iff.mp hdi
      exact ⟨p, List.mem_of_getElem? hp, hp, dx⟩
    refine ⟨_, rfl, _, rfl, ⟨_, ha⟩, fun D nD => ?_⟩
    refine lc_tup (xs := xs) (fun i H2 => Same H H2 ∧ H2 D = some (.lst ((List.replicate i true).map V.bl)) ∧ i ≤ 12) ⟨same_upd nD, upd_same, by decide⟩ (fun i H2 _ hP => TB.Same.tup hP.1 ha) (fun i x H2 hx hP => ?_) (fun H2 hP => ?_)
    · obtain ⟨s2, e2, i2⟩ := hP
      obtain ⟨p, hpm, hpi, dx⟩ := item hx
      have il := (List.getElem?_eq_some_iff.mp hpi).1
      refine ⟨rfl, yes (iteT ?_)⟩
      refine ⟨_, rfl, x, p, rfl, Dp.same s2 _ _ dx, (hw.w0 p.1 (List.mem_map.mpr ⟨p, hpm, rfl⟩)).1, hp p hpm, fun H3 s3 => ?_⟩
      refine ⟨_, s3 _ _ e2, ?_, same_new nD (s2.trans s3), ?_, by omega⟩
      · rw [List.length_map, List.length_replicate]
        exact small1000 (by omega)
      · rw [upd_same, List.replicate_succ', List.map_append]
        rfl
    · obtain ⟨s2, e2, i2⟩ := hP
      refine ⟨D, _, rfl, .inl (.inl e2), _, rfl, ?_⟩
      rw [show (List.replicate xs.length true).all id = true from List.all_eq_true.mpr fun b hb => (List.mem_replicate.mp hb).2]
      refine iteT ?_
      refine ⟨_, rfl, _, rfl, ⟨_, TB.Same.tup s2 ha⟩, fun D2 nD2 => ?_⟩
      refine lc_tup (xs := xs) (fun i H3 => Same H H3 ∧ H3 D2 = some (.lst (((ps.take i).map fun p => decide (0 < p.1)).map V.bl)) ∧ i ≤ 12) ⟨s2.trans (same_upd nD2), upd_same, by decide⟩ (fun i H3 _ hP => TB.Same.tup hP.1 ha) (fun i x H3 hx hP => ?_) (fun H3 hP => ?_)
      · obtain ⟨s3, e3, i3⟩ := hP
        obtain ⟨p, hpm, hpi, dx⟩ := item hx
        have il := (List.getElem?_eq_some_iff.mp hpi).1
        obtain ⟨b, y, rfl, hb, _⟩ := dp_pair (Dp.same s3 _ _ dx)
        refine ⟨rfl, yes (iteT ?_)⟩
        refine ⟨_, rfl, b, _, 0, _, rfl, rfl, hb, atI_nat (j := 0) rfl, _, _, rfl, rfl, ?_⟩
        refine ⟨_, e3, ?_, same_new (s2.free nD2) s3, ?_, by omega⟩
        · rw [List.length_map, List.length_map]
          have := List.length_take_le' i ps
          exact small1000 (by omega)
        · rw [upd_same, map_take_more hpi, List.map_append]
          rfl
      · obtain ⟨s3, e3, i3⟩ := hP
        refine ⟨D2, _, rfl, .inl (.inl e3), ?_⟩
        have ex : ((ps.take xs.length).map fun p => decide (0 < p.1)).any id = true := by
          rw [List.take_of_length_le (by omega), List.any_map]
          by_cases c : ∃ p ∈ ps, 0 < p.1
          · obtain ⟨p, hpm, h0⟩ := c
            exact List.any_eq_true.mpr ⟨p, hpm, decide_eq_true h0⟩
          · exfalso
            have z : ∀ (l : List Int), (∀ x ∈ l, x = 0) → l.sum = 0 := fun l => by
              induction l with
              | nil => exact fun _ => rfl
              | cons x l ih => exact fun h => by rw [List.sum_cons, h x List.mem_cons_self, ih fun y hy => h y (List.mem_cons_of_mem _ hy)]; rfl
            have s0 := hw.s0
            rw [z _ fun x hx => by
              obtain ⟨p, hpm, rfl⟩ := List.mem_map.mp hx
              have := (hw.w0 p.1 hx).1
              have := mt (fun k : 0 < p.1 => (⟨p, hpm, k⟩ : ∃ p ∈ ps, 0 < p.1)) c
              omega] at s0
            cases s0
        rw [ex]
        exact q _ s3
theorem ok_trees {fIp fIt fTu fCt : Addr} {fdIp fdIt fdTu fdCt : FuncData} (FP : Fun K "is_pair" "is_pair" sIp fIp fdIp) (FT : Fun K "is_tree" "is_tree" sIt fIt fdIt)
    (GTu : FnOk P w K mg base CX0 1 fTu fdTu ["thing", "many"] (spTup K isTup)) (kTu : PySem.W.keepIn K (.ref fTu) = true) (bTu : Binds K fdTu ["thing", "many"] []) (gTu : mg "is_tuple_of" = some (.ref fTu))
    (GCt : FnOk P w K mg base CX0 2 fCt fdCt ["thing"] (spKind K isCnt)) (kCt : PySem.W.keepIn K (.ref fCt) = true) (bCt : Binds K fdCt ["thing"] []) (gCt : mg "is_count" = some (.ref fCt))
    (kIt : PySem.W.keepIn K (.ref fIt) = true) (bIt : Binds K fdIt ["thing"] []) (gIt : mg "is_tree" = some (.ref fIt))
    (kIp : PySem.W.keepIn K (.ref fIp) = true) (bIp : Binds K fdIp ["thing"] []) (gIp : mg "is_pair" = some (.ref fIp))
    (m_isinstance : mg "isinstance" = none) (m_tuple : mg "tuple" = none) (m_all : mg "all" = none) (m_any : mg "any" = none) :
    ∀ n, n ≤ 20 → FnOk P w K mg base CX0 (2 * n + 3) fIt fdIt ["thing"] (spIt K n) := by
  intro n
  induction n with
  | zero =>
    intro _
    exact ⟨fun xs G R Z h => (by obtain ⟨_, _, _, _, z, _⟩ := h; exact z.elim), fun A outer s H args us vs Q E hr e0 hb r h => (by obtain ⟨_, _, _, _, z, _⟩ := h; exact z.elim)⟩
  | succ n ih =>
    intro hn
    exact ok_it (by omega) FT (ok_ip (by omega) FP GTu kTu bTu gTu GCt kCt bCt gCt (ih (by omega)) kIt bIt gIt) kIp bIp gIp m_isinstance m_tuple m_all m_any
end
end K13

set_option Elab.async false
set_option linter.all false
set_option maxRecDepth 100000
set_option maxHeartbeats 1000000
namespace K13
open PySem PySem.Spec PyProof.Rows L2 TB K09

theorem scLv : FnScope ["total", "tree", "parts", "told", "part", "weight", "below"] ["total", "tree"] (defScope sLv) := ⟨rfl, rfl, rfl, by decide +kernel, rfl, by decide +kernel, by decide +kernel⟩
theorem zip_get {as : List Int} {ps : List Pr} {i : Nat} {x : Int} {p : Pr} (h1 : as[i]? = some x) (h2 : ps[i]? = some p) : (as.zip ps)[i]? = some (x, p) := by
  rw [List.getElem?_zip_eq_some]
  exact ⟨h1, h2⟩
theorem flat_more {as : List Int} {ps : List Pr} {i : Nat} {x : Int} {p : Pr} (f : Int × Pr → List Int) (h1 : as[i]? = some x) (h2 : ps[i]? = some p) : ((as.zip ps).take (i + 1)).flatMap f = ((as.zip ps).take i).flatMap f ++ f (x, p) := by
  rw [take_more (zip_get h1 h2), List.flatMap_append]
  simp
theorem flat_le (f : Int × Pr → List Int) (l : List (Int × Pr)) (i : Nat) : ((l.take i).flatMap f).length ≤ (l.flatMap f).length := by
  have e : l.flatMap f = (l.take i).flatMap f ++ (l.drop i).flatMap f := by
    rw [← List.flatMap_append, List.take_append_drop]
  rw [e, List.length_append]
  omega
theorem cnt_sub {n : Nat} {ps : List Pr} {p : Pr} (h : p ∈ ps) (ht : isE p.2 = false) : cnt n p.2 ≤ cnt (n + 1) (dT ps) := by
  rw [cnt_dT]
  have : ∀ (l : List Pr), p ∈ l → cnP n p ≤ (l.map (cnP n)).sum := fun l => by
    induction l with
    | nil => exact fun h => nomatch h
    | cons q l ih =>
      intro h
      rw [List.map_cons, List.sum_cons]
      rcases List.mem_cons.mp h with rfl | h
      · omega
      · have := ih h
        omega
  have := this ps h
  obtain ⟨w, b⟩ := p
  rw [cnP_T ht] at this
  exact this
section
variable {P : Program} {w : World} {K : PySem.W.Frag} {mg : Str → Option Value} {base : Heap}
def spLv (K : PySem.W.Frag) (n : Nat) : Sp := fun vs H Q _ => ∃ (v : V) (t : Int) (d : PyData), vs = [.int t, v] ∧ 0 ≤ t ∧ t ≤ 1000000000000 ∧ Dp K H v d ∧ OkT n d ∧ cnt n d ≤ 200 ∧
  ∀ H' r, Same H H' → H' r = some (.tup ((lvs n t d).map V.int)) → Q (.ref r) H'
theorem ok_lv {f fS : Addr} {fd fdS : FuncData} (F : Fun K "leaves" "leaves" sLv f fd) (kLv : PySem.W.keepIn K (.ref f) = true) (bLv : Binds K fd ["total", "tree"] []) (gLv : mg "leaves" = some (.ref f))
    (GS : FnOk P w K mg base CX0 3 fS fdS ["total", "weights"] (spL K parts)) (kS : PySem.W.keepIn K (.ref fS) = true) (bS : Binds K fdS ["total", "weights"] []) (gS : mg "split" = some (.ref fS))
    (m_tuple : mg "tuple" = none) (m_zip : mg "zip" = none) : ∀ n, n ≤ 20 → FnOk P w K mg base CX0 (n + 4) f fd ["total", "tree"] (spLv K n) := by
  intro n
  induction n with
  | zero =>
    intro _
    exact ⟨fun xs G R Z h => (by obtain ⟨_, _, _, _, _, _, _, z, _⟩ := h; exact z.elim), fun A outer s H args us vs Q E hr e0 hb r h => (by obtain ⟨_, _, _, _, _, _, _, z, _⟩ := h; exact z.elim)⟩
  | succ n ih =>
  intro hn
  have GLv := ih (by omega)
  refine F.ok scLv (fun vs H Q E h => ?_) (fun cdv A outer s H vs Q E hr h => ?_)
  · obtain ⟨v, t, d, rfl, _⟩ := h
    rfl
  · obtain ⟨v, t, d, rfl, t0, t1, hd, ⟨ps, rfl, hw, hp⟩, hc, q⟩ := h
    have okt : OkT (n + 1) (dT ps) := ⟨ps, rfl, hw, hp⟩
    refine ⟨_, (pss_cons (ps_set (i := 2) scLv.nd rfl (.inl rfl) (pe_call GS (hr.mono (by omega)) (by rfl) gS kS bS .nil pass0 (pa_cons (pv 0) (pa_cons (pe_callTy call_tuple_of (by rfl) m_tuple (by decide +kernel) (pa_cons (pe_lc (own := [("weight", 5), ("below", 6)]) (g := gTup K 2 (gCons (gName 5) (gCons (gName 6) gNil))) (tt := tYes) rfl scLv.nd (pi_tup (pv 1)) (blkOk_by (own := [("weight", 5), ("below", 6)]) (N := ["total", "tree", "parts", "told", "part", "weight", "below"]) (sc := defScope sLv) (by decide +kernel)) (fun _ _ _ _ _ => (pg_tup rfl (pgs_cons (pg_name (i := 5) scLv.nd rfl (.inl rfl)) (pgs_cons (pg_name (i := 6) scLv.nd rfl (.inl rfl)) pgs_nil)))) (fun _ _ _ _ _ => pts_nil) (fun _ _ _ _ _ => (pv 5))) pa_nil)) pa_nil))))
      (pss_cons (ps_set (i := 3) scLv.nd rfl (.inl rfl) (pe_lst pa_nil))
      (pss_cons (ps_for PassesOwn.never rfl (RZ.pi_zipA (by rfl) m_zip (pa_cons (pv 2) (pa_cons (pv 1) pa_nil))) (pg_tup rfl (pgs_cons (pg_name (i := 4) scLv.nd rfl (.inl rfl)) (pgs_cons (pg_tup rfl (pgs_cons (pg_name (i := 5) scLv.nd rfl (.inl rfl)) (pgs_cons (pg_name (i := 6) scLv.nd rfl (.inl rfl)) pgs_nil))) pgs_nil))) (pss_one (ps_if (pt_cmpR (op_eqD hr.units) (pv 6) (pe_tup pa_nil) (nomark _)) (pss_one (ps_expr (pe_bm PySem.F.plainAttrs_list PySem.F.slot_list_append PySem.F.type_list_append mt_append (pv 3) (pa_cons (pv 4) pa_nil)))) (pss_one (ps_expr (pe_bm PySem.F.plainAttrs_list PySem.F.slot_list_extend PySem.F.type_list_extend mt_extendT (pv 3) (pa_cons (pe_call GLv (hr.mono (by omega)) (by rfl) gLv kLv bLv .nil pass0 (pa_cons (pv 4) (pa_cons (pv 6) pa_nil))) pa_nil)))))))
      (pss_one (ps_ret (pe_callTy call_tuple_of (by rfl) m_tuple (by decide +kernel) (pa_cons (pv 3) pa_nil))))))), ?_⟩
    have ok := hw.ok t0 t1
    obtain ⟨a, xs, rfl, ha, da⟩ := Dp.tup_inv hd
    have ln := DpAll.len da
    rw [List.length_map] at ln
    have pl : ps.length ≤ 12 := by
      have := hw.n1
      rwa [List.length_map] at this
    have item : ∀ {i : Nat} {x : V}, xs[i]? = some x → ∃ p, ps[i]? = some p ∧ Dp K H x (dP p) := fun {i x} hx => by
      obtain ⟨d, hdi, dx⟩ := DpAll.get da hx
      rw [List.getElem?_map] at hdi
      obtain ⟨p, hp, rfl⟩ := Option.map_eq_some_iff.mp hdi
      exact ⟨p, hp, dx⟩
    refine ⟨_, rfl, _, rfl, a, rfl, ⟨_, ha⟩, fun D nD => ?_⟩
    refine lc_tup (xs := xs) (fun i H1 => Same H H1 ∧ H1 D = some (.lst (((ps.take i).map Prod.fst).map V.int))) ⟨same_upd nD, upd_same⟩ (fun i H1 _ hP => TB.Same.tup hP.1 ha) (fun i x H1 hx hP => ?_) (fun H1 hP => ?_)
    · obtain ⟨sm, e1⟩ := hP
      obtain ⟨p, hpi, dx⟩ := item hx
      obtain ⟨b, y, rfl, hb, _⟩ := dp_pair (Dp.same sm _ _ dx)
      refine ⟨b, _, rfl, hb, rfl, _, _, rfl, _, _, rfl, rfl, rfl, yes (iteT ?_)⟩
      refine ⟨_, rfl, _, e1, ?_, same_new nD sm, ?_⟩
      · rw [List.length_map, List.length_map]
        have := List.length_take_le' i ps
        exact small1000 (by omega)
      · rw [upd_same, map_take_more hpi, List.map_append]
        rfl
    · obtain ⟨sm, e1⟩ := hP
      rw [List.take_of_length_le (by omega)] at e1
      refine ⟨D, _, rfl, .inl ⟨.inl (.inl e1), fun tp ntp => ?_⟩⟩
      have s1 := sm.trans (same_upd (o := .tup ((ps.map Prod.fst).map V.int)) ntp)
      refine ⟨tp, t, ps.map Prod.fst, rfl, .inl (.inl upd_same), ok, fun H2 r s2 nr er => ?_⟩
      have s3 := s1.trans s2
      clear s2 nr
      refine ⟨Nat.zero_le _, fun X nX => ?_⟩
      have sX := same_upd (o := .lst []) nX
      have eX : (upd H2 X (.lst [])) X = some (.lst (([] : List Int).map V.int)) := upd_same
      have er2 := sX _ _ er
      generalize upd H2 X (.lst []) = H3 at *
      show tSeq _ _ _ [some (.int t), some (.ref a), some (.ref r), some (.ref X), none, none, none] _
      refine ⟨_, rfl, _, rfl, r, a, _, _, rfl, .inr ⟨.inl (.inl er2), TB.Same.tup (s3.trans sX) ha, ?_⟩⟩
      have pln := pl_len t ps
      refine for_it (walk_zT (xs := (parts t (ps.map Prod.fst)).map V.int) (ys := xs) (n := ps.length) (by rw [List.length_map]; omega)) (fun i σ G => ∃ y4 y5 y6, σ = [some (.int t), some (.ref a), some (.ref r), some (.ref X), y4, y5, y6] ∧ Same H2 G ∧ G X = some (.lst (((((parts t (ps.map Prod.fst)).zip ps).take i).flatMap (own n)).map V.int))) ⟨_, _, _, rfl, sX, eX⟩ ?_ ?_ ?_
      · rintro i σ G _ ⟨y4, y5, y6, rfl, sg, _⟩
        exact ⟨TB.Same.tup (K := K) sg (.inl (.inl er)), TB.Same.tup (s3.trans sg) ha⟩
      · rintro i x σ G G2 hi ⟨y4, y5, y6, rfl, sg, eG⟩ ⟨T, u, v, rfl, nT, rfl, hu, hv⟩
        obtain ⟨p, hpi, dx⟩ := item hv
        have hui : (parts t (ps.map Prod.fst))[i]? = some ((parts t (ps.map Prod.fst)).getD i 0) := getD_of (by omega)
        have hu' : ((parts t (ps.map Prod.fst)).map V.int)[i]? = some u := hu
        rw [List.getElem?_map, hui] at hu'
        generalize (parts t (ps.map Prod.fst)).getD i 0 = part at hui hu'
        obtain rfl := Option.some.inj hu'
        have sT := same_upd (o := .tup [.int part, v]) nT
        have eG2 := sT _ _ eG
        have eT : (upd G T (.tup [.int part, v])) T = some (.tup [.int part, v]) := upd_same
        generalize upd G T (.tup [.int part, v]) = G2 at *
        have sg2 := sg.trans sT
        have sall := s3.trans sg2
        obtain ⟨b, y, rfl, hb, dy⟩ := dp_pair (Dp.same sall _ _ dx)
        refine ⟨T, _, rfl, .inl (.inl eT), rfl, _, _, rfl, _, _, rfl, ⟨b, _, rfl, hb, rfl, _, _, rfl, _, _, rfl, rfl, ?_⟩⟩
        have pb := hp p (List.mem_of_getElem? hpi)
        have mo := flat_more (own n) hui hpi
        have le0 := flat_le (own n) ((parts t (ps.map Prod.fst)).zip ps) (i + 1)
        rw [← lvs_dT, lvs_len okt, mo, List.length_append] at le0
        obtain ⟨pr0, pr1⟩ := part_ok ok (List.mem_of_getElem? hui)
        refine ⟨rfl, _, rfl, Nat.zero_le _, fun z nz => ?_⟩
        have sz := same_upd (o := .tup []) nz
        have ez : (upd G2 z (.tup [])) z = some (.tup []) := upd_same
        have dy2 := Dp.same sz _ _ dy
        have eG3 := sz _ _ eG2
        have sg3 := sg2.trans sz
        generalize upd G2 z (.tup []) = G3 at *
        refine ⟨p.2, .tuple [], dy2, .tup (.inl (.inl ez)) .nil, okt_shaped pb (by omega), rfl, _, rfl, ?_⟩
        rw [eqv_E pb]
        obtain ⟨pw, pd⟩ := p
        rcases pb with pb | pb
        · cases (show pd = .tuple [] from pb)
          rw [own_E] at mo le0
          refine iteT ?_
          refine ⟨_, rfl, .inl ⟨rfl, _, .inl (.inl eG3)⟩, _, rfl, X, _, _, rfl, rfl, eG3, ?_, ?_⟩
          · rw [List.length_map]
            exact small1000 (by omega)
          · refine ⟨_, _, _, rfl, same_new nX sg3, ?_⟩
            rw [upd_same, mo, List.map_append]
            rfl
        · have ne := OkT.notE pb
          have ne' : isE pd = false := ne
          rw [own_T ne'] at mo le0
          rw [ne]
          refine iteF ?_
          refine ⟨_, rfl, .inl ⟨rfl, _, .inl (.inl eG3)⟩, _, rfl, _, rfl, y, part, pd, rfl, pr0, Int.le_trans pr1 t1, dy2, pb, Nat.le_trans (cnt_sub (List.mem_of_getElem? hpi) ne) hc, fun G4 r4 s4 e4 => ?_⟩
          have eG4 := s4 _ _ eG3
          refine ⟨X, r4, _, _, rfl, rfl, eG4, .inl (.inl e4), ?_, ?_⟩
          · rw [List.length_map, List.length_map]
            exact Nat.le_of_lt (small1000 (by omega))
          · refine ⟨_, _, _, rfl, same_new nX (sg3.trans s4), ?_⟩
            rw [upd_same, mo, List.map_append]
      · rintro σ G ⟨y4, y5, y6, rfl, sg, eG⟩
        have e : ((parts t (ps.map Prod.fst)).zip ps).take ps.length = (parts t (ps.map Prod.fst)).zip ps := List.take_of_length_le (by rw [List.length_zip]; omega)
        rw [e, ← lvs_dT] at eG
        refine ⟨_, rfl, X, _, rfl, .inl ⟨.inl (.inl eG), fun tq ntq => ?_⟩⟩
        exact q _ _ (s3.trans (sg.trans (same_upd ntq))) upd_same
end
end K13

set_option Elab.async false
set_option linter.all false
set_option maxRecDepth 100000
set_option maxHeartbeats 2000000
namespace K13
open PySem PySem.Spec PyProof.Rows L2 TB K09

theorem scTr : FnScope ["_law_feed_here", "_law_deep", "_law_room", "_law_weights_here", "_law_pairs", "_law_used", "_law_k", "_law_weight", "_law_left", "_law_below", "_law_own"] ["_law_feed_here", "_law_deep", "_law_room"] (defScope sTr) := ⟨rfl, rfl, rfl, by decide +kernel, rfl, by decide +kernel, by decide +kernel⟩
/-- how many draws a tree takes at most -/
def Bd : Nat → Nat
  | 0 => 0
  | n + 1 => 153 + 12 * (Bd n + 1)
theorem Bd_step (n : Nat) : Bd (n + 1) = 153 + 12 * (Bd n + 1) := rfl
theorem okt_noL : ∀ {n : Nat} {d : PyData}, OkT n d → noL d = true
  | 0, _, h => h.elim
  | n + 1, d, ⟨ps, e, hw, h⟩ => by
    subst e
    show noLs (ps.map dP) = true
    refine noLs_of fun x hx => ?_
    obtain ⟨p, hp, rfl⟩ := List.mem_map.mp hx
    have : noL p.2 = true := by
      rcases h p hp with z | z
      · rw [z]
        rfl
      · exact okt_noL z
    show noLs [.int p.1, p.2] = true
    simp only [noLs, noL, this, Bool.and_self]
theorem Feed.accB {K : PySem.W.Frag} {H H' : Hp} {D L S : Addr} {T : Int} {ds : List PyData} (f : Feed H L S T) (a : Acc K H D ds) (k : But L H H') (n : D ≠ L) : Acc K H' D ds := by
  obtain ⟨zs, ez⟩ := f.there
  exact a.but k ez n
theorem Feed.tupB {H H' : Hp} {L S a : Addr} {T : Int} {xs : List V} (f : Feed H L S T) (h : H a = some (.tup xs)) (k : But L H H') : H' a = some (.tup xs) := by
  obtain ⟨zs, ez⟩ := f.there
  refine k _ _ (fun e => ?_) h
  rw [e, ez] at h
  cases h
theorem Feed.dpB {K : PySem.W.Frag} {H H' : Hp} {L S : Addr} {T : Int} {v : V} {d : PyData} (f : Feed H L S T) (h : Dp K H v d) (n : noL d = true) (k : But L H H') : Dp K H' v d := by
  obtain ⟨zs, ez⟩ := f.there
  exact Dp.but k ez d v n h
theorem noL_pair {p : Pr} {n : Nat} (h : p.2 = .tuple [] ∨ OkT n p.2) : noL (dP p) = true := by
  have : noL p.2 = true := by
    rcases h with z | z
    · rw [z]
      rfl
    · exact okt_noL z
  show noLs [.int p.1, p.2] = true
  simp only [noLs, noL, this, Bool.and_self]
section
variable {P : Program} {w : World} {K : PySem.W.Frag} {mg : Str → Option Value} {base : Heap}
def spTr (K : PySem.W.Frag) (n : Nat) : Sp := fun vs H Q _ => ∃ (L S : Addr) (T room : Int), n ≠ 0 ∧ vs = [.ref L, .int (n : Int), .int room] ∧ Feed H L S T ∧ T + Bd n < 99000 ∧ 1 ≤ room ∧ room ≤ 37 ∧
  ∀ (H' : Hp) (r : Addr) (v : V) (d : PyData), But L H H' → Feed H' L S (T + Bd n) → H' r = some (.tup [v, .int (cnt n d : Int)]) → Dp K H' v d → OkT n d → (cnt n d : Int) ≤ room → Q (.ref r) H'
theorem ok_tr {f fR fW : Addr} {fd fdR fdW : FuncData} (F : Fun K "_law_tree" "_law_tree" sTr f fd) (kTr : PySem.W.keepIn K (.ref f) = true) (bTr : Binds K fd ["_law_feed_here", "_law_deep", "_law_room"] []) (gTr : mg "_law_tree" = some (.ref f))
    (GDr : FnOk P w K mg base CX0 1 fR fdR ["_law_feed_here", "_law_many_here"] spDraw) (kDr : PySem.W.keepIn K (.ref fR) = true) (bDr : Binds K fdR ["_law_feed_here", "_law_many_here"] []) (gDr : mg "_law_draw" = some (.ref fR))
    (GW : FnOk P w K mg base CX0 2 fW fdW ["_law_feed_here", "_law_many_here"] spWe) (kW : PySem.W.keepIn K (.ref fW) = true) (bW : Binds K fdW ["_law_feed_here", "_law_many_here"] []) (gW : mg "_law_weights" = some (.ref fW))
    (m_min : mg "min" = none) (m_enumerate : mg "enumerate" = none) (m_len : mg "len" = none) (m_tuple : mg "tuple" = none) : ∀ n, n ≤ 20 → FnOk P w K mg base CX0 (n + 3) f fd ["_law_feed_here", "_law_deep", "_law_room"] (spTr K n) := by
  intro n
  induction n with
  | zero =>
    intro _
    exact ⟨fun xs G R Z h => (by obtain ⟨_, _, _, _, z, _⟩ := h; exact absurd rfl z), fun A outer s H args us vs Q E hr e0 hb r h => (by obtain ⟨_, _, _, _, z, _⟩ := h; exact absurd rfl z)⟩
  | succ n ih =>
  intro hn
  have GTr := ih (by omega)
  refine F.ok scTr (fun vs H Q E h => ?_) (fun cdv A outer s H vs Q E hr h => ?_)
  · obtain ⟨L, S, T, room, _, rfl, _⟩ := h
    rfl
  · obtain ⟨L, S, T, room, _, rfl, f0, hT, r0, r1, q⟩ := h
    refine ⟨_, (pss_cons (ps_set (i := 3) scTr.nd rfl (.inl rfl) (pe_call GW (hr.mono (by omega)) (by rfl) gW kW bW .nil pass0 (pa_cons (pv 0) (pa_cons (pe_callB (call_min2 rfl) (by rfl) m_min (by decide +kernel) (pa_cons (pv 2) (pa_cons (pe_ix ix_tup (pe_tup (pa_cons pe_int (pa_cons pe_int pa_nil))) (pe_op op_fdivW (pe_call GDr (hr.mono (by omega)) (by rfl) gDr kDr bDr .nil pass0 (pa_cons (pv 0) (pa_cons pe_int pa_nil))) pe_int) (fun _ _ => rfl)) pa_nil))) pa_nil))))
      (pss_cons (ps_par (i := 4) (j := 5) (by rfl) scTr.nd rfl rfl (by decide) rfl rfl (pa_cons (pe_lst pa_nil) (pa_cons pe_int pa_nil)) (by rfl))
      (pss_cons (ps_for PassesOwn.never rfl (pi_enumT (by rfl) m_enumerate (pa_cons (pv 3) pa_nil)) (pg_tup rfl (pgs_cons (pg_name (i := 6) scTr.nd rfl (.inl rfl)) (pgs_cons (pg_name (i := 7) scTr.nd rfl (.inl rfl)) pgs_nil))) (pss_cons (ps_set (i := 8) scTr.nd rfl (.inl rfl) (pe_op op_sub (pe_op op_sub (pv 2) (pv 5)) (pe_op op_sub (pe_op op_sub (pe_callB call_len_seq (by rfl) m_len (by decide +kernel) (pa_cons (pv 3) pa_nil)) (pv 6)) pe_int)))
      (pss_cons (ps_cut (ps_if (PW.pt (pw_and (pt_cmpR op_gt (pv 1) pe_int (nomark _)) (pw_and1 (pt_cmpR op_eq (pe_call GDr (hr.mono (by omega)) (by rfl) gDr kDr bDr .nil pass0 (pa_cons (pv 0) (pa_cons pe_int pa_nil))) pe_int (nomark _))))) (pss_one (ps_asg (pe_call GTr (hr.mono (by omega)) (by rfl) gTr kTr bTr .nil pass0 (pa_cons (pv 0) (pa_cons (pe_op op_sub (pv 1) pe_int) (pa_cons (pv 8) pa_nil)))) (pg_tup rfl (pgs_cons (pg_name (i := 9) scTr.nd rfl (.inl rfl)) (pgs_cons (pg_name (i := 10) scTr.nd rfl (.inl rfl)) pgs_nil))))) (pss_one (ps_asg (pe_tup (pa_cons (pe_tup pa_nil) (pa_cons pe_int pa_nil))) (pg_tup rfl (pgs_cons (pg_name (i := 9) scTr.nd rfl (.inl rfl)) (pgs_cons (pg_name (i := 10) scTr.nd rfl (.inl rfl)) pgs_nil)))))))
      (pss_cons (ps_expr (pe_bm PySem.F.plainAttrs_list PySem.F.slot_list_append PySem.F.type_list_append mt_append (pv 4) (pa_cons (pe_tup (pa_cons (pv 7) (pa_cons (pv 9) pa_nil))) pa_nil)))
      (pss_one (ps_aug (i := 5) scTr.nd rfl (.inl rfl) (pv 10) ip_add))))))
      (pss_one (ps_ret (pe_tup (pa_cons (pe_callTy call_tuple_of (by rfl) m_tuple (by decide +kernel) (pa_cons (pv 4) pa_nil)) (pa_cons (pv 5) pa_nil)))))))), ?_⟩
    have bs := Bd_step n
    refine ⟨_, rfl, _, rfl, by show (2 : Nat) ≤ sizeLine; decide, fun tt ntt => ?_⟩
    have s0 := same_upd (o := .tup [.int 3, .int 12]) ntt
    have et : (upd H tt (.tup [.int 3, .int 12])) tt = some (.tup [.int 3, .int 12]) := upd_same
    have f1 := f0.same s0
    have k0 : But L H (upd H tt (.tup [.int 3, .int 12])) := But.of s0
    generalize upd H tt (.tup [.int 3, .int 12]) = H0 at *
    refine ⟨_, rfl, L, S, 4, T, rfl, by decide, by decide, f1, by omega, fun H1 v k1 f2 v0 v1 => ?_⟩
    have et1 := f1.tupB et k1
    have pk : ∃ m : Int, atI [V.int 3, V.int 12] (v / 3) = some (.int m) ∧ 3 ≤ m ∧ m ≤ 12 := by
      by_cases c : v = 3
      · subst c
        exact ⟨12, rfl, by decide, by decide⟩
      · have : v / 3 = 0 := by omega
        rw [this]
        exact ⟨3, rfl, by decide, by decide⟩
    obtain ⟨m, em, m3, m12⟩ := pk
    refine ⟨v, 3, rfl, rfl, wide_div (b := 60) (by decide) (by omega) (by omega) (by omega), tt, _, _, _, rfl, rfl, .inl (.inl et1), em, ?_⟩
    refine ⟨_, _, rfl, ?_⟩
    have hmin : ∃ m2 : Int, (if m < room then m else room) = m2 ∧ 0 < m2 ∧ m2 ≤ 12 ∧ m2 ≤ room := by
      refine ⟨_, rfl, ?_⟩
      split <;> omega
    obtain ⟨m2, e2, m20, m212, m2r⟩ := hmin
    rw [e2]
    refine ⟨L, S, m2, _, rfl, m20, m212, f2, by omega, fun H2 r ws k2 f3 er hw wl => ?_⟩
    have k02 : But L H H2 := (k0.trans k1).trans k2
    refine ⟨Nat.zero_le _, fun X nX => ?_⟩
    have sX := same_upd (o := .lst []) nX
    have aX : Acc K (upd H2 X (.lst [])) X [] := Acc.start
    have erX := sX _ _ er
    have XL := (f3.ne nX).1
    have XS := (f3.ne nX).2
    have f4 := f3.same sX
    have k03 := k02.same sX
    obtain ⟨z3, ez3⟩ := f3.there
    have nXH : H X = none := k02.free ez3 nX
    generalize upd H2 X (.lst []) = H3 at *
    refine ⟨_, _, rfl, ?_⟩
    show tSeq _ _ _ [some (.ref L), some (.int ((n + 1 : Nat) : Int)), some (.int room), some (.ref r), some (.ref X), some (.int 0), none, none, none, none, none] _
    refine ⟨_, rfl, r, _, rfl, .inl (.inl erX), ?_⟩
    have w12 := hw.n1
    refine for_it (walk_ET (xs := ws.map V.int)) (fun i σ G => ∃ (y6 y7 y8 y9 y10 : Option V) (ps : List Pr), σ = [some (.ref L), some (.int ((n + 1 : Nat) : Int)), some (.int room), some (.ref r), some (.ref X), some (.int (((ps.map (cnP n)).sum : Nat) : Int)), y6, y7, y8, y9, y10] ∧ But L H G ∧ Feed G L S (T + 153 + i * (Bd n + 1)) ∧ G r = some (.tup (ws.map V.int)) ∧ Acc K G X (ps.map dP) ∧ ps.length = i ∧ ps.map Prod.fst = ws.take i ∧ (∀ p ∈ ps, p.2 = .tuple [] ∨ OkT n p.2) ∧ (((ps.map (cnP n)).sum : Nat) : Int) + (ws.length - i) ≤ room)
      ⟨_, _, _, _, _, [], rfl, k03, f4.mono (by omega), erX, aX, rfl, rfl, fun p hp => (by cases hp), (by show (0 : Int) + (ws.length - 0) ≤ room; omega)⟩ ?_ ?_ ?_
    · rintro i σ G _ ⟨y6, y7, y8, y9, y10, ps, rfl, _, _, e1, _⟩
      exact .inl (.inl e1)
    · rintro i x σ G G1 hi ⟨y6, y7, y8, y9, y10, ps, rfl, k4, f5, e1, a1, pl, pf, pb, us⟩ ⟨tT, u, v, rfl, nT, rfl, hu, hv⟩
      obtain rfl := Option.some.inj hu
      rw [List.length_map] at hi
      have hwi := List.getElem?_eq_getElem hi
      generalize ws[i] = x at hwi
      have hv' : (ws.map V.int)[i]? = some v := hv
      rw [List.getElem?_map, hwi] at hv'
      obtain rfl := Option.some.inj hv'
      have sT := same_upd (o := .tup [.int (i : Nat), .int x]) nT
      have eT : (upd G tT (.tup [.int (i : Nat), .int x])) tT = some (.tup [.int (i : Nat), .int x]) := upd_same
      have e2 := sT _ _ e1
      have a2 := a1.same sT
      have k5 := k4.same sT
      have f6 := f5.same sT
      generalize upd G tT (.tup [.int (i : Nat), .int x]) = G1 at *
      generalize hus : (ps.map (cnP n)).sum = used at us
      have i12 : i * (Bd n + 1) ≤ 11 * (Bd n + 1) := Nat.mul_le_mul_right _ (by omega)
      refine ⟨tT, _, rfl, .inl (.inl eT), rfl, _, _, rfl, _, _, rfl, rfl, ?_⟩
      refine ⟨_, rfl, _, rfl, _, _, rfl, rfl, _, rfl, r, _, rfl, .inr (.inl (.inl e2)), _, rfl, _, _, rfl, rfl, _, _, rfl, rfl, _, _, rfl, rfl, ?_⟩
      rw [List.length_map]
      show tSeq _ _ _ [some (.ref L), some (.int ((n + 1 : Nat) : Int)), some (.int room), some (.ref r), some (.ref X), some (.int (used : Int)), some (.int (i : Nat)), some (.int x), some (.int (room - (used : Int) - ((ws.length : Int) - (i : Nat) - 1))), y9, y10] _
      generalize hleft : room - (used : Int) - ((ws.length : Int) - (i : Nat) - 1) = left
      have l1 : 1 ≤ left := by omega
      have l37 : left ≤ 37 := by omega
      have i12' : (i : Int) * ((Bd n : Int) + 1) ≤ 11 * ((Bd n : Int) + 1) := by exact_mod_cast i12
      have nxt : ((i + 1 : Nat) : Int) * ((Bd n : Int) + 1) = (i : Int) * ((Bd n : Int) + 1) + ((Bd n : Int) + 1) := by
        rw [Int.natCast_add, Int.add_mul]
        simp
      have z0 : 0 ≤ (i : Int) * ((Bd n : Int) + 1) := Int.mul_nonneg (by omega) (by omega)
      rw [nxt]
      generalize (i : Int) * ((Bd n : Int) + 1) = zi at *
      refine ⟨fun σ' G' => ∃ (b : V) (d : PyData), σ' = [some (.ref L), some (.int ((n + 1 : Nat) : Int)), some (.int room), some (.ref r), some (.ref X), some (.int (used : Int)), some (.int (i : Nat)), some (.int x), some (.int left), some b, some (.int ((cnP n (x, d) : Nat) : Int))] ∧ But L G1 G' ∧ Feed G' L S (T + 153 + zi + (Bd n + 1)) ∧ Dp K G' b d ∧ (d = .tuple [] ∨ OkT n d) ∧ ((cnP n (x, d) : Nat) : Int) ≤ left, ?_, ?_⟩
      · have els : ∀ G2, But L G1 G2 → Feed G2 L S (T + 153 + zi + 1) → tAsg (tTup (tCons (tTup tNil) (tCons (tC (.int 1)) tNil))) (gTup K 2 (gCons (gName 9) (gCons (gName 10) gNil))) { nx := fun σ' G' => ∃ (b : V) (d : PyData), σ' = [some (.ref L), some (.int ((n + 1 : Nat) : Int)), some (.int room), some (.ref r), some (.ref X), some (.int (used : Int)), some (.int (i : Nat)), some (.int x), some (.int left), some b, some (.int ((cnP n (x, d) : Nat) : Int))] ∧ But L G1 G' ∧ Feed G' L S (T + 153 + zi + (Bd n + 1)) ∧ Dp K G' b d ∧ (d = .tuple [] ∨ OkT n d) ∧ ((cnP n (x, d) : Nat) : Int) ≤ left, rt := fun _ _ => False } [some (.ref L), some (.int ((n + 1 : Nat) : Int)), some (.int room), some (.ref r), some (.ref X), some (.int (used : Int)), some (.int (i : Nat)), some (.int x), some (.int left), y9, y10] G2 := fun G2 k6 f7 => by
          refine ⟨Nat.zero_le _, fun ta na => ?_⟩
          have sa := same_upd (o := .tup []) na
          have ea : (upd G2 ta (.tup [])) ta = some (.tup []) := upd_same
          have f8 := f7.same sa
          have k7 := k6.same sa
          generalize upd G2 ta (.tup []) = G3 at *
          refine ⟨by show (2 : Nat) ≤ sizeLine; decide, fun tb nb => ?_⟩
          have sb := same_upd (o := .tup [.ref ta, .int 1]) nb
          refine ⟨tb, _, rfl, .inl (.inl upd_same), rfl, _, _, rfl, _, _, rfl, rfl, ?_⟩
          refine ⟨.ref ta, .tuple [], by rw [cnP_E]; rfl, k7.same sb, (f8.same sb).mono (by omega), .tup (.inl (.inl (sb _ _ ea))) .nil, .inl rfl, ?_⟩
          rw [cnP_E]
          omega
        refine ⟨_, rfl, _, _, rfl, rfl, _, rfl, ?_⟩
        change ite _ _ _
        refine ite2 (fun c => ?_) (fun c => ?_)
        · have n0 : n ≠ 0 := by
            have := of_decide_eq_true c
            omega
          refine ⟨_, rfl, L, S, 3, _, rfl, by decide, by decide, f6, by omega, fun G2 v2 k6 f7 v0 v1 => ⟨rfl, _, rfl, ?_⟩⟩
          change ite _ _ _
          refine ite2 (fun c2 => ?_) (fun c2 => ?_)
          · refine ⟨_, rfl, _, rfl, _, _, rfl, rfl, _, rfl, L, S, _, left, n0, ?_, f7, by omega, l1, l37, fun G3 r3 v3 d3 k7 f8 e3 dv ok3 cl => ?_⟩
            · show [V.ref L, V.int (((n + 1 : Nat) : Int) - 1), V.int left] = _
              rw [show ((n + 1 : Nat) : Int) - 1 = (n : Int) by omega]
            · refine ⟨r3, _, rfl, .inl (.inl e3), rfl, _, _, rfl, _, _, rfl, rfl, ?_⟩
              refine ⟨v3, d3, by rw [cnP_T ok3.notE]; rfl, k6.trans k7, f8.mono (by omega), dv, .inr ok3, ?_⟩
              rw [cnP_T ok3.notE]
              exact cl
          · exact els G2 k6 f7
        · exact els G1 (But.refl _ _) (f6.mono (by omega))
      · rintro σ' G' ⟨b, d, rfl, k6, f7, db, okd, cl⟩
        have a3 := f6.accB a2 k6 XL
        obtain ⟨us3, eX3, _⟩ := a3.ex
        refine ⟨_, rfl, .inl ⟨rfl, _, .inl (.inl eX3)⟩, _, rfl, _, rfl, by show (2 : Nat) ≤ sizeLine; decide, fun tp ntp => ?_⟩
        have sp := same_upd (o := .tup [.int x, b]) ntp
        have ep : (upd G' tp (.tup [.int x, b])) tp = some (.tup [.int x, b]) := upd_same
        have a4 := a3.same sp
        have db2 := Dp.same sp _ _ db
        have f8 := f7.same sp
        have k7 := k6.same sp
        generalize upd G' tp (.tup [.int x, b]) = G4 at *
        have dp : Dp K G4 (.ref tp) (dP (x, d)) := .tup (.inl (.inl ep)) (.cons (.int _) (.cons db2 .nil))
        obtain ⟨us4, e4, z4, a5⟩ := a4.more dp (noL_pair (p := (x, d)) okd) (by rw [List.length_map]; omega)
        refine ⟨X, _, _, rfl, rfl, e4, z4, ?_⟩
        refine ⟨_, rfl, _, rfl, _, _, rfl, rfl, ?_⟩
        have e5 := f6.tupB e2 k7
        have rX : r ≠ X := fun z => by
          rw [z, e4] at e5
          cases e5
        refine ⟨some (.int (i : Nat)), some (.int x), some (.int left), some b, some (.int ((cnP n (x, d) : Nat) : Int)), ps ++ [(x, d)], ?_, but_upd nXH (k5.trans k7), (f8.upd ⟨XL, XS⟩).mono (by omega), by rw [upd_ne rX]; exact e5, ?_, by rw [List.length_append, pl]; rfl, ?_, fun p hp => ?_, ?_⟩
        · rw [List.map_append, List.sum_append, hus]
          have ee : ((used + ([(x, d)].map (cnP n)).sum : Nat) : Int) = (used : Int) + ((cnP n (x, d) : Nat) : Int) := by
            simp
          rw [ee]
          rfl
        · rw [List.map_append]
          exact a5
        · rw [List.map_append, pf, take_more hwi]
          rfl
        · rcases List.mem_append.mp hp with z | z
          · exact pb p z
          · rw [List.mem_singleton.mp z]
            exact okd
        · rw [List.map_append, List.sum_append, hus]
          show (((used + (cnP n (x, d) + 0) : Nat)) : Int) + (ws.length - ((i + 1 : Nat) : Int)) ≤ room
          omega
    · rintro σ G ⟨y6, y7, y8, y9, y10, ps, rfl, k4, f5, e1, a1, pl, pf, pb, us⟩
      rw [List.length_map] at pl pf f5 us
      obtain ⟨us1, eX1, dv⟩ := a1.ex
      refine ⟨_, rfl, X, _, rfl, .inl ⟨.inl (.inl eX1), fun tp ntp => ?_⟩⟩
      have sp := same_upd (o := .tup us1) ntp
      have dp := Acc.tuple (D := X) dv ntp
      have k6 := k4.same sp
      have f6 := f5.same sp
      generalize upd G tp (.tup us1) = G1 at *
      refine ⟨_, rfl, by show (2 : Nat) ≤ sizeLine; decide, fun tq ntq => ?_⟩
      have sq := same_upd (o := .tup [.ref tp, .int (((ps.map (cnP n)).sum : Nat) : Int)]) ntq
      have okd : OkT (n + 1) (dT ps) := ⟨ps, rfl, by rw [pf, List.take_of_length_le (Nat.le_refl _)]; exact hw, pb⟩
      have bd2 : (ws.length : Int) * ((Bd n : Int) + 1) + 153 ≤ Bd (n + 1) := by
        have a : ws.length * (Bd n + 1) ≤ 12 * (Bd n + 1) := Nat.mul_le_mul_right _ w12
        have b : ((ws.length * (Bd n + 1) : Nat) : Int) = (ws.length : Int) * ((Bd n : Int) + 1) := by
          rw [Int.natCast_mul, Int.natCast_add]
          rfl
        rw [← b]
        omega
      refine q _ tq (.ref tp) (dT ps) (k6.same sq) ((f6.same sq).mono (by omega)) ?_ (Dp.same sq _ _ dp) okd ?_
      · rw [upd_same, cnt_dT]
      · rw [cnt_dT]
        omega
end
end K13

set_option Elab.async false
set_option linter.all false
set_option maxRecDepth 100000
set_option maxHeartbeats 2000000
namespace K13
open PySem PySem.Spec PyProof.Rows L2 TB K09

theorem scMy : FnScope ["_law_tree_here", "_law_found", "_law_weight", "_law_below"] ["_law_tree_here"] (defScope sMy) := ⟨rfl, rfl, rfl, by decide +kernel, rfl, by decide +kernel, by decide +kernel⟩
theorem scAt : FnScope ["_law_total", "_law_tree_here", "_law_weights_here", "_law_parts", "_law_weight", "_law_below", "_law_part"] ["_law_total", "_law_tree_here"] (defScope sAt) := ⟨rfl, rfl, rfl, by decide +kernel, rfl, by decide +kernel, by decide +kernel⟩
theorem dInts_inj : ∀ {a b : List Int}, dInts a = dInts b → a = b
  | [], [], _ => rfl
  | [], _ :: _, h => by cases h
  | _ :: _, [], h => by cases h
  | x :: a, y :: b, h => by
    have h1 := List.cons.inj h
    rw [PyData.int.inj h1.1, dInts_inj h1.2]
theorem off_nn (t : Int) (ws ps : List Int) : 0 ≤ off t ws ps := by
  unfold off
  have : ∀ l : List Int, (∀ x ∈ l, 0 ≤ x) → 0 ≤ l.sum := fun l => by
    induction l with
    | nil => exact fun _ => Int.le_refl 0
    | cons x l ih =>
      intro h
      have a := h x List.mem_cons_self
      have b := ih fun y hy => h y (List.mem_cons_of_mem _ hy)
      rw [List.sum_cons]
      omega
  refine this _ fun x hx => ?_
  obtain ⟨j, _, rfl⟩ := List.mem_map.mp hx
  unfold ab
  split <;> omega
theorem cn_more {n i : Nat} {ps : List Pr} {p : Pr} (h : ps[i]? = some p) : (((ps.take (i + 1)).map (cnP n)).sum : Nat) = ((ps.take i).map (cnP n)).sum + cnP n p := by
  rw [take_more h, List.map_append, List.sum_append]
  simp
section
variable {P : Program} {w : World} {K : PySem.W.Frag} {mg : Str → Option Value} {base : Heap}
theorem dp_items {H : Hp} {xs : List V} {ps : List Pr} (da : DpAll K H xs (ps.map dP)) {i : Nat} {x : V} (hx : xs[i]? = some x) : ∃ p, ps[i]? = some p ∧ Dp K H x (dP p) := by
  obtain ⟨d, hdi, dx⟩ := DpAll.get da hx
  rw [List.getElem?_map] at hdi
  obtain ⟨p, hp, rfl⟩ := Option.map_eq_some_iff.mp hdi
  exact ⟨p, hp, dx⟩
theorem ls_calls {C a : Addr} {v : V} {t : Int} {ws ps : List Int} {H : Hp} {Q : VK} {E : XK} (hA : SqT K H a (ws.map V.int)) (ok : OkW t ws) (hd : Dp K H v (.tuple (dInts ps))) (pl : ps.length = ws.length) (es : ps.sum = t) (hp : passes t ws ps)
    (q : ∀ H', Same H H' → Q (.int (off t ws ps)) H') : spLs K C [.int t, .ref a, v] H Q E := by
  refine ⟨a, v, t, ws, .tuple (dInts ps), rfl, hA, ok, hd, fun z => ?_, fun ds i dd e dl hi hn _ => ?_, fun qs e ql => ?_⟩
  · have tu : isTup ws.length (.tuple (dInts ps)) = true := by
      show decide (((dInts ps).length : Int) = ws.length) = true
      unfold dInts
      rw [List.length_map, pl]
      exact decide_eq_true rfl
    rw [tu] at z
    cases z
  · obtain rfl : dInts ps = ds := PyData.tuple.inj e
    obtain ⟨n, _, rfl⟩ := List.mem_map.mp (List.mem_of_getElem? hi)
    cases hn
  · obtain rfl := dInts_inj (PyData.tuple.inj e)
    refine ⟨fun z => absurd es z, fun _ => ⟨fun i hi hb hj => ?_, fun hc i hi hb hj => ?_, fun _ => q⟩⟩
    · rw [hp.1 i hi] at hb
      cases hb
    · rw [hp.2 i hi] at hb
      cases hb
def spMy (K : PySem.W.Frag) (n : Nat) : Sp := fun vs H Q _ => ∃ (v : V) (d : PyData), vs = [v] ∧ Dp K H v d ∧ OkT n d ∧ ∀ H', Same H H' → Q (.int (cnt n d : Int)) H'
theorem ok_my {f : Addr} {fd : FuncData} (F : Fun K "_law_many" "_law_many" sMy f fd) (kMy : PySem.W.keepIn K (.ref f) = true) (bMy : Binds K fd ["_law_tree_here"] []) (gMy : mg "_law_many" = some (.ref f)) :
    ∀ n, n ≤ 20 → FnOk P w K mg base CX0 (n + 1) f fd ["_law_tree_here"] (spMy K n) := by
  intro n
  induction n with
  | zero =>
    intro _
    exact ⟨fun xs G R Z h => (by obtain ⟨_, _, _, _, z, _⟩ := h; exact z.elim), fun A outer s H args us vs Q E hr e0 hb r h => (by obtain ⟨_, _, _, _, z, _⟩ := h; exact z.elim)⟩
  | succ n ih =>
  intro hn
  have GMy := ih (by omega)
  refine F.ok scMy (fun vs H Q E h => ?_) (fun cdv A outer s H vs Q E hr h => ?_)
  · obtain ⟨v, d, rfl, _⟩ := h
    rfl
  · obtain ⟨v, d, rfl, hd, ⟨ps, rfl, hw, hp⟩, q⟩ := h
    refine ⟨_, (pss_cons (ps_set (i := 1) scMy.nd rfl (.inl rfl) pe_int)
      (pss_cons (ps_for PassesOwn.never rfl (pi_tup (pv 0)) (pg_tup rfl (pgs_cons (pg_name (i := 2) scMy.nd rfl (.inl rfl)) (pgs_cons (pg_name (i := 3) scMy.nd rfl (.inl rfl)) pgs_nil))) (pss_one (ps_aug (i := 1) scMy.nd rfl (.inl rfl) (pe_ifExp (pt_cmpR (op_eqD hr.units) (pv 3) (pe_tup pa_nil) (nomark _)) pe_int (pe_call GMy (hr.mono (by omega)) (by rfl) gMy kMy bMy .nil pass0 (pa_cons (pv 3) pa_nil))) ip_add)))
      (pss_one (ps_ret (pv 1))))), ?_⟩
    obtain ⟨a, xs, rfl, ha, da⟩ := Dp.tup_inv hd
    have ln := DpAll.len da
    rw [List.length_map] at ln
    show tSeq _ _ _ [some (.ref a), some (.int 0), none, none] _
    refine ⟨_, rfl, a, rfl, ⟨_, ha⟩, ?_⟩
    refine for_tup (xs := xs) (fun i σ G => ∃ y2 y3, σ = [some (.ref a), some (.int ((((ps.take i).map (cnP n)).sum : Nat) : Int)), y2, y3] ∧ Same H G) ⟨_, _, rfl, Same.refl _⟩ ?_ ?_ ?_
    · rintro i σ G _ ⟨y2, y3, rfl, sg⟩
      exact TB.Same.tup sg ha
    · rintro i x σ G hx ⟨y2, y3, rfl, sg⟩
      obtain ⟨p, hpi, dx⟩ := dp_items da hx
      obtain ⟨b, y, rfl, hb, dy⟩ := dp_pair (Dp.same sg _ _ dx)
      have pb := hp p (List.mem_of_getElem? hpi)
      refine ⟨b, _, rfl, hb, rfl, _, _, rfl, _, _, rfl, rfl, ?_⟩
      refine ⟨_, rfl, _, rfl, Nat.zero_le _, fun z nz => ?_⟩
      have sz := same_upd (o := .tup []) nz
      have ez : (upd G z (.tup [])) z = some (.tup []) := upd_same
      have dy2 := Dp.same sz _ _ dy
      have sg2 := sg.trans sz
      generalize upd G z (.tup []) = G2 at *
      refine ⟨p.2, .tuple [], dy2, .tup (.inl (.inl ez)) .nil, okt_shaped pb (by omega), rfl, _, rfl, ?_⟩
      rw [eqv_E pb]
      obtain ⟨pw, pd⟩ := p
      have mo := cn_more (n := n) hpi
      rcases pb with pb | pb
      · cases (show pd = .tuple [] from pb)
        rw [cnP_E] at mo
        refine iteT ⟨_, _, rfl, rfl, ?_⟩
        refine ⟨some (.int pw), some y, ?_, sg2⟩
        rw [mo, Int.natCast_add]
        rfl
      · have ne := OkT.notE pb
        have ne' : isE pd = false := ne
        rw [cnP_T ne'] at mo
        rw [ne]
        refine iteF ⟨_, rfl, y, pd, rfl, dy2, pb, fun G3 s3 => ⟨_, _, rfl, rfl, ?_⟩⟩
        refine ⟨some (.int pw), some y, ?_, sg2.trans s3⟩
        rw [mo, Int.natCast_add]
        rfl
    · rintro σ G ⟨y2, y3, rfl, sg⟩
      refine ⟨_, rfl, ?_⟩
      rw [List.take_of_length_le (by omega), ← cnt_dT]
      exact q G sg
def spAt (K : PySem.W.Frag) (n : Nat) : Sp := fun vs H Q _ => ∃ (v : V) (t : Int) (d : PyData), vs = [.int t, v] ∧ 0 ≤ t ∧ t ≤ 1000000000000 ∧ Dp K H v d ∧ OkT n d ∧ ∀ H', Same H H' → Q (.bl true) H'
theorem ok_at {C f fS fLs : Addr} {fd fdS fdLs : FuncData} (F : Fun K "_law_all_let" "_law_all_let" sAt f fd) (kAt : PySem.W.keepIn K (.ref f) = true) (bAt : Binds K fd ["_law_total", "_law_tree_here"] []) (gAt : mg "_law_all_let" = some (.ref f))
    (GS : FnOk P w K mg base CX0 3 fS fdS ["total", "weights"] (spL K parts)) (kS : PySem.W.keepIn K (.ref fS) = true) (bS : Binds K fdS ["total", "weights"] []) (gS : mg "split" = some (.ref fS))
    (GLs : FnOk P w K mg base (L2.CX P w) 4 fLs fdLs ["total", "weights", "thing"] (spLs K C)) (kLs : PySem.W.keepIn K (.ref fLs) = true) (bLs : Binds K fdLs ["total", "weights", "thing"] []) (gLs : mg "lets_split" = some (.ref fLs))
    (m_tuple : mg "tuple" = none) (m_zip : mg "zip" = none) (m_all : mg "all" = none) :
    ∀ n, n ≤ 20 → FnOk P w K mg base CX0 (n + 5) f fd ["_law_total", "_law_tree_here"] (spAt K n) := by
  intro n
  induction n with
  | zero =>
    intro _
    exact ⟨fun xs G R Z h => (by obtain ⟨_, _, _, _, _, _, _, z, _⟩ := h; exact z.elim), fun A outer s H args us vs Q E hr e0 hb r h => (by obtain ⟨_, _, _, _, _, _, _, z, _⟩ := h; exact z.elim)⟩
  | succ n ih =>
  intro hn
  have GAt := ih (by omega)
  refine F.ok scAt (fun vs H Q E h => ?_) (fun cdv A outer s H vs Q E hr h => ?_)
  · obtain ⟨v, t, d, rfl, _⟩ := h
    rfl
  · obtain ⟨v, t, d, rfl, t0, t1, hd, ⟨ps, rfl, hw, hp⟩, q⟩ := h
    refine ⟨_, (pss_cons (ps_set (i := 2) scAt.nd rfl (.inl rfl) (pe_callTy call_tuple_of (by rfl) m_tuple (by decide +kernel) (pa_cons (pe_lc (own := [("_law_weight", 4), ("_law_below", 5)]) (g := gTup K 2 (gCons (gName 4) (gCons (gName 5) gNil))) (tt := tYes) rfl scAt.nd (pi_tup (pv 1)) (blkOk_by (own := [("_law_weight", 4), ("_law_below", 5)]) (N := ["_law_total", "_law_tree_here", "_law_weights_here", "_law_parts", "_law_weight", "_law_below", "_law_part"]) (sc := defScope sAt) (by decide +kernel)) (fun _ _ _ _ _ => (pg_tup rfl (pgs_cons (pg_name (i := 4) scAt.nd rfl (.inl rfl)) (pgs_cons (pg_name (i := 5) scAt.nd rfl (.inl rfl)) pgs_nil)))) (fun _ _ _ _ _ => pts_nil) (fun _ _ _ _ _ => (pv 4))) pa_nil)))
      (pss_cons (ps_set (i := 3) scAt.nd rfl (.inl rfl) (pe_call GS (hr.mono (by omega)) (by rfl) gS kS bS .nil pass0 (pa_cons (pv 0) (pa_cons (pv 2) pa_nil))))
      (pss_cons (ps_if (pt_cmpR op_lt (pe_call GLs (hr.mono (by omega)) (by rfl) gLs kLs bLs .nil (passes_call takes0 (fun _ _ _ _ h => h)) (pa_cons (pv 0) (pa_cons (pv 2) (pa_cons (pv 3) pa_nil)))) pe_int (nomark _)) (pss_one (ps_ret pe_bl)) pss_nil)
      (pss_one (ps_ret (pe_callB (cr_all rfl) (by rfl) m_all (by decide +kernel) (pa_cons (pe_lc (own := [("_law_part", 6), ("_law_weight", 4), ("_law_below", 5)]) (g := gTup K 2 (gCons (gName 6) (gCons (gTup K 2 (gCons (gName 4) (gCons (gName 5) gNil))) gNil))) (tt := tYes) (te := tOrV (tOp (rEqD K) (tVar 5) (tTup tNil)) (tCall (spAt K n) [] E0 (tCons (tVar 6) (tCons (tVar 5) tNil)))) rfl scAt.nd (RZ.pi_zipA (by rfl) m_zip (pa_cons (pv 3) (pa_cons (pv 1) pa_nil))) (blkOk_by (own := [("_law_part", 6), ("_law_weight", 4), ("_law_below", 5)]) (N := ["_law_total", "_law_tree_here", "_law_weights_here", "_law_parts", "_law_weight", "_law_below", "_law_part"]) (sc := defScope sAt) (by decide +kernel)) (fun _ _ _ _ _ => (pg_tup rfl (pgs_cons (pg_name (i := 6) scAt.nd rfl (.inl rfl)) (pgs_cons (pg_tup rfl (pgs_cons (pg_name (i := 4) scAt.nd rfl (.inl rfl)) (pgs_cons (pg_name (i := 5) scAt.nd rfl (.inl rfl)) pgs_nil))) pgs_nil)))) (fun _ _ _ _ _ => pts_nil) (fun _ _ _ _ _ => (pe_or (pe_cmpR (op_eqD hr.units) (pv 5) (pe_tup pa_nil) (nomark _)) (pe_one (pe_call GAt (hr.mono (by omega)) (by rfl) gAt kAt bAt .nil pass0 (pa_cons (pv 6) (pa_cons (pv 5) pa_nil))))))) pa_nil))))))), ?_⟩
    have ok := hw.ok t0 t1
    obtain ⟨a, xs, rfl, ha, da⟩ := Dp.tup_inv hd
    have ln := DpAll.len da
    rw [List.length_map] at ln
    have pl : ps.length ≤ 12 := by
      have := hw.n1
      rwa [List.length_map] at this
    refine ⟨_, rfl, a, rfl, ⟨_, ha⟩, fun D nD => ?_⟩
    refine lc_tup (xs := xs) (fun i H1 => Same H H1 ∧ H1 D = some (.lst (((ps.take i).map Prod.fst).map V.int))) ⟨same_upd nD, upd_same⟩ (fun i H1 _ hP => TB.Same.tup hP.1 ha) (fun i x H1 hx hP => ?_) (fun H1 hP => ?_)
    · obtain ⟨sm, e1⟩ := hP
      obtain ⟨p, hpi, dx⟩ := dp_items da hx
      obtain ⟨b, y, rfl, hb, _⟩ := dp_pair (Dp.same sm _ _ dx)
      refine ⟨b, _, rfl, hb, rfl, _, _, rfl, _, _, rfl, rfl, rfl, yes (iteT ?_)⟩
      refine ⟨_, rfl, _, e1, ?_, same_new nD sm, ?_⟩
      · rw [List.length_map, List.length_map]
        have := List.length_take_le' i ps
        exact small1000 (by omega)
      · rw [upd_same, map_take_more hpi, List.map_append]
        rfl
    · obtain ⟨sm, e1⟩ := hP
      rw [List.take_of_length_le (by omega)] at e1
      refine ⟨D, _, rfl, .inl ⟨.inl (.inl e1), fun tp ntp => ?_⟩⟩
      have s1 := sm.trans (same_upd (o := .tup ((ps.map Prod.fst).map V.int)) ntp)
      have et : (upd H1 tp (.tup ((ps.map Prod.fst).map V.int))) tp = some (.tup ((ps.map Prod.fst).map V.int)) := upd_same
      generalize upd H1 tp (.tup ((ps.map Prod.fst).map V.int)) = H2 at *
      show tSeq _ _ _ [some (.int t), some (.ref a), some (.ref tp), none, none, none, none] _
      refine ⟨_, rfl, _, rfl, tp, t, ps.map Prod.fst, rfl, .inl (.inl et), ok, fun H3 r s2 nr er => ?_⟩
      have s3 := s1.trans s2
      show tSeq _ _ _ [some (.int t), some (.ref a), some (.ref tp), some (.ref r), none, none, none] _
      refine ⟨_, rfl, _, rfl, _, rfl, ?_⟩
      show tNil _ _ _
      unfold tNil
      refine ls_calls (.inl (.inl (s2 _ _ et))) ok (.tup (.inl (.inl er)) (dp_ints _)) (pl_len t ps |>.trans (List.length_map _).symm) (parts_sum ok) (parts_pass ok) fun H4 s4 => ?_
      have nn := off_nn t (ps.map Prod.fst) (parts t (ps.map Prod.fst))
      refine ⟨_, _, rfl, rfl, _, rfl, ite2 (fun c => ?_) (fun _ => ?_)⟩
      · have := of_decide_eq_true c
        omega
      have s5 := s3.trans s4
      have er4 := s4 _ _ er
      refine ⟨_, rfl, _, rfl, r, a, _, _, rfl, .inr ⟨.inl (.inl er4), TB.Same.tup s5 ha, fun D2 nD2 => ?_⟩⟩
      have pln := pl_len t ps
      refine lc_it (walk_zT (xs := (parts t (ps.map Prod.fst)).map V.int) (ys := xs) (n := ps.length) (by rw [List.length_map]; omega)) (fun i G => Same H4 G ∧ G D2 = some (.lst ((List.replicate i true).map V.bl)) ∧ i ≤ 12) ⟨same_upd nD2, upd_same, by decide⟩ ?_ ?_ ?_
      · rintro i G _ ⟨sg, _⟩
        exact ⟨.inl (.inl (sg _ _ er4)), TB.Same.tup (s5.trans sg) ha⟩
      · rintro i x G G2 hi ⟨sg, eD, i12⟩ ⟨T, u, v, rfl, nT, rfl, hu, hv⟩
        obtain ⟨part, hui, rfl⟩ := map_int hu
        obtain ⟨p, hpi, dx⟩ := dp_items da hv
        have sT := same_upd (o := .tup [.int part, v]) nT
        have eT : (upd G T (.tup [.int part, v])) T = some (.tup [.int part, v]) := upd_same
        have eD2 := sT _ _ eD
        have sg2 := sg.trans sT
        generalize upd G T (.tup [.int part, v]) = G2 at *
        obtain ⟨b, y, rfl, hb, dy⟩ := dp_pair (Dp.same (s5.trans sg2) _ _ dx)
        have pb := hp p (List.mem_of_getElem? hpi)
        obtain ⟨pr0, pr1⟩ := part_ok ok (List.mem_of_getElem? hui)
        refine ⟨T, _, rfl, .inl (.inl eT), rfl, _, _, rfl, _, _, rfl, ⟨b, _, rfl, hb, rfl, _, _, rfl, _, _, rfl, rfl, rfl, rfl, yes (iteT ?_)⟩⟩
        have more : ∀ G3, Same H4 G3 → G3 D2 = some (.lst ((List.replicate i true).map V.bl)) → ∃ acc, G3 D2 = some (.lst acc) ∧ acc.length < sizeLine ∧ (Same H4 (upd G3 D2 (.lst (acc ++ [.bl true]))) ∧ (upd G3 D2 (.lst (acc ++ [.bl true]))) D2 = some (.lst ((List.replicate (i + 1) true).map V.bl)) ∧ i + 1 ≤ 12) := fun G3 sg3 e3 => by
          refine ⟨_, e3, ?_, same_new nD2 sg3, ?_, by omega⟩
          · rw [List.length_map, List.length_replicate]
            exact small1000 (by omega)
          · rw [upd_same, List.replicate_succ', List.map_append]
            rfl
        refine ⟨_, rfl, Nat.zero_le _, fun z nz => ?_⟩
        have sz := same_upd (o := .tup []) nz
        have ez : (upd G2 z (.tup [])) z = some (.tup []) := upd_same
        have dy2 := Dp.same sz _ _ dy
        have sg3 := sg2.trans sz
        have eD3 := sz _ _ eD2
        generalize upd G2 z (.tup []) = G3 at *
        refine ⟨p.2, .tuple [], dy2, .tup (.inl (.inl ez)) .nil, okt_shaped pb (by omega), rfl, ?_⟩
        rw [eqv_E pb]
        refine ⟨_, rfl, ?_⟩
        rcases pb with pb | pb
        · rw [pb]
          exact iteT (more _ sg3 eD3)
        · rw [pb.notE]
          refine iteF ?_
          exact ⟨_, rfl, _, rfl, y, part, p.2, rfl, pr0, Int.le_trans pr1 t1, dy2, pb, fun G4 s6 => more _ (sg3.trans s6) (s6 _ _ eD3)⟩
      · rintro G ⟨sg, eD, _⟩
        refine ⟨D2, _, rfl, .inl (.inl eD), ?_⟩
        rw [show (List.replicate ps.length true).all id = true from List.all_eq_true.mpr fun b hb => (List.mem_replicate.mp hb).2]
        exact q _ (s5.trans sg)
end
end K13

set_option Elab.async false
set_option linter.all false
set_option maxRecDepth 100000
set_option maxHeartbeats 2000000
namespace K13
open PySem PySem.Spec PyProof.Rows L2 TB K09

theorem scRt : FnScope ["_law_total", "_law_tree_here", "_law_told", "_law_weights_here", "_law_parts", "_law_at", "_law_part", "_law_weight", "_law_below", "_law_own"] ["_law_total", "_law_tree_here"] (defScope sRt) := ⟨rfl, rfl, rfl, by decide +kernel, rfl, by decide +kernel, by decide +kernel⟩
theorem cut_nat (xs : List V) {i j : Nat} (h : i ≤ j) (hj : j ≤ xs.length) : cutV xs (some (i : Int)) (some (j : Int)) = (xs.drop i).take (j - i) := by
  unfold cutV
  rw [HT.sIx_nat, HT.sIx_nat, Nat.min_eq_left (by omega), Nat.min_eq_left (by omega)]
theorem cut_mid (a b c : List Int) : cutV ((a ++ b ++ c).map V.int) (some (a.length : Int)) (some ((a.length : Int) + (b.length : Int))) = b.map V.int := by
  rw [← Int.natCast_add, cut_nat _ (by omega) (by rw [List.length_map, List.length_append, List.length_append]; omega), List.append_assoc, List.map_append, ← List.length_map (f := V.int) (as := a), List.drop_left, Nat.add_sub_cancel_left, List.map_append, ← List.length_map (f := V.int) (as := b), List.take_left]
theorem eqv_tup (ns : List Int) : PyData.eqv (.tuple (dInts ns)) (.tuple (dInts ns)) = true := by
  have h : ∀ ns : List Int, PyData.eqvAll (dInts ns) (dInts ns) = true := fun ns => by
    induction ns with
    | nil => simp [dInts, PyData.eqvAll]
    | cons n ns ih =>
      have ih' : PyData.eqvAll (List.map PyData.int ns) (List.map PyData.int ns) = true := ih
      simp [dInts, PyData.eqvAll, PyData.eqv, ih']
  simpa [PyData.eqv] using h ns
theorem shp_ints {ns : List Int} (h : ∀ n ∈ ns, 0 ≤ n ∧ n ≤ 1000000000000) : SeqAt.shaped (.tuple (dInts ns)) = true :=
  Fit.shaped (m := ns.length + 1) (k := 1) (j := 0) (fit_ints (Nat.le_refl _) fun n hn => by
    have := h n hn
    exact Nat.lt_of_le_of_lt (show n.natAbs ≤ 1000000000000 by omega) (by decide +kernel)) (by omega) (by omega)
theorem fn_any {P : Program} {w : World} {K : PySem.W.Frag} {mg : Str → Option Value} {base : Heap} {CX : CXT} {k N : Nat} {f : Addr} {fd : FuncData} {ps : List Str} {sp : Nat → Sp} (h : ∀ n, n ≤ N → FnOk P w K mg base CX k f fd ps (sp n)) :
    FnOk P w K mg base CX k f fd ps (fun vs H Q E => ∃ n, n ≤ N ∧ sp n vs H Q E) :=
  ⟨fun vs H Q E ⟨n, hn, z⟩ => (h n hn).len vs H Q E z, fun A outer s H args us vs Q E hr e0 hb r ⟨n, hn, z⟩ => (h n hn).run A outer s H args us vs Q E hr e0 hb r z⟩
def spLvA (K : PySem.W.Frag) : Sp := fun vs H Q E => ∃ n, n ≤ 4 ∧ spLv K n vs H Q E
theorem own_cnt {n : Nat} {x : Int} {p : Pr} (h : p.2 = .tuple [] ∨ OkT n p.2) : (own n (x, p)).length = cnP n p := by
  obtain ⟨w, d⟩ := p
  rcases h with z | z
  · cases (show d = .tuple [] from z)
    rw [own_E, cnP_E]
    rfl
  · rw [own_T (OkT.notE z), cnP_T (OkT.notE z)]
    exact lvs_len z
theorem flat_cut {as : List Int} {ps : List Pr} {i : Nat} {x : Int} {p : Pr} (f : Int × Pr → List Int) (h1 : as[i]? = some x) (h2 : ps[i]? = some p) : ∃ c, (as.zip ps).flatMap f = ((as.zip ps).take i).flatMap f ++ f (x, p) ++ c := by
  refine ⟨((as.zip ps).drop (i + 1)).flatMap f, ?_⟩
  rw [← flat_more f h1 h2, ← List.flatMap_append, List.take_append_drop]
theorem lvs_wrap {n : Nat} {t : Int} {d : PyData} (h : OkT n d) (t0 : 0 ≤ t) (t1 : t ≤ 1000000000000) : lvs (n + 1) t (dT [(7, d)]) = lvs n t d := by
  rw [lvs_dT]
  show ((parts t [7]).zip [(7, d)]).flatMap (own n) = _
  rw [parts_one t0 t1]
  show own n (t, 7, d) ++ [] = _
  rw [own_T h.notE, List.append_nil]
theorem cnt_wrap {n : Nat} {d : PyData} (h : OkT n d) : cnt (n + 1) (dT [(7, d)]) = cnt n d := by
  rw [cnt_dT]
  show cnP n (7, d) + 0 = _
  rw [cnP_T h.notE, Nat.add_zero]
theorem ok_wrap {n : Nat} {d : PyData} (h : OkT n d) : OkT (n + 1) (dT [(7, d)]) :=
  ⟨_, rfl, show Ws [7] from ⟨(by decide), (by decide), fun w hw => (by rw [List.mem_singleton.mp hw]; decide), (by decide)⟩, fun p hp => by
    rw [List.mem_singleton.mp hp]
    exact .inr h⟩
section
variable {P : Program} {w : World} {K : PySem.W.Frag} {mg : Str → Option Value} {base : Heap}
def spRt (K : PySem.W.Frag) : Sp := fun vs H Q _ => ∃ (v : V) (t : Int) (d : PyData), vs = [.int t, v] ∧ 0 ≤ t ∧ t ≤ 1000000000000 ∧ Dp K H v d ∧ OkT 3 d ∧ cnt 3 d ≤ 60 ∧ ∀ H', Same H H' → Q (.bl true) H'
theorem ok_rt {f fS fLv fMy fAt : Addr} {fd fdS fdLv fdMy fdAt : FuncData} (F : Fun K "_law_right" "_law_right" sRt f fd)
    (GS : FnOk P w K mg base CX0 3 fS fdS ["total", "weights"] (spL K parts)) (kS : PySem.W.keepIn K (.ref fS) = true) (bS : Binds K fdS ["total", "weights"] []) (gS : mg "split" = some (.ref fS))
    (GLv : FnOk P w K mg base CX0 8 fLv fdLv ["total", "tree"] (spLvA K)) (kLv : PySem.W.keepIn K (.ref fLv) = true) (bLv : Binds K fdLv ["total", "tree"] []) (gLv : mg "leaves" = some (.ref fLv))
    (GMy : FnOk P w K mg base CX0 4 fMy fdMy ["_law_tree_here"] (spMy K 3)) (kMy : PySem.W.keepIn K (.ref fMy) = true) (bMy : Binds K fdMy ["_law_tree_here"] []) (gMy : mg "_law_many" = some (.ref fMy))
    (GAt : FnOk P w K mg base CX0 8 fAt fdAt ["_law_total", "_law_tree_here"] (spAt K 3)) (kAt : PySem.W.keepIn K (.ref fAt) = true) (bAt : Binds K fdAt ["_law_total", "_law_tree_here"] []) (gAt : mg "_law_all_let" = some (.ref fAt))
    (m_tuple : mg "tuple" = none) (m_zip : mg "zip" = none) (m_sum : mg "sum" = none) (m_len : mg "len" = none) (m_min : mg "min" = none) :
    FnOk P w K mg base CX0 9 f fd ["_law_total", "_law_tree_here"] (spRt K) := by
  refine F.ok scRt (fun vs H Q E h => ?_) (fun cdv A outer s H vs Q E hr h => ?_)
  · obtain ⟨v, t, d, rfl, _⟩ := h
    rfl
  · obtain ⟨v, t, d, rfl, t0, t1, hd, okt, hc, q⟩ := h
    obtain ⟨ps, rfl, hw, hp⟩ := id okt
    refine ⟨_, (pss_cons (ps_par (i := 2) (j := 3) (by rfl) scRt.nd rfl rfl (by decide) rfl rfl (pa_cons (pe_call GLv (hr.mono (by omega)) (by rfl) gLv kLv bLv .nil pass0 (pa_cons (pv 0) (pa_cons (pv 1) pa_nil))) (pa_cons (pe_callTy call_tuple_of (by rfl) m_tuple (by decide +kernel) (pa_cons (pe_lc (own := [("_law_weight", 7), ("_law_below", 8)]) (g := gTup K 2 (gCons (gName 7) (gCons (gName 8) gNil))) (tt := tYes) rfl scRt.nd (pi_tup (pv 1)) (blkOk_by (own := [("_law_weight", 7), ("_law_below", 8)]) (N := ["_law_total", "_law_tree_here", "_law_told", "_law_weights_here", "_law_parts", "_law_at", "_law_part", "_law_weight", "_law_below", "_law_own"]) (sc := defScope sRt) (by decide +kernel)) (fun _ _ _ _ _ => (pg_tup rfl (pgs_cons (pg_name (i := 7) scRt.nd rfl (.inl rfl)) (pgs_cons (pg_name (i := 8) scRt.nd rfl (.inl rfl)) pgs_nil)))) (fun _ _ _ _ _ => pts_nil) (fun _ _ _ _ _ => (pv 7))) pa_nil)) pa_nil)) (by rfl))
      (pss_cons (ps_set (i := 4) scRt.nd rfl (.inl rfl) (pe_call GS (hr.mono (by omega)) (by rfl) gS kS bS .nil pass0 (pa_cons (pv 0) (pa_cons (pv 3) pa_nil))))
      (pss_cons (ps_if (PW.pt (pw_or (pt_cmpR op_ne (pe_callB (call_sumT rfl) (by rfl) m_sum (by decide +kernel) (pa_cons (pv 2) pa_nil)) (pv 0) (nomark _)) (pw_or (pt_cmpR op_ne (pe_callB call_len_seq (by rfl) m_len (by decide +kernel) (pa_cons (pv 2) pa_nil)) (pe_call GMy (hr.mono (by omega)) (by rfl) gMy kMy bMy .nil pass0 (pa_cons (pv 1) pa_nil)) (nomark _)) (pw_or1 (pt_cmpR op_lt (pe_callB (call_minT rfl) (by rfl) m_min (by decide +kernel) (pa_cons (pv 2) pa_nil)) pe_int (nomark _)))))) (pss_one (ps_ret pe_bl)) pss_nil)
      (pss_cons (ps_if (pt_not (pt_val (pe_call GAt (hr.mono (by omega)) (by rfl) gAt kAt bAt .nil pass0 (pa_cons (pv 0) (pa_cons (pv 1) pa_nil))))) (pss_one (ps_ret pe_bl)) pss_nil)
      (pss_cons (ps_set (i := 5) scRt.nd rfl (.inl rfl) pe_int)
      (pss_cons (ps_for PassesOwn.never rfl (RZ.pi_zipA (by rfl) m_zip (pa_cons (pv 4) (pa_cons (pv 1) pa_nil))) (pg_tup rfl (pgs_cons (pg_name (i := 6) scRt.nd rfl (.inl rfl)) (pgs_cons (pg_tup rfl (pgs_cons (pg_name (i := 7) scRt.nd rfl (.inl rfl)) (pgs_cons (pg_name (i := 8) scRt.nd rfl (.inl rfl)) pgs_nil))) pgs_nil))) (pss_cons (ps_cut (ps_set (i := 9) scRt.nd rfl (.inl rfl) (pe_ifExp (pt_cmpR (op_eqD hr.units) (pv 8) (pe_tup pa_nil) (nomark _)) (pe_tup (pa_cons (pv 6) pa_nil)) (pe_call GLv (hr.mono (by omega)) (by rfl) gLv kLv bLv .nil pass0 (pa_cons (pv 6) (pa_cons (pv 8) pa_nil))))))
      (pss_cons (ps_cut (ps_if (PW.pt (pw_or (pt_cmpR (op_neD hr.units) (pe_slice sl_tupA (pv 2) (po_some (pv 5)) (po_some (pe_op op_add (pv 5) (pe_callB call_len_seq (by rfl) m_len (by decide +kernel) (pa_cons (pv 9) pa_nil))))) (pv 9) (nomark _)) (pw_or1 (PW.pt (pw_and (pt_cmpR op_eq (pv 7) pe_int (nomark _)) (pw_and1 (pt_cmpR op_ne (pe_callB (call_sumT rfl) (by rfl) m_sum (by decide +kernel) (pa_cons (pv 9) pa_nil)) pe_int (nomark _)))))))) (pss_one (ps_ret pe_bl)) pss_nil))
      (pss_one (ps_aug (i := 5) scRt.nd rfl (.inl rfl) (pe_callB call_len_seq (by rfl) m_len (by decide +kernel) (pa_cons (pv 9) pa_nil)) ip_add)))))
      (pss_cons (ps_if (pt_cmpR (op_neD hr.units) (pe_call GLv (hr.mono (by omega)) (by rfl) gLv kLv bLv .nil pass0 (pa_cons (pv 0) (pa_cons (pe_tup (pa_cons (pe_tup (pa_cons pe_int (pa_cons (pv 1) pa_nil))) pa_nil)) pa_nil))) (pv 2) (nomark _)) (pss_one (ps_ret pe_bl)) pss_nil)
      (pss_one (ps_ret (pe_cmpR (op_eqD hr.units) (pe_call GLv (hr.mono (by omega)) (by rfl) gLv kLv bLv .nil pass0 (pa_cons (pv 0) (pa_cons (pe_callTy call_tuple_of (by rfl) m_tuple (by decide +kernel) (pa_cons (pe_lc (own := [("_law_weight", 7)]) (g := gName 7) (tt := tYes) rfl scRt.nd (pi_tup (pv 3)) (blkOk_by (own := [("_law_weight", 7)]) (N := ["_law_total", "_law_tree_here", "_law_told", "_law_weights_here", "_law_parts", "_law_at", "_law_part", "_law_weight", "_law_below", "_law_own"]) (sc := defScope sRt) (by decide +kernel)) (fun _ _ _ _ _ => (pg_name (i := 7) scRt.nd rfl (.inl rfl))) (fun _ _ _ _ _ => pts_nil) (fun _ _ _ _ _ => (pe_tup (pa_cons (pv 7) (pa_cons (pe_tup pa_nil) pa_nil))))) pa_nil)) pa_nil))) (pv 4) (nomark _))))))))))), ?_⟩
    have ok := hw.ok t0 t1
    obtain ⟨lsum, lall⟩ := lvs_all okt t0 t1
    have llen := lvs_len (t := t) okt
    obtain ⟨a, xs, rfl, ha, da⟩ := Dp.tup_inv hd
    have ln := DpAll.len da
    rw [List.length_map] at ln
    have pl : ps.length ≤ 12 := by
      have := hw.n1
      rwa [List.length_map] at this
    refine ⟨_, rfl, _, rfl, 3, by decide, _, t, dT ps, rfl, t0, t1, hd, okt, by omega, fun H1 r1 s1 e1 => ?_⟩
    refine ⟨_, rfl, a, rfl, ⟨_, TB.Same.tup s1 ha⟩, fun D nD => ?_⟩
    refine lc_tup (xs := xs) (fun i G => Same H1 G ∧ G D = some (.lst (((ps.take i).map Prod.fst).map V.int))) ⟨same_upd nD, upd_same⟩ (fun i G _ hP => TB.Same.tup (s1.trans hP.1) ha) (fun i x G hx hP => ?_) (fun G hP => ?_)
    · obtain ⟨sm, eG⟩ := hP
      obtain ⟨p, hpi, dx⟩ := dp_items da hx
      obtain ⟨b, y, rfl, hb, _⟩ := dp_pair (Dp.same (s1.trans sm) _ _ dx)
      refine ⟨b, _, rfl, hb, rfl, _, _, rfl, _, _, rfl, rfl, rfl, yes (iteT ?_)⟩
      refine ⟨_, rfl, _, eG, ?_, same_new nD sm, ?_⟩
      · rw [List.length_map, List.length_map]
        have := List.length_take_le' i ps
        exact small1000 (by omega)
      · rw [upd_same, map_take_more hpi, List.map_append]
        rfl
    obtain ⟨sm, eG⟩ := hP
    rw [List.take_of_length_le (by omega)] at eG
    refine ⟨D, _, rfl, .inl ⟨.inl (.inl eG), fun tp ntp => ?_⟩⟩
    have sp := same_upd (o := .tup ((ps.map Prod.fst).map V.int)) ntp
    have ep : (upd G tp (.tup ((ps.map Prod.fst).map V.int))) tp = some (.tup ((ps.map Prod.fst).map V.int)) := upd_same
    have s2 := s1.trans (sm.trans sp)
    have e2 := (sm.trans sp) _ _ e1
    generalize upd G tp (.tup ((ps.map Prod.fst).map V.int)) = H2 at *
    refine ⟨_, _, rfl, ?_⟩
    show tSeq _ _ _ [some (.int t), some (.ref a), some (.ref r1), some (.ref tp), none, none, none, none, none, none] _
    refine ⟨_, rfl, _, rfl, tp, t, ps.map Prod.fst, rfl, .inl (.inl ep), ok, fun H3 r3 s3 n3 e3 => ?_⟩
    have s4 := s2.trans s3
    have e4 := s3 _ _ e2
    have ep3 := s3 _ _ ep
    show tSeq _ _ _ [some (.int t), some (.ref a), some (.ref r1), some (.ref tp), some (.ref r3), none, none, none, none, none] _
    refine ⟨_, rfl, r1, _, rfl, .inl (.inl e4), _, rfl, rfl, _, rfl, ?_⟩
    change ite _ _ _
    refine iteNS (by rw [lsum]) ?_
    refine ⟨_, rfl, r1, _, rfl, .inr (.inl (.inl e4)), _, rfl, .ref a, dT ps, rfl, Dp.same s4 _ _ hd, okt, fun H5 s5 => ⟨rfl, _, rfl, ?_⟩⟩
    change ite _ _ _
    refine iteNS (by rw [List.length_map, llen]) ?_
    have s6 := s4.trans s5
    have e5 := s5 _ _ e4
    refine ⟨_, rfl, r1, _, rfl, .inl (.inl e5), by rw [llen]; exact cnt_pos okt, fun m hm _ => ⟨_, _, rfl, rfl, _, rfl, ?_⟩⟩
    change ite _ _ _
    have m0 := (lall m hm).1
    refine ite2 (fun c => ?_) (fun _ => ?_)
    · have := of_decide_eq_true c
      omega
    show tSeq _ _ _ [some (.int t), some (.ref a), some (.ref r1), some (.ref tp), some (.ref r3), none, none, none, none, none] _
    refine ⟨_, rfl, _, rfl, _, t, dT ps, rfl, t0, t1, Dp.same s6 _ _ hd, okt, fun H6 s7 => ⟨_, rfl, ?_⟩⟩
    change ite _ _ _
    refine iteF ?_
    have s8 := s6.trans s7
    have e6 := s7 _ _ e5
    have er6 := (s5.trans s7) _ _ e3
    have ep6 := (s5.trans s7) _ _ ep3
    show tSeq (tAsg (tC (.int 0)) (gName 5)) _ _ [some (.int t), some (.ref a), some (.ref r1), some (.ref tp), some (.ref r3), none, none, none, none, none] _
    show tSeq _ _ _ [some (.int t), some (.ref a), some (.ref r1), some (.ref tp), some (.ref r3), some (.int 0), none, none, none, none] _
    refine ⟨_, rfl, _, rfl, r3, a, _, _, rfl, .inr ⟨.inl (.inl er6), TB.Same.tup s8 ha, ?_⟩⟩
    have pln := pl_len t ps
    refine for_it (walk_zT (xs := (parts t (ps.map Prod.fst)).map V.int) (ys := xs) (n := ps.length) (by rw [List.length_map]; omega)) (fun i σ G => ∃ y6 y7 y8 y9, σ = [some (.int t), some (.ref a), some (.ref r1), some (.ref tp), some (.ref r3), some (.int ((((((parts t (ps.map Prod.fst)).zip ps).take i).flatMap (own 2)).length : Nat) : Int)), y6, y7, y8, y9] ∧ Same H6 G) ⟨_, _, _, _, rfl, Same.refl _⟩ ?_ ?_ ?_
    · rintro i σ G _ ⟨y6, y7, y8, y9, rfl, sg⟩
      exact ⟨.inl (.inl (sg _ _ er6)), TB.Same.tup (s8.trans sg) ha⟩
    · rintro i x σ G G2 hi ⟨y6, y7, y8, y9, rfl, sg⟩ ⟨T, u, v, rfl, nT, rfl, hu, hv⟩
      obtain ⟨part, hui, rfl⟩ := map_int hu
      obtain ⟨p, hpi, dx⟩ := dp_items da hv
      have sT := same_upd (o := .tup [.int part, v]) nT
      have eT : (upd G T (.tup [.int part, v])) T = some (.tup [.int part, v]) := upd_same
      have sg2 := sg.trans sT
      generalize upd G T (.tup [.int part, v]) = G2 at *
      obtain ⟨b, y, rfl, hb, dy⟩ := dp_pair (Dp.same (s8.trans sg2) _ _ dx)
      have pb := hp p (List.mem_of_getElem? hpi)
      obtain ⟨pr0, pr1⟩ := part_ok ok (List.mem_of_getElem? hui)
      obtain ⟨cc, ecut⟩ := flat_cut (own 2) hui hpi
      rw [← lvs_dT] at ecut
      have mo := flat_more (own 2) hui hpi
      refine ⟨T, _, rfl, .inl (.inl eT), rfl, _, _, rfl, _, _, rfl, ⟨b, _, rfl, hb, rfl, _, _, rfl, _, _, rfl, rfl, rfl, ?_⟩⟩
      generalize (((parts t (ps.map Prod.fst)).zip ps).take i).flatMap (own 2) = acc at *
      show tSeq _ _ _ [some (.int t), some (.ref a), some (.ref r1), some (.ref tp), some (.ref r3), some (.int (acc.length : Int)), some (.int part), some (.int p.1), some y, y9] _
      refine ⟨fun σ' G' => ∃ r9, σ' = [some (.int t), some (.ref a), some (.ref r1), some (.ref tp), some (.ref r3), some (.int (acc.length : Int)), some (.int part), some (.int p.1), some y, some (.ref r9)] ∧ Same H6 G' ∧ G' r9 = some (.tup ((own 2 (part, p)).map V.int)), ?_, ?_⟩
      · refine ⟨_, rfl, Nat.zero_le _, fun z nz => ?_⟩
        have sz := same_upd (o := .tup []) nz
        have ez : (upd G2 z (.tup [])) z = some (.tup []) := upd_same
        have dy2 := Dp.same sz _ _ dy
        have sg3 := sg2.trans sz
        generalize upd G2 z (.tup []) = G3 at *
        refine ⟨p.2, .tuple [], dy2, .tup (.inl (.inl ez)) .nil, okt_shaped pb (by decide), rfl, _, rfl, ?_⟩
        rw [eqv_E pb]
        obtain ⟨pw, pd⟩ := p
        rcases pb with pb | pb
        · cases (show pd = .tuple [] from pb)
          refine iteT ⟨_, rfl, by show (1 : Nat) ≤ sizeLine; decide, fun t9 n9 => ?_⟩
          refine ⟨t9, rfl, sg3.trans (same_upd n9), ?_⟩
          rw [upd_same, own_E]
          rfl
        · have ne := OkT.notE pb
          have ne' : isE pd = false := ne
          rw [ne]
          refine iteF ⟨_, rfl, _, rfl, 2, by decide, y, part, pd, rfl, pr0, Int.le_trans pr1 t1, dy2, pb, Nat.le_trans (cnt_sub (List.mem_of_getElem? hpi) ne) (show cnt 3 (dT ps) ≤ 200 by omega), fun G4 r4 s9 e9 => ?_⟩
          refine ⟨r4, rfl, sg3.trans s9, ?_⟩
          rw [own_T ne']
          exact e9
      · rintro σ' G' ⟨r9, rfl, sg3, e9⟩
        have osum : (own 2 (part, p)).sum = part ∧ ∀ z ∈ own 2 (part, p), 0 ≤ z ∧ z ≤ 1000000000000 := by
          obtain ⟨pw, pd⟩ := p
          rcases pb with pb | pb
          · cases (show pd = .tuple [] from pb)
            rw [own_E]
            refine ⟨by simp, fun z hz => ?_⟩
            rw [List.mem_singleton.mp hz]
            omega
          · rw [own_T (OkT.notE pb)]
            obtain ⟨u1, u2⟩ := lvs_all pb pr0 (Int.le_trans pr1 t1)
            exact ⟨u1, fun z hz => ⟨(u2 z hz).1, by have := (u2 z hz).2; omega⟩⟩
        have z0 : p.1 = 0 → part = 0 := fun z => by
          have h0 : (ps.map Prod.fst)[i]? = some 0 := by
            rw [List.getElem?_map, hpi]
            show some p.1 = some 0
            rw [z]
          have := parts_zero ok h0
          rw [hui] at this
          exact Option.some.inj this
        generalize own 2 (part, p) = ow at *
        refine ⟨fun σ' G4 => σ' = [some (.int t), some (.ref a), some (.ref r1), some (.ref tp), some (.ref r3), some (.int (acc.length : Int)), some (.int part), some (.int p.1), some y, some (.ref r9)] ∧ Same H6 G4 ∧ G4 r9 = some (.tup (ow.map V.int)), ?_, ?_⟩
        refine ⟨_, rfl, _, rfl, _, rfl, _, rfl, _, rfl, r9, _, rfl, .inr (.inl (.inl e9)), _, _, rfl, rfl, _, rfl, slA (.inl (.inl (sg3 _ _ e6))) fun G4 r4 s9 e4 => ?_⟩
        rw [List.length_map, ecut, cut_mid] at e4
        have sg4 := sg3.trans s9
        refine ⟨_, rfl, .tuple (dInts ow), .tuple (dInts ow), .tup e4 (dp_ints _), .tup (.inl (.inl (s9 _ _ e9))) (dp_ints _), shp_ints osum.2, shp_ints osum.2, _, rfl, ?_⟩
        rw [eqv_tup]
        refine iteF ?_
        refine ⟨_, rfl, rfl, _, rfl, ?_⟩
        change ite _ _ _
        refine ite2 (fun c => ?_) (fun c => ?_)
        · have w0 : p.1 = 0 := by simpa using c
          have eo : ow.sum = 0 := by rw [osum.1, z0 w0]
          refine ⟨_, rfl, r9, _, rfl, .inl (.inl (s9 _ _ e9)), rfl, _, rfl, ?_⟩
          change ite _ _ _
          refine iteNS (by rw [eo]) ?_
          exact ⟨rfl, sg4, s9 _ _ e9⟩
        · exact ⟨rfl, sg4, s9 _ _ e9⟩
        rintro σ' G4 ⟨rfl, sg4, e10⟩
        refine ⟨_, rfl, _, rfl, r9, _, rfl, .inr (.inl (.inl e10)), _, _, rfl, rfl, ?_⟩
        refine ⟨some (.int part), some (.int p.1), some y, some (.ref r9), ?_, sg4⟩
        rw [mo, List.length_append, List.length_map, Int.natCast_add]
        rfl
    · rintro σ G ⟨y6, y7, y8, y9, rfl, sg⟩
      have sa := s8.trans sg
      have e7 := sg _ _ e6
      have er7 := sg _ _ er6
      have ep7 := sg _ _ ep6
      refine ⟨_, rfl, _, rfl, by show (2 : Nat) ≤ sizeLine; decide, fun t7 n7 => ?_⟩
      have s7' := same_upd (o := .tup [.int 7, .ref a]) n7
      have et7 : (upd G t7 (.tup [.int 7, .ref a])) t7 = some (.tup [.int 7, .ref a]) := upd_same
      generalize upd G t7 (.tup [.int 7, .ref a]) = G1 at *
      refine ⟨by show (1 : Nat) ≤ sizeLine; decide, fun t8 n8 => ?_⟩
      have s8' := same_upd (o := .tup [.ref t7]) n8
      have et8 : (upd G1 t8 (.tup [.ref t7])) t8 = some (.tup [.ref t7]) := upd_same
      generalize upd G1 t8 (.tup [.ref t7]) = G2 at *
      have sb := sa.trans (s7'.trans s8')
      refine ⟨4, by decide, .ref t8, t, dT [(7, dT ps)], rfl, t0, t1, ?_, ok_wrap okt, by rw [cnt_wrap okt]; omega, fun G3 r5 s9 e9 => ?_⟩
      · exact .tup (.inl (.inl et8)) (.cons (.tup (.inl (.inl (s8' _ _ et7))) (.cons (.int _) (.cons (Dp.same sb _ _ hd) .nil))) .nil)
      rw [lvs_wrap okt t0 t1] at e9
      have sc := sb.trans s9
      have sd := s7'.trans (s8'.trans s9)
      have l12 : ∀ z ∈ lvs 3 t (dT ps), 0 ≤ z ∧ z ≤ 1000000000000 := fun z hz => ⟨(lall z hz).1, by have := (lall z hz).2; omega⟩
      refine ⟨_, rfl, .tuple (dInts (lvs 3 t (dT ps))), .tuple (dInts (lvs 3 t (dT ps))), .tup (.inl (.inl e9)) (dp_ints _), .tup (.inl (.inl (sd _ _ e7))) (dp_ints _), shp_ints l12, shp_ints l12, _, rfl, ?_⟩
      rw [eqv_tup]
      refine iteF ?_
      have ep8 := sd _ _ ep7
      have er8 := sd _ _ er7
      refine ⟨_, rfl, _, rfl, tp, rfl, ⟨_, .inl (.inl ep8)⟩, fun D2 nD2 => ?_⟩
      refine lc_tup (xs := (ps.map Prod.fst).map V.int) (fun i G4 => Same G3 G4 ∧ Acc K G4 D2 ((flatP ((ps.map Prod.fst).take i)).map dP)) ⟨same_upd nD2, Acc.start⟩ (fun i G4 _ hP => .inl (.inl (hP.1 _ _ ep8))) (fun i x G4 hx hP => ?_) (fun G4 hP => ?_)
      · obtain ⟨sm4, ac⟩ := hP
        obtain ⟨w0, hw0, rfl⟩ := map_int hx
        refine ⟨rfl, yes (iteT ?_)⟩
        refine ⟨_, rfl, Nat.zero_le _, fun t5 n5 => ?_⟩
        have s5' := same_upd (o := .tup []) n5
        have e5' : (upd G4 t5 (.tup [])) t5 = some (.tup []) := upd_same
        generalize upd G4 t5 (.tup []) = G5 at *
        refine ⟨by show (2 : Nat) ≤ sizeLine; decide, fun t6 n6 => ?_⟩
        have s6' := same_upd (o := .tup [.int w0, .ref t5]) n6
        refine Acc.turn nD2 sm4 ac (s5'.trans s6') (d := dP (w0, .tuple [])) ?_ rfl ?_ ?_
        · exact .tup (.inl (.inl upd_same)) (.cons (.int _) (.cons (.tup (.inl (.inl (s6' _ _ e5'))) .nil) .nil))
        · rw [List.length_map]
          unfold flatP
          rw [List.length_map, List.length_take, List.length_map]
          omega
        · rw [take_more hw0]
          unfold flatP
          rw [List.map_append, List.map_append]
          rfl
      · obtain ⟨sm4, ac⟩ := hP
        obtain ⟨us, eD, dv⟩ := ac.ex
        rw [List.take_of_length_le (by simp)] at dv
        refine ⟨D2, _, rfl, .inl ⟨.inl (.inl eD), fun tq ntq => ?_⟩⟩
        have dq := Acc.tuple (D := D2) dv ntq
        have sq := same_upd (o := .tup us) ntq
        generalize upd G4 tq (.tup us) = G5 at *
        refine ⟨1, by decide, .ref tq, t, dT (flatP (ps.map Prod.fst)), rfl, t0, t1, dq, ok_flat hw 0, by rw [cnt_flat, List.length_map]; omega, fun G6 r6 s10 e10 => ?_⟩
        rw [lvs_flat] at e10
        have p12 : ∀ z ∈ parts t (ps.map Prod.fst), 0 ≤ z ∧ z ≤ 1000000000000 := fun z hz => ⟨(part_ok ok hz).1, by have := (part_ok ok hz).2; omega⟩
        have se := sm4.trans (sq.trans s10)
        refine ⟨_, rfl, .tuple (dInts (parts t (ps.map Prod.fst))), .tuple (dInts (parts t (ps.map Prod.fst))), .tup (.inl (.inl e10)) (dp_ints _), .tup (.inl (.inl (se _ _ er8))) (dp_ints _), shp_ints p12, shp_ints p12, ?_⟩
        rw [eqv_tup]
        exact q _ (sc.trans se)
end
end K13

set_option Elab.async false
set_option linter.all false
set_option maxRecDepth 100000
set_option maxHeartbeats 2000000
namespace K13
open PySem PySem.Spec PyProof.Rows L2 TB K09

theorem scAg : FnScope ["_law_feed_here", "_law_total", "_law_tree_here", "_law_places", "_law_k", "_law_below", "_law_ahead", "_law_told", "_law_other", "_law_weight", "_law_own"] ["_law_feed_here", "_law_total", "_law_tree_here"] (defScope sAg) := ⟨rfl, rfl, rfl, by decide +kernel, rfl, by decide +kernel, by decide +kernel⟩
theorem list_at {α : Type} : ∀ {l : List α} {k : Nat} {x : α}, l[k]? = some x → l = l.take k ++ x :: l.drop (k + 1)
  | [], _, _, h => by simp at h
  | y :: l, 0, x, h => by
    have : y = x := by simpa using h
    rw [this]
    rfl
  | y :: l, k + 1, x, h => by
    have := list_at (l := l) (k := k) (x := x) (by simpa using h)
    rw [List.take_succ_cons, List.drop_succ_cons, List.cons_append, ← this]
def aheadL (f : Int × Pr → List Int) (as : List Int) (ps : List Pr) (k : Nat) : List Int := ((as.take k).zip (ps.take k)).flatMap f
def behindL (f : Int × Pr → List Int) (as : List Int) (ps : List Pr) (k : Nat) : List Int := ((as.drop (k + 1)).zip (ps.drop (k + 1))).flatMap f
theorem flat_at {f : Int × Pr → List Int} {as : List Int} {ps : List Pr} {k : Nat} {x : Int} {p : Pr} (h1 : as[k]? = some x) (h2 : ps[k]? = some p) : (as.zip ps).flatMap f = aheadL f as ps k ++ f (x, p) ++ behindL f as ps k := by
  have l1 := (List.getElem?_eq_some_iff.mp h1).1
  have l2 := (List.getElem?_eq_some_iff.mp h2).1
  have e1 := list_at h1
  have e2 := list_at h2
  unfold aheadL behindL
  have : as.zip ps = (as.take k).zip (ps.take k) ++ (x, p) :: (as.drop (k + 1)).zip (ps.drop (k + 1)) := by
    conv => lhs; rw [e1, e2]
    rw [List.zip_append (by rw [List.length_take, List.length_take]; omega), List.zip_cons_cons]
  rw [this, List.flatMap_append, List.flatMap_cons, List.append_assoc]
/-- another pair in the place k -/
def putP (ps : List Pr) (k : Nat) (p : Pr) : List Pr := ps.take k ++ p :: ps.drop (k + 1)
theorem putP_at {ps : List Pr} {k : Nat} {p : Pr} (h : k < ps.length) : (putP ps k p)[k]? = some p := by
  unfold putP
  rw [List.getElem?_append_right (by rw [List.length_take]; omega), List.length_take, Nat.min_eq_left (by omega), Nat.sub_self]
  rfl
theorem putP_take {ps : List Pr} {k : Nat} {p : Pr} (h : k < ps.length) : (putP ps k p).take k = ps.take k := by
  unfold putP
  rw [List.take_append_of_le_length (by rw [List.length_take]; omega), List.take_take, Nat.min_self]
theorem putP_drop {ps : List Pr} {k : Nat} {p : Pr} (h : k < ps.length) : (putP ps k p).drop (k + 1) = ps.drop (k + 1) := by
  unfold putP
  have l : (ps.take k).length = k := by rw [List.length_take]; omega
  have : (ps.take k ++ p :: ps.drop (k + 1)).drop (k + 1) = (p :: ps.drop (k + 1)).drop 1 := by
    rw [List.drop_append, l, List.drop_of_length_le (by omega), Nat.add_sub_cancel_left]
    rfl
  rw [this]
  rfl
theorem putP_fst {ps : List Pr} {k : Nat} {w : Int} {b d : PyData} (h : ps[k]? = some (w, b)) : (putP ps k (w, d)).map Prod.fst = ps.map Prod.fst := by
  have e := list_at h
  unfold putP
  conv => rhs; rw [e]
  simp
theorem putP_mem {ps : List Pr} {k : Nat} {p q : Pr} (h : q ∈ putP ps k p) : q ∈ ps ∨ q = p := by
  unfold putP at h
  rcases List.mem_append.mp h with z | z
  · exact .inl (List.mem_of_mem_take z)
  · rcases List.mem_cons.mp z with z | z
    · exact .inr z
    · exact .inl (List.mem_of_mem_drop z)
/-- what _law_again_right looks at -/
theorem again {t : Int} {ps : List Pr} {k : Nat} {w : Int} {ws : List Int} (hw : Ws (ps.map Prod.fst)) (hp : ∀ p ∈ ps, p.2 = .tuple [] ∨ OkT 2 p.2) (hk : ps[k]? = some (w, .tuple [])) (h3 : Ws ws) (t0 : 0 ≤ t) (t1 : t ≤ 1000000000000) :
    ∃ (A C : List Int) (x : Int), lvs 3 t (dT ps) = A ++ [x] ++ C ∧ lvs 3 t (dT (putP ps k (w, dT (flatP ws)))) = A ++ parts x ws ++ C ∧ A.length = ((ps.take k).map (cnP 2)).sum ∧ (parts x ws).length = ws.length ∧ (parts x ws).sum = x ∧ OkT 3 (dT (putP ps k (w, dT (flatP ws)))) := by
  have kl := (List.getElem?_eq_some_iff.mp hk).1
  have pl := pl_len t ps
  have ok := hw.ok t0 t1
  have hx := getD_of (ls := parts t (ps.map Prod.fst)) (i := k) (by omega)
  generalize (parts t (ps.map Prod.fst)).getD k 0 = x at hx
  obtain ⟨x0, x1⟩ := part_ok ok (List.mem_of_getElem? hx)
  have ok2 := h3.ok x0 (Int.le_trans x1 t1)
  have ef := putP_fst (d := dT (flatP ws)) hk
  have okf : OkT 2 (dT (flatP ws)) := ok_flat h3 1
  refine ⟨aheadL (own 2) (parts t (ps.map Prod.fst)) ps k, behindL (own 2) (parts t (ps.map Prod.fst)) ps k, x, ?_, ?_, ?_, parts_len x ws, parts_sum ok2, ?_⟩
  · rw [lvs_dT, flat_at hx hk, own_E]
  · rw [lvs_dT, ef, flat_at hx (putP_at kl), own_T okf.notE, lvs_flat]
    unfold aheadL behindL
    rw [putP_take kl, putP_drop kl]
  · unfold aheadL
    refine zlen _ _ (by rw [List.length_take, List.length_take, pl]) fun y hy => ?_
    exact own_cnt (hp y.2 (List.mem_of_mem_take (zip_mem hy).2))
  · refine ⟨_, rfl, by rw [ef]; exact hw, fun p hm => ?_⟩
    rcases putP_mem hm with z | z
    · exact hp p z
    · rw [z]
      exact .inr okf
theorem cut_pre (a b : List Int) : cutV ((a ++ b).map V.int) none (some (a.length : Int)) = a.map V.int := by
  rw [cut_take, List.map_append, ← List.length_map (f := V.int) (as := a), List.take_left]
theorem cut_post (a b : List Int) {n : Int} (h : n = (a.length : Int)) : cutV ((a ++ b).map V.int) (some n) none = b.map V.int := by
  subst h
  unfold cutV
  rw [HT.sIx_nat, HT.sIx_none, Nat.min_eq_left (by rw [List.length_map, List.length_append]; omega), List.map_append, ← List.length_map (f := V.int) (as := a), List.drop_left, List.take_of_length_le (by rw [List.length_append]; omega)]
theorem cutV_takeN (xs : List V) (n : Nat) : cutV xs none (some (n : Int)) = xs.take n := cut_take xs n
theorem cutV_dropN (xs : List V) (n : Nat) (h : n ≤ xs.length) : cutV xs (some (n : Int)) none = xs.drop n := by
  unfold cutV
  rw [HT.sIx_nat, HT.sIx_none, Nat.min_eq_left h, List.take_of_length_le (by rw [List.length_drop]; omega)]
end K13

set_option Elab.async false
set_option linter.all false
set_option maxRecDepth 100000
set_option maxHeartbeats 4000000
namespace K13
open PySem PySem.Spec PyProof.Rows L2 TB K09

def spMyA (K : PySem.W.Frag) : Sp := fun vs H Q E => ∃ n, n ≤ 3 ∧ spMy K n vs H Q E
section
variable {P : Program} {w : World} {K : PySem.W.Frag} {mg : Str → Option Value} {base : Heap}
def spAg (K : PySem.W.Frag) : Sp := fun vs H Q _ => ∃ (L S : Addr) (T : Int) (v : V) (t : Int) (d : PyData), vs = [.ref L, .int t, v] ∧ Feed H L S T ∧ T < 99000 ∧ 0 ≤ t ∧ t ≤ 1000000000000 ∧ Dp K H v d ∧ OkT 3 d ∧ cnt 3 d ≤ 60 ∧
  ∀ H', But L H H' → Feed H' L S (T + 151) → Q (.bl true) H'
theorem ok_ag {f fR fW fLv fMy : Addr} {fd fdR fdW fdLv fdMy : FuncData} (F : Fun K "_law_again_right" "_law_again_right" sAg f fd)
    (GDr : FnOk P w K mg base CX0 1 fR fdR ["_law_feed_here", "_law_many_here"] spDraw) (kDr : PySem.W.keepIn K (.ref fR) = true) (bDr : Binds K fdR ["_law_feed_here", "_law_many_here"] []) (gDr : mg "_law_draw" = some (.ref fR))
    (GW : FnOk P w K mg base CX0 2 fW fdW ["_law_feed_here", "_law_many_here"] spWe) (kW : PySem.W.keepIn K (.ref fW) = true) (bW : Binds K fdW ["_law_feed_here", "_law_many_here"] []) (gW : mg "_law_weights" = some (.ref fW))
    (GLv : FnOk P w K mg base CX0 8 fLv fdLv ["total", "tree"] (spLvA K)) (kLv : PySem.W.keepIn K (.ref fLv) = true) (bLv : Binds K fdLv ["total", "tree"] []) (gLv : mg "leaves" = some (.ref fLv))
    (GMy : FnOk P w K mg base CX0 4 fMy fdMy ["_law_tree_here"] (spMyA K)) (kMy : PySem.W.keepIn K (.ref fMy) = true) (bMy : Binds K fdMy ["_law_tree_here"] []) (gMy : mg "_law_many" = some (.ref fMy))
    (m_tuple : mg "tuple" = none) (m_enumerate : mg "enumerate" = none) (m_sum : mg "sum" = none) (m_len : mg "len" = none) :
    FnOk P w K mg base CX0 9 f fd ["_law_feed_here", "_law_total", "_law_tree_here"] (spAg K) := by
  refine F.ok scAg (fun vs H Q E h => ?_) (fun cdv A outer s H vs Q E hr h => ?_)
  · obtain ⟨L, S, T, v, t, d, rfl, _⟩ := h
    rfl
  · obtain ⟨L, S, T, v, t, d, rfl, f0, hT, t0, t1, hd, okt, hc, q⟩ := h
    obtain ⟨ps, rfl, hw, hp⟩ := id okt
    refine ⟨_, (pss_cons (ps_setLc (i := 3) (own := [("_law_k", 4), ("_law_weight", 9), ("_law_below", 5)]) (g := gTup K 2 (gCons (gName 4) (gCons (gTup K 2 (gCons (gName 9) (gCons (gName 5) gNil))) gNil))) (tt := tTest (tOp (rEqD K) (tVar 5) (tTup tNil))) rfl scAg.nd rfl rfl (sw_true rfl rfl rfl (by decide +kernel)) (pi_enumT (by rfl) m_enumerate (pa_cons (pv 2) pa_nil)) (blkOk_by (own := [("_law_k", 4), ("_law_weight", 9), ("_law_below", 5)]) (N := ["_law_feed_here", "_law_total", "_law_tree_here", "_law_places", "_law_k", "_law_below", "_law_ahead", "_law_told", "_law_other", "_law_weight", "_law_own"]) (sc := defScope sAg) (by decide +kernel)) (fun _ _ _ _ _ => (pg_tup rfl (pgs_cons (pg_name (i := 4) scAg.nd rfl (.inl rfl)) (pgs_cons (pg_tup rfl (pgs_cons (pg_name (i := 9) scAg.nd rfl (.inl rfl)) (pgs_cons (pg_name (i := 5) scAg.nd rfl (.inl rfl)) pgs_nil))) pgs_nil)))) (fun _ _ _ _ _ => (pts_one (pt_cmpR (op_eqD hr.units) (pv 5) (pe_tup pa_nil) (nomark _)))) (fun _ _ _ _ _ => (pv 4)))
      (pss_cons (ps_if (pt_cmpR (op_eqD hr.units) (pv 3) (pe_lst pa_nil) (nomark _)) (pss_one (ps_ret pe_bl)) pss_nil)
      (pss_cons (ps_set (i := 4) scAg.nd rfl (.inl rfl) (pe_ix ix_list (pv 3) (pe_call GDr (hr.mono (by omega)) (by rfl) gDr kDr bDr .nil pass0 (pa_cons (pv 0) (pa_cons (pe_callB call_len_seq (by rfl) m_len (by decide +kernel) (pa_cons (pv 3) pa_nil)) pa_nil))) (fun _ _ => rfl)))
      (pss_cons (ps_set (i := 5) scAg.nd rfl (.inl rfl) (pe_callTy call_tuple_of (by rfl) m_tuple (by decide +kernel) (pa_cons (pe_lc (own := [("_law_weight", 9)]) (g := gName 9) (tt := tYes) rfl scAg.nd (pi_tup (pe_call GW (hr.mono (by omega)) (by rfl) gW kW bW .nil pass0 (pa_cons (pv 0) (pa_cons pe_int pa_nil)))) (blkOk_by (own := [("_law_weight", 9)]) (N := ["_law_feed_here", "_law_total", "_law_tree_here", "_law_places", "_law_k", "_law_below", "_law_ahead", "_law_told", "_law_other", "_law_weight", "_law_own"]) (sc := defScope sAg) (by decide +kernel)) (fun _ _ _ _ _ => (pg_name (i := 9) scAg.nd rfl (.inl rfl))) (fun _ _ _ _ _ => pts_nil) (fun _ _ _ _ _ => (pe_tup (pa_cons (pv 9) (pa_cons (pe_tup pa_nil) pa_nil))))) pa_nil)))
      (pss_cons (ps_set (i := 6) scAg.nd rfl (.inl rfl) (pe_callB (cr_sum rfl) (by rfl) m_sum (by decide +kernel) (pa_cons (pe_lc (own := [("_law_weight", 9), ("_law_own", 10)]) (g := gTup K 2 (gCons (gName 9) (gCons (gName 10) gNil))) (tt := tYes) (te := tIf (tTest (tOp (rEqD K) (tVar 10) (tTup tNil))) (tC (.int 1)) (tCall (spMyA K) [] E0 (tCons (tVar 10) tNil))) rfl scAg.nd (pi_tup (pe_slice sl_tupA (pv 2) po_none (po_some (pv 4)))) (blkOk_by (own := [("_law_weight", 9), ("_law_own", 10)]) (N := ["_law_feed_here", "_law_total", "_law_tree_here", "_law_places", "_law_k", "_law_below", "_law_ahead", "_law_told", "_law_other", "_law_weight", "_law_own"]) (sc := defScope sAg) (by decide +kernel)) (fun _ _ _ _ _ => (pg_tup rfl (pgs_cons (pg_name (i := 9) scAg.nd rfl (.inl rfl)) (pgs_cons (pg_name (i := 10) scAg.nd rfl (.inl rfl)) pgs_nil)))) (fun _ _ _ _ _ => pts_nil) (fun _ _ _ _ _ => (pe_ifExp (pt_cmpR (op_eqD hr.units) (pv 10) (pe_tup pa_nil) (nomark _)) pe_int (pe_call GMy (hr.mono (by omega)) (by rfl) gMy kMy bMy .nil pass0 (pa_cons (pv 10) pa_nil))))) pa_nil)))
      (pss_cons (ps_set (i := 7) scAg.nd rfl (.inl rfl) (pe_call GLv (hr.mono (by omega)) (by rfl) gLv kLv bLv .nil pass0 (pa_cons (pv 1) (pa_cons (pv 2) pa_nil))))
      (pss_cons (ps_set (i := 8) scAg.nd rfl (.inl rfl) (pe_call GLv (hr.mono (by omega)) (by rfl) gLv kLv bLv .nil pass0 (pa_cons (pv 1) (pa_cons (pe_op op_catA (pe_op op_catA (pe_slice sl_tupA (pv 2) po_none (po_some (pv 4))) (pe_tup (pa_cons (pe_tup (pa_cons (pe_ix ix_tup (pe_ix ix_tup (pv 2) (pv 4) (fun _ _ => rfl)) pe_int (fun _ _ => rfl)) (pa_cons (pv 5) pa_nil))) pa_nil))) (pe_slice sl_tupA (pv 2) (po_some (pe_op op_add (pv 4) pe_int)) po_none)) pa_nil))))
      (pss_cons (ps_if (PW.pt (pw_or (pt_cmpR (op_neD hr.units) (pe_slice sl_tupA (pv 8) po_none (po_some (pv 6))) (pe_slice sl_tupA (pv 7) po_none (po_some (pv 6))) (nomark _)) (pw_or1 (pt_cmpR (op_neD hr.units) (pe_slice sl_tupA (pv 8) (po_some (pe_op op_add (pv 6) (pe_callB call_len_seq (by rfl) m_len (by decide +kernel) (pa_cons (pv 5) pa_nil)))) po_none) (pe_slice sl_tupA (pv 7) (po_some (pe_op op_add (pv 6) pe_int)) po_none) (nomark _))))) (pss_one (ps_ret pe_bl)) pss_nil)
      (pss_one (ps_ret (pe_cmpR op_eq (pe_callB (call_sumT rfl) (by rfl) m_sum (by decide +kernel) (pa_cons (pe_slice sl_tupA (pv 8) (po_some (pv 6)) (po_some (pe_op op_add (pv 6) (pe_callB call_len_seq (by rfl) m_len (by decide +kernel) (pa_cons (pv 5) pa_nil))))) pa_nil)) (pe_ix ix_tup (pv 7) (pv 6) (fun _ _ => rfl)) (nomark _)))))))))))), ?_⟩
    have ok := hw.ok t0 t1
    have nL := okt_noL okt
    obtain ⟨lsum, lall⟩ := lvs_all okt t0 t1
    have llen := lvs_len (t := t) okt
    obtain ⟨a, xs, rfl, ha, da⟩ := Dp.tup_inv hd
    have ln := DpAll.len da
    rw [List.length_map] at ln
    have pl : ps.length ≤ 12 := by
      have := hw.n1
      rwa [List.length_map] at this
    refine ⟨_, rfl, a, _, rfl, ha, fun D nD => ?_⟩
    refine lc_it (walk_ET (xs := xs)) (fun i G => Same H G ∧ ∃ js : List Int, G D = some (.lst (js.map V.int)) ∧ (∀ j ∈ js, ∃ k : Nat, j = (k : Int) ∧ ∃ w, ps[k]? = some (w, .tuple [])) ∧ js.length ≤ i) ⟨same_upd nD, [], upd_same, fun j hj => (by cases hj), Nat.le_refl _⟩ ?_ ?_ ?_
    · rintro i G _ ⟨sg, _⟩
      exact TB.Same.tup sg ha
    · rintro i x G G1 hi ⟨sg, js, eD, hj, jl⟩ ⟨tT, u, v, rfl, nT, rfl, hu, hv⟩
      obtain rfl := Option.some.inj hu
      obtain ⟨p, hpi, dx⟩ := dp_items da hv
      have sT := same_upd (o := .tup [.int (i : Nat), v]) nT
      have eT : (upd G tT (.tup [.int (i : Nat), v])) tT = some (.tup [.int (i : Nat), v]) := upd_same
      have eD2 := sT _ _ eD
      have sg2 := sg.trans sT
      generalize upd G tT (.tup [.int (i : Nat), v]) = G1 at *
      obtain ⟨b, y, rfl, hb, dy⟩ := dp_pair (Dp.same sg2 _ _ dx)
      have pb := hp p (List.mem_of_getElem? hpi)
      refine ⟨tT, _, rfl, .inl (.inl eT), rfl, _, _, rfl, _, _, rfl, ⟨b, _, rfl, hb, rfl, _, _, rfl, _, _, rfl, rfl, rfl, rfl, ?_⟩⟩
      refine ⟨_, rfl, Nat.zero_le _, fun z nz => ?_⟩
      have sz := same_upd (o := .tup []) nz
      have ez : (upd G1 z (.tup [])) z = some (.tup []) := upd_same
      have dy2 := Dp.same sz _ _ dy
      have sg3 := sg2.trans sz
      have eD3 := sz _ _ eD2
      generalize upd G1 z (.tup []) = G3 at *
      refine ⟨p.2, .tuple [], dy2, .tup (.inl (.inl ez)) .nil, okt_shaped pb (by decide), rfl, _, rfl, ?_⟩
      rw [eqv_E pb]
      rcases pb with pb | pb
      · rw [pb]
        refine iteT ⟨_, rfl, _, eD3, ?_, same_new nD sg3, js ++ [(i : Int)], ?_, fun j hjm => ?_, ?_⟩
        · rw [List.length_map]
          exact small1000 (by omega)
        · rw [upd_same, List.map_append]
          rfl
        · rcases List.mem_append.mp hjm with z | z
          · exact hj j z
          · refine ⟨i, List.mem_singleton.mp z, p.1, ?_⟩
            rw [hpi]
            obtain ⟨pw, pd⟩ := p
            cases (show pd = .tuple [] from pb)
            rfl
        · rw [List.length_append]
          exact Nat.succ_le_succ jl
      · rw [pb.notE]
        exact iteF ⟨sg3, js, eD3, hj, by omega⟩
    rintro G ⟨sg, js, eD, hj, jl⟩
    show tSeq _ _ _ [some (.ref L), some (.int t), some (.ref a), some (.ref D), none, none, none, none, none, none, none] _
    refine ⟨_, rfl, Nat.zero_le _, fun z nz => ?_⟩
    have sz := same_upd (o := .lst []) nz
    have ez : (upd G z (.lst [])) z = some (.lst []) := upd_same
    have eD1 := sz _ _ eD
    have s1 := sg.trans sz
    generalize upd G z (.lst []) = G1 at *
    refine ⟨.list (dInts js), .list [], .lst (.inl (.inl eD1)) (dp_ints js), .lst (.inl (.inl ez)) .nil, shaped_ints js, rfl, _, rfl, ?_⟩
    rw [eqv_nil]
    refine ite2 (fun c => ?_) (fun c => ?_)
    · exact q _ (But.of s1) ((f0.same s1).mono (by omega))
    have jne : js ≠ [] := fun z => c (decide_eq_true z)
    have jp : 0 < js.length := List.length_pos_iff.mpr jne
    have f1 := f0.same s1
    have DL := (f0.ne nD).1
    refine ⟨_, rfl, _, rfl, _, rfl, D, _, rfl, .inl (.inl (.inl eD1)), L, S, _, T, rfl, by rw [List.length_map]; omega, by rw [List.length_map]; omega, f1, by omega, fun H2 vj k2 f2 v0 v1 => ?_⟩
    rw [List.length_map] at v1
    have eD2 := k2 _ _ DL eD1
    obtain ⟨n0, hn0⟩ : ∃ n : Nat, vj = (n : Int) := ⟨_, (Int.toNat_of_nonneg v0).symm⟩
    subst hn0
    have hjn := List.getElem?_eq_getElem (show n0 < js.length by omega)
    obtain ⟨k, ek, wk, hk⟩ := hj _ (List.mem_of_getElem? hjn)
    rw [ek] at hjn
    refine ⟨D, _, _, _, rfl, rfl, .inl (.inl eD2), atI_nat (j := n0) (by rw [List.getElem?_map, hjn]; rfl), ?_⟩
    have kl := (List.getElem?_eq_some_iff.mp hk).1
    have kall : But L H H2 := (But.of s1).trans k2
    have hd2 := f1.dpB (Dp.same s1 _ _ hd) nL k2
    show tSeq _ _ _ [some (.ref L), some (.int t), some (.ref a), some (.ref D), some (.int (k : Int)), none, none, none, none, none, none] _
    refine ⟨_, rfl, L, S, 3, _, rfl, by decide, by decide, f2, by omega, fun H3 r ws k3 f3 er hws wl => ?_⟩
    have hd3 := f2.dpB hd2 nL k3
    have kall3 := kall.trans k3
    refine ⟨r, rfl, ⟨_, .inl (.inl er)⟩, fun D3 nD3 => ?_⟩
    refine lc_tup (xs := ws.map V.int) (fun i G4 => Same H3 G4 ∧ Acc K G4 D3 ((flatP (ws.take i)).map dP)) ⟨same_upd nD3, Acc.start⟩ (fun i G4 _ hP => .inl (.inl (hP.1 _ _ er))) (fun i x G4 hx hP => ?_) (fun G4 hP => ?_)
    · obtain ⟨sm4, ac⟩ := hP
      obtain ⟨w0, hw0, rfl⟩ := map_int hx
      refine ⟨rfl, yes (iteT ?_)⟩
      refine ⟨_, rfl, Nat.zero_le _, fun t5 n5 => ?_⟩
      have s5' := same_upd (o := .tup []) n5
      have e5' : (upd G4 t5 (.tup [])) t5 = some (.tup []) := upd_same
      generalize upd G4 t5 (.tup []) = G5 at *
      refine ⟨by show (2 : Nat) ≤ sizeLine; decide, fun t6 n6 => ?_⟩
      have s6' := same_upd (o := .tup [.int w0, .ref t5]) n6
      refine Acc.turn nD3 sm4 ac (s5'.trans s6') (d := dP (w0, .tuple [])) ?_ rfl ?_ ?_
      · exact .tup (.inl (.inl upd_same)) (.cons (.int _) (.cons (.tup (.inl (.inl (s6' _ _ e5'))) .nil) .nil))
      · rw [List.length_map]
        unfold flatP
        rw [List.length_map, List.length_take]
        omega
      · rw [take_more hw0]
        unfold flatP
        rw [List.map_append, List.map_append]
        rfl
    obtain ⟨sm4, ac⟩ := hP
    obtain ⟨us, eD4, dv⟩ := ac.ex
    rw [List.take_of_length_le (by simp)] at dv
    refine ⟨D3, _, rfl, .inl ⟨.inl (.inl eD4), fun tq ntq => ?_⟩⟩
    have dq := Acc.tuple (D := D3) dv ntq
    have eq0 : (upd G4 tq (.tup us)) tq = some (.tup us) := upd_same
    have usl := DpAll.len dv
    have sq := same_upd (o := .tup us) ntq
    have s5 := sm4.trans sq
    have f5 := f3.same s5
    have kall5 := kall3.same s5
    have hd5 := Dp.same s5 _ _ hd3
    generalize upd G4 tq (.tup us) = H5 at *
    have usl2 : us.length = ws.length := by
      rw [usl, List.length_map]
      unfold flatP
      rw [List.length_map]
    obtain ⟨LA, LC, x, e1, e2, elA, elw, esum, okn⟩ := again (t := t) (ws := ws) hw hp hk hws t0 t1
    show tSeq _ _ _ [some (.ref L), some (.int t), some (.ref a), some (.ref D), some (.int (k : Int)), some (.ref tq), none, none, none, none, none] _
    obtain ⟨a', xs5, ea, ha5, da5⟩ := Dp.tup_inv hd5
    cases ea
    have ln5 := DpAll.len da5
    rw [List.length_map] at ln5
    refine ⟨_, rfl, ?_⟩
    show tNoPart _ _ _
    unfold tNoPart
    refine ⟨_, rfl, _, rfl, slA ha5 fun H6 r6 s6 e6 => ?_⟩
    rw [cutV_takeN] at e6
    refine ⟨r6, rfl, ⟨_, e6⟩, fun D6 nD6 => ?_⟩
    refine lc_tup (xs := xs5.take k) (fun i G => Same H6 G ∧ G D6 = some (.lst ((((ps.take i).map (cnP 2)).map fun n : Nat => (n : Int)).map V.int))) ⟨same_upd nD6, upd_same⟩ (fun i G _ hP => TB.Same.tup hP.1 e6) (fun i y0 G hx hP => ?_) (fun G hP => ?_)
    · obtain ⟨sm6, eG⟩ := hP
      have ik : i < k := by
        have := (List.getElem?_eq_some_iff.mp hx).1
        rw [List.length_take] at this
        omega
      rw [List.getElem?_take, if_pos ik] at hx
      obtain ⟨p, hpi, dx⟩ := dp_items da5 hx
      obtain ⟨b, y, rfl, hb, dy⟩ := dp_pair (Dp.same (s6.trans sm6) _ _ dx)
      have pb := hp p (List.mem_of_getElem? hpi)
      refine ⟨b, _, rfl, hb, rfl, _, _, rfl, _, _, rfl, rfl, rfl, yes (iteT ?_)⟩
      have more : ∀ G3 (c : Int), Same H6 G3 → G3 D6 = some (.lst ((((ps.take i).map (cnP 2)).map fun n : Nat => (n : Int)).map V.int)) → c = ((cnP 2 p : Nat) : Int) → ∃ acc, G3 D6 = some (.lst acc) ∧ acc.length < sizeLine ∧ (Same H6 (upd G3 D6 (.lst (acc ++ [.int c]))) ∧ (upd G3 D6 (.lst (acc ++ [.int c]))) D6 = some (.lst ((((ps.take (i + 1)).map (cnP 2)).map fun n : Nat => (n : Int)).map V.int))) := fun G3 c sg3 e3 ec => by
        refine ⟨_, e3, ?_, same_new nD6 sg3, ?_⟩
        · rw [List.length_map, List.length_map, List.length_map]
          have := List.length_take_le' i ps
          exact small1000 (by omega)
        · rw [upd_same, map_take_more hpi, List.map_append, List.map_append, ec]
          rfl
      refine ⟨_, rfl, Nat.zero_le _, fun z nz => ?_⟩
      have sz := same_upd (o := .tup []) nz
      have ez : (upd G z (.tup [])) z = some (.tup []) := upd_same
      have dy2 := Dp.same sz _ _ dy
      have sg3 := sm6.trans sz
      have eD3 := sz _ _ eG
      generalize upd G z (.tup []) = G3 at *
      refine ⟨p.2, .tuple [], dy2, .tup (.inl (.inl ez)) .nil, okt_shaped pb (by decide), rfl, _, rfl, ?_⟩
      rw [eqv_E pb]
      obtain ⟨pw, pd⟩ := p
      rcases pb with pb | pb
      · cases (show pd = .tuple [] from pb)
        exact iteT (more _ 1 sg3 eD3 (by rw [cnP_E]; rfl))
      · have ne := OkT.notE pb
        have ne' : isE pd = false := ne
        rw [ne]
        refine iteF ?_
        exact ⟨_, rfl, 2, by decide, y, pd, rfl, dy2, pb, fun G4 s9 => more _ _ (sg3.trans s9) (s9 _ _ eD3) (by rw [cnP_T ne'])⟩
    obtain ⟨sm6, eG⟩ := hP
    have tk : (xs5.take k).length = k := by
      rw [List.length_take]
      omega
    rw [tk] at eG
    refine ⟨D6, _, rfl, .inl (.inl eG), ?_⟩
    have cs : ∀ l : List Nat, (l.map fun n : Nat => (n : Int)).sum = ((l.sum : Nat) : Int) := fun l => by
      induction l with
      | nil => rfl
      | cons n l ih => rw [List.map_cons, List.sum_cons, List.sum_cons, ih, Int.natCast_add]
    rw [cs, ← elA]
    have s7 := s6.trans sm6
    have f7 := f5.same s7
    have kall7 := kall5.same s7
    have hd7 := Dp.same s7 _ _ hd5
    have ha7 := TB.Same.tup s7 ha5
    have eq7 := s7 _ _ eq0
    have dq7 := Dp.same s7 _ _ dq
    show tSeq _ _ _ [some (.ref L), some (.int t), some (.ref a), some (.ref D), some (.int (k : Int)), some (.ref tq), some (.int (LA.length : Int)), none, none, none, none] _
    refine ⟨_, rfl, _, rfl, 3, by decide, _, t, dT ps, rfl, t0, t1, hd7, okt, by omega, fun H8 r8 s8 e8 => ?_⟩
    have hd8 := Dp.same s8 _ _ hd7
    have ha8 := TB.Same.tup s8 ha7
    have eq8 := s8 _ _ eq7
    have dq8 := Dp.same s8 _ _ dq7
    have da8 := DpAll.same (s7.trans s8) _ _ da5
    have f8 := f7.same s8
    have kall8 := kall7.same s8
    show tSeq _ _ _ [some (.ref L), some (.int t), some (.ref a), some (.ref D), some (.int (k : Int)), some (.ref tq), some (.int (LA.length : Int)), some (.ref r8), none, none, none] _
    refine ⟨_, rfl, _, rfl, ?_⟩
    show tPart (tVar 4) _ _ _
    refine ⟨_, rfl, _, rfl, slA ha8 fun H9 r9 s9 e9 => ?_⟩
    rw [cutV_takeN] at e9
    have hxk : ∃ xk, xs5[k]? = some xk := ⟨_, List.getElem?_eq_getElem (by omega)⟩
    obtain ⟨xk, hxk⟩ := hxk
    obtain ⟨pk, hpk, dxk⟩ := dp_items da8 hxk
    rw [hk] at hpk
    obtain rfl := Option.some.inj hpk
    obtain ⟨bk, yk, rfl, hbk, _⟩ := dp_pair (Dp.same s9 _ _ dxk)
    refine ⟨_, rfl, _, rfl, a, _, _, _, rfl, rfl, TB.Same.tup s9 ha8, atI_nat hxk, bk, _, 0, _, rfl, rfl, hbk, atI_nat (j := 0) rfl, _, rfl, by show (2 : Nat) ≤ sizeLine; decide, fun ti nti => ?_⟩
    have s10 := same_upd (o := .tup [.int wk, .ref tq]) nti
    have eti : (upd H9 ti (.tup [.int wk, .ref tq])) ti = some (.tup [.int wk, .ref tq]) := upd_same
    generalize upd H9 ti (.tup [.int wk, .ref tq]) = H10 at *
    refine ⟨by show (1 : Nat) ≤ sizeLine; decide, fun tO ntO => ?_⟩
    have s11 := same_upd (o := .tup [.ref ti]) ntO
    have etO : (upd H10 tO (.tup [.ref ti])) tO = some (.tup [.ref ti]) := upd_same
    generalize upd H10 tO (.tup [.ref ti]) = H11 at *
    have s911 := s10.trans s11
    refine catA (TB.Same.tup s911 e9) (.inl (.inl etO)) (by rw [List.length_take]; exact Nat.le_of_lt (small1000 (by simp; omega))) fun H12 r12 s12 e12 => ?_
    have sB := s9.trans (s911.trans s12)
    refine ⟨_, rfl, _, rfl, _, _, rfl, rfl, _, rfl, ?_⟩
    show rSlA K _ _ _ _ _
    refine slA (TB.Same.tup sB ha8) fun H13 r13 s13 e13 => ?_
    rw [← Int.natCast_succ, cutV_dropN _ _ (by omega)] at e13
    refine catA (TB.Same.tup s13 e12) e13 (by rw [List.length_append, List.length_take, List.length_drop]; exact Nat.le_of_lt (small1000 (by simp; omega))) fun H14 r14 s14 e14 => ?_
    have sC := sB.trans (s13.trans s14)
    have eti2 := (s11.trans (s12.trans (s13.trans s14))) _ _ eti
    have dN : Dp K H14 (.ref r14) (dT (putP ps k (wk, dT (flatP ws)))) := by
      have d1 := DpAll.same sC _ _ da8
      have h1 := DpAll.take k d1
      have h2 := DpAll.drop (k + 1) d1
      refine .tup e14 ?_
      unfold putP
      rw [List.map_append, List.map_cons, List.map_take, List.map_drop, ← List.append_cons]
      exact DpAll.app h1 (.cons (.tup (.inl (.inl eti2)) (.cons (.int _) (.cons (Dp.same sC _ _ dq8) .nil))) h2)
    have ln1 := congrArg List.length e1
    have ln2 := congrArg List.length e2
    rw [llen, List.length_append, List.length_append] at ln1
    rw [lvs_len okn, List.length_append, List.length_append, elw] at ln2
    have l1 : [x].length = 1 := rfl
    refine ⟨3, by decide, .ref r14, t, _, rfl, t0, t1, dN, okn, by omega, fun H15 r15 s15 e15 => ?_⟩
    rw [e2] at e15
    rw [e1] at e8
    have sD := sC.trans s15
    have e8b := sD _ _ e8
    have eq15 := sD _ _ eq8
    have f15 := f8.same sD
    have kall15 := kall8.same sD
    obtain ⟨lsumN, lallN⟩ := lvs_all okn t0 t1
    rw [e2] at lallN
    rw [e1] at lall
    have bA : ∀ z ∈ LA, 0 ≤ z ∧ z ≤ 1000000000000 := fun z hz => by
      have := lall z (List.mem_append.mpr (.inl (List.mem_append.mpr (.inl hz))))
      omega
    have bC : ∀ z ∈ LC, 0 ≤ z ∧ z ≤ 1000000000000 := fun z hz => by
      have := lall z (List.mem_append.mpr (.inr hz))
      omega
    show tSeq _ _ _ [some (.ref L), some (.int t), some (.ref a), some (.ref D), some (.int (k : Int)), some (.ref tq), some (.int (LA.length : Int)), some (.ref r8), some (.ref r15), none, none] _
    refine ⟨_, rfl, ?_⟩
    show tPart (tVar 6) _ _ _
    refine ⟨_, rfl, _, rfl, slA (.inl (.inl e15)) fun G1 q1 u1 x1 => ?_⟩
    rw [List.append_assoc, cut_pre] at x1
    refine ⟨_, rfl, ?_⟩
    show tPart (tVar 6) _ _ _
    refine ⟨_, rfl, _, rfl, slA (.inl (.inl (u1 _ _ e8b))) fun G2 q2 u2 x2 => ?_⟩
    rw [List.append_assoc, cut_pre] at x2
    refine ⟨.tuple (dInts LA), .tuple (dInts LA), .tup (TB.Same.tup u2 x1) (dp_ints _), .tup x2 (dp_ints _), shp_ints bA, shp_ints bA, _, rfl, ?_⟩
    rw [eqv_tup]
    change ite _ _ _
    refine iteF ?_
    have u12 := u1.trans u2
    refine ⟨_, rfl, _, rfl, _, rfl, tq, _, rfl, .inr (.inl (.inl (u12 _ _ eq15))), _, _, rfl, rfl, _, rfl, ?_⟩
    show rSlA K _ _ _ _ _
    refine slA (.inl (.inl (u12 _ _ e15))) fun G3 q3 u3 x3 => ?_
    rw [cut_post _ _ (by rw [List.length_append, elw, usl2, Int.natCast_add])] at x3
    have u13 := u12.trans u3
    refine ⟨_, rfl, _, rfl, _, _, rfl, rfl, _, rfl, ?_⟩
    show rSlA K _ _ _ _ _
    refine slA (.inl (.inl (u13 _ _ e8b))) fun G4 q4 u4 x4 => ?_
    rw [cut_post _ _ (by rw [List.length_append]; rfl)] at x4
    have u14 := u13.trans u4
    refine ⟨.tuple (dInts LC), .tuple (dInts LC), .tup (TB.Same.tup u4 x3) (dp_ints _), .tup x4 (dp_ints _), shp_ints bC, shp_ints bC, _, rfl, ?_⟩
    rw [eqv_tup]
    change ite _ _ _
    refine iteF ?_
    refine ⟨_, rfl, _, rfl, _, rfl, _, rfl, _, rfl, tq, _, rfl, .inr (.inl (.inl (u14 _ _ eq15))), _, _, rfl, rfl, _, rfl, slA (.inl (.inl (u14 _ _ e15))) fun G5 q5 u5 x5 => ?_⟩
    rw [usl2, ← elw, cut_mid] at x5
    have u15 := u14.trans u5
    refine ⟨q5, _, rfl, x5, _, rfl, _, rfl, r8, _, _, .int x, rfl, rfl, .inl (.inl (u15 _ _ e8b)), atI_nat (j := LA.length) ?_, ?_⟩
    · rw [List.getElem?_map, List.append_assoc, List.getElem?_append_right (Nat.le_refl _), Nat.sub_self]
      rfl
    · show rEq (.int (parts x ws).sum) (.int x) G5 _
      rw [esum]
      refine ⟨rfl, ?_⟩
      rw [decide_eq_true rfl]
      exact q _ (kall15.same u15) ((f15.same u15).mono (by omega))
end
end K13

set_option Elab.async false
set_option linter.all false
set_option maxRecDepth 100000
set_option maxHeartbeats 4000000
namespace K13
open PySem PySem.Spec PyProof.Rows L2 TB K09

theorem scLaw : FnScope ["_law_script", "_law_feed_here", "_law_turn", "_law_tree_here", "_law_many_here", "_law_total"] ["_law_script"] (defScope sLaw) := ⟨rfl, rfl, rfl, by decide +kernel, rfl, by decide +kernel, by decide +kernel⟩
theorem cnt_up : ∀ {n : Nat} {d : PyData}, OkT n d → cnt (n + 1) d = cnt n d
  | 0, _, h => h.elim
  | n + 1, d, ⟨ps, e, hw, h⟩ => by
    subst e
    rw [cnt_dT, cnt_dT]
    congr 1
    refine List.map_congr_left fun p hp => ?_
    obtain ⟨w, b⟩ := p
    rcases h (w, b) hp with z | z
    · cases (show b = .tuple [] from z)
      rw [cnP_E, cnP_E]
    · rw [cnP_T (OkT.notE z), cnP_T (OkT.notE z), cnt_up z]
theorem cnt_to {n m : Nat} {d : PyData} (h : OkT n d) (l : n ≤ m) : cnt m d = cnt n d := by
  induction l with
  | refl => rfl
  | step l ih => rw [cnt_up (h.to l), ih]
def spTrA (K : PySem.W.Frag) : Sp := fun vs H Q E => ∃ n, n ≤ 3 ∧ spTr K n vs H Q E
section
variable {P : Program} {w : World} {K : PySem.W.Frag} {mg : Str → Option Value} {base : Heap}
def spLaw (K : PySem.W.Frag) : Sp := fun vs H Q _ => ∃ (a : Addr) (ns : List Int), vs = [.ref a] ∧ SqL K H a (ns.map V.int) ∧ ns.length ≤ 63 ∧ ∀ H', Q (.bl true) H'
theorem ok_law {f fFd fR fTr fIt fRt fAg : Addr} {fd fdFd fdR fdTr fdIt fdRt fdAg : FuncData} (F : Fun K "law" "law" sLaw f fd)
    (GFd : FnOk P w K mg base CX0 1 fFd fdFd ["_law_script"] (spFeed K)) (kFd : PySem.W.keepIn K (.ref fFd) = true) (bFd : Binds K fdFd ["_law_script"] []) (gFd : mg "_law_feed" = some (.ref fFd))
    (GDr : FnOk P w K mg base CX0 1 fR fdR ["_law_feed_here", "_law_many_here"] spDraw) (kDr : PySem.W.keepIn K (.ref fR) = true) (bDr : Binds K fdR ["_law_feed_here", "_law_many_here"] []) (gDr : mg "_law_draw" = some (.ref fR))
    (GTr : FnOk P w K mg base CX0 6 fTr fdTr ["_law_feed_here", "_law_deep", "_law_room"] (spTrA K)) (kTr : PySem.W.keepIn K (.ref fTr) = true) (bTr : Binds K fdTr ["_law_feed_here", "_law_deep", "_law_room"] []) (gTr : mg "_law_tree" = some (.ref fTr))
    (GIt : FnOk P w K mg base CX0 9 fIt fdIt ["thing"] (spIt K 3)) (kIt : PySem.W.keepIn K (.ref fIt) = true) (bIt : Binds K fdIt ["thing"] []) (gIt : mg "is_tree" = some (.ref fIt))
    (GRt : FnOk P w K mg base CX0 9 fRt fdRt ["_law_total", "_law_tree_here"] (spRt K)) (kRt : PySem.W.keepIn K (.ref fRt) = true) (bRt : Binds K fdRt ["_law_total", "_law_tree_here"] []) (gRt : mg "_law_right" = some (.ref fRt))
    (GAg : FnOk P w K mg base CX0 9 fAg fdAg ["_law_feed_here", "_law_total", "_law_tree_here"] (spAg K)) (kAg : PySem.W.keepIn K (.ref fAg) = true) (bAg : Binds K fdAg ["_law_feed_here", "_law_total", "_law_tree_here"] []) (gAg : mg "_law_again_right" = some (.ref fAg))
    (m_range : mg "range" = none) : FnG P w K mg base CX0 10 f fd ["_law_script"] (spLaw K) := by
  refine gok F scLaw (fun vs H Q E h => ?_) (fun cdv A gd outer s H vs Q E hr h => ?_)
  · obtain ⟨a, ns, rfl, _⟩ := h
    rfl
  · obtain ⟨a, ns, rfl, hS, hlen, q⟩ := h
    refine ⟨_, (pss_cons (ps_set (i := 1) scLaw.nd rfl (.inl rfl) (pe_call GFd (hr.mono (by omega)) (by rfl) gFd kFd bFd .nil pass0 (pa_cons (pv 0) pa_nil)))
      (pss_cons (ps_for PassesOwn.never rfl (pi_range1 (by rfl) m_range (pa_cons pe_int pa_nil)) (pg_name (i := 2) scLaw.nd rfl (.inl rfl)) (pss_cons (ps_asg (pe_call GTr (hr.mono (by omega)) (by rfl) gTr kTr bTr .nil pass0 (pa_cons (pv 1) (pa_cons (pe_op op_add pe_int (pe_call GDr (hr.mono (by omega)) (by rfl) gDr kDr bDr .nil pass0 (pa_cons (pv 1) (pa_cons pe_int pa_nil)))) (pa_cons pe_int pa_nil)))) (pg_tup rfl (pgs_cons (pg_name (i := 3) scLaw.nd rfl (.inl rfl)) (pgs_cons (pg_name (i := 4) scLaw.nd rfl (.inl rfl)) pgs_nil))))
      (pss_cons (ps_if (pt_cmpR op_notBl (pe_call GIt (hr.mono (by omega)) (by rfl) gIt kIt bIt .nil pass0 (pa_cons (pv 3) pa_nil)) pe_bl (nomark _)) (pss_one (ps_ret pe_bl)) pss_nil)
      (pss_one (ps_cut (ps_for PassesOwn.never rfl (pi_tup (pe_tup (pa_cons pe_int (pa_cons (pe_call GDr (hr.mono (by omega)) (by rfl) gDr kDr bDr .nil pass0 (pa_cons (pv 1) (pa_cons pe_int pa_nil))) (pa_cons (pe_call GDr (hr.mono (by omega)) (by rfl) gDr kDr bDr .nil pass0 (pa_cons (pv 1) (pa_cons (pe_op op_pow pe_int pe_int) pa_nil))) (pa_cons (pe_op op_sub (pe_op op_pow pe_int pe_int) (pv 4)) pa_nil)))))) (pg_name (i := 5) scLaw.nd rfl (.inl rfl)) (pss_one (ps_if (PW.pt (pw_or (pt_not (pt_val (pe_call GRt (hr.mono (by omega)) (by rfl) gRt kRt bRt .nil pass0 (pa_cons (pv 5) (pa_cons (pv 3) pa_nil))))) (pw_or1 (pt_not (pt_val (pe_call GAg (hr.mono (by omega)) (by rfl) gAg kAg bAg .nil pass0 (pa_cons (pv 1) (pa_cons (pv 5) (pa_cons (pv 3) pa_nil))))))))) (pss_one (ps_ret pe_bl)) pss_nil))))))))
      (pss_one (ps_ret pe_bl)))), ?_⟩
    refine ⟨_, rfl, a, ns, rfl, hS, by omega, fun H1 L S s1 nL f1 => ?_⟩
    show tSeq _ _ _ [some (.ref a), some (.ref L), none, none, none, none] _
    refine ⟨3, rfl, by decide, by decide, ?_⟩
    refine for_range (lo := 0) (n := (3 : Int).toNat) (fun i σ G => ∃ y2 y3 y4 y5, σ = [some (.ref a), some (.ref L), y2, y3, y4, y5] ∧ Feed G L S (26520 * i)) ⟨_, _, _, _, rfl, f1.mono (by omega)⟩ ?_ ?_
    · rintro i σ G hi ⟨y2, y3, y4, y5, rfl, f2⟩
      have hi3 : i < 3 := hi
      refine ⟨_, rfl, _, rfl, L, S, 3, _, rfl, by decide, by decide, f2, by omega, fun H2 v k2 f3 v0 v1 => ⟨_, _, rfl, rfl, ?_⟩⟩
      obtain ⟨n, hn⟩ : ∃ n : Nat, 1 + v = (n : Int) := ⟨_, (Int.toNat_of_nonneg (by omega)).symm⟩
      have n0 : n ≠ 0 := by omega
      have n3 : n ≤ 3 := by omega
      have b3 : Bd n ≤ 25905 := by
        have : n = 1 ∨ n = 2 ∨ n = 3 := by omega
        rcases this with rfl | rfl | rfl <;> decide
      refine ⟨n, n3, L, S, _, 37, n0, ?_, f3, by omega, by decide, by decide, fun H3 r w0 d k3 f4 er dw okn cl => ?_⟩
      · show [V.ref L, V.int (1 + v), V.int 37] = _
        rw [hn]
      refine ⟨r, _, rfl, .inl (.inl er), rfl, _, _, rfl, _, _, rfl, rfl, ?_⟩
      have ok3 := okn.to n3
      have c3 := cnt_to okn n3
      show tSeq _ _ _ [some (.ref a), some (.ref L), some (.int (0 + (i : Nat))), some w0, some (.int (cnt n d : Int)), y5] _
      refine ⟨_, rfl, w0, d, rfl, dw, ok3, fun H4 s4 => ⟨true, true, rfl, rfl, _, rfl, ?_⟩⟩
      change ite _ _ _
      refine iteF ?_
      have f5 := f4.same s4
      have dw4 := Dp.same s4 _ _ dw
      have nLd := okt_noL ok3
      refine ⟨fun σ' G' => ∃ y5, σ' = [some (.ref a), some (.ref L), some (.int (0 + (i : Nat))), some w0, some (.int (cnt n d : Int)), y5] ∧ Feed G' L S (26520 * ((i + 1 : Nat) : Int)), ?_, fun σ' G' z => ?_⟩
      · refine ⟨_, rfl, L, S, 50, _, rfl, by decide, by decide, f5, by omega, fun H5 x1 k5 f6 x10 x11 => ?_⟩
        refine ⟨_, rfl, _, _, rfl, rfl, ⟨by decide, by decide, by decide⟩, L, S, 10 ^ 12, _, rfl, by decide, by decide, f6, by omega, fun H6 x2 k6 f7 x20 x21 => ?_⟩
        refine ⟨_, _, rfl, rfl, ⟨by decide, by decide, by decide⟩, _, rfl, _, _, rfl, rfl, by show (4 : Nat) ≤ sizeLine; decide, fun tt ntt => ?_⟩
        have cc : (cnt n d : Int) ≤ 37 := cl
        have x21' : x2 < 1000000000000 := x21
        have st := same_upd (o := .tup [.int 0, .int x1, .int x2, .int (1000000000000 - (cnt n d : Int))]) ntt
        have et : (upd H6 tt (.tup [.int 0, .int x1, .int x2, .int (1000000000000 - (cnt n d : Int))])) tt = some (.tup [.int 0, .int x1, .int x2, .int (1000000000000 - (cnt n d : Int))]) := upd_same
        have f8 := f7.same st
        have dw6 := Dp.same st _ _ (f6.dpB (f5.dpB dw4 nLd k5) nLd k6)
        refine ⟨tt, rfl, ⟨_, .inl (.inl et)⟩, ?_⟩
        refine for_tup (xs := [.int 0, .int x1, .int x2, .int (1000000000000 - (cnt n d : Int))]) (fun j σ G => ∃ y5, σ = [some (.ref a), some (.ref L), some (.int (0 + (i : Nat))), some w0, some (.int (cnt n d : Int)), y5] ∧ Feed G L S (26520 * (i : Nat) + 1 + Bd n + 2 + 151 * j) ∧ Dp K G w0 d ∧ G tt = some (.tup [.int 0, .int x1, .int x2, .int (1000000000000 - (cnt n d : Int))])) ⟨_, rfl, f8.mono (by omega), dw6, et⟩ ?_ ?_ ?_
        · rintro j σ G _ ⟨y5, rfl, _, _, e1⟩
          exact .inl (.inl e1)
        · rintro j x σ G hx ⟨y5, rfl, f9, dg, e1⟩
          have hjl := (List.getElem?_eq_some_iff.mp hx).1
          have hj4 : j < 4 := hjl
          have tx : ∃ t : Int, x = .int t ∧ 0 ≤ t ∧ t ≤ 1000000000000 := by
            have : j = 0 ∨ j = 1 ∨ j = 2 ∨ j = 3 := by omega
            rcases this with rfl | rfl | rfl | rfl
            · exact ⟨0, (Option.some.inj hx).symm, by decide, by decide⟩
            · exact ⟨x1, (Option.some.inj hx).symm, x10, by omega⟩
            · exact ⟨x2, (Option.some.inj hx).symm, x20, by omega⟩
            · exact ⟨1000000000000 - (cnt n d : Int), (Option.some.inj hx).symm, by omega, by omega⟩
          obtain ⟨t, rfl, t0, t1⟩ := tx
          show tIfS _ _ _ _ [some (.ref a), some (.ref L), some (.int (0 + (i : Nat))), some w0, some (.int (cnt n d : Int)), some (.int t)] _
          refine ⟨_, rfl, _, rfl, w0, t, d, rfl, t0, t1, dg, ok3, by omega, fun G1 u1 => ⟨_, rfl, ?_⟩⟩
          change ite _ _ _
          refine iteF ?_
          have f10 := f9.same u1
          have dg1 := Dp.same u1 _ _ dg
          refine ⟨_, rfl, _, rfl, _, rfl, L, S, _, w0, t, d, rfl, f10, by omega, t0, t1, dg1, ok3, by omega, fun G2 u2 f11 => ⟨_, rfl, ?_⟩⟩
          change ite _ _ _
          refine iteF ?_
          exact ⟨_, rfl, f11.mono (by push_cast; omega), f10.dpB dg1 nLd u2, f10.tupB (u1 _ _ e1) u2⟩
        · rintro σ G ⟨y5, rfl, f9, _, _⟩
          exact ⟨_, rfl, f9.mono (by simp; omega)⟩
      · obtain ⟨y5, rfl, f9⟩ := z
        exact ⟨_, _, _, _, rfl, f9⟩
    · rintro σ G ⟨y2, y3, y4, y5, rfl, f2⟩
      exact q _
end
end K13

set_option Elab.async false
set_option linter.all false
set_option maxRecDepth 100000
namespace K13
open PySem PySem.Spec PyProof.Rows L2 TB K09
theorem exm_own {K : PySem.W.Frag} {S : Addr} (hB : PySem.W.subIn K (.ref S) (.type "BaseException") = some true) (hC : PySem.W.isClsIn K S = true) (hT : PySem.W.typeIn K (.ref S) = some (.type "type")) (hS : PySem.W.subIn K (.ref S) (.ref S) = some true) :
    PySem.W.exmOne K (.ref S) (.ref S) = some true := by
  have c1 : (PySem.W.subIn K (.ref S) (.type "BaseException") == some true) = true := by rw [hB] <;> rfl
  have c2 : ((PySem.W.clsIn K S).isSome && PySem.W.typeIn K (.ref S) == some (.type "type")) = true := by
    have z : (PySem.W.clsIn K S).isSome = true := hC
    rw [z, hT] <;> rfl
  show ite ((PySem.W.subIn K (.ref S) (.type "BaseException") == some true) = true) (ite (((PySem.W.clsIn K S).isSome && PySem.W.typeIn K (.ref S) == some (.type "type")) = true) (PySem.W.subIn K (.ref S) (.ref S)) none) none = some true
  rw [if_pos c1, if_pos c2]
  exact hS
theorem all_mk {l : PySem.W.OpenLaw} {w : World} {K : PySem.W.Frag} {h : Heap} {mg : Str → Option Value} {fa : Addr} (X : K.In h) (G : h.Ns mainGlobals mg) (hfa : mg "law" = some (.ref fa))
    {f1 : Addr} {od1 an1 : Option Addr} {sl1 : Array (Option Value)} {oc1 kV1 dc1 pm1 cd1 ct1 : Value}
    {f2 : Addr} {od2 an2 : Option Addr} {sl2 : Array (Option Value)} {oc2 kV2 dc2 pm2 cd2 ct2 : Value}
    {f3 : Addr} {od3 an3 : Option Addr} {sl3 : Array (Option Value)} {oc3 kV3 dc3 pm3 cd3 ct3 : Value}
    {f4 : Addr} {od4 an4 : Option Addr} {sl4 : Array (Option Value)} {oc4 kV4 dc4 pm4 cd4 ct4 : Value}
    {f5 : Addr} {od5 an5 : Option Addr} {sl5 : Array (Option Value)} {oc5 kV5 dc5 pm5 cd5 ct5 : Value}
    {f6 : Addr} {od6 an6 : Option Addr} {sl6 : Array (Option Value)} {oc6 kV6 dc6 pm6 cd6 ct6 : Value}
    {f7 : Addr} {od7 an7 : Option Addr} {sl7 : Array (Option Value)} {oc7 kV7 dc7 pm7 cd7 ct7 : Value}
    {f8 : Addr} {od8 an8 : Option Addr} {sl8 : Array (Option Value)} {oc8 kV8 dc8 pm8 cd8 ct8 : Value}
    {f9 : Addr} {od9 an9 : Option Addr} {sl9 : Array (Option Value)} {oc9 kV9 dc9 pm9 cd9 ct9 : Value}
    {f10 : Addr} {od10 an10 : Option Addr} {sl10 : Array (Option Value)} {oc10 kV10 dc10 pm10 cd10 ct10 : Value}
    {f11 : Addr} {od11 an11 : Option Addr} {sl11 : Array (Option Value)} {oc11 kV11 dc11 pm11 cd11 ct11 : Value}
    {f12 : Addr} {od12 an12 : Option Addr} {sl12 : Array (Option Value)} {oc12 kV12 dc12 pm12 cd12 ct12 : Value}
    {f13 : Addr} {od13 an13 : Option Addr} {sl13 : Array (Option Value)} {oc13 kV13 dc13 pm13 cd13 ct13 : Value}
    {f14 : Addr} {od14 an14 : Option Addr} {sl14 : Array (Option Value)} {oc14 kV14 dc14 pm14 cd14 ct14 : Value}
    {f15 : Addr} {od15 an15 : Option Addr} {sl15 : Array (Option Value)} {oc15 kV15 dc15 pm15 cd15 ct15 : Value}
    {f16 : Addr} {od16 an16 : Option Addr} {sl16 : Array (Option Value)} {oc16 kV16 dc16 pm16 cd16 ct16 : Value}
    {f17 : Addr} {od17 an17 : Option Addr} {sl17 : Array (Option Value)} {oc17 kV17 dc17 pm17 cd17 ct17 : Value}
    {f18 : Addr} {od18 an18 : Option Addr} {sl18 : Array (Option Value)} {oc18 kV18 dc18 pm18 cd18 ct18 : Value}
    {f19 : Addr} {od19 an19 : Option Addr} {sl19 : Array (Option Value)} {oc19 kV19 dc19 pm19 cd19 ct19 : Value}
    {f20 : Addr} {od20 an20 : Option Addr} {sl20 : Array (Option Value)} {oc20 kV20 dc20 pm20 cd20 ct20 : Value}
    {f21 : Addr} {od21 an21 : Option Addr} {sl21 : Array (Option Value)} {oc21 kV21 dc21 pm21 cd21 ct21 : Value}
    {BE : Addr}
    {CNp NNp fINp : Addr} {nmNp qnNp : Str} {bsNp : List Value} {snNp : List Str} {subNp : List Value} {abNp : Bool} {colNp : Option Bool} {ddNp : Option Addr} {mm0Np mm1Np mm2Np mm3Np mm5Np : Option Value}
    {odINp anINp : Option Addr} {slINp : Array (Option Value)} {ocINp kVINp dcINp pmINp cdINp ctINp : Value}
    (a1 : PySem.W.nsIn K mainGlobals "is_number" = some (some (.ref f1)))
    (l1 : K.lookup f1 = some ⟨oc1, od1, .func (PySem.W.fnOf "is_number" "is_number" (defArgs sNu) (defBody sNu) (defScope sNu) .none kV1 dc1 pm1 an1 cd1 ct1), sl1⟩)
    (c1 : PySem.W.codeIn K cd1 "is_number" = true) (k1 : PySem.W.keepIn K (.ref f1) = true)
    (a2 : PySem.W.nsIn K mainGlobals "is_count" = some (some (.ref f2)))
    (l2 : K.lookup f2 = some ⟨oc2, od2, .func (PySem.W.fnOf "is_count" "is_count" (defArgs sCt) (defBody sCt) (defScope sCt) .none kV2 dc2 pm2 an2 cd2 ct2), sl2⟩)
    (c2 : PySem.W.codeIn K cd2 "is_count" = true) (k2 : PySem.W.keepIn K (.ref f2) = true)
    (a3 : PySem.W.nsIn K mainGlobals "is_tuple_of" = some (some (.ref f3)))
    (l3 : K.lookup f3 = some ⟨oc3, od3, .func (PySem.W.fnOf "is_tuple_of" "is_tuple_of" (defArgs sTu) (defBody sTu) (defScope sTu) .none kV3 dc3 pm3 an3 cd3 ct3), sl3⟩)
    (c3 : PySem.W.codeIn K cd3 "is_tuple_of" = true) (k3 : PySem.W.keepIn K (.ref f3) = true)
    (a4 : PySem.W.nsIn K mainGlobals "cuts" = some (some (.ref f4)))
    (l4 : K.lookup f4 = some ⟨oc4, od4, .func (PySem.W.fnOf "cuts" "cuts" (defArgs sCu) (defBody sCu) (defScope sCu) .none kV4 dc4 pm4 an4 cd4 ct4), sl4⟩)
    (c4 : PySem.W.codeIn K cd4 "cuts" = true) (k4 : PySem.W.keepIn K (.ref f4) = true)
    (a5 : PySem.W.nsIn K mainGlobals "rests" = some (some (.ref f5)))
    (l5 : K.lookup f5 = some ⟨oc5, od5, .func (PySem.W.fnOf "rests" "rests" (defArgs sRe) (defBody sRe) (defScope sRe) .none kV5 dc5 pm5 an5 cd5 ct5), sl5⟩)
    (c5 : PySem.W.codeIn K cd5 "rests" = true) (k5 : PySem.W.keepIn K (.ref f5) = true)
    (a6 : PySem.W.nsIn K mainGlobals "split" = some (some (.ref f6)))
    (l6 : K.lookup f6 = some ⟨oc6, od6, .func (PySem.W.fnOf "split" "split" (defArgs sSp) (defBody sSp) (defScope sSp) .none kV6 dc6 pm6 an6 cd6 ct6), sl6⟩)
    (c6 : PySem.W.codeIn K cd6 "split" = true) (k6 : PySem.W.keepIn K (.ref f6) = true)
    (a7 : PySem.W.nsIn K mainGlobals "is_tree" = some (some (.ref f7)))
    (l7 : K.lookup f7 = some ⟨oc7, od7, .func (PySem.W.fnOf "is_tree" "is_tree" (defArgs sIt) (defBody sIt) (defScope sIt) .none kV7 dc7 pm7 an7 cd7 ct7), sl7⟩)
    (c7 : PySem.W.codeIn K cd7 "is_tree" = true) (k7 : PySem.W.keepIn K (.ref f7) = true)
    (a8 : PySem.W.nsIn K mainGlobals "is_pair" = some (some (.ref f8)))
    (l8 : K.lookup f8 = some ⟨oc8, od8, .func (PySem.W.fnOf "is_pair" "is_pair" (defArgs sIp) (defBody sIp) (defScope sIp) .none kV8 dc8 pm8 an8 cd8 ct8), sl8⟩)
    (c8 : PySem.W.codeIn K cd8 "is_pair" = true) (k8 : PySem.W.keepIn K (.ref f8) = true)
    (a9 : PySem.W.nsIn K mainGlobals "leaves" = some (some (.ref f9)))
    (l9 : K.lookup f9 = some ⟨oc9, od9, .func (PySem.W.fnOf "leaves" "leaves" (defArgs sLv) (defBody sLv) (defScope sLv) .none kV9 dc9 pm9 an9 cd9 ct9), sl9⟩)
    (c9 : PySem.W.codeIn K cd9 "leaves" = true) (k9 : PySem.W.keepIn K (.ref f9) = true)
    (a10 : PySem.W.nsIn K mainGlobals "lets_split" = some (some (.ref f10)))
    (l10 : K.lookup f10 = some ⟨oc10, od10, .func (PySem.W.fnOf "lets_split" "lets_split" (defArgs sLs) (defBody sLs) (defScope sLs) .none kV10 dc10 pm10 an10 cd10 ct10), sl10⟩)
    (c10 : PySem.W.codeIn K cd10 "lets_split" = true) (k10 : PySem.W.keepIn K (.ref f10) = true)
    (a11 : PySem.W.nsIn K mainGlobals "look_at_cuts" = some (some (.ref f11)))
    (l11 : K.lookup f11 = some ⟨oc11, od11, .func (PySem.W.fnOf "look_at_cuts" "look_at_cuts" (defArgs sLc) (defBody sLc) (defScope sLc) .none kV11 dc11 pm11 an11 cd11 ct11), sl11⟩)
    (c11 : PySem.W.codeIn K cd11 "look_at_cuts" = true) (k11 : PySem.W.keepIn K (.ref f11) = true)
    (a12 : PySem.W.nsIn K mainGlobals "look_at_rests" = some (some (.ref f12)))
    (l12 : K.lookup f12 = some ⟨oc12, od12, .func (PySem.W.fnOf "look_at_rests" "look_at_rests" (defArgs sLr) (defBody sLr) (defScope sLr) .none kV12 dc12 pm12 an12 cd12 ct12), sl12⟩)
    (c12 : PySem.W.codeIn K cd12 "look_at_rests" = true) (k12 : PySem.W.keepIn K (.ref f12) = true)
    (a13 : PySem.W.nsIn K mainGlobals "_law_feed" = some (some (.ref f13)))
    (l13 : K.lookup f13 = some ⟨oc13, od13, .func (PySem.W.fnOf "_law_feed" "_law_feed" (defArgs sFeed) (defBody sFeed) (defScope sFeed) .none kV13 dc13 pm13 an13 cd13 ct13), sl13⟩)
    (c13 : PySem.W.codeIn K cd13 "_law_feed" = true) (k13 : PySem.W.keepIn K (.ref f13) = true)
    (a14 : PySem.W.nsIn K mainGlobals "_law_draw" = some (some (.ref f14)))
    (l14 : K.lookup f14 = some ⟨oc14, od14, .func (PySem.W.fnOf "_law_draw" "_law_draw" (defArgs sDraw) (defBody sDraw) (defScope sDraw) .none kV14 dc14 pm14 an14 cd14 ct14), sl14⟩)
    (c14 : PySem.W.codeIn K cd14 "_law_draw" = true) (k14 : PySem.W.keepIn K (.ref f14) = true)
    (a15 : PySem.W.nsIn K mainGlobals "_law_weights" = some (some (.ref f15)))
    (l15 : K.lookup f15 = some ⟨oc15, od15, .func (PySem.W.fnOf "_law_weights" "_law_weights" (defArgs sWe) (defBody sWe) (defScope sWe) .none kV15 dc15 pm15 an15 cd15 ct15), sl15⟩)
    (c15 : PySem.W.codeIn K cd15 "_law_weights" = true) (k15 : PySem.W.keepIn K (.ref f15) = true)
    (a16 : PySem.W.nsIn K mainGlobals "_law_tree" = some (some (.ref f16)))
    (l16 : K.lookup f16 = some ⟨oc16, od16, .func (PySem.W.fnOf "_law_tree" "_law_tree" (defArgs sTr) (defBody sTr) (defScope sTr) .none kV16 dc16 pm16 an16 cd16 ct16), sl16⟩)
    (c16 : PySem.W.codeIn K cd16 "_law_tree" = true) (k16 : PySem.W.keepIn K (.ref f16) = true)
    (a17 : PySem.W.nsIn K mainGlobals "_law_many" = some (some (.ref f17)))
    (l17 : K.lookup f17 = some ⟨oc17, od17, .func (PySem.W.fnOf "_law_many" "_law_many" (defArgs sMy) (defBody sMy) (defScope sMy) .none kV17 dc17 pm17 an17 cd17 ct17), sl17⟩)
    (c17 : PySem.W.codeIn K cd17 "_law_many" = true) (k17 : PySem.W.keepIn K (.ref f17) = true)
    (a18 : PySem.W.nsIn K mainGlobals "_law_all_let" = some (some (.ref f18)))
    (l18 : K.lookup f18 = some ⟨oc18, od18, .func (PySem.W.fnOf "_law_all_let" "_law_all_let" (defArgs sAt) (defBody sAt) (defScope sAt) .none kV18 dc18 pm18 an18 cd18 ct18), sl18⟩)
    (c18 : PySem.W.codeIn K cd18 "_law_all_let" = true) (k18 : PySem.W.keepIn K (.ref f18) = true)
    (a19 : PySem.W.nsIn K mainGlobals "_law_right" = some (some (.ref f19)))
    (l19 : K.lookup f19 = some ⟨oc19, od19, .func (PySem.W.fnOf "_law_right" "_law_right" (defArgs sRt) (defBody sRt) (defScope sRt) .none kV19 dc19 pm19 an19 cd19 ct19), sl19⟩)
    (c19 : PySem.W.codeIn K cd19 "_law_right" = true) (k19 : PySem.W.keepIn K (.ref f19) = true)
    (a20 : PySem.W.nsIn K mainGlobals "_law_again_right" = some (some (.ref f20)))
    (l20 : K.lookup f20 = some ⟨oc20, od20, .func (PySem.W.fnOf "_law_again_right" "_law_again_right" (defArgs sAg) (defBody sAg) (defScope sAg) .none kV20 dc20 pm20 an20 cd20 ct20), sl20⟩)
    (c20 : PySem.W.codeIn K cd20 "_law_again_right" = true) (k20 : PySem.W.keepIn K (.ref f20) = true)
    (a21 : PySem.W.nsIn K mainGlobals "law" = some (some (.ref f21)))
    (l21 : K.lookup f21 = some ⟨oc21, od21, .func (PySem.W.fnOf "law" "law" (defArgs sLaw) (defBody sLaw) (defScope sLaw) .none kV21 dc21 pm21 an21 cd21 ct21), sl21⟩)
    (c21 : PySem.W.codeIn K cd21 "law" = true) (k21 : PySem.W.keepIn K (.ref f21) = true)
    (z_isinstance : PySem.W.nsIn K mainGlobals "isinstance" = some none)
    (z_int : PySem.W.nsIn K mainGlobals "int" = some none)
    (z_bool : PySem.W.nsIn K mainGlobals "bool" = some none)
    (z_tuple : PySem.W.nsIn K mainGlobals "tuple" = some none)
    (z_len : PySem.W.nsIn K mainGlobals "len" = some none)
    (z_sum : PySem.W.nsIn K mainGlobals "sum" = some none)
    (z_zip : PySem.W.nsIn K mainGlobals "zip" = some none)
    (z_list : PySem.W.nsIn K mainGlobals "list" = some none)
    (z_sorted : PySem.W.nsIn K mainGlobals "sorted" = some none)
    (z_enumerate : PySem.W.nsIn K mainGlobals "enumerate" = some none)
    (z_any : PySem.W.nsIn K mainGlobals "any" = some none)
    (z_all : PySem.W.nsIn K mainGlobals "all" = some none)
    (z_abs : PySem.W.nsIn K mainGlobals "abs" = some none)
    (z_range : PySem.W.nsIn K mainGlobals "range" = some none)
    (z_min : PySem.W.nsIn K mainGlobals "min" = some none)
    (aCNp : PySem.W.nsIn K mainGlobals "NoPaper" = some (some (.ref CNp)))
    (xLNp : K.lookup CNp = some (excClassObj nmNp qnNp CNp NNp bsNp [.ref BE, .type "ValueError", .type "Exception", .type "BaseException", .type "object"] true snNp subNp abNp colNp ddNp mm0Np mm1Np mm2Np mm3Np mm5Np "ValueError.__new__"))
    (saNp : PySem.W.findIn K (.ref CNp) "__setattr__" = some (some (.builtin "object.__setattr__")))
    (kCNp : PySem.W.keepIn K (.ref CNp) = true) (eCNp : PySem.W.subIn K (.ref CNp) (.type "BaseException") = some true) (tCNp : PySem.W.typeIn K (.ref CNp) = some (.type "type"))
    (jCNp : PySem.W.isClsIn K CNp = true) (sCNp : PySem.W.subIn K (.ref CNp) (.ref CNp) = some true)
    (aINp : PySem.W.findIn K (.ref CNp) "__init__" = some (some (.ref fINp))) (tINp : PySem.W.typeIn K (.ref fINp) = some (.type "function"))
    (lINp : K.lookup fINp = some ⟨ocINp, odINp, .func (PySem.W.fnOf "__init__" "NoPaper.__init__" (defArgs sIn) (defBody sIn) (defScope sIn) .none kVINp dcINp pmINp anINp cdINp ctINp), slINp⟩)
    (cINp : PySem.W.codeIn K cdINp "NoPaper.__init__" = true) (kINp : PySem.W.keepIn K (.ref fINp) = true)
    (n_wordNp : PySem.W.findIn K (.ref CNp) "word" = some none)
    (n_atNp : PySem.W.findIn K (.ref CNp) "at" = some none) :
    ∃ fd : FuncData, (∀ (s : Shared) (v : Value), BindsTo s fd ⟨[v], []⟩ [("_law_script", v)]) ∧ ∀ base : Heap, K.In base → base.Ns mainGlobals mg → FnG l.prog w K mg base CX0 10 fa fd ["_law_script"] (spLaw K) := by
  have e := hfa.symm.trans (PySem.W.mg_of X G a21)
  cases e
  have F1 := fun_mk (st := sNu) l1 c1 k1
  have b1 := F1.binds (ps := ["thing"]) fun _ _ _ _ _ _ us hl => match us, hl with | [_], _ => rfl
  have g1 := PySem.W.mg_of X G a1
  have F2 := fun_mk (st := sCt) l2 c2 k2
  have b2 := F2.binds (ps := ["thing"]) fun _ _ _ _ _ _ us hl => match us, hl with | [_], _ => rfl
  have g2 := PySem.W.mg_of X G a2
  have F3 := fun_mk (st := sTu) l3 c3 k3
  have b3 := F3.binds (ps := ["thing", "many"]) fun _ _ _ _ _ _ us hl => match us, hl with | [_, _], _ => rfl
  have g3 := PySem.W.mg_of X G a3
  have F4 := fun_mk (st := sCu) l4 c4 k4
  have b4 := F4.binds (ps := ["total", "weights"]) fun _ _ _ _ _ _ us hl => match us, hl with | [_, _], _ => rfl
  have g4 := PySem.W.mg_of X G a4
  have F5 := fun_mk (st := sRe) l5 c5 k5
  have b5 := F5.binds (ps := ["total", "weights"]) fun _ _ _ _ _ _ us hl => match us, hl with | [_, _], _ => rfl
  have g5 := PySem.W.mg_of X G a5
  have F6 := fun_mk (st := sSp) l6 c6 k6
  have b6 := F6.binds (ps := ["total", "weights"]) fun _ _ _ _ _ _ us hl => match us, hl with | [_, _], _ => rfl
  have g6 := PySem.W.mg_of X G a6
  have F7 := fun_mk (st := sIt) l7 c7 k7
  have b7 := F7.binds (ps := ["thing"]) fun _ _ _ _ _ _ us hl => match us, hl with | [_], _ => rfl
  have g7 := PySem.W.mg_of X G a7
  have F8 := fun_mk (st := sIp) l8 c8 k8
  have b8 := F8.binds (ps := ["thing"]) fun _ _ _ _ _ _ us hl => match us, hl with | [_], _ => rfl
  have g8 := PySem.W.mg_of X G a8
  have F9 := fun_mk (st := sLv) l9 c9 k9
  have b9 := F9.binds (ps := ["total", "tree"]) fun _ _ _ _ _ _ us hl => match us, hl with | [_, _], _ => rfl
  have g9 := PySem.W.mg_of X G a9
  have F10 := fun_mk (st := sLs) l10 c10 k10
  have b10 := F10.binds (ps := ["total", "weights", "thing"]) fun _ _ _ _ _ _ us hl => match us, hl with | [_, _, _], _ => rfl
  have g10 := PySem.W.mg_of X G a10
  have F11 := fun_mk (st := sLc) l11 c11 k11
  have b11 := F11.binds (ps := ["lows", "parts"]) fun _ _ _ _ _ _ us hl => match us, hl with | [_, _], _ => rfl
  have g11 := PySem.W.mg_of X G a11
  have F12 := fun_mk (st := sLr) l12 c12 k12
  have b12 := F12.binds (ps := ["lows", "left", "parts"]) fun _ _ _ _ _ _ us hl => match us, hl with | [_, _, _], _ => rfl
  have g12 := PySem.W.mg_of X G a12
  have F13 := fun_mk (st := sFeed) l13 c13 k13
  have b13 := F13.binds (ps := ["_law_script"]) fun _ _ _ _ _ _ us hl => match us, hl with | [_], _ => rfl
  have g13 := PySem.W.mg_of X G a13
  have F14 := fun_mk (st := sDraw) l14 c14 k14
  have b14 := F14.binds (ps := ["_law_feed_here", "_law_many_here"]) fun _ _ _ _ _ _ us hl => match us, hl with | [_, _], _ => rfl
  have g14 := PySem.W.mg_of X G a14
  have F15 := fun_mk (st := sWe) l15 c15 k15
  have b15 := F15.binds (ps := ["_law_feed_here", "_law_many_here"]) fun _ _ _ _ _ _ us hl => match us, hl with | [_, _], _ => rfl
  have g15 := PySem.W.mg_of X G a15
  have F16 := fun_mk (st := sTr) l16 c16 k16
  have b16 := F16.binds (ps := ["_law_feed_here", "_law_deep", "_law_room"]) fun _ _ _ _ _ _ us hl => match us, hl with | [_, _, _], _ => rfl
  have g16 := PySem.W.mg_of X G a16
  have F17 := fun_mk (st := sMy) l17 c17 k17
  have b17 := F17.binds (ps := ["_law_tree_here"]) fun _ _ _ _ _ _ us hl => match us, hl with | [_], _ => rfl
  have g17 := PySem.W.mg_of X G a17
  have F18 := fun_mk (st := sAt) l18 c18 k18
  have b18 := F18.binds (ps := ["_law_total", "_law_tree_here"]) fun _ _ _ _ _ _ us hl => match us, hl with | [_, _], _ => rfl
  have g18 := PySem.W.mg_of X G a18
  have F19 := fun_mk (st := sRt) l19 c19 k19
  have b19 := F19.binds (ps := ["_law_total", "_law_tree_here"]) fun _ _ _ _ _ _ us hl => match us, hl with | [_, _], _ => rfl
  have g19 := PySem.W.mg_of X G a19
  have F20 := fun_mk (st := sAg) l20 c20 k20
  have b20 := F20.binds (ps := ["_law_feed_here", "_law_total", "_law_tree_here"]) fun _ _ _ _ _ _ us hl => match us, hl with | [_, _, _], _ => rfl
  have g20 := PySem.W.mg_of X G a20
  have F21 := fun_mk (st := sLaw) l21 c21 k21
  have b21 := F21.binds (ps := ["_law_script"]) fun _ _ _ _ _ _ us hl => match us, hl with | [_], _ => rfl
  have g21 := PySem.W.mg_of X G a21
  have m_isinstance := PySem.W.mg_none_of X G z_isinstance
  have m_int := PySem.W.mg_none_of X G z_int
  have m_bool := PySem.W.mg_none_of X G z_bool
  have m_tuple := PySem.W.mg_none_of X G z_tuple
  have m_len := PySem.W.mg_none_of X G z_len
  have m_sum := PySem.W.mg_none_of X G z_sum
  have m_zip := PySem.W.mg_none_of X G z_zip
  have m_list := PySem.W.mg_none_of X G z_list
  have m_sorted := PySem.W.mg_none_of X G z_sorted
  have m_enumerate := PySem.W.mg_none_of X G z_enumerate
  have m_any := PySem.W.mg_none_of X G z_any
  have m_all := PySem.W.mg_none_of X G z_all
  have m_abs := PySem.W.mg_none_of X G z_abs
  have m_range := PySem.W.mg_none_of X G z_range
  have m_min := PySem.W.mg_none_of X G z_min
  refine ⟨PySem.W.fnOf "law" "law" (defArgs sLaw) (defBody sLaw) (defScope sLaw) .none kV21 dc21 pm21 an21 cd21 ct21, fun s v => .of_eq rfl, fun base _ _ => ?_⟩
  have TNp : OexC K CNp := ⟨⟨nmNp, qnNp, NNp, bsNp, _, snNp, subNp, abNp, colNp, ddNp, mm0Np, mm1Np, mm2Np, mm3Np, mm5Np, xLNp, (show PySem.HandSPX.refsVE [.type "ValueError", .type "Exception", .type "BaseException", .type "object"] = true by decide +kernel)⟩, saNp, eCNp, tCNp, kCNp⟩
  have FINp := fun_mk (st := sIn) lINp cINp kINp
  have bINp := FINp.binds (ps := ["self", "word", "at"]) fun _ _ _ _ _ _ us hl => match us, hl with | [_, _, _], _ => rfl
  have gNp := PySem.W.mg_of X G aCNp
  have eNp := exm_own eCNp jCNp tCNp sCNp
  have GI := ok_in (P := l.prog) (w := w) (mg := mg) (base := base) (k := 0) TNp n_wordNp n_atNp FINp
  have GN := ok_n (P := l.prog) (w := w) (base := base) (k := 0) F1 m_isinstance m_int m_bool
  have GCt := ok_ct (P := l.prog) (w := w) (base := base) F2 GN k1 b1 g1
  have GTu := ok_t (P := l.prog) (w := w) (base := base) (k := 0) F3 m_isinstance m_tuple m_len
  have GC := ok_cu (P := l.prog) (w := w) (mg := mg) (base := base) (k := 0) F4 m_sum m_tuple
  have GR := ok_re (P := l.prog) (w := w) (base := base) F5 GC k4 b4 g4 m_sum m_tuple m_zip
  have GS := ok_sp (P := l.prog) (w := w) (base := base) F6 GC k4 b4 g4 GR k5 b5 g5 m_list m_sum m_sorted m_enumerate m_tuple
  have GIt := ok_trees (P := l.prog) (w := w) (base := base) F8 F7 GTu k3 b3 g3 GCt k2 b2 g2 k7 b7 g7 k8 b8 g8 m_isinstance m_tuple m_all m_any
  have GLv := ok_lv (P := l.prog) (w := w) (base := base) F9 k9 b9 g9 GS k6 b6 g6 m_tuple m_zip
  have GLvA : FnOk l.prog w _ mg base CX0 8 _ _ ["total", "tree"] (spLvA _) := fn_any fun n hn => (GLv n (by omega)).mono (by omega)
  have GLc := ok_lc (P := l.prog) (w := w) (base := base) F11 TNp aINp tINp GI bINp gNp m_enumerate
  have GLr := ok_lr (P := l.prog) (w := w) (base := base) F12 TNp aINp tINp GI bINp gNp m_enumerate m_zip m_any
  have GLs := ok_ls (P := l.prog) (w := w) (base := base) F10 TNp aINp tINp GI bINp gNp GTu k3 b3 g3 GN k1 b1 g1 GC k4 b4 g4 GR k5 b5 g5 GLc k11 b11 g11 GLr k12 b12 g12 m_len m_enumerate m_sum m_zip m_abs
  have GFd := ok_feed (P := l.prog) (w := w) (mg := mg) (base := base) (k := 0) F13
  have GDr := ok_draw (P := l.prog) (w := w) (mg := mg) (base := base) (k := 0) F14 m_len
  have GW := ok_we (P := l.prog) (w := w) (base := base) F15 GDr k14 b14 g14 m_range m_sum m_len m_tuple
  have GTr := ok_tr (P := l.prog) (w := w) (base := base) F16 k16 b16 g16 GDr k14 b14 g14 GW k15 b15 g15 m_min m_enumerate m_len m_tuple
  have GTrA : FnOk l.prog w _ mg base CX0 6 _ _ ["_law_feed_here", "_law_deep", "_law_room"] (spTrA _) := fn_any fun n hn => (GTr n (by omega)).mono (by omega)
  have GMy := ok_my (P := l.prog) (w := w) (base := base) F17 k17 b17 g17
  have GMyA : FnOk l.prog w _ mg base CX0 4 _ _ ["_law_tree_here"] (spMyA _) := fn_any fun n hn => (GMy n (by omega)).mono (by omega)
  have GAt := ok_at (P := l.prog) (w := w) (base := base) F18 k18 b18 g18 GS k6 b6 g6 GLs k10 b10 g10 m_tuple m_zip m_all
  have GRt := ok_rt (P := l.prog) (w := w) (base := base) F19 GS k6 b6 g6 GLvA k9 b9 g9 (GMy 3 (by decide)) k17 b17 g17 (GAt 3 (by decide)) k18 b18 g18 m_tuple m_zip m_sum m_len m_min
  have GAg := ok_ag (P := l.prog) (w := w) (base := base) F20 GDr k14 b14 g14 GW k15 b15 g15 GLvA k9 b9 g9 GMyA k17 b17 g17 m_tuple m_enumerate m_sum m_len
  exact ok_law F21 GFd k13 b13 g13 GDr k14 b14 g14 GTrA k16 b16 g16 (GIt 3 (by decide)) k7 b7 g7 GRt k19 b19 g19 GAg k20 b20 g20 m_range
end K13
open PySem PySem.W PyProof.Rows
set_option maxHeartbeats 0 in
theorem PySem.Challenge.cw_tablebills_k13_whole_parted_again_holds : PySem.Challenge.rw_tablebills_k13_whole_parted_again.Holds := by
  w_on; o_law; k_head; (case hw => w_witness2)
  k_fill
  refine TB.walkG (l := PySem.Challenge.rw_tablebills_k13_whole_parted_again) (n := 63) (k := 10) (x := "_law_script") (sp := fun w => K13.spLaw _) rfl (by decide) rfl (fun w h Y => PySem.W.kIn_of Y) ⟨rfl, by decide, by decide⟩ ?F (fun _ _ a ns hl hS => ⟨a, ns, rfl, hS, hl, fun _ => rfl⟩)
  case F =>
    intro w mg fa h KX G hmg
    refine' K13.all_mk KX G hmg ?a1 ?l1 ?c1 ?k1 ?a2 ?l2 ?c2 ?k2 ?a3 ?l3 ?c3 ?k3 ?a4 ?l4 ?c4 ?k4 ?a5 ?l5 ?c5 ?k5 ?a6 ?l6 ?c6 ?k6 ?a7 ?l7 ?c7 ?k7 ?a8 ?l8 ?c8 ?k8 ?a9 ?l9 ?c9 ?k9 ?a10 ?l10 ?c10 ?k10 ?a11 ?l11 ?c11 ?k11 ?a12 ?l12 ?c12 ?k12 ?a13 ?l13 ?c13 ?k13 ?a14 ?l14 ?c14 ?k14 ?a15 ?l15 ?c15 ?k15 ?a16 ?l16 ?c16 ?k16 ?a17 ?l17 ?c17 ?k17 ?a18 ?l18 ?c18 ?k18 ?a19 ?l19 ?c19 ?k19 ?a20 ?l20 ?c20 ?k20 ?a21 ?l21 ?c21 ?k21 ?z_isinstance ?z_int ?z_bool ?z_tuple ?z_len ?z_sum ?z_zip ?z_list ?z_sorted ?z_enumerate ?z_any ?z_all ?z_abs ?z_range ?z_min ?aCNp ?xLNp ?saNp ?kCNp ?eCNp ?tCNp ?jCNp ?sCNp ?aINp ?tINp ?lINp ?cINp ?kINp ?n_wordNp ?n_atNp
    (case a1 => k_is); (case l1 => k_is); (case c1 => k_is); (case k1 => k_is); (case a2 => k_is); (case l2 => k_is); (case c2 => k_is); (case k2 => k_is); (case a3 => k_is); (case l3 => k_is); (case c3 => k_is); (case k3 => k_is); (case a4 => k_is); (case l4 => k_is); (case c4 => k_is); (case k4 => k_is); (case a5 => k_is); (case l5 => k_is); (case c5 => k_is); (case k5 => k_is); (case a6 => k_is); (case l6 => k_is); (case c6 => k_is); (case k6 => k_is); (case a7 => k_is); (case l7 => k_is); (case c7 => k_is); (case k7 => k_is); (case a8 => k_is); (case l8 => k_is); (case c8 => k_is); (case k8 => k_is); (case a9 => k_is); (case l9 => k_is); (case c9 => k_is); (case k9 => k_is); (case a10 => k_is); (case l10 => k_is); (case c10 => k_is); (case k10 => k_is); (case a11 => k_is); (case l11 => k_is); (case c11 => k_is); (case k11 => k_is); (case a12 => k_is); (case l12 => k_is); (case c12 => k_is); (case k12 => k_is); (case a13 => k_is); (case l13 => k_is); (case c13 => k_is); (case k13 => k_is); (case a14 => k_is); (case l14 => k_is); (case c14 => k_is); (case k14 => k_is); (case a15 => k_is); (case l15 => k_is); (case c15 => k_is); (case k15 => k_is); (case a16 => k_is); (case l16 => k_is); (case c16 => k_is); (case k16 => k_is); (case a17 => k_is); (case l17 => k_is); (case c17 => k_is); (case k17 => k_is); (case a18 => k_is); (case l18 => k_is); (case c18 => k_is); (case k18 => k_is); (case a19 => k_is); (case l19 => k_is); (case c19 => k_is); (case k19 => k_is); (case a20 => k_is); (case l20 => k_is); (case c20 => k_is); (case k20 => k_is); (case a21 => k_is); (case l21 => k_is); (case c21 => k_is); (case k21 => k_is); (case z_isinstance => k_is); (case z_int => k_is); (case z_bool => k_is); (case z_tuple => k_is); (case z_len => k_is); (case z_sum => k_is); (case z_zip => k_is); (case z_list => k_is); (case z_sorted => k_is); (case z_enumerate => k_is); (case z_any => k_is); (case z_all => k_is); (case z_abs => k_is); (case z_range => k_is); (case z_min => k_is); (case aCNp => k_is); (case xLNp => k_is); (case saNp => k_is); (case kCNp => k_is); (case eCNp => k_is); (case tCNp => k_is); (case jCNp => k_is); (case sCNp => first | rfl | k_is); (case aINp => k_is); (case tINp => k_is); (case lINp => k_is); (case cINp => k_is); (case kINp => k_is); (case n_wordNp => k_is); (case n_atNp => k_is)
