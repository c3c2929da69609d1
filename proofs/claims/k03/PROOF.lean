import PyProof.Rows.All
import Wide.All
import OpenK.AllK
import Wide.FinOn
import HandS.ForMost
import HandS.Wide
import HandS.Defaults
import HandS.Flow
import HandS.Style
import HandS.IsInst
import HandS.MakeKw
import HandS.Exc
import HandS.WordsExc
import HandS.Zip
import HandS.TupAny
import HandS.RaiseMore
import HandS.TupMul
import KE.GoesMore
import HandS.Walk
import KE.GoesEnum
import KE.KExcIs
import HandS.ForExc
import HandS.ExcInit
import HandS.ExcField
import PyProof.Rows.IntBool
import HandS.Text
import HandS.Replace
import HandS.Deep
import HandS.TupLe
import KE.KMinKey
import HandS.SortKw
import PyProof.AutoSeq1
import HandS.WordsDict
import HandS.TryOnly
import HandS.SortInts
import HandS.More
import KE.KDictPairs
import KE.KDictOf
import HandS.Conv
import HandS.SetFor
import HandS.SetTxt0
import HandS.TupSets
import PyProof.Rows.SortShellAny
import HandS.StrMore
import HandS.Strs
import PySem.Challenge.RW_tablebills_k03_offs_by_kind
set_option Elab.async false
set_option linter.all false
set_option maxRecDepth 100000
namespace TB
open PySem PySem.Spec PyProof.Rows L2

/-! A def's promise, where no repr is under way around it. -/
section
variable (P : Program) (w : World) (K : PySem.W.Frag) (mg : Str → Option Value) (base : Heap)
structure FnG (CX : CXT) (k : Nat) (f : Addr) (fd : FuncData) (ps : List Str) (sp : Sp) : Prop where
  len : ∀ xs G R Z, sp xs G R Z → xs.length = ps.length
  run : ∀ (A : Around), A.guards = some [] → Room k A →
    ∀ (outer : List Env) (s : Shared) (H : Hp), Env0 P w K mg base A outer s H →
    ∀ (args : Args) (us : List Value) (vs : List V), BindsTo s fd args (ps.zip us) → Vals vs us →
    ∀ (Q : VK) (E : XK), sp vs H Q E →
      codeAny (model P w) A (Code.call (Value.ref f) args)
        (CR CX outer P w H s Q E) s
end

section
variable {P : Program} {w : World} {K : PySem.W.Frag} {mg : Str → Option Value} {base : Heap} {CX : CXT}
theorem FnG.of {k : Nat} {f : Addr} {fd : FuncData} {ps : List Str} {sp : Sp}
    (F : FnOk P w K mg base CX k f fd ps sp) : FnG P w K mg base CX k f fd ps sp :=
  ⟨F.len, fun A _ hr outer s H e0 args us vs hb r Q E h => F.run A outer s H args us vs Q E hr e0 hb r h⟩

/-- the body's walk gives the promise -/
theorem gfn {k : Nat} {f : Addr} {nm qual : Str} {prm : Arguments} {bd : List Stmt} {sc : Scope} {dV kV doc pm cdv ct oc : Value} {an od : Option Addr}
    {osl : Array (Option Value)} {N : List Str} {ps : List Str} {sp : Sp}
    (lk : K.lookup f = some ⟨oc, od, .func (PySem.W.fnOf nm qual prm bd sc dV kV doc pm an cdv ct), osl⟩)
    (hcd : PySem.W.codeIn K cdv qual = true) (S : FnScope N ps sc) (len : ∀ vs H Q E, sp vs H Q E → vs.length = ps.length)
    (walk : ∀ (A : Around), A.guards = some [] → ∀ (outer : List Env) (s : Shared) (H : Hp) (vs : List V) (Q : VK) (E : XK),
      Room k (A.deeper (envOfC qual sc s.heap.objs.size f cdv)) → sp vs H Q E →
      ∃ t, PSs (cxOf CX P w K mg base N qual sc f cdv A outer s H E) bd t ∧ t ⟨fun _ H' => Q .non H', Q, fun _ _ => False, fun _ _ => False⟩ (start N vs) H) :
    FnG P w K mg base CX (k + 1) f (PySem.W.fnOf nm qual prm bd sc dV kV doc pm an cdv ct) ps sp := by
  constructor
  · exact len
  intro A hg hr outer s H e0 args us vs hb r Q E hsp
  have keeps : ∀ b o, base.get? b = some o → s.heap.get? b = some o := fun b o e => (e0.bs b o e).1
  have KX : K.In s.heap := e0.mod.kin.keeps keeps
  have lim : s.heap.NoLimit := e0.mod.nolimit.keeps keeps
  obtain ⟨t, ht, hq⟩ := walk A hg outer s H vs Q E (hr.deeper _) hsp
  have crec := PySem.W.codeRec_of KX hcd
  refine codeAny_call_function hr.depth (KX _ _ lk) rfl S.co S.gen rfl crec (hb _ _ _ _ ?_)
  refine wpAny_newFunctionEnv_cells S.kind ?_ ?_
  · rintro ⟨n, v⟩ hy
    have q := S.par n (List.of_mem_zip hy).1
    cases q with
    | inl q => exact Or.inl q
    | inr q => exact Or.inr ⟨q, PySem.W.cellsFrom_some _ _ _ (Or.inl q)⟩
  · intro env he s1 x
    cases he
    have I := inv_start (CX := CX) (P := P) (w := w) (mg := mg) (N := N) (qual := qual) (f := f) (cd := cdv) (E := E) S hr.hd e0 (len _ _ _ _ hsp) r x
    refine ⟨lim.keeps x.toInCall.keep, codeAny_func (wpAny_mono (ht.run [] s1 (start N vs) H _ I hq) ?_ (fun e s' hs => hs))⟩
    intro fl s' hs
    match fl, hs with
    | .ret u, ⟨v, _, H', J, rv, q⟩ => exact ⟨v, H', J.os, J.bare, J.base, J.hok, rv, q⟩
    | .next, ⟨_, H', J, q⟩ => exact ⟨V.non, H', J.os, J.bare, J.base, J.hok, rfl, q⟩
    | .brk, ⟨_, _, _, q⟩ => exact q.elim
    | .cont, ⟨_, _, _, q⟩ => exact q.elim

theorem gok {x qual : Str} {st : Stmt} {f : Addr} {fd : FuncData} {N ps : List Str} {k : Nat} {sp : Sp} (F : Fun K x qual st f fd)
    (S : FnScope N ps (defScope st)) (len : ∀ vs H Q E, sp vs H Q E → vs.length = ps.length)
    (walk : ∀ (cdv : Value) (A : Around), A.guards = some [] → ∀ (outer : List Env) (s : Shared) (H : Hp) (vs : List V) (Q : VK) (E : XK),
      Room k (A.deeper (envOfC qual (defScope st) s.heap.objs.size f cdv)) → sp vs H Q E →
      ∃ t, PSs (cxOf CX0 P w K mg base N qual (defScope st) f cdv A outer s H E).nox (defBody st) t ∧
        t ⟨fun _ H' => Q .non H', Q, fun _ _ => False, fun _ _ => False⟩ (start N vs) H) :
    FnG P w K mg base CX0 (k + 1) f fd ps sp := by
  obtain ⟨_, _, _, _, _, _, cdv, _, _, rfl, lk, hcd⟩ := F.ex
  refine gfn lk hcd S len fun A hg outer s H vs Q E hr hsp => ?_
  obtain ⟨t, a, b⟩ := walk cdv A hg outer s H vs Q E hr hsp
  exact ⟨t, a.nox, b⟩
end

section
variable {X : Cx} {CX : CXT} {k : Nat} {f : Addr} {fd : FuncData} {ps : List Str} {sp : Sp} {dvs : List V} {ds : List Value} {E : XK} {x : Str} {p pos : Pos} {e : Expr} {es : List Expr} {t : TA}
/-- f(e, ..) of such a def -/
theorem pe_callG (F : FnG X.prog X.w X.K X.mg X.base CX k f fd ps sp) (gd : X.A.guards = some []) (hr : Room k X.A) (hg : Gl X x) (hm : X.mg x = some (.ref f))
    (hk : PySem.W.keepIn X.K (.ref f) = true) (hb : Binds X.K fd ps ds) (hd : Vals dvs ds) (hx : Passes CX X E) (ha : PA X (e :: es) t)
    (he : starEach (e :: es) X.env = (false, eval e X.env) :: starEach es X.env := by rfl) (hdb : (x == ("__debug__" : Str)) = false := by decide)
    (hpl : (backTo pos (starEach es X.env)).any (·.1) = false := by rfl) : PE X (.Call (.Name x p) (e :: es) [] pos) (tCall sp dvs E t) := by
  constructor
  intro pins s σ H Q I h
  refine wpAny_Call_Name_kw (ld_glob I hg hm (PySem.W.callWith_K (h₀ := X.base) I.ok.mod.kin hk (thn (ha.run pos pins s σ H _ I h) ?_) he hpl) hdb)
  rintro us s1 ⟨vs, H1, I1, r, q⟩
  have r2 := r.append hd
  have hl : (us ++ ds).length = ps.length := r2.length.symm.trans (F.len _ _ _ _ q)
  refine ⟨I1.kIn, wpAny_call (codeAny_mono (F.run X.A gd hr X.stack s1 H1 I1.env0 ⟨us, []⟩ _ _ (hb s1 us I1.kIn hl) r2 Q E q) ?_)⟩
  intro res s' hq
  match res, hq with
  | .error e, hq => exact hx pins σ H1 s1 e s' I1 hq
  | .ok (.ret u), hq => exact I1.after hq
  | .ok .next, hq => exact hq.elim
  | .ok .brk, hq => exact hq.elim
  | .ok .cont, hq => exact hq.elim
end

/-! repr of plain data -/
section
variable {X : Cx}
def rRepr (K : PySem.W.Frag) : List V → Hp → VK → Prop := fun xs H Q => ∃ a d, xs = [.ref a] ∧ Dp K H (.ref a) d ∧ d.showable = true ∧ d.hasDict = false ∧ d.depth ≤ 60 ∧ d.shown.length ≤ sizeLine ∧ Q (.str d.shown) H
theorem call_reprD (gd : X.A.guards = some []) (hu : X.A.units + 64 < cLine) : CallR X (.builtin "repr") (rRepr X.K) := by
  intro pins s σ H args us Q I r h
  obtain ⟨a, d, rfl, hd, hs, hn, hp, hz, q⟩ := h
  cases r with
  | cons r1 r2 =>
    cases r2
    have e := r1
    obtain rfl := show _ = Value.ref a from e
    obtain ⟨as, rd⟩ := Dp.reads I d _ _ hd rfl
    refine repr_of_reads' rd hs (PyData.noDict_hsm hn) gd (by omega) (fun _ _ z => z) (fun h' u tk k => ?_) hz
    exact ⟨.str d.shown, H, I.kept k, ⟨u, rfl⟩, q⟩

/-- xs[i] read, i no less than 0, by values -/
def rGetN (K : PySem.W.Frag) : V → V → Hp → VK → Prop := fun o i H Q => ∃ (p : Addr) (xs : List V) (j : Nat) (v : V), o = .ref p ∧ i = .int (j : Int) ∧ SqL K H p xs ∧ xs[j]? = some v ∧ Q v H
theorem get_list : PGet X (rGetN X.K) := by
  intro pins s σ H o i ov iv Q I ro ri h
  obtain ⟨p, xs, j, z, rfl, rfl, hq, he, q⟩ := h
  cases ro
  obtain ⟨t, rfl⟩ := ri
  obtain ⟨its, rl, pl, hz⟩ := I.list hq
  obtain ⟨v, ev, rv⟩ := rl.get he
  have hl := rl.length
  have hj : j < xs.length := (List.getElem?_eq_some_iff.mp he).1
  have hn := line63
  exact wpAny_getItem_list pl.isList (by omega) (by omega) (by rw [Int.toNat_natCast]; simpa using ev) ⟨z, H, I, rv, q⟩
end

/-! the law's own call, at the top's end -/
section
variable {P : Program} {w : World} {K : PySem.W.Frag} {mg mb : Str → Option Value} {k : Nat} {fa a : Addr} {fd : FuncData} {x : Str} {sp : Sp} {s1 : Shared} {vs : List Value} {ns : List Int}
/-- the abstract heap that tracks the script alone, or nothing -/
theorem lawG0 {H : Hp} (KX : K.In s1.heap) (hns : s1.heap.Ns mainGlobals mg) (hb : s1.heap.Ns builtinsNs mb)
    (hbb : ∀ y : Str, y ≠ "__name__" → mb y = bootBuiltins y) (hlim : s1.heap.NoLimit) (hg : s1.gens = #[])
    (ha : s1.heap.get? a = some { cls := .type "list", data := .seq vs.toArray }) (hr : Room k callerA)
    (F : ∀ base : Heap, K.In base → base.Ns mainGlobals mg → FnG P w K mg base CX0 k fa fd [x] sp)
    (hbind : ∀ (s : Shared) (u : Value), BindsTo s fd ⟨[u], []⟩ [(x, u)])
    (hO : Only H) (hok : HOk P w H s1.heap) (onlyA : ∀ b, H b ≠ none → b = a) (notK : H a ≠ none → K.lookup a = none)
    (hsp : sp [.ref a] H (fun v _ => v = .bl true) fun _ _ _ => False) :
    codeAny (model P w) callerA (.call (.ref fa) ⟨[.ref a], []⟩)
      (fun r s' => r = .ok (.ret (.bool true)) ∧ OldK s1.heap s'.heap ∧ s'.os = s1.os ∧ AllBare s'.gens) s1 := by
  have free : ∀ (b : Addr), (b = a → H b = none) → H b = none := by
    intro b hb
    by_cases e : H b = none
    · exact e
    · exact hb (onlyA b e)
  have nsB : ∀ {b : Addr} {m : Str → Option Value}, s1.heap.Ns b m → (hidT s1.heap H).Ns b m := by
    rintro b m ⟨o, es, ep, e, d, r⟩
    refine ⟨o, es, ep, hidT_get e (free b ?_), d, r⟩
    rintro rfl
    have q := Option.some.inj (e.symm.trans ha)
    rw [q] at d
    exact nomatch d
  have kinB : K.In (hidT s1.heap H) := by
    intro b o e
    refine hidT_get (KX b o e) (free b ?_)
    rintro rfl
    by_cases z : H b = none
    · exact z
    · exact absurd ((notK z).symm.trans e) (fun q => nomatch q)
  obtain ⟨mc, hl1, hl2⟩ := hlim
  have M : Mod K mg (hidT s1.heap H) := ⟨kinB, nsB hns, ⟨mb, nsB hb, hbb⟩, ⟨mc, nsB hl1, hl2⟩⟩
  have e0 : Env0 P w K mg (hidT s1.heap H) callerA [] s1 H :=
    { frames := rfl, mod := M, bs := fun b o e => of_hidT e, bsz := Nat.le_of_eq (hidT_size _ _), funs := trivial,
      frf := fun b hb => (nomatch (show b ∈ ([] : List Addr) from hb)), hok := hok, bare := .of_eq hg }
  have run := (F _ kinB (nsB hns)).run callerA rfl hr [] s1 H e0 ⟨[.ref a], []⟩ [.ref a] [.ref a] (hbind s1 _) (.cons rfl .nil) _ _ hsp
  refine codeAny_mono run ?_
  intro r s' h
  match r, h with
  | .ok (.ret u), ⟨v, H', os, bare, un, hok', rv, q⟩ =>
    have q' : v = V.bl true := q
    subst q'
    have eu : u = Value.bool true := rv
    subst eu
    refine ⟨rfl, OldK.of_keep ?_, os, bare⟩
    intro b o e
    by_cases z : H b = none
    · exact un.keep b o e z (fun q => nomatch (show b ∈ ([] : List Addr) from q)) (fun q => nomatch q)
    · rcases hO b with z1 | ⟨ob, xs, z1⟩
      · exact absurd z1 z
      · have e1 := (hok b _ z1).1
        have e2 := (hok' b _ (un.frzs b ob _ z1)).1
        rw [Option.some.inj (e.symm.trans e1)]
        exact e2

theorem lawG (KX : K.In s1.heap) (hns : s1.heap.Ns mainGlobals mg) (hb : s1.heap.Ns builtinsNs mb)
    (hbb : ∀ y : Str, y ≠ "__name__" → mb y = bootBuiltins y) (hlim : s1.heap.NoLimit) (hg : s1.gens = #[])
    (ha : s1.heap.get? a = some { cls := .type "list", data := .seq vs.toArray }) (hi : IntsAre vs ns) (hl : ns.length ≤ sizeLine) (hr : Room k callerA)
    (F : ∀ base : Heap, K.In base → base.Ns mainGlobals mg → FnG P w K mg base CX0 k fa fd [x] sp)
    (hbind : ∀ (s : Shared) (u : Value), BindsTo s fd ⟨[u], []⟩ [(x, u)])
    (hsp : ∀ H : Hp, SqL K H a (ns.map V.int) → sp [.ref a] H (fun v _ => v = .bl true) fun _ _ _ => False) :
    codeAny (model P w) callerA (.call (.ref fa) ⟨[.ref a], []⟩)
      (fun r s' => r = .ok (.ret (.bool true)) ∧ OldK s1.heap s'.heap ∧ s'.os = s1.os ∧ AllBare s'.gens) s1 := by
  have rv := vals_ints hi
  by_cases hk : K.lookup a = none
  · let ob : Obj := { cls := .type "list", data := .seq vs.toArray }
    let H : Hp := upd (fun _ => none) a (.frz ob (.lst (ns.map V.int)))
    have hA : H a = some (.frz ob (.lst (ns.map V.int))) := upd_same
    have hN : ∀ b, b ≠ a → H b = none := fun b ne => upd_ne ne
    refine lawG0 (H := H) KX hns hb hbb hlim hg ha hr F hbind ?_ ?_ ?_ (fun _ => hk) (hsp H (.inl (.inr ⟨ob, hA⟩)))
    · intro b
      by_cases e : b = a
      · exact .inr ⟨ob, _, e ▸ hA⟩
      · exact .inl (hN b e)
    · intro b u q
      by_cases e : b = a
      · subst e
        cases Option.some.inj (q.symm.trans hA)
        exact ⟨ha, Nat.le_trans (Nat.le_of_eq (List.length_map V.int)) hl, vs, _, rv, ha⟩
      · exact nomatch (hN b e).symm.trans q
    · intro b q
      by_cases e : b = a
      · exact e
      · exact absurd (hN b e) q
  · obtain ⟨o, ho⟩ := Option.ne_none_iff_exists'.mp hk
    have eo := Option.some.inj ((KX a o ho).symm.trans ha)
    subst eo
    refine lawG0 (H := fun _ => none) KX hns hb hbb hlim hg ha hr F hbind (fun _ => .inl rfl) (fun b u q => nomatch q) (fun b q => absurd rfl q) (fun q => absurd rfl q) (hsp _ (.inr ?_))
    exact ⟨_, vs.toArray, _, ho, rfl, rfl, rfl, by rw [List.size_toArray, hi.length]; exact hl, rv⟩
end

theorem walkG {l : PySem.W.OpenLaw} {n k : Nat} {q : Program} {loose : List Str} {XP : (Str → Option Value) → Heap → Prop} {YP : World → Heap → Prop} {d : DefRec} {K : Params → PySem.W.Frag} {sp : World → Sp} {x : Str}
    (hn : l.most = some n) (hn2 : n ≤ sizeLine) (hdf : d.params.defaults = [])
    (hY : ∀ (w : World) (h : Heap), YP w h → (K w.params).In h) (hr : Room k callerA)
    (F : ∀ (w : World) (mg : Str → Option Value) (fa : Addr) (g : Heap), (K w.params).In g → g.Ns mainGlobals mg → mg d.name = some (.ref fa) →
      ∃ fd : FuncData, (∀ (s : Shared) (v : Value), BindsTo s fd ⟨[v], []⟩ [(x, v)]) ∧
        ∀ base : Heap, (K w.params).In base → base.Ns mainGlobals mg → FnG l.prog w (K w.params) mg base CX0 k fa fd [x] (sp w))
    (hsp : ∀ (w : World) (H : Hp) (a : Addr) (ns : List Int), ns.length ≤ n → SqL (K w.params) H a (ns.map V.int) → sp w [.ref a] H (fun v _ => v = .bl true) fun _ _ _ => False) :
    PySem.W.WalkO q loose XP YP l.row.toRowW d [] fun f us => PySem.call f us := by
  refine Att.attach_call hn hdf ?_
  intro w s₀ s₁ mg mb fa o pm cd doc a vs ns G Y ho hd hcd hmg hobj hints hlen hg
  have KX := hY w _ Y
  obtain ⟨fd, bnd, prom⟩ := F w mg fa _ KX G.T.g hmg
  exact lawG KX G.T.g G.T.b G.T.builtins G.T.nolimit hg hobj hints (Nat.le_trans hlen hn2) hr prom bnd (fun H hS => hsp w H a ns hlen hS)
end TB

set_option Elab.async false
set_option linter.all false
set_option maxRecDepth 100000
namespace TB
open PySem PySem.Spec PyProof.Rows L2

/-! ### what is shown -/
structure Sh (k n : Nat) (d : PyData) : Prop where
  sh : d.showable = true
  nd : d.hasDict = false
  dp : d.depth ≤ k
  ln : d.shown.length ≤ n
theorem sh_int {i : Int} (h : i.natAbs < 2 ^ 100) : Sh 0 1921 (.int i) := by
  have hl : i.natAbs.log2 < 1920 := by
    by_cases h0 : i.natAbs = 0
    · rw [h0]; decide
    · exact (Nat.log2_lt h0).2 (Nat.lt_of_lt_of_le h (Nat.pow_le_pow_right (by decide) (by decide)))
  refine ⟨by simp only [PyData.showable, decide_eq_true_eq]; exact hl, by simp only [PyData.hasDict], by simp [PyData.depth], ?_⟩
  simp only [PyData.shown]
  exact int_text_len_1921 hl
theorem all_len {ds : List PyData} {k n : Nat} (h : ∀ d ∈ ds, Sh k n d) : PyData.showableAll ds = true ∧ PyData.hasDictAll ds = false ∧ PyData.depthAll ds ≤ k ∧ ((PyData.shownAll ds).map (·.length)).sum ≤ ds.length * n ∧ (PyData.shownAll ds).length = ds.length := by
  induction ds with
  | nil => simp [PyData.showableAll, PyData.hasDictAll, PyData.depthAll, PyData.shownAll]
  | cons d ds ih =>
    obtain ⟨a, b, c, e, f⟩ := ih fun x hx => h x (List.mem_cons_of_mem _ hx)
    have g := h d List.mem_cons_self
    refine ⟨by simp only [PyData.showableAll, g.sh, a, Bool.and_self], by simp only [PyData.hasDictAll, g.nd, b, Bool.or_self], ?_, ?_, ?_⟩
    · simp only [PyData.depthAll]
      have := g.dp
      omega
    · simp only [PyData.shownAll, List.map_cons, List.sum_cons, List.length_cons]
      have := g.ln
      rw [Nat.add_mul]
      omega
    · simp only [PyData.shownAll, List.length_cons, f]
theorem sh_tup {ds : List PyData} {k n : Nat} (h : ∀ d ∈ ds, Sh k n d) : Sh (k + 1) (ds.length * n + 2 * ds.length + 3) (.tuple ds) := by
  obtain ⟨a, b, c, e, f⟩ := all_len h
  refine ⟨by simp only [PyData.showable, a], by simp only [PyData.hasDict, b], by simp only [PyData.depth]; omega, ?_⟩
  simp only [PyData.shown]
  refine Nat.le_trans (tupleText_len_le _) ?_
  rw [f]
  omega
theorem sh_lst {ds : List PyData} {k n : Nat} (h : ∀ d ∈ ds, Sh k n d) : Sh (k + 1) (ds.length * n + 2 * ds.length + 3) (.list ds) := by
  obtain ⟨a, b, c, e, f⟩ := all_len h
  refine ⟨by simp only [PyData.showable, a], by simp only [PyData.hasDict, b], by simp only [PyData.depth]; omega, ?_⟩
  simp only [PyData.shown]
  refine Nat.le_trans (listText_len_le _) ?_
  rw [f]
  omega
theorem Sh.mono {k k' n n' : Nat} {d : PyData} (h : Sh k n d) (a : k ≤ k') (b : n ≤ n') : Sh k' n' d :=
  ⟨h.sh, h.nd, Nat.le_trans h.dp a, Nat.le_trans h.ln b⟩
def dInts (ns : List Int) : List PyData := ns.map PyData.int
theorem sh_ints {ns : List Int} (h : ∀ v ∈ ns, v.natAbs < 2 ^ 100) (hl : ns.length ≤ 100) : Sh 1 200000 (.tuple (dInts ns)) := by
  refine (sh_tup (k := 0) (n := 1921) fun d hd => ?_).mono (by omega) ?_
  · obtain ⟨v, hv, rfl⟩ := List.mem_map.mp hd
    exact sh_int (h v hv)
  · unfold dInts
    rw [List.length_map]
    omega
theorem dp_ints {K : PySem.W.Frag} {H : Hp} : ∀ ns : List Int, DpAll K H (ns.map V.int) (dInts ns)
  | [] => DpAll.nil
  | n :: ns => DpAll.cons (Dp.int n) (dp_ints ns)

/-- a comprehension without an if -/
theorem yes {σ : L2.St} {H : Hp} {R : Bool → Hp → Prop} (h : R true H) : tYes σ H R := h
theorem iteS {c A B : Prop} [Decidable c] (hc : c) (h : A) : if decide c = true then A else B := by
  rw [if_pos (decide_eq_true hc)]
  exact h
theorem ixN_nat {n k : Nat} (h : k < n) : ixN n (k : Int) = some k := by
  unfold ixN
  rw [if_pos (by omega), if_pos (by omega)]
  simp
theorem take_more {α : Type} {xs : List α} {i : Nat} {x : α} (h : xs[i]? = some x) : xs.take (i + 1) = xs.take i ++ [x] := by
  rw [List.take_add_one, h]
  rfl

theorem map_get {α β : Type} {f : α → β} {xs : List α} {i : Nat} {d : β} (h : (xs.map f)[i]? = some d) : ∃ p, xs[i]? = some p ∧ d = f p := by
  rw [List.getElem?_map] at h
  cases e : xs[i]? with
  | none => rw [e] at h; cases h
  | some p => rw [e] at h; exact ⟨p, rfl, (Option.some.inj h).symm⟩
theorem map_take_more {α β : Type} {f : α → β} {xs : List α} {i : Nat} {x : α} (h : xs[i]? = some x) : (xs.take (i + 1)).map f = (xs.take i).map f ++ [f x] := by
  rw [take_more h, List.map_append]
  rfl

/-! ### heaps -/
theorem same_upd {H : Hp} {p : Addr} {o : HO} (h : H p = none) : Same H (upd H p o) := fun b x e => by
  rw [upd_ne (ne_of_none e h)]
  exact e
theorem Same.tup {K : PySem.W.Frag} {H H' : Hp} {a : Addr} {xs : List V} (e : Same H H') (h : SqT K H a xs) : SqT K H' a xs := by
  rcases h with (h | ⟨o, h⟩) | h
  · exact .inl (.inl (e _ _ h))
  · exact .inl (.inr ⟨o, e _ _ h⟩)
  · exact .inr h
/-- all that was tracked is as it was, but what stands at f -/
def But (f : Addr) (H H' : Hp) : Prop := ∀ b o, b ≠ f → H b = some o → H' b = some o
theorem But.refl (f : Addr) (H : Hp) : But f H H := fun _ _ _ h => h
theorem But.trans {f : Addr} {H H1 H2 : Hp} (a : But f H H1) (b : But f H1 H2) : But f H H2 := fun c o n h => b c o n (a c o n h)
theorem But.same {f : Addr} {H H1 H2 : Hp} (a : But f H H1) (b : Same H1 H2) : But f H H2 := fun c o n h => b c o (a c o n h)
theorem But.of {f : Addr} {H H' : Hp} (a : Same H H') : But f H H' := fun c o _ h => a c o h
theorem But.upd {f : Addr} {H : Hp} {o : HO} : But f H (upd H f o) := fun b x n e => by
  rw [upd_ne n]
  exact e
theorem But.free {f : Addr} {H H' : Hp} {zs : List V} (e : But f H H') (hf : H' f = some (.lst zs)) {l : Addr} (h : H' l = none) : H l = none := by
  cases q : H l with
  | none => rfl
  | some o =>
    have n : l ≠ f := fun z => by
      rw [z, hf] at h
      cases h
    rw [e l o n q] at h
    cases h
mutual
theorem Dp.same {K : PySem.W.Frag} {H H' : Hp} (e : Same H H') : ∀ (d : PyData) (v : V), Dp K H v d → Dp K H' v d
  | .none, _, .non => .non
  | .bool _, _, .bl b => .bl b
  | .int _, _, .int i => .int i
  | .str _, _, .str x => .str x
  | .list ds, _, .lst h a => .lst (e.seq h) (DpAll.same e ds _ a)
  | .tuple ds, _, .tup h a => .tup (TB.Same.tup e h) (DpAll.same e ds _ a)
theorem DpAll.same {K : PySem.W.Frag} {H H' : Hp} (e : Same H H') : ∀ (ds : List PyData) (vs : List V), DpAll K H vs ds → DpAll K H' vs ds
  | [], _, .nil => .nil
  | d :: ds, _, .cons h t => .cons (Dp.same e d _ h) (DpAll.same e ds _ t)
end
theorem DpAll.snoc {K : PySem.W.Frag} {H : Hp} {v : V} {d : PyData} (h : Dp K H v d) : ∀ {vs : List V} {ds : List PyData}, DpAll K H vs ds → DpAll K H (vs ++ [v]) (ds ++ [d])
  | _, _, .nil => .cons h .nil
  | _, _, .cons a t => .cons a (DpAll.snoc h t)
theorem DpAll.len {K : PySem.W.Frag} {H : Hp} : ∀ {vs : List V} {ds : List PyData}, DpAll K H vs ds → vs.length = ds.length
  | _, _, .nil => rfl
  | _, _, .cons _ t => congrArg Nat.succ (DpAll.len t)
theorem DpAll.get {K : PySem.W.Frag} {H : Hp} : ∀ {vs : List V} {ds : List PyData} {i : Nat} {v : V}, DpAll K H vs ds → vs[i]? = some v → ∃ d, ds[i]? = some d ∧ Dp K H v d
  | _, _, _, _, .nil, h => by simp at h
  | _, _, 0, _, .cons a _, h => ⟨_, rfl, by simp at h; subst h; exact a⟩
  | _, _, i + 1, _, .cons _ t, h => by
    obtain ⟨d, e, q⟩ := DpAll.get t (i := i) (by simpa using h)
    exact ⟨d, by simpa using e, q⟩
theorem Dp.tup_inv {K : PySem.W.Frag} {H : Hp} {v : V} {ds : List PyData} (h : Dp K H v (.tuple ds)) : ∃ a xs, v = .ref a ∧ SqT K H a xs ∧ DpAll K H xs ds := by
  cases h with
  | tup h a => exact ⟨_, _, rfl, h, a⟩
theorem Dp.lst_inv {K : PySem.W.Frag} {H : Hp} {v : V} {ds : List PyData} (h : Dp K H v (.list ds)) : ∃ a xs, v = .ref a ∧ SqL K H a xs ∧ DpAll K H xs ds := by
  cases h with
  | lst h a => exact ⟨_, _, rfl, h, a⟩
theorem DpAll.cons_inv {K : PySem.W.Frag} {H : Hp} {xs : List V} {d : PyData} {ds : List PyData} (h : DpAll K H xs (d :: ds)) : ∃ v vs, xs = v :: vs ∧ Dp K H v d ∧ DpAll K H vs ds := by
  cases h with
  | cons a t => exact ⟨_, _, rfl, a, t⟩
theorem DpAll.nil_inv {K : PySem.W.Frag} {H : Hp} {xs : List V} (h : DpAll K H xs []) : xs = [] := by
  cases h
  rfl
theorem Dp.int_inv {K : PySem.W.Frag} {H : Hp} {v : V} {i : Int} (h : Dp K H v (.int i)) : v = .int i := by
  cases h
  rfl
theorem Dp.str_inv {K : PySem.W.Frag} {H : Hp} {v : V} {i : Str} (h : Dp K H v (.str i)) : v = .str i := by
  cases h
  rfl
theorem dp_strs {K : PySem.W.Frag} {H : Hp} : ∀ ns : List Str, DpAll K H (ns.map V.str) (ns.map PyData.str)
  | [] => DpAll.nil
  | n :: ns => DpAll.cons (Dp.str n) (dp_strs ns)

/-! no list stands in it -/
mutual
def noL : PyData → Bool
  | .list _ => false
  | .tuple xs => noLs xs
  | .dict _ => false
  | _ => true
def noLs : List PyData → Bool
  | [] => true
  | x :: xs => noL x && noLs xs
end
theorem SqT.but {K : PySem.W.Frag} {H H' : Hp} {o a : Addr} {xs zs : List V} (e : But o H H') (ho : H o = some (.lst zs)) (h : SqT K H a xs) : SqT K H' a xs := by
  rcases h with (h | ⟨u, h⟩) | h
  · exact .inl (.inl (e _ _ (ne_of h ho (fun z => nomatch z)) h))
  · exact .inl (.inr ⟨u, e _ _ (ne_of h ho (fun z => nomatch z)) h⟩)
  · exact .inr h
mutual
theorem Dp.but {K : PySem.W.Frag} {H H' : Hp} {o : Addr} {zs : List V} (e : But o H H') (ho : H o = some (.lst zs)) : ∀ (d : PyData) (v : V), noL d = true → Dp K H v d → Dp K H' v d
  | .none, _, _, .non => .non
  | .bool _, _, _, .bl b => .bl b
  | .int _, _, _, .int i => .int i
  | .str _, _, _, .str x => .str x
  | .list ds, _, n, _ => by simp [noL] at n
  | .tuple ds, _, n, .tup h a => .tup (TB.SqT.but e ho h) (DpAll.but e ho ds _ (by simpa only [noL] using n) a)
theorem DpAll.but {K : PySem.W.Frag} {H H' : Hp} {o : Addr} {zs : List V} (e : But o H H') (ho : H o = some (.lst zs)) : ∀ (ds : List PyData) (vs : List V), noLs ds = true → DpAll K H vs ds → DpAll K H' vs ds
  | [], _, _, .nil => .nil
  | d :: ds, _, n, .cons h t => by
    simp only [noLs, Bool.and_eq_true] at n
    exact .cons (Dp.but e ho d _ n.1 h) (DpAll.but e ho ds _ n.2 t)
end
theorem noLs_of {ds : List PyData} (h : ∀ d ∈ ds, noL d = true) : noLs ds = true := by
  induction ds with
  | nil => rfl
  | cons d ds ih => simp only [noLs, h d List.mem_cons_self, ih fun x hx => h x (List.mem_cons_of_mem _ hx), Bool.and_self]
theorem noLs_snoc {ds : List PyData} {d : PyData} (h : noLs ds = true) (n : noL d = true) : noLs (ds ++ [d]) = true := by
  induction ds with
  | nil => simp only [List.nil_append, noLs, n, Bool.and_true]
  | cons x ds ih =>
    simp only [noLs, Bool.and_eq_true] at h
    simp only [List.cons_append, noLs, h.1, ih h.2, Bool.and_self]

/-! ### a list that is being filled: at D, with these data -/
structure Acc (K : PySem.W.Frag) (H : Hp) (D : Addr) (ds : List PyData) : Prop where
  ex : ∃ us, H D = some (.lst us) ∧ DpAll K H us ds
  nl : noLs ds = true
theorem Acc.start {K : PySem.W.Frag} {H : Hp} {D : Addr} : Acc K (upd H D (.lst [])) D [] := ⟨⟨[], upd_same, .nil⟩, rfl⟩
theorem Acc.same {K : PySem.W.Frag} {H H' : Hp} {D : Addr} {ds : List PyData} (h : Acc K H D ds) (e : Same H H') : Acc K H' D ds := by
  obtain ⟨us, a, b⟩ := h.ex
  exact ⟨⟨us, e _ _ a, DpAll.same e _ _ b⟩, h.nl⟩
theorem Acc.but {K : PySem.W.Frag} {H H' : Hp} {D F : Addr} {ds : List PyData} {zs : List V} (h : Acc K H D ds) (e : But F H H') (hF : H F = some (.lst zs)) (n : D ≠ F) : Acc K H' D ds := by
  obtain ⟨us, a, b⟩ := h.ex
  exact ⟨⟨us, e _ _ n a, DpAll.but e hF _ _ h.nl b⟩, h.nl⟩
/-- one more -/
theorem Acc.more {K : PySem.W.Frag} {H : Hp} {D : Addr} {ds : List PyData} {v : V} {d : PyData} (h : Acc K H D ds) (dv : Dp K H v d) (n : noL d = true) (hl : ds.length ≤ 900) :
    ∃ us, H D = some (.lst us) ∧ us.length < sizeLine ∧ Acc K (upd H D (.lst (us ++ [v]))) D (ds ++ [d]) := by
  obtain ⟨us, a, b⟩ := h.ex
  have bu : But D H (upd H D (.lst (us ++ [v]))) := But.upd
  exact ⟨us, a, by rw [DpAll.len b]; exact small1000 (by omega), ⟨us ++ [v], upd_same, DpAll.snoc (Dp.but bu a _ _ n dv) (DpAll.but bu a _ _ h.nl b)⟩, noLs_snoc h.nl n⟩

theorem same_new {H H2 : Hp} {D : Addr} {o : HO} (nD : H D = none) (sm : Same H H2) : Same H (upd H2 D o) := fun c x e => by
  rw [upd_ne (ne_of_none e nD)]
  exact sm c x e
/-- a turn of a comprehension that changes nothing else -/
theorem Acc.turn {K : PySem.W.Frag} {H H1 H2 : Hp} {D : Addr} {ds ds' : List PyData} {v : V} {d : PyData} (nD : H D = none) (sm : Same H H1) (ac : Acc K H1 D ds) (s2 : Same H1 H2) (dv : Dp K H2 v d) (n : noL d = true) (hl : ds.length ≤ 900) (he : ds' = ds ++ [d]) :
    ∃ acc, H2 D = some (.lst acc) ∧ acc.length < sizeLine ∧ (Same H (upd H2 D (.lst (acc ++ [v]))) ∧ Acc K (upd H2 D (.lst (acc ++ [v]))) D ds') := by
  obtain ⟨us, a, b, c⟩ := (ac.same s2).more dv n hl
  exact ⟨us, a, b, same_new nD (sm.trans s2), he ▸ c⟩
/-- the tuple of all that was filled in -/
theorem Acc.tuple {K : PySem.W.Frag} {H : Hp} {D t : Addr} {us : List V} {ds : List PyData} (dv : DpAll K H us ds) (nt : H t = none) : Dp K (upd H t (.tup us)) (.ref t) (.tuple ds) :=
  .tup (.inl (.inl upd_same)) (DpAll.same (same_upd nt) _ _ dv)

/-! ### repr, its text kept shut -/
@[irreducible] def txt (d : PyData) : Str := d.shown
theorem txt_eq (d : PyData) : txt d = d.shown := by
  unfold txt
  rfl
section
variable {X : Cx}
def rReprT (K : PySem.W.Frag) : List V → Hp → VK → Prop := fun xs H Q => ∃ a d, xs = [.ref a] ∧ Dp K H (.ref a) d ∧ d.showable = true ∧ d.hasDict = false ∧ d.depth ≤ 60 ∧ d.shown.length ≤ sizeLine ∧ Q (.str (txt d)) H
theorem call_reprT (gd : X.A.guards = some []) (hu : X.A.units + 64 < cLine) : CallR X (.builtin "repr") (rReprT X.K) := by
  intro pins s σ H args us Q I r h
  obtain ⟨a, d, e, hd, hs, hn, hp, hz, q⟩ := h
  refine call_reprD gd hu pins s σ H args us Q I r ⟨a, d, e, hd, hs, hn, hp, hz, ?_⟩
  rw [← txt_eq]
  exact q
end

/-! ### a call by names alone -/
section
variable {X : Cx} {CX : CXT} {k : Nat} {f : Addr} {fd : FuncData} {ps ks : List Str} {sp : Sp} {E : XK} {x : Str} {p pos : Pos} {kws : List Keyword} {tk : TA} {g : List Value → List Value → List Value} {gV : List V → List V → List V}
theorem pe_callN0 (F : FnOk X.prog X.w X.K X.mg X.base CX k f fd ps sp) (hr : Room k X.A) (hg : Gl X x) (hm : X.mg x = some (.ref f)) (hk : PySem.W.keepIn X.K (.ref f) = true) (hb : KBn X.K fd ps 0 ks g gV) (hx : Passes CX X E) (hkw : PK X kws tk)
    (hks : (backToKw pos (keywordEach kws X.env)).filterMap (·.1) = ks := by rfl) (hall : (backToKw pos (keywordEach kws X.env)).all (·.1.isSome) = true := by rfl)
    (hpl : ((backTo pos (starEach [] X.env)).any (·.1) || (backToKw pos (keywordEach kws X.env)).any (·.1.isNone)) = false := by rfl) (hdb : (x == ("__debug__" : Str)) = false := by decide) :
    PE X (.Call (.Name x p) [] kws pos) (tCallN 0 ks.length sp gV E tNil tk) := by
  constructor
  intro pins s σ H Q I h
  refine wpAny_Call_Name_kw (ld_glob I hg hm (PySem.W.callWith_KW0 (h₀ := X.base) I.ok.mod.kin hk hall (thn (hkw.run pos pins s σ H _ I h) ?_) hpl) hdb)
  rintro ws s2 ⟨zs, H2, I2, rz, l1, l2, q2⟩
  rw [hks]
  exact ⟨I2.kIn, run_fnN (us := []) (vs := []) F hr hb hx I2 .nil rz l1 l2 q2⟩
end
end TB

set_option Elab.async false
set_option linter.all false
set_option maxRecDepth 100000
/-! The value layer: what a def does, as a plain function over values; the heap holds what may change alone. -/
namespace VL
open PySem PySem.Spec PyProof.Rows L2 TB

/-- what the module's names hold, and the world -/
structure MG where
  f : Str → Option Value
  w : World
abbrev _root_.L2.Cx.mgw (X : L2.Cx) : MG := ⟨X.mg, X.w⟩
/-- a constant: a value, or what a name of the module holds -/
inductive Cv where
  | v (v : V) | gl (x : Str)
/-- a value: data, or one of the things that may change (by its number), or a constant of the text -/
inductive D where
  | non | bl (b : Bool) | int (i : Int) | str (x : Str)
  | tup (ds : List D) | lst (ds : List D) | ctp (ds : List D) | fzl (ds : List D)
  | ref (i : Nat) | cv (c : Cv)
/-- a thing that may change -/
inductive C where
  | lst (ds : List D)
  | dct (kvs : List (Key × D))
  | dtt (kvs : List (List Key × D))
  | dtf (kvs : List (List Key × D))
  | lck (kvs : List (Key × D))
  | obj (c : Str) (fs : List (Str × D))
abbrev AS := List C
abbrev En := List (Option D)
inductive Out (α : Type) where
  | ok (a : α) (s : AS)
  | exc (c : Str) (fs : List (Str × D)) (s : AS)
  | bad
def Out.bind {α β : Type} (o : Out α) (k : α → AS → Out β) : Out β := match o with
  | .ok a s => k a s
  | .exc c fs s => .exc c fs s
  | .bad => .bad
@[simp] theorem Out.bind_ok {α β : Type} (a : α) (s : AS) (k : α → AS → Out β) : (Out.ok a s).bind k = k a s := rfl
@[simp] theorem Out.bind_exc {α β : Type} (c : Str) (fs : List (Str × D)) (s : AS) (k : α → AS → Out β) : (Out.exc c fs s : Out α).bind k = .exc c fs s := rfl
@[simp] theorem Out.bind_bad {α β : Type} (k : α → AS → Out β) : (Out.bad : Out α).bind k = .bad := rfl

/-- where the numbered things stand; and what is hidden: nothing that is told leans on it -/
structure Bt where
  l : List Addr
  h : List Addr
def Bt.push (β : Bt) (p : Addr) : Bt := ⟨β.l ++ [p], β.h⟩
def Bt.hide (β : Bt) (p : Addr) : Bt := ⟨β.l, p :: β.h⟩
def Bt.out (β : Bt) (a : Addr) : Prop := a ∉ β.l ∧ a ∉ β.h
/-- written in the text: a tuple, a list -/
def WrT (K : PySem.W.Frag) (a : Addr) (xs : List V) : Prop :=
  ∃ (o : Obj) (its : Array Value) (n : Nat), K.lookup a = some o ∧ o.cls = .type "tuple" ∧ o.data = .seq its n ∧ its.size ≤ sizeLine ∧ Vals xs its.toList
def WrL (K : PySem.W.Frag) (a : Addr) (xs : List V) : Prop :=
  ∃ (o : Obj) (its : Array Value) (n : Nat), K.lookup a = some o ∧ o.cls = .type "list" ∧ o.dict = none ∧ o.data = .seq its n ∧ its.size ≤ sizeLine ∧ Vals xs its.toList
/-- a tuple whose object is known, without a dict of its own: written in the text, or made so -/
def CtT (K : PySem.W.Frag) (H : Hp) (β : Bt) (a : Addr) (us : List V) : Prop :=
  (∃ (o : Obj) (its : Array Value) (n : Nat), K.lookup a = some o ∧ o.cls = .type "tuple" ∧ o.dict = none ∧ o.data = .seq its n ∧ its.size ≤ sizeLine ∧ Vals us its.toList) ∨ (β.out a ∧ ∃ o, H a = some (.frz o (.tup us)) ∧ o.dict = none)
theorem CtT.sq {K : PySem.W.Frag} {H : Hp} {β : Bt} {a : Addr} {us : List V} (h : CtT K H β a us) : SqT K H a us := by
  rcases h with ⟨o, its, n, h1, h2, _, h3, h4, h5⟩ | ⟨_, o, h, _⟩
  · exact .inr ⟨o, its, n, h1, h2, h3, h4, h5⟩
  · exact .inl (.inr ⟨o, h⟩)
theorem CtT.imp {K : PySem.W.Frag} {H H' : Hp} {β β' : Bt} {a : Addr} {us : List V} (h : CtT K H β a us) (f : ∀ o, H a = some (.frz o (.tup us)) → β.out a → H' a = some (.frz o (.tup us)) ∧ β'.out a) : CtT K H' β' a us := by
  rcases h with h | ⟨h1, o, h2, h3⟩
  · exact .inl h
  · obtain ⟨q1, q2⟩ := f o h2 h1
    exact .inr ⟨q2, o, q1, h3⟩
def RepC (K : PySem.W.Frag) : Cv → V → Prop
  | .v v, u => u = v
  | .gl x, u => ∃ a, u = .ref a ∧ PySem.W.nsIn K mainGlobals x = some (some (.ref a))
mutual
inductive Rep (K : PySem.W.Frag) (H : Hp) (β : Bt) : D → V → Prop
  | non : Rep K H β .non .non
  | bl (b : Bool) : Rep K H β (.bl b) (.bl b)
  | int (i : Int) : Rep K H β (.int i) (.int i)
  | str (x : Str) : Rep K H β (.str x) (.str x)
  | cv {c : Cv} {v : V} : RepC K c v → Rep K H β (.cv c) v
  | ref {i : Nat} {a : Addr} : β.l[i]? = some a → Rep K H β (.ref i) (.ref a)
  | tup {a : Addr} {ds : List D} {us : List V} : β.out a → H a = some (.tup us) → Reps K H β ds us → Rep K H β (.tup ds) (.ref a)
  | ctp {a : Addr} {ds : List D} {us : List V} : CtT K H β a us → Reps K H β ds us → Rep K H β (.ctp ds) (.ref a)
  | lst {a : Addr} {ds : List D} {us : List V} : β.out a → H a = some (.lst us) → Reps K H β ds us → Rep K H β (.lst ds) (.ref a)
  | fzl {a : Addr} {ds : List D} {us : List V} : ((β.out a ∧ Rd H a (.lst us)) ∨ WrL K a us) → Reps K H β ds us → Rep K H β (.fzl ds) (.ref a)
inductive Reps (K : PySem.W.Frag) (H : Hp) (β : Bt) : List D → List V → Prop
  | nil : Reps K H β [] []
  | cons {d : D} {u : V} {ds : List D} {us : List V} : Rep K H β d u → Reps K H β ds us → Reps K H β (d :: ds) (u :: us)
end

/-- what comes behind: the numbered things keep their numbers, all else is as it was -/
structure Ext (β : Bt) (H : Hp) (β' : Bt) (H' : Hp) : Prop where
  pre : ∃ g, β'.l = β.l ++ g
  hid : β'.h = β.h
  kept0 : ∀ a o, H a = some o → a ∉ β.l → H' a = some o ∧ a ∉ β'.l
  frz : ∀ a z u, H a = some (.frz z u) → H' a = some (.frz z u)
theorem Ext.kept {β β' : Bt} {H H' : Hp} (x : Ext β H β' H') (a : Addr) (o : HO) (h : H a = some o) (n : β.out a) : H' a = some o ∧ β'.out a := by
  obtain ⟨h1, h2⟩ := x.kept0 a o h n.1
  exact ⟨h1, h2, by rw [x.hid]; exact n.2⟩
theorem Ext.refl (β : Bt) (H : Hp) : Ext β H β H := ⟨⟨[], by simp⟩, rfl, fun _ _ h n => ⟨h, n⟩, fun _ _ _ h => h⟩
theorem Ext.trans {β β1 β2 : Bt} {H H1 H2 : Hp} (a : Ext β H β1 H1) (b : Ext β1 H1 β2 H2) : Ext β H β2 H2 := by
  obtain ⟨g, e⟩ := a.pre
  obtain ⟨g', e'⟩ := b.pre
  refine ⟨⟨g ++ g', by rw [e', e, List.append_assoc]⟩, b.hid.trans a.hid, fun x o h n => ?_, fun x z u h => b.frz x z u (a.frz x z u h)⟩
  obtain ⟨h1, n1⟩ := a.kept0 x o h n
  exact b.kept0 x o h1 n1
theorem Ext.same {β : Bt} {H H' : Hp} (h : Same H H') : Ext β H β H' := ⟨⟨[], by simp⟩, rfl, fun a o e n => ⟨h a o e, n⟩, fun a z u e => h a _ e⟩
theorem Ext.at {β β' : Bt} {H H' : Hp} (x : Ext β H β' H') {i : Nat} {a : Addr} (h : β.l[i]? = some a) : β'.l[i]? = some a := by
  obtain ⟨g, e⟩ := x.pre
  have hl := (List.getElem?_eq_some_iff.mp h).1
  rw [e, List.getElem?_append_left hl]
  exact h
theorem Ext.rd {β β' : Bt} {H H' : Hp} (x : Ext β H β' H') {a : Addr} {o : HO} (n : β.out a) (h : Rd H a o) : β'.out a ∧ Rd H' a o := by
  rcases h with h | ⟨u, h⟩
  · obtain ⟨h1, n1⟩ := x.kept a _ h n
    exact ⟨n1, .inl h1⟩
  · obtain ⟨h1, n1⟩ := x.kept a _ h n
    exact ⟨n1, .inr ⟨u, h1⟩⟩
/-- .. as far as what is told leans on it -/
structure ExtW (β : Bt) (H : Hp) (β' : Bt) (H' : Hp) : Prop where
  pre : ∃ g, β'.l = β.l ++ g
  kept : ∀ a o, H a = some o → β.out a → H' a = some o ∧ β'.out a
theorem Ext.weak {β β' : Bt} {H H' : Hp} (x : Ext β H β' H') : ExtW β H β' H' := ⟨x.pre, x.kept⟩
theorem ExtW.refl (β : Bt) (H : Hp) : ExtW β H β H := (Ext.refl β H).weak
/-- .. and what is locked stays -/
structure ExtF (β : Bt) (H : Hp) (β' : Bt) (H' : Hp) : Prop extends ExtW β H β' H' where
  frz : ∀ a z u, H a = some (.frz z u) → H' a = some (.frz z u)
theorem Ext.weakF {β β' : Bt} {H H' : Hp} (x : Ext β H β' H') : ExtF β H β' H' := ⟨x.weak, x.frz⟩
theorem ExtF.refl (β : Bt) (H : Hp) : ExtF β H β H := (Ext.refl β H).weakF
theorem ExtW.trans {β β1 β2 : Bt} {H H1 H2 : Hp} (a : ExtW β H β1 H1) (b : ExtW β1 H1 β2 H2) : ExtW β H β2 H2 := by
  obtain ⟨g, e⟩ := a.pre
  obtain ⟨g', e'⟩ := b.pre
  refine ⟨⟨g ++ g', by rw [e', e, List.append_assoc]⟩, fun x o h n => ?_⟩
  obtain ⟨h1, n1⟩ := a.kept x o h n
  exact b.kept x o h1 n1
theorem ExtW.at {β β' : Bt} {H H' : Hp} (x : ExtW β H β' H') {i : Nat} {a : Addr} (h : β.l[i]? = some a) : β'.l[i]? = some a := by
  obtain ⟨g, e⟩ := x.pre
  have hl := (List.getElem?_eq_some_iff.mp h).1
  rw [e, List.getElem?_append_left hl]
  exact h
theorem ExtW.rd {β β' : Bt} {H H' : Hp} (x : ExtW β H β' H') {a : Addr} {o : HO} (n : β.out a) (h : Rd H a o) : β'.out a ∧ Rd H' a o := by
  rcases h with h | ⟨u, h⟩
  · obtain ⟨h1, n1⟩ := x.kept a _ h n
    exact ⟨n1, .inl h1⟩
  · obtain ⟨h1, n1⟩ := x.kept a _ h n
    exact ⟨n1, .inr ⟨u, h1⟩⟩
mutual
theorem Rep.extW {K : PySem.W.Frag} {β β' : Bt} {H H' : Hp} (x : ExtW β H β' H') : ∀ {d : D} {u : V}, Rep K H β d u → Rep K H' β' d u
  | _, _, .non => .non
  | _, _, .bl b => .bl b
  | _, _, .int i => .int i
  | _, _, .str s => .str s
  | _, _, .cv v => .cv v
  | _, _, .ref h => .ref (x.at h)
  | _, _, .tup n h r => .tup (x.kept _ _ h n).2 (x.kept _ _ h n).1 (Reps.extW x r)
  | _, _, .ctp h r => .ctp (h.imp fun o e n => x.kept _ _ e n) (Reps.extW x r)
  | _, _, .lst n h r => .lst (x.kept _ _ h n).2 (x.kept _ _ h n).1 (Reps.extW x r)
  | _, _, .fzl h r => .fzl (h.imp (fun z => x.rd z.1 z.2) id) (Reps.extW x r)
theorem Reps.extW {K : PySem.W.Frag} {β β' : Bt} {H H' : Hp} (x : ExtW β H β' H') : ∀ {ds : List D} {us : List V}, Reps K H β ds us → Reps K H' β' ds us
  | _, _, .nil => .nil
  | _, _, .cons r t => .cons (Rep.extW x r) (Reps.extW x t)
end
mutual
theorem Rep.ext {K : PySem.W.Frag} {β β' : Bt} {H H' : Hp} (x : Ext β H β' H') : ∀ {d : D} {u : V}, Rep K H β d u → Rep K H' β' d u
  | _, _, .non => .non
  | _, _, .bl b => .bl b
  | _, _, .int i => .int i
  | _, _, .str s => .str s
  | _, _, .cv v => .cv v
  | _, _, .ref h => .ref (x.at h)
  | _, _, .tup n h r => .tup (x.kept _ _ h n).2 (x.kept _ _ h n).1 (Reps.ext x r)
  | _, _, .ctp h r => .ctp (h.imp fun o e n => x.kept _ _ e n) (Reps.ext x r)
  | _, _, .lst n h r => .lst (x.kept _ _ h n).2 (x.kept _ _ h n).1 (Reps.ext x r)
  | _, _, .fzl h r => .fzl (h.imp (fun z => x.rd z.1 z.2) id) (Reps.ext x r)
theorem Reps.ext {K : PySem.W.Frag} {β β' : Bt} {H H' : Hp} (x : Ext β H β' H') : ∀ {ds : List D} {us : List V}, Reps K H β ds us → Reps K H' β' ds us
  | _, _, .nil => .nil
  | _, _, .cons r t => .cons (Rep.ext x r) (Reps.ext x t)
end
theorem Reps.length {K : PySem.W.Frag} {H : Hp} {β : Bt} : ∀ {ds : List D} {us : List V}, Reps K H β ds us → us.length = ds.length
  | _, _, .nil => rfl
  | _, _, .cons _ t => congrArg Nat.succ (Reps.length t)
theorem Reps.append {K : PySem.W.Frag} {H : Hp} {β : Bt} : ∀ {ds es : List D} {us ws : List V}, Reps K H β ds us → Reps K H β es ws → Reps K H β (ds ++ es) (us ++ ws)
  | _, _, _, _, .nil, s => s
  | _, _, _, _, .cons r t, s => .cons r (Reps.append t s)
theorem Reps.get {K : PySem.W.Frag} {H : Hp} {β : Bt} : ∀ {ds : List D} {us : List V} {i : Nat} {d : D}, Reps K H β ds us → ds[i]? = some d → ∃ u, us[i]? = some u ∧ Rep K H β d u
  | _, _, _, _, .nil, e => by simp at e
  | _, _, 0, _, .cons r _, e => by simp at e; subst e; exact ⟨_, rfl, r⟩
  | _, _, i + 1, d, .cons _ t, e => by
    obtain ⟨u, h1, h2⟩ := Reps.get (i := i) (d := d) t (by simpa using e)
    exact ⟨u, by simpa using h1, h2⟩
theorem Reps.get' {K : PySem.W.Frag} {H : Hp} {β : Bt} : ∀ {ds : List D} {us : List V} {i : Nat} {u : V}, Reps K H β ds us → us[i]? = some u → ∃ d, ds[i]? = some d ∧ Rep K H β d u
  | _, _, _, _, .nil, e => by simp at e
  | _, _, 0, _, .cons r _, e => by simp at e; subst e; exact ⟨_, rfl, r⟩
  | _, _, i + 1, d, .cons _ t, e => by
    obtain ⟨u, h1, h2⟩ := Reps.get' (i := i) (u := d) t (by simpa using e)
    exact ⟨u, by simpa using h1, h2⟩
theorem Reps.set {K : PySem.W.Frag} {H : Hp} {β : Bt} {d : D} {u : V} (r : Rep K H β d u) : ∀ {ds : List D} {us : List V} (i : Nat), Reps K H β ds us → Reps K H β (ds.set i d) (us.set i u)
  | _, _, _, .nil => .nil
  | _, _, 0, .cons _ t => .cons r t
  | _, _, i + 1, .cons q t => .cons q (Reps.set r i t)
theorem Reps.take {K : PySem.W.Frag} {H : Hp} {β : Bt} : ∀ {ds : List D} {us : List V} (n : Nat), Reps K H β ds us → Reps K H β (ds.take n) (us.take n)
  | _, _, 0, _ => .nil
  | _, _, _ + 1, .nil => .nil
  | _, _, n + 1, .cons r t => .cons r (Reps.take n t)
theorem Reps.drop {K : PySem.W.Frag} {H : Hp} {β : Bt} : ∀ {ds : List D} {us : List V} (n : Nat), Reps K H β ds us → Reps K H β (ds.drop n) (us.drop n)
  | _, _, 0, r => r
  | _, _, _ + 1, .nil => .nil
  | _, _, n + 1, .cons _ t => Reps.drop n t

/-- fields by name -/
def RepF (K : PySem.W.Frag) (H : Hp) (β : Bt) (fs : List (Str × D)) (vs : List (Str × V)) : Prop :=
  fs.map (·.1) = vs.map (·.1) ∧ Reps K H β (fs.map (·.2)) (vs.map (·.2))
theorem RepF.ext {K : PySem.W.Frag} {β β' : Bt} {H H' : Hp} (x : Ext β H β' H') {fs : List (Str × D)} {vs : List (Str × V)} (h : RepF K H β fs vs) : RepF K H' β' fs vs := ⟨h.1, h.2.ext x⟩
def RepK {κ : Type} (K : PySem.W.Frag) (H : Hp) (β : Bt) (fs : List (κ × D)) (vs : List (κ × V)) : Prop :=
  fs.map (·.1) = vs.map (·.1) ∧ Reps K H β (fs.map (·.2)) (vs.map (·.2))
theorem RepK.ext {κ : Type} {K : PySem.W.Frag} {β β' : Bt} {H H' : Hp} (x : Ext β H β' H') {fs : List (κ × D)} {vs : List (κ × V)} (h : RepK K H β fs vs) : RepK K H' β' fs vs := ⟨h.1, h.2.ext x⟩

/-- a dict whose keys are known tuples: an object of its own kind -/
def hashT (w : World) (ks : List Key) : Int := reduceHash (Builtin.Tuple.tupleHashOf (ks.map (keyH w)))
def dF (w : World) (a : Addr) (us : List (List Key × V)) (bs : List Addr) : HO := .ext fun h => us.length ≤ sizeLine ∧ (a == sysModules) = false ∧ ∃ xs : List (List Key × Addr × Value),
  Paired (fun (p : List Key × V) (q : List Key × Addr × Value) => p.1 = q.1 ∧ RelV p.2 q.2.2) us xs ∧ xs.map (·.2.1) = bs ∧ (xs.map (·.1)).Nodup ∧
  ∃ o es ep, h.get? a = some o ∧ o.ExactDict ∧ o.data = .dict es ep ∧ es.toList = xs.map fun x => ⟨hashT w x.1, .ref x.2.1, x.2.2⟩
def kD : Key → D
  | .inl i => .int i
  | .inr x => .str x
/-- the thing numbered stands at a -/
def CellOk (K : PySem.W.Frag) (mg : MG) (H : Hp) (β : Bt) (a : Addr) : C → Prop
  | .lst ds => ∃ us, H a = some (.lst us) ∧ Reps K H β ds us
  | .dct kvs => ∃ us, H a = some (.dK us) ∧ RepK K H β kvs us
  | .dtt kvs => ∃ us, H a = some (.dT us) ∧ RepK K H β kvs us
  | .dtf kvs => ∃ us bs, H a = some (dF mg.w a us bs) ∧ RepK K H β kvs us ∧ Reps K H β (kvs.map fun p => .ctp (p.1.map kD)) (bs.map V.ref)
  | .lck kvs => ∃ z us, H a = some (.frz z (.dK us)) ∧ RepK K H β kvs us
  | .obj c fs => ∃ (Ca dx : Addr) (vs : List (Str × V)), mg.f c = some (.ref Ca) ∧ H a = some (.ins Ca dx vs) ∧ RepF K H β fs vs
structure Sim (K : PySem.W.Frag) (mg : MG) (β : Bt) (st : AS) (H : Hp) : Prop where
  len : β.l.length = st.length
  nd : β.l.Nodup
  hid : ∀ a ∈ β.h, a ∉ β.l ∧ ∃ o, H a = some o
  cell : ∀ (i : Nat) (a : Addr) (c : C), β.l[i]? = some a → st[i]? = some c → CellOk K mg H β a c
theorem CellOk.there {K : PySem.W.Frag} {mg : MG} {H : Hp} {β : Bt} {a : Addr} {c : C} (h : CellOk K mg H β a c) : ∃ o, H a = some o ∧ (∀ us, o ≠ .tup us) ∧ ∀ z, o ≠ .own z := by
  cases c with
  | lst ds => obtain ⟨us, e, _⟩ := h; exact ⟨_, e, fun _ z => (nomatch z), fun _ z => (nomatch z)⟩
  | dct kvs => obtain ⟨us, e, _⟩ := h; exact ⟨_, e, fun _ z => (nomatch z), fun _ z => (nomatch z)⟩
  | dtt kvs => obtain ⟨us, e, _⟩ := h; exact ⟨_, e, fun _ z => (nomatch z), fun _ z => (nomatch z)⟩
  | dtf kvs => obtain ⟨us, bs, e, _⟩ := h; exact ⟨_, e, fun _ z => (by unfold dF at z; cases z), fun _ z => (by unfold dF at z; cases z)⟩
  | lck kvs => obtain ⟨_, us, e, _⟩ := h; exact ⟨_, e, fun _ z => (nomatch z), fun _ z => (nomatch z)⟩
  | obj c fs => obtain ⟨_, _, us, _, e, _⟩ := h; exact ⟨_, e, fun _ z => (nomatch z), fun _ z => (nomatch z)⟩
theorem CellOk.ext {K : PySem.W.Frag} {mg : MG} {H H' : Hp} {β β' : Bt} {a : Addr} {c : C} (x : Ext β H β' H') (e : H' a = H a) (h : CellOk K mg H β a c) : CellOk K mg H' β' a c := by
  cases c with
  | lst ds => obtain ⟨us, q, r⟩ := h; exact ⟨us, e.trans q, r.ext x⟩
  | dct kvs => obtain ⟨us, q, r⟩ := h; exact ⟨us, e.trans q, r.ext x⟩
  | dtt kvs => obtain ⟨us, q, r⟩ := h; exact ⟨us, e.trans q, r.ext x⟩
  | dtf kvs => obtain ⟨us, bs, q, r, t⟩ := h; exact ⟨us, bs, e.trans q, r.ext x, t.ext x⟩
  | lck kvs => obtain ⟨z, us, q, r⟩ := h; exact ⟨z, us, e.trans q, r.ext x⟩
  | obj c fs => obtain ⟨Ca, dx, us, m, q, r⟩ := h; exact ⟨Ca, dx, us, m, e.trans q, r.ext x⟩
section
variable {K : PySem.W.Frag} {mg : MG} {H H' : Hp} {β β' : Bt} {st : AS}
theorem Sim.at (S : Sim K mg β st H) {i : Nat} {c : C} (h : st[i]? = some c) : ∃ a, β.l[i]? = some a ∧ CellOk K mg H β a c := by
  have hl := (List.getElem?_eq_some_iff.mp h).1
  have hb : i < β.l.length := by rw [S.len]; exact hl
  exact ⟨β.l[i], by simp [hb], S.cell i _ c (by simp [hb]) h⟩
theorem Sim.here (S : Sim K mg β st H) {a : Addr} (h : a ∈ β.l) : ∃ o, H a = some o := by
  obtain ⟨i, hi, e⟩ := List.getElem_of_mem h
  have hs : i < st.length := by rw [← S.len]; exact hi
  obtain ⟨o, e2, _⟩ := (S.cell i a st[i] (by simp [hi, e]) (by simp [hs])).there
  exact ⟨o, e2⟩
theorem Sim.fresh (S : Sim K mg β st H) {p : Addr} (h : H p = none) : β.out p := by
  refine ⟨fun z => ?_, fun z => ?_⟩
  · obtain ⟨o, e⟩ := S.here z
    rw [h] at e
    cases e
  · obtain ⟨_, o, e⟩ := S.hid p z
    rw [h] at e
    cases e
/-- nothing that was tracked has changed -/
theorem Sim.same (S : Sim K mg β st H) (x : Same H H') : Sim K mg β st H' := by
  refine ⟨S.len, S.nd, fun a ha => ?_, fun i a c h1 h2 => ?_⟩
  · obtain ⟨n, o, e⟩ := S.hid a ha
    exact ⟨n, o, x _ _ e⟩
  · have q := S.cell i a c h1 h2
    obtain ⟨o, e, _⟩ := q.there
    exact q.ext (Ext.same x) ((x _ _ e).trans e.symm)
theorem ext_push {p : Addr} {o : HO} (hp : H p = none) : Ext β H (β.push p) (upd H p o) :=
  ⟨⟨[p], rfl⟩, rfl, fun a u e n => ⟨by rw [upd_ne (ne_of_none e hp)]; exact e, fun z => by
    rcases List.mem_append.mp z with z | z
    · exact n z
    · rw [List.mem_singleton.mp z, hp] at e
      cases e⟩, fun a z u e => by rw [upd_ne (ne_of_none e hp)]; exact e⟩
theorem ext_put {p : Addr} {o o1 : HO} (hm : p ∈ β.l) (e1 : H p = some o1) (hf : ∀ z u, o1 ≠ .frz z u := by intro _ _ z; cases z) : Ext β H β (upd H p o) := ⟨⟨[], by simp⟩, rfl, fun b u e n => by
  have ne : b ≠ p := by
    rintro rfl
    exact n hm
  exact ⟨(upd_ne ne).trans e, n⟩, fun b z u e => by
  have ne : b ≠ p := by
    rintro rfl
    rw [e1] at e
    exact hf z u (Option.some.inj e)
  exact (upd_ne ne).trans e⟩
/-- one more thing that may change -/
theorem Sim.push (S : Sim K mg β st H) {p : Addr} {o : HO} {c : C} (hp : H p = none) (hc : CellOk K mg (upd H p o) (β.push p) p c) : Sim K mg (β.push p) (st ++ [c]) (upd H p o) := by
  have nb := S.fresh hp
  have x : Ext β H (β.push p) (upd H p o) := ext_push hp
  refine ⟨by simp [Bt.push, S.len], ?_, fun a ha => ?_, fun i a c' h1 h2 => ?_⟩
  · show (β.l ++ [p]).Nodup
    rw [List.nodup_append]
    refine ⟨S.nd, by simp, fun a ha b hb => ?_⟩
    rw [List.mem_singleton.mp hb]
    rintro rfl
    exact nb.1 ha
  · obtain ⟨n, u, e⟩ := S.hid a ha
    have ne : a ≠ p := ne_of_none e hp
    refine ⟨fun z => ?_, u, (upd_ne ne).trans e⟩
    rcases List.mem_append.mp z with z | z
    · exact n z
    · exact ne (List.mem_singleton.mp z)
  · change (β.l ++ [p])[i]? = some a at h1
    by_cases hi : i < st.length
    · rw [List.getElem?_append_left (by rw [S.len]; exact hi)] at h1
      rw [List.getElem?_append_left hi] at h2
      have q := S.cell i a c' h1 h2
      obtain ⟨o', e, _⟩ := q.there
      exact q.ext x (upd_ne (ne_of_none e hp))
    · have h3 : i < (st ++ [c]).length := (List.getElem?_eq_some_iff.mp h2).1
      have e : i = st.length := by simp at h3; omega
      subst e
      rw [List.getElem?_append_right (by omega), Nat.sub_self] at h2
      rw [List.getElem?_append_right (by rw [S.len]; omega), S.len, Nat.sub_self] at h1
      simp at h1 h2
      subst h1
      subst h2
      exact hc
theorem extW_put {p : Addr} {o : HO} (hm : p ∈ β.l) : ExtW β H β (upd H p o) := ⟨⟨[], by simp⟩, fun b u e n => by
  have ne : b ≠ p := by
    rintro rfl
    exact n.1 hm
  exact ⟨(upd_ne ne).trans e, n⟩⟩
theorem CellOk.extW {a : Addr} {c : C} (x : ExtW β H β' H') (e : H' a = H a) (h : CellOk K mg H β a c) : CellOk K mg H' β' a c := by
  cases c with
  | lst ds => obtain ⟨us, q, r⟩ := h; exact ⟨us, e.trans q, r.extW x⟩
  | dct kvs => obtain ⟨us, q, r⟩ := h; exact ⟨us, e.trans q, r.1, r.2.extW x⟩
  | dtt kvs => obtain ⟨us, q, r⟩ := h; exact ⟨us, e.trans q, r.1, r.2.extW x⟩
  | dtf kvs => obtain ⟨us, bs, q, r, t⟩ := h; exact ⟨us, bs, e.trans q, ⟨r.1, r.2.extW x⟩, t.extW x⟩
  | lck kvs => obtain ⟨z, us, q, r⟩ := h; exact ⟨z, us, e.trans q, r.1, r.2.extW x⟩
  | obj c fs => obtain ⟨Ca, dx, us, m, q, r⟩ := h; exact ⟨Ca, dx, us, m, e.trans q, r.1, r.2.extW x⟩
/-- the thing numbered i has changed -/
theorem Sim.put (S : Sim K mg β st H) {i : Nat} {a : Addr} {o : HO} {c : C} (ha : β.l[i]? = some a) (hc : CellOk K mg (upd H a o) β a c) : Sim K mg β (st.set i c) (upd H a o) := by
  have hm : a ∈ β.l := List.mem_of_getElem? ha
  have x : ExtW β H β (upd H a o) := extW_put hm
  refine ⟨by simp [S.len], S.nd, fun b hb => ?_, fun j b c' h1 h2 => ?_⟩
  · obtain ⟨n, u, e⟩ := S.hid b hb
    have ne : b ≠ a := fun z => n (by rw [z]; exact hm)
    exact ⟨n, u, (upd_ne ne).trans e⟩
  · by_cases hj : j = i
    · subst hj
      rw [ha] at h1
      cases h1
      have hl : j < st.length := by
        have := (List.getElem?_eq_some_iff.mp h2).1
        simpa using this
      rw [List.getElem?_set_self hl] at h2
      cases h2
      exact hc
    · rw [List.getElem?_set_ne (Ne.symm hj)] at h2
      have ne : b ≠ a := fun z => by
        subst z
        obtain ⟨l1, e1⟩ := List.getElem?_eq_some_iff.mp h1
        obtain ⟨l2, e2⟩ := List.getElem?_eq_some_iff.mp ha
        exact hj ((List.getElem_inj S.nd).mp (e1.trans e2.symm))
      exact (S.cell j b c' h1 h2).extW x (upd_ne ne)
end

/-! ### slots -/
structure EnvR (K : PySem.W.Frag) (H : Hp) (β : Bt) (env : En) (σ : L2.St) : Prop where
  len : env.length = σ.length
  get : ∀ (i : Nat) (d : D), env[i]? = some (some d) → ∃ u, σ[i]? = some (some u) ∧ Rep K H β d u
section
variable {K : PySem.W.Frag} {H H' : Hp} {β β' : Bt} {env : En} {σ : L2.St}
theorem EnvR.ext (e : EnvR K H β env σ) (x : Ext β H β' H') : EnvR K H' β' env σ := ⟨e.len, fun i d h => by
  obtain ⟨u, h1, h2⟩ := e.get i d h
  exact ⟨u, h1, h2.ext x⟩⟩
theorem EnvR.set (e : EnvR K H β env σ) {d : D} {u : V} (r : Rep K H β d u) (i : Nat) : EnvR K H β (env.set i (some d)) (σ.set i (some u)) := by
  refine ⟨by simp [e.len], fun j c h => ?_⟩
  by_cases hj : j = i
  · subst hj
    have hl : j < env.length := by
      have := (List.getElem?_eq_some_iff.mp h).1
      simpa using this
    rw [List.getElem?_set_self hl] at h
    cases h
    exact ⟨u, by rw [List.getElem?_set_self (by rw [← e.len]; exact hl)], r⟩
  · rw [List.getElem?_set_ne (Ne.symm hj)] at h
    obtain ⟨w, h1, h2⟩ := e.get j c h
    exact ⟨w, by rw [List.getElem?_set_ne (Ne.symm hj)]; exact h1, h2⟩
/-- fewer slots are known -/
theorem EnvR.less {env' : En} (e : EnvR K H β env σ) (hl : env'.length = env.length) (h : ∀ (i : Nat) d, env'[i]? = some (some d) → env[i]? = some (some d)) : EnvR K H β env' σ :=
  ⟨hl.trans e.len, fun i d q => e.get i d (h i d q)⟩
end

/-! ### what is wanted -/
/-- an exception of the text: its class, its fields -/
def XRep (K : PySem.W.Frag) (mg : MG) (H : Hp) (β : Bt) (c : Str) (fs : List (Str × D)) (cls : Value) (d : Option Addr) : Prop :=
  ∃ (Ca dx : Addr) (vs : List (Str × V)), cls = .ref Ca ∧ mg.f c = some (.ref Ca) ∧ d = some dx ∧ β.out dx ∧ H dx = some (.xd vs) ∧ RepF K H β fs vs
def Post {α ρ : Type} (K : PySem.W.Frag) (mg : MG) (R : Hp → Bt → α → ρ → Prop) (E : XK) (β : Bt) (H : Hp) (Q : ρ → Hp → Prop) : Out α → Prop
  | .ok a st => ∀ β' H' u, Ext β H β' H' → Sim K mg β' st H' → R H' β' a u → Q u H'
  | .exc c fs st => ∀ β' H' cls d, Ext β H β' H' → Sim K mg β' st H' → XRep K mg H' β' c fs cls d → E cls d H'
  | .bad => False
abbrev rD (K : PySem.W.Frag) : Hp → Bt → D → V → Prop := fun H β d u => Rep K H β d u
abbrev rDs (K : PySem.W.Frag) : Hp → Bt → List D → List V → Prop := fun H β d u => Reps K H β d u
abbrev rB : Hp → Bt → Bool → Bool → Prop := fun _ _ a b => a = b
section
variable {α ρ : Type} {K : PySem.W.Frag} {mg : MG} {R : Hp → Bt → α → ρ → Prop} {E : XK} {β β' : Bt} {H H' : Hp} {Q Q' : ρ → Hp → Prop}
theorem Post.ext {o : Out α} (x : Ext β H β' H') (h : Post K mg R E β H Q o) : Post K mg R E β' H' Q o := by
  cases o with
  | ok a st => exact fun β2 H2 u x2 s r => h β2 H2 u (x.trans x2) s r
  | exc c fs st => exact fun β2 H2 cls d x2 s r => h β2 H2 cls d (x.trans x2) s r
  | bad => exact h
end
/-- the reading of a plain function -/
def tG {α ρ : Type} (K : PySem.W.Frag) (mg : MG) (R : Hp → Bt → α → ρ → Prop) (E : XK) (f : En → AS → Out α) : L2.St → Hp → (ρ → Hp → Prop) → Prop :=
  fun σ H Q => ∃ (β : Bt) (env : En) (st : AS), EnvR K H β env σ ∧ Sim K mg β st H ∧ Post K mg R E β H Q (f env st)
/-- the first step of two -/
theorem tG_bind {α ρ γ τ : Type} {K : PySem.W.Frag} {mg : MG} {R : Hp → Bt → α → ρ → Prop} {R' : Hp → Bt → γ → τ → Prop} {E : XK} {β : Bt} {H : Hp} {Q : τ → Hp → Prop} {Q' : ρ → Hp → Prop}
    {f : En → AS → Out α} {k : α → AS → Out γ} {env : En} {st : AS} {σ : L2.St} (he : EnvR K H β env σ) (hs : Sim K mg β st H) (h : Post K mg R' E β H Q ((f env st).bind k))
    (hk : ∀ a st1 β1 H1 u, Ext β H β1 H1 → Sim K mg β1 st1 H1 → EnvR K H1 β1 env σ → R H1 β1 a u → Post K mg R' E β1 H1 Q (k a st1) → Q' u H1) : tG K mg R E f σ H Q' := by
  refine ⟨β, env, st, he, hs, ?_⟩
  cases e : f env st with
  | ok a st1 =>
    rw [e] at h
    exact fun β1 H1 u x s r => hk a st1 β1 H1 u x s (he.ext x) r (h.ext x)
  | exc c fs st1 =>
    rw [e] at h
    exact h
  | bad =>
    rw [e] at h
    exact h
abbrev tV (K : PySem.W.Frag) (mg : MG) (E : XK) (f : En → AS → Out D) : TE := tG K mg (rD K) E f
abbrev tVA (K : PySem.W.Frag) (mg : MG) (E : XK) (f : En → AS → Out (List D)) : TA := tG K mg (rDs K) E f
abbrev tVT (K : PySem.W.Frag) (mg : MG) (E : XK) (f : En → AS → Out Bool) : TT := tG K mg rB E f
abbrev VE (X : Cx) (E : XK) (e : Expr) (f : En → AS → Out D) : Prop := PE X e (tV X.K X.mgw E f)
abbrev VT (X : Cx) (E : XK) (e : Expr) (f : En → AS → Out Bool) : Prop := PT X e (tVT X.K X.mgw E f)
abbrev VW (X : Cx) (E : XK) (e : Expr) (f : En → AS → Out Bool) : Prop := PW X e (tVT X.K X.mgw E f)
abbrev VA (X : Cx) (E : XK) (es : List Expr) (f : En → AS → Out (List D)) : Prop := PA X es (tVA X.K X.mgw E f)
theorem weakE {X : Cx} {e : Expr} {t t' : TE} (h : PE X e t) (w : ∀ σ H Q, t' σ H Q → t σ H Q) : PE X e t' := ⟨fun pins s σ H Q I q => h.run pins s σ H Q I (w σ H Q q)⟩
theorem weakT {X : Cx} {e : Expr} {t t' : TT} (h : PT X e t) (w : ∀ σ H Q, t' σ H Q → t σ H Q) : PT X e t' := ⟨fun pins s σ H Q I q => h.run pins s σ H Q I (w σ H Q q)⟩
theorem weakW {X : Cx} {e : Expr} {t t' : TT} (h : PW X e t) (w : ∀ σ H Q, t' σ H Q → t σ H Q) : PW X e t' := ⟨fun wh pins s σ H Q I q => h.run wh pins s σ H Q I (w σ H Q q)⟩
theorem weakA {X : Cx} {es : List Expr} {t t' : TA} (h : PA X es t) (w : ∀ σ H Q, t' σ H Q → t σ H Q) : PA X es t' := ⟨fun pos pins s σ H Q I q => h.run pos pins s σ H Q I (w σ H Q q)⟩
theorem weakS {X : Cx} {st : Stmt} {t t' : TS} (h : PS X st t) (w : ∀ De σ H, t' De σ H → t De σ H) : PS X st t' := ⟨fun pins s σ H De I q => h.run pins s σ H De I (w De σ H q)⟩
theorem weakSs {X : Cx} {st : List Stmt} {t t' : TS} (h : PSs X st t) (w : ∀ De σ H, t' De σ H → t De σ H) : PSs X st t' := ⟨fun pins s σ H De I q => h.run pins s σ H De I (w De σ H q)⟩
end VL

set_option Elab.async false
set_option linter.all false
set_option maxRecDepth 100000
set_option maxHeartbeats 1000000
namespace TB
open PySem PySem.Spec PyProof.Rows L2

/-! ### sum, min, max of a tuple of numbers -/
section
variable {l : Addr} {its : List Value} {ns : List Int} {prog : Program} {w : World} {A : Around} {s : Shared} {Q E : Value → Shared → Prop}
theorem tup_old {h' : Heap} {ob : Obj} (kept : ∀ b o, b ∉ [s.heap.objs.size] → (s.heap.push ob).get? b = some o → h'.get? b = some o) : ∀ b o, s.heap.get? b = some o → h'.get? b = some o := fun b o e =>
  kept b o (fun z => by
    have z' : b = s.heap.objs.size := by simpa using z
    have := Heap.lt_size e
    rw [z'] at this
    exact Nat.lt_irrefl _ this) (Heap.get?_push_of_some _ e)
theorem tup_fp {ob : Obj} {xs : Array Value} (hl : s.heap.IsTuple l xs) : l < s.heap.objs.size ∧ ∀ b ∈ [s.heap.objs.size, l], b < (s.heap.push ob).objs.size := by
  obtain ⟨o, ho, _⟩ := hl
  have lt := Heap.lt_size ho
  refine ⟨lt, fun b hb => ?_⟩
  rw [Heap.size_push]
  have : b = s.heap.objs.size ∨ b = l := by simpa using hb
  rcases this with rfl | rfl
  · exact Nat.lt_succ_self _
  · exact Nat.lt_succ_of_lt lt
theorem sum_tupR (hh : A.handled = none) (hl : s.heap.IsTuple l its.toArray) (hi : IntsAre its ns)
    (told : ∀ h' tk t', (∀ b o, s.heap.get? b = some o → h'.get? b = some o) → Q (.int ns.sum t') { s with heap := h', toks := tk }) : wpAny (model prog w) A (call (.builtin "sum") [.ref l]) Q E s := by
  obtain ⟨pairs, e⟩ := hi.allInts.items
  have nums : numsOf (intItems pairs).toList = ns := by rw [← e]; exact hi.numsOf
  rw [nums_intItems] at nums
  rw [e] at hl
  refine call_sum_walkG (wpAny_pyIter_tuple hl ?_)
  refine ⟨_, [_, l], [_], _, _, _, numAt pairs, rfl, Walks.tuple (A := A.in1) hh _ l (Nat.ne_of_lt (tup_fp (ob := default) hl).1) (intItems pairs), ⟨⟨_, Heap.get?_push_size _ rfl, rfl, rfl⟩, hl.push _⟩, (tup_fp hl).2, fun _ _ => intItems_at, fun h' tk t' hk => ?_⟩
  have q := told h' tk t' (tup_old hk)
  have ez : (intItems pairs).size = pairs.size := by simp [intItems]
  rw [ez, preSum_eq, List.take_of_length_le (by simp), nums]
  exact q
theorem min_tupR (hh : A.handled = none) (hl : s.heap.IsTuple l its.toArray) (hi : IntsAre its ns) (hne : 0 < ns.length)
    (told : ∀ h' tk M t', (∀ b o, s.heap.get? b = some o → h'.get? b = some o) → M ∈ ns → (∀ a, a ∈ ns → M ≤ a) → Q (.int M t') { s with heap := h', toks := tk }) : wpAny (model prog w) A (call (.builtin "min") [.ref l]) Q E s := by
  obtain ⟨pairs, e⟩ := hi.allInts.items
  have nums : numsOf (intItems pairs).toList = ns := by rw [← e]; exact hi.numsOf
  rw [nums_intItems] at nums
  subst nums
  rw [e] at hl
  have some1 : 0 < pairs.size := by simpa using hne
  refine call_min_walk (wpAny_pyIter_tuple hl ?_)
  refine ⟨_, [_, l], [_], _, _, _, _, rfl, Walks.tuple (A := A.in1) hh _ l (Nat.ne_of_lt (tup_fp (ob := default) hl).1) (intItems pairs), ⟨⟨_, Heap.get?_push_size _ rfl, rfl, rfl⟩, hl.push _⟩, (tup_fp hl).2, by simpa [intItems] using some1, CmpOf.ints_lt (numAt pairs) (fun _ _ => intItems_at), fun v h' tk hP hk => ?_⟩
  have ez : (intItems pairs).size = pairs.size := by simp [intItems]
  rw [ez] at hP
  obtain ⟨t, rfl⟩ := intItems_at hP
  obtain ⟨_, least⟩ := argBest_lt (numAt pairs) (pairs.size - 1)
  refine told h' tk _ t (tup_old hk) ?_ fun a ha => ?_
  · rw [numAt_eq]
    exact PySem.getD_mem (by rw [List.length_map, Array.length_toList]; omega)
  · obtain ⟨i, hi', rfl⟩ := mem_getD ha
    have lt : i < pairs.toList.length := by simpa using hi'
    rw [Array.length_toList] at lt
    exact numAt_eq .. ▸ least i (by omega)
theorem max_tupR (hh : A.handled = none) (hl : s.heap.IsTuple l its.toArray) (hi : IntsAre its ns) (hne : 0 < ns.length)
    (told : ∀ h' tk M t', (∀ b o, s.heap.get? b = some o → h'.get? b = some o) → M ∈ ns → (∀ a, a ∈ ns → a ≤ M) → Q (.int M t') { s with heap := h', toks := tk }) : wpAny (model prog w) A (call (.builtin "max") [.ref l]) Q E s := by
  obtain ⟨pairs, e⟩ := hi.allInts.items
  have nums : numsOf (intItems pairs).toList = ns := by rw [← e]; exact hi.numsOf
  rw [nums_intItems] at nums
  subst nums
  rw [e] at hl
  have some1 : 0 < pairs.size := by simpa using hne
  refine call_max_walk (wpAny_pyIter_tuple hl ?_)
  refine ⟨_, [_, l], [_], _, _, _, _, rfl, Walks.tuple (A := A.in1) hh _ l (Nat.ne_of_lt (tup_fp (ob := default) hl).1) (intItems pairs), ⟨⟨_, Heap.get?_push_size _ rfl, rfl, rfl⟩, hl.push _⟩, (tup_fp hl).2, by simpa [intItems] using some1, CmpOf.ints_gt (numAt pairs) (fun _ _ => intItems_at), fun v h' tk hP hk => ?_⟩
  have ez : (intItems pairs).size = pairs.size := by simp [intItems]
  rw [ez] at hP
  obtain ⟨t, rfl⟩ := intItems_at hP
  obtain ⟨_, most⟩ := argBest_gt (numAt pairs) (pairs.size - 1)
  refine told h' tk _ t (tup_old hk) ?_ fun a ha => ?_
  · rw [numAt_eq]
    exact PySem.getD_mem (by rw [List.length_map, Array.length_toList]; omega)
  · obtain ⟨i, hi', rfl⟩ := mem_getD ha
    have lt : i < pairs.toList.length := by simpa using hi'
    rw [Array.length_toList] at lt
    exact numAt_eq .. ▸ most i (by omega)
end
section
variable {X : Cx}
def rSumT (K : PySem.W.Frag) : List V → Hp → VK → Prop := fun vs H Q => ∃ (a : Addr) (ns : List Int), vs = [V.ref a] ∧ SqT K H a (ns.map V.int) ∧ Q (.int ns.sum) H
def rMaxT (K : PySem.W.Frag) : List V → Hp → VK → Prop := fun vs H Q => ∃ (a : Addr) (ns : List Int), vs = [V.ref a] ∧ SqT K H a (ns.map V.int) ∧ 0 < ns.length ∧ ∀ m, m ∈ ns → (∀ y, y ∈ ns → y ≤ m) → Q (.int m) H
def rMinT (K : PySem.W.Frag) : List V → Hp → VK → Prop := fun vs H Q => ∃ (a : Addr) (ns : List Int), vs = [V.ref a] ∧ SqT K H a (ns.map V.int) ∧ 0 < ns.length ∧ ∀ m, m ∈ ns → (∀ y, y ∈ ns → m ≤ y) → Q (.int m) H
theorem call_sumT (hc : X.calm = true) : CallR X (.builtin "sum") (rSumT X.K) := by
  intro pins s σ H vs us Q I rel h
  obtain ⟨t, ns, rfl, at_t, q⟩ := h
  obtain ⟨its, rv, hl, _⟩ := I.tuple at_t
  rw [Vals.ref1 rel]
  exact sum_tupR (I.ok.hd hc) hl rv.ints fun h' tk t' hk => ⟨.int _, H, I.kept hk, ⟨_, rfl⟩, q⟩
theorem call_maxT (hc : X.calm = true) : CallR X (.builtin "max") (rMaxT X.K) := by
  intro pins s σ H vs us Q I rel h
  obtain ⟨t, ns, rfl, at_t, hne, q⟩ := h
  obtain ⟨its, rv, hl, _⟩ := I.tuple at_t
  rw [Vals.ref1 rel]
  exact max_tupR (I.ok.hd hc) hl rv.ints hne fun h' tk m t' hk h1 h2 => ⟨.int m, H, I.kept hk, ⟨_, rfl⟩, q m h1 h2⟩
theorem call_minT (hc : X.calm = true) : CallR X (.builtin "min") (rMinT X.K) := by
  intro pins s σ H vs us Q I rel h
  obtain ⟨t, ns, rfl, at_t, hne, q⟩ := h
  obtain ⟨its, rv, hl, _⟩ := I.tuple at_t
  rw [Vals.ref1 rel]
  exact min_tupR (I.ok.hd hc) hl rv.ints hne fun h' tk m t' hk h1 h2 => ⟨.int m, H, I.kept hk, ⟨_, rfl⟩, q m h1 h2⟩
end

/-! ### zip of a tuple and a list: one step of any two iterators -/
section
variable {w : World} {prog : Program} {s : Shared} {A : Around}
/-- nextOf i tells x and leaves T, from any state that keeps what s has but at the places off -/
def NextIs (prog : Program) (w : World) (s : Shared) (off : List Addr) (i : Addr) (x : Value) (T : Heap → Prop) : Prop :=
  ∀ (B : Around) (u : Shared) (Q : Value → Shared → Prop) (E : Value → Shared → Prop), (∀ c o, c ∉ off → s.heap.get? c = some o → u.heap.get? c = some o) →
    (∀ g, T g → Heap.SameBut i u.heap g → Q x { u with heap := g }) → wpAny (model prog w) B (Builtin.SmallTypes.nextOf (.ref i)) Q E u
/-- nextOf i stops -/
def NextEnds (prog : Program) (w : World) (s : Shared) (off : List Addr) (i : Addr) : Prop :=
  ∀ (B : Around) (u : Shared) (Q : Value → Shared → Prop) (E : Value → Shared → Prop), B.handled = none → (∀ c o, c ∉ off → s.heap.get? c = some o → u.heap.get? c = some o) →
    (∀ g e, Heap.ExtBut i u.heap g → (∃ o, g.get? e = some o ∧ o.cls = .type "StopIteration") → E (.ref e) { u with heap := g }) → wpAny (model prog w) B (Builtin.SmallTypes.nextOf (.ref i)) Q E u
/-- the five places of a zip are five -/
structure Five (z TI TO i j : Addr) : Prop where
  a : TI ≠ z
  b : TO ≠ z
  c : i ≠ z
  d : j ≠ z
  e : TO ≠ i
  f : TO ≠ j
  g : i ≠ j

theorem zip_step {E : Value → Shared → Prop} {z TI TO i j : Addr} {x y a b : Value} {T1 T2 : Heap → Prop} {Q : Option Value → Shared → Prop} (F : Five z TI TO i j)
    (hz : IsZip s.heap z TI TO .none) (hTI : IsPair s.heap TI (.ref i) (.ref j)) (hTO : IsPair s.heap TO a b)
    (lt : i < s.heap.objs.size ∧ j < s.heap.objs.size)
    (n1 : NextIs prog w s [z] i x T1) (n2 : NextIs prog w s [z, i, TO] j y T2)
    (k1 : ∀ g g' : Heap, T1 g → (∀ o, g.get? i = some o → g'.get? i = some o) → T1 g') (k2 : ∀ g g' : Heap, T2 g → (∀ o, g.get? j = some o → g'.get? j = some o) → T2 g')
    (hQ : ∀ g, IsZip g z TI TO (rawInt s.heap.objs.size) → IsPair g TO x y → T1 g → T2 g → IsPair g s.heap.objs.size x y → g.objs.size = s.heap.objs.size + 1 →
      (∀ c o, c ∉ [z, TO, i, j] → s.heap.get? c = some o → g.get? c = some o) → Q (some (.ref s.heap.objs.size)) { s with heap := g }) :
    wpAny (model prog w) A (pyNext (Value.ref z)) Q E s := by
  have isZ : s.TypeIs (.ref z) "zip" := ⟨_, hz, rfl⟩
  unfold pyNext
  refine wpAny_bind (wpAny_attempt (wpAny_callSpecial?_slot (name := Str.ofString "__next__") isZ PySem.F.slot_zip_next (wpAny_call_entry PySem.F.slot_zip_next isZ PySem.F.entry_zip_next ?_ (PySem.F.args_zip_next_1 _))))
  show wpAny _ _ (field (Value.ref z) 2 >>= _) _ _ _
  apply wpAny_bind
  refine wpAny_field hz rfl (x := .bool false) rfl ?_
  show wpAny _ _ (field (Value.ref z) 3 >>= _) _ _ _
  apply wpAny_bind
  refine wpAny_field hz rfl (x := .ref TI) rfl ?_
  apply wpAny_bind
  refine wpAny_seqItems hTI rfl ?_
  show wpAny _ _ (Builtin.SmallTypes.ownedTupleIsFree (Value.ref z) >>= _) _ _ _
  apply wpAny_bind; unfold Builtin.SmallTypes.ownedTupleIsFree; apply wpAny_bind
  refine wpAny_field hz rfl (x := .none) rfl (wpAny_pure ?_)
  simp only [if_true]
  apply wpAny_bind
  refine wpAny_rule ?_
  apply wpAny_bind
  refine wpAny_field hz rfl (x := .ref TO) rfl ?_
  apply wpAny_bind
  refine wpAny_setField_rec hz (by simp) fun g1 z1 s1 => ?_
  replace z1 : IsZip g1 z TI TO .ellipsis := z1
  apply wpAny_bind
  simp only [List.forIn_cons, List.forIn_nil, List.zipIdx_cons, List.zipIdx_nil]
  iterate 2 apply wpAny_bind
  apply wpAny_onRaise
  show wpAny _ _ (Builtin.SmallTypes.nextOf (.ref i) >>= _) _ _ _
  apply wpAny_bind
  refine n1 _ _ _ _ (fun c o n e => s1.extBut _ _ (by simpa using n) e) fun g2 t2 s2 => wpAny_pure ?_
  have o2 : IsPair g2 TO a b := s2.extBut _ _ F.e (s1.extBut _ _ F.b hTO)
  apply wpAny_bind
  refine wpAny_seqItems o2 rfl ?_
  apply wpAny_bind
  refine wpAny_updateSeq_pair o2 fun g3 o3 s3 => ?_
  replace o3 : IsPair g3 TO x b := o3
  apply wpAny_bind
  refine wpAny_letGo (wpAny_pure ?_)
  iterate 2 apply wpAny_bind
  apply wpAny_onRaise
  show wpAny _ _ (Builtin.SmallTypes.nextOf (.ref j) >>= _) _ _ _
  apply wpAny_bind
  refine n2 _ _ _ _ (fun c o n e => ?_) fun g4 t4 s4 => wpAny_pure ?_
  · have n' : c ≠ z ∧ c ≠ i ∧ c ≠ TO := by simpa using n
    exact s3.extBut _ _ n'.2.2 (s2.extBut _ _ n'.2.1 (s1.extBut _ _ n'.1 e))
  have o4 : IsPair g4 TO x b := s4.extBut _ _ F.f o3
  apply wpAny_bind
  refine wpAny_seqItems o4 rfl ?_
  apply wpAny_bind
  refine wpAny_updateSeq_pair o4 fun g5 o5 s5 => ?_
  replace o5 : IsPair g5 TO x y := o5
  apply wpAny_bind
  refine wpAny_letGo (wpAny_pure (wpAny_pure ?_))
  apply wpAny_bind
  refine wpAny_seqItems o5 rfl ?_
  apply wpAny_bind
  refine wpAny_newTuple ?_
  have size5 : g5.objs.size = s.heap.objs.size := by rw [s5.1, s4.1, s3.1, s2.1, s1.1]
  have z5 : IsZip g5 z TI TO .ellipsis := s5.extBut _ _ F.b.symm (s4.extBut _ _ F.d.symm (s3.extBut _ _ F.b.symm (s2.extBut _ _ F.c.symm z1)))
  have kept5 : ∀ c o, c ∉ [z, TO, i, j] → s.heap.get? c = some o → g5.get? c = some o := fun c o n e => by
    have n' : c ≠ z ∧ c ≠ TO ∧ c ≠ i ∧ c ≠ j := by simpa using n
    exact s5.extBut _ _ n'.2.1 (s4.extBut _ _ n'.2.2.2 (s3.extBut _ _ n'.2.1 (s2.extBut _ _ n'.2.2.1 (s1.extBut _ _ n'.1 e))))
  have u1 : T1 g5 := k1 _ _ t2 fun o e => s5.extBut _ _ F.e.symm (s4.extBut _ _ F.g (s3.extBut _ _ F.e.symm e))
  have u2 : T2 g5 := k2 _ _ t4 fun o e => s5.extBut _ _ F.f.symm e
  have zl : z < g5.objs.size := Heap.lt_size z5
  show wpAny _ _ (Builtin.SmallTypes.ownedTupleHandOut (.ref z) (.ref g5.objs.size) >>= _) _ _ _
  apply wpAny_bind; unfold Builtin.SmallTypes.ownedTupleHandOut
  have z6 : IsZip (g5.push { cls := .type "tuple", data := .seq #[x, y] }) z TI TO .ellipsis := Heap.get?_push_of_some _ z5
  apply wpAny_bind
  refine wpAny_setField_rec z6 (by simp) fun g7 z7 s7 => ?_
  replace z7 : IsZip g7 z TI TO (rawInt g5.objs.size) := z7
  refine wpAny_setField_rec z7 (by simp) fun g8 z8 s8 => ?_
  replace z8 : IsZip g8 z TI TO (rawInt g5.objs.size) := z8
  have up : ∀ c o, c ≠ z → g5.get? c = some o → g8.get? c = some o := fun c o n e => s8.extBut _ _ n (s7.extBut _ _ n (Heap.get?_push_of_some _ e))
  have pair8 : IsPair g8 g5.objs.size x y := s8.extBut _ _ (Nat.ne_of_gt zl) (s7.extBut _ _ (Nat.ne_of_gt zl) (Heap.get?_push_size _ rfl))
  have size8 : g8.objs.size = g5.objs.size + 1 := by rw [s8.1, s7.1, Heap.size_push]
  rw [size5] at z8 pair8 size8
  refine wpAny_pure ⟨_, rfl, wpAny_pure ?_⟩
  show Q (some (.ref g5.objs.size)) _
  rw [size5]
  exact hQ g8 z8 (up _ _ F.b o5) (k1 _ _ u1 fun o e => up _ o F.c e) (k2 _ _ u2 fun o e => up _ o F.d e) pair8 size8 fun c o n e => up c o (by simp at n; exact n.1) (kept5 c o n e)

theorem zip_stop0 {E : Value → Shared → Prop} {z TI TO i j : Addr} {a b : Value} {Q : Fin → Shared → Prop} (hh : A.handled = none) (F : Five z TI TO i j)
    (hz : IsZip s.heap z TI TO .none) (hTI : IsPair s.heap TI (.ref i) (.ref j)) (hTO : IsPair s.heap TO a b)
    (n : NextEnds prog w s [z] i ∨ (∃ (x : Value) (T : Heap → Prop), NextIs prog w s [z] i x T) ∧ NextEnds prog w s [z, i, TO] j)
    (fin : ∀ (g : Heap) (e : Addr), (∃ o, g.get? e = some o ∧ o.cls = .type "StopIteration") → (∀ c o, c ∉ [z, TO, i, j] → s.heap.get? c = some o → g.get? c = some o) → E (.ref e) { s with heap := g }) :
    wpAny (model prog w) A (Builtin.«zip.__next__» ⟨[Value.ref z], []⟩) Q E s := by
  show wpAny _ _ (field (Value.ref z) 2 >>= _) _ _ _
  apply wpAny_bind
  refine wpAny_field hz rfl (x := .bool false) rfl ?_
  show wpAny _ _ (field (Value.ref z) 3 >>= _) _ _ _
  apply wpAny_bind
  refine wpAny_field hz rfl (x := .ref TI) rfl ?_
  apply wpAny_bind
  refine wpAny_seqItems hTI rfl ?_
  show wpAny _ _ (Builtin.SmallTypes.ownedTupleIsFree (Value.ref z) >>= _) _ _ _
  apply wpAny_bind; unfold Builtin.SmallTypes.ownedTupleIsFree; apply wpAny_bind
  refine wpAny_field hz rfl (x := .none) rfl (wpAny_pure ?_)
  simp only [if_true]
  apply wpAny_bind
  refine wpAny_rule ?_
  apply wpAny_bind
  refine wpAny_field hz rfl (x := .ref TO) rfl ?_
  apply wpAny_bind
  refine wpAny_setField_rec hz (by simp) fun g1 z1 s1 => ?_
  replace z1 : IsZip g1 z TI TO .ellipsis := z1
  apply wpAny_bind
  simp only [List.forIn_cons, List.forIn_nil, List.zipIdx_cons, List.zipIdx_nil]
  iterate 2 apply wpAny_bind
  apply wpAny_onRaise
  show wpAny _ _ (Builtin.SmallTypes.nextOf (.ref i) >>= _) _ _ _
  rcases n with n | ⟨⟨x, T, n⟩, n'⟩
  · apply wpAny_bind
    refine n _ _ _ _ hh (fun c o m e => s1.extBut _ _ (by simpa using m) e) fun g2 e s2 he => ?_
    obtain ⟨oe, hoe, hce⟩ := he
    have z2 : IsZip g2 z TI TO .ellipsis := s2 _ _ F.c.symm z1
    have nez : e ≠ z := fun q => by subst q; rw [z2] at hoe; cases hoe; simp at hce
    refine wpAny_setField_rec z2 (by simp) fun g3 _ s3 => ?_
    refine fin g3 e ⟨oe, s3.extBut _ _ nez hoe, hce⟩ fun c o m q => ?_
    have m' : c ≠ z ∧ c ≠ TO ∧ c ≠ i ∧ c ≠ j := by simpa using m
    exact s3.extBut _ _ m'.1 (s2 _ _ m'.2.2.1 (s1.extBut _ _ m'.1 q))
  · apply wpAny_bind
    refine n _ _ _ _ (fun c o m e => s1.extBut _ _ (by simpa using m) e) fun g2 t2 s2 => wpAny_pure ?_
    have o2 : IsPair g2 TO a b := s2.extBut _ _ F.e (s1.extBut _ _ F.b hTO)
    apply wpAny_bind
    refine wpAny_seqItems o2 rfl ?_
    apply wpAny_bind
    refine wpAny_updateSeq_pair o2 fun g3 o3 s3 => ?_
    apply wpAny_bind
    refine wpAny_letGo (wpAny_pure ?_)
    iterate 2 apply wpAny_bind
    apply wpAny_onRaise
    show wpAny _ _ (Builtin.SmallTypes.nextOf (.ref j) >>= _) _ _ _
    apply wpAny_bind
    refine n' _ _ _ _ hh (fun c o m e => ?_) fun g4 e s4 he => ?_
    · have m' : c ≠ z ∧ c ≠ i ∧ c ≠ TO := by simpa using m
      exact s3.extBut _ _ m'.2.2 (s2.extBut _ _ m'.2.1 (s1.extBut _ _ m'.1 e))
    obtain ⟨oe, hoe, hce⟩ := he
    have z4 : IsZip g4 z TI TO .ellipsis := s4 _ _ F.d.symm (s3.extBut _ _ F.b.symm (s2.extBut _ _ F.c.symm z1))
    have nez : e ≠ z := fun q => by subst q; rw [z4] at hoe; cases hoe; simp at hce
    refine wpAny_setField_rec z4 (by simp) fun g5 _ s5 => ?_
    refine fin g5 e ⟨oe, s5.extBut _ _ nez hoe, hce⟩ fun c o m q => ?_
    have m' : c ≠ z ∧ c ≠ TO ∧ c ≠ i ∧ c ≠ j := by simpa using m
    exact s5.extBut _ _ m'.1 (s4 _ _ m'.2.2.2 (s3.extBut _ _ m'.2.1 (s2.extBut _ _ m'.2.2.1 (s1.extBut _ _ m'.1 q))))
theorem zip_stop {E : Value → Shared → Prop} {z TI TO i j : Addr} {a b : Value} {Q : Option Value → Shared → Prop} (hh : A.handled = none) (F : Five z TI TO i j)
    (hz : IsZip s.heap z TI TO .none) (hTI : IsPair s.heap TI (.ref i) (.ref j)) (hTO : IsPair s.heap TO a b)
    (n : NextEnds prog w s [z] i ∨ (∃ (x : Value) (T : Heap → Prop), NextIs prog w s [z] i x T) ∧ NextEnds prog w s [z, i, TO] j)
    (hQ : ∀ g, (∀ c o, c ∉ [z, TO, i, j] → s.heap.get? c = some o → g.get? c = some o) → Q none { s with heap := g }) :
    wpAny (model prog w) A (pyNext (Value.ref z)) Q E s := by
  have isZ : s.TypeIs (.ref z) "zip" := ⟨_, hz, rfl⟩
  unfold pyNext
  refine wpAny_bind (wpAny_attempt (wpAny_callSpecial?_slot (name := Str.ofString "__next__") isZ PySem.F.slot_zip_next (wpAny_call_entry PySem.F.slot_zip_next isZ PySem.F.entry_zip_next ?_ (PySem.F.args_zip_next_1 _))))
  refine zip_stop0 (A := A.in1) hh F hz hTI hTO n fun g e he hk => ?_
  obtain ⟨o, ho, hc⟩ := he
  apply wpAny_bind
  exact wpAny_isInstance (T := "StopIteration") (b := true) ⟨o, ho, hc⟩ isSubtype_stop (wpAny_pure (hQ _ hk))

/-! a tuple's and a list's -/
theorem next_tup {i l : Addr} {k : Nat} {xs : Array Value} {x : Value} {off : List Addr} (hi : s.heap.IsTupleIter i l k) (hl : s.heap.IsTuple l xs) (hx : xs[k]? = some x) (ni : i ∉ off) (nl : l ∉ off) :
    NextIs prog w s off i x (fun g => g.IsTupleIter i l (k + 1)) := fun B u Q E hk h =>
  RZ.nextOf_tuple_item (hi.at fun o e => hk _ o ni e) (hl.at fun o e => hk _ o nl e) hx h
theorem next_lst {i l : Addr} {k : Nat} {xs : Array Value} {x : Value} {off : List Addr} (hi : s.heap.IsListIter i l k) (hl : s.heap.IsList l xs) (hx : xs[k]? = some x) (ni : i ∉ off) (nl : l ∉ off) :
    NextIs prog w s off i x (fun g => g.IsListIter i l (k + 1)) := fun B u Q E hk h =>
  wpAny_nextOf_list_item (hi.at fun o e => hk _ o ni e) (hl.at fun o e => hk _ o nl e) hx h
theorem ends_tup {i l : Addr} {k : Nat} {xs : Array Value} {off : List Addr} (hi : s.heap.IsTupleIter i l k) (hl : s.heap.IsTuple l xs) (hx : xs[k]? = none) (ni : i ∉ off) (nl : l ∉ off) :
    NextEnds prog w s off i := fun B u Q E hh hk h =>
  RZ.nextOf_tuple_end hh (hi.at fun o e => hk _ o ni e) (hl.at fun o e => hk _ o nl e) hx h
theorem ends_lst {i l : Addr} {k : Nat} {xs : Array Value} {off : List Addr} (hi : s.heap.IsListIter i l k) (hl : s.heap.IsList l xs) (hx : xs[k]? = none) (ni : i ∉ off) (nl : l ∉ off) :
    NextEnds prog w s off i := fun B u Q E hh hk h =>
  wpAny_nextOf_list_end hh (hi.at fun o e => hk _ o ni e) (hl.at fun o e => hk _ o nl e) hx h
end

/-! zip(t, xs), t a tuple, xs a list -/
abbrev zTL1 (h : Heap) (a : Addr) : Heap := h.push { cls := .type "tuple_iterator", data := .fields #[.ref a, .int 0 0] }
abbrev zTL2 (h : Heap) (a b : Addr) : Heap := (zTL1 h a).push { cls := .type "list_iterator", data := .fields #[.ref b, .int 0 0] }
abbrev zTL3 (h : Heap) (a b : Addr) : Heap := (zTL2 h a b).push { cls := .type "tuple", data := .seq #[.ref h.objs.size, .ref (zTL1 h a).objs.size] }
abbrev zTL4 (h : Heap) (a b : Addr) : Heap := (zTL3 h a b).push { cls := .type "tuple", data := .seq #[.none, .none] }
abbrev zTL5 (h : Heap) (a b : Addr) : Heap := (zTL4 h a b).push { cls := .type "zip", data := .fields #[.none, .bool false, .bool false, .ref (zTL2 h a b).objs.size, .ref (zTL3 h a b).objs.size] }
theorem zTL_new (a b : Addr) (xs ys : Array Value) :
    Meets (Builtin.«zip.__new__» ⟨[.type "zip", .ref a, .ref b], []⟩) (fun _ R s => s.heap.IsTuple a xs ∧ s.heap.IsList b ys ∧ R (.ok (.ret (.ref (zTL4 s.heap a b).objs.size))) { s with heap := zTL5 s.heap a b }) :=
  .of_wp fun prog w A R st h => by
    obtain ⟨hp, g, d, tk, os⟩ := st
    obtain ⟨ha, hb, h⟩ := h
    have sub := sub_zip
    have iA : Heap.IsTuple (Shared.heap ⟨hp, g, d, tk, os⟩) a xs := ha
    have iB : Heap.IsList (Shared.heap ⟨hp.push { cls := .type "tuple_iterator", data := .fields #[.ref a, .int 0 0] }, g, d, tk, os⟩) b ys := Heap.IsList.push hb _
    wp_walk using wpAny_pyIter_tuple iA, wpAny_pyIter_list iB
    exact ⟨_, rfl, h⟩
section
variable {prog : Program} {w : World} {A : Around} {E : Value → Shared → Prop} {s : Shared}
theorem call_zTL {a b : Addr} {xs ys : Array Value} {Q : Value → Shared → Prop} (ha : s.heap.IsTuple a xs) (hb : s.heap.IsList b ys)
    (h : ∀ (n : Nat) (g : Heap), n = s.heap.objs.size → IsZip g (n + 4) (n + 2) (n + 3) .none → IsPair g (n + 2) (.ref n) (.ref (n + 1)) → IsPair g (n + 3) .none .none → g.IsTupleIter n a 0 → g.IsListIter (n + 1) b 0 →
      (∀ c o, s.heap.get? c = some o → g.get? c = some o) → Q (.ref (n + 4)) { s with heap := g }) :
    wpAny (model prog w) A (call (.type "zip") [.ref a, .ref b]) Q E s := by
  refine callType_new PySem.F.called_zip (by decide) (PySem.F.typeCall_zip_2 _ _) (PySem.F.newCall_zip_2 _ _) (fun o => PySem.F.args_object_init_3 o _ _) PySem.F.entry_zip_new (zTL_new a b xs ys) ⟨ha, hb, ?_⟩
  have e1 : (zTL1 s.heap a).objs.size = s.heap.objs.size + 1 := Heap.size_push ..
  have e2 : (zTL2 s.heap a b).objs.size = s.heap.objs.size + 2 := by rw [Heap.size_push, e1]
  have e3 : (zTL3 s.heap a b).objs.size = s.heap.objs.size + 3 := by rw [Heap.size_push, e2]
  have e4 : (zTL4 s.heap a b).objs.size = s.heap.objs.size + 4 := by rw [Heap.size_push, e3]
  have g5 : (zTL5 s.heap a b).get? (zTL4 s.heap a b).objs.size = some _ := Heap.get?_push_size _ rfl
  have g4 : (zTL5 s.heap a b).get? (zTL3 s.heap a b).objs.size = some _ := Heap.get?_push_of_some _ (Heap.get?_push_size _ rfl)
  have g3 : (zTL5 s.heap a b).get? (zTL2 s.heap a b).objs.size = some _ := Heap.get?_push_of_some _ (Heap.get?_push_of_some _ (Heap.get?_push_size _ rfl))
  have g2 : (zTL5 s.heap a b).get? (zTL1 s.heap a).objs.size = some _ := Heap.get?_push_of_some _ (Heap.get?_push_of_some _ (Heap.get?_push_of_some _ (Heap.get?_push_size _ rfl)))
  have g1 : (zTL5 s.heap a b).get? s.heap.objs.size = some _ := Heap.get?_push_of_some _ (Heap.get?_push_of_some _ (Heap.get?_push_of_some _ (Heap.get?_push_of_some _ (Heap.get?_push_size _ rfl))))
  show _ ∧ _
  rw [e2, e3, e4] at g5
  rw [e1, e2] at g3
  rw [e3] at g4
  rw [e1] at g2
  rw [e4]
  refine ⟨⟨_, g5, rfl⟩, h _ _ rfl g5 g3 g4 ⟨_, g1, rfl, rfl⟩ ⟨_, g2, rfl, rfl⟩ fun c o x => ?_⟩
  iterate 5 apply Heap.get?_push_of_some
  exact x
end

/-- what a turn over zip(t, xs) is -/
def ItTL (K : PySem.W.Frag) (a b : Addr) : It :=
  ⟨fun i H => ∃ (xs ys : List V) (x y : V), SqT K H a xs ∧ SqL K H b ys ∧ xs[i]? = some x ∧ ys[i]? = some y,
    fun i H v H' => ∃ T x y, v = .ref T ∧ H T = none ∧ H' = upd H T (.tup [x, y]) ∧ (∀ xs, SqT K H a xs → xs[i]? = some x) ∧ ∀ ys, SqL K H b ys → ys[i]? = some y,
    fun i H => ∃ xs ys : List V, SqT K H a xs ∧ SqL K H b ys ∧ (xs.length ≤ i ∨ ys.length ≤ i)⟩
theorem turn_TL {P : Program} {w : World} {K : PySem.W.Frag} {elts : List Expr} {kk : Nat} {tpos : Pos} {a b z TI TO i1 i2 : Addr} (V5 : Five z TI TO i1 i2) (nI : TI ≠ TO ∧ TI ≠ i1 ∧ TI ≠ i2) (na : a ∉ [z, TO, i1, i2]) (nb : b ∉ [z, TO, i1, i2]) :
    Turn P w K (.Tuple elts kk tpos) (ItTL K a b) [z, TI, TO, i1, i2] z (fun i h => IsZip h z TI TO .none ∧ IsPair h TI (.ref i1) (.ref i2) ∧ (∃ x y, IsPair h TO x y) ∧ h.IsTupleIter i1 a i ∧ h.IsListIter i2 b i) where
  mem := by simp
  obj := fun i h st c hc => by
    obtain ⟨isz, pI, ⟨x, y, pO⟩, ⟨o1, e1, _, d1⟩, ⟨o2, e2, _, d2⟩⟩ := st
    have five : c = z ∨ c = TI ∨ c = TO ∨ c = i1 ∨ c = i2 := by simpa using hc
    rcases five with rfl | rfl | rfl | rfl | rfl
    · exact ⟨_, isz, fun v q => nomatch q⟩
    · exact ⟨_, pI, fun v q => nomatch q⟩
    · exact ⟨_, pO, fun v q => nomatch q⟩
    · exact ⟨o1, e1, fun v q => by rw [d1] at q; cases q⟩
    · exact ⟨o2, e2, fun v q => by rw [d2] at q; cases q⟩
  keep := fun i h h' st k => by
    obtain ⟨isz, pI, ⟨x, y, pO⟩, h1, h2⟩ := st
    exact ⟨k _ (by simp) _ isz, k _ (by simp) _ pI, ⟨x, y, k _ (by simp) _ pO⟩, h1.at fun o q => k _ (by simp) o q, h2.at fun o q => k _ (by simp) o q⟩
  item := by
    intro X eP eW eK hc i pins s σ H E I hf st hg
    subst eP eW eK
    obtain ⟨isz, pI, ⟨x0, y0, pO⟩, h1, h2⟩ := st
    obtain ⟨xs, ys, x, y, qx, qy, hx, hy⟩ := hg
    obtain ⟨its, rv, p1, _⟩ := I.tuple qx
    obtain ⟨jts, rw_, p2, _⟩ := I.list qy
    obtain ⟨u, at_u, ru⟩ := rv.get hx
    obtain ⟨v, hv, rv2⟩ := rw_.get hy
    have zl : z < s.heap.objs.size := Heap.lt_size isz
    have l1 : i1 < s.heap.objs.size := by obtain ⟨_, e, _⟩ := h1; exact Heap.lt_size e
    have l2 : i2 < s.heap.objs.size := by obtain ⟨_, e, _⟩ := h2; exact Heap.lt_size e
    have na' : a ≠ z ∧ a ≠ TO ∧ a ≠ i1 ∧ a ≠ i2 := by simpa using na
    have nb' : b ≠ z ∧ b ≠ TO ∧ b ≠ i1 ∧ b ≠ i2 := by simpa using nb
    refine zip_step (T1 := fun g => g.IsTupleIter i1 a (i + 1)) (T2 := fun g => g.IsListIter i2 b (i + 1)) V5 isz pI pO ⟨l1, l2⟩ (next_tup h1 p1 (x := u) (by simpa using at_u) (by simpa using V5.c) (by simpa using na'.1))
      (next_lst h2 p2.isList (x := v) (by simpa using hv) (by simpa using ⟨V5.d, V5.g.symm, V5.f.symm⟩) (by simpa using ⟨nb'.1, nb'.2.2.1, nb'.2.1⟩)) (fun g g' t k => t.at k) (fun g g' t k => t.at k) fun g z' TO' t1 t2 hT hsz hk => ?_
    refine ⟨_, rfl, wpAny_letOwnedTupleGo_zip (s := { s with heap := g }) z' fun g2 z2 sb => ?_⟩
    have hT2 : g2.get? s.heap.objs.size = some { cls := .type "tuple", data := .seq #[u, v] } := (sb.2 _ (Nat.ne_of_gt zl)).trans hT
    have new : ObjOk X.prog X.w (upd H s.heap.objs.size (.tup [x, y])) g2 s.heap.objs.size (.tup [x, y]) := ⟨by show 2 ≤ sizeLine; decide, [u, v], .cons ru (.cons rv2 .nil), ⟨_, hT2, rfl, _, rfl⟩⟩
    have I1 : Inv X pins σ (upd H s.heap.objs.size (.tup [x, y])) { s with heap := g2 } := by
      refine I.turnedNew (t' := s.toks) (ch := [z, TI, TO, i1, i2]) (fun c o hb q => ?_) hf (Nat.le_refl _) new
      have n5 : c ≠ z ∧ c ≠ TI ∧ c ≠ TO ∧ c ≠ i1 ∧ c ≠ i2 := by simpa using hb
      exact (sb.2 c n5.1).trans (hk c o (by simpa using ⟨n5.1, n5.2.2.1, n5.2.2.2.1, n5.2.2.2.2⟩) q)
    have up : ∀ c o, c ≠ z → g.get? c = some o → g2.get? c = some o := fun c o n q => (sb.2 c n).trans q
    refine ⟨.ref s.heap.objs.size, _, I1, rfl, ⟨_, x, y, rfl, I.hok.fresh (Nat.le_refl _), rfl, fun l hl => by rw [I.tuple_inj hl qx]; exact hx, fun l hl => by rw [I.list_inj hl qy]; exact hy⟩, ⟨z2, ?_, ⟨u, v, up _ _ V5.b TO'⟩, t1.at fun o q => up _ o V5.c q, t2.at fun o q => up _ o V5.d q⟩, fun c hcm => ?_⟩
    · exact up _ _ V5.a (hk _ _ (by simpa using ⟨V5.a, nI.1, nI.2.1, nI.2.2⟩) pI)
    · have five : c = z ∨ c = TI ∨ c = TO ∨ c = i1 ∨ c = i2 := by simpa using hcm
      have lt : c < s.heap.objs.size := by
        rcases five with rfl | rfl | rfl | rfl | rfl
        · exact zl
        · exact Heap.lt_size pI
        · exact Heap.lt_size pO
        · exact l1
        · exact l2
      rw [upd_ne (Nat.ne_of_lt lt)]
      exact (hf c hcm).1
  done := by
    intro X eP eW eK hc i pins s σ H E I hf st hg
    subst eP eW eK
    obtain ⟨isz, pI, ⟨x0, y0, pO⟩, h1, h2⟩ := st
    obtain ⟨xs, ys, qx, qy, hend⟩ := hg
    obtain ⟨its, rv, p1, _⟩ := I.tuple qx
    obtain ⟨jts, rw_, p2, _⟩ := I.list qy
    have m1 := rv.length
    have m2 := rw_.length
    have na' : a ≠ z ∧ a ≠ TO ∧ a ≠ i1 ∧ a ≠ i2 := by simpa using na
    have nb' : b ≠ z ∧ b ≠ TO ∧ b ≠ i1 ∧ b ≠ i2 := by simpa using nb
    have n : NextEnds X.prog X.w s [z] i1 ∨ (∃ (x : Value) (T : Heap → Prop), NextIs X.prog X.w s [z] i1 x T) ∧ NextEnds X.prog X.w s [z, i1, TO] i2 := by
      by_cases c : xs.length ≤ i
      · exact .inl (ends_tup h1 p1 (by simp; omega) (by simpa using V5.c) (by simpa using na'.1))
      · have c2 : ys.length ≤ i := by omega
        exact .inr ⟨⟨its[i]'(by omega), _, next_tup h1 p1 (by simp) (by simpa using V5.c) (by simpa using na'.1)⟩, ends_lst h2 p2.isList (by simp; omega) (by simpa using ⟨V5.d, V5.g.symm, V5.f.symm⟩) (by simpa using ⟨nb'.1, nb'.2.2.1, nb'.2.1⟩)⟩
    refine zip_stop (I.ok.hd hc) V5 isz pI pO n fun g hk => ⟨rfl, I.turnedL (t' := s.toks) (ch := [z, TI, TO, i1, i2]) (fun c o hb q => ?_) hf⟩
    have n5 : c ≠ z ∧ c ≠ TI ∧ c ≠ TO ∧ c ≠ i1 ∧ c ≠ i2 := by simpa using hb
    exact hk c o (by simpa using ⟨n5.1, n5.2.2.1, n5.2.2.2.1, n5.2.2.2.2⟩) q
  self := fun _ _ _ _ _ st h => wpAny_pyIter_zip st.1 h

theorem five_at (n : Nat) : Five (n + 4) (n + 2) (n + 3) n (n + 1) := by
  constructor
  · show (n + 2 : Nat) ≠ n + 4; omega
  · show (n + 3 : Nat) ≠ n + 4; omega
  · show (n : Nat) ≠ n + 4; omega
  · show (n + 1 : Nat) ≠ n + 4; omega
  · show (n + 3 : Nat) ≠ n; omega
  · show (n + 3 : Nat) ≠ n + 1; omega
  · show (n : Nat) ≠ n + 1; omega
theorem six_at (n : Nat) : (n + 2 : Nat) ≠ n + 3 ∧ (n + 2 : Nat) ≠ n ∧ (n + 2 : Nat) ≠ n + 1 := by omega
theorem five_out {n a : Nat} (h : a < n) : a ∉ [n + 4, n + 3, n, n + 1] := by
  simp
  omega
def iTL (K : PySem.W.Frag) (ta : TA) : TI := fun σ H R => ta σ H fun vs H1 => ∃ a b xs ys, vs = [.ref a, .ref b] ∧ SqT K H1 a xs ∧ SqL K H1 b ys ∧ R (ItTL K a b) H1
theorem pi_zipTL {X : Cx} {e e2 : Expr} {ta : TA} {p pos tpos : Pos} {elts : List Expr} {kk : Nat} (hg : Gl X "zip") (hm : X.mg "zip" = none) (ha : PA X [e, e2] ta)
    (hs : starEach [e, e2] X.env = (false, eval e X.env) :: starEach [e2] X.env := by rfl) (hpl : (backTo pos (starEach [e2] X.env)).any (·.1) = false := by rfl) : PI X (.Tuple elts kk tpos) (.Call (.Name "zip" p) [e, e2] [] pos) (iTL X.K ta) := by
  refine ⟨fun pins s0 σ H R I h => ?_⟩
  refine Call_ (ld_blt I hg hm PyProof.Rows.boot_zip (PyProof.Rows.callWith_type1 (thn (ha.run pos pins s0 σ H _ I h) fun us u ⟨vs, H1, I1, r1, q1⟩ => ?_) hs hpl))
  obtain ⟨a, b, xs, ys, rfl, qx, qy, q⟩ := q1
  cases r1 with
  | cons r rr =>
    cases rr with
    | cons r' rr =>
      cases rr
      cases r
      cases r'
      obtain ⟨its, rv, p1, _⟩ := I1.tuple qx
      obtain ⟨jts, rw_, p2, _⟩ := I1.list qy
      have la : a < u.heap.objs.size := by obtain ⟨o, ho, _⟩ := id p1; exact Heap.lt_size ho
      have lb : b < u.heap.objs.size := p2.lt
      refine call_zTL (xs := its.toArray) p1 p2.isList fun n g hn hz hTI hTO h1 h2 hk => wpAny_pyIter_zip hz ?_
      have I2 : Inv X pins σ H1 { u with heap := g } := I1.kept (t' := u.toks) hk
      have fr : ∀ c, c ∈ [n + 4, n + 2, n + 3, n, n + 1] → FpOk X pins H1 c := fun c hcm => by
        have five : c = n + 4 ∨ c = n + 2 ∨ c = n + 3 ∨ c = n ∨ c = n + 1 := by simpa using hcm
        have le : u.heap.objs.size ≤ c := by rw [← hn]; omega
        exact I1.fpOk le (I1.hok.fresh le)
      refine ⟨n + 4, [n + 4, n + 2, n + 3, n, n + 1], _, _, H1, rfl, I2, turn_TL (z := n + 4) (TI := n + 2) (TO := n + 3) (i1 := n) (i2 := n + 1) (five_at n) (six_at n) (five_out (by rw [hn]; exact la)) (five_out (by rw [hn]; exact lb)), ⟨hz, hTI, ⟨_, _, hTO⟩, h1, h2⟩, fr, q⟩
/-- a loop over it, both of one length -/
theorem for_TL {K : PySem.W.Frag} {a b : Addr} {xs ys : List V} {g : TG} {tb : TS} {D : Ends} {σ : L2.St} {H : Hp} (hl : xs.length = ys.length) (Inv0 : Nat → L2.St → Hp → Prop) (h0 : Inv0 0 σ H) (hq : ∀ i σ H, Inv0 i σ H → SqT K H a xs ∧ SqL K H b ys)
    (hs : ∀ (i : Nat) (x y : V) (T : Addr) (σ : L2.St) (H : Hp), xs[i]? = some x → ys[i]? = some y → Inv0 i σ H → H T = none → g (.ref T) σ (upd H T (.tup [x, y])) fun σ2 H2 => tb { D with nx := Inv0 (i + 1), ct := Inv0 (i + 1), bk := D.nx } σ2 H2) (hd : ∀ σ H, Inv0 xs.length σ H → D.nx σ H) :
    ∃ Z : Nat → Nat → L2.St → Hp → Prop, (∃ m, Z 0 m σ H) ∧ ∀ i m σ H, Z i m σ H →
      ((ItTL K a b).stop i H ∧ D.nx σ H) ∨ ((ItTL K a b).go i H ∧ ∃ N : L2.St → Hp → Prop, (∀ σ' H', N σ' H' → ∃ m', m' < m ∧ Z (i + 1) m' σ' H') ∧ ∀ v H', (ItTL K a b).yld i H v H' → g v σ H' fun σ2 H2 => tb { D with nx := N, ct := N, bk := D.nx } σ2 H2) := by
  refine ⟨fun i m σ H => m = xs.length - i ∧ i ≤ xs.length ∧ Inv0 i σ H, ⟨xs.length, rfl, Nat.zero_le _, h0⟩, ?_⟩
  rintro i m σ H ⟨rfl, hi, p⟩
  obtain ⟨qx, qy⟩ := hq i σ H p
  by_cases lt : i < xs.length
  · have lt2 : i < ys.length := by omega
    refine .inr ⟨⟨xs, ys, _, _, qx, qy, List.getElem?_eq_getElem lt, List.getElem?_eq_getElem lt2⟩, Inv0 (i + 1), fun σ' H' p' => ⟨xs.length - (i + 1), by omega, rfl, lt, p'⟩, fun v H' y => ?_⟩
    obtain ⟨T, u1, u2, rfl, nT, rfl, f1, f2⟩ := y
    exact hs i u1 u2 T σ H (f1 xs qx) (f2 ys qy) p nT
  · obtain rfl : i = xs.length := by omega
    exact .inl ⟨⟨xs, ys, qx, qy, .inl (Nat.le_refl _)⟩, hd σ H p⟩
/-! ### slices and sums of tuples, whichever way they come -/
theorem slA {K : PySem.W.Frag} {H : Hp} {a : Addr} {xs : List V} {lo hi : Option Int} {Q : VK} (h : SqT K H a xs) (q : ∀ H' r, Same H H' → SqT K H' r (cutV xs lo hi) → Q (.ref r) H') : rSlA K (.ref a) lo hi H Q := by
  refine ⟨a, xs, rfl, h, fun hw => q H a (Same.refl H) ?_, fun _ p np => q _ p (same_upd np) (.inl (.inl upd_same))⟩
  unfold cutV
  rw [hw.1, hw.2, List.drop_zero, Nat.sub_zero, List.take_length]
  exact h
theorem catA {K : PySem.W.Frag} {H : Hp} {a b : Addr} {xs ys : List V} {Q : VK} (ha : SqT K H a xs) (hb : SqT K H b ys) (hl : xs.length + ys.length ≤ sizeLine) (q : ∀ H' r, Same H H' → SqT K H' r (xs ++ ys) → Q (.ref r) H') : rCatA K (.ref a) (.ref b) H Q := by
  refine ⟨a, b, xs, ys, rfl, rfl, ha, hb, hl, fun e => q H b (Same.refl H) ?_, fun _ e => q H a (Same.refl H) ?_, fun _ _ p np => q _ p (same_upd np) (.inl (.inl upd_same))⟩
  · rw [e, List.nil_append]
    exact hb
  · rw [e, List.append_nil]
    exact ha
theorem cut_last (xs : List V) (v : V) : cutV (xs ++ [v]) (some (-1)) none = [v] := by
  have e : HT.sIx (xs ++ [v]).length 0 (some (-1)) = xs.length := by
    show (if (-1 : Int) < 0 then (-1 + ((xs ++ [v]).length : Int)).toNat else min (-1 : Int).toNat (xs ++ [v]).length) = xs.length
    rw [if_pos (by decide), List.length_append, List.length_singleton]
    omega
  unfold cutV
  rw [e, HT.sIx_none, List.drop_left, List.length_append, List.length_singleton, Nat.add_sub_cancel_left]
  rfl
theorem cut_init (xs : List V) (v : V) : cutV (xs ++ [v]) none (some (-1)) = xs := by
  have e : HT.sIx (xs ++ [v]).length (xs ++ [v]).length (some (-1)) = xs.length := by
    show (if (-1 : Int) < 0 then (-1 + ((xs ++ [v]).length : Int)).toNat else min (-1 : Int).toNat (xs ++ [v]).length) = xs.length
    rw [if_pos (by decide), List.length_append, List.length_singleton]
    omega
  unfold cutV
  rw [e, HT.sIx_none, List.drop_zero, Nat.sub_zero, List.take_left]
end TB

set_option Elab.async false
set_option linter.all false
set_option maxRecDepth 100000
namespace TB
open PySem PySem.Spec PyProof.Rows L2 HT

/-! ### t[::-1] of a tuple -/
theorem back_adjust (n : Nat) : Builtin.Slice.sliceAdjust none none (-1) (n : Int) = ((n : Int) - 1, -1) := by
  simp [Builtin.Slice.sliceAdjust]
theorem back_places (n : Nat) : Builtin.Slice.slicePlaces ((n : Int) - 1) (-1) (-1) = n := by
  have no : ¬ ((-1 : Int) > 0) := by decide
  simp only [Builtin.Slice.slicePlaces, no, if_false]
  by_cases c : (n : Int) - 1 > -1
  · rw [if_pos c, show (- -1 : Int) = 1 by decide, Int.ediv_one]
    omega
  · rw [if_neg c]
    omega
theorem fm_congr {α β : Type} {f g : α → Option β} : ∀ {l : List α}, (∀ a ∈ l, f a = g a) → l.filterMap f = l.filterMap g
  | [], _ => rfl
  | x :: l, h => by
    rw [List.filterMap_cons, List.filterMap_cons, h x List.mem_cons_self, fm_congr fun a ha => h a (List.mem_cons_of_mem _ ha)]
theorem back_pick (xs : Array Value) : ((List.range xs.size).filterMap fun (m : Nat) => xs[(((xs.size : Int) - 1) + (m : Int) * (-1)).toNat]?).toArray = xs.toList.reverse.toArray := by
  have e : (List.range xs.size).filterMap (fun (m : Nat) => xs[(((xs.size : Int) - 1) + (m : Int) * (-1)).toNat]?) = ((List.range xs.size).map fun m => xs.size - 1 - m).filterMap (xs[·]?) := by
    rw [List.filterMap_map]
    refine fm_congr fun m hm => ?_
    have : (((xs.size : Int) - 1) + (m : Int) * (-1)).toNat = xs.size - 1 - m := by
      have := List.mem_range.mp hm
      omega
    rw [this]
    rfl
  rw [e, PySem.W.krv_range, List.filterMap_reverse, PySem.W.krv_all]
section
variable {w : World} {prog : Program} {s : Shared} {A : Around} {E : Value → Shared → Prop}
theorem back_applied {sl : Addr} {vs : Value} {n : Nat} {Q : Int × Int × Nat → Shared → Prop} (hs : s.heap.IsSliceOf sl .none .none vs) (ps : IsPart vs (some (-1))) (h : Q ((n : Int) - 1, -1, n) s) :
    wpAny (model prog w) A (Builtin.Slice.sliceApplied (Value.ref sl) (pure (n : Int))) Q E s := by
  obtain ⟨o, ho, _, hd⟩ := id hs
  unfold Builtin.Slice.sliceApplied
  unfold Builtin.Slice.sliceFields
  refine wpAny_bind (wpAny_bind (wpAny_field ho hd (x := .none) rfl (wpAny_bind (wpAny_field ho hd (x := .none) rfl (wpAny_bind (wpAny_field ho hd (x := vs) rfl (wpAny_pure ?_)))))))
  apply wpAny_bind
  refine slicePart_ ps ?_
  show wpAny _ _ (if ((-1 : Int) == 0) = true then _ else _) _ _ s
  rw [if_neg (by decide)]
  apply wpAny_bind
  refine slicePart_ .none ?_
  apply wpAny_bind
  refine slicePart_ .none ?_
  apply wpAny_bind
  refine wpAny_pure ?_
  show wpAny _ _ (match Builtin.Slice.sliceAdjust none none (-1) (n : Int) with | (lo, hi) => pure (lo, (-1 : Int), Builtin.Slice.slicePlaces lo hi (-1))) _ _ s
  rw [back_adjust]
  show wpAny _ _ (pure ((n : Int) - 1, (-1 : Int), Builtin.Slice.slicePlaces ((n : Int) - 1) (-1) (-1))) _ _ s
  rw [back_places]
  exact wpAny_pure h
theorem back_item {t sl : Addr} {items : Array Value} {vs : Value} {Q : Value → Shared → Prop} (ht : IsTup s.heap t items) (hs : s.heap.IsSliceOf sl .none .none vs) (ps : IsPart vs (some (-1)))
    (h : Q (.ref s.heap.objs.size) { s with heap := s.heap.push { cls := .type "tuple", data := .seq items.toList.reverse.toArray } }) (hsz : items.size ≤ sizeLine) : wpAny (model prog w) A (getItem (.ref t) (.ref sl)) Q E s := by
  have fits : sizeOk (.seq items.toList.reverse.toArray) := by
    show items.toList.reverse.toArray.size ≤ sizeLine
    rw [List.size_toArray, List.length_reverse, Array.length_toList]
    exact hsz
  obtain ⟨o, ho, hc, hd⟩ := id hs
  have isS : s.TypeIs (.ref sl) "slice" := ⟨o, ho, hc⟩
  unfold getItem
  try with_reducible apply wpAny_holding
  try refine wpAny_bind (wpAny_pure ?_)
  apply wpAny_bind
  refine wpAny_sequenceKey ht.typeIs (by decide) ?_
  apply wpAny_bind
  refine wpAny_callSpecial?_slot (name := Str.ofString "__getitem__") ht.typeIs PyProof.Rows.slot_tuple_getitem (wpAny_call_entry PyProof.Rows.slot_tuple_getitem ht.typeIs entry_tuple_getitem ?_ (args_tuple_getitem _ _))
  show wpAny _ _ (Builtin.Tuple.tupleItemsOf (Value.ref t) >>= _) _ _ s
  apply wpAny_bind
  refine tupleItemsOf_ ht ?_
  apply wpAny_bind
  refine wpAny_typeOf isS ?_
  rw [if_pos (by decide)]
  apply wpAny_bind
  refine back_applied hs ps ?_
  show wpAny _ _ (if (((items.size : Int) - 1) == 0 && (-1 : Int) == 1 && items.size == items.size) = true then _ else _) _ _ s
  rw [if_neg (by simp), back_pick]
  first
    | exact wpAny_bind (m := Builtin.Tuple.tupleExact _) (wpAny_newObj_type (wpAny_pure ⟨_, rfl, wpAny_pure h⟩) fits)
    | exact wpAny_bind (m := Builtin.Tuple.tupleExact _) (wpAny_newObj_type (wpAny_bind (wpAny_pure (wpAny_pure ⟨_, rfl, wpAny_pure h⟩))) fits)
    | exact wpAny_bind (wpAny_bind (m := Builtin.Tuple.tupleExact _) (wpAny_newObj_type (wpAny_pure (wpAny_pure ⟨_, rfl, wpAny_pure h⟩)) fits))
    | exact wpAny_bind (wpAny_bind (m := Builtin.Tuple.tupleExact _) (wpAny_newObj_type (wpAny_pure ⟨_, rfl, wpAny_pure h⟩) fits))
end
def tRevT (K : PySem.W.Frag) (te : TE) : TE := fun σ H Q => te σ H fun x H1 => ∃ a xs, x = .ref a ∧ SqT K H1 a xs ∧ ∀ p, H1 p = none → Q (.ref p) (upd H1 p (.tup xs.reverse))
section
variable {X : Cx}
theorem pe_revT {e : Expr} {te : TE} {k : Nat} {p1 p2 p3 pos : Pos} (he : PE X e te) : PE X (.Subscript e (.Slice none none (some (.UnaryOp .USub (.Constant (.int 1) k p1) p2)) p3) pos) (tRevT X.K te) := by
  refine ⟨fun pins s0 σ H Q I h => ?_⟩
  refine Subscript_ (thn (he.run pins s0 σ H _ I h) fun v s1 ⟨x, H1, I1, r1, q1⟩ => ?_)
  obtain ⟨a, xs, rfl, hx, q⟩ := q1
  cases r1
  have step : PO X (some (.UnaryOp .USub (.Constant (.int 1) k p1) p2)) (tPart (tUn (rU fun i => .int (-i)) (tC (.int 1)))) := po_some (pe_un un_neg pe_int)
  refine wpAny_Slice (thn (po_none.run pins s1 σ H1 (fun o G => o = none ∧ G = H1) I1 ⟨rfl, rfl⟩) fun vl s2 ⟨l, G2, I2, pl, el, e2⟩ => ?_)
  subst el e2
  refine thn (po_none.run pins s2 σ G2 (fun o G => o = none ∧ G = G2) I2 ⟨rfl, rfl⟩) fun vu s3 ⟨u, G3, I3, pu, eu, e3⟩ => ?_
  subst eu e3
  refine thn (step.run pins s3 σ G3 (fun o G => o = some (-1) ∧ G = G3) I3 ⟨1, rfl, -1, rfl, rfl, rfl⟩) fun vs s4 ⟨o, G4, I4, ps, eo, e4⟩ => ?_
  subst eo e4
  cases pl
  cases pu
  have I5 : Inv X pins σ G4 { s4 with heap := s4.heap.push { cls := .type "slice", data := .fields #[.none, .none, vs] } } := I4.kept (t' := s4.toks) fun b ob z => Heap.get?_push_of_some _ z
  obtain ⟨its, r, ht, hz⟩ := I5.tuple hx
  have lens := r.length
  show wpAny (model X.prog X.w) X.A (subscriptTail e (.Slice none none (some (.UnaryOp .USub (.Constant (.int 1) k p1) p2)) p3) (.ref a) (.ref s4.heap.objs.size)) (EP X pins σ Q) X.xe { s4 with heap := s4.heap.push { cls := .type "slice", data := .fields #[.none, .none, vs] } }
  refine tail_any (ops := [.ref a, .ref s4.heap.objs.size]) ht.typeIs (PyProof.Rows.slot_tuple_getitem.lookup) ?_ (by with_unfolding_all rfl)
  refine back_item ht (Heap.IsSliceOf.new _ .none .none vs) ps ?_ (by rw [List.size_toArray]; omega)
  refine ⟨.ref _, _, I5.laid (t' := s4.toks) (o := .tup xs.reverse) (fun b ob z => Heap.get?_push_of_some _ z) (Nat.le_refl _) ?_, rfl, q _ (I5.hok.fresh (Nat.le_refl _))⟩
  exact ⟨by rw [List.length_reverse]; exact hz, its.reverse, r.reverse, ⟨_, Heap.get?_push_size _ rfl, rfl, 0, rfl⟩⟩
end
end TB

set_option Elab.async false
set_option linter.all false
set_option maxRecDepth 100000
set_option maxHeartbeats 1000000
namespace TB
open PySem PySem.Spec PyProof.Rows L2

/-! ### heaps without some places -/
def hid (F : List Addr) (H : Hp) : Hp := fun b => if b ∈ F then none else H b
theorem hid_at {F : List Addr} {H : Hp} {b : Addr} (n : b ∉ F) : hid F H b = H b := if_neg n
theorem hid_sub {F : List Addr} {H : Hp} : Same (hid F H) H := fun b o e => by
  unfold hid at e
  by_cases h : b ∈ F
  · rw [if_pos h] at e
    cases e
  · rw [if_neg h] at e
    exact e
theorem hid_mono {F : List Addr} {H H' : Hp} (k : ∀ b o, b ∉ F → H b = some o → H' b = some o) : Same (hid F H) (hid F H') := fun b o e => by
  unfold hid at e
  by_cases h : b ∈ F
  · rw [if_pos h] at e
    cases e
  · rw [if_neg h] at e
    rw [hid_at h]
    exact k b o h e
theorem hid_same {F : List Addr} {H H' : Hp} (s : Same H H') : Same (hid F H) (hid F H') := hid_mono fun b o _ e => s b o e
theorem hid_but {F : List Addr} {L : Addr} {H H' : Hp} (hL : L ∈ F) (k : But L H H') : Same (hid F H) (hid F H') := hid_mono fun b o nb e => k b o (fun z => nb (z ▸ hL)) e
theorem hid_upd {F : List Addr} {H : Hp} {W : Addr} {o : HO} (h : W ∈ F) : hid F (upd H W o) = hid F H := by
  funext b
  unfold hid
  by_cases c : b ∈ F
  · rw [if_pos c, if_pos c]
  · have ne : b ≠ W := fun z => c (z ▸ h)
    rw [if_neg c, if_neg c, upd_ne ne]
/-- the places that are hidden are taken -/
def Took (F : List Addr) (H : Hp) : Prop := ∀ f ∈ F, H f ≠ none
theorem Took.out {F : List Addr} {H : Hp} {p : Addr} (t : Took F H) (n : H p = none) : p ∉ F := fun z => t p z n
theorem Took.same {F : List Addr} {H H' : Hp} (t : Took F H) (s : Same H H') : Took F H' := fun f hf z => by
  cases e : H f with
  | none => exact t f hf e
  | some o =>
    rw [s f o e] at z
    cases z
theorem Took.but {F : List Addr} {L : Addr} {H H' : Hp} {zs : List V} (t : Took F H) (k : But L H H') (e : H' L = some (.lst zs)) : Took F H' := fun f hf z => t f hf (k.free e z)

/-! ### slices, sums of tuples, all outside the hidden places -/
section
variable {K : PySem.W.Frag} {F : List Addr} {H : Hp}
theorem slH {a : Addr} {xs : List V} {lo hi : Option Int} {Q : VK} (t : Took F H) (h : SqT K (hid F H) a xs) (q : ∀ H' r, Same H H' → SqT K (hid F H') r (cutV xs lo hi) → Q (.ref r) H') : rSlA K (.ref a) lo hi H Q := by
  refine ⟨a, xs, rfl, Same.tup hid_sub h, fun hw => q H a (Same.refl H) ?_, fun _ p np => q _ p (same_upd np) (.inl (.inl ?_))⟩
  · unfold cutV
    rw [hw.1, hw.2, List.drop_zero, Nat.sub_zero, List.take_length]
    exact h
  · rw [hid_at (t.out np)]
    exact upd_same
theorem catH {a b : Addr} {xs ys : List V} {Q : VK} (t : Took F H) (ha : SqT K (hid F H) a xs) (hb : SqT K (hid F H) b ys) (hl : xs.length + ys.length ≤ sizeLine) (q : ∀ H' r, Same H H' → SqT K (hid F H') r (xs ++ ys) → Q (.ref r) H') : rCatA K (.ref a) (.ref b) H Q := by
  refine ⟨a, b, xs, ys, rfl, rfl, Same.tup hid_sub ha, Same.tup hid_sub hb, hl, fun e => q H b (Same.refl H) ?_, fun _ e => q H a (Same.refl H) ?_, fun _ _ p np => q _ p (same_upd np) (.inl (.inl ?_))⟩
  · rw [e, List.nil_append]
    exact hb
  · rw [e, List.append_nil]
    exact ha
  · rw [hid_at (t.out np)]
    exact upd_same
theorem newT {p : Addr} {xs : List V} (t : Took F H) (n : H p = none) : SqT K (hid F (upd H p (.tup xs))) p xs := .inl (.inl (by
  rw [hid_at (t.out n)]
  exact upd_same))
theorem newL {p : Addr} {xs : List V} (t : Took F H) (n : H p = none) : SqL K (hid F (upd H p (.lst xs))) p xs := .inl (.inl (by
  rw [hid_at (t.out n)]
  exact upd_same))
end
/-! ### the data of slices -/
def cutD (ds : List PyData) (lo hi : Option Int) : List PyData := (ds.drop (HT.sIx ds.length 0 lo)).take (HT.sIx ds.length ds.length hi - HT.sIx ds.length 0 lo)
theorem cutD_mem {ds : List PyData} {lo hi : Option Int} {d : PyData} (h : d ∈ cutD ds lo hi) : d ∈ ds := List.mem_of_mem_drop (List.mem_of_mem_take h)
theorem cutD_len (ds : List PyData) (lo hi : Option Int) : (cutD ds lo hi).length ≤ ds.length := by
  unfold cutD
  rw [List.length_take, List.length_drop]
  omega
theorem DpAll.drop {K : PySem.W.Frag} {H : Hp} : ∀ {vs : List V} {ds : List PyData} (i : Nat), DpAll K H vs ds → DpAll K H (vs.drop i) (ds.drop i)
  | _, _, 0, h => h
  | _, _, _ + 1, .nil => .nil
  | _, _, i + 1, .cons _ t => DpAll.drop i t
theorem DpAll.take {K : PySem.W.Frag} {H : Hp} : ∀ {vs : List V} {ds : List PyData} (i : Nat), DpAll K H vs ds → DpAll K H (vs.take i) (ds.take i)
  | _, _, 0, _ => by
    rw [List.take_zero, List.take_zero]
    exact .nil
  | _, _, _ + 1, .nil => .nil
  | _, _, i + 1, .cons a t => .cons a (DpAll.take i t)
theorem DpAll.cut {K : PySem.W.Frag} {H : Hp} {vs : List V} {ds : List PyData} {lo hi : Option Int} (h : DpAll K H vs ds) : DpAll K H (cutV vs lo hi) (cutD ds lo hi) := by
  unfold cutV cutD
  rw [DpAll.len h]
  exact DpAll.take _ (DpAll.drop _ h)
theorem DpAll.app {K : PySem.W.Frag} {H : Hp} : ∀ {vs ws : List V} {ds es : List PyData}, DpAll K H vs ds → DpAll K H ws es → DpAll K H (vs ++ ws) (ds ++ es)
  | _, _, _, _, .nil, h => h
  | _, _, _, _, .cons a t, h => .cons a (DpAll.app t h)
theorem DpAll.rev {K : PySem.W.Frag} {H : Hp} : ∀ {vs : List V} {ds : List PyData}, DpAll K H vs ds → DpAll K H vs.reverse ds.reverse
  | _, _, .nil => .nil
  | _, _, .cons a t => by
    rw [List.reverse_cons, List.reverse_cons]
    exact DpAll.snoc a (DpAll.rev t)
/-- one of a list's things, by a place that was drawn -/
theorem pickD {K : PySem.W.Frag} {H : Hp} {us : List V} {ds : List PyData} {v : Int} (h : DpAll K H us ds) (h0 : 0 ≤ v) (h1 : v < us.length) : ∃ x d, atI us v = some x ∧ Dp K H x d ∧ d ∈ ds := by
  obtain ⟨j, rfl⟩ : ∃ j : Nat, v = (j : Int) := ⟨v.toNat, (Int.toNat_of_nonneg h0).symm⟩
  have hj : j < us.length := by omega
  obtain ⟨d, e, dx⟩ := DpAll.get h (List.getElem?_eq_getElem hj)
  exact ⟨us[j], d, atI_nat (List.getElem?_eq_getElem hj), dx, List.mem_of_getElem? e⟩
/-! ### things of this depth and width -/
def atom : PyData → Prop
  | .none => True
  | .bool _ => True
  | .int _ => True
  | .str z => PyData.strOk z = true
  | _ => False
def Gd (n : Nat) : Nat → PyData → Prop
  | 0, d => atom d
  | k + 1, d => atom d ∨ ∃ ds, (d = .tuple ds ∨ d = .list ds) ∧ ds.length ≤ n ∧ ∀ e ∈ ds, Gd n k e
theorem Gd.atom {n k : Nat} {d : PyData} (h : atom d) : Gd n k d := by
  cases k with
  | zero => exact h
  | succ k => exact .inl h
theorem Gd.mono {n m : Nat} (hn : n ≤ m) : ∀ {k l : Nat} {d : PyData}, k ≤ l → Gd n k d → Gd m l d
  | 0, _, _, _, h => Gd.atom h
  | k + 1, 0, _, h, _ => by omega
  | k + 1, l + 1, _, hk, .inl h => .inl h
  | k + 1, l + 1, _, hk, .inr ⟨ds, e, hl, h⟩ => .inr ⟨ds, e, Nat.le_trans hl hn, fun d hd => Gd.mono hn (Nat.le_of_succ_le_succ hk) (h d hd)⟩
theorem Gd.tup {n k : Nat} {ds : List PyData} (hl : ds.length ≤ n) (h : ∀ e ∈ ds, Gd n k e) : Gd n (k + 1) (.tuple ds) := .inr ⟨ds, .inl rfl, hl, h⟩
theorem Gd.lst {n k : Nat} {ds : List PyData} (hl : ds.length ≤ n) (h : ∀ e ∈ ds, Gd n k e) : Gd n (k + 1) (.list ds) := .inr ⟨ds, .inr rfl, hl, h⟩
theorem Gd.tup_inv {n k : Nat} {ds : List PyData} (h : Gd n k (.tuple ds)) : ∃ l, k = l + 1 ∧ ds.length ≤ n ∧ ∀ e ∈ ds, Gd n l e := by
  cases k with
  | zero => exact absurd h id
  | succ k =>
    rcases h with h | ⟨es, e | e, hl, h⟩
    · exact absurd h id
    · cases e
      exact ⟨k, rfl, hl, h⟩
    · cases e
theorem Gd.lays {n : Nat} : ∀ {k : Nat} {d : PyData}, Gd n k d → PyData.canLay0 d = true ∧ PyData.depth d ≤ k
  | k, d, h => by
    have at_ : ∀ {d : PyData}, TB.atom d → PyData.canLay0 d = true ∧ PyData.depth d = 0 := by
      intro d h
      cases d with
      | none => exact ⟨rfl, rfl⟩
      | bool b => exact ⟨rfl, rfl⟩
      | int i => exact ⟨rfl, rfl⟩
      | str z => exact ⟨h, rfl⟩
      | list ds => exact absurd h id
      | tuple ds => exact absurd h id
      | dict ds => exact absurd h id
    cases k with
    | zero =>
      obtain ⟨a, b⟩ := at_ h
      exact ⟨a, by omega⟩
    | succ k =>
      rcases h with h | ⟨ds, e, _, h⟩
      · obtain ⟨a, b⟩ := at_ h
        exact ⟨a, by omega⟩
      · have all : ∀ es : List PyData, (∀ e ∈ es, Gd n k e) → PyData.canLayAll0 es = true ∧ PyData.depthAll es ≤ k := by
          intro es
          induction es with
          | nil => exact fun _ => ⟨rfl, Nat.zero_le _⟩
          | cons e es ih =>
            intro he
            obtain ⟨a, b⟩ := ih fun x hx => he x (List.mem_cons_of_mem _ hx)
            obtain ⟨c, d⟩ := Gd.lays (he e List.mem_cons_self)
            refine ⟨by simp only [PyData.canLayAll0, a, c, Bool.and_self], ?_⟩
            simp only [PyData.depthAll]
            omega
        obtain ⟨a, b⟩ := all ds h
        rcases e with rfl | rfl
        · exact ⟨by simp only [PyData.canLay0, a], by simp only [PyData.depth]; omega⟩
        · exact ⟨by simp only [PyData.canLay0, a], by simp only [PyData.depth]; omega⟩
theorem Gd.shaped {n k : Nat} {d : PyData} (h : Gd n k d) (hk : k ≤ 60) : SeqAt.shaped d = true := by
  obtain ⟨a, b⟩ := h.lays
  unfold SeqAt.shaped
  rw [a, decide_eq_true (by omega)]
  rfl
theorem eqv_void : ∀ ds : List PyData, PyData.eqv (.tuple ds) (.tuple []) = decide (ds = [])
  | [] => by simp [PyData.eqv, PyData.eqvAll]
  | d :: ds => by simp [PyData.eqv, PyData.eqvAll]
/-! ### a statement, and what is known behind it -/
def tCut (t : TS) : TS := fun D σ H => ∃ R : L2.St → Hp → Prop, t { D with nx := R } σ H ∧ ∀ σ' H', R σ' H' → D.nx σ' H'
theorem ps_cut {X : Cx} {st : Stmt} {t : TS} (h : PS X st t) : PS X st (tCut t) := by
  refine ⟨fun pins s0 σ H D I hw => ?_⟩
  obtain ⟨R, a, b⟩ := hw
  refine thn (h.run pins s0 σ H _ I a) fun fl s1 z => ?_
  cases fl with
  | next =>
    obtain ⟨σ', H', I2, z⟩ := z
    exact ⟨σ', H', I2, b _ _ z⟩
  | brk => exact z
  | cont => exact z
  | ret v => exact z
end TB

set_option Elab.async false
set_option linter.all false
set_option maxRecDepth 100000
/-! The value layer: expressions. -/
namespace VL
open PySem PySem.Spec PyProof.Rows L2 TB

@[simp] def vVar (i : Nat) (env : En) (st : AS) : Out D := match env[i]? with
  | some (some d) => .ok d st
  | _ => .bad
@[simp] def vC (d : D) (_ : En) (st : AS) : Out D := .ok d st
@[simp] def v1 {α : Type} (g : D → AS → Out α) (fa : En → AS → Out D) (env : En) (st : AS) : Out α := (fa env st).bind g
@[simp] def v2 {α : Type} (g : D → D → AS → Out α) (fa fb : En → AS → Out D) (env : En) (st : AS) : Out α := (fa env st).bind fun a st => (fb env st).bind fun b st => g a b st
@[simp] def vNil (_ : En) (st : AS) : Out (List D) := .ok [] st
@[simp] def vCons (fa : En → AS → Out D) (fr : En → AS → Out (List D)) (env : En) (st : AS) : Out (List D) := (fa env st).bind fun a st => (fr env st).bind fun r st => .ok (a :: r) st
@[simp] def vA {α : Type} (g : List D → AS → Out α) (fa : En → AS → Out (List D)) (env : En) (st : AS) : Out α := (fa env st).bind g

section
variable {X : Cx} {E : XK}
/-- another wish about what is raised, where nothing is -/
theorem ve_var (i : Nat) {x : Str} {pos : Pos} (hN : X.N[i]? = some x := by rfl) (hv : Vis X.env.scope x := by first | exact Or.inl rfl | exact Or.inr (Or.inl rfl) | exact Or.inr (Or.inr rfl)) (hd : (x == ("__debug__" : Str)) = false := by decide)
    (hcd : (x == ("__classdict__" : Str)) = false := by decide) : VE X E (.Name x pos) (vVar i) := by
  refine weakE (pe_var hN hv hd hcd) fun σ H Q ⟨β, env, st, he, hs, h⟩ => ?_
  unfold vVar at h
  split at h
  · rename_i d e
    obtain ⟨u, h1, h2⟩ := he.get i d e
    exact ⟨u, h1, h β H u (Ext.refl _ _) hs h2⟩
  · exact h.elim
theorem ve_c {e : Expr} {v : V} {d : D} (h : PE X e (tC v)) (r : ∀ H β, Rep X.K H β d v) : VE X E e (vC d) :=
  weakE h fun σ H Q ⟨β, env, st, he, hs, h⟩ => h β H v (Ext.refl _ _) hs (r H β)
theorem ve_int {i j pos} : VE X E (.Constant (.int i) j pos) (vC (.int i)) := ve_c pe_int fun _ _ => .int i
theorem ve_bl {b j pos} : VE X E (.Constant (.bool b) j pos) (vC (.bl b)) := ve_c pe_bl fun _ _ => .bl b
theorem ve_non {j pos} : VE X E (.Constant .none j pos) (vC .non) := ve_c pe_non fun _ _ => .non
theorem ve_str {x j pos} : VE X E (.Constant (.str x) j pos) (vC (.str x)) := ve_c pe_str fun _ _ => .str x
/-- a constant of the module -/
theorem ve_glob {x : Str} {v : V} {u : Value} {d : D} {pos : Pos} (hg : Gl X x) (hm : X.mg x = some u) (r : RelV v u) (q : ∀ H β, Rep X.K H β d v) (hd : (x == ("__debug__" : Str)) = false := by decide) : VE X E (.Name x pos) (vC d) :=
  ve_c (pe_glob hg hm r hd) q

theorem va_nil : VA X E [] vNil := weakA pa_nil fun σ H Q ⟨β, env, st, he, hs, h⟩ => h β H [] (Ext.refl _ _) hs .nil
theorem va_cons {e : Expr} {es : List Expr} {fa : En → AS → Out D} {fr : En → AS → Out (List D)} (ha : VE X E e fa) (hr : VA X E es fr) (hs : starEach (e :: es) X.env = (false, eval e X.env) :: starEach es X.env := by rfl) : VA X E (e :: es) (vCons fa fr) := by
  refine weakA (pa_cons ha hr hs) fun σ H Q ⟨β, env, st, he, hs, h⟩ => ?_
  refine tG_bind he hs h fun a st1 β1 H1 u x1 s1 e1 r1 h1 => ?_
  refine tG_bind e1 s1 h1 fun as st2 β2 H2 us x2 s2 e2 r2 h2 => ?_
  exact h2 β2 H2 _ (Ext.refl _ _) s2 (.cons (r1.ext x2) r2)

/-! rules by values -/
def Ok1 (K : PySem.W.Frag) (mg : MG) (E : XK) (r : V → Hp → VK → Prop) (g : D → AS → Out D) : Prop :=
  ∀ β H st x u Q, Sim K mg β st H → Rep K H β x u → Post K mg (rD K) E β H Q (g x st) → r u H Q
def Ok2 (K : PySem.W.Frag) (mg : MG) (E : XK) (r : R2) (g : D → D → AS → Out D) : Prop :=
  ∀ β H st x y u v Q, Sim K mg β st H → Rep K H β x u → Rep K H β y v → Post K mg (rD K) E β H Q (g x y st) → r u v H Q
def OkA (K : PySem.W.Frag) (mg : MG) (E : XK) (r : List V → Hp → VK → Prop) (g : List D → AS → Out D) : Prop :=
  ∀ β H st xs us Q, Sim K mg β st H → Reps K H β xs us → Post K mg (rD K) E β H Q (g xs st) → r us H Q
variable {a b : Expr} {fa fb : En → AS → Out D} {pos : Pos}
theorem use2 {r : R2} {g : D → D → AS → Out D} (hg : Ok2 X.K X.mgw E r g) {σ : L2.St} {H : Hp} {Q : VK} (h : tV X.K X.mgw E (v2 g fa fb) σ H Q) : tOp r (tV X.K X.mgw E fa) (tV X.K X.mgw E fb) σ H Q := by
  obtain ⟨β, env, st, he, hs, h⟩ := h
  refine tG_bind he hs h fun x st1 β1 H1 u x1 s1 e1 r1 h1 => ?_
  refine tG_bind e1 s1 h1 fun y st2 β2 H2 v x2 s2 e2 r2 h2 => ?_
  exact hg β2 H2 st2 x y u v Q s2 (r1.ext x2) r2 h2
theorem ve_op {op : Operator} {r : R2} {g : D → D → AS → Out D} (ho : OpR X (binaryOp op) r) (hg : Ok2 X.K X.mgw E r g) (ha : VE X E a fa) (hb : VE X E b fb) : VE X E (.BinOp a op b pos) (v2 g fa fb) :=
  weakE (pe_op ho ha hb) fun _ _ _ h => use2 hg h
theorem ve_cmp {op : CmpOp} {r : R2} {g : D → D → AS → Out D} (ho : OpR X (compareOp op) r) (hg : Ok2 X.K X.mgw E r g) (ha : VE X E a fa) (hb : VE X E b fb) (hm : behindInMarks op b = false) : VE X E (.Compare a [op] [b] pos) (v2 g fa fb) :=
  weakE (pe_cmpR ho ha hb hm) fun _ _ _ h => use2 hg h
theorem ve_ix {r : R2} {g : D → D → AS → Out D} (hr : IxR X r) (hg : Ok2 X.K X.mgw E r g) (ha : VE X E a fa) (hb : VE X E b fb) (hs : PlainIx b) : VE X E (.Subscript a b pos) (v2 g fa fb) :=
  weakE (pe_ix hr ha hb hs) fun _ _ _ h => use2 hg h
theorem ve_un {op : UnaryOp} {r : V → Hp → VK → Prop} {g : D → AS → Out D} (ho : UnR X (unaryOp op) r) (hg : Ok1 X.K X.mgw E r g) (ha : VE X E a fa) : VE X E (.UnaryOp op a pos) (v1 g fa) := by
  refine weakE (pe_un ho ha) fun σ H Q ⟨β, env, st, he, hs, h⟩ => ?_
  refine tG_bind he hs h fun x st1 β1 H1 u x1 s1 e1 r1 h1 => ?_
  exact hg β1 H1 st1 x u Q s1 r1 h1

/-! tests -/
@[simp] def asB (d : D) (st : AS) : Out Bool := match d with
  | .bl b => .ok b st
  | _ => .bad
@[simp] def vB (fa : En → AS → Out D) : En → AS → Out Bool := v1 asB fa
theorem postB {K : PySem.W.Frag} {mg : MG} {β : Bt} {H : Hp} {Q : Bool → Hp → Prop} {d : D} {u : V} {st : AS} (s : Sim K mg β st H) (r : Rep K H β d u)
    (h : Post K mg rB E β H Q (asB d st)) : ∃ k, u = .bl k ∧ Q k H := by
  cases r with
  | bl b => exact ⟨b, rfl, h β H b (Ext.refl _ _) s rfl⟩
  | _ => exact h.elim
theorem useB {σ : L2.St} {H : Hp} {Q : Bool → Hp → Prop} (h : tVT X.K X.mgw E (vB fa) σ H Q) : tB (tV X.K X.mgw E fa) σ H Q := by
  obtain ⟨β, env, st, he, hs, h⟩ := h
  exact tG_bind he hs h fun x st1 β1 H1 u x1 s1 e1 r1 h1 => postB s1 r1 h1
theorem vt_cmp {op : CmpOp} {r : R2} {g : D → D → AS → Out D} (ho : OpR X (compareOp op) r) (hg : Ok2 X.K X.mgw E r g) (ha : VE X E a fa) (hb : VE X E b fb) (hm : behindInMarks op b = false) : VT X E (.Compare a [op] [b] pos) (vB (v2 g fa fb)) := by
  refine weakT (pt_cmpR ho ha hb hm) fun σ H Q h => ?_
  obtain ⟨β, env, st, he, hs, h⟩ := h
  have h' : tV X.K X.mgw E (v2 g fa fb) σ H fun x H' => ∃ k, x = .bl k ∧ Q k H' := tG_bind he hs h fun x st1 β1 H1 u x1 s1 e1 r1 h1 => postB s1 r1 h1
  exact use2 hg h'
/-- an expression as a test, by its truth -/
@[simp] def listOf (st : AS) : D → Option (List D)
  | .lst ds => some ds
  | .fzl ds => some ds
  | .ref i => match st[i]? with
    | some (.lst ds) => some ds
    | _ => none
  | _ => none
@[simp] def truD (d : D) (st : AS) : Out Bool := match d with
  | .non => .ok false st
  | .bl b => .ok b st
  | .int i => .ok (i != 0) st
  | .str x => if x.length ≤ sizeLine then .ok ((x.length : Int) != 0) st else .bad
  | .tup ds => .ok (!ds.isEmpty) st
  | .ctp ds => .ok (!ds.isEmpty) st
  | .lst ds => .ok (!ds.isEmpty) st
  | .fzl ds => .ok (!ds.isEmpty) st
  | .ref i => match st[i]? with
    | some (.lst ds) => .ok (!ds.isEmpty) st
    | some (.dct kvs) => .ok (!kvs.isEmpty) st
    | some (.lck kvs) => .bad
    | _ => .bad
  | .cv _ => .bad
end
section
variable {K : PySem.W.Frag} {mg : MG} {E : XK} {β : Bt} {H : Hp} {st : AS}
theorem SqL.fz {a : Addr} {us : List V} (h : (β.out a ∧ Rd H a (.lst us)) ∨ WrL K a us) : SqL K H a us := h.imp (·.2) id
/-- a list to be read -/
theorem Sim.lists (S : Sim K mg β st H) {d : D} {u : V} {ds : List D} (r : Rep K H β d u) (h : listOf st d = some ds) : ∃ a us, u = .ref a ∧ SqL K H a us ∧ Reps K H β ds us := by
  cases r with
  | lst n e q =>
    cases h
    exact ⟨_, _, rfl, .inl (.inl e), q⟩
  | fzl e q =>
    cases h
    exact ⟨_, _, rfl, SqL.fz e, q⟩
  | ref e =>
    rename_i i a
    unfold listOf at h
    dsimp only at h
    split at h
    · rename_i ds' e2
      cases h
      obtain ⟨us, e3, q⟩ := S.cell i a _ e e2
      exact ⟨a, us, rfl, .inl (.inl e3), q⟩
    · cases h
  | _ => cases h
theorem Reps.isEmpty {ds : List D} {us : List V} (r : Reps K H β ds us) : us.isEmpty = ds.isEmpty := by
  cases r <;> rfl
theorem truD_ok (S : Sim K mg β st H) {d : D} {u : V} {Q : Bool → Hp → Prop} (r : Rep K H β d u) (h : Post K mg rB E β H Q (truD d st)) : ∃ k, TruV K u H k ∧ Q k H := by
  have go : ∀ k, truD d st = .ok k st → Q k H := fun k e => by
    rw [e] at h
    exact h β H k (Ext.refl _ _) S rfl
  cases r with
  | non => exact ⟨false, rfl, go _ rfl⟩
  | bl b => exact ⟨b, rfl, go _ rfl⟩
  | int i => exact ⟨_, rfl, go _ rfl⟩
  | str x =>
    by_cases hl : x.length ≤ sizeLine
    · exact ⟨_, ⟨hl, rfl⟩, go _ (if_pos hl)⟩
    · rw [show truD (.str x) st = .bad from if_neg hl] at h
      exact h.elim
  | tup n e q => exact ⟨_, .inr (.inl ⟨_, .inl (.inl e), by rw [q.isEmpty]⟩), go _ rfl⟩
  | ctp e q => exact ⟨_, .inr (.inl ⟨_, e.sq, by rw [q.isEmpty]⟩), go _ rfl⟩
  | lst n e q => exact ⟨_, .inl ⟨_, .inl (.inl e), by rw [q.isEmpty]⟩, go _ rfl⟩
  | fzl e q => exact ⟨_, .inl ⟨_, SqL.fz e, by rw [q.isEmpty]⟩, go _ rfl⟩
  | cv v => exact h.elim
  | ref e =>
    rename_i i a
    cases q : st[i]? with
    | none =>
      simp only [truD, q] at h
      exact h.elim
    | some c =>
      cases c with
      | lst ds =>
        obtain ⟨us, e3, r3⟩ := S.cell i a _ e q
        exact ⟨_, .inl ⟨_, .inl (.inl e3), by rw [r3.isEmpty]⟩, go _ (by simp only [truD, q])⟩
      | dct kvs =>
        obtain ⟨us, e3, r3⟩ := S.cell i a _ e q
        refine ⟨!us.isEmpty, ?_, go _ ?_⟩
        · exact .inr (.inr ⟨us, e3, rfl⟩)
        · simp only [truD, q]
          have : us.isEmpty = kvs.isEmpty := by
            have h1 := congrArg List.length r3.1
            simp only [List.length_map] at h1
            cases us <;> cases kvs <;> simp_all
          rw [this]
      | dtt kvs =>
        simp only [truD, q] at h
        exact h.elim
      | dtf kvs =>
        simp only [truD, q] at h
        exact h.elim
      | lck kvs =>
        simp only [truD, q] at h
        exact h.elim
      | obj c fs =>
        simp only [truD, q] at h
        exact h.elim
end
end VL

set_option Elab.async false
set_option linter.all false
set_option maxRecDepth 100000
set_option maxHeartbeats 1000000
namespace TB
open PySem PySem.Spec PyProof.Rows L2

/-! ### enumerate(t), t a tuple -/
abbrev eT1 (h : Heap) (a : Addr) : Heap := h.push { cls := .type "tuple_iterator", data := .fields #[.ref a, .int 0 0] }
abbrev eT2 (h : Heap) (a : Addr) : Heap := (eT1 h a).push { cls := .type "enumerate", data := .fields #[.none, .bool false, .ref h.objs.size, rawInt 0, .none, .none] }
theorem enT_new (a : Addr) (xs : Array Value) (n : Nat) (dct : Option Addr) (sl : Array (Option Value)) :
    Meets (Builtin.«enumerate.__new__» ⟨[.type "enumerate", .ref a], []⟩) (fun _ R s => s.heap.get? a = some { cls := .type "tuple", dict := dct, data := .seq xs n, slots := sl } ∧ R (.ok (.ret (.ref (eT1 s.heap a).objs.size))) { s with heap := eT2 s.heap a }) :=
  .of_wp fun prog w A R st h => by
    obtain ⟨hp, g, d, tk, os⟩ := st
    obtain ⟨ha, h⟩ := h
    have sub := sub_enumerate
    have iA : Heap.IsTuple (Shared.heap ⟨hp, g, d, tk, os⟩) a xs := ⟨_, ha, rfl, n, rfl⟩
    wp_walk using AutoSeq1.wpAny_loadPart' ha
    refine wpAny_stack_any fun st => wpAny_pure ?_
    split
    · rename_i c _ _ _ _ _
      cases (c == Value.type "enumerate")
      · wp_walk using AutoSeq1.wpAny_loadPart' ha, wpAny_pyIter_tuple iA
        exact ⟨_, rfl, h⟩
      · wp_walk using AutoSeq1.wpAny_loadPart' ha, wpAny_pyIter_tuple iA
        exact ⟨_, rfl, h⟩
    · wp_walk using AutoSeq1.wpAny_loadPart' ha, wpAny_pyIter_tuple iA
      exact ⟨_, rfl, h⟩
section
variable {prog : Program} {w : World} {A : Around} {E : Value → Shared → Prop} {s : Shared}
theorem call_enT {a : Addr} {xs : Array Value} {Q : Value → Shared → Prop} (ha : s.heap.IsTuple a xs)
    (h : ∀ (n : Nat) (g : Heap), n = s.heap.objs.size → IsEnum g (n + 1) n 0 .none → g.IsTupleIter n a 0 → (∀ c o, s.heap.get? c = some o → g.get? c = some o) → Q (.ref (n + 1)) { s with heap := g }) :
    wpAny (model prog w) A (call (.type "enumerate") [.ref a]) Q E s := by
  obtain ⟨⟨c, dct, dt, sl⟩, ho, hc, n, hd⟩ := ha
  obtain rfl : c = .type "tuple" := hc
  obtain rfl : dt = .seq xs n := hd
  refine callType_new F.called_enumerate (by decide) (F.typeCall_enumerate_1 _) (F.newCall_enumerate_1 _) (fun ob => F.args_object_init_2 ob _) F.entry_enumerate_new (enT_new a xs n dct sl) ⟨ho, ?_⟩
  have e1 : (eT1 s.heap a).objs.size = s.heap.objs.size + 1 := Heap.size_push ..
  have g2 : (eT2 s.heap a).get? (eT1 s.heap a).objs.size = some _ := Heap.get?_push_size _ rfl
  have g1 : (eT2 s.heap a).get? s.heap.objs.size = some _ := Heap.get?_push_of_some _ (Heap.get?_push_size _ rfl)
  show _ ∧ _
  rw [e1] at g2
  rw [e1]
  exact ⟨⟨_, g2, rfl⟩, h _ _ rfl g2 ⟨_, g1, rfl, rfl⟩ fun c o z => Heap.get?_push_of_some _ (Heap.get?_push_of_some _ z)⟩
end
/-- a turn over it: a new pair of the place and the thing there -/
def ItET (K : PySem.W.Frag) (a : Addr) : It :=
  ⟨fun i H => ∃ (xs : List V) (x : V), SqT K H a xs ∧ xs[i]? = some x, fun i H v H' => ∃ T x, v = .ref T ∧ H T = none ∧ H' = upd H T (.tup [.int (i : Nat), x]) ∧ ∀ xs, SqT K H a xs → xs[i]? = some x, fun i H => ∃ xs : List V, SqT K H a xs ∧ xs.length ≤ i⟩
theorem turn_ET {P : Program} {w : World} {K : PySem.W.Frag} {elts : List Expr} {kk : Nat} {tpos : Pos} {a e it : Addr} (nei : e ≠ it) (na : a ≠ it) (nae : a ≠ e) :
    Turn P w K (.Tuple elts kk tpos) (ItET K a) [e, it] e (fun i h => (∃ old, IsEnum h e it ((i : Nat) : Int) old) ∧ h.IsTupleIter it a i) where
  mem := by simp
  obj := fun i h st b hb => by
    obtain ⟨⟨old, he⟩, ⟨o, ho, hc, hd⟩⟩ := st
    have two : b = e ∨ b = it := by simpa using hb
    rcases two with rfl | rfl
    · exact ⟨_, he, fun v q => nomatch q⟩
    · exact ⟨o, ho, fun v q => by rw [hd] at q; cases q⟩
  keep := fun i h h' st k => by
    obtain ⟨⟨old, he⟩, hi⟩ := st
    exact ⟨⟨old, k _ (by simp) _ he⟩, hi.at fun o q => k _ (by simp) o q⟩
  item := by
    intro X eP eW eK hc i pins s σ H E I hf st hg
    subst eP eW eK
    obtain ⟨⟨old, he⟩, hit⟩ := st
    obtain ⟨xs, x, hq, hx⟩ := hg
    obtain ⟨its, rv, p, hz⟩ := I.tuple hq
    obtain ⟨u, hu, ru⟩ := rv.get hx
    have el : e < s.heap.objs.size := Heap.lt_size he
    have il : it < s.heap.objs.size := by obtain ⟨_, q, _⟩ := hit; exact Heap.lt_size q
    have ilt : i < its.toArray.size := by
      rw [List.size_toArray]
      exact (List.getElem?_eq_some_iff.mp hu).1
    have D := Draws.tuple (prog := X.prog) (w := X.w) (A := X.A.in1) (I.ok.hd hc) it a na its.toArray
    refine wpAny_pyNext_enum_itemD D he ⟨hit, p⟩ ilt nei (by simp; exact ⟨nei, nae.symm⟩) fun y g tk hP ho st2 hT hsz hk => ?_
    have yu : y = u := by
      have z : some y = some u := by
        rw [← hu, ← hP]
        simp
      exact Option.some.inj z
    subst yu
    refine ⟨_, rfl, wpAny_letOwnedTupleGo_enum (s := { s with heap := g, toks := tk + 1 }) ho fun g2 he2 sb => ?_⟩
    have hT2 : g2.get? s.heap.objs.size = some { cls := .type "tuple", data := .seq #[.int i tk, y] } := (sb.2 _ (Nat.ne_of_gt el)).trans hT
    have new : ObjOk X.prog X.w (upd H s.heap.objs.size (.tup [.int (i : Nat), x])) g2 s.heap.objs.size (.tup [.int (i : Nat), x]) := ⟨by show 2 ≤ sizeLine; decide, [.int i tk, y], .cons ⟨_, rfl⟩ (.cons ru .nil), ⟨_, hT2, rfl, _, rfl⟩⟩
    have I1 : Inv X pins σ (upd H s.heap.objs.size (.tup [.int (i : Nat), x])) { s with heap := g2, toks := tk + 1 } := by
      refine I.turnedNew (ch := [e, it]) (fun b ob hb q => ?_) hf (Nat.le_refl _) new
      have n2 : b ≠ e ∧ b ≠ it := by simpa using hb
      exact (sb.2 b n2.1).trans (hk b ob n2.1 n2.2 q)
    refine ⟨.ref s.heap.objs.size, _, I1, rfl, ⟨_, x, rfl, I.hok.fresh (Nat.le_refl _), rfl, fun l hl => by rw [I.tuple_inj hl hq]; exact hx⟩, ⟨⟨y, ?_⟩, st2.1.at fun o q => (sb.2 it (Ne.symm nei)).trans q⟩, fun b hb => ?_⟩
    · have i1 : ((i + 1 : Nat) : Int) = (i : Int) + 1 := by omega
      rw [i1]
      exact he2
    · have two : b = e ∨ b = it := by simpa using hb
      have lt : b < s.heap.objs.size := by
        rcases two with rfl | rfl
        · exact el
        · exact il
      rw [upd_ne (Nat.ne_of_lt lt)]
      exact (hf b hb).1
  done := by
    intro X eP eW eK hc i pins s σ H E I hf st hg
    subst eP eW eK
    obtain ⟨⟨old, he⟩, hit⟩ := st
    obtain ⟨xs, hq, hx⟩ := hg
    obtain ⟨its, rv, p, hz⟩ := I.tuple hq
    have hl := rv.length
    obtain ⟨f0, f1, f2, f3, f4, f5⟩ := hf it (by simp)
    have hT : s.TypeIs (.ref e) "enumerate" := ⟨_, he, rfl⟩
    unfold pyNext
    refine wpAny_bind (wpAny_attempt (wpAny_callSpecial?_slot (name := Str.ofString "__next__") hT F.slot_enumerate_next (wpAny_call_entry F.slot_enumerate_next hT F.entry_enumerate_next ?_ (F.args_enumerate_next_1 _))))
    show wpAny _ _ (field (.ref e) 2 >>= _) _ _ _
    refine wpAny_bind (wpAny_field he rfl (x := .ref it) rfl ?_)
    refine wpAny_bind (wpAny_nextOf_tuple_end (A := X.A.in1) (I.ok.hd hc) hit p (by simp; omega) fun g ex eb hx' => ?_)
    obtain ⟨o, ho, hce⟩ := hx'
    refine wpAny_bind (wpAny_isInstance (T := "StopIteration") (b := true) ⟨o, ho, hce⟩ isSubtype_stop ?_)
    exact wpAny_pure ⟨rfl, I.turned (t' := s.toks) (fun b o hb q => eb b o hb q) f0 f1 f3 f4 f5⟩
  self := fun A i s Q E st h => by
    obtain ⟨⟨_, he⟩, _⟩ := st
    exact wpAny_pyIter_enum he h
def iET (K : PySem.W.Frag) (ta : TA) : TI := fun σ H R => ta σ H fun vs H1 => ∃ a xs, vs = [.ref a] ∧ SqT K H1 a xs ∧ R (ItET K a) H1
theorem pi_enumT {X : Cx} {e : Expr} {ta : TA} {p pos tpos : Pos} {elts : List Expr} {kk : Nat} (hg : Gl X "enumerate") (hm : X.mg "enumerate" = none) (ha : PA X [e] ta)
    (hs : starEach [e] X.env = [(false, eval e X.env)] := by rfl) : PI X (.Tuple elts kk tpos) (.Call (.Name "enumerate" p) [e] [] pos) (iET X.K ta) := by
  refine ⟨fun pins s0 σ H R I h => ?_⟩
  refine Call_ (ld_blt I hg hm boot_enumerate (PyProof.Rows.callWith_type1 (thn (ha.run pos pins s0 σ H _ I h) fun us u ⟨vs, H1, I1, r1, q1⟩ => ?_) hs rfl))
  obtain ⟨a, xs, rfl, hq, q⟩ := q1
  cases r1 with
  | cons r rr =>
    cases rr
    cases r
    obtain ⟨its, rv, p1, _⟩ := I1.tuple hq
    have la : a < u.heap.objs.size := by obtain ⟨o, ho, _⟩ := id p1; exact Heap.lt_size ho
    refine call_enT (xs := its.toArray) p1 fun n g hn he hi hk => wpAny_pyIter_enum he ?_
    have I2 : Inv X pins σ H1 { u with heap := g } := I1.kept (t' := u.toks) hk
    have fr : ∀ c, c ∈ [n + 1, n] → FpOk X pins H1 c := fun c hcm => by
      have two : c = n + 1 ∨ c = n := by simpa using hcm
      have le : u.heap.objs.size ≤ c := by rw [← hn]; omega
      exact I1.fpOk le (I1.hok.fresh le)
    exact ⟨n + 1, [n + 1, n], _, _, H1, rfl, I2, turn_ET (e := n + 1) (it := n) (Nat.succ_ne_self _) (by rw [hn]; exact Nat.ne_of_lt la) (by rw [hn]; exact Nat.ne_of_lt (Nat.lt_succ_of_lt la)), ⟨⟨.none, he⟩, hi⟩, fr, q⟩
section
variable {K : PySem.W.Frag} {a b : Addr} {xs ys : List V}
theorem walk_ET : Walk (ItET K a) xs.length (fun H => SqT K H a xs) (YPair (fun i => some (.int (i : Nat))) (fun i => xs[i]?)) := by
  refine ⟨fun i _ hi q => ⟨xs, xs[i], q, by simp [hi]⟩, fun _ q => ⟨xs, q, Nat.le_refl _⟩, fun i H x H' _ q y => ?_⟩
  obtain ⟨T, z, h1, h2, h3, h4⟩ := y
  exact ⟨T, _, z, h1, h2, h3, rfl, h4 xs q⟩
theorem walk_zT {n : Nat} (hn : n = min xs.length ys.length) : Walk (RZ.ItzT K a b) n (fun H => SqT K H a xs ∧ SqT K H b ys) (YPair (fun i => xs[i]?) (fun i => ys[i]?)) := by
  refine ⟨fun i H hi q => ?_, fun H q => ?_, fun i H x H' hi q y => ?_⟩
  · have h1 : i < xs.length := by omega
    have h2 : i < ys.length := by omega
    exact ⟨xs, ys, xs[i], ys[i], q.1, q.2, by simp [h1], by simp [h2]⟩
  · exact ⟨xs, ys, q.1, q.2, by omega⟩
  · obtain ⟨T, u, v, h1, h2, h3, h4, h5⟩ := y
    exact ⟨T, u, v, h1, h2, h3, h4 xs q.1, h5 ys q.2⟩
theorem walk_TL {n : Nat} (hn : n = min xs.length ys.length) : Walk (ItTL K a b) n (fun H => SqT K H a xs ∧ SqL K H b ys) (YPair (fun i => xs[i]?) (fun i => ys[i]?)) := by
  refine ⟨fun i H hi q => ?_, fun H q => ?_, fun i H x H' hi q y => ?_⟩
  · have h1 : i < xs.length := by omega
    have h2 : i < ys.length := by omega
    exact ⟨xs, ys, xs[i], ys[i], q.1, q.2, by simp [h1], by simp [h2]⟩
  · exact ⟨xs, ys, q.1, q.2, by omega⟩
  · obtain ⟨T, u, v, h1, h2, h3, h4, h5⟩ := y
    exact ⟨T, u, v, h1, h2, h3, h4 xs q.1, h5 ys q.2⟩
end
end TB

set_option Elab.async false
set_option linter.all false
set_option maxRecDepth 100000
set_option maxHeartbeats 1000000
namespace TB
open PySem PySem.Spec PyProof.Rows L2

/-! ### zip(t, u, v), three tuples -/
def It3 (K : PySem.W.Frag) (a b c : Addr) : It :=
  ⟨fun i H => ∃ (xs ys zs : List V) (x y z : V), (SqT K H a xs ∧ SqT K H b ys ∧ SqT K H c zs) ∧ xs[i]? = some x ∧ ys[i]? = some y ∧ zs[i]? = some z,
    fun i H v H' => ∃ T x y z, v = .ref T ∧ H T = none ∧ H' = upd H T (.tup [x, y, z]) ∧ (∀ xs, SqT K H a xs → xs[i]? = some x) ∧ (∀ ys, SqT K H b ys → ys[i]? = some y) ∧ ∀ zs, SqT K H c zs → zs[i]? = some z,
    fun i H => ∃ xs ys zs : List V, (SqT K H a xs ∧ SqT K H b ys ∧ SqT K H c zs) ∧ i = min (min xs.length ys.length) zs.length⟩
theorem turn_3 {P : Program} {w : World} {K : PySem.W.Frag} {elts : List Expr} {kk : Nat} {tpos : Pos} {a b c z TI TO i1 i2 i3 : Addr} (S : ZipSep3 z TI TO i1 i2 i3 [i1, a] [i2, b] [i3, c]) (na : a ≠ i1) (nb : b ≠ i2) (nc : c ≠ i3) :
    Turn P w K (.Tuple elts kk tpos) (It3 K a b c) [z, TI, TO, i1, i2, i3] z (fun i h => IsZip h z TI TO .none ∧ IsTupOf3 h TI (.ref i1) (.ref i2) (.ref i3) ∧ (∃ x y u, IsTupOf3 h TO x y u) ∧ h.IsTupleIter i1 a i ∧ h.IsTupleIter i2 b i ∧ h.IsTupleIter i3 c i) where
  mem := by simp
  obj := fun i h st q hq => by
    obtain ⟨isz, pI, ⟨x, y, u, pO⟩, ⟨o1, e1, _, d1⟩, ⟨o2, e2, _, d2⟩, ⟨o3, e3, _, d3⟩⟩ := st
    have six : q = z ∨ q = TI ∨ q = TO ∨ q = i1 ∨ q = i2 ∨ q = i3 := by simpa using hq
    rcases six with rfl | rfl | rfl | rfl | rfl | rfl
    · exact ⟨_, isz, fun v q => nomatch q⟩
    · exact ⟨_, pI, fun v q => nomatch q⟩
    · exact ⟨_, pO, fun v q => nomatch q⟩
    · exact ⟨o1, e1, fun v q => by rw [d1] at q; cases q⟩
    · exact ⟨o2, e2, fun v q => by rw [d2] at q; cases q⟩
    · exact ⟨o3, e3, fun v q => by rw [d3] at q; cases q⟩
  keep := fun i h h' st k => by
    obtain ⟨isz, pI, ⟨x, y, u, pO⟩, h1, h2, h3⟩ := st
    exact ⟨k _ (by simp) _ isz, k _ (by simp) _ pI, ⟨x, y, u, k _ (by simp) _ pO⟩, h1.at fun o q => k _ (by simp) o q, h2.at fun o q => k _ (by simp) o q, h3.at fun o q => k _ (by simp) o q⟩
  item := by
    intro X eP eW eK hc i pins s σ H E I hf st hg
    subst eP eW eK
    obtain ⟨isz, pI, pO, h1, h2, h3⟩ := st
    obtain ⟨xs, ys, zs, x, y, u, ⟨qx, qy, qz⟩, hx, hy, hu⟩ := hg
    obtain ⟨is1, r1, p1, _⟩ := I.tuple qx
    obtain ⟨is2, r2, p2, _⟩ := I.tuple qy
    obtain ⟨is3, r3, p3, _⟩ := I.tuple qz
    obtain ⟨v1, a1, w1⟩ := r1.get hx
    obtain ⟨v2, a2, w2⟩ := r2.get hy
    obtain ⟨v3, a3, w3⟩ := r3.get hu
    have D1 := Draws.tuple (prog := X.prog) (w := X.w) (A := X.A.in1) (I.ok.hd hc) i1 a na is1.toArray
    have D2 := Draws.tuple (prog := X.prog) (w := X.w) (A := X.A.in1) (I.ok.hd hc) i2 b nb is2.toArray
    have D3 := Draws.tuple (prog := X.prog) (w := X.w) (A := X.A.in1) (I.ok.hd hc) i3 c nc is3.toArray
    have WT := WalksT.zipD3 S D1 D2 D3
    have l1 := (List.getElem?_eq_some_iff.mp a1).1
    have l2 := (List.getElem?_eq_some_iff.mp a2).1
    have l3 := (List.getElem?_eq_some_iff.mp a3).1
    have il : i < min (min is1.toArray.size is2.toArray.size) is3.toArray.size := by
      simp only [List.size_toArray]
      omega
    have inH : ∀ q ∈ [z, TI, TO, i1, i2, i3], q < s.heap.objs.size := fun q hq => by
      have six : q = z ∨ q = TI ∨ q = TO ∨ q = i1 ∨ q = i2 ∨ q = i3 := by simpa using hq
      obtain ⟨_, _, _, pO'⟩ := pO
      obtain ⟨_, e1, _⟩ := h1
      obtain ⟨_, e2, _⟩ := h2
      obtain ⟨_, e3, _⟩ := h3
      rcases six with rfl | rfl | rfl | rfl | rfl | rfl
      · exact Heap.lt_size isz
      · exact Heap.lt_size pI
      · exact Heap.lt_size pO'
      · exact Heap.lt_size e1
      · exact Heap.lt_size e2
      · exact Heap.lt_size e3
    refine WT.item i s _ E il ⟨isz, pI, pO, ⟨h1, p1⟩, ⟨h2, p2⟩, ⟨h3, p3⟩⟩ fun T vals g tk hP le hT mid hk => ?_
    obtain ⟨x1, x2, x3, e1, e2, e3, rfl⟩ := hP
    have k1 : x1 = v1 := Option.some.inj (by rw [← a1, ← e1]; simp)
    have k2 : x2 = v2 := Option.some.inj (by rw [← a2, ← e2]; simp)
    have k3 : x3 = v3 := Option.some.inj (by rw [← a3, ← e3]; simp)
    subst k1 k2 k3
    have out := WT.apart i T g mid
    refine ⟨_, rfl, WT.go elts kk tpos i T { s with heap := g, toks := tk } _ E mid fun g2 st2 hk2 => ?_⟩
    obtain ⟨z2, I2', O2', ⟨t1, _⟩, ⟨t2, _⟩, ⟨t3, _⟩⟩ := st2
    have hT2 : g2.IsTuple T #[x1, x2, x3] := hT.at fun o q => hk2 T o out q
    have new : ObjOk X.prog X.w (upd H T (.tup [x, y, u])) g2 T (.tup [x, y, u]) := ⟨by show 3 ≤ sizeLine; decide, [x1, x2, x3], .cons w1 (.cons w2 (.cons w3 .nil)), hT2⟩
    have I1 : Inv X pins σ (upd H T (.tup [x, y, u])) { s with heap := g2, toks := tk } := by
      refine I.turnedNew (ch := [z, TI, TO, i1, i2, i3]) (fun q o hq e => ?_) hf le new
      have six : q ≠ z ∧ q ≠ TI ∧ q ≠ TO ∧ q ≠ i1 ∧ q ≠ i2 ∧ q ≠ i3 := by simpa using hq
      have five : q ∉ [z, TO, i1, i2, i3] := by simpa using ⟨six.1, six.2.2.1, six.2.2.2.1, six.2.2.2.2.1, six.2.2.2.2.2⟩
      exact hk2 q o five (hk q o five e)
    refine ⟨.ref T, _, I1, rfl, ⟨T, x, y, u, rfl, I.hok.fresh le, rfl, fun l hl => by rw [I.tuple_inj hl qx]; exact hx, fun l hl => by rw [I.tuple_inj hl qy]; exact hy, fun l hl => by rw [I.tuple_inj hl qz]; exact hu⟩, ⟨z2, I2', O2', t1, t2, t3⟩, fun q hq => ?_⟩
    have lt := inH q hq
    rw [upd_ne (Nat.ne_of_lt (Nat.lt_of_lt_of_le lt le))]
    exact (hf q hq).1
  done := by
    intro X eP eW eK hc i pins s σ H E I hf st hg
    subst eP eW eK
    obtain ⟨isz, pI, pO, h1, h2, h3⟩ := st
    obtain ⟨xs, ys, zs, ⟨qx, qy, qz⟩, hend⟩ := hg
    obtain ⟨is1, r1, p1, _⟩ := I.tuple qx
    obtain ⟨is2, r2, p2, _⟩ := I.tuple qy
    obtain ⟨is3, r3, p3, _⟩ := I.tuple qz
    have m1 := r1.length
    have m2 := r2.length
    have m3 := r3.length
    have D1 := Draws.tuple (prog := X.prog) (w := X.w) (A := X.A.in1) (I.ok.hd hc) i1 a na is1.toArray
    have D2 := Draws.tuple (prog := X.prog) (w := X.w) (A := X.A.in1) (I.ok.hd hc) i2 b nb is2.toArray
    have D3 := Draws.tuple (prog := X.prog) (w := X.w) (A := X.A.in1) (I.ok.hd hc) i3 c nc is3.toArray
    have WT := WalksT.zipD3 S D1 D2 D3
    have ei : min (min is1.toArray.size is2.toArray.size) is3.toArray.size = i := by
      simp only [List.size_toArray]
      omega
    refine WT.done s _ E (by rw [ei]; exact ⟨isz, pI, pO, ⟨h1, p1⟩, ⟨h2, p2⟩, ⟨h3, p3⟩⟩) fun g tk hk => ⟨rfl, I.turnedL (ch := [z, TI, TO, i1, i2, i3]) (fun q o hq e => ?_) hf⟩
    have six : q ≠ z ∧ q ≠ TI ∧ q ≠ TO ∧ q ≠ i1 ∧ q ≠ i2 ∧ q ≠ i3 := by simpa using hq
    exact hk q o (by simpa using ⟨six.1, six.2.2.1, six.2.2.2.1, six.2.2.2.2.1, six.2.2.2.2.2⟩) e
  self := fun _ _ _ _ _ st h => wpAny_pyIter_zip st.1 h
def i3T (K : PySem.W.Frag) (ta : TA) : TI := fun σ H R => ta σ H fun vs H1 => ∃ a b c xs ys zs, vs = [.ref a, .ref b, .ref c] ∧ (SqT K H1 a xs ∧ SqT K H1 b ys ∧ SqT K H1 c zs) ∧ R (It3 K a b c) H1
theorem pi_zip3 {X : Cx} {e e2 e3 : Expr} {ta : TA} {p pos tpos : Pos} {elts : List Expr} {kk : Nat} (hg : Gl X "zip") (hm : X.mg "zip" = none) (ha : PA X [e, e2, e3] ta)
    (hs : starEach [e, e2, e3] X.env = (false, eval e X.env) :: starEach [e2, e3] X.env := by rfl) (hpl : (backTo pos (starEach [e2, e3] X.env)).any (·.1) = false := by rfl) : PI X (.Tuple elts kk tpos) (.Call (.Name "zip" p) [e, e2, e3] [] pos) (i3T X.K ta) := by
  refine ⟨fun pins s0 σ H R I h => ?_⟩
  refine Call_ (ld_blt I hg hm PyProof.Rows.boot_zip (PyProof.Rows.callWith_type1 (thn (ha.run pos pins s0 σ H _ I h) fun us u ⟨vs, H1, I1, r1, q1⟩ => ?_) hs hpl))
  obtain ⟨a, b, c, xs, ys, zs, rfl, ⟨qx, qy, qz⟩, q⟩ := q1
  cases r1 with
  | cons ra rr =>
    cases rr with
    | cons rb rr =>
      cases rr with
      | cons rc rr =>
        cases rr
        cases ra
        cases rb
        cases rc
        obtain ⟨is1, _, p1, _⟩ := I1.tuple qx
        obtain ⟨is2, _, p2, _⟩ := I1.tuple qy
        obtain ⟨is3, _, p3, _⟩ := I1.tuple qz
        have la : a < u.heap.objs.size := by obtain ⟨o, ho, _⟩ := id p1; exact Heap.lt_size ho
        have lb : b < u.heap.objs.size := by obtain ⟨o, ho, _⟩ := id p2; exact Heap.lt_size ho
        have lc : c < u.heap.objs.size := by obtain ⟨o, ho, _⟩ := id p3; exact Heap.lt_size ho
        refine zip_begins3 (begins_tuple a is1.toArray) (begins_tuple b is2.toArray) (begins_tuple c is3.toArray) p1 p2 p3 fun g hz hTI hTO g1 g2 g3 hsz hk => wpAny_pyIter_zip hz ?_
        have I2 : Inv X pins σ H1 { u with heap := g } := I1.kept (t' := u.toks) hk
        generalize hn : u.heap.objs.size = n at *
        have fr : ∀ q, q ∈ [n + 5, n + 3, n + 4, n, n + 1, n + 2] → FpOk X pins H1 q := fun q hq => by
          have six : q = n + 5 ∨ q = n + 3 ∨ q = n + 4 ∨ q = n ∨ q = n + 1 ∨ q = n + 2 := by simpa using hq
          have le : u.heap.objs.size ≤ q := by rw [hn]; omega
          exact I1.fpOk le (I1.hok.fresh le)
        have sep := zip_sep3 (N := n) (fp1 := [a]) (fp2 := [b]) (fp3 := [c]) (fun q hq => by rw [List.mem_singleton.mp hq]; exact la) (fun q hq => by rw [List.mem_singleton.mp hq]; exact lb) (fun q hq => by rw [List.mem_singleton.mp hq]; exact lc)
        exact ⟨n + 5, [n + 5, n + 3, n + 4, n, n + 1, n + 2], _, _, H1, rfl, I2, turn_3 (z := n + 5) (TI := n + 3) (TO := n + 4) (i1 := n) (i2 := n + 1) (i3 := n + 2) sep (Nat.ne_of_lt la) (Nat.ne_of_lt (Nat.lt_succ_of_lt lb)) (Nat.ne_of_lt (Nat.lt_succ_of_lt (Nat.lt_succ_of_lt lc))),
          ⟨hz, hTI, ⟨_, _, _, hTO⟩, ⟨_, g1, rfl, rfl⟩, ⟨_, g2, rfl, rfl⟩, ⟨_, g3, rfl, rfl⟩⟩, fr, q⟩
/-- a new triple of the i-th things -/
def YTri (xs ys zs : List V) : Nat → Hp → V → Hp → Prop := fun i H v H' => ∃ T x y z, v = .ref T ∧ H T = none ∧ H' = upd H T (.tup [x, y, z]) ∧ xs[i]? = some x ∧ ys[i]? = some y ∧ zs[i]? = some z
theorem walk_3 {K : PySem.W.Frag} {a b c : Addr} {xs ys zs : List V} {n : Nat} (hn : n = min (min xs.length ys.length) zs.length) : Walk (It3 K a b c) n (fun H => SqT K H a xs ∧ SqT K H b ys ∧ SqT K H c zs) (YTri xs ys zs) := by
  refine ⟨fun i H hi q => ?_, fun H q => ⟨xs, ys, zs, q, hn⟩, fun i H x H' hi q y => ?_⟩
  · have h1 : i < xs.length := by omega
    have h2 : i < ys.length := by omega
    have h3 : i < zs.length := by omega
    exact ⟨xs, ys, zs, xs[i], ys[i], zs[i], q, by simp [h1], by simp [h2], by simp [h3]⟩
  · obtain ⟨T, u, v, r, h1, h2, h3, h4, h5, h6⟩ := y
    exact ⟨T, u, v, r, h1, h2, h3, h4 xs q.1, h5 ys q.2.1, h6 zs q.2.2⟩
end TB

set_option Elab.async false
set_option linter.all false
set_option maxRecDepth 100000
set_option maxHeartbeats 1000000
namespace TB
open PySem PySem.Spec PyProof.Rows L2

/-! ### isinstance of a caught error that has fields -/
structure IsC (K : PySem.W.Frag) (D : Addr) : Prop where
  cl : (PySem.W.clsIn K D).isSome = true
  ga : PySem.W.findIn K (.ref D) "__getattribute__" = some (some (.builtin "BaseException.__getattribute__"))
  gg : PySem.W.findIn K (.ref D) "__getattr__" = some none
  sb : PySem.W.subIn K (.ref D) (.type "BaseException") = some true
  ca : PySem.W.findIn K (.ref D) "__class__" = some (some (.builtin "object.__class__"))
  gt : PySem.W.specialIn K (.builtin "object.__class__") "__get__" = some (some (.builtin "getset_descriptor.__get__"))
  tk : PySem.W.takesIn K (.builtin "object.__class__") = some true
  mr : PySem.W.mroIn K D (.type "object") = some true
/-- one class -/
def rIsX (K : PySem.W.Frag) (a : Addr) (cls : Value) (d : Option Addr) : List V → Hp → VK → Prop := fun xs H Q => ∃ (D dd : Addr) (fs : List (Str × V)) (c : V) (cv : Value) (b : Bool),
  xs = [.ref a, c] ∧ cls = .ref D ∧ d = some dd ∧ H dd = some (.xd fs) ∧ IsC K D ∧ ClsV c cv ∧ PySem.W.kitOne K (.ref D) cv = some b ∧ Q (.bl b) H
/-- a tuple of classes, just laid -/
def rIsXT (K : PySem.W.Frag) (a : Addr) (cls : Value) (d : Option Addr) : List V → Hp → VK → Prop := fun xs H Q => ∃ (D dd tp : Addr) (fs : List (Str × V)) (cs : List V) (us : List Value) (b : Bool),
  xs = [.ref a, .ref tp] ∧ cls = .ref D ∧ d = some dd ∧ H dd = some (.xd fs) ∧ IsC K D ∧ H tp = some (.tup cs) ∧ Paired ClsV cs us ∧ PySem.W.kitAny K (.ref D) us = some b ∧ Q (.bl b) H
section
variable {X : Cx} {a : Addr} {oe : Obj} {cls : Value} {d : Option Addr} {pn : List (Addr × Obj)}
theorem inst_x {pins : List (Addr × Obj)} {s : Shared} {σ : L2.St} {H : Hp} {D dd : Addr} {fs : List (Str × V)} (hz : Zc (.ref D) (some dd) oe) (hf : ∃ vs, oe.data = .fields vs) (I : Inv (X.suite a ((a, oe) :: pn)) pins σ H s) (ed : H dd = some (.xd fs)) :
    ∃ od, PySem.W.InstAt s.heap a oe D (some od) := by
  obtain ⟨at_a, _⟩ := I.pin (a, oe) (List.mem_append_left _ List.mem_cons_self)
  obtain ⟨vs, hv⟩ := hf
  have ox : ObjOk X.prog X.w H s.heap dd (.xd fs) := I.hok dd _ ed
  obtain ⟨mA, ns, _⟩ := ox
  obtain ⟨od, ho, _⟩ := lookIn_ns ns
  refine ⟨od, at_a, hz.1, ?_, ?_⟩
  · unfold PySem.W.notCls
    rw [hv] <;> rfl
  · rw [hz.2]
    exact ho
theorem call_isX (hz : Zc cls d oe) (hf : ∃ vs, oe.data = .fields vs) : CallR (X.suite a ((a, oe) :: pn)) (.builtin "isinstance") (rIsX X.K a cls d) := by
  intro pins s σ H xs us Q I r h
  obtain ⟨D, dd, fs, c, cv, b, rfl, rfl, rfl, ed, C, kc, e, q⟩ := h
  obtain ⟨u1, u2, rfl, r1, r2⟩ := vals2 r
  cases (show u1 = Value.ref a from r1)
  obtain rfl := kc.eq r2
  obtain ⟨od, J⟩ := inst_x hz hf I ed
  exact PySem.W.kia_one (PySem.W.kitx_exc C.cl C.ga C.gg C.sb C.ca C.gt C.tk C.mr) I.kIn J e (fun z => nomatch z) fun tk => ⟨.bl b, H, I.tok tk, rfl, q⟩
theorem call_isXT (hz : Zc cls d oe) (hf : ∃ vs, oe.data = .fields vs) : CallR (X.suite a ((a, oe) :: pn)) (.builtin "isinstance") (rIsXT X.K a cls d) := by
  intro pins s σ H xs us Q I r h
  obtain ⟨D, dd, tp, fs, cs, ws, b, rfl, rfl, rfl, ed, C, hT, kc, e, q⟩ := h
  obtain ⟨u1, u2, rfl, r1, r2⟩ := vals2 r
  cases (show u1 = Value.ref a from r1)
  cases (show u2 = Value.ref tp from r2)
  obtain ⟨od, J⟩ := inst_x hz hf I ed
  obtain ⟨_, its, rv, o, h1, h2, n, h3⟩ := (show ObjOk X.prog X.w H s.heap tp (.tup cs) from I.hok tp _ hT)
  obtain rfl := ClsV.all kc rv
  obtain ⟨oc, od2, dt, sl⟩ := o
  simp only at h2 h3
  subst h2 h3
  exact PySem.W.kia_tup (PySem.W.kitx_exc C.cl C.ga C.gg C.sb C.ca C.gt C.tk C.mr) I.kIn J h1 e (fun z => nomatch z) fun tk => ⟨.bl b, H, I.tok tk, rfl, q⟩
end
end TB

set_option Elab.async false
set_option linter.all false
set_option maxRecDepth 100000
set_option maxHeartbeats 1000000
namespace TB
open PySem PySem.Spec PyProof.Rows L2

/-! ### numbers and truths in sums -/
theorem gives_neg_bool (a : Bool) : Gives (Builtin.«int.__neg__» ⟨[.bool a], []⟩) (.int (-(if a = true then (1 : Int) else 0))) :=
  .of_wp fun M A E s Q h => by
    obtain ⟨hp, g, d, tk, os⟩ := s
    wp_walk
    exact ⟨_, rfl, h⟩
theorem neg_bool {prog : Program} {w : World} {A : Around} {E : Value → Shared → Prop} {s : Shared} {a : Bool} {Q : Value → Shared → Prop} (h : Q (.int (-(if a = true then (1 : Int) else 0)) s.toks) { s with toks := s.toks + 1 }) :
    wpAny (model prog w) A (unaryOp .USub (.bool a)) Q E s :=
  unaryOp_gives (op := .USub) (typeIs_bool' s a) rfl F.slot_bool_neg F.entry_int_neg (F.args_int_neg_1 _) (gives_neg_bool a) h
/-- the number that stands behind a number or a truth -/
inductive Nm : V → Int → Prop
  | int (i : Int) : Nm (.int i) i
  | bl (b : Bool) : Nm (.bl b) (if b = true then 1 else 0)
def rAddN : R2 := fun x y H Q => ∃ i j, Nm x i ∧ y = .int j ∧ Q (.int (i + j)) H
def rSubN : R2 := fun x y H Q => ∃ i j, Nm x i ∧ y = .int j ∧ Q (.int (i - j)) H
def rNegN : V → Hp → VK → Prop := fun x H Q => ∃ i, Nm x i ∧ Q (.int (-i)) H
section
variable {X : Cx}
theorem op_addN : OpR X (binaryOp .Add) rAddN := by
  intro pins s σ H x y v u Q I rx ry h
  obtain ⟨i, j, n, rfl, q⟩ := h
  cases n with
  | int i => exact op_add pins s σ H _ _ v u Q I rx ry ⟨i, j, rfl, rfl, q⟩
  | bl b =>
    obtain ⟨t, rfl⟩ := ry
    cases (show v = Value.bool b from rx)
    exact PySem.IntBool.add_bool_int ⟨.int _, H, I.tok _, ⟨_, rfl⟩, q⟩
theorem op_subN : OpR X (binaryOp .Sub) rSubN := by
  intro pins s σ H x y v u Q I rx ry h
  obtain ⟨i, j, n, rfl, q⟩ := h
  cases n with
  | int i => exact op_sub pins s σ H _ _ v u Q I rx ry ⟨i, j, rfl, rfl, q⟩
  | bl b =>
    obtain ⟨t, rfl⟩ := ry
    cases (show v = Value.bool b from rx)
    exact PySem.IntBool.sub_bool_int ⟨.int _, H, I.tok _, ⟨_, rfl⟩, q⟩
theorem un_negN : UnR X (unaryOp .USub) rNegN := by
  intro pins s σ H x v Q I rx h
  obtain ⟨i, n, q⟩ := h
  cases n with
  | int i => exact un_neg pins s σ H _ v Q I rx ⟨i, rfl, q⟩
  | bl b =>
    cases (show v = Value.bool b from rx)
    exact neg_bool ⟨.int _, H, I.tok _, ⟨_, rfl⟩, q⟩
end
end TB

set_option Elab.async false
set_option linter.all false
set_option maxRecDepth 100000
/-! The value layer: and, or, not; displays; operators; comparisons; subscripts; slices. -/
namespace VL
open PySem PySem.Spec PyProof.Rows L2 TB

section
variable {K : PySem.W.Frag} {mg : MG} {E : XK} {β : Bt} {H : Hp} {st : AS} {Q : VK}
/-- the answer is d, the heap as it was -/
theorem Post.here {α ρ : Type} {R : Hp → Bt → α → ρ → Prop} {Q : ρ → Hp → Prop} {d : α} {u : ρ} (h : Post K mg R E β H Q (.ok d st)) (S : Sim K mg β st H) (r : R H β d u) : Q u H := h β H u (Ext.refl _ _) S r
theorem new_tup {ds : List D} {us : List V} (h : Post K mg (rD K) E β H Q (.ok (.tup ds) st)) (S : Sim K mg β st H) (r : Reps K H β ds us) : ∀ p, H p = none → Q (.ref p) (upd H p (.tup us)) := fun p hp =>
  h β _ (.ref p) (Ext.same (same_upd hp)) (S.same (same_upd hp)) (.tup (S.fresh hp) upd_same (r.ext (Ext.same (same_upd hp))))
/-- a new list: a value, or a thing that may change -/
def mk (c : Bool) (ds : List D) (st : AS) : Out D := match c with
  | true => .ok (.ref st.length) (st ++ [.lst ds])
  | false => .ok (.lst ds) st
@[simp] theorem mk_f (ds : List D) (st : AS) : mk false ds st = .ok (.lst ds) st := rfl
@[simp] theorem mk_t (ds : List D) (st : AS) : mk true ds st = .ok (.ref st.length) (st ++ [.lst ds]) := rfl
theorem new_lst {c : Bool} {ds : List D} {us : List V} (h : Post K mg (rD K) E β H Q (mk c ds st)) (S : Sim K mg β st H) (r : Reps K H β ds us) : ∀ p, H p = none → Q (.ref p) (upd H p (.lst us)) := fun p hp => by
  cases c with
  | false => exact h β _ (.ref p) (Ext.same (same_upd hp)) (S.same (same_upd hp)) (.lst (S.fresh hp) upd_same (r.ext (Ext.same (same_upd hp))))
  | true =>
    have x : Ext β H (β.push p) (upd H p (.lst us)) := ext_push hp
    have S' := S.push (o := .lst us) (c := .lst ds) hp ⟨us, upd_same, r.ext x⟩
    exact h _ _ (.ref p) x S' (.ref (by rw [← S.len]; simp [Bt.push]))
end

section
variable {X : Cx} {E : XK} {a b c : Expr} {fa fb fc : En → AS → Out D} {ga gb : En → AS → Out Bool} {pos : Pos} {rest : List Expr}
@[simp] def vAnd (f g : En → AS → Out Bool) (env : En) (st : AS) : Out Bool := (f env st).bind fun x st => if x = true then g env st else .ok false st
@[simp] def vOr (f g : En → AS → Out Bool) (env : En) (st : AS) : Out Bool := (f env st).bind fun x st => if x = true then .ok true st else g env st
@[simp] def vNot (f : En → AS → Out Bool) (env : En) (st : AS) : Out Bool := (f env st).bind fun x st => .ok (!x) st
@[simp] def vAndV (f g : En → AS → Out D) (env : En) (st : AS) : Out D := (f env st).bind fun x st => (asB x st).bind fun x st => if x = true then g env st else .ok (.bl false) st
@[simp] def vOrV (f g : En → AS → Out D) (env : En) (st : AS) : Out D := (f env st).bind fun x st => (asB x st).bind fun x st => if x = true then .ok (.bl true) st else g env st
@[simp] def vNotV (f : En → AS → Out D) (env : En) (st : AS) : Out D := (f env st).bind fun x st => (asB x st).bind fun x st => .ok (.bl (!x)) st
@[simp] def vIfE (t : En → AS → Out Bool) (f g : En → AS → Out D) (env : En) (st : AS) : Out D := (t env st).bind fun x st => if x = true then f env st else g env st
theorem vw_and1 (ha : VT X E a ga) : VW X E (.BoolOp .And [a] pos) ga := pw_and1 ha
theorem vw_or1 (ha : VT X E a ga) : VW X E (.BoolOp .Or [a] pos) ga := pw_or1 ha
theorem vw_and (ha : VT X E a ga) (hb : VW X E (.BoolOp .And (b :: rest) pos) gb) : VW X E (.BoolOp .And (a :: b :: rest) pos) (vAnd ga gb) := by
  refine weakW (pw_and ha hb) fun σ H Q ⟨β, env, st, he, hs, h⟩ => ?_
  refine tG_bind he hs h fun x st1 β1 H1 u x1 s1 e1 r1 h1 => ?_
  obtain rfl : x = u := r1
  cases x with
  | true => exact ⟨β1, env, st1, e1, s1, h1⟩
  | false => exact h1.here s1 rfl
theorem vw_or (ha : VT X E a ga) (hb : VW X E (.BoolOp .Or (b :: rest) pos) gb) : VW X E (.BoolOp .Or (a :: b :: rest) pos) (vOr ga gb) := by
  refine weakW (pw_or ha hb) fun σ H Q ⟨β, env, st, he, hs, h⟩ => ?_
  refine tG_bind he hs h fun x st1 β1 H1 u x1 s1 e1 r1 h1 => ?_
  obtain rfl : x = u := r1
  cases x with
  | true => exact h1.here s1 rfl
  | false => exact ⟨β1, env, st1, e1, s1, h1⟩
theorem vt_not (ha : VT X E a ga) : VT X E (.UnaryOp .Not a pos) (vNot ga) := by
  refine weakT (pt_not ha) fun σ H Q ⟨β, env, st, he, hs, h⟩ => ?_
  refine tG_bind he hs h fun x st1 β1 H1 u x1 s1 e1 r1 h1 => ?_
  obtain rfl : x = u := r1
  exact h1.here s1 rfl
theorem vt_val {e : Expr} (h : VE X E e fa) (he : ∀ whole, isTrue e X.env whole = (do let v ← whole; standAt e.pos; holding [v] (truthy v)) := by intro _; rfl) : VT X E e (v1 truD fa) := by
  refine weakT (pt_truth h (he)) fun σ H Q ⟨β, env, st, he, hs, h⟩ => ?_
  exact tG_bind he hs h fun x st1 β1 H1 u x1 s1 e1 r1 h1 => truD_ok s1 r1 h1
theorem ve_one {op} (h : VE X E a fa) : VE X E (.BoolOp op [a] pos) fa := pe_one h
theorem asB_ok {K : PySem.W.Frag} {mg : MG} {β : Bt} {H : Hp} {Q : VK} {d : D} {u : V} {st : AS} {k : Bool → AS → Out D} (r : Rep K H β d u) (h : Post K mg (rD K) E β H Q ((asB d st).bind k)) :
    ∃ c, u = .bl c ∧ Post K mg (rD K) E β H Q (k c st) := by
  cases r with
  | bl b => exact ⟨b, rfl, h⟩
  | _ => exact h.elim
theorem ve_and (ha : VE X E a fa) (hb : VE X E (.BoolOp .And (b :: rest) pos) fb) : VE X E (.BoolOp .And (a :: b :: rest) pos) (vAndV fa fb) := by
  refine weakE (pe_and ha hb) fun σ H Q ⟨β, env, st, he, hs, h⟩ => ?_
  refine tG_bind he hs h fun x st1 β1 H1 u x1 s1 e1 r1 h1 => ?_
  obtain ⟨c, rfl, h2⟩ := asB_ok r1 h1
  cases c with
  | true => exact ⟨true, rfl, β1, env, st1, e1, s1, h2⟩
  | false => exact ⟨false, rfl, h2.here s1 (.bl false)⟩
theorem ve_or (ha : VE X E a fa) (hb : VE X E (.BoolOp .Or (b :: rest) pos) fb) : VE X E (.BoolOp .Or (a :: b :: rest) pos) (vOrV fa fb) := by
  refine weakE (pe_or ha hb) fun σ H Q ⟨β, env, st, he, hs, h⟩ => ?_
  refine tG_bind he hs h fun x st1 β1 H1 u x1 s1 e1 r1 h1 => ?_
  obtain ⟨c, rfl, h2⟩ := asB_ok r1 h1
  cases c with
  | true => exact ⟨true, rfl, h2.here s1 (.bl true)⟩
  | false => exact ⟨false, rfl, β1, env, st1, e1, s1, h2⟩
theorem ve_not (ha : VE X E a fa) : VE X E (.UnaryOp .Not a pos) (vNotV fa) := by
  refine weakE (pe_not ha) fun σ H Q ⟨β, env, st, he, hs, h⟩ => ?_
  refine tG_bind he hs h fun x st1 β1 H1 u x1 s1 e1 r1 h1 => ?_
  obtain ⟨c, rfl, h2⟩ := asB_ok r1 h1
  exact ⟨c, rfl, h2.here s1 (.bl _)⟩
theorem ve_ifExp (hc : VT X E c ga) (ha : VE X E a fa) (hb : VE X E b fb) : VE X E (.IfExp c a b pos) (vIfE ga fa fb) := by
  refine weakE (pe_ifExp hc ha hb) fun σ H Q ⟨β, env, st, he, hs, h⟩ => ?_
  refine tG_bind he hs h fun x st1 β1 H1 u x1 s1 e1 r1 h1 => ?_
  obtain rfl : x = u := r1
  cases x with
  | true => exact ⟨β1, env, st1, e1, s1, h1⟩
  | false => exact ⟨β1, env, st1, e1, s1, h1⟩

/-! ### displays -/
@[simp] def gTup (ds : List D) (st : AS) : Out D := if ds.length ≤ sizeLine then .ok (.tup ds) st else .bad
@[simp] def gLst (c : Bool) (ds : List D) (st : AS) : Out D := if ds.length ≤ sizeLine then mk c ds st else .bad
theorem Post.ite {α ρ : Type} {K : PySem.W.Frag} {mg : MG} {R : Hp → Bt → α → ρ → Prop} {β : Bt} {H : Hp} {Q : ρ → Hp → Prop} {p : Prop} [Decidable p] {o : Out α} (h : Post K mg R E β H Q (if p then o else .bad)) : p ∧ Post K mg R E β H Q o := by
  by_cases hp : p
  · rw [if_pos hp] at h
    exact ⟨hp, h⟩
  · rw [if_neg hp] at h
    exact h.elim
variable {es : List Expr} {fs : En → AS → Out (List D)}
theorem ve_tup {x1} (h : VA X E es fs) : VE X E (.Tuple es x1 pos) (vA gTup fs) := by
  refine weakE (pe_tup h) fun σ H Q ⟨β, env, st, he, hs, h⟩ => ?_
  refine tG_bind he hs h fun ds st1 β1 H1 us x1 s1 e1 r1 h1 => ?_
  obtain ⟨hl, h2⟩ := h1.ite
  exact ⟨by rw [r1.length]; exact hl, new_tup h2 s1 r1⟩
theorem ve_lst (c : Bool) (h : VA X E es fs) : VE X E (.List es pos) (vA (gLst c) fs) := by
  refine weakE (pe_lst h) fun σ H Q ⟨β, env, st, he, hs, h⟩ => ?_
  refine tG_bind he hs h fun ds st1 β1 H1 us x1 s1 e1 r1 h1 => ?_
  obtain ⟨hl, h2⟩ := h1.ite
  exact ⟨by rw [r1.length]; exact hl, new_lst h2 s1 r1⟩

/-! ### operators -/
@[simp] def listW (st : AS) : D → Option (List D)
  | .lst ds => some ds
  | .ref i => match st[i]? with
    | some (.lst ds) => some ds
    | _ => none
  | _ => none
theorem Sim.listsW {K : PySem.W.Frag} {mg : MG} {β : Bt} {H : Hp} {st : AS} (S : Sim K mg β st H) {d : D} {u : V} {ds : List D} (r : Rep K H β d u) (h : listW st d = some ds) : ∃ a us, u = .ref a ∧ H a = some (.lst us) ∧ Reps K H β ds us := by
  cases r with
  | lst n e q =>
    cases h
    exact ⟨_, _, rfl, e, q⟩
  | ref e =>
    rename_i i a
    unfold listW at h
    dsimp only at h
    split at h
    · rename_i ds' e2
      cases h
      obtain ⟨us, e3, q⟩ := S.cell i a _ e e2
      exact ⟨a, us, rfl, e3, q⟩
    · cases h
  | _ => cases h
@[simp] def addL (c : Bool) (x y : D) (st : AS) : Out D := match listW st x, listW st y with
  | some a, some b => if a.length + b.length ≤ sizeLine then mk c (a ++ b) st else .bad
  | _, _ => .bad
@[simp] def addD (c : Bool) (x y : D) (st : AS) : Out D := match x with
  | .int a => (match y with | .int b => .ok (.int (a + b)) st | _ => .bad)
  | .bl a => (match y with | .int b => .ok (.int ((if a = true then (1 : Int) else 0) + b)) st | _ => .bad)
  | .str a => (match y with | .str b => if a.length + b.length ≤ sizeLine then .ok (.str (a ++ b)) st else .bad | _ => .bad)
  | .tup a => (match y with | .tup b => if a.length + b.length ≤ sizeLine then .ok (.tup (a ++ b)) st else .bad | _ => .bad)
  | _ => addL c x y st
theorem add_lists {K : PySem.W.Frag} {mg : MG} {β : Bt} {H : Hp} {st : AS} {Q : VK} {x y : D} {u v : V} {c : Bool} (S : Sim K mg β st H) (rx : Rep K H β x u) (ry : Rep K H β y v)
    (h : Post K mg (rD K) E β H Q (addL c x y st)) : rCat u v H Q := by
  unfold addL at h
  split at h
  · rename_i a b ea eb
    obtain ⟨l1, us, rfl, e1, r1⟩ := S.listsW rx ea
    obtain ⟨l2, ws, rfl, e2, r2⟩ := S.listsW ry eb
    obtain ⟨hl, h2⟩ := h.ite
    exact ⟨l1, l2, us, ws, rfl, rfl, e1, e2, by rw [r1.length, r2.length]; exact hl, new_lst h2 S (r1.append r2)⟩
  · exact h.elim
theorem ve_add (c : Bool) (ha : VE X E a fa) (hb : VE X E b fb) : VE X E (.BinOp a .Add b pos) (v2 (addD c) fa fb) := by
  refine ve_op (op_addN.or (op_add_str.or (op_catA.or op_cat))) (fun β H st x y u v Q S rx ry h => ?_) ha hb
  unfold addD at h
  cases rx with
  | int i =>
    cases ry with
    | int j => exact .inl ⟨i, j, .int i, rfl, h.here S (.int _)⟩
    | _ => exact h.elim
  | bl a =>
    cases ry with
    | int j => exact .inl ⟨_, j, .bl a, rfl, h.here S (.int _)⟩
    | _ => exact h.elim
  | str i =>
    cases ry with
    | str j =>
      obtain ⟨hl, h2⟩ := h.ite
      exact .inr (.inl ⟨i, j, rfl, rfl, hl, h2.here S (.str _)⟩)
    | _ => exact h.elim
  | tup n1 e1 r1 =>
    cases ry with
    | tup n2 e2 r2 =>
      obtain ⟨hl, h2⟩ := h.ite
      refine .inr (.inr (.inl ⟨_, _, _, _, rfl, rfl, .inl (.inl e1), .inl (.inl e2), by rw [r1.length, r2.length]; exact hl, fun z => ?_, fun _ z => ?_, fun _ _ => new_tup h2 S (r1.append r2)⟩))
      · subst z
        cases r1
        exact h2.here S (.tup n2 e2 r2)
      · subst z
        cases r2
        refine h2.here S ?_
        rw [List.append_nil]
        exact .tup n1 e1 r1
    | _ => exact h.elim
  | ctp e r => exact .inr (.inr (.inr (add_lists S (.ctp e r) ry h)))
  | non => exact .inr (.inr (.inr (add_lists S .non ry h)))
  | cv b => exact .inr (.inr (.inr (add_lists S (.cv b) ry h)))
  | lst n e r => exact .inr (.inr (.inr (add_lists S (.lst n e r) ry h)))
  | fzl e r => exact .inr (.inr (.inr (add_lists S (.fzl e r) ry h)))
  | ref e => exact .inr (.inr (.inr (add_lists S (.ref e) ry h)))
@[simp] def iiD (f : Int → Int → D) (x y : D) (st : AS) : Out D := match x, y with
  | .int a, .int b => .ok (f a b) st
  | _, _ => .bad
theorem ii_ok {K : PySem.W.Frag} {mg : MG} {β : Bt} {H : Hp} {st : AS} {Q : VK} {x y : D} {u v : V} {f : Int → Int → D} (rx : Rep K H β x u) (ry : Rep K H β y v) (h : Post K mg (rD K) E β H Q (iiD f x y st)) :
    ∃ i j, u = .int i ∧ v = .int j ∧ Post K mg (rD K) E β H Q (.ok (f i j) st) := by
  cases rx with
  | int i =>
    cases ry with
    | int j => exact ⟨i, j, rfl, rfl, h⟩
    | _ => exact h.elim
  | _ => exact h.elim
@[simp] def subD (x y : D) (st : AS) : Out D := match x with
  | .bl a => (match y with | .int b => .ok (.int ((if a = true then (1 : Int) else 0) - b)) st | _ => .bad)
  | .int a => (match y with | .int b => .ok (.int (a - b)) st | _ => .bad)
  | _ => .bad
theorem ve_sub (ha : VE X E a fa) (hb : VE X E b fb) : VE X E (.BinOp a .Sub b pos) (v2 subD fa fb) :=
  ve_op op_subN (fun β H st x y u v Q S rx ry h => by
    unfold subD at h
    cases rx with
    | int i =>
      cases ry with
      | int j => exact ⟨i, j, .int i, rfl, h.here S (.int _)⟩
      | _ => exact h.elim
    | bl a =>
      cases ry with
      | int j => exact ⟨_, j, .bl a, rfl, h.here S (.int _)⟩
      | _ => exact h.elim
    | _ => exact h.elim) ha hb
def MulOk (i j : Int) : Prop := CMul i j ∨ CMulW i j
instance : ∀ a b, Decidable (CMul a b) := fun a b => inferInstanceAs (Decidable (_ ∨ _))
instance : ∀ a b, Decidable (CMulW a b) := fun a b => inferInstanceAs (Decidable (_ < _))
instance : ∀ a b, Decidable (MulOk a b) := fun a b => inferInstanceAs (Decidable (_ ∨ _))
@[simp] def mulL (c : Bool) (x y : D) (st : AS) : Out D := match listW st x with
  | some a => (match y with | .int k => if -(2 ^ 63) ≤ k ∧ k < 2 ^ 63 ∧ a.length * k.toNat ≤ sizeLine then mk c (List.replicate k.toNat a).flatten st else .bad | _ => .bad)
  | _ => .bad
instance : ∀ (a : Str) (n : Int), Decidable (PySem.MulOk a n) := fun a n => inferInstanceAs (Decidable (_ ∧ _))
/-- a text times a number -/
theorem op_mulS : OpR X (binaryOp .Mult) (fun x y H Q => ∃ z n, x = .str z ∧ y = .int n ∧ PySem.MulOk z n ∧ Q (.str (Txt.mul z n)) H) := by
  intro pins s σ H x y v u Q I rx ry h
  obtain ⟨z, n, rfl, rfl, hz, q⟩ := h
  obtain ⟨t, rfl⟩ := rx
  obtain ⟨t', rfl⟩ := ry
  exact PySem.SB.mul hz fun t' k => ⟨.str (Txt.mul z n), H, I.tok _, ⟨_, rfl⟩, q⟩
@[simp] def mulD (c : Bool) (x y : D) (st : AS) : Out D := match x with
  | .int a => (match y with | .int b => if MulOk a b then .ok (.int (a * b)) st else .bad | _ => .bad)
  | .tup a => (match y with | .int k => if a ≠ [] ∧ 2 ≤ k ∧ k ≤ 1000 ∧ a.length ≤ 1000 then .ok (.tup (List.replicate k.toNat a).flatten) st else .bad | _ => .bad)
  | .str a => (match y with | .int k => if PySem.MulOk a k then .ok (.str (Txt.mul a k)) st else .bad | _ => .bad)
  | _ => mulL c x y st
theorem Reps.rep {K : PySem.W.Frag} {β : Bt} {H : Hp} {ds : List D} {us : List V} (r : Reps K H β ds us) : ∀ k : Nat, Reps K H β (List.replicate k ds).flatten (List.replicate k us).flatten
  | 0 => .nil
  | k + 1 => by
    rw [List.replicate_succ, List.replicate_succ, List.flatten_cons, List.flatten_cons]
    exact r.append (Reps.rep r k)
theorem ne_nil {K : PySem.W.Frag} {β : Bt} {H : Hp} {ds : List D} {us : List V} (r : Reps K H β ds us) (h : ds ≠ []) : us ≠ [] := by
  cases r with
  | nil => exact absurd rfl h
  | cons _ _ => exact fun z => nomatch z
theorem ve_mul (c : Bool) (ha : VE X E a fa) (hb : VE X E b fb) : VE X E (.BinOp a .Mult b pos) (v2 (mulD c) fa fb) := by
  refine ve_op (op_mul.or (op_mulW.or (op_repT.or (op_rep.or op_mulS)))) (fun β H st x y u v Q S rx ry h => ?_) ha hb
  have lists : ∀ {x : D} {u : V}, Rep X.K H β x u → Post X.K X.mgw (rD X.K) E β H Q (mulL c x y st) → rRep u v H Q := by
    intro x u rx h
    unfold mulL at h
    split at h
    · rename_i a ea
      obtain ⟨l1, us, rfl, e1, r1⟩ := S.listsW rx ea
      cases ry with
      | int k =>
        obtain ⟨⟨h1, h2, h3⟩, h⟩ := h.ite
        exact ⟨l1, k, us, rfl, rfl, e1, h1, h2, by rw [r1.length]; exact h3, new_lst h S (r1.rep _)⟩
      | _ => exact h.elim
    · exact h.elim
  unfold mulD at h
  cases rx with
  | int i =>
    cases ry with
    | int j =>
      obtain ⟨hl, h2⟩ := h.ite
      rcases hl with hl | hl
      · exact .inl ⟨i, j, rfl, rfl, hl, h2.here S (.int _)⟩
      · exact .inr (.inl ⟨i, j, rfl, rfl, hl, h2.here S (.int _)⟩)
    | _ => exact h.elim
  | ctp e r => exact .inr (.inr (.inr (.inl (lists (.ctp e r) h))))
  | tup n1 e1 r1 =>
    cases ry with
    | int k =>
      obtain ⟨⟨h0, h1, h2, h3⟩, h⟩ := h.ite
      exact .inr (.inr (.inl ⟨_, k, _, rfl, rfl, .inl (.inl e1), ne_nil r1 h0, h1, h2, by rw [r1.length]; exact h3, new_tup h S (r1.rep _)⟩))
    | _ => exact h.elim
  | non => exact .inr (.inr (.inr (.inl (lists .non h))))
  | str z =>
    cases ry with
    | int k =>
      obtain ⟨hl, h⟩ := h.ite
      exact .inr (.inr (.inr (.inr ⟨z, k, rfl, rfl, hl, h.here S (.str _)⟩)))
    | _ => exact h.elim
  | bl b => exact .inr (.inr (.inr (.inl (lists (.bl b) h))))
  | cv b => exact .inr (.inr (.inr (.inl (lists (.cv b) h))))
  | lst n e r => exact .inr (.inr (.inr (.inl (lists (.lst n e r) h))))
  | fzl e r => exact .inr (.inr (.inr (.inl (lists (.fzl e r) h))))
  | ref e => exact .inr (.inr (.inr (.inl (lists (.ref e) h))))
@[simp] def iicD (p : Int → Int → Prop) [∀ a b, Decidable (p a b)] (f : Int → Int → D) (x y : D) (st : AS) : Out D := match x, y with
  | .int a, .int b => if p a b then .ok (f a b) st else .bad
  | _, _ => .bad
theorem iic_ok {p : Int → Int → Prop} [∀ a b, Decidable (p a b)] {K : PySem.W.Frag} {mg : MG} {β : Bt} {H : Hp} {st : AS} {Q : VK} {x y : D} {u v : V} {f : Int → Int → D} (rx : Rep K H β x u) (ry : Rep K H β y v) (h : Post K mg (rD K) E β H Q (iicD p f x y st)) :
    ∃ i j, u = .int i ∧ v = .int j ∧ p i j ∧ Post K mg (rD K) E β H Q (.ok (f i j) st) := by
  cases rx with
  | int i =>
    cases ry with
    | int j => exact ⟨i, j, rfl, rfl, h.ite⟩
    | _ => exact h.elim
  | _ => exact h.elim
instance : ∀ a b, Decidable (CDivW a b) := fun a b => inferInstanceAs (Decidable (_ ∧ _))
instance : ∀ a b, Decidable (CPow a b) := fun a b => inferInstanceAs (Decidable (_ ∧ _))
@[simp] def fdivD (x y : D) (st : AS) : Out D := iicD CDivW (fun a b => .int (a / b)) x y st
@[simp] def modD (x y : D) (st : AS) : Out D := iicD (fun _ b => 0 < b) (fun a b => .int (a % b)) x y st
@[simp] def powD (x y : D) (st : AS) : Out D := iicD CPow (fun a b => .int (a ^ b.toNat)) x y st
theorem ve_fdiv (ha : VE X E a fa) (hb : VE X E b fb) : VE X E (.BinOp a .FloorDiv b pos) (v2 fdivD fa fb) :=
  ve_op op_fdivW (fun β H st x y u v Q S rx ry h => by
    obtain ⟨i, j, rfl, rfl, hp, h⟩ := iic_ok rx ry h
    exact ⟨i, j, rfl, rfl, hp, h.here S (.int _)⟩) ha hb
theorem ve_mod (ha : VE X E a fa) (hb : VE X E b fb) : VE X E (.BinOp a .Mod b pos) (v2 modD fa fb) :=
  ve_op op_mod (fun β H st x y u v Q S rx ry h => by
    obtain ⟨i, j, rfl, rfl, hp, h⟩ := iic_ok rx ry h
    exact ⟨i, j, rfl, rfl, hp, h.here S (.int _)⟩) ha hb
theorem ve_pow (ha : VE X E a fa) (hb : VE X E b fb) : VE X E (.BinOp a .Pow b pos) (v2 powD fa fb) :=
  ve_op op_pow (fun β H st x y u v Q S rx ry h => by
    obtain ⟨i, j, rfl, rfl, hp, h⟩ := iic_ok rx ry h
    exact ⟨i, j, rfl, rfl, hp, h.here S (.int _)⟩) ha hb
@[simp] def negD (x : D) (st : AS) : Out D := match x with
  | .int a => .ok (.int (-a)) st
  | .bl a => .ok (.int (-(if a = true then (1 : Int) else 0))) st
  | _ => .bad
theorem ve_neg (ha : VE X E a fa) : VE X E (.UnaryOp .USub a pos) (v1 negD fa) :=
  ve_un un_negN (fun β H st x u Q S r h => by
    cases r with
    | int i => exact ⟨i, .int i, h.here S (.int _)⟩
    | bl b => exact ⟨_, .bl b, h.here S (.int _)⟩
    | _ => exact h.elim) ha
end
end VL

set_option Elab.async false
set_option linter.all false
set_option maxRecDepth 100000
/-! The value layer: comparisons, subscripts, slices. -/
namespace VL
open PySem PySem.Spec PyProof.Rows L2 TB

mutual
def D.pure : D → Bool
  | .tup ds => D.pures ds
  | .ctp ds => D.pures ds
  | .lst ds => D.pures ds
  | .fzl _ => false
  | .ref _ => false
  | .cv _ => false
  | _ => true
def D.pures : List D → Bool
  | [] => true
  | d :: ds => d.pure && D.pures ds
end
mutual
def D.py : D → PyData
  | .non => .none
  | .bl b => .bool b
  | .int i => .int i
  | .str x => .str x
  | .tup ds => .tuple (D.pys ds)
  | .ctp ds => .tuple (D.pys ds)
  | .lst ds => .list (D.pys ds)
  | .fzl _ => .none
  | .ref _ => .none
  | .cv _ => .none
def D.pys : List D → List PyData
  | [] => []
  | d :: ds => d.py :: D.pys ds
end
theorem D.pures_eq : ∀ ds : List D, D.pures ds = ds.all D.pure
  | [] => rfl
  | d :: ds => by rw [D.pures, D.pures_eq ds, List.all_cons]
theorem D.pys_eq : ∀ ds : List D, D.pys ds = ds.map D.py
  | [] => rfl
  | d :: ds => by rw [D.pys, D.pys_eq ds, List.map_cons]
mutual
theorem Rep.dp {K : PySem.W.Frag} {H : Hp} {β : Bt} : ∀ {d : D} {u : V}, Rep K H β d u → d.pure = true → Dp K H u d.py
  | _, _, .non, _ => by rw [D.py]; exact .non
  | _, _, .bl b, _ => by rw [D.py]; exact .bl b
  | _, _, .int i, _ => by rw [D.py]; exact .int i
  | _, _, .str x, _ => by rw [D.py]; exact .str x
  | _, _, .cv v, h => by rw [D.pure] at h; cases h
  | _, _, .ref e, h => by rw [D.pure] at h; cases h
  | _, _, .tup n e r, h => by
    rw [D.pure] at h
    rw [D.py]
    exact .tup (.inl (.inl e)) (Reps.dps r h)
  | _, _, .ctp e r, h => by
    rw [D.pure] at h
    rw [D.py]
    exact .tup e.sq (Reps.dps r h)
  | _, _, .lst n e r, h => by
    rw [D.pure] at h
    rw [D.py]
    exact .lst (.inl (.inl e)) (Reps.dps r h)
  | _, _, .fzl e r, h => by rw [D.pure] at h; cases h
theorem Reps.dps {K : PySem.W.Frag} {H : Hp} {β : Bt} : ∀ {ds : List D} {us : List V}, Reps K H β ds us → D.pures ds = true → DpAll K H us (D.pys ds)
  | _, _, .nil, _ => by rw [D.pys]; exact .nil
  | _, _, .cons r t, h => by
    rw [D.pures, Bool.and_eq_true] at h
    rw [D.pys]
    exact .cons (Rep.dp r h.1) (Reps.dps t h.2)
end
/-- plain data that == and repr may look at -/
def D.fit (d : D) : Bool := d.pure && SeqAt.shaped d.py
/-- a list that may change, by what it holds -/
@[simp] def valD (st : AS) (d : D) : D := match d with
  | .ref i => (match st[i]? with
    | some (.lst ds) => .lst ds
    | _ => .ref i)
  | _ => d
section
variable {K : PySem.W.Frag} {mg : MG} {E : XK} {β : Bt} {H : Hp} {st : AS} {Q : VK}
theorem Sim.dp (S : Sim K mg β st H) {d : D} {u : V} (r : Rep K H β d u) (h : (valD st d).pure = true) : Dp K H u (valD st d).py := by
  cases r with
  | ref e =>
    rename_i i a
    unfold valD at h ⊢
    dsimp only at h ⊢
    split at h
    · rename_i ds e2
      obtain ⟨us, e3, q⟩ := S.cell i a _ e e2
      rw [D.pure] at h
      rw [D.py]
      exact .lst (.inl (.inl e3)) (q.dps h)
    · rw [D.pure] at h
      cases h
  | non => exact Rep.dp (β := β) .non h
  | bl b => exact Rep.dp (β := β) (.bl b) h
  | int i => exact Rep.dp (β := β) (.int i) h
  | str x => exact Rep.dp (β := β) (.str x) h
  | cv q => exact Rep.dp (β := β) (.cv q) h
  | tup n e r => exact Rep.dp (.tup n e r) h
  | ctp e r => exact Rep.dp (.ctp e r) h
  | lst n e r => exact Rep.dp (.lst n e r) h
  | fzl e r => exact Rep.dp (.fzl e r) h
end
def scalD : D → Bool
  | .non => true
  | .bl _ => true
  | .int _ => true
  | .str _ => true
  | _ => false
def eqvD (x y : D) : Bool := PyData.eqv x.py y.py
def eqD (neg : Bool) (x y : D) (st : AS) : Out D :=
  if (scalD x && scalD y) = true then .ok (.bl (xor neg (eqvD x y))) st
  else if ((valD st x).fit && (valD st y).fit) = true then .ok (.bl (xor neg (eqvD (valD st x) (valD st y)))) st else .bad
section
variable {X : Cx} {E : XK} {a b c : Expr} {fa fb fc : En → AS → Out D} {pos : Pos}
theorem fit_dp {K : PySem.W.Frag} {mg : MG} {β : Bt} {H : Hp} {st : AS} (S : Sim K mg β st H) {d : D} {u : V} (r : Rep K H β d u) (h : (valD st d).fit = true) : Dp K H u (valD st d).py ∧ SeqAt.shaped (valD st d).py = true := by
  unfold D.fit at h
  rw [Bool.and_eq_true] at h
  exact ⟨S.dp r h.1, h.2⟩
theorem eq_ok {K : PySem.W.Frag} {mg : MG} {β : Bt} {H : Hp} {st : AS} {Q : VK} {x y : D} {u v : V} (S : Sim K mg β st H) (rx : Rep K H β x u) (ry : Rep K H β y v) (h : Post K mg (rD K) E β H Q (eqD false x y st)) : rEq u v H Q ∨ rEqD K u v H Q := by
  unfold eqD at h
  split at h
  · rename_i e
    have q := h.here S (.bl _)
    rw [Bool.and_eq_true] at e
    cases rx <;> first | (cases e.1; done) | (cases ry <;> first | (cases e.2; done) | (refine Or.inl ⟨rfl, ?_⟩; simpa [eqvD, D.py, PyData.eqv, Bool.beq_eq_decide_eq] using q) | (refine Or.inr ⟨.bool _, .int _, .bl _, .int _, rfl, rfl, ?_⟩; simpa [eqvD, D.py] using q) | (refine Or.inr ⟨.int _, .bool _, .int _, .bl _, rfl, rfl, ?_⟩; simpa [eqvD, D.py] using q))
  · obtain ⟨e, h⟩ := h.ite
    rw [Bool.and_eq_true] at e
    obtain ⟨d1, s1⟩ := fit_dp S rx e.1
    obtain ⟨d2, s2⟩ := fit_dp S ry e.2
    refine .inr ⟨_, _, d1, d2, s1, s2, ?_⟩
    have q := h.here S (.bl _)
    simpa [eqvD] using q
theorem ne_ok {K : PySem.W.Frag} {mg : MG} {β : Bt} {H : Hp} {st : AS} {Q : VK} {x y : D} {u v : V} (S : Sim K mg β st H) (rx : Rep K H β x u) (ry : Rep K H β y v) (h : Post K mg (rD K) E β H Q (eqD true x y st)) : rNe u v H Q ∨ rNeD K u v H Q := by
  unfold eqD at h
  split at h
  · rename_i e
    have q := h.here S (.bl _)
    rw [Bool.and_eq_true] at e
    cases rx <;> first | (cases e.1; done) | (cases ry <;> first | (cases e.2; done) | (refine Or.inl ⟨rfl, ?_⟩; simpa [eqvD, D.py, PyData.eqv, Bool.beq_eq_decide_eq] using q) | (refine Or.inr ⟨.bool _, .int _, .bl _, .int _, rfl, rfl, ?_⟩; simpa [eqvD, D.py] using q) | (refine Or.inr ⟨.int _, .bool _, .int _, .bl _, rfl, rfl, ?_⟩; simpa [eqvD, D.py] using q))
  · obtain ⟨e, h⟩ := h.ite
    rw [Bool.and_eq_true] at e
    obtain ⟨d1, s1⟩ := fit_dp S rx e.1
    obtain ⟨d2, s2⟩ := fit_dp S ry e.2
    refine .inr ⟨_, _, d1, d2, s1, s2, ?_⟩
    have q := h.here S (.bl _)
    simpa [eqvD] using q
variable (hu : X.A.units + 65 < cLine)
include hu
theorem ve_eq (ha : VE X E a fa) (hb : VE X E b fb) : VE X E (.Compare a [.Eq] [b] pos) (v2 (eqD false) fa fb) :=
  ve_cmp (op_eq.or (op_eqD (Nat.lt_of_le_of_lt (by omega) hu))) (fun _ _ _ _ _ _ _ _ S rx ry h => eq_ok S rx ry h) ha hb (nomark _)
theorem ve_ne (ha : VE X E a fa) (hb : VE X E b fb) : VE X E (.Compare a [.NotEq] [b] pos) (v2 (eqD true) fa fb) :=
  ve_cmp (op_ne.or (op_neD (Nat.lt_of_le_of_lt (by omega) hu))) (fun _ _ _ _ _ _ _ _ S rx ry h => ne_ok S rx ry h) ha hb (nomark _)
theorem vt_eq (ha : VE X E a fa) (hb : VE X E b fb) : VT X E (.Compare a [.Eq] [b] pos) (vB (v2 (eqD false) fa fb)) :=
  vt_cmp (op_eq.or (op_eqD (Nat.lt_of_le_of_lt (by omega) hu))) (fun _ _ _ _ _ _ _ _ S rx ry h => eq_ok S rx ry h) ha hb (nomark _)
theorem vt_ne (ha : VE X E a fa) (hb : VE X E b fb) : VT X E (.Compare a [.NotEq] [b] pos) (vB (v2 (eqD true) fa fb)) :=
  vt_cmp (op_ne.or (op_neD (Nat.lt_of_le_of_lt (by omega) hu))) (fun _ _ _ _ _ _ _ _ S rx ry h => ne_ok S rx ry h) ha hb (nomark _)
end

/-! ### order: ints, texts, tuples of ints -/
def intsOf : List D → Option (List Int)
  | [] => some []
  | .int i :: ds => (intsOf ds).map (i :: ·)
  | _ :: _ => none
theorem intsOf_map : ∀ ns : List Int, intsOf (ns.map D.int) = some ns
  | [] => rfl
  | n :: ns => by rw [List.map_cons, intsOf, intsOf_map ns]; rfl
theorem intsOf_eq : ∀ {ds : List D} {ns : List Int}, intsOf ds = some ns → ds = ns.map D.int
  | [], ns, h => by
    rw [intsOf] at h
    cases h
    rfl
  | .int i :: ds, ns, h => by
    rw [intsOf] at h
    cases e : intsOf ds with
    | none => rw [e] at h; cases h
    | some ms =>
      rw [e] at h
      cases h
      rw [intsOf_eq e]
      rfl
  | .non :: _, _, h => by simp [intsOf] at h
  | .bl _ :: _, _, h => by simp [intsOf] at h
  | .str _ :: _, _, h => by simp [intsOf] at h
  | .tup _ :: _, _, h => by simp [intsOf] at h
  | .ctp _ :: _, _, h => by simp [intsOf] at h
  | .lst _ :: _, _, h => by simp [intsOf] at h
  | .fzl _ :: _, _, h => by simp [intsOf] at h
  | .ref _ :: _, _, h => by simp [intsOf] at h
  | .cv _ :: _, _, h => by simp [intsOf] at h
theorem Reps.ints {K : PySem.W.Frag} {H : Hp} {β : Bt} : ∀ {ns : List Int} {us : List V}, Reps K H β (ns.map D.int) us → us = ns.map V.int
  | [], _, .nil => rfl
  | n :: ns, _, .cons r t => by
    cases r
    rw [Reps.ints t]
    rfl
theorem reps_ints {K : PySem.W.Frag} {H : Hp} {β : Bt} : ∀ ns : List Int, Reps K H β (ns.map D.int) (ns.map V.int)
  | [] => .nil
  | n :: ns => .cons (.int n) (reps_ints ns)
def ltStr (a b : Str) : Bool := decide (a.cps.toList < b.cps.toList)
def leT (ns ms : List Int) : Bool := Ob.lexAt (fun j => decide (ns.getD j 0 = ms.getD j 0)) (fun j => decide (ns.getD j 0 ≤ ms.getD j 0)) (decide (ns.length ≤ ms.length)) 0 (min ns.length ms.length)
@[simp] def ordD (fi : Int → Int → Bool) (fs : Str → Str → Bool) (ft : List Int → List Int → Option Bool) (x y : D) (st : AS) : Out D := match x, y with
  | .int a, .int b => .ok (.bl (fi a b)) st
  | .str a, .str b => .ok (.bl (fs a b)) st
  | .tup a, .tup b => (match intsOf a, intsOf b with
    | some n, some m => (match ft n m with | some k => .ok (.bl k) st | none => .bad)
    | _, _ => .bad)
  | _, _ => .bad
@[simp] def ltD (x y : D) (st : AS) : Out D := ordD (fun a b => decide (a < b)) ltStr (fun n m => some (HT.lexLt n m)) x y st
@[simp] def leD (x y : D) (st : AS) : Out D := ordD (fun a b => decide (a ≤ b)) (fun a b => !ltStr b a) (fun n m => some (leT n m)) x y st
@[simp] def gtD (x y : D) (st : AS) : Out D := ordD (fun a b => decide (b < a)) (fun a b => ltStr b a) (fun _ _ => none) x y st
@[simp] def geD (x y : D) (st : AS) : Out D := ordD (fun a b => decide (b ≤ a)) (fun a b => !ltStr a b) (fun _ _ => none) x y st
theorem ord_ok {K : PySem.W.Frag} {mg : MG} {E : XK} {β : Bt} {H : Hp} {st : AS} {Q : VK} {x y : D} {u v : V} {fi : Int → Int → Bool} {fs : Str → Str → Bool} {ft : List Int → List Int → Option Bool} (S : Sim K mg β st H) (rx : Rep K H β x u) (ry : Rep K H β y v) (h : Post K mg (rD K) E β H Q (ordD fi fs ft x y st)) :
    (∃ i j, u = .int i ∧ v = .int j ∧ Q (.bl (fi i j)) H) ∨ (∃ i j, u = .str i ∧ v = .str j ∧ Q (.bl (fs i j)) H) ∨ ∃ a b ns ms k, u = .ref a ∧ v = .ref b ∧ SqT K H a (ns.map V.int) ∧ SqT K H b (ms.map V.int) ∧ ft ns ms = some k ∧ Q (.bl k) H := by
  cases rx with
  | int i =>
    cases ry with
    | int j => exact .inl ⟨i, j, rfl, rfl, h.here S (.bl _)⟩
    | _ => exact h.elim
  | str i =>
    cases ry with
    | str j => exact .inr (.inl ⟨i, j, rfl, rfl, h.here S (.bl _)⟩)
    | _ => exact h.elim
  | tup n1 e1 r1 =>
    cases ry with
    | tup n2 e2 r2 =>
      unfold ordD at h
      dsimp only at h
      split at h
      · rename_i n m en em
        split at h
        · rename_i k ek
          have z1 := intsOf_eq en
          have z2 := intsOf_eq em
          subst z1
          subst z2
          have w1 := r1.ints
          have w2 := r2.ints
          subst w1
          subst w2
          exact .inr (.inr ⟨_, _, n, m, k, rfl, rfl, .inl (.inl e1), .inl (.inl e2), ek, h.here S (.bl _)⟩)
        · exact h.elim
      · exact h.elim
    | _ => exact h.elim
  | _ => exact h.elim
section
variable {X : Cx} {E : XK} {a b c : Expr} {fa fb fc : En → AS → Out D} {pos : Pos}
def OkC (X : Cx) (E : XK) (op : CmpOp) (g : D → D → AS → Out D) : Prop := ∃ r, OpR X (compareOp op) r ∧ Ok2 X.K X.mgw E r g
theorem OkC.ve {op : CmpOp} {g : D → D → AS → Out D} (h : OkC X E op g) (ha : VE X E a fa) (hb : VE X E b fb) (hm : behindInMarks op b = false) : VE X E (.Compare a [op] [b] pos) (v2 g fa fb) := by
  obtain ⟨r, h1, h2⟩ := h
  exact ve_cmp h1 h2 ha hb hm
theorem OkC.vt {op : CmpOp} {g : D → D → AS → Out D} (h : OkC X E op g) (ha : VE X E a fa) (hb : VE X E b fb) (hm : behindInMarks op b = false) : VT X E (.Compare a [op] [b] pos) (vB (v2 g fa fb)) := by
  obtain ⟨r, h1, h2⟩ := h
  exact vt_cmp h1 h2 ha hb hm
theorem oc_lt (hu : X.A.units + 65 < cLine) : OkC X E .Lt ltD := ⟨_, op_lt.or (op_lt_str.or (op_ltT (Nat.lt_of_le_of_lt (by omega) hu))), fun β H st x y u v Q S rx ry h => by
  rcases ord_ok S rx ry h with ⟨i, j, rfl, rfl, q⟩ | ⟨i, j, rfl, rfl, q⟩ | ⟨p, q', ns, ms, k, rfl, rfl, h1, h2, e, q⟩
  · exact .inl ⟨i, j, rfl, rfl, q⟩
  · exact .inr (.inl ⟨i, j, rfl, rfl, q⟩)
  · cases e
    exact .inr (.inr ⟨p, q', ns, ms, rfl, rfl, h1, h2, q⟩)⟩
theorem oc_gt : OkC X E .Gt gtD := ⟨_, op_gt.or op_gt_str, fun β H st x y u v Q S rx ry h => by
  rcases ord_ok S rx ry h with ⟨i, j, rfl, rfl, q⟩ | ⟨i, j, rfl, rfl, q⟩ | ⟨p, q', ns, ms, k, rfl, rfl, h1, h2, e, q⟩
  · exact .inl ⟨i, j, rfl, rfl, q⟩
  · exact .inr ⟨i, j, rfl, rfl, q⟩
  · cases e⟩
theorem oc_ge : OkC X E .GtE geD := ⟨_, op_ge.or op_ge_str, fun β H st x y u v Q S rx ry h => by
  rcases ord_ok S rx ry h with ⟨i, j, rfl, rfl, q⟩ | ⟨i, j, rfl, rfl, q⟩ | ⟨p, q', ns, ms, k, rfl, rfl, h1, h2, e, q⟩
  · exact .inl ⟨i, j, rfl, rfl, q⟩
  · exact .inr ⟨i, j, rfl, rfl, q⟩
  · cases e⟩
theorem oc_le (hu : X.A.units + 65 < cLine) : OkC X E .LtE leD := ⟨_, op_le.or (op_le_str.or (op_leT (Nat.lt_of_le_of_lt (by omega) hu))), fun β H st x y u v Q S rx ry h => by
  rcases ord_ok S rx ry h with ⟨i, j, rfl, rfl, q⟩ | ⟨i, j, rfl, rfl, q⟩ | ⟨p, q', ns, ms, k, rfl, rfl, h1, h2, e, q⟩
  · exact .inl ⟨i, j, rfl, rfl, q⟩
  · exact .inr (.inl ⟨i, j, rfl, rfl, q⟩)
  · cases e
    exact .inr (.inr ⟨p, q', ns, ms, rfl, rfl, h1, h2, q⟩)⟩
theorem oc_eq (hu : X.A.units + 65 < cLine) : OkC X E .Eq (eqD false) := ⟨_, op_eq.or (op_eqD (Nat.lt_of_le_of_lt (by omega) hu)), fun _ _ _ _ _ _ _ _ S rx ry h => eq_ok S rx ry h⟩
theorem oc_ne (hu : X.A.units + 65 < cLine) : OkC X E .NotEq (eqD true) := ⟨_, op_ne.or (op_neD (Nat.lt_of_le_of_lt (by omega) hu)), fun _ _ _ _ _ _ _ _ S rx ry h => ne_ok S rx ry h⟩
/-- is None, is True, is not .. -/
@[simp] def isND (neg : Bool) (x y : D) (st : AS) : Out D := match y with
  | .non => (match x with
    | .cv _ => .bad
    | .non => .ok (.bl (!neg)) st
    | _ => .ok (.bl neg) st)
  | .bl b => (match x with
    | .cv _ => .bad
    | .bl a => .ok (.bl (xor neg (decide (a = b)))) st
    | _ => .ok (.bl neg) st)
  | _ => .bad
def notTy : V → Bool
  | .non => true
  | .bl _ => true
  | .int _ => true
  | .str _ => true
  | .ref _ => true
  | _ => false
def rIsT (neg : Bool) : R2 := fun x y H Q => ∃ b : Bool, y = .bl b ∧ notTy x = true ∧ Q (.bl (xor neg (decide (x = .bl b)))) H
theorem op_isT : OpR X (compareOp .Is) (rIsT false) := by
  intro pins s σ H x y v u Q I rx ry h
  obtain ⟨b, rfl, hx, q⟩ := h
  cases (show u = Value.bool b from ry)
  cases x with
  | bl a => exact op_isBl pins s σ H _ _ v _ Q I rx (show RelV (.bl b) (.bool b) from rfl) ⟨a, b, rfl, rfl, by simpa using q⟩
  | non =>
    cases (show v = Value.none from rx)
    exact wpAny_is_other rfl (fun z => nomatch z) ⟨.bl false, H, I, rfl, by simpa using q⟩
  | int i =>
    obtain ⟨t, rfl⟩ := rx
    exact wpAny_is_other rfl (fun z => nomatch z) ⟨.bl false, H, I, rfl, by simpa using q⟩
  | str i =>
    obtain ⟨t, rfl⟩ := rx
    exact wpAny_is_other rfl (fun z => nomatch z) ⟨.bl false, H, I, rfl, by simpa using q⟩
  | ref a =>
    cases (show v = Value.ref a from rx)
    exact wpAny_is_other rfl (fun z => nomatch z) ⟨.bl false, H, I, rfl, by simpa using q⟩
  | _ => cases hx
theorem op_notT : OpR X (compareOp .IsNot) (rIsT true) := by
  intro pins s σ H x y v u Q I rx ry h
  obtain ⟨b, rfl, hx, q⟩ := h
  cases (show u = Value.bool b from ry)
  cases x with
  | bl a => exact op_notBl pins s σ H _ _ v _ Q I rx (show RelV (.bl b) (.bool b) from rfl) ⟨a, b, rfl, rfl, by simpa using q⟩
  | non =>
    cases (show v = Value.none from rx)
    exact wpAny_isNot_other rfl (fun z => nomatch z) ⟨.bl true, H, I, rfl, by simpa using q⟩
  | int i =>
    obtain ⟨t, rfl⟩ := rx
    exact wpAny_isNot_other rfl (fun z => nomatch z) ⟨.bl true, H, I, rfl, by simpa using q⟩
  | str i =>
    obtain ⟨t, rfl⟩ := rx
    exact wpAny_isNot_other rfl (fun z => nomatch z) ⟨.bl true, H, I, rfl, by simpa using q⟩
  | ref a =>
    cases (show v = Value.ref a from rx)
    exact wpAny_isNot_other rfl (fun z => nomatch z) ⟨.bl true, H, I, rfl, by simpa using q⟩
  | _ => cases hx
theorem isN_val {K : PySem.W.Frag} {mg : MG} {β : Bt} {H : Hp} {st : AS} {Q : VK} {x y : D} {u v : V} {neg : Bool} (S : Sim K mg β st H) (rx : Rep K H β x u) (ry : Rep K H β y v) (h : Post K mg (rD K) E β H Q (isND neg x y st)) :
    (v = .non ∧ Q (.bl (xor neg (decide (u = .non)))) H) ∨ rIsT neg u v H Q := by
  unfold isND at h
  cases ry with
  | non =>
    refine .inl ⟨rfl, ?_⟩
    cases rx with
    | cv => exact h.elim
    | non => have q := h.here S (.bl _); cases neg <;> simpa using q
    | _ => have q := h.here S (.bl _); cases neg <;> simpa using q
  | bl b =>
    refine .inr ⟨b, rfl, ?_, ?_⟩
    · cases rx <;> first | rfl | exact h.elim
    · cases rx with
      | cv => exact h.elim
      | bl a => have q := h.here S (.bl _); simpa using q
      | _ => have q := h.here S (.bl _); cases neg <;> simpa using q
  | _ => exact h.elim
theorem oc_is : OkC X E .Is (isND false) := ⟨_, op_isN.or op_isT, fun β H st x y u v Q S rx ry h => by
  rcases isN_val S rx ry h with ⟨rfl, q⟩ | q
  · exact .inl ⟨rfl, by simpa using q⟩
  · exact .inr q⟩
theorem oc_isnot : OkC X E .IsNot (isND true) := ⟨_, op_notN.or op_notT, fun β H st x y u v Q S rx ry h => by
  rcases isN_val S rx ry h with ⟨rfl, q⟩ | q
  · exact .inl ⟨rfl, by simpa using q⟩
  · exact .inr q⟩
/-- a op b op' c -/
@[simp] def vChain (g g' : D → D → AS → Out D) (fa fb fc : En → AS → Out D) (env : En) (st : AS) : Out D := (fa env st).bind fun x st => (fb env st).bind fun y st => (g x y st).bind fun z st => (asB z st).bind fun k st =>
  if k = true then (fc env st).bind fun w st => g' y w st else .ok (.bl false) st
theorem post_bind {K : PySem.W.Frag} {mg : MG} {α ρ γ τ : Type} {R : Hp → Bt → α → ρ → Prop} {R' : Hp → Bt → γ → τ → Prop} {β : Bt} {H : Hp} {Q : τ → Hp → Prop} {o : Out α} {k : α → AS → Out γ} (h : Post K mg R' E β H Q (o.bind k)) :
    Post K mg R E β H (fun u H1 => ∃ a st1 β1, Ext β H β1 H1 ∧ Sim K mg β1 st1 H1 ∧ R H1 β1 a u ∧ Post K mg R' E β1 H1 Q (k a st1)) o := by
  cases o with
  | ok a st => exact fun β1 H1 u x s r => ⟨a, st, β1, x, s, r, Post.ext x h⟩
  | exc c fs st => exact h
  | bad => exact h
theorem use_chain {op op' : CmpOp} {g g' : D → D → AS → Out D} {r r' : R2} (h2 : Ok2 X.K X.mgw E r g) (h2' : Ok2 X.K X.mgw E r' g') {σ : L2.St} {H : Hp} {Q : VK} (h : tV X.K X.mgw E (vChain g g' fa fb fc) σ H Q) : tChain r r' (tV X.K X.mgw E fa) (tV X.K X.mgw E fb) (tV X.K X.mgw E fc) σ H Q := by
  obtain ⟨β, env, st, he, hs, h⟩ := h
  refine tG_bind he hs h fun x st1 β1 H1 u x1 s1 e1 r1 h1 => ?_
  refine tG_bind e1 s1 h1 fun y st2 β2 H2 v x2 s2 e2 r2 h2x => ?_
  refine h2 β2 H2 st2 x y u v _ s2 (r1.ext x2) r2 ?_
  have q := post_bind (R := rD X.K) h2x
  cases o : g x y st2 with
  | bad => rw [o] at q; exact q
  | exc c fs s => rw [o] at q; exact q
  | ok z st3 =>
    rw [o] at q
    intro β3 H3 w x3 s3 r3
    obtain ⟨a', st3', β3', _, _, _, q3⟩ := q β3 H3 w x3 s3 r3
    rw [o] at h2x
    have h3 : Post X.K X.mgw (rD X.K) E β3 H3 Q ((asB z st3).bind fun k st => if k = true then (fc env st).bind fun w st => g' y w st else .ok (.bl false) st) := Post.ext x3 h2x
    obtain ⟨k, rfl, h4⟩ := asB_ok r3 h3
    cases k with
    | false => exact ⟨false, rfl, h4.here s3 (.bl false)⟩
    | true =>
      refine ⟨true, rfl, ?_⟩
      refine tG_bind (e2.ext x3) s3 h4 fun w' st4 β4 H4 t x4 s4 e4 r4 h5 => ?_
      exact h2' β4 H4 st4 y w' v t Q s4 ((r2.ext x3).ext x4) r4 h5
theorem ve_chain {op op' : CmpOp} {g g' : D → D → AS → Out D} (h : OkC X E op g) (h' : OkC X E op' g') (ha : VE X E a fa) (hb : VE X E b fb) (hc : VE X E c fc) (hm : lastMarks [op, op'] [b, c] = false := by with_unfolding_all rfl) : VE X E (.Compare a [op, op'] [b, c] pos) (vChain g g' fa fb fc) := by
  obtain ⟨r, h1, h2⟩ := h
  obtain ⟨r', h1', h2'⟩ := h'
  exact weakE (pe_chain h1 h1' ha hb hc hm) fun σ H Q h => use_chain (op := op) (op' := op') h2 h2' h
theorem vt_chain {op op' : CmpOp} {g g' : D → D → AS → Out D} (h : OkC X E op g) (h' : OkC X E op' g') (ha : VE X E a fa) (hb : VE X E b fb) (hc : VE X E c fc) (hm : lastMarks [op, op'] [b, c] = false := by with_unfolding_all rfl) : VT X E (.Compare a [op, op'] [b, c] pos) (vB (vChain g g' fa fb fc)) := by
  obtain ⟨r, h1, h2⟩ := h
  obtain ⟨r', h1', h2'⟩ := h'
  refine weakT (pt_chain h1 h1' ha hb hc hm) fun σ H Q h => ?_
  obtain ⟨β, env, st, he, hs, h⟩ := h
  have h' : tV X.K X.mgw E (vChain g g' fa fb fc) σ H fun x H' => ∃ k, x = .bl k ∧ Q k H' := tG_bind he hs h fun x st1 β1 H1 u x1 s1 e1 r1 h1 => postB s1 r1 h1
  exact use_chain (op := op) (op' := op') h2 h2' h'
end
end VL

set_option Elab.async false
set_option linter.all false
set_option maxRecDepth 100000
set_option maxHeartbeats 2000000
namespace TB
open PySem PySem.Spec PyProof.Rows L2
section
variable {prog : Program} {w : World} {A : Around} {R : Result → Shared → Prop} {I : Addr} {fp wr : List Addr} {G : Array GenState → Array GenState → Prop} {n : Nat} {P : Nat → Value → Prop} {St : Nat → Shared → Prop}

/-- the loop behind the first thing, whatever default goes along -/
theorem max_goes (Wk : WalksS prog w A.in1 I fp wr G n P St) (bt : Nat → Nat → Bool) (cm : CmpOf prog w A.in1 .Gt P bt) (S : Addr) (out : S ∉ fp) (kw : List (Str × Value)) :
    ∀ (k j : Nat) (s : Shared) (b0 : Value) (c : Nat), n - (j + 1) = k → j + 1 ≤ n → St (j + 1) s → P (argBest bt j) b0 →
      s.heap.get? S = some { cls := .type "list", dict := none, data := .seq #[b0, b0] c, slots := #[] } →
      (∀ v s2, P (argBest bt (n - 1)) v → Moved (S :: wr) G s s2 → R (.ok (.ret v)) s2) → codeAny (model prog w) A (.builtin "max.loop" ⟨[.ref I, .none, .ref S], kw⟩) R s := by
  have outw : S ∉ wr := fun z => out (Wk.sub _ z)
  have sub : ∀ b ∈ wr, b ∈ S :: wr := fun b z => List.mem_cons_of_mem _ z
  have nm : (toString "max" ++ toString ".loop" : String) = "max.loop" := by decide
  have apart : ∀ {b : Addr}, b ∉ S :: wr → S ≠ b := fun z y => z (by rw [y]; exact List.mem_cons_self)
  intro k
  induction k with
  | zero =>
    intro j s b0 c ek lj st pb at_S rr
    have ej : j + 1 = n := by omega
    refine codeAny_builtin PySem.F.entry_max_loop ?_
    rw [Around.under_plainId PySem.F.plain_max_loop _]
    show wpAny _ A.in1 (seqItems? (.ref S) >>= _) _ _ _
    refine wpAny_bind (wpAny_seqItems at_S rfl ?_)
    show wpAny _ A.in1 (tryCatch (pyNext (.ref I)) _ >>= _) _ _ _
    refine wpAny_bind (wpAny_tryCatch (Wk.done s _ _ (ej ▸ st) fun s1 mv => ?_))
    have at1 := mv.heap S _ outw at_S
    show wpAny _ A.in1 (updateSeq S (fun _ => #[]) >>= _) _ _ s1
    refine wpAny_bind ?_
    refine wpAny_updateSeq at1 rfl (wpAny_bind (wpAny_letGo (wpAny_pure ?_)))
    refine rr b0 _ (by rw [← ej]; exact pb) ((mv.mono sub).then_heap (tk := s1.toks) (Nat.le_refl _) fun b o z e => ?_)
    exact (Heap.get?_update_other _ _ (apart z)).trans e
  | succ k ih =>
    intro j s b0 c ek lj st pb at_S rr
    have lt : j + 1 < n := by omega
    refine codeAny_builtin PySem.F.entry_max_loop ?_
    rw [Around.under_plainId PySem.F.plain_max_loop _]
    show wpAny _ A.in1 (seqItems? (.ref S) >>= _) _ _ _
    refine wpAny_bind (wpAny_seqItems at_S rfl ?_)
    show wpAny _ A.in1 (tryCatch (pyNext (.ref I)) _ >>= _) _ _ _
    refine wpAny_bind (wpAny_tryCatch (Wk.item (j + 1) s _ _ lt st fun v s1 pv st1 mv => ?_))
    have at1 := mv.heap S _ outw at_S
    show wpAny _ A.in1 (tryCatch (holding [v, v] (richCompare .Gt v b0 >>= _)) _ >>= _) _ _ s1
    refine wpAny_bind (wpAny_tryCatch (wpAny_holding (wpAny_bind (cm (j + 1) (argBest bt j) v b0 _ _ _ pv pb ?_))))
    refine wpAny_bind (wpAny_holding (wpAny_truthy_bool ?_))
    refine wpAny_bind (wpAny_letGo (wpAny_pure ?_))
    cases eb : bt (j + 1) (argBest bt j) with
    | true =>
      simp only [if_true]
      refine wpAny_bind ?_
      refine wpAny_updateSeq at1 rfl (wpAny_bind (wpAny_letGo ?_))
      rw [nm]
      refine wpAny_pure ⟨plainId_quiet PySem.F.plain_max_loop _, ih (j + 1) _ v _ (by omega) lt (Wk.frame _ s1 _ s1.toks st1 (Nat.le_refl _) fun b z o e => ?_) (by simp only [argBest, eb, if_true]; exact pv) (Heap.get?_update_self _ at1 rfl) fun v2 s2 p2 m2 => ?_⟩
      · exact (Heap.get?_update_other _ _ (fun y : S = b => out (by rw [y]; exact z))).trans e
      · refine rr v2 s2 p2 (Moved.trans Wk.gtrans ((mv.mono sub).then_heap (by first | exact Nat.le_refl _ | exact Nat.le_succ _ | omega) fun b o z e => ?_) m2)
        exact (Heap.get?_update_other _ _ (apart z)).trans e
    | false =>
      simp only [Bool.false_eq_true, if_false]
      refine wpAny_bind (wpAny_letGo ?_)
      rw [nm]
      refine wpAny_pure ⟨plainId_quiet PySem.F.plain_max_loop _, ih (j + 1) _ b0 c (by omega) lt st1 (by simp only [argBest, eb, Bool.false_eq_true, if_false]; exact pb) at1 fun v2 s2 p2 m2 => ?_⟩
      exact rr v2 s2 p2 (Moved.trans Wk.gtrans (mv.mono sub) m2)
theorem max_starts (Wk : WalksS prog w A.in1 I fp wr G n P St) (bt : Nat → Nat → Bool) (cm : CmpOf prog w A.in1 .Gt P bt) (S : Addr) (out : S ∉ fp) (kx : Str) (dv : Value) {s : Shared} {c : Nat} (st : St 0 s)
    (at_S : s.heap.get? S = some { cls := .type "list", dict := none, data := .seq #[] c, slots := #[] })
    (r0 : n = 0 → ∀ s2, Moved (S :: wr) G s s2 → R (.ok (.ret dv)) s2)
    (rr : 0 < n → ∀ v s2, P (argBest bt (n - 1)) v → Moved (S :: wr) G s s2 → R (.ok (.ret v)) s2) : codeAny (model prog w) A (.builtin "max.loop" ⟨[.ref I, .none, .ref S], [(kx, dv)]⟩) R s := by
  have outw : S ∉ wr := fun z => out (Wk.sub _ z)
  have sub : ∀ b ∈ wr, b ∈ S :: wr := fun b z => List.mem_cons_of_mem _ z
  have nm : (toString "max" ++ toString ".loop" : String) = "max.loop" := by decide
  have apart : ∀ {b : Addr}, b ∉ S :: wr → S ≠ b := fun z y => z (by rw [y]; exact List.mem_cons_self)
  refine codeAny_builtin PySem.F.entry_max_loop ?_
  rw [Around.under_plainId PySem.F.plain_max_loop _]
  show wpAny _ A.in1 (seqItems? (.ref S) >>= _) _ _ _
  refine wpAny_bind (wpAny_seqItems at_S rfl ?_)
  show wpAny _ A.in1 (tryCatch (pyNext (.ref I)) _ >>= _) _ _ _
  by_cases c0 : n = 0
  · refine wpAny_bind (wpAny_tryCatch (Wk.done s _ _ (by rw [c0]; exact st) fun s1 mv => ?_))
    refine wpAny_bind (wpAny_rule ?_)
    exact wpAny_pure (r0 c0 _ (mv.mono sub))
  · have np : 0 < n := by omega
    refine wpAny_bind (wpAny_tryCatch (Wk.item 0 s _ _ np st fun v s1 pv st1 mv => ?_))
    have at1 := mv.heap S _ outw at_S
    show wpAny _ A.in1 (updateSeq S (fun _ => #[v, v]) >>= _) _ _ s1
    refine wpAny_bind ?_
    refine wpAny_updateSeq at1 rfl ?_
    rw [nm]
    refine wpAny_pure ⟨plainId_quiet PySem.F.plain_max_loop _, max_goes Wk bt cm S out _ _ 0 _ v _ rfl np (Wk.frame _ s1 _ s1.toks st1 (Nat.le_refl _) fun b z o e => ?_) pv (Heap.get?_update_self _ at1 rfl) fun v2 s2 p2 m2 => ?_⟩
    · exact (Heap.get?_update_other _ _ (fun y : S = b => out (by rw [y]; exact z))).trans e
    · refine rr np v2 s2 p2 (Moved.trans Wk.gtrans ((mv.mono sub).then_heap (by first | exact Nat.le_refl _ | exact Nat.le_succ _ | omega) fun b o z e => ?_) m2)
      exact (Heap.get?_update_other _ _ (apart z)).trans e

/-- the loop behind the first thing, whatever default goes along -/
theorem min_goes (Wk : WalksS prog w A.in1 I fp wr G n P St) (bt : Nat → Nat → Bool) (cm : CmpOf prog w A.in1 .Lt P bt) (S : Addr) (out : S ∉ fp) (kw : List (Str × Value)) :
    ∀ (k j : Nat) (s : Shared) (b0 : Value) (c : Nat), n - (j + 1) = k → j + 1 ≤ n → St (j + 1) s → P (argBest bt j) b0 →
      s.heap.get? S = some { cls := .type "list", dict := none, data := .seq #[b0, b0] c, slots := #[] } →
      (∀ v s2, P (argBest bt (n - 1)) v → Moved (S :: wr) G s s2 → R (.ok (.ret v)) s2) → codeAny (model prog w) A (.builtin "min.loop" ⟨[.ref I, .none, .ref S], kw⟩) R s := by
  have outw : S ∉ wr := fun z => out (Wk.sub _ z)
  have sub : ∀ b ∈ wr, b ∈ S :: wr := fun b z => List.mem_cons_of_mem _ z
  have nm : (toString "min" ++ toString ".loop" : String) = "min.loop" := by decide
  have apart : ∀ {b : Addr}, b ∉ S :: wr → S ≠ b := fun z y => z (by rw [y]; exact List.mem_cons_self)
  intro k
  induction k with
  | zero =>
    intro j s b0 c ek lj st pb at_S rr
    have ej : j + 1 = n := by omega
    refine codeAny_builtin PySem.F.entry_min_loop ?_
    rw [Around.under_plainId PySem.F.plain_min_loop _]
    show wpAny _ A.in1 (seqItems? (.ref S) >>= _) _ _ _
    refine wpAny_bind (wpAny_seqItems at_S rfl ?_)
    show wpAny _ A.in1 (tryCatch (pyNext (.ref I)) _ >>= _) _ _ _
    refine wpAny_bind (wpAny_tryCatch (Wk.done s _ _ (ej ▸ st) fun s1 mv => ?_))
    have at1 := mv.heap S _ outw at_S
    show wpAny _ A.in1 (updateSeq S (fun _ => #[]) >>= _) _ _ s1
    refine wpAny_bind ?_
    refine wpAny_updateSeq at1 rfl (wpAny_bind (wpAny_letGo (wpAny_pure ?_)))
    refine rr b0 _ (by rw [← ej]; exact pb) ((mv.mono sub).then_heap (tk := s1.toks) (Nat.le_refl _) fun b o z e => ?_)
    exact (Heap.get?_update_other _ _ (apart z)).trans e
  | succ k ih =>
    intro j s b0 c ek lj st pb at_S rr
    have lt : j + 1 < n := by omega
    refine codeAny_builtin PySem.F.entry_min_loop ?_
    rw [Around.under_plainId PySem.F.plain_min_loop _]
    show wpAny _ A.in1 (seqItems? (.ref S) >>= _) _ _ _
    refine wpAny_bind (wpAny_seqItems at_S rfl ?_)
    show wpAny _ A.in1 (tryCatch (pyNext (.ref I)) _ >>= _) _ _ _
    refine wpAny_bind (wpAny_tryCatch (Wk.item (j + 1) s _ _ lt st fun v s1 pv st1 mv => ?_))
    have at1 := mv.heap S _ outw at_S
    show wpAny _ A.in1 (tryCatch (holding [v, v] (richCompare .Lt v b0 >>= _)) _ >>= _) _ _ s1
    refine wpAny_bind (wpAny_tryCatch (wpAny_holding (wpAny_bind (cm (j + 1) (argBest bt j) v b0 _ _ _ pv pb ?_))))
    refine wpAny_bind (wpAny_holding (wpAny_truthy_bool ?_))
    refine wpAny_bind (wpAny_letGo (wpAny_pure ?_))
    cases eb : bt (j + 1) (argBest bt j) with
    | true =>
      simp only [if_true]
      refine wpAny_bind ?_
      refine wpAny_updateSeq at1 rfl (wpAny_bind (wpAny_letGo ?_))
      rw [nm]
      refine wpAny_pure ⟨plainId_quiet PySem.F.plain_min_loop _, ih (j + 1) _ v _ (by omega) lt (Wk.frame _ s1 _ s1.toks st1 (Nat.le_refl _) fun b z o e => ?_) (by simp only [argBest, eb, if_true]; exact pv) (Heap.get?_update_self _ at1 rfl) fun v2 s2 p2 m2 => ?_⟩
      · exact (Heap.get?_update_other _ _ (fun y : S = b => out (by rw [y]; exact z))).trans e
      · refine rr v2 s2 p2 (Moved.trans Wk.gtrans ((mv.mono sub).then_heap (by first | exact Nat.le_refl _ | exact Nat.le_succ _ | omega) fun b o z e => ?_) m2)
        exact (Heap.get?_update_other _ _ (apart z)).trans e
    | false =>
      simp only [Bool.false_eq_true, if_false]
      refine wpAny_bind (wpAny_letGo ?_)
      rw [nm]
      refine wpAny_pure ⟨plainId_quiet PySem.F.plain_min_loop _, ih (j + 1) _ b0 c (by omega) lt st1 (by simp only [argBest, eb, Bool.false_eq_true, if_false]; exact pb) at1 fun v2 s2 p2 m2 => ?_⟩
      exact rr v2 s2 p2 (Moved.trans Wk.gtrans (mv.mono sub) m2)
theorem min_starts (Wk : WalksS prog w A.in1 I fp wr G n P St) (bt : Nat → Nat → Bool) (cm : CmpOf prog w A.in1 .Lt P bt) (S : Addr) (out : S ∉ fp) (kx : Str) (dv : Value) {s : Shared} {c : Nat} (st : St 0 s)
    (at_S : s.heap.get? S = some { cls := .type "list", dict := none, data := .seq #[] c, slots := #[] })
    (r0 : n = 0 → ∀ s2, Moved (S :: wr) G s s2 → R (.ok (.ret dv)) s2)
    (rr : 0 < n → ∀ v s2, P (argBest bt (n - 1)) v → Moved (S :: wr) G s s2 → R (.ok (.ret v)) s2) : codeAny (model prog w) A (.builtin "min.loop" ⟨[.ref I, .none, .ref S], [(kx, dv)]⟩) R s := by
  have outw : S ∉ wr := fun z => out (Wk.sub _ z)
  have sub : ∀ b ∈ wr, b ∈ S :: wr := fun b z => List.mem_cons_of_mem _ z
  have nm : (toString "min" ++ toString ".loop" : String) = "min.loop" := by decide
  have apart : ∀ {b : Addr}, b ∉ S :: wr → S ≠ b := fun z y => z (by rw [y]; exact List.mem_cons_self)
  refine codeAny_builtin PySem.F.entry_min_loop ?_
  rw [Around.under_plainId PySem.F.plain_min_loop _]
  show wpAny _ A.in1 (seqItems? (.ref S) >>= _) _ _ _
  refine wpAny_bind (wpAny_seqItems at_S rfl ?_)
  show wpAny _ A.in1 (tryCatch (pyNext (.ref I)) _ >>= _) _ _ _
  by_cases c0 : n = 0
  · refine wpAny_bind (wpAny_tryCatch (Wk.done s _ _ (by rw [c0]; exact st) fun s1 mv => ?_))
    refine wpAny_bind (wpAny_rule ?_)
    exact wpAny_pure (r0 c0 _ (mv.mono sub))
  · have np : 0 < n := by omega
    refine wpAny_bind (wpAny_tryCatch (Wk.item 0 s _ _ np st fun v s1 pv st1 mv => ?_))
    have at1 := mv.heap S _ outw at_S
    show wpAny _ A.in1 (updateSeq S (fun _ => #[v, v]) >>= _) _ _ s1
    refine wpAny_bind ?_
    refine wpAny_updateSeq at1 rfl ?_
    rw [nm]
    refine wpAny_pure ⟨plainId_quiet PySem.F.plain_min_loop _, min_goes Wk bt cm S out _ _ 0 _ v _ rfl np (Wk.frame _ s1 _ s1.toks st1 (Nat.le_refl _) fun b z o e => ?_) pv (Heap.get?_update_self _ at1 rfl) fun v2 s2 p2 m2 => ?_⟩
    · exact (Heap.get?_update_other _ _ (fun y : S = b => out (by rw [y]; exact z))).trans e
    · refine rr np v2 s2 p2 (Moved.trans Wk.gtrans ((mv.mono sub).then_heap (by first | exact Nat.le_refl _ | exact Nat.le_succ _ | omega) fun b o z e => ?_) m2)
      exact (Heap.get?_update_other _ _ (apart z)).trans e
end
theorem moved_eq {wr : List Addr} {s s2 : Shared} (h : Moved wr (fun a b => b = a) s s2) : s2 = { s with heap := s2.heap, toks := s2.toks } := by
  obtain ⟨hp, g, d, tk, os⟩ := s
  obtain ⟨hp2, g2, d2, tk2, os2⟩ := s2
  obtain ⟨_, a, b, c, _⟩ := h
  cases a
  cases b
  cases c
  rfl
section
variable {prog : Program} {w : World} {A : Around} {E : Value → Shared → Prop} {s : Shared}

theorem max_args (a v : Value) : argsOk "max" ⟨[a], [(Str.ofString "default", v)]⟩ := by
  unfold argsOk
  kernel_rfl
theorem max_dflt {its : List Value} {ns : List Int} {l : Addr} {dv : Value} {Q : Value → Shared → Prop} (hh : A.handled = none) (hl : s.heap.IsList l its.toArray) (hi : IntsAre its ns)
    (h0 : ns = [] → ∀ h' tk, (∀ b o, s.heap.get? b = some o → h'.get? b = some o) → Q dv { s with heap := h', toks := tk })
    (h : ∀ h' tk M t', (∀ b o, s.heap.get? b = some o → h'.get? b = some o) → M ∈ ns → (∀ a, a ∈ ns → a ≤ M) → Q (.int M t') { s with heap := h', toks := tk }) :
    wpAny (model prog w) A (call (.builtin "max") [.ref l] [(Str.ofString "default", dv)]) Q E s := by
  obtain ⟨xs, e⟩ := hi.allInts.items
  have hn : numsOf (intItems xs).toList = ns := by rw [← e]; exact hi.numsOf
  rw [nums_intItems] at hn
  subst hn
  rw [e] at hl
  have nm : (toString "max" ++ toString ".loop" : String) = "max.loop" := by decide
  refine kmk_tree PySem.F.kind_max PySem.F.plain_max PySem.F.entry_max (max_args _ _) ?_
  show wpAny _ A.in1 (Builtin.Builtins.bindParams "max" ["key", "default"] 0 ⟨[], [(Str.ofString "default", dv)]⟩ >>= _) _ _ s
  refine wpAny_bind (wpAny_of_eq (show Builtin.Builtins.bindParams "max" ["key", "default"] 0 ⟨[], [(Str.ofString "default", dv)]⟩ = pure [none, some dv] from rfl) ?_)
  refine wpAny_bind (wpAny_pure ?_)
  refine wpAny_bind (iter_intList hl fun s2 es st hfp hlI => ?_)
  subst es
  refine wpAny_bind (wpAny_newObj_type ?_)
  rw [nm]
  have Wk := (Walks.list (prog := prog) (w := w) (A := A.in1) hh s.heap.objs.size l hlI (intItems xs)).toS
  refine wpAny_pure ⟨plainId_quiet PySem.F.plain_max_loop _, max_starts Wk _ (CmpOf.ints_gt (numAt xs) (fun _ _ => intItems_at)) _ ?_ _ dv (Wk.frame 0 _ _ _ st (Nat.le_refl _) fun b _ o z => Heap.get?_push_of_some _ z) (Heap.get?_push_size _ rfl) (fun z s2 mv => ?_) (fun z v s2 pv mv => ?_)⟩
  · exact fun z => Nat.lt_irrefl _ (hfp _ z)
  · have m2 := Moved.drop_new (tk := s.toks) mv (Nat.le_refl _)
    have hz : xs.toList = [] := by
      have : xs.size = 0 := by simpa [intItems] using z
      exact List.eq_nil_of_length_eq_zero (by rw [Array.length_toList]; exact this)
    show Q dv s2
    rw [moved_eq m2]
    exact h0 (by rw [hz]; rfl) _ _ (old_kept m2.heap)
  · have m2 := Moved.drop_new (tk := s.toks) mv (Nat.le_refl _)
    have hsz : 0 < xs.size := by simpa [intItems] using z
    have pv2 : (intItems xs)[argBest (fun i j => decide (numAt xs i > numAt xs j)) ((intItems xs).size - 1)]? = some v := pv
    obtain ⟨t, rfl⟩ := intItems_at pv2
    have esz : (intItems xs).size = xs.size := by simp [intItems]
    obtain ⟨h1, h2⟩ := argBest_gt (numAt xs) ((intItems xs).size - 1)
    rw [esz] at h1 h2
    show Q (.int _ t) s2
    rw [moved_eq m2, esz]
    refine h _ _ _ t (old_kept m2.heap) ?_ fun a ha => ?_
    · rw [numAt_eq]
      exact PySem.getD_mem (by rw [List.length_map, Array.length_toList]; omega)
    · obtain ⟨j, hj, rfl⟩ := mem_getD ha
      rw [List.length_map, Array.length_toList] at hj
      rw [← numAt_eq]
      exact h2 j (by omega)

theorem min_args (a v : Value) : argsOk "min" ⟨[a], [(Str.ofString "default", v)]⟩ := by
  unfold argsOk
  kernel_rfl
theorem min_dflt {its : List Value} {ns : List Int} {l : Addr} {dv : Value} {Q : Value → Shared → Prop} (hh : A.handled = none) (hl : s.heap.IsList l its.toArray) (hi : IntsAre its ns)
    (h0 : ns = [] → ∀ h' tk, (∀ b o, s.heap.get? b = some o → h'.get? b = some o) → Q dv { s with heap := h', toks := tk })
    (h : ∀ h' tk M t', (∀ b o, s.heap.get? b = some o → h'.get? b = some o) → M ∈ ns → (∀ a, a ∈ ns → M ≤ a) → Q (.int M t') { s with heap := h', toks := tk }) :
    wpAny (model prog w) A (call (.builtin "min") [.ref l] [(Str.ofString "default", dv)]) Q E s := by
  obtain ⟨xs, e⟩ := hi.allInts.items
  have hn : numsOf (intItems xs).toList = ns := by rw [← e]; exact hi.numsOf
  rw [nums_intItems] at hn
  subst hn
  rw [e] at hl
  have nm : (toString "min" ++ toString ".loop" : String) = "min.loop" := by decide
  refine kmk_tree PySem.F.kind_min PySem.F.plain_min PySem.F.entry_min (min_args _ _) ?_
  show wpAny _ A.in1 (Builtin.Builtins.bindParams "min" ["key", "default"] 0 ⟨[], [(Str.ofString "default", dv)]⟩ >>= _) _ _ s
  refine wpAny_bind (wpAny_of_eq (show Builtin.Builtins.bindParams "min" ["key", "default"] 0 ⟨[], [(Str.ofString "default", dv)]⟩ = pure [none, some dv] from rfl) ?_)
  refine wpAny_bind (wpAny_pure ?_)
  refine wpAny_bind (iter_intList hl fun s2 es st hfp hlI => ?_)
  subst es
  refine wpAny_bind (wpAny_newObj_type ?_)
  rw [nm]
  have Wk := (Walks.list (prog := prog) (w := w) (A := A.in1) hh s.heap.objs.size l hlI (intItems xs)).toS
  refine wpAny_pure ⟨plainId_quiet PySem.F.plain_min_loop _, min_starts Wk _ (CmpOf.ints_lt (numAt xs) (fun _ _ => intItems_at)) _ ?_ _ dv (Wk.frame 0 _ _ _ st (Nat.le_refl _) fun b _ o z => Heap.get?_push_of_some _ z) (Heap.get?_push_size _ rfl) (fun z s2 mv => ?_) (fun z v s2 pv mv => ?_)⟩
  · exact fun z => Nat.lt_irrefl _ (hfp _ z)
  · have m2 := Moved.drop_new (tk := s.toks) mv (Nat.le_refl _)
    have hz : xs.toList = [] := by
      have : xs.size = 0 := by simpa [intItems] using z
      exact List.eq_nil_of_length_eq_zero (by rw [Array.length_toList]; exact this)
    show Q dv s2
    rw [moved_eq m2]
    exact h0 (by rw [hz]; rfl) _ _ (old_kept m2.heap)
  · have m2 := Moved.drop_new (tk := s.toks) mv (Nat.le_refl _)
    have hsz : 0 < xs.size := by simpa [intItems] using z
    have pv2 : (intItems xs)[argBest (fun i j => decide (numAt xs i < numAt xs j)) ((intItems xs).size - 1)]? = some v := pv
    obtain ⟨t, rfl⟩ := intItems_at pv2
    have esz : (intItems xs).size = xs.size := by simp [intItems]
    obtain ⟨h1, h2⟩ := argBest_lt (numAt xs) ((intItems xs).size - 1)
    rw [esz] at h1 h2
    show Q (.int _ t) s2
    rw [moved_eq m2, esz]
    refine h _ _ _ t (old_kept m2.heap) ?_ fun a ha => ?_
    · rw [numAt_eq]
      exact PySem.getD_mem (by rw [List.length_map, Array.length_toList]; omega)
    · obtain ⟨j, hj, rfl⟩ := mem_getD ha
      rw [List.length_map, Array.length_toList] at hj
      rw [← numAt_eq]
      exact h2 j (by omega)
end
section
variable {X : Cx}
def rMaxDf (K : PySem.W.Frag) : List V → List V → Hp → VK → Prop := fun vs zs H Q => ∃ (a : Addr) (ns : List Int) (d : V), vs = [V.ref a] ∧ zs = [d] ∧ SqL K H a (ns.map V.int) ∧ (ns = [] → Q d H) ∧ ∀ m, m ∈ ns → (∀ y, y ∈ ns → y ≤ m) → Q (.int m) H
def rMinDf (K : PySem.W.Frag) : List V → List V → Hp → VK → Prop := fun vs zs H Q => ∃ (a : Addr) (ns : List Int) (d : V), vs = [V.ref a] ∧ zs = [d] ∧ SqL K H a (ns.map V.int) ∧ (ns = [] → Q d H) ∧ ∀ m, m ∈ ns → (∀ y, y ∈ ns → m ≤ y) → Q (.int m) H
theorem cr_maxDf (calm : X.calm = true) : CallRK X (.builtin "max") ["default"] (rMaxDf X.K) := by
  intro pins s σ H xs zs us ws Q I rx rz h
  obtain ⟨a, ns, d, rfl, rfl, at_a, q0, q1⟩ := h
  obtain ⟨its, rv, hl, _⟩ := I.list at_a
  obtain ⟨u, rfl, ru⟩ := rz.one
  rw [Vals.ref1 rx]
  exact max_dflt (I.ok.hd calm) hl.isList rv.ints (fun z h' tk hk => ⟨d, H, I.kept hk, ru, q0 z⟩) fun h' tk m t' hk h1 h2 => ⟨.int m, H, I.kept hk, ⟨_, rfl⟩, q1 m h1 h2⟩
theorem cr_minDf (calm : X.calm = true) : CallRK X (.builtin "min") ["default"] (rMinDf X.K) := by
  intro pins s σ H xs zs us ws Q I rx rz h
  obtain ⟨a, ns, d, rfl, rfl, at_a, q0, q1⟩ := h
  obtain ⟨its, rv, hl, _⟩ := I.list at_a
  obtain ⟨u, rfl, ru⟩ := rz.one
  rw [Vals.ref1 rx]
  exact min_dflt (I.ok.hd calm) hl.isList rv.ints (fun z h' tk hk => ⟨d, H, I.kept hk, ru, q0 z⟩) fun h' tk m t' hk h1 h2 => ⟨.int m, H, I.kept hk, ⟨_, rfl⟩, q1 m h1 h2⟩
end
end TB

set_option Elab.async false
set_option linter.all false
set_option maxRecDepth 100000
set_option maxHeartbeats 2000000
namespace TB
open PySem PySem.Spec PyProof.Rows L2 PySem.AutoSeq1

/-! ### a list made longer by a tuple's things -/
set_option maxRecDepth 8000 in
theorem ext_tup (l t : Addr) (xs ys : Array Value) (n m : Nat) (dd : Option Addr) (sl : Array (Option Value)) (c0 : ¬(!xs.isEmpty && Builtin.List.listTooLong (xs.size + ys.size)) = true) (c1 : xs.size ≤ sizeLine) (c2 : xs.size + ys.size ≤ sizeLine + 1) :
    Meets (Builtin.«list.extend» ⟨[.ref l, .ref t], []⟩) (fun _ R s => s.heap.get? l = some { cls := .type "list", dict := none, data := .seq xs n, slots := #[] } ∧ s.heap.get? t = some { cls := .type "tuple", dict := dd, data := .seq ys m, slots := sl } ∧ R (.ok (.ret Value.none)) { s with heap := s.heap.update l (Obj.mapSeq fun x => x ++ ys), toks := s.toks }) :=
  .of_wp fun prog w A R s h => by
    obtain ⟨hp, g, d, tk, os⟩ := s
    obtain ⟨a1, a2, h⟩ := h
    have f1 := idx_int
    have f2 := AutoSeq1.sub_tuple_tuple
    have f3 := AutoSeq1.sub_list_list
    have f4 := AutoSeq1.sub_tuple_list
    have f5 := AutoSeq1.sub_list_tuple
    have z' : (xs ++ ys).size ≤ sizeLine + 1 := by rw [Array.size_append]; exact c2
    wp_walk using (wpAny_updateSeq a1 rfl (hz := c1) (_hz' := z')), wpAny_loadPart' a1, wpAny_loadPart' a2
    exact ⟨_, rfl, h⟩
section
variable {X : Cx}
def rExtT (K : PySem.W.Frag) : V → List V → Hp → VK → Prop := fun x vs H Q => ∃ l t xs zs, x = .ref l ∧ vs = [.ref t] ∧ H l = some (.lst xs) ∧ SqT K H t zs ∧ xs.length + zs.length ≤ sizeLine ∧ Q .non (upd H l (.lst (xs ++ zs)))
theorem mt_extendT : MtM X "list.extend" (rExtT X.K) := by
  intro pins s σ H x vs v us Q I rx rv h
  obtain ⟨l, t, xs, zs, rfl, rfl, hH, hB, hz, q⟩ := h
  cases rx
  obtain ⟨u, rfl, ru⟩ := rv.one
  cases ru
  obtain ⟨z, its, n, r, hl, e⟩ := I.lstM hH
  obtain ⟨its2, r2, ⟨o2, e2, k2, n2, d2⟩, z2⟩ := I.tuple hB
  obtain ⟨oc, od, oda, osl⟩ := o2
  cases k2
  cases d2
  have l2 := r2.length
  have fits : its.toArray.size + its2.toArray.size ≤ sizeLine := by
    rw [List.size_toArray, List.size_toArray]
    omega
  have short : ¬ (!its.toArray.isEmpty && Builtin.List.listTooLong (its.toArray.size + its2.toArray.size)) = true := fun y => by
    rw [notLongL fits, Bool.and_false] at y
    cases y
  refine call_meets F.slot_list_extend ⟨_, e, rfl⟩ F.entry_list_extend (F.args_list_extend_2 _ _) (ext_tup l t its.toArray its2.toArray n n2 _ _ short (by rw [List.size_toArray]; omega) (by omega)) ⟨e, e2, ?_⟩
  refine ⟨.non, _, I.lset (its' := its ++ its2) hH e (by simp) (r.append r2) ?_, rfl, q⟩
  rw [List.length_append]
  omega
end
end TB

set_option Elab.async false
set_option linter.all false
set_option maxRecDepth 100000
/-! The value layer: in; subscripts, slices; built-in functions; methods of lists. -/
namespace VL
open PySem PySem.Spec PyProof.Rows L2 TB

/-- what a list or a tuple holds -/
@[simp] def seqOf (st : AS) (d : D) : Option (List D) := match d with
  | .tup ds => some ds
  | .ctp ds => some ds
  | _ => listOf st d
section
variable {K : PySem.W.Frag} {mg : MG} {E : XK} {β : Bt} {H : Hp} {st : AS} {Q : VK}
theorem Sim.seqs (S : Sim K mg β st H) {d : D} {u : V} {ds : List D} (r : Rep K H β d u) (h : seqOf st d = some ds) : ∃ a us, u = .ref a ∧ (SqL K H a us ∨ SqT K H a us) ∧ Reps K H β ds us := by
  cases r with
  | tup n e q =>
    cases h
    exact ⟨_, _, rfl, .inr (.inl (.inl e)), q⟩
  | ctp e q =>
    cases h
    exact ⟨_, _, rfl, .inr e.sq, q⟩
  | non => cases h
  | bl b => cases h
  | int b => cases h
  | str b => cases h
  | cv => cases h
  | lst n e q =>
    obtain ⟨a, us, e1, e2, e3⟩ := S.lists (.lst n e q) h
    exact ⟨a, us, e1, .inl e2, e3⟩
  | fzl e q =>
    obtain ⟨a, us, e1, e2, e3⟩ := S.lists (.fzl e q) h
    exact ⟨a, us, e1, .inl e2, e3⟩
  | ref e =>
    obtain ⟨a, us, e1, e2, e3⟩ := S.lists (.ref e) h
    exact ⟨a, us, e1, .inl e2, e3⟩
theorem Rep.flat {d : D} {u : V} (r : Rep K H β d u) (h : scalD d = true) : flatV u = true := by
  cases r <;> first | rfl | cases h
theorem Rep.eqV {x y : D} {u v : V} (rx : Rep K H β x u) (ry : Rep K H β y v) (hx : scalD x = true) (hy : scalD y = true) : eqV u v = eqvD x y := by
  cases rx <;> first | (cases hx; done) | (cases ry <;> first | (cases hy; done) | simp [L2.eqV, eqvD, D.py, PyData.eqv])
theorem Reps.flat : ∀ {ds : List D} {us : List V}, Reps K H β ds us → ds.all scalD = true → us.all flatV = true
  | _, _, .nil, _ => rfl
  | _, _, .cons r t, h => by
    rw [List.all_cons, Bool.and_eq_true] at h
    rw [List.all_cons, r.flat h.1, t.flat h.2]
    rfl
theorem Reps.inV {x : D} {u : V} (rx : Rep K H β x u) (hx : scalD x = true) : ∀ {ds : List D} {us : List V}, Reps K H β ds us → ds.all scalD = true → L2.inV u us = ds.any fun d => eqvD d x
  | _, _, .nil, _ => rfl
  | _, _, .cons r t, h => by
    rw [List.all_cons, Bool.and_eq_true] at h
    have := Reps.inV rx hx t h.2
    unfold L2.inV at this ⊢
    rw [List.any_cons, List.any_cons, this, r.eqV rx h.1 hx]
end
def inD (neg : Bool) (x y : D) (st : AS) : Out D := match seqOf st y with
  | some ds => if (scalD x && ds.all scalD) = true then .ok (.bl (xor neg (ds.any fun d => eqvD d x))) st
    else if ((valD st x).fit && (D.lst ds).fit && (listOf st y).isSome && (valD st y).pure) = true then .ok (.bl (xor neg (ds.any fun d => eqvD d (valD st x)))) st else .bad
  | none => match y with
    | .ref i => (match st[i]? with
      | some (.dct kvs) => (match x with
        | .int k => .ok (.bl (xor neg (kvs.any fun kv => decide (kv.1 = Sum.inl k)))) st
        | .str k => .ok (.bl (xor neg (kvs.any fun kv => decide (kv.1 = Sum.inr k)))) st
        | _ => .bad)
      | some (.lck kvs) => (match x with
        | .int k => .ok (.bl (xor neg (kvs.any fun kv => decide (kv.1 = Sum.inl k)))) st
        | .str k => .ok (.bl (xor neg (kvs.any fun kv => decide (kv.1 = Sum.inr k)))) st
        | _ => .bad)
      | _ => .bad)
    | _ => .bad
theorem any_py (x : D) : ∀ ds : List D, ((D.pys ds).any fun z => PyData.eqv z x.py) = ds.any fun d => eqvD d x
  | [] => rfl
  | d :: ds => by rw [D.pys, List.any_cons, List.any_cons, any_py x ds]; rfl
theorem vals_lookup {κ : Type} [DecidableEq κ] {K : PySem.W.Frag} {H : Hp} {β : Bt} (k : κ) : ∀ {kvs : List (κ × D)} {us : List (κ × V)}, RepK K H β kvs us →
    (∀ d, (kvs.find? fun kv => decide (kv.1 = k)).map (·.2) = some d → ∃ u, valV us k = some u ∧ Rep K H β d u) ∧ ((kvs.find? fun kv => decide (kv.1 = k)) = none → valV us k = none)
  | [], us, h => by
    have : us = [] := by
      have h1 := congrArg List.length h.1
      simp only [List.map_nil, List.length_nil, List.length_map] at h1
      exact List.length_eq_zero_iff.mp h1.symm
    subst this
    exact And.intro (fun d e => nomatch e) (fun _ => rfl)
  | kv :: kvs, us, h => by
    cases us with
    | nil => exact absurd (congrArg List.length h.1) (by simp)
    | cons w us =>
      obtain ⟨h1, h2⟩ := h
      simp only [List.map_cons, List.cons.injEq] at h1
      cases h2 with
      | cons r t =>
        have ih := vals_lookup k (kvs := kvs) (us := us) ⟨h1.2, t⟩
        by_cases e : kv.1 = k
        · refine ⟨fun d q => ?_, fun q => ?_⟩
          · rw [List.find?_cons_of_pos (by simpa using e)] at q
            cases q
            exact ⟨w.2, valV_pos (h1.1 ▸ e), r⟩
          · rw [List.find?_cons_of_pos (by simpa using e)] at q
            cases q
        · have e' : ¬ w.1 = k := fun z => e (h1.1.trans z)
          refine ⟨fun d q => ?_, fun q => ?_⟩
          · rw [List.find?_cons_of_neg (by simpa using e)] at q
            rw [valV_neg e']
            exact ih.1 d q
          · rw [List.find?_cons_of_neg (by simpa using e)] at q
            rw [valV_neg e']
            exact ih.2 q
theorem RepK.any {κ : Type} [DecidableEq κ] {K : PySem.W.Frag} {H : Hp} {β : Bt} {kvs : List (κ × D)} {us : List (κ × V)} (h : RepK K H β kvs us) (k : κ) : (valV us k).isSome = kvs.any fun kv => decide (kv.1 = k) := by
  obtain ⟨h1, h2⟩ := vals_lookup k h
  cases e : kvs.find? fun kv => decide (kv.1 = k) with
  | none =>
    rw [h2 e]
    have : (kvs.any fun kv => decide (kv.1 = k)) = false := by
      rw [List.find?_eq_none] at e
      rw [List.any_eq_false]
      exact e
    rw [this]
    rfl
  | some kv =>
    obtain ⟨u, e1, _⟩ := h1 kv.2 (by rw [e]; rfl)
    rw [e1]
    have m := List.mem_of_find?_eq_some e
    have p := List.find?_some e
    exact (List.any_eq_true.mpr ⟨kv, m, p⟩).symm
section
variable {X : Cx} {E : XK} {a b c : Expr} {fa fb fc : En → AS → Out D} {pos : Pos}
def rDIn (neg : Bool) : R2 := fun x y H Q => ∃ a o, y = .ref a ∧ DGet H a x o ∧ Q (.bl (xor neg o.isSome)) H
theorem op_dIn (hu : X.A.units + 1 < cLine) : OpR X (compareOp .In) (rDIn false) := by
  intro pins s σ H x y v u Q I rx ry h
  obtain ⟨a, o, rfl, g, q⟩ := h
  cases ry
  exact d_in hu I g rx fun s' I' => ⟨.bl _, H, I', rfl, by simpa using q⟩
theorem op_dNotIn (hu : X.A.units + 1 < cLine) : OpR X (compareOp .NotIn) (rDIn true) := by
  intro pins s σ H x y v u Q I rx ry h
  obtain ⟨a, o, rfl, g, q⟩ := h
  cases ry
  exact d_notIn hu I g rx fun s' I' => ⟨.bl _, H, I', rfl, by simpa using q⟩
theorem in_ok {K : PySem.W.Frag} {mg : MG} {β : Bt} {H : Hp} {st : AS} {Q : VK} {x y : D} {u v : V} {neg : Bool} (S : Sim K mg β st H) (rx : Rep K H β x u) (ry : Rep K H β y v) (h : Post K mg (rD K) E β H Q (inD neg x y st)) :
    rIn K neg u v H Q ∨ (∃ d ds, Dp K H u d ∧ Dp K H v (.list ds) ∧ SeqAt.shaped d = true ∧ SeqAt.shaped (.list ds) = true ∧ Q (.bl (xor neg (ds.any fun z => PyData.eqv z d))) H) ∨ rDIn neg u v H Q := by
  unfold inD at h
  split at h
  · rename_i ds e
    split at h
    · rename_i ef
      rw [Bool.and_eq_true] at ef
      obtain ⟨p, us, rfl, hq, r⟩ := S.seqs ry e
      refine .inl ⟨p, us, rfl, hq, rx.flat ef.1, r.flat ef.2, ?_⟩
      rw [Reps.inV rx ef.1 r ef.2]
      have q := h.here S (.bl _)
      cases neg <;> simpa using q
    · obtain ⟨ef, h⟩ := h.ite
      simp only [Bool.and_eq_true] at ef
      obtain ⟨⟨⟨e1, e2⟩, e3⟩, e4⟩ := ef
      obtain ⟨d1, s1⟩ := fit_dp S rx e1
      obtain ⟨ds', e5⟩ := Option.isSome_iff_exists.mp e3
      have e6 : ds' = ds := by
        cases y with
        | tup _ => cases e3
        | ctp _ => cases e3
        | _ => exact Option.some.inj (e5.symm.trans e)
      subst e6
      have v1 : valD st y = .lst ds' := by
        cases y with
        | lst ds =>
          cases e5
          rfl
        | fzl ds =>
          unfold valD at e4
          simp only [D.pure] at e4
          cases e4
        | ref i =>
          unfold listOf at e5
          unfold valD
          dsimp only at e5 ⊢
          split at e5
          · rename_i z
            cases e5
            first
              | rw [z]
              | rfl
          · cases e5
        | _ => cases e5
      have d2 := S.dp ry e4
      rw [v1] at d2
      rw [D.py] at d2
      refine .inr (.inl ⟨_, _, d1, d2, s1, ?_, ?_⟩)
      · unfold D.fit at e2
        rw [Bool.and_eq_true, D.py] at e2
        exact e2.2
      · rw [any_py]
        exact h.here S (.bl _)
  · cases ry with
    | ref er =>
      rename_i i p en
      dsimp only at h
      split at h
      · rename_i kvs ec
        obtain ⟨us, eu, r⟩ := S.cell i p _ er ec
        cases rx with
        | int k => exact .inr (.inr ⟨p, _, rfl, DGet.k (k := .inl k) eu, by rw [r.any]; exact h.here S (.bl _)⟩)
        | str k => exact .inr (.inr ⟨p, _, rfl, DGet.k (k := .inr k) eu, by rw [r.any]; exact h.here S (.bl _)⟩)
        | _ => exact h.elim
      · rename_i kvs ec
        obtain ⟨z, us, eu, r⟩ := S.cell i p _ er ec
        cases rx with
        | int k => exact .inr (.inr ⟨p, _, rfl, .inl ⟨us, .inl k, .inr ⟨z, eu⟩, rfl, rfl⟩, by rw [r.any]; exact h.here S (.bl _)⟩)
        | str k => exact .inr (.inr ⟨p, _, rfl, .inl ⟨us, .inr k, .inr ⟨z, eu⟩, rfl, rfl⟩, by rw [r.any]; exact h.here S (.bl _)⟩)
        | _ => exact h.elim
      · exact h.elim
    | _ => exact h.elim
theorem oc_in (hu : X.A.units + 65 < cLine) : OkC X E .In (inD false) := ⟨_, op_in_seq.or ((op_inD hu).or (op_dIn (Nat.lt_of_le_of_lt (by omega) hu))), fun β H st x y u v Q S rx ry h => by
  rcases in_ok S rx ry h with q | ⟨d, ds, h1, h2, h3, h4, q⟩ | q
  · exact .inl q
  · exact .inr (.inl ⟨d, ds, h1, h2, h3, h4, by simpa using q⟩)
  · exact .inr (.inr q)⟩
theorem oc_notin (hu : X.A.units + 65 < cLine) : OkC X E .NotIn (inD true) := ⟨_, op_notIn_seq.or ((op_notInD hu).or (op_dNotIn (Nat.lt_of_le_of_lt (by omega) hu))), fun β H st x y u v Q S rx ry h => by
  rcases in_ok S rx ry h with q | ⟨d, ds, h1, h2, h3, h4, q⟩ | q
  · exact .inl q
  · exact .inr (.inl ⟨d, ds, h1, h2, h3, h4, by simpa using q⟩)
  · exact .inr (.inr q)⟩

/-! ### subscripts -/
theorem Reps.atI {K : PySem.W.Frag} {H : Hp} {β : Bt} {ds : List D} {us : List V} {i : Int} {d : D} (r : Reps K H β ds us) (h : atI ds i = some d) : ∃ u, L2.atI us i = some u ∧ Rep K H β d u := by
  unfold L2.atI at h ⊢
  rw [r.length]
  cases e : ixN ds.length i with
  | none => rw [e] at h; cases h
  | some j =>
    rw [e] at h
    exact r.get h
@[simp] def valK {κ : Type} [DecidableEq κ] (kvs : List (κ × D)) (k : κ) : Option D := (kvs.find? fun kv => decide (kv.1 = k)).map (·.2)
/-- the key that a value is -/
@[simp] def keyD : D → Option Key
  | .int i => some (.inl i)
  | .str x => some (.inr x)
  | _ => none
@[simp] def keysD : List D → Option (List Key)
  | [] => some []
  | d :: ds => match keyD d, keysD ds with
    | some k, some ks => some (k :: ks)
    | _, _ => none
@[simp] def toOut {α : Type} (o : Option α) (st : AS) : Out α := match o with
  | some a => .ok a st
  | none => .bad
@[simp] def ixD (x y : D) (st : AS) : Out D := match seqOf st x with
  | some ds => (match y with
    | .int i => toOut (atI ds i) st
    | _ => .bad)
  | none => match x with
    | .str z => (match y with
      | .int i => if z.length ≤ sizeLine then toOut ((atI z.cps.toList i).map fun c => .str ⟨#[c]⟩) st else .bad
      | _ => .bad)
    | .ref i => (match st[i]? with
      | some (.dct kvs) => (match keyD y with
        | some k => toOut (valK kvs k) st
        | none => .bad)
      | some (.dtt kvs) => (match y with
        | .tup ks => (match keysD ks with
          | some k => toOut (valK kvs k) st
          | none => .bad)
        | _ => .bad)
      | some (.lck kvs) => (match keyD y with
        | some k => toOut (valK kvs k) st
        | none => .bad)
      | _ => .bad)
    | _ => .bad
theorem Post.opt {K : PySem.W.Frag} {mg : MG} {α ρ : Type} {R : Hp → Bt → α → ρ → Prop} {β : Bt} {H : Hp} {Q : ρ → Hp → Prop} {o : Option α} {st : AS} (h : Post K mg R E β H Q (toOut o st)) : ∃ d, o = some d ∧ Post K mg R E β H Q (.ok d st) := by
  cases o with
  | none => exact h.elim
  | some d => exact ⟨d, rfl, h⟩
theorem Rep.key {K : PySem.W.Frag} {H : Hp} {β : Bt} {d : D} {u : V} {k : Key} (r : Rep K H β d u) (h : keyD d = some k) : u = kV k := by
  cases r <;> first | (cases h; done) | (cases h; rfl)
theorem Reps.keys {K : PySem.W.Frag} {H : Hp} {β : Bt} : ∀ {ds : List D} {us : List V} {ks : List Key}, Reps K H β ds us → keysD ds = some ks → us = ks.map kV
  | _, _, _, .nil, h => by
    cases h
    rfl
  | _, _, ks, .cons r t, h => by
    rw [keysD] at h
    split at h
    · rename_i k ks' e1 e2
      cases h
      rw [r.key e1, Reps.keys t e2]
      rfl
    · cases h
theorem orE {e : Expr} {t t' : TE} (h : PE X e t) (h' : PE X e t') : PE X e (fun σ H Q => t σ H Q ∨ t' σ H Q) := ⟨fun pins s σ H Q I q => q.elim (h.run pins s σ H Q I) (h'.run pins s σ H Q I)⟩
def rDIx : R2 := fun x y H Q => ∃ a v, x = .ref a ∧ DGet H a y (some v) ∧ Q v H
theorem valK_ok {κ : Type} [DecidableEq κ] {K : PySem.W.Frag} {H : Hp} {β : Bt} {kvs : List (κ × D)} {us : List (κ × V)} {k : κ} {d : D} (r : RepK K H β kvs us) (h : valK kvs k = some d) : ∃ u, valV us k = some u ∧ Rep K H β d u := (vals_lookup k r).1 d h
theorem ix_ok {K : PySem.W.Frag} {mg : MG} {β : Bt} {H : Hp} {st : AS} {Q : VK} {x y : D} {u v : V} (S : Sim K mg β st H) (rx : Rep K H β x u) (ry : Rep K H β y v) (h : Post K mg (rD K) E β H Q (ixD x y st)) : rIx K u v H Q ∨ rDIx u v H Q := by
  unfold ixD at h
  split at h
  · rename_i ds e
    obtain ⟨p, us, rfl, hq, r⟩ := S.seqs rx e
    cases ry with
    | int i =>
      obtain ⟨d, ed, h⟩ := h.opt
      obtain ⟨w, ew, rw'⟩ := r.atI ed
      rcases hq with hq | hq
      · exact .inl (.inl ⟨p, us, i, w, rfl, rfl, hq, ew, h.here S rw'⟩)
      · exact .inl (.inr (.inl ⟨p, us, i, w, rfl, rfl, hq, ew, h.here S rw'⟩))
    | _ => exact h.elim
  · cases rx with
    | str z =>
      dsimp only at h
      cases ry with
      | int i =>
        obtain ⟨hl, h⟩ := h.ite
        obtain ⟨d, ed, h⟩ := h.opt
        cases e : atI z.cps.toList i with
        | none => rw [e] at ed; cases ed
        | some c =>
          rw [e] at ed
          cases ed
          exact .inl (.inr (.inr ⟨z, i, c, rfl, rfl, hl, e, h.here S (.str _)⟩))
      | _ => exact h.elim
    | ref er =>
      rename_i i p en
      dsimp only at h
      split at h
      · rename_i kvs ec
        obtain ⟨us, eu, r⟩ := S.cell i p _ er ec
        split at h
        · rename_i k ek
          obtain ⟨d, ed, h⟩ := h.opt
          obtain ⟨w, ew, rw'⟩ := valK_ok r ed
          rw [ry.key ek]
          exact .inr ⟨p, w, rfl, by rw [← ew]; exact DGet.k eu, h.here S rw'⟩
        · exact h.elim
      · rename_i kvs ec
        obtain ⟨us, eu, r⟩ := S.cell i p _ er ec
        cases ry with
        | tup n2 e2 r2 =>
          dsimp only at h
          split at h
          · rename_i k ek
            obtain ⟨d, ed, h⟩ := h.opt
            obtain ⟨w, ew, rw'⟩ := valK_ok r ed
            have z := r2.keys ek
            subst z
            exact .inr ⟨p, w, rfl, by rw [← ew]; exact DGet.t eu e2, h.here S rw'⟩
          · exact h.elim
        | _ => exact h.elim
      · rename_i kvs ec
        obtain ⟨z, us, eu, r⟩ := S.cell i p _ er ec
        split at h
        · rename_i k ek
          obtain ⟨d, ed, h⟩ := h.opt
          obtain ⟨w, ew, rw'⟩ := valK_ok r ed
          rw [ry.key ek]
          exact .inr ⟨p, w, rfl, .inl ⟨us, k, .inr ⟨z, eu⟩, rfl, ew.symm⟩, h.here S rw'⟩
        · exact h.elim
      · exact h.elim
    | _ => exact h.elim
theorem ix_dictR (hu : X.A.units + 1 < cLine) : IxR X rDIx := by
  intro va sl pins s σ H x y v u Q I rx ry h hsl
  obtain ⟨p, w', rfl, g, q⟩ := h
  obtain rfl : v = Value.ref p := rx
  have ty := dict_typeIs I g
  have item : wpAny (model X.prog X.w) X.A (getItem (.ref p) u) (EP X pins σ Q) X.xe s := d_getItem hu I g ry fun w2 s' I' r => ⟨w', H, I', r, q⟩
  have last : wpAny (model X.prog X.w) X.A (subscripted sl false (.ref p) u) (fun r t => wpAny (model X.prog X.w) X.A (letTemporaryGo va (.ref p) r >>= fun _ => pure r) (EP X pins σ Q) X.xe t) X.xe s := by
    rw [hsl]
    refine wpAny_operating (thn item ?_)
    intro r t ht
    exact wpAny_bind (wpAny_letTemporaryGo (wpAny_pure ht))
  unfold subscriptTail
  apply wpAny_bind
  rw [getitemInPython_of_ne ty.not_modules]
  apply wpAny_bind
  refine wpAny_specialOf ty PySem.F.slot_dict_getitem.lookup ?_
  first
    | exact wpAny_pure (wpAny_bind last)
    | exact wpAny_bind (wpAny_pure (wpAny_bind last))
    | exact wpAny_bind last
theorem ve_sub_ix (hu : X.A.units + 65 < cLine) (ha : VE X E a fa) (hb : VE X E b fb) (hs : PlainIx b) : VE X E (.Subscript a b pos) (v2 ixD fa fb) :=
  ve_ix (ix_seq.or (ix_dictR (Nat.lt_of_le_of_lt (by omega) hu))) (fun _ _ _ _ _ _ _ _ S rx ry h => ix_ok S rx ry h) ha hb hs

/-! ### slices -/
abbrev rO : Hp → Bt → Option Int → Option Int → Prop := fun _ _ a b => a = b
abbrev VO (X : Cx) (E : XK) (e : Option Expr) (f : En → AS → Out (Option Int)) : Prop := PO X e (tG X.K X.mgw rO E f)
@[simp] def vNoPart (_ : En) (st : AS) : Out (Option Int) := .ok none st
@[simp] def asI (d : D) (st : AS) : Out (Option Int) := match d with
  | .int i => .ok (some i) st
  | _ => .bad
theorem weakO {e : Option Expr} {t t' : TO} (h : PO X e t) (w : ∀ σ H Q, t' σ H Q → t σ H Q) : PO X e t' := ⟨fun pins s σ H Q I q => h.run pins s σ H Q I (w σ H Q q)⟩
theorem vo_none : VO X E none vNoPart := weakO po_none fun σ H Q ⟨β, env, st, he, hs, h⟩ => h.here hs rfl
theorem vo_some (ha : VE X E a fa) : VO X E (some a) (v1 asI fa) := weakO (po_some ha) fun σ H Q ⟨β, env, st, he, hs, h⟩ => by
  refine tG_bind he hs h fun x st1 β1 H1 u x1 s1 e1 r1 h1 => ?_
  cases r1 with
  | int i => exact ⟨i, rfl, h1.here s1 rfl⟩
  | _ => exact h1.elim
def cut {α : Type} (xs : List α) (lo hi : Option Int) : List α := (xs.drop (HT.sIx xs.length 0 lo)).take (HT.sIx xs.length xs.length hi - HT.sIx xs.length 0 lo)
theorem cut_whole {α : Type} {xs : List α} {lo hi : Option Int} (h1 : HT.sIx xs.length 0 lo = 0) (h2 : HT.sIx xs.length xs.length hi = xs.length) : VL.cut xs lo hi = xs := by
  unfold VL.cut
  rw [h1, h2, List.drop_zero, Nat.sub_zero, List.take_length]
@[simp] def slD (c : Bool) (x : D) (lo hi : Option Int) (st : AS) : Out D := match x with
  | .tup ds => .ok (.tup (cut ds lo hi)) st
  | .str z => if z.length ≤ sizeLine then .ok (.str (cutS z lo hi)) st else .bad
  | _ => match listOf st x with
    | some ds => mk c (cut ds lo hi) st
    | none => .bad
@[simp] def vSl (g : D → Option Int → Option Int → AS → Out D) (fa : En → AS → Out D) (fl fh : En → AS → Out (Option Int)) (env : En) (st : AS) : Out D := (fa env st).bind fun x st => (fl env st).bind fun l st => (fh env st).bind fun h st => g x l h st
theorem Reps.cut {K : PySem.W.Frag} {H : Hp} {β : Bt} {ds : List D} {us : List V} (r : Reps K H β ds us) (lo hi : Option Int) : Reps K H β (VL.cut ds lo hi) (cutV us lo hi) := by
  unfold VL.cut cutV
  rw [r.length]
  exact (r.drop _).take _
theorem sl_ok {K : PySem.W.Frag} {mg : MG} {β : Bt} {H : Hp} {st : AS} {Q : VK} {x : D} {u : V} {lo hi : Option Int} {c : Bool} (S : Sim K mg β st H) (rx : Rep K H β x u) (h : Post K mg (rD K) E β H Q (slD c x lo hi st)) : rSlA K u lo hi H Q ∨ rSlL K u lo hi H Q ∨ rSlS u lo hi H Q := by
  unfold slD at h
  have lists : ∀ {x : D} {u : V}, Rep K H β x u → Post K mg (rD K) E β H Q (match listOf st x with | some ds => mk c (VL.cut ds lo hi) st | none => .bad) → rSlL K u lo hi H Q := by
    intro x u rx h
    split at h
    · rename_i ds e
      obtain ⟨p, us, rfl, hq, r⟩ := S.lists rx e
      exact ⟨p, us, rfl, hq, new_lst h S (r.cut lo hi)⟩
    · exact h.elim
  cases rx with
  | tup n e r =>
    refine .inl ⟨_, _, rfl, .inl (.inl e), fun z => ?_, fun _ => new_tup h S (r.cut lo hi)⟩
    have q := h.here (u := V.ref _) S (show Rep K H β (.tup (VL.cut _ lo hi)) (.ref _) from by
      rw [cut_whole (by rw [← r.length]; exact z.1) (by rw [← r.length]; exact z.2)]
      exact .tup n e r)
    exact q
  | str z =>
    obtain ⟨hl, h⟩ := h.ite
    exact .inr (.inr ⟨z, rfl, hl, h.here S (.str _)⟩)
  | non => exact .inr (.inl (lists .non h))
  | bl b => exact .inr (.inl (lists (.bl b) h))
  | int b => exact .inr (.inl (lists (.int b) h))
  | cv q => exact .inr (.inl (lists (.cv q) h))
  | ctp e r => exact .inr (.inl (lists (.ctp e r) h))
  | lst n e r => exact .inr (.inl (lists (.lst n e r) h))
  | fzl e r => exact .inr (.inl (lists (.fzl e r) h))
  | ref e => exact .inr (.inl (lists (.ref e) h))
theorem ve_slice (k : Bool) {lo hi : Option Expr} {fl fh : En → AS → Out (Option Int)} {p2 : Pos} (ha : VE X E a fa) (hl : VO X E lo fl) (hh : VO X E hi fh) : VE X E (.Subscript a (.Slice lo hi none p2) pos) (vSl (slD k) fa fl fh) := by
  refine weakE (pe_slice (sl_tupA.or (sl_list.or sl_str)) ha hl hh) fun σ H Q ⟨β, env, st, he, hs, h⟩ => ?_
  refine tG_bind he hs h fun x st1 β1 H1 u x1 s1 e1 r1 h1 => ?_
  refine tG_bind e1 s1 h1 fun l st2 β2 H2 l' x2 s2 e2 r2 h2 => ?_
  refine tG_bind e2 s2 h2 fun l st3 β3 H3 l2' x3 s3 e3 r3 h3 => ?_
  cases r2
  cases r3
  exact sl_ok s3 ((r1.ext x2).ext x3) h3
/-- x[::-1] -/
@[simp] def revD (x : D) (st : AS) : Out D := match x with
  | .tup ds => .ok (.tup ds.reverse) st
  | _ => .bad
theorem Reps.rev {K : PySem.W.Frag} {H : Hp} {β : Bt} : ∀ {ds : List D} {us : List V}, Reps K H β ds us → Reps K H β ds.reverse us.reverse
  | _, _, .nil => .nil
  | _, _, .cons r t => by
    rw [List.reverse_cons, List.reverse_cons]
    exact (Reps.rev t).append (.cons r .nil)
theorem ve_revT {k : Nat} {p1 p2 p3 : Pos} (ha : VE X E a fa) : VE X E (.Subscript a (.Slice none none (some (.UnaryOp .USub (.Constant (.int 1) k p1) p2)) p3) pos) (v1 revD fa) := by
  refine weakE (pe_revT ha) fun σ H Q ⟨β, env, st, he, hs, h⟩ => ?_
  refine tG_bind he hs h fun x st1 β1 H1 u x1 s1 e1 r1 h1 => ?_
  cases r1 with
  | tup n e r => exact ⟨_, _, rfl, .inl (.inl e), new_tup h1 s1 r.rev⟩
  | _ => exact h1.elim
@[simp] def revLD (c : Bool) (x : D) (st : AS) : Out D := match listOf st x with
  | some ds => mk c ds.reverse st
  | none => .bad
theorem ve_revL (c : Bool) {k : Nat} {p1 p2 p3 : Pos} (ha : VE X E a fa) : VE X E (.Subscript a (.Slice none none (some (.UnaryOp .USub (.Constant (.int 1) k p1) p2)) p3) pos) (v1 (revLD c) fa) := by
  refine weakE (pe_revL ha) fun σ H Q ⟨β, env, st, he, hs, h⟩ => ?_
  refine tG_bind he hs h fun x st1 β1 H1 u x1 s1 e1 r1 h1 => ?_
  unfold revLD at h1
  split at h1
  · rename_i ds e
    obtain ⟨p, us, rfl, hq, r⟩ := s1.lists r1 e
    exact ⟨p, us, rfl, hq, new_lst h1 s1 r.rev⟩
  · exact h1.elim

/-! ### built-in functions -/
variable {es : List Expr} {e : Expr} {fs : En → AS → Out (List D)} {x : Str} {p : Pos}
theorem useA {r : List V → Hp → VK → Prop} {g : List D → AS → Out D} (hg : OkA X.K X.mgw E r g) {σ : L2.St} {H : Hp} {Q : VK} (h : tV X.K X.mgw E (vA g fs) σ H Q) : tCB r (tVA X.K X.mgw E fs) σ H Q := by
  obtain ⟨β, env, st, he, hs, h⟩ := h
  exact tG_bind he hs h fun ds st1 β1 H1 us x1 s1 e1 r1 h1 => hg β1 H1 st1 ds us Q s1 r1 h1
/-- a built-in function with what it does -/
def OkB (X : Cx) (E : XK) (f : Value) (g : List D → AS → Out D) : Prop := ∃ r, CallR X f r ∧ OkA X.K X.mgw E r g
theorem ve_callB {id : String} {g : List D → AS → Out D} (hc : OkB X E (.builtin id) g) (hg : Gl X x) (hm : X.mg x = none) (hv : bootBuiltins x = some (.builtin id)) (ha : VA X E (e :: es) fs) (hn : x ≠ "__name__" := by decide) (hdb : (x == ("__debug__" : Str)) = false := by decide)
    (he : starEach (e :: es) X.env = (false, eval e X.env) :: starEach es X.env := by rfl) (hpl : (backTo pos (starEach es X.env)).any (·.1) = false := by rfl) : VE X E (.Call (.Name x p) (e :: es) [] pos) (vA g fs) := by
  obtain ⟨r, h1, h2⟩ := hc
  exact weakE (pe_callB h1 hg hm hv ha hn hdb he hpl) fun _ _ _ h => useA h2 h
theorem ve_callTy {T : String} {g : List D → AS → Out D} (hc : OkB X E (.type T) g) (hg : Gl X x) (hm : X.mg x = none) (hv : bootBuiltins x = some (.type T)) (ha : VA X E (e :: es) fs) (hn : x ≠ "__name__" := by decide) (hdb : (x == ("__debug__" : Str)) = false := by decide)
    (he : starEach (e :: es) X.env = (false, eval e X.env) :: starEach es X.env := by rfl) (hpl : (backTo pos (starEach es X.env)).any (·.1) = false := by rfl) : VE X E (.Call (.Name x p) (e :: es) [] pos) (vA g fs) := by
  obtain ⟨r, h1, h2⟩ := hc
  exact weakE (pe_callTy h1 hg hm hv ha hn hdb he hpl) fun _ _ _ h => useA h2 h
/-- of one thing -/
@[simp] def g1 (g : D → AS → Out D) (xs : List D) (st : AS) : Out D := match xs with
  | [x] => g x st
  | _ => .bad
theorem g1_ok {K : PySem.W.Frag} {mg : MG} {β : Bt} {H : Hp} {st : AS} {Q : VK} {xs : List D} {us : List V} {g : D → AS → Out D} (r : Reps K H β xs us) (h : Post K mg (rD K) E β H Q (g1 g xs st)) : ∃ x u, us = [u] ∧ Rep K H β x u ∧ Post K mg (rD K) E β H Q (g x st) := by
  cases r with
  | nil => exact h.elim
  | cons a t =>
    cases t with
    | nil => exact ⟨_, _, rfl, a, h⟩
    | cons _ _ => exact h.elim
@[simp] def lenD (x : D) (st : AS) : Out D := match seqOf st x with
  | some ds => .ok (.int ds.length) st
  | none => match x with
    | .str z => if z.length ≤ sizeLine then .ok (.int z.length) st else .bad
    | .ref i => (match st[i]? with
      | some (.dct kvs) => .ok (.int kvs.length) st
      | _ => .bad)
    | _ => .bad
theorem RepK.length {κ : Type} {K : PySem.W.Frag} {H : Hp} {β : Bt} {kvs : List (κ × D)} {us : List (κ × V)} (h : RepK K H β kvs us) : us.length = kvs.length := by
  have := congrArg List.length h.1
  simpa using this.symm
theorem ob_len : OkB X E (.builtin "len") (g1 lenD) := ⟨_, call_len.or call_lenD, fun β H st xs us Q S r h => by
  obtain ⟨x, u, rfl, rx, h⟩ := g1_ok r h
  unfold lenD at h
  split at h
  · rename_i ds e
    obtain ⟨p, us, rfl, hq, r⟩ := S.seqs rx e
    refine .inl ⟨_, us.length, rfl, ?_, by rw [r.length]; exact h.here S (.int _)⟩
    rcases hq with hq | hq
    · exact .inl ⟨us, hq, rfl⟩
    · exact .inr ⟨us, hq, rfl⟩
  · cases rx with
    | str z =>
      obtain ⟨hl, h⟩ := h.ite
      exact .inl ⟨_, _, rfl, ⟨hl, rfl⟩, h.here S (.int _)⟩
    | ref er =>
      rename_i i p en
      dsimp only at h
      split at h
      · rename_i kvs ec
        obtain ⟨us, eu, r⟩ := S.cell i p _ er ec
        exact .inr ⟨p, us, rfl, eu, by rw [r.length]; exact h.here S (.int _)⟩
      · exact h.elim
    | _ => exact h.elim⟩
/-- tuple(list or tuple), list(list or tuple) -/
@[simp] def tupD (x : D) (st : AS) : Out D := match x with
  | .tup ds => .ok (.tup ds) st
  | _ => match listOf st x with
    | some ds => .ok (.tup ds) st
    | none => .bad
theorem ob_tuple : OkB X E (.type "tuple") (g1 tupD) := ⟨_, call_tuple_of, fun β H st xs us Q S r h => by
  obtain ⟨x, u, rfl, rx, h⟩ := g1_ok r h
  clear r
  have lists : ∀ {x : D} {u : V}, Rep X.K H β x u → Post X.K X.mgw (rD X.K) E β H Q (match listOf st x with | some ds => .ok (.tup ds) st | none => .bad) → ∃ p ys, [u] = [V.ref p] ∧ ((SqL X.K H p ys ∧ ∀ l, H l = none → Q (.ref l) (upd H l (.tup ys))) ∨ (SqT X.K H p ys ∧ Q (.ref p) H)) := by
    intro x u rx h
    split at h
    · rename_i ds e
      obtain ⟨p, us, rfl, hq, r⟩ := S.lists rx e
      exact ⟨p, us, rfl, .inl ⟨hq, new_tup h S r⟩⟩
    · exact h.elim
  unfold tupD at h
  cases rx with
  | tup n e r => exact ⟨_, _, rfl, .inr ⟨.inl (.inl e), h.here S (.tup n e r)⟩⟩
  | non => exact lists .non h
  | bl b => exact lists (.bl b) h
  | int b => exact lists (.int b) h
  | str b => exact lists (.str b) h
  | cv q => exact lists (.cv q) h
  | ctp e r => exact lists (.ctp e r) h
  | lst n e r => exact lists (.lst n e r) h
  | fzl e r => exact lists (.fzl e r) h
  | ref e => exact lists (.ref e) h⟩
@[simp] def lstD (c : Bool) (x : D) (st : AS) : Out D := match seqOf st x with
  | some ds => mk c ds st
  | none => .bad
theorem ob_list (c : Bool) : OkB X E (.type "list") (g1 (lstD c)) := ⟨_, call_list_of, fun β H st xs us Q S r h => by
  obtain ⟨x, u, rfl, rx, h⟩ := g1_ok r h
  unfold lstD at h
  split at h
  · rename_i ds e
    obtain ⟨p, us, rfl, hq, r⟩ := S.seqs rx e
    exact ⟨p, us, rfl, hq, new_lst h S r⟩
  · exact h.elim⟩
/-- sums, greatest, least of ints -/
@[simp] def onInts (g : List Int → AS → Out D) (x : D) (st : AS) : Out D := match seqOf st x with
  | some ds => (match intsOf ds with
    | some ns => g ns st
    | none => .bad)
  | none => .bad
theorem ints_ok {K : PySem.W.Frag} {mg : MG} {β : Bt} {H : Hp} {st : AS} {Q : VK} {x : D} {u : V} {g : List Int → AS → Out D} (S : Sim K mg β st H) (rx : Rep K H β x u) (h : Post K mg (rD K) E β H Q (onInts g x st)) :
    ∃ p ns, u = .ref p ∧ (SqL K H p (ns.map V.int) ∨ SqT K H p (ns.map V.int)) ∧ Post K mg (rD K) E β H Q (g ns st) := by
  unfold onInts at h
  split at h
  · rename_i ds e
    split at h
    · rename_i ns en
      obtain ⟨p, us, rfl, hq, r⟩ := S.seqs rx e
      have z := intsOf_eq en
      subst z
      have w := r.ints
      subst w
      exact ⟨p, ns, rfl, hq, h⟩
    · exact h.elim
  · exact h.elim
@[simp] def sumD (x : D) (st : AS) : Out D := onInts (fun ns st => .ok (.int ns.sum) st) x st
theorem ob_sum (hc : X.calm = true) : OkB X E (.builtin "sum") (g1 sumD) := ⟨_, (cr_sum hc).or (call_sumT hc), fun β H st xs us Q S r h => by
  obtain ⟨x, u, rfl, rx, h⟩ := g1_ok r h
  obtain ⟨p, ns, rfl, hq, h⟩ := ints_ok S rx h
  have q := h.here S (.int _)
  rcases hq with hq | hq
  · exact .inl ⟨p, ns, rfl, hq, q⟩
  · exact .inr ⟨p, ns, rfl, hq, q⟩⟩
def maxI : List Int → Int
  | [] => 0
  | [n] => n
  | n :: m :: ns => max n (maxI (m :: ns))
def minI : List Int → Int
  | [] => 0
  | [n] => n
  | n :: m :: ns => min n (minI (m :: ns))
theorem maxI_mem : ∀ {ns : List Int}, ns ≠ [] → maxI ns ∈ ns ∧ ∀ y ∈ ns, y ≤ maxI ns
  | [], h => absurd rfl h
  | [n], _ => by simp [maxI]
  | n :: m :: ns, _ => by
    obtain ⟨h1, h2⟩ := maxI_mem (ns := m :: ns) (by simp)
    rw [maxI]
    refine ⟨?_, fun y hy => ?_⟩
    · by_cases e : n ≤ maxI (m :: ns)
      · rw [Int.max_eq_right e]
        exact List.mem_cons_of_mem _ h1
      · rw [Int.max_eq_left (by omega)]
        exact List.mem_cons_self
    · rcases List.mem_cons.mp hy with z | z
      · subst z
        exact Int.le_max_left _ _
      · exact Int.le_trans (h2 y z) (Int.le_max_right _ _)
theorem minI_mem : ∀ {ns : List Int}, ns ≠ [] → minI ns ∈ ns ∧ ∀ y ∈ ns, minI ns ≤ y
  | [], h => absurd rfl h
  | [n], _ => by simp [minI]
  | n :: m :: ns, _ => by
    obtain ⟨h1, h2⟩ := minI_mem (ns := m :: ns) (by simp)
    rw [minI]
    refine ⟨?_, fun y hy => ?_⟩
    · by_cases e : n ≤ minI (m :: ns)
      · rw [Int.min_eq_left e]
        exact List.mem_cons_self
      · rw [Int.min_eq_right (by omega)]
        exact List.mem_cons_of_mem _ h1
    · rcases List.mem_cons.mp hy with z | z
      · subst z
        exact Int.min_le_left _ _
      · exact Int.le_trans (Int.min_le_right _ _) (h2 y z)
theorem maxI_eq {ns : List Int} {m : Int} (h : m ∈ ns) (h2 : ∀ y ∈ ns, y ≤ m) : m = maxI ns := by
  obtain ⟨h3, h4⟩ := maxI_mem (ns := ns) (fun z => by subst z; cases h)
  exact Int.le_antisymm (h4 m h) (h2 _ h3)
theorem minI_eq {ns : List Int} {m : Int} (h : m ∈ ns) (h2 : ∀ y ∈ ns, m ≤ y) : m = minI ns := by
  obtain ⟨h3, h4⟩ := minI_mem (ns := ns) (fun z => by subst z; cases h)
  exact Int.le_antisymm (h2 _ h3) (h4 m h)
@[simp] def maxD (xs : List D) (st : AS) : Out D := match xs with
  | [] => .bad
  | x :: r => (match r with
    | [] => onInts (fun ns st => if ns = [] then .bad else .ok (.int (maxI ns)) st) x st
    | y :: q => (match q with
      | [] => iiD (fun a b => .int (max a b)) x y st
      | _ :: _ => .bad))
@[simp] def minD (xs : List D) (st : AS) : Out D := match xs with
  | [] => .bad
  | x :: r => (match r with
    | [] => onInts (fun ns st => if ns = [] then .bad else .ok (.int (minI ns)) st) x st
    | y :: q => (match q with
      | [] => iiD (fun a b => .int (min a b)) x y st
      | _ :: _ => .bad))
theorem Post.iteN {α ρ : Type} {K : PySem.W.Frag} {mg : MG} {R : Hp → Bt → α → ρ → Prop} {β : Bt} {H : Hp} {Q : ρ → Hp → Prop} {p : Prop} [Decidable p] {o : Out α} (h : Post K mg R E β H Q (if p then .bad else o)) : ¬ p ∧ Post K mg R E β H Q o := by
  by_cases hp : p
  · rw [if_pos hp] at h
    exact h.elim
  · rw [if_neg hp] at h
    exact ⟨hp, h⟩
theorem ob_max (hc : X.calm = true) : OkB X E (.builtin "max") maxD := ⟨_, (cr_max hc).or ((call_maxT hc).or (call_max2 hc)), fun β H st xs us Q S r h => by
  cases r with
  | nil => exact h.elim
  | cons a t =>
    cases t with
    | nil =>
      obtain ⟨p, ns, rfl, hq, h⟩ := ints_ok (g := fun ns st => if ns = [] then .bad else .ok (.int (maxI ns)) st) S a h
      obtain ⟨hn, h⟩ := h.iteN
      have q := h.here S (.int _)
      have hl : 0 < ns.length := List.length_pos_iff.mpr hn
      rcases hq with hq | hq
      · exact .inl ⟨p, ns, rfl, hq, hl, fun m hm hy => by rw [maxI_eq hm hy]; exact q⟩
      · exact .inr (.inl ⟨p, ns, rfl, hq, hl, fun m hm hy => by rw [maxI_eq hm hy]; exact q⟩)
    | cons b t =>
      cases t with
      | nil =>
        obtain ⟨i, j, rfl, rfl, h⟩ := ii_ok a b h
        refine .inr (.inr ⟨i, j, rfl, ?_⟩)
        have q := h.here S (.int _)
        have e : (if j > i then j else i) = max i j := by
          by_cases z : j > i
          · rw [if_pos z, Int.max_eq_right (by omega)]
          · rw [if_neg z, Int.max_eq_left (by omega)]
        rw [e]
        exact q
      | cons _ _ => exact h.elim⟩
theorem ob_min (hc : X.calm = true) : OkB X E (.builtin "min") minD := ⟨_, (cr_min hc).or ((call_minT hc).or (call_min2 hc)), fun β H st xs us Q S r h => by
  cases r with
  | nil => exact h.elim
  | cons a t =>
    cases t with
    | nil =>
      obtain ⟨p, ns, rfl, hq, h⟩ := ints_ok (g := fun ns st => if ns = [] then .bad else .ok (.int (minI ns)) st) S a h
      obtain ⟨hn, h⟩ := h.iteN
      have q := h.here S (.int _)
      have hl : 0 < ns.length := List.length_pos_iff.mpr hn
      rcases hq with hq | hq
      · exact .inl ⟨p, ns, rfl, hq, hl, fun m hm hy => by rw [minI_eq hm hy]; exact q⟩
      · exact .inr (.inl ⟨p, ns, rfl, hq, hl, fun m hm hy => by rw [minI_eq hm hy]; exact q⟩)
    | cons b t =>
      cases t with
      | nil =>
        obtain ⟨i, j, rfl, rfl, h⟩ := ii_ok a b h
        refine .inr (.inr ⟨i, j, rfl, ?_⟩)
        have q := h.here S (.int _)
        have e : (if j < i then j else i) = min i j := by
          by_cases z : j < i
          · rw [if_pos z, Int.min_eq_right (by omega)]
          · rw [if_neg z, Int.min_eq_left (by omega)]
        rw [e]
        exact q
      | cons _ _ => exact h.elim⟩
@[simp] def absD (x : D) (st : AS) : Out D := match x with
  | .int i => .ok (.int i.natAbs) st
  | _ => .bad
theorem ob_abs : OkB X E (.builtin "abs") (g1 absD) := ⟨_, call_abs, fun β H st xs us Q S r h => by
  obtain ⟨x, u, rfl, rx, h⟩ := g1_ok r h
  cases rx with
  | int i =>
    refine ⟨i, rfl, ?_⟩
    have e : (if i < 0 then -i else i) = (i.natAbs : Int) := by
      by_cases z : i < 0
      · rw [if_pos z]; omega
      · rw [if_neg z]; omega
    rw [e]
    exact h.here S (.int _)
  | _ => exact h.elim⟩
def blsOf : List D → Option (List Bool)
  | [] => some []
  | .bl i :: ds => (blsOf ds).map (i :: ·)
  | _ :: _ => none
theorem blsOf_map : ∀ ns : List Bool, blsOf (ns.map D.bl) = some ns
  | [] => rfl
  | n :: ns => by rw [List.map_cons, blsOf, blsOf_map ns]; rfl
theorem Reps.bls {K : PySem.W.Frag} {H : Hp} {β : Bt} : ∀ {ds : List D} {bs : List Bool} {us : List V}, blsOf ds = some bs → Reps K H β ds us → us = bs.map V.bl
  | [], _, _, e, .nil => by
    cases e
    rfl
  | d :: ds, bs, _, e, .cons r t => by
    cases d with
    | bl b =>
      rw [blsOf] at e
      cases e2 : blsOf ds with
      | none => rw [e2] at e; cases e
      | some cs =>
        rw [e2] at e
        cases e
        cases r
        rw [Reps.bls e2 t]
        rfl
    | _ => simp [blsOf] at e
@[simp] def onBls (g : List Bool → Bool) (x : D) (st : AS) : Out D := match listOf st x with
  | some ds => (match blsOf ds with
    | some bs => .ok (.bl (g bs)) st
    | none => .bad)
  | none => .bad
theorem bls_ok {K : PySem.W.Frag} {mg : MG} {β : Bt} {H : Hp} {st : AS} {Q : VK} {x : D} {u : V} {g : List Bool → Bool} (S : Sim K mg β st H) (rx : Rep K H β x u) (h : Post K mg (rD K) E β H Q (onBls g x st)) :
    ∃ p bs, u = .ref p ∧ SqL K H p (bs.map V.bl) ∧ Q (.bl (g bs)) H := by
  unfold onBls at h
  split at h
  · rename_i ds e
    split at h
    · rename_i bs en
      obtain ⟨p, us, rfl, hq, r⟩ := S.lists rx e
      have w := r.bls en
      subst w
      exact ⟨p, bs, rfl, hq, h.here S (.bl _)⟩
    · exact h.elim
  · exact h.elim
theorem ob_all (hc : X.calm = true) : OkB X E (.builtin "all") (g1 (onBls fun bs => bs.all id)) := ⟨_, cr_all hc, fun β H st xs us Q S r h => by
  obtain ⟨x, u, rfl, rx, h⟩ := g1_ok r h
  obtain ⟨p, bs, rfl, hq, q⟩ := bls_ok S rx h
  exact ⟨p, bs, rfl, hq, q⟩⟩
theorem ob_any (hc : X.calm = true) : OkB X E (.builtin "any") (g1 (onBls fun bs => bs.any id)) := ⟨_, cr_any hc, fun β H st xs us Q S r h => by
  obtain ⟨x, u, rfl, rx, h⟩ := g1_ok r h
  obtain ⟨p, bs, rfl, hq, q⟩ := bls_ok S rx h
  exact ⟨p, bs, rfl, hq, q⟩⟩
end
end VL

set_option Elab.async false
set_option linter.all false
set_option maxRecDepth 100000
/-! The value layer: isinstance, repr, str; methods of lists; targets and statements. -/
namespace VL
open PySem PySem.Spec PyProof.Rows L2 TB

/-! ### isinstance of a built-in class -/
@[simp] def tyD (st : AS) (d : D) : Option String := match d with
  | .non => some "NoneType"
  | .bl _ => some "bool"
  | .int _ => some "int"
  | .str _ => some "str"
  | .tup _ => some "tuple"
  | .ctp _ => some "tuple"
  | .lst _ => some "list"
  | .fzl _ => some "list"
  | .ref i => (match st[i]? with
    | some (.lst _) => some "list"
    | some (.dct _) => some "dict"
    | some (.dtt _) => some "dict"
    | _ => none)
  | .cv _ => none
def isT (a b : String) : Bool := decide (a = b) || (decide (a = "bool") && decide (b = "int"))
theorem kit_all : ∀ a ∈ ["NoneType", "bool", "int", "str", "tuple", "list", "dict"], ∀ b ∈ ["int", "bool", "str", "tuple", "list", "dict"], kitB a b = some (isT a b) := by decide +kernel
theorem tyD_in {st : AS} {d : D} {n : String} (h : tyD st d = some n) : n ∈ ["NoneType", "bool", "int", "str", "tuple", "list", "dict"] := by
  unfold tyD at h
  repeat' split at h
  all_goals first | (cases h; done) | (cases h; simp)
theorem wr_lst {K : PySem.W.Frag} {H : Hp} {a : Addr} {us : List V} (h : SqL K H a us) : TyX K H (.ref a) (.type "list") := by
  rcases h with (h | ⟨o, h⟩) | ⟨o, its, n, h1, h2, _⟩
  · exact .base (.lst h)
  · exact .base (.frz h)
  · exact .kList h1 h2
theorem tyD_ok {K : PySem.W.Frag} {mg : MG} {β : Bt} {H : Hp} {st : AS} {d : D} {u : V} {n : String} (S : Sim K mg β st H) (r : Rep K H β d u) (h : tyD st d = some n) : TyX K H u (.type n) := by
  unfold tyD at h
  cases r with
  | non => cases h; exact .base .non
  | bl b => cases h; exact .base (.bl b)
  | int b => cases h; exact .base (.int b)
  | str b => cases h; exact .base (.str b)
  | cv => cases h
  | tup n e r => cases h; exact .base (.tup e)
  | ctp e r =>
    cases h
    rcases e with ⟨o, _, _, h1, h2, _⟩ | ⟨_, o, e, _⟩
    · exact .kTuple h1 h2
    · exact .fTuple e
  | lst n e r => cases h; exact .base (.lst e)
  | fzl e r => cases h; exact wr_lst (SqL.fz e)
  | ref e =>
    rename_i i a
    dsimp only at h
    split at h
    · rename_i ds e2
      cases h
      obtain ⟨us, e3, _⟩ := S.cell i a _ e e2
      exact .base (.lst e3)
    · rename_i ds e2
      cases h
      obtain ⟨us, e3, _⟩ := S.cell i a _ e e2
      exact .base (.dK e3)
    · rename_i ds e2
      cases h
      obtain ⟨us, e3, _⟩ := S.cell i a _ e e2
      exact .base (.dT e3)
    · cases h
@[simp] def isiD (xs : List D) (st : AS) : Out D := match xs with
  | [x, .cv (.v (.ty T))] => (match tyD st x with
    | some n => if T ∈ ["int", "bool", "str", "tuple", "list", "dict"] then .ok (.bl (isT n T)) st else .bad
    | none => .bad)
  | _ => .bad
section
variable {X : Cx} {E : XK} {a b c : Expr} {fa fb fc : En → AS → Out D} {pos : Pos}
theorem ve_ty {x : Str} {n : String} {p : Pos} (hg : Gl X x) (hm : X.mg x = none) (hv : bootBuiltins x = some (.type n)) (hn : x ≠ "__name__" := by decide) (hd : (x == ("__debug__" : Str)) = false := by decide) : VE X E (.Name x p) (vC (.cv (.v (.ty n)))) :=
  ve_c (pe_bltn hg hm hv (show RelV (.ty n) (.type n) from rfl) hn hd) fun _ _ => .cv rfl
theorem ob_isi : OkB X E (.builtin "isinstance") isiD := ⟨_, call_isi, fun β H st xs us Q S r h => by
  unfold isiD at h
  split at h
  · rename_i x T
    cases r with
    | cons r1 r2 =>
      cases r2 with
      | cons r2 r3 =>
        cases r3
        cases r2 with
        | cv q =>
        cases (show _ = _ from q)
        split at h
        · rename_i n en
          obtain ⟨hT, h⟩ := h.ite
          exact ⟨_, _, _, _, _, rfl, .ty T, tyD_ok S r1 en, kit_ty (kit_all n (tyD_in en) T hT), h.here S (.bl _)⟩
        · exact h.elim
  · exact h.elim⟩
/-! ### repr, str -/
def Shw (p : PyData) : Prop := p.showable = true ∧ p.depth ≤ 60 ∧ p.shown.length ≤ sizeLine
instance (p : PyData) : Decidable (Shw p) := inferInstanceAs (Decidable (_ ∧ _))
theorem Shw.of {k n : Nat} {p : PyData} (h : Sh k n p) (hk : k ≤ 60) (hn : n ≤ sizeLine) : Shw p := ⟨h.sh, Nat.le_trans h.dp hk, Nat.le_trans h.ln hn⟩
mutual
theorem D.noDict : ∀ d : D, d.py.hasDict = false
  | .non => by simp only [D.py, PyData.hasDict]
  | .bl _ => by simp only [D.py, PyData.hasDict]
  | .int _ => by simp only [D.py, PyData.hasDict]
  | .str _ => by simp only [D.py, PyData.hasDict]
  | .tup ds => by simp only [D.py, PyData.hasDict, D.noDicts ds]
  | .ctp ds => by simp only [D.py, PyData.hasDict, D.noDicts ds]
  | .lst ds => by simp only [D.py, PyData.hasDict, D.noDicts ds]
  | .fzl _ => by simp only [D.py, PyData.hasDict]
  | .ref _ => by simp only [D.py, PyData.hasDict]
  | .cv _ => by simp only [D.py, PyData.hasDict]
theorem D.noDicts : ∀ ds : List D, PyData.hasDictAll (D.pys ds) = false
  | [] => by simp only [D.pys, PyData.hasDictAll]
  | d :: ds => by simp only [D.pys, PyData.hasDictAll, D.noDict d, D.noDicts ds, Bool.or_self]
end
@[simp] def reprD (x : D) (st : AS) : Out D := if (valD st x).pure = true ∧ Shw (valD st x).py then .ok (.str (txt (valD st x).py)) st else .bad
def rRep (K : PySem.W.Frag) : List V → Hp → VK → Prop := fun xs H Q => ∃ x d, xs = [x] ∧ Dp K H x d ∧ d.hasDict = false ∧ Shw d ∧ Q (.str (txt d)) H
theorem call_rep (gd : X.A.guards = some []) (hu : X.A.units + 64 < cLine) : CallR X (.builtin "repr") (rRep X.K) := by
  intro pins s σ H args us Q I r h
  obtain ⟨x, d, rfl, hd, hn, ⟨h1, h2, h3⟩, q⟩ := h
  rw [txt_eq] at q
  cases hd with
  | non =>
    obtain ⟨u, rfl, r1⟩ := vals1 r
    cases (show u = Value.none from r1)
    exact PySem.P.repr_of_none ⟨.str "None", H, I.tok _, ⟨_, rfl⟩, q⟩
  | bl b =>
    obtain ⟨u, rfl, r1⟩ := vals1 r
    cases (show u = Value.bool b from r1)
    exact PySem.P.repr_of_bool ⟨.str (if b then "True" else "False"), H, I.tok _, ⟨_, rfl⟩, q⟩
  | int i =>
    obtain ⟨u, rfl, r1⟩ := vals1 r
    obtain ⟨t, rfl⟩ := r1
    exact PySem.P.repr_of_int (by simpa [PyData.showable] using h1) ⟨.str _, H, I.tok _, ⟨_, rfl⟩, q⟩
  | str z =>
    obtain ⟨u, rfl, r1⟩ := vals1 r
    obtain ⟨t, rfl⟩ := r1
    exact PySem.P.repr_of_str ⟨.str _, H, I.tok _, ⟨_, rfl⟩, q⟩ h3
  | lst e a => exact call_reprD gd hu pins s σ H _ us Q I r ⟨_, _, rfl, .lst e a, h1, hn, h2, h3, q⟩
  | tup e a => exact call_reprD gd hu pins s σ H _ us Q I r ⟨_, _, rfl, .tup e a, h1, hn, h2, h3, q⟩
theorem ob_repr (gd : X.A.guards = some []) (hu : X.A.units + 64 < cLine) : OkB X E (.builtin "repr") (g1 reprD) := ⟨_, call_rep gd hu, fun β H st xs us Q S r h => by
  obtain ⟨x, u, rfl, rx, h⟩ := g1_ok r h
  obtain ⟨⟨hp, hs⟩, h⟩ := h.ite
  exact ⟨u, _, rfl, S.dp rx hp, D.noDict _, hs, h.here S (.str _)⟩⟩
@[simp] def strD (x : D) (st : AS) : Out D := match x with
  | .int i => if i.natAbs.log2 < 1920 then .ok (.str (toString i)) st else .bad
  | _ => .bad
theorem ob_str : OkB X E (.type "str") (g1 strD) := ⟨_, call_str_int, fun β H st xs us Q S r h => by
  obtain ⟨x, u, rfl, rx, h⟩ := g1_ok r h
  cases rx with
  | int i =>
    obtain ⟨hl, h⟩ := h.ite
    exact ⟨i, rfl, hl, h.here S (.str _)⟩
  | _ => exact h.elim⟩

/-! ### methods of lists -/
variable {o e : Expr} {es : List Expr} {fo : En → AS → Out D} {fs : En → AS → Out (List D)} {name : Str} {apos cpos : Pos} {id : String}
@[simp] def vML (g : D → List D → AS → Out D) (fo : En → AS → Out D) (fs : En → AS → Out (List D)) (env : En) (st : AS) : Out D := (fo env st).bind fun x st => if (listOf st x).isSome = true then (fs env st).bind fun xs st => g x xs st else .bad
def OkM (X : Cx) (E : XK) (id : String) (g : D → List D → AS → Out D) : Prop := ∃ r, MtR X id r ∧ ∀ β H st x xs u us Q, Sim X.K X.mgw β st H → Rep X.K H β x u → Reps X.K H β xs us → Post X.K X.mgw (rD X.K) E β H Q (g x xs st) → r u us H Q
theorem Sim.isList {K : PySem.W.Frag} {mg : MG} {β : Bt} {H : Hp} {st : AS} (S : Sim K mg β st H) {d : D} {u : V} (r : Rep K H β d u) (h : (listOf st d).isSome = true) : tyV K "list" u H := by
  obtain ⟨ds, e⟩ := Option.isSome_iff_exists.mp h
  obtain ⟨a, us, rfl, hq, _⟩ := S.lists r e
  exact .inl ⟨rfl, us, hq⟩
theorem ve_ml {g : D → List D → AS → Out D} (slot : Slot "list" name id) (hty : typeOf (.builtin id) = pure (.type "method_descriptor")) (hm : OkM X E id g) (ho : VE X E o fo) (ha : VA X E (e :: es) fs)
    (hbase : attributeBase o name X.env (eval o X.env) = eval o X.env := by rfl)
    (hfew : ((backTo cpos (starEach (e :: es) X.env)).all (fun x => !x.1) && (backToKw cpos (keywordEach [] X.env)).all (fun x => x.1.isSome)
      && decide ((e :: es).length + ([] : List Keyword).length + (if ([] : List Keyword).isEmpty then 0 else 1) < 30)) = true := by rfl)
    (hline : (apos.endLine == cpos.line) = true := by rfl) (hs : starEach (e :: es) X.env = (false, eval e X.env) :: starEach es X.env := by rfl) (hplain : (backTo cpos (starEach es X.env)).any (·.1) = false := by rfl) :
    VE X E (.Call (.Attribute o name apos) (e :: es) [] cpos) (vML g fo fs) := by
  obtain ⟨r, h1, h2⟩ := hm
  refine weakE (pe_bm PySem.F.plainAttrs_list slot hty h1 ho ha hbase hfew hline hs hplain) fun σ H Q ⟨β, env, st, he, hS, h⟩ => ?_
  refine tG_bind he hS h fun x st1 β1 H1 u x1 s1 e1 r1 h3 => ?_
  obtain ⟨hl, h3⟩ := h3.ite
  refine ⟨s1.isList r1 hl, ?_⟩
  exact tG_bind e1 s1 h3 fun xs st2 β2 H2 us x2 s2 e2 r2 h4 => h2 β2 H2 st2 x xs u us Q s2 (r1.ext x2) r2 h4
@[simp] def vML0 (g : D → List D → AS → Out D) (fo : En → AS → Out D) (env : En) (st : AS) : Out D := (fo env st).bind fun x st => if (listOf st x).isSome = true then g x [] st else .bad
theorem ve_ml0 {g : D → List D → AS → Out D} (slot : Slot "list" name id) (hty : typeOf (.builtin id) = pure (.type "method_descriptor")) (hm : OkM X E id g) (ho : VE X E o fo)
    (hbase : attributeBase o name X.env (eval o X.env) = eval o X.env := by rfl) (hline : (apos.endLine == cpos.line) = true := by rfl) :
    VE X E (.Call (.Attribute o name apos) [] [] cpos) (vML0 g fo) := by
  obtain ⟨r, h1, h2⟩ := hm
  refine weakE (pe_bm0 PySem.F.plainAttrs_list slot hty h1 ho hbase hline) fun σ H Q ⟨β, env, st, he, hS, h⟩ => ?_
  refine tG_bind he hS h fun x st1 β1 H1 u x1 s1 e1 r1 h3 => ?_
  obtain ⟨hl, h3⟩ := h3.ite
  exact ⟨s1.isList r1 hl, h2 β1 H1 st1 x [] u [] Q s1 r1 .nil h3⟩
/-- a list that may change is put anew -/
@[simp] def putL (x : D) (st : AS) (k : List D → Option (D × List D)) : Out D := match x with
  | .ref i => (match st[i]? with
    | some (.lst ds) => (match k ds with
      | some (r, ds') => .ok r (st.set i (.lst ds'))
      | none => .bad)
    | _ => .bad)
  | _ => .bad
theorem putL_ok {K : PySem.W.Frag} {mg : MG} {β : Bt} {H : Hp} {st : AS} {Q : VK} {x : D} {u : V} {k : List D → Option (D × List D)} (S : Sim K mg β st H) (rx : Rep K H β x u) (h : Post K mg (rD K) E β H Q (putL x st k)) :
    ∃ p us ds r ds', u = .ref p ∧ H p = some (.lst us) ∧ Reps K H β ds us ∧ k ds = some (r, ds') ∧ ∀ us' v, (Rep K H β r v) → Reps K H β ds' us' → Q v (upd H p (.lst us')) := by
  unfold putL at h
  cases rx with
  | ref e =>
    rename_i i p
    dsimp only at h
    split at h
    · rename_i ds e2
      split at h
      · rename_i r ds' ek
        obtain ⟨us, e3, q⟩ := S.cell i p _ e e2
        refine ⟨p, us, ds, r, ds', rfl, e3, q, ek, fun us' v rv q' => ?_⟩
        have hm : p ∈ β.l := List.mem_of_getElem? e
        have x : Ext β H β (upd H p (.lst us')) := ext_put hm e3
        have S' := S.put (o := .lst us') (c := .lst ds') e ⟨us', upd_same, q'.ext x⟩
        exact h β _ v x S' (rv.ext x)
      · exact h.elim
    · exact h.elim
  | _ => exact h.elim
@[simp] def appD (x : D) (xs : List D) (st : AS) : Out D := match xs with
  | [y] => putL x st fun ds => if ds.length < sizeLine then some (.non, ds ++ [y]) else none
  | _ => .bad
theorem one_ok {K : PySem.W.Frag} {H : Hp} {β : Bt} {y : D} {us : List V} (r : Reps K H β [y] us) : ∃ v, us = [v] ∧ Rep K H β y v := by
  cases r with
  | cons a t => cases t; exact ⟨_, rfl, a⟩
theorem om_append : OkM X E "list.append" appD := ⟨_, mt_append, fun β H st x xs u us Q S rx rs h => by
  unfold appD at h
  split at h
  · rename_i y
    obtain ⟨v, rfl, rv⟩ := one_ok rs
    obtain ⟨p, ws, ds, r, ds', rfl, e, q, ek, hq⟩ := putL_ok S rx h
    split at ek
    · rename_i hl
      cases ek
      exact ⟨p, ws, v, rfl, rfl, e, by rw [q.length]; exact hl, hq _ _ .non (q.append (.cons rv .nil))⟩
    · cases ek
  · exact h.elim⟩
@[simp] def extD (x : D) (xs : List D) (st : AS) : Out D := match xs with
  | [y] => (match (match y with | .tup ds => some ds | _ => listW st y) with
    | some zs => putL x st fun ds => if ds.length + zs.length ≤ sizeLine then some (.non, ds ++ zs) else none
    | none => .bad)
  | _ => .bad
@[simp] def popD (x : D) (xs : List D) (st : AS) : Out D := match xs with
  | [] => putL x st fun ds => match ds[ds.length - 1]? with
    | some d => some (d, ds.dropLast)
    | none => none
  | _ => .bad
theorem Reps.dropLast {K : PySem.W.Frag} {H : Hp} {β : Bt} {ds : List D} {us : List V} (r : Reps K H β ds us) : Reps K H β ds.dropLast us.dropLast := by
  rw [List.dropLast_eq_take, List.dropLast_eq_take, r.length]
  exact r.take _
theorem om_pop : OkM X E "list.pop" popD := ⟨_, mt_pop, fun β H st x xs u us Q S rx rs h => by
  unfold popD at h
  split at h
  · cases rs
    obtain ⟨p, ws, ds, r, ds', rfl, e, q, ek, hq⟩ := putL_ok S rx h
    split at ek
    · rename_i d ed
      cases ek
      obtain ⟨v, ev, rv⟩ := q.get ed
      exact ⟨p, ws, v, rfl, rfl, e, by rw [q.length]; exact ev, hq _ _ rv q.dropLast⟩
    · cases ek
  · exact h.elim⟩
end
end VL

set_option Elab.async false
set_option linter.all false
set_option maxRecDepth 100000
set_option maxHeartbeats 2000000
namespace TB
open PySem PySem.Spec PyProof.Rows L2

/-! ### zip(xs, t), xs a list, t a tuple -/
abbrev zLT1 (h : Heap) (a : Addr) : Heap := h.push { cls := .type "list_iterator", data := .fields #[.ref a, .int 0 0] }
abbrev zLT2 (h : Heap) (a b : Addr) : Heap := (zLT1 h a).push { cls := .type "tuple_iterator", data := .fields #[.ref b, .int 0 0] }
abbrev zLT3 (h : Heap) (a b : Addr) : Heap := (zLT2 h a b).push { cls := .type "tuple", data := .seq #[.ref h.objs.size, .ref (zLT1 h a).objs.size] }
abbrev zLT4 (h : Heap) (a b : Addr) : Heap := (zLT3 h a b).push { cls := .type "tuple", data := .seq #[.none, .none] }
abbrev zLT5 (h : Heap) (a b : Addr) : Heap := (zLT4 h a b).push { cls := .type "zip", data := .fields #[.none, .bool false, .bool false, .ref (zLT2 h a b).objs.size, .ref (zLT3 h a b).objs.size] }
theorem zLT_new (a b : Addr) (xs ys : Array Value) :
    Meets (Builtin.«zip.__new__» ⟨[.type "zip", .ref a, .ref b], []⟩) (fun _ R s => s.heap.IsList a xs ∧ s.heap.IsTuple b ys ∧ R (.ok (.ret (.ref (zLT4 s.heap a b).objs.size))) { s with heap := zLT5 s.heap a b }) :=
  .of_wp fun prog w A R st h => by
    obtain ⟨hp, g, d, tk, os⟩ := st
    obtain ⟨ha, hb, h⟩ := h
    have sub := sub_zip
    have iA : Heap.IsList (Shared.heap ⟨hp, g, d, tk, os⟩) a xs := ha
    have iB : Heap.IsTuple (Shared.heap ⟨hp.push { cls := .type "list_iterator", data := .fields #[.ref a, .int 0 0] }, g, d, tk, os⟩) b ys := hb.push _
    wp_walk using wpAny_pyIter_list iA, wpAny_pyIter_tuple iB
    exact ⟨_, rfl, h⟩
section
variable {prog : Program} {w : World} {A : Around} {E : Value → Shared → Prop} {s : Shared}
theorem call_zLT {a b : Addr} {xs ys : Array Value} {Q : Value → Shared → Prop} (ha : s.heap.IsList a xs) (hb : s.heap.IsTuple b ys)
    (h : ∀ (n : Nat) (g : Heap), n = s.heap.objs.size → IsZip g (n + 4) (n + 2) (n + 3) .none → IsPair g (n + 2) (.ref n) (.ref (n + 1)) → IsPair g (n + 3) .none .none → g.IsListIter n a 0 → g.IsTupleIter (n + 1) b 0 →
      (∀ c o, s.heap.get? c = some o → g.get? c = some o) → Q (.ref (n + 4)) { s with heap := g }) :
    wpAny (model prog w) A (call (.type "zip") [.ref a, .ref b]) Q E s := by
  refine callType_new PySem.F.called_zip (by decide) (PySem.F.typeCall_zip_2 _ _) (PySem.F.newCall_zip_2 _ _) (fun o => PySem.F.args_object_init_3 o _ _) PySem.F.entry_zip_new (zLT_new a b xs ys) ⟨ha, hb, ?_⟩
  have e1 : (zLT1 s.heap a).objs.size = s.heap.objs.size + 1 := Heap.size_push ..
  have e2 : (zLT2 s.heap a b).objs.size = s.heap.objs.size + 2 := by rw [Heap.size_push, e1]
  have e3 : (zLT3 s.heap a b).objs.size = s.heap.objs.size + 3 := by rw [Heap.size_push, e2]
  have e4 : (zLT4 s.heap a b).objs.size = s.heap.objs.size + 4 := by rw [Heap.size_push, e3]
  have g5 : (zLT5 s.heap a b).get? (zLT4 s.heap a b).objs.size = some _ := Heap.get?_push_size _ rfl
  have g4 : (zLT5 s.heap a b).get? (zLT3 s.heap a b).objs.size = some _ := Heap.get?_push_of_some _ (Heap.get?_push_size _ rfl)
  have g3 : (zLT5 s.heap a b).get? (zLT2 s.heap a b).objs.size = some _ := Heap.get?_push_of_some _ (Heap.get?_push_of_some _ (Heap.get?_push_size _ rfl))
  have g2 : (zLT5 s.heap a b).get? (zLT1 s.heap a).objs.size = some _ := Heap.get?_push_of_some _ (Heap.get?_push_of_some _ (Heap.get?_push_of_some _ (Heap.get?_push_size _ rfl)))
  have g1 : (zLT5 s.heap a b).get? s.heap.objs.size = some _ := Heap.get?_push_of_some _ (Heap.get?_push_of_some _ (Heap.get?_push_of_some _ (Heap.get?_push_of_some _ (Heap.get?_push_size _ rfl))))
  show _ ∧ _
  rw [e2, e3, e4] at g5
  rw [e1, e2] at g3
  rw [e3] at g4
  rw [e1] at g2
  rw [e4]
  refine ⟨⟨_, g5, rfl⟩, h _ _ rfl g5 g3 g4 ⟨_, g1, rfl, rfl⟩ ⟨_, g2, rfl, rfl⟩ fun c o x => ?_⟩
  iterate 5 apply Heap.get?_push_of_some
  exact x
end

/-- what a turn over zip(t, xs) is -/
def ItLT (K : PySem.W.Frag) (a b : Addr) : It :=
  ⟨fun i H => ∃ (xs ys : List V) (x y : V), SqL K H a xs ∧ SqT K H b ys ∧ xs[i]? = some x ∧ ys[i]? = some y,
    fun i H v H' => ∃ T x y, v = .ref T ∧ H T = none ∧ H' = upd H T (.tup [x, y]) ∧ (∀ xs, SqL K H a xs → xs[i]? = some x) ∧ ∀ ys, SqT K H b ys → ys[i]? = some y,
    fun i H => ∃ xs ys : List V, SqL K H a xs ∧ SqT K H b ys ∧ (xs.length ≤ i ∨ ys.length ≤ i)⟩
theorem turn_LT {P : Program} {w : World} {K : PySem.W.Frag} {elts : List Expr} {kk : Nat} {tpos : Pos} {a b z TI TO i1 i2 : Addr} (V5 : Five z TI TO i1 i2) (nI : TI ≠ TO ∧ TI ≠ i1 ∧ TI ≠ i2) (na : a ∉ [z, TO, i1, i2]) (nb : b ∉ [z, TO, i1, i2]) :
    Turn P w K (.Tuple elts kk tpos) (ItLT K a b) [z, TI, TO, i1, i2] z (fun i h => IsZip h z TI TO .none ∧ IsPair h TI (.ref i1) (.ref i2) ∧ (∃ x y, IsPair h TO x y) ∧ h.IsListIter i1 a i ∧ h.IsTupleIter i2 b i) where
  mem := by simp
  obj := fun i h st c hc => by
    obtain ⟨isz, pI, ⟨x, y, pO⟩, ⟨o1, e1, _, d1⟩, ⟨o2, e2, _, d2⟩⟩ := st
    have five : c = z ∨ c = TI ∨ c = TO ∨ c = i1 ∨ c = i2 := by simpa using hc
    rcases five with rfl | rfl | rfl | rfl | rfl
    · exact ⟨_, isz, fun v q => nomatch q⟩
    · exact ⟨_, pI, fun v q => nomatch q⟩
    · exact ⟨_, pO, fun v q => nomatch q⟩
    · exact ⟨o1, e1, fun v q => by rw [d1] at q; cases q⟩
    · exact ⟨o2, e2, fun v q => by rw [d2] at q; cases q⟩
  keep := fun i h h' st k => by
    obtain ⟨isz, pI, ⟨x, y, pO⟩, h1, h2⟩ := st
    exact ⟨k _ (by simp) _ isz, k _ (by simp) _ pI, ⟨x, y, k _ (by simp) _ pO⟩, h1.at fun o q => k _ (by simp) o q, h2.at fun o q => k _ (by simp) o q⟩
  item := by
    intro X eP eW eK hc i pins s σ H E I hf st hg
    subst eP eW eK
    obtain ⟨isz, pI, ⟨x0, y0, pO⟩, h1, h2⟩ := st
    obtain ⟨xs, ys, x, y, qx, qy, hx, hy⟩ := hg
    obtain ⟨its, rv, p1, _⟩ := I.list qx
    obtain ⟨jts, rw_, p2, _⟩ := I.tuple qy
    obtain ⟨u, at_u, ru⟩ := rv.get hx
    obtain ⟨v, hv, rv2⟩ := rw_.get hy
    have zl : z < s.heap.objs.size := Heap.lt_size isz
    have l1 : i1 < s.heap.objs.size := by obtain ⟨_, e, _⟩ := h1; exact Heap.lt_size e
    have l2 : i2 < s.heap.objs.size := by obtain ⟨_, e, _⟩ := h2; exact Heap.lt_size e
    have na' : a ≠ z ∧ a ≠ TO ∧ a ≠ i1 ∧ a ≠ i2 := by simpa using na
    have nb' : b ≠ z ∧ b ≠ TO ∧ b ≠ i1 ∧ b ≠ i2 := by simpa using nb
    refine zip_step (T1 := fun g => g.IsListIter i1 a (i + 1)) (T2 := fun g => g.IsTupleIter i2 b (i + 1)) V5 isz pI pO ⟨l1, l2⟩ (next_lst h1 p1.isList (x := u) (by simpa using at_u) (by simpa using V5.c) (by simpa using na'.1))
      (next_tup h2 p2 (x := v) (by simpa using hv) (by simpa using ⟨V5.d, V5.g.symm, V5.f.symm⟩) (by simpa using ⟨nb'.1, nb'.2.2.1, nb'.2.1⟩)) (fun g g' t k => t.at k) (fun g g' t k => t.at k) fun g z' TO' t1 t2 hT hsz hk => ?_
    refine ⟨_, rfl, wpAny_letOwnedTupleGo_zip (s := { s with heap := g }) z' fun g2 z2 sb => ?_⟩
    have hT2 : g2.get? s.heap.objs.size = some { cls := .type "tuple", data := .seq #[u, v] } := (sb.2 _ (Nat.ne_of_gt zl)).trans hT
    have new : ObjOk X.prog X.w (upd H s.heap.objs.size (.tup [x, y])) g2 s.heap.objs.size (.tup [x, y]) := ⟨by show 2 ≤ sizeLine; decide, [u, v], .cons ru (.cons rv2 .nil), ⟨_, hT2, rfl, _, rfl⟩⟩
    have I1 : Inv X pins σ (upd H s.heap.objs.size (.tup [x, y])) { s with heap := g2 } := by
      refine I.turnedNew (t' := s.toks) (ch := [z, TI, TO, i1, i2]) (fun c o hb q => ?_) hf (Nat.le_refl _) new
      have n5 : c ≠ z ∧ c ≠ TI ∧ c ≠ TO ∧ c ≠ i1 ∧ c ≠ i2 := by simpa using hb
      exact (sb.2 c n5.1).trans (hk c o (by simpa using ⟨n5.1, n5.2.2.1, n5.2.2.2.1, n5.2.2.2.2⟩) q)
    have up : ∀ c o, c ≠ z → g.get? c = some o → g2.get? c = some o := fun c o n q => (sb.2 c n).trans q
    refine ⟨.ref s.heap.objs.size, _, I1, rfl, ⟨_, x, y, rfl, I.hok.fresh (Nat.le_refl _), rfl, fun l hl => by rw [I.list_inj hl qx]; exact hx, fun l hl => by rw [I.tuple_inj hl qy]; exact hy⟩, ⟨z2, ?_, ⟨u, v, up _ _ V5.b TO'⟩, t1.at fun o q => up _ o V5.c q, t2.at fun o q => up _ o V5.d q⟩, fun c hcm => ?_⟩
    · exact up _ _ V5.a (hk _ _ (by simpa using ⟨V5.a, nI.1, nI.2.1, nI.2.2⟩) pI)
    · have five : c = z ∨ c = TI ∨ c = TO ∨ c = i1 ∨ c = i2 := by simpa using hcm
      have lt : c < s.heap.objs.size := by
        rcases five with rfl | rfl | rfl | rfl | rfl
        · exact zl
        · exact Heap.lt_size pI
        · exact Heap.lt_size pO
        · exact l1
        · exact l2
      rw [upd_ne (Nat.ne_of_lt lt)]
      exact (hf c hcm).1
  done := by
    intro X eP eW eK hc i pins s σ H E I hf st hg
    subst eP eW eK
    obtain ⟨isz, pI, ⟨x0, y0, pO⟩, h1, h2⟩ := st
    obtain ⟨xs, ys, qx, qy, hend⟩ := hg
    obtain ⟨its, rv, p1, _⟩ := I.list qx
    obtain ⟨jts, rw_, p2, _⟩ := I.tuple qy
    have m1 := rv.length
    have m2 := rw_.length
    have na' : a ≠ z ∧ a ≠ TO ∧ a ≠ i1 ∧ a ≠ i2 := by simpa using na
    have nb' : b ≠ z ∧ b ≠ TO ∧ b ≠ i1 ∧ b ≠ i2 := by simpa using nb
    have n : NextEnds X.prog X.w s [z] i1 ∨ (∃ (x : Value) (T : Heap → Prop), NextIs X.prog X.w s [z] i1 x T) ∧ NextEnds X.prog X.w s [z, i1, TO] i2 := by
      by_cases c : xs.length ≤ i
      · exact .inl (ends_lst h1 p1.isList (by simp; omega) (by simpa using V5.c) (by simpa using na'.1))
      · have c2 : ys.length ≤ i := by omega
        exact .inr ⟨⟨its[i]'(by omega), _, next_lst h1 p1.isList (by simp) (by simpa using V5.c) (by simpa using na'.1)⟩, ends_tup h2 p2 (by simp; omega) (by simpa using ⟨V5.d, V5.g.symm, V5.f.symm⟩) (by simpa using ⟨nb'.1, nb'.2.2.1, nb'.2.1⟩)⟩
    refine zip_stop (I.ok.hd hc) V5 isz pI pO n fun g hk => ⟨rfl, I.turnedL (t' := s.toks) (ch := [z, TI, TO, i1, i2]) (fun c o hb q => ?_) hf⟩
    have n5 : c ≠ z ∧ c ≠ TI ∧ c ≠ TO ∧ c ≠ i1 ∧ c ≠ i2 := by simpa using hb
    exact hk c o (by simpa using ⟨n5.1, n5.2.2.1, n5.2.2.2.1, n5.2.2.2.2⟩) q
  self := fun _ _ _ _ _ st h => wpAny_pyIter_zip st.1 h

def iLT (K : PySem.W.Frag) (ta : TA) : TI := fun σ H R => ta σ H fun vs H1 => ∃ a b xs ys, vs = [.ref a, .ref b] ∧ SqL K H1 a xs ∧ SqT K H1 b ys ∧ R (ItLT K a b) H1
theorem pi_zipLT {X : Cx} {e e2 : Expr} {ta : TA} {p pos tpos : Pos} {elts : List Expr} {kk : Nat} (hg : Gl X "zip") (hm : X.mg "zip" = none) (ha : PA X [e, e2] ta)
    (hs : starEach [e, e2] X.env = (false, eval e X.env) :: starEach [e2] X.env := by rfl) (hpl : (backTo pos (starEach [e2] X.env)).any (·.1) = false := by rfl) : PI X (.Tuple elts kk tpos) (.Call (.Name "zip" p) [e, e2] [] pos) (iLT X.K ta) := by
  refine ⟨fun pins s0 σ H R I h => ?_⟩
  refine Call_ (ld_blt I hg hm PyProof.Rows.boot_zip (PyProof.Rows.callWith_type1 (thn (ha.run pos pins s0 σ H _ I h) fun us u ⟨vs, H1, I1, r1, q1⟩ => ?_) hs hpl))
  obtain ⟨a, b, xs, ys, rfl, qx, qy, q⟩ := q1
  cases r1 with
  | cons r rr =>
    cases rr with
    | cons r' rr =>
      cases rr
      cases r
      cases r'
      obtain ⟨its, rv, p1, _⟩ := I1.list qx
      obtain ⟨jts, rw_, p2, _⟩ := I1.tuple qy
      have la : a < u.heap.objs.size := p1.lt
      have lb : b < u.heap.objs.size := by obtain ⟨o, ho, _⟩ := id p2; exact Heap.lt_size ho
      refine call_zLT (xs := its.toArray) p1.isList p2 fun n g hn hz hTI hTO h1 h2 hk => wpAny_pyIter_zip hz ?_
      have I2 : Inv X pins σ H1 { u with heap := g } := I1.kept (t' := u.toks) hk
      have fr : ∀ c, c ∈ [n + 4, n + 2, n + 3, n, n + 1] → FpOk X pins H1 c := fun c hcm => by
        have five : c = n + 4 ∨ c = n + 2 ∨ c = n + 3 ∨ c = n ∨ c = n + 1 := by simpa using hcm
        have le : u.heap.objs.size ≤ c := by rw [← hn]; omega
        exact I1.fpOk le (I1.hok.fresh le)
      refine ⟨n + 4, [n + 4, n + 2, n + 3, n, n + 1], _, _, H1, rfl, I2, turn_LT (z := n + 4) (TI := n + 2) (TO := n + 3) (i1 := n) (i2 := n + 1) (five_at n) (six_at n) (five_out (by rw [hn]; exact la)) (five_out (by rw [hn]; exact lb)), ⟨hz, hTI, ⟨_, _, hTO⟩, h1, h2⟩, fr, q⟩
section
variable {K : PySem.W.Frag} {a b : Addr} {xs ys : List V}
theorem walk_LT {n : Nat} (hn : n = min xs.length ys.length) : Walk (ItLT K a b) n (fun H => SqL K H a xs ∧ SqT K H b ys) (YPair (fun i => xs[i]?) (fun i => ys[i]?)) := by
  refine ⟨fun i H hi q => ?_, fun H q => ?_, fun i H x H' hi q y => ?_⟩
  · have b1 : i < xs.length := by omega
    have b2 : i < ys.length := by omega
    exact ⟨xs, ys, xs[i], ys[i], q.1, q.2, by simp [b1], by simp [b2]⟩
  · exact ⟨xs, ys, q.1, q.2, by omega⟩
  · obtain ⟨T, u, v, c1, c2, c3, c4, c5⟩ := y
    exact ⟨T, u, v, c1, c2, c3, c4 xs q.1, c5 ys q.2⟩
end
end TB

set_option Elab.async false
set_option linter.all false
set_option maxRecDepth 100000
/-! The value layer: targets, statements, loops, comprehensions. -/
namespace VL
open PySem PySem.Spec PyProof.Rows L2 TB

/-! ### targets -/
abbrev rE (K : PySem.W.Frag) (σ : L2.St) (ws : List Nat) : Hp → Bt → En → L2.St → Prop := fun H β env σ2 => EnvR K H β env σ2 ∧ σ2.length = σ.length ∧ ∀ j, j ∉ ws → σ2[j]? = σ[j]?
def tVG (K : PySem.W.Frag) (mg : MG) (E : XK) (ws : List Nat) (g : D → En → AS → Out En) : TG := fun v σ H Q => ∃ (β : Bt) (env : En) (st : AS) (d : D), EnvR K H β env σ ∧ Sim K mg β st H ∧ Rep K H β d v ∧ Post K mg (rE K σ ws) E β H Q (g d env st)
def tVGs (K : PySem.W.Frag) (mg : MG) (E : XK) (ws : List Nat) (g : List D → En → AS → Out En) : TGs := fun vs σ H Q => ∃ (β : Bt) (env : En) (st : AS) (ds : List D), EnvR K H β env σ ∧ Sim K mg β st H ∧ Reps K H β ds vs ∧ Post K mg (rE K σ ws) E β H Q (g ds env st)
/-- a target; the slots that it fills -/
abbrev VG (X : Cx) (E : XK) (tg : Expr) (ws : List Nat) (g : D → En → AS → Out En) : Prop := PG X tg (tVG X.K X.mgw E ws g)
abbrev VGs (X : Cx) (E : XK) (tgs : List Expr) (ws : List Nat) (g : List D → En → AS → Out En) : Prop := PGs X tgs (tVGs X.K X.mgw E ws g)
theorem weakG {X : Cx} {e : Expr} {t t' : TG} (h : PG X e t) (w : ∀ v σ H Q, t' v σ H Q → t v σ H Q) : PG X e t' := ⟨fun pins s σ H v u Q I r q => h.run pins s σ H v u Q I r (w v σ H Q q)⟩
theorem weakGs {X : Cx} {e : List Expr} {t t' : TGs} (h : PGs X e t) (w : ∀ v σ H Q, t' v σ H Q → t v σ H Q) : PGs X e t' := ⟨fun pins s σ H v u Q I r q => h.run pins s σ H v u Q I r (w v σ H Q q)⟩
@[simp] def kName (i : Nat) (d : D) (env : En) (st : AS) : Out En := .ok (env.set i (some d)) st
@[simp] def kNil (ds : List D) (env : En) (st : AS) : Out En := match ds with
  | [] => .ok env st
  | _ :: _ => .bad
@[simp] def kCons (g : D → En → AS → Out En) (gs : List D → En → AS → Out En) (ds : List D) (env : En) (st : AS) : Out En := match ds with
  | [] => .bad
  | d :: r => (g d env st).bind fun env st => gs r env st
@[simp] def kTup (n : Nat) (gs : List D → En → AS → Out En) (d : D) (env : En) (st : AS) : Out En := match d with
  | .tup ds => if ds.length = n then gs ds env st else .bad
  | .ctp ds => if ds.length = n then gs ds env st else .bad
  | _ => .bad
section
variable {X : Cx} {E : XK} {e : Expr} {es : List Expr} {g : D → En → AS → Out En} {gs : List D → En → AS → Out En} {pos : Pos}
theorem vg_name {i : Nat} {x : Str} (hN : X.N.Nodup) (hi : X.N[i]? = some x) (hx : Loc X.env.scope x) (hf : X.fn x = true ∨ X.env.scope.names.lookup x = some .local := by first | exact .inl rfl | exact .inr rfl | assumption) : VG X E (.Name x pos) [i] (kName i) :=
  weakG (pg_name hN hi hx hf) fun v σ H Q ⟨β, env, st, d, he, hs, r, h⟩ => h.here hs ⟨he.set r i, by simp, fun j hj => List.getElem?_set_ne (fun z => hj (by simp [z]))⟩
theorem vgs_nil : VGs X E [] [] kNil := weakGs pgs_nil fun vs σ H Q ⟨β, env, st, ds, he, hs, r, h⟩ => by
  cases r with
  | nil => exact ⟨rfl, h.here hs ⟨he, rfl, fun _ _ => rfl⟩⟩
  | cons _ _ => exact h.elim
theorem post_step {K : PySem.W.Frag} {mg : MG} {α ρ γ τ : Type} {R : Hp → Bt → α → ρ → Prop} {R' : Hp → Bt → γ → τ → Prop} {β : Bt} {H : Hp} {Q : τ → Hp → Prop} {Q' : ρ → Hp → Prop} {o : Out α} {k : α → AS → Out γ} (h : Post K mg R' E β H Q (o.bind k))
    (hk : ∀ a st1 β1 H1 u, Ext β H β1 H1 → Sim K mg β1 st1 H1 → R H1 β1 a u → Post K mg R' E β1 H1 Q (k a st1) → Q' u H1) : Post K mg R E β H Q' o := by
  cases o with
  | ok a st => exact fun β1 H1 u x s r => hk a st β1 H1 u x s r (Post.ext x h)
  | exc c fs st => exact h
  | bad => exact h
theorem vgs_cons {w1 w2 : List Nat} (h1 : VG X E e w1 g) (h2 : VGs X E es w2 gs) (hs : (assignEach (e :: es) X.env).map (·.2) = assign e X.env :: (assignEach es X.env).map (·.2) := by rfl) : VGs X E (e :: es) (w1 ++ w2) (kCons g gs) :=
  weakGs (pgs_cons h1 h2 hs) fun vs σ H Q ⟨β, env, st, ds, he, hS, r, h⟩ => by
    cases r with
    | nil => exact h.elim
    | cons r t =>
      refine ⟨_, _, rfl, β, env, st, _, he, hS, r, ?_⟩
      refine post_step h fun env1 st1 β1 H1 σ1 x s e1 h1 => ⟨β1, env1, st1, _, e1.1, s, t.ext x, ?_⟩
      cases o : gs _ env1 st1 with
      | bad => rw [o] at h1; exact h1
      | exc c fs st2 => rw [o] at h1; exact h1
      | ok env2 st2 =>
        rw [o] at h1
        exact fun β2 H2 σ2 x2 s2 e2 => h1 β2 H2 σ2 x2 s2 ⟨e2.1, e2.2.1.trans e1.2.1, fun j hj => (e2.2.2 j fun z => hj (List.mem_append_right _ z)).trans (e1.2.2 j fun z => hj (List.mem_append_left _ z))⟩
theorem vg_tup {k n : Nat} {ws : List Nat} (hc : X.calm = true) (h : VGs X E es ws gs) (hn : (assignEach es X.env).length = n := by rfl) (hst : (assignEach es X.env).findIdx? (·.1) = none := by rfl) : VG X E (.Tuple es k pos) ws (kTup n gs) :=
  weakG (pg_tup hc h hn hst) fun v σ H Q ⟨β, env, st, d, he, hs, r, h⟩ => by
    unfold kTup at h
    cases r with
    | tup nm e r =>
      obtain ⟨hl, h⟩ := h.ite
      exact ⟨_, _, rfl, .inl (.inl e), by rw [r.length]; exact hl, β, env, st, _, he, hs, r, h⟩
    | ctp e r =>
      obtain ⟨hl, h⟩ := h.ite
      exact ⟨_, _, rfl, e.sq, by rw [r.length]; exact hl, β, env, st, _, he, hs, r, h⟩
    | _ => exact h.elim
/-- a list unpacked -/
@[simp] def kLst (n : Nat) (gs : List D → En → AS → Out En) (d : D) (env : En) (st : AS) : Out En := match listOf st d with
  | some ds => if ds.length = n then gs ds env st else .bad
  | none => .bad
theorem vg_lst {k n : Nat} {ws : List Nat} (hc : X.calm = true) (h : VGs X E es ws gs) (hn : (assignEach es X.env).length = n := by rfl) (hst : (assignEach es X.env).findIdx? (·.1) = none := by rfl) : VG X E (.Tuple es k pos) ws (kLst n gs) :=
  weakG (pg_lst hc h hn hst) fun v σ H Q ⟨β, env, st, d, he, hs, r, h⟩ => by
    unfold kLst at h
    split at h
    · rename_i ds e
      obtain ⟨hl, h⟩ := h.ite
      obtain ⟨p, us, rfl, hq, r⟩ := hs.lists r e
      exact ⟨_, _, rfl, hq, by rw [r.length]; exact hl, β, env, st, _, he, hs, r, h⟩
    · exact h.elim
/-! a[i] = v -/
def putKD {κ : Type} [DecidableEq κ] (kvs : List (κ × D)) (k : κ) (d : D) : List (κ × D) :=
  if (kvs.any fun kv => decide (kv.1 = k)) = true then kvs.map fun kv => if kv.1 = k then (kv.1, d) else kv else kvs ++ [(k, d)]
@[simp] def setD (o i v : D) (st : AS) : Out Unit := match o with
  | .ref n => (match st[n]? with
    | some (.lst ds) => (match i with
      | .int k => (match ixN ds.length k with
        | some j => .ok () (st.set n (.lst (ds.set j v)))
        | none => .bad)
      | _ => .bad)
    | some (.dct kvs) => (match keyD i with
      | some k => if kvs.length < sizeLine then .ok () (st.set n (.dct (putKD kvs k v))) else .bad
      | none => .bad)
    | some (.dtt kvs) => (match i with
      | .tup ks => (match keysD ks with
        | some k => if kvs.length < sizeLine then .ok () (st.set n (.dtt (putKD kvs k v))) else .bad
        | none => .bad)
      | _ => .bad)
    | _ => .bad)
  | _ => .bad
def rSetD : TSet := fun o i v H Q => ∃ a H', o = .ref a ∧ DPut H a i v H' ∧ Q H'
theorem set_dict (hu : X.A.units + 1 < cLine) : PSet X rSetD := by
  intro pins s σ H o i v ov iv u Q I ro ri rv h
  obtain ⟨a, H', rfl, g, q⟩ := h
  obtain rfl : ov = Value.ref a := ro
  exact d_setItem hu I g ri rv fun s' I' => ⟨H', I', q⟩
theorem psetOr {t t' : TSet} (h : PSet X t) (h' : PSet X t') : PSet X (fun o i v H Q => t o i v H Q ∨ t' o i v H Q) := by
  intro pins s σ H o i v ov iv u Q I ro ri rv q
  rcases q with q | q
  · exact h pins s σ H o i v ov iv u Q I ro ri rv q
  · exact h' pins s σ H o i v ov iv u Q I ro ri rv q
theorem RepK.put {κ : Type} [DecidableEq κ] {K : PySem.W.Frag} {H : Hp} {β : Bt} {kvs : List (κ × D)} {us : List (κ × V)} (h : RepK K H β kvs us) {d : D} {u : V} (r : Rep K H β d u) (k : κ) : RepK K H β (putKD kvs k d) (putK us k u) := by
  have ha : (us.any fun kv => decide (kv.1 = k)) = kvs.any fun kv => decide (kv.1 = k) := by
    rw [valV_any]
    exact h.any k
  unfold putKD putK
  rw [ha]
  split
  · have go : ∀ {kvs : List (κ × D)} {us : List (κ × V)}, RepK K H β kvs us → RepK K H β (kvs.map fun kv => if kv.1 = k then (kv.1, d) else kv) (us.map fun kv => if kv.1 = k then (kv.1, u) else kv) := by
      intro kvs
      induction kvs with
      | nil =>
        intro us h
        have : us = [] := List.length_eq_zero_iff.mp h.length
        subst this
        exact h
      | cons kv kvs ih =>
        intro us h
        cases us with
        | nil => exact absurd h.length (by simp)
        | cons w us =>
          obtain ⟨h1, h2⟩ := h
          simp only [List.map_cons, List.cons.injEq] at h1
          cases h2 with
          | cons r1 t =>
            obtain ⟨i1, i2⟩ := ih (us := us) ⟨h1.2, t⟩
            simp only [List.map_cons]
            by_cases e : kv.1 = k
            · have e' : w.1 = k := h1.1.symm.trans e
              rw [if_pos e, if_pos e']
              exact ⟨by simp only [List.map_cons, i1, h1.1], .cons r i2⟩
            · have e' : ¬ w.1 = k := fun z => e (h1.1.trans z)
              rw [if_neg e, if_neg e']
              exact ⟨by simp only [List.map_cons, i1, h1.1], .cons r1 i2⟩
    exact go h
  · refine ⟨?_, ?_⟩
    · rw [List.map_append, List.map_append, h.1]
      rfl
    · rw [List.map_append, List.map_append]
      exact h.2.append (.cons r .nil)
theorem set_ok {K : PySem.W.Frag} {mg : MG} {β : Bt} {H : Hp} {st : AS} {o i v : D} {uo ui uv : V} {Q : Hp → Prop} (S : Sim K mg β st H) (ro : Rep K H β o uo) (ri : Rep K H β i ui) (rv : Rep K H β v uv)
    (h : Post (ρ := Unit) K mg (fun _ _ _ _ => True) E β H (fun _ H' => Q H') (setD o i v st)) : rSetL uo ui uv H Q ∨ rSetD uo ui uv H Q := by
  unfold setD at h
  cases ro with
  | ref er =>
    rename_i n p
    have hm : p ∈ β.l := List.mem_of_getElem? er
    dsimp only at h
    split at h
    · rename_i ds e2
      cases ri with
      | int k =>
        dsimp only at h
        split at h
        · rename_i j ej
          obtain ⟨us, e3, q⟩ := S.cell n p _ er e2
          refine .inl ⟨p, us, k, j, rfl, rfl, e3, by rw [q.length]; exact ej, ?_⟩
          have x : Ext β H β (upd H p (.lst (us.set j uv))) := ext_put hm e3
          have S' := S.put (o := .lst (us.set j uv)) (c := .lst (ds.set j v)) er ⟨_, upd_same, (Reps.set rv j q).ext x⟩
          exact h β _ () x S' trivial
        · exact h.elim
      | _ => exact h.elim
    · rename_i kvs e2
      split at h
      · rename_i k ek
        obtain ⟨hl, h⟩ := h.ite
        obtain ⟨us, e3, q⟩ := S.cell n p _ er e2
        rw [ri.key ek]
        refine .inr ⟨p, _, rfl, DPut.k e3 (by rw [q.length]; exact hl), ?_⟩
        have x : Ext β H β (upd H p (.dK (putK us k uv))) := ext_put hm e3
        have S' := S.put (o := .dK (putK us k uv)) (c := .dct (putKD kvs k v)) er ⟨_, upd_same, (q.put rv k).ext x⟩
        exact h β _ () x S' trivial
      · exact h.elim
    · rename_i kvs e2
      cases ri with
      | tup n2 e4 r4 =>
        dsimp only at h
        split at h
        · rename_i k ek
          obtain ⟨hl, h⟩ := h.ite
          obtain ⟨us, e3, q⟩ := S.cell n p _ er e2
          have z := r4.keys ek
          subst z
          refine .inr ⟨p, _, rfl, DPut.t e3 e4 (by rw [q.length]; exact hl), ?_⟩
          have x : Ext β H β (upd H p (.dT (putK us k uv))) := ext_put hm e3
          have S' := S.put (o := .dT (putK us k uv)) (c := .dtt (putKD kvs k v)) er ⟨_, upd_same, (q.put rv k).ext x⟩
          exact h β _ () x S' trivial
        · exact h.elim
      | _ => exact h.elim
    · exact h.elim
  | _ => exact h.elim
@[simp] def kSub (fo fi : En → AS → Out D) (d : D) (env : En) (st : AS) : Out En := (fo env st).bind fun o st => (fi env st).bind fun i st => (setD o i d st).bind fun _ st => .ok env st
theorem vg_sub (hu : X.A.units + 65 < cLine) {o i : Expr} {fo fi : En → AS → Out D} (ho : VE X E o fo) (hi : VE X E i fi)
    (ha : ∀ v, assign (.Subscript o i pos) X.env v = (do
      let ov ← holding [v] (eval o X.env)
      let iv ← holding [v, ov] (eval i X.env)
      standAt pos
      holding [v, ov, iv] (setItem ov iv v)
      release [v, ov, iv] []) := by intro _; rfl) : VG X E (.Subscript o i pos) [] (kSub fo fi) :=
  weakG (pg_sub ho hi (psetOr set_list (set_dict (Nat.lt_of_le_of_lt (by omega) hu))) ha) fun v σ H Q ⟨β, env, st, d, he, hs, r, h⟩ => by
    refine tG_bind he hs h fun x st1 β1 H1 u x1 s1 e1 r1 h1 => ?_
    refine tG_bind e1 s1 h1 fun y st2 β2 H2 w x2 s2 e2 r2 h2 => ?_
    refine set_ok (E := E) s2 (r1.ext x2) r2 ((r.ext x1).ext x2) ?_
    refine post_step (R := fun _ _ _ _ => True) h2 fun _ st3 β3 H3 _ x3 s3 _ h3 => h3.here s3 ⟨e2.ext x3, rfl, fun _ _ => rfl⟩
end

/-! ### statements -/
inductive Fl where
  | nx (env : En) (s : AS) | rt (d : D) (s : AS) | bk (env : En) (s : AS) | ct (env : En) (s : AS)
  | exc (c : Str) (fs : List (Str × D)) (s : AS) | bad
def PostS (K : PySem.W.Frag) (mg : MG) (E : XK) (β : Bt) (H : Hp) (De : Ends) : Fl → Prop
  | .nx env st => ∀ β' H' σ', Ext β H β' H' → Sim K mg β' st H' → EnvR K H' β' env σ' → De.nx σ' H'
  | .bk env st => ∀ β' H' σ', Ext β H β' H' → Sim K mg β' st H' → EnvR K H' β' env σ' → De.bk σ' H'
  | .ct env st => ∀ β' H' σ', Ext β H β' H' → Sim K mg β' st H' → EnvR K H' β' env σ' → De.ct σ' H'
  | .rt d st => ∀ β' H' u, Ext β H β' H' → Sim K mg β' st H' → Rep K H' β' d u → De.rt u H'
  | .exc c fs st => ∀ β' H' cls d, Ext β H β' H' → Sim K mg β' st H' → XRep K mg H' β' c fs cls d → E cls d H'
  | .bad => False
def tVS (K : PySem.W.Frag) (mg : MG) (E : XK) (f : En → AS → Fl) : TS := fun De σ H => ∃ (β : Bt) (env : En) (st : AS), EnvR K H β env σ ∧ Sim K mg β st H ∧ PostS K mg E β H De (f env st)
abbrev VS (X : Cx) (E : XK) (s : Stmt) (f : En → AS → Fl) : Prop := PS X s (tVS X.K X.mgw E f)
abbrev VSs (X : Cx) (E : XK) (s : List Stmt) (f : En → AS → Fl) : Prop := PSs X s (tVS X.K X.mgw E f)
def Out.fl {α : Type} (o : Out α) (k : α → AS → Fl) : Fl := match o with
  | .ok a s => k a s
  | .exc c fs s => .exc c fs s
  | .bad => .bad
@[simp] theorem Out.fl_ok {α : Type} (a : α) (s : AS) (k : α → AS → Fl) : (Out.ok a s).fl k = k a s := rfl
@[simp] theorem Out.fl_exc {α : Type} (c : Str) (fs : List (Str × D)) (s : AS) (k : α → AS → Fl) : (Out.exc c fs s : Out α).fl k = .exc c fs s := rfl
@[simp] theorem Out.fl_bad {α : Type} (k : α → AS → Fl) : (Out.bad : Out α).fl k = .bad := rfl
section
variable {K : PySem.W.Frag} {mg : MG} {E : XK} {β β' : Bt} {H H' : Hp} {De : Ends}
theorem PostS.ext {f : Fl} (x : Ext β H β' H') (h : PostS K mg E β H De f) : PostS K mg E β' H' De f := by
  cases f with
  | nx env st => exact fun β2 H2 u x2 s r => h β2 H2 u (x.trans x2) s r
  | rt d st => exact fun β2 H2 u x2 s r => h β2 H2 u (x.trans x2) s r
  | bk env st => exact fun β2 H2 u x2 s r => h β2 H2 u (x.trans x2) s r
  | ct env st => exact fun β2 H2 u x2 s r => h β2 H2 u (x.trans x2) s r
  | exc c fs st => exact fun β2 H2 cls d x2 s r => h β2 H2 cls d (x.trans x2) s r
  | bad => exact h
theorem fl_post {α ρ : Type} {R : Hp → Bt → α → ρ → Prop} {Q' : ρ → Hp → Prop} {o : Out α} {k : α → AS → Fl} (h : PostS K mg E β H De (o.fl k))
    (hk : ∀ a st1 β1 H1 u, Ext β H β1 H1 → Sim K mg β1 st1 H1 → R H1 β1 a u → PostS K mg E β1 H1 De (k a st1) → Q' u H1) : Post K mg R E β H Q' o := by
  cases o with
  | ok a st => exact fun β1 H1 u x s r => hk a st β1 H1 u x s r (PostS.ext x h)
  | exc c fs st => exact h
  | bad => exact h
theorem fl_bind {α ρ : Type} {R : Hp → Bt → α → ρ → Prop} {Q' : ρ → Hp → Prop} {f : En → AS → Out α} {k : α → AS → Fl} {env : En} {st : AS} {σ : L2.St} (he : EnvR K H β env σ) (hs : Sim K mg β st H) (h : PostS K mg E β H De ((f env st).fl k))
    (hk : ∀ a st1 β1 H1 u, Ext β H β1 H1 → Sim K mg β1 st1 H1 → EnvR K H1 β1 env σ → R H1 β1 a u → PostS K mg E β1 H1 De (k a st1) → Q' u H1) : tG K mg R E f σ H Q' :=
  ⟨β, env, st, he, hs, fl_post h fun a st1 β1 H1 u x s r q => hk a st1 β1 H1 u x s (he.ext x) r q⟩
end
@[simp] def sNext (env : En) (st : AS) : Fl := .nx env st
def Fl.seq (o : Fl) (g : En → AS → Fl) : Fl := match o with
  | .nx env st => g env st
  | .rt d st => .rt d st
  | .bk env st => .bk env st
  | .ct env st => .ct env st
  | .exc c fs st => .exc c fs st
  | .bad => .bad
@[simp] theorem Fl.seq_nx (env : En) (st : AS) (g : En → AS → Fl) : (Fl.nx env st).seq g = g env st := rfl
@[simp] theorem Fl.seq_rt (d : D) (st : AS) (g : En → AS → Fl) : (Fl.rt d st).seq g = .rt d st := rfl
@[simp] theorem Fl.seq_bk (env : En) (st : AS) (g : En → AS → Fl) : (Fl.bk env st).seq g = .bk env st := rfl
@[simp] theorem Fl.seq_ct (env : En) (st : AS) (g : En → AS → Fl) : (Fl.ct env st).seq g = .ct env st := rfl
@[simp] theorem Fl.seq_exc (c : Str) (fs : List (Str × D)) (st : AS) (g : En → AS → Fl) : (Fl.exc c fs st).seq g = .exc c fs st := rfl
@[simp] theorem Fl.seq_bad (g : En → AS → Fl) : (Fl.bad).seq g = .bad := rfl
theorem Fl.seq_ite {p : Prop} [Decidable p] (a b : Fl) (g : En → AS → Fl) : (if p then a else b).seq g = if p then a.seq g else b.seq g := by split <;> rfl
theorem Out.fl_ite {α : Type} {p : Prop} [Decidable p] (a b : Out α) (k : α → AS → Fl) : (if p then a else b).fl k = if p then a.fl k else b.fl k := by split <;> rfl
theorem Out.bind_ite {α β : Type} {p : Prop} [Decidable p] (a b : Out α) (k : α → AS → Out β) : (if p then a else b).bind k = if p then a.bind k else b.bind k := by split <;> rfl
@[simp] def sSeq (f g : En → AS → Fl) (env : En) (st : AS) : Fl := (f env st).seq g
@[simp] def sBreak (env : En) (st : AS) : Fl := .bk env st
@[simp] def sCont (env : En) (st : AS) : Fl := .ct env st
@[simp] def sBad : En → AS → Fl := fun _ _ => .bad
@[simp] def sExpr (f : En → AS → Out D) (env : En) (st : AS) : Fl := (f env st).fl fun _ st => .nx env st
@[simp] def sRet (f : En → AS → Out D) (env : En) (st : AS) : Fl := (f env st).fl fun d st => .rt d st
@[simp] def sIf (c : En → AS → Out Bool) (f g : En → AS → Fl) (env : En) (st : AS) : Fl := (c env st).fl fun b st => if b = true then f env st else g env st
@[simp] def sSet (i : Nat) (f : En → AS → Out D) (env : En) (st : AS) : Fl := (f env st).fl fun d st => .nx (env.set i (some d)) st
@[simp] def sAsg (f : En → AS → Out D) (g : D → En → AS → Out En) (env : En) (st : AS) : Fl := (f env st).fl fun d st => (g d env st).fl fun env st => .nx env st
@[simp] def sPar (i j : Nat) (f : En → AS → Out (List D)) (env : En) (st : AS) : Fl := (f env st).fl fun ds st => match ds with
  | [a, b] => .nx ((env.set i (some a)).set j (some b)) st
  | _ => .bad
@[simp] def sPar3 (i j l : Nat) (f : En → AS → Out (List D)) (env : En) (st : AS) : Fl := (f env st).fl fun ds st => match ds with
  | [a, b, c] => .nx (((env.set i (some a)).set j (some b)).set l (some c)) st
  | _ => .bad
section
variable {X : Cx} {E : XK} {s : Stmt} {ss : List Stmt} {f g : En → AS → Fl} {e : Expr} {fe : En → AS → Out D} {pos : Pos}
theorem vss_nil : VSs X E [] sNext := weakSs pss_nil fun De σ H ⟨β, env, st, he, hs, h⟩ => h β H σ (Ext.refl _ _) hs he
theorem vss_one (h : VS X E s f) : VSs X E [s] f := pss_one h
theorem vss_cons (h1 : VS X E s f) (h2 : VSs X E ss g) : VSs X E (s :: ss) (sSeq f g) := by
  refine weakSs (pss_cons h1 h2) fun De σ H ⟨β, env, st, he, hs, h⟩ => ⟨β, env, st, he, hs, ?_⟩
  unfold sSeq Fl.seq at h
  cases e : f env st with
  | nx env1 st1 =>
    rw [e] at h
    exact fun β1 H1 σ1 x s1 e1 => ⟨β1, env1, st1, e1, s1, PostS.ext x h⟩
  | rt d st1 => rw [e] at h; exact h
  | bk d st1 => rw [e] at h; exact h
  | ct d st1 => rw [e] at h; exact h
  | exc c fs st1 => rw [e] at h; exact h
  | bad => rw [e] at h; exact h
theorem vs_pass : VS X E (.Pass pos) sNext := weakS ps_pass fun De σ H ⟨β, env, st, he, hs, h⟩ => h β H σ (Ext.refl _ _) hs he
theorem vs_break : VS X E (.Break pos) sBreak := weakS ps_break fun De σ H ⟨β, env, st, he, hs, h⟩ => h β H σ (Ext.refl _ _) hs he
theorem vs_continue : VS X E (.Continue pos) sCont := weakS ps_continue fun De σ H ⟨β, env, st, he, hs, h⟩ => h β H σ (Ext.refl _ _) hs he
theorem vs_never : VS X E s sBad := weakS ps_never fun De σ H ⟨β, env, st, he, hs, h⟩ => h
theorem vs_expr (he : VE X E e fe) (hs : swapsWith e none pos.line X.env = pure false := by rfl) : VS X E (.Expr e pos) (sExpr fe) :=
  weakS (ps_expr he hs) fun De σ H ⟨β, env, st, he, hs, h⟩ => fl_bind he hs h fun a st1 β1 H1 u x s1 e1 r1 h1 => h1 β1 H1 σ (Ext.refl _ _) s1 e1
theorem vs_ret (he : VE X E e fe) : VS X E (.Return (some e) pos) (sRet fe) :=
  weakS (ps_ret he) fun De σ H ⟨β, env, st, he, hs, h⟩ => fl_bind he hs h fun a st1 β1 H1 u x s1 e1 r1 h1 => h1 β1 H1 u (Ext.refl _ _) s1 r1
theorem vs_retN : VS X E (.Return none pos) (fun _ st => .rt .non st) := weakS ps_retN fun De σ H ⟨β, env, st, he, hs, h⟩ => h β H .non (Ext.refl _ _) hs .non
theorem vs_if {c : Expr} {a b : List Stmt} {fc : En → AS → Out Bool} (hc : VT X E c fc) (ha : VSs X E a f) (hb : VSs X E b g) : VS X E (.If c a b pos) (sIf fc f g) :=
  weakS (ps_if hc ha hb) fun De σ H ⟨β, env, st, he, hs, h⟩ => fl_bind he hs h fun k st1 β1 H1 u x s1 e1 r1 h1 => by
    obtain rfl : k = u := r1
    cases k with
    | true => exact ⟨β1, env, st1, e1, s1, h1⟩
    | false => exact ⟨β1, env, st1, e1, s1, h1⟩
theorem vs_set {i : Nat} {x : Str} {pos' : Pos} (hN : X.N.Nodup) (hi : X.N[i]? = some x) (hx : Loc X.env.scope x) (he : VE X E e fe) (hs : swapsWith e (some (.Name x pos')) pos.line X.env = pure false := by rfl) (hf : X.fn x = true ∨ X.env.scope.names.lookup x = some .local := by first | exact .inl rfl | exact .inr rfl | assumption) :
    VS X E (.Assign [.Name x pos'] e pos) (sSet i fe) :=
  weakS (ps_set hN hi hx he hs hf) fun De σ H ⟨β, env, st, he, hs, h⟩ => fl_bind he hs h fun a st1 β1 H1 u x s1 e1 r1 h1 => h1 β1 H1 _ (Ext.refl _ _) s1 (e1.set r1 i)
theorem vs_asg {tg : Expr} {gt : D → En → AS → Out En} {ws : List Nat} (he : VE X E e fe) (hg : VG X E tg ws gt) (hs : swapsWithSole [tg] e pos.line X.env = pure false := by rfl) (hw : swappedStores [tg] e X.env = pure none := by rfl)
    (h1 : (assignEach [tg] X.env).map (·.2) = [assign tg X.env] := by rfl) : VS X E (.Assign [tg] e pos) (sAsg fe gt) :=
  weakS (ps_asg he hg hs hw h1) fun De σ H ⟨β, env, st, he, hs, h⟩ => fl_bind he hs h fun a st1 β1 H1 u x s1 e1 r1 h1 =>
    ⟨β1, env, st1, a, e1, s1, r1, fl_post h1 fun env2 st2 β2 H2 σ2 x2 s2 e2 h2 => h2 β2 H2 σ2 (Ext.refl _ _) s2 e2.1⟩
end
end VL

set_option Elab.async false
set_option linter.all false
set_option maxRecDepth 100000
/-! The value layer: loops and comprehensions. -/
namespace VL
open PySem PySem.Spec PyProof.Rows L2 TB

section
variable {X : Cx} {E : XK} {s : Stmt} {ss : List Stmt} {f g : En → AS → Fl} {e : Expr} {fe : En → AS → Out D} {pos : Pos}
theorem vs_par {i j : Nat} {x y : Str} {a b : Expr} {fs : En → AS → Out (List D)} {px py pt : Pos} {kt k2 pt2} (hc : X.calm = true) (hN : X.N.Nodup) (hi : X.N[i]? = some x) (hj : X.N[j]? = some y) (hij : i ≠ j)
    (hx : X.env.scope.names.lookup x = some .local) (hy : X.env.scope.names.lookup y = some .local) (ha : VA X E [a, b] fs)
    (hw : swappedStores [.Tuple [.Name x px, .Name y py] kt pt] (.Tuple [a, b] k2 pt2) X.env = pure (some [x, y]))
    (hs : swapsWithSole [.Tuple [.Name x px, .Name y py] kt pt] (.Tuple [a, b] k2 pt2) pos.line X.env = pure false := by rfl) :
    VS X E (.Assign [.Tuple [.Name x px, .Name y py] kt pt] (.Tuple [a, b] k2 pt2) pos) (sPar i j fs) :=
  weakS (ps_par hc hN hi hj hij hx hy ha hw hs) fun De σ H ⟨β, env, st, he, hs, h⟩ => fl_bind he hs h fun ds st1 β1 H1 us x s1 e1 r1 h1 => by
    cases r1 with
    | nil => exact h1.elim
    | cons a t =>
      cases t with
      | nil => exact h1.elim
      | cons b t =>
        cases t with
        | nil => exact ⟨_, _, rfl, h1 β1 H1 _ (Ext.refl _ _) s1 ((e1.set a i).set b j)⟩
        | cons _ _ => exact h1.elim
theorem vs_par3 {i j l : Nat} {x y z : Str} {a b c : Expr} {fs : En → AS → Out (List D)} {px py pz pt : Pos} {kt k2 pt2} (hc : X.calm = true) (hN : X.N.Nodup) (hi : X.N[i]? = some x) (hj : X.N[j]? = some y) (hl : X.N[l]? = some z) (hij : i ≠ j) (hil : i ≠ l) (hjl : j ≠ l)
    (hx : X.env.scope.names.lookup x = some .local) (hy : X.env.scope.names.lookup y = some .local) (hz : X.env.scope.names.lookup z = some .local) (ha : VA X E [a, b, c] fs)
    (hw : swappedStores [.Tuple [.Name x px, .Name y py, .Name z pz] kt pt] (.Tuple [a, b, c] k2 pt2) X.env = pure (some [x, y, z]))
    (hs : swapsWithSole [.Tuple [.Name x px, .Name y py, .Name z pz] kt pt] (.Tuple [a, b, c] k2 pt2) pos.line X.env = pure false := by rfl) :
    VS X E (.Assign [.Tuple [.Name x px, .Name y py, .Name z pz] kt pt] (.Tuple [a, b, c] k2 pt2) pos) (sPar3 i j l fs) :=
  weakS (ps_par3 hc hN hi hj hl hij hil hjl hx hy hz ha hw hs) fun De σ H ⟨β, env, st, he, hs, h⟩ => fl_bind he hs h fun ds st1 β1 H1 us x s1 e1 r1 h1 => by
    cases r1 with
    | nil => exact h1.elim
    | cons a t =>
      cases t with
      | nil => exact h1.elim
      | cons b t =>
        cases t with
        | nil => exact h1.elim
        | cons c t =>
          cases t with
          | nil => exact ⟨_, _, _, rfl, h1 β1 H1 _ (Ext.refl _ _) s1 (((e1.set a i).set b j).set c l)⟩
          | cons _ _ => exact h1.elim
/-! x += e -/
@[simp] def sAug (i : Nat) (op : D → D → AS → Out D) (fe : En → AS → Out D) (env : En) (st : AS) : Fl := (vVar i env st).fl fun x st => (fe env st).fl fun y st => (op x y st).fl fun z st => .nx (env.set i (some z)) st
def OkI (X : Cx) (E : XK) (op : Operator) (g : D → D → AS → Out D) : Prop := ∃ r, PIp X op r ∧ Ok2 X.K X.mgw E r g
theorem vs_aug {i : Nat} {x : Str} {op : Operator} {gi : D → D → AS → Out D} {pos' : Pos} (hN : X.N.Nodup) (hi : X.N[i]? = some x) (hx : Loc X.env.scope x) (he : VE X E e fe) (ho : OkI X E op gi) (hf : X.fn x = true ∨ X.env.scope.names.lookup x = some .local := by first | exact .inl rfl | exact .inr rfl | assumption) :
    VS X E (.AugAssign (.Name x pos') op e pos) (sAug i gi fe) := by
  obtain ⟨r, h1, h2⟩ := ho
  refine weakS (ps_aug hN hi hx he h1 hf) fun De σ H ⟨β, env, st, he, hs, h⟩ => ?_
  unfold sAug at h
  cases ev : vVar i env st with
  | bad => rw [ev] at h; exact h.elim
  | exc c fs st1 =>
    unfold vVar at ev
    split at ev <;> cases ev
  | ok d st1 =>
    rw [ev] at h
    unfold vVar at ev
    split at ev
    · rename_i d' e'
      cases ev
      obtain ⟨u, e2, r2⟩ := he.get i d e'
      refine ⟨u, e2, fl_bind he hs h fun y st2 β2 H2 v x2 s2 e2 r3 h3 => ?_⟩
      refine h2 β2 H2 st2 d y u v _ s2 (r2.ext x2) r3 (fl_post h3 fun z st4 β4 H4 w x4 s4 r4 h4 => ?_)
      exact h4 β4 H4 _ (Ext.refl _ _) s4 ((e2.ext x4).set r4 i)
    · cases ev
theorem oi_add : OkI X E .Add (iiD fun a b => .int (a + b)) := ⟨_, ip_add, fun β H st x y u v Q S rx ry h => by
  obtain ⟨i, j, rfl, rfl, h⟩ := ii_ok rx ry h
  exact ⟨i, j, rfl, rfl, h.here S (.int _)⟩⟩
theorem oi_sub : OkI X E .Sub (iiD fun a b => .int (a - b)) := ⟨_, ip_sub, fun β H st x y u v Q S rx ry h => by
  obtain ⟨i, j, rfl, rfl, h⟩ := ii_ok rx ry h
  exact ⟨i, j, rfl, rfl, h.here S (.int _)⟩⟩
end

/-! ### what is walked -/
abbrev Gd := List (Nat × C)
/-- the things that are walked stand as they stood -/
def Gd.ok (gs : Gd) (st : AS) : Prop := ∀ p ∈ gs, st[p.1]? = some p.2
structure WalkD (K : PySem.W.Frag) (mg : MG) (β : Bt) (H : Hp) (J : It) (items : List D) (gs : Gd) : Prop where
  go : ∀ i β' H' st, ExtF β H β' H' → Sim K mg β' st H' → gs.ok st → i < items.length → J.go i H'
  stop : ∀ β' H' st, ExtF β H β' H' → Sim K mg β' st H' → gs.ok st → J.stop items.length H'
  yld : ∀ i β' H' st x H2, ExtF β H β' H' → Sim K mg β' st H' → gs.ok st → i < items.length → J.yld i H' x H2 → Same H' H2 ∧ ∃ d, items[i]? = some d ∧ Rep K H2 β' d x
abbrev rI (K : PySem.W.Frag) (mg : MG) : Hp → Bt → (List D × Gd) → It → Prop := fun H β p J => WalkD K mg β H J p.1 p.2
abbrev VI (X : Cx) (E : XK) (tg iter : Expr) (f : En → AS → Out (List D × Gd)) : Prop := PI X tg iter (tG X.K X.mgw (rI X.K X.mgw) E f)
theorem weakI {X : Cx} {tg e : Expr} {t t' : TI} (h : PI X tg e t) (w : ∀ σ H Q, t' σ H Q → t σ H Q) : PI X tg e t' := ⟨fun pins s σ H Q I q => h.run pins s σ H Q I (w σ H Q q)⟩
theorem orI {X : Cx} {tg e : Expr} {t t' : TI} (h : PI X tg e t) (h' : PI X tg e t') : PI X tg e (fun σ H Q => t σ H Q ∨ t' σ H Q) := ⟨fun pins s σ H Q I q => q.elim (h.run pins s σ H Q I) (h'.run pins s σ H Q I)⟩
section
variable {K : PySem.W.Frag} {mg : MG} {β β' : Bt} {H H' : Hp} {st : AS}
/-- a plain walk over values that stand for the data ds -/
theorem walk_at {J : It} {G : List V → Hp → Prop} {ds : List D} {gs : Gd} (hW : ∀ us : List V, us.length = ds.length → Walk J ds.length (G us) (YAt us))
    (hG : ∀ β' H' st, ExtF β H β' H' → Sim K mg β' st H' → gs.ok st → ∃ us, G us H' ∧ Reps K H' β' ds us) : WalkD K mg β H J ds gs := by
  refine ⟨fun i β' H' st x S g hi => ?_, fun β' H' st x S g => ?_, fun i β' H' st v H2 x S g hi y => ?_⟩
  · obtain ⟨us, q, r⟩ := hG β' H' st x S g
    exact (hW us r.length).goes i H' hi q
  · obtain ⟨us, q, r⟩ := hG β' H' st x S g
    exact (hW us r.length).stops H' q
  · obtain ⟨us, q, r⟩ := hG β' H' st x S g
    obtain ⟨rfl, e⟩ := (hW us r.length).yields i H' v H2 hi q y
    obtain ⟨d, e2, r2⟩ := r.get' e
    exact ⟨Same.refl _, d, e2, r2⟩
theorem zip_at {ds es : List D} {i : Nat} {d e : D} (h1 : ds[i]? = some d) (h2 : es[i]? = some e) : ((ds.zip es).map fun p => D.tup [p.1, p.2])[i]? = some (.tup [d, e]) := by
  rw [List.getElem?_map, List.getElem?_zip_eq_some (z := (d, e)) |>.mpr ⟨h1, h2⟩]
  rfl
/-- pairs -/
theorem walk_pair {J : It} {G : List V → List V → Hp → Prop} {ds es : List D} {gs : Gd} {n : Nat} (hn : n = min ds.length es.length)
    (hW : ∀ us ws : List V, us.length = ds.length → ws.length = es.length → Walk J n (G us ws) (YPair (fun i => us[i]?) (fun i => ws[i]?)))
    (hG : ∀ β' H' st, ExtF β H β' H' → Sim K mg β' st H' → gs.ok st → ∃ us ws, G us ws H' ∧ Reps K H' β' ds us ∧ Reps K H' β' es ws) :
    WalkD K mg β H J ((ds.zip es).map fun p => .tup [p.1, p.2]) gs := by
  have hl : ((ds.zip es).map fun p => D.tup [p.1, p.2]).length = n := by rw [List.length_map, List.length_zip]; exact hn.symm
  refine ⟨fun i β' H' st x S g hi => ?_, fun β' H' st x S g => ?_, fun i β' H' st v H2 x S g hi y => ?_⟩
  · obtain ⟨us, ws, q, r, r'⟩ := hG β' H' st x S g
    exact (hW us ws r.length r'.length).goes i H' (by omega) q
  · obtain ⟨us, ws, q, r, r'⟩ := hG β' H' st x S g
    rw [hl]
    exact (hW us ws r.length r'.length).stops H' q
  · obtain ⟨us, ws, q, r, r'⟩ := hG β' H' st x S g
    obtain ⟨T, a, b, rfl, nT, rfl, ea, eb⟩ := (hW us ws r.length r'.length).yields i H' v H2 (by omega) q y
    obtain ⟨d1, f1, r1⟩ := r.get' ea
    obtain ⟨d2, f2, r2⟩ := r'.get' eb
    have sm : Same H' (upd H' T (.tup [a, b])) := same_upd nT
    exact ⟨sm, .tup [d1, d2], zip_at f1 f2, .tup (S.fresh nT) upd_same (.cons (r1.ext (Ext.same sm)) (.cons (r2.ext (Ext.same sm)) .nil))⟩
/-- numbered -/
theorem walk_num {J : It} {G : List V → Hp → Prop} {ds : List D} {gs : Gd} (hW : ∀ us : List V, us.length = ds.length → Walk J ds.length (G us) (YPair (fun i => some (.int (i : Nat))) (fun i => us[i]?)))
    (hG : ∀ β' H' st, ExtF β H β' H' → Sim K mg β' st H' → gs.ok st → ∃ us, G us H' ∧ Reps K H' β' ds us) :
    WalkD K mg β H J (ds.zipIdx.map fun p => .tup [.int (p.2 : Nat), p.1]) gs := by
  have hl : (ds.zipIdx.map fun p => D.tup [.int (p.2 : Nat), p.1]).length = ds.length := by rw [List.length_map, List.length_zipIdx]
  refine ⟨fun i β' H' st x S g hi => ?_, fun β' H' st x S g => ?_, fun i β' H' st v H2 x S g hi y => ?_⟩
  · obtain ⟨us, q, r⟩ := hG β' H' st x S g
    exact (hW us r.length).goes i H' (by omega) q
  · obtain ⟨us, q, r⟩ := hG β' H' st x S g
    rw [hl]
    exact (hW us r.length).stops H' q
  · obtain ⟨us, q, r⟩ := hG β' H' st x S g
    obtain ⟨T, a, b, rfl, nT, rfl, ea, eb⟩ := (hW us r.length).yields i H' v H2 (by omega) q y
    cases ea
    obtain ⟨d2, f2, r2⟩ := r.get' eb
    have sm : Same H' (upd H' T (.tup [.int (i : Nat), b])) := same_upd nT
    refine ⟨sm, .tup [.int (i : Nat), d2], ?_, .tup (S.fresh nT) upd_same (.cons (.int _) (.cons (r2.ext (Ext.same sm)) .nil))⟩
    rw [List.getElem?_map, List.getElem?_zipIdx, f2]
    simp
theorem gd_nil {gs : Gd} (h : gs = []) {st : AS} : gs.ok st := by
  subst h
  exact fun p hp => nomatch hp
theorem walk_strD {z : Str} : WalkD K mg β H (Its z) (z.cps.toList.map fun c => .str ⟨#[c]⟩) [] := by
  have hl : (z.cps.toList.map fun c => D.str ⟨#[c]⟩).length = z.cps.size := by simp
  refine ⟨fun i β' H' st x S g hi => (walk_str (z := z)).goes i H' (by omega) trivial, fun β' H' st x S g => by rw [hl]; exact (walk_str (z := z)).stops H' trivial, fun i β' H' st v H2 x S g hi y => ?_⟩
  obtain ⟨rfl, c, ec, rfl⟩ := (walk_str (z := z)).yields i H' v H2 (by omega) trivial y
  refine ⟨Same.refl _, .str ⟨#[c]⟩, ?_, .str _⟩
  rw [List.getElem?_map, Array.getElem?_toList, ec]
  rfl
/-- the list that d is, later too -/
def gdOf (d : D) (ds : List D) : Gd := match d with
  | .ref i => [(i, .lst ds)]
  | _ => []
def isTupD : D → Bool
  | .tup _ => true
  | .ctp _ => true
  | _ => false
def SqB (t : Bool) (K : PySem.W.Frag) (H : Hp) (a : Addr) (us : List V) : Prop := match t with
  | true => SqT K H a us
  | false => SqL K H a us
theorem later {d : D} {u : V} {ds : List D} (S : Sim K mg β st H) (r : Rep K H β d u) (h : seqOf st d = some ds) :
    ∃ a, u = .ref a ∧ ∀ β' H' st', ExtF β H β' H' → Sim K mg β' st' H' → (gdOf d ds).ok st' → ∃ us', SqB (isTupD d) K H' a us' ∧ Reps K H' β' ds us' := by
  cases r with
  | tup n e q =>
    cases h
    exact ⟨_, rfl, fun β' H' st' x _ _ => ⟨_, .inl (.inl (x.kept _ _ e n).1), q.extW x.toExtW⟩⟩
  | ctp e q =>
    cases h
    exact ⟨_, rfl, fun β' H' st' x _ _ => ⟨_, (e.imp fun o z n => x.kept _ _ z n).sq, q.extW x.toExtW⟩⟩
  | lst n e q =>
    cases h
    exact ⟨_, rfl, fun β' H' st' x _ _ => ⟨_, .inl (.inl (x.kept _ _ e n).1), q.extW x.toExtW⟩⟩
  | fzl e q =>
    cases h
    exact ⟨_, rfl, fun β' H' st' x _ _ => ⟨_, SqL.fz (e.imp (fun z => x.rd z.1 z.2) id), q.extW x.toExtW⟩⟩
  | ref e =>
    rename_i i a
    refine ⟨a, rfl, fun β' H' st' x S' g => ?_⟩
    have e2 := g (i, .lst ds) (by simp [gdOf])
    obtain ⟨us, e3, q⟩ := S'.cell i a _ (x.at e) e2
    exact ⟨us, .inl (.inl e3), q⟩
  | non => cases h
  | bl b => cases h
  | int b => cases h
  | str b => cases h
  | cv => cases h
end
section
variable {X : Cx} {E : XK} {tg e e2 : Expr} {es : List Expr} {fe : En → AS → Out D} {fs : En → AS → Out (List D)} {pos p : Pos}
@[simp] def itD (d : D) (st : AS) : Out (List D × Gd) := match seqOf st d with
  | some ds => .ok (ds, gdOf d ds) st
  | none => match d with
    | .str z => .ok (z.cps.toList.map fun c => .str ⟨#[c]⟩, []) st
    | _ => .bad
theorem vi_seq (he : VE X E e fe) : VI X E tg e (v1 itD fe) := by
  refine weakI (orI (pi_list he) (orI (pi_tup he) (pi_str he))) fun σ H Q h => ?_
  obtain ⟨β, env, st, hE, hS, h⟩ := h
  cases ev : fe env st with
  | bad =>
    unfold v1 at h
    rw [ev] at h
    exact h.elim
  | exc c fs st1 =>
    unfold v1 at h
    rw [ev] at h
    refine .inl ⟨β, env, st, hE, hS, ?_⟩
    rw [ev]
    exact h
  | ok d st1 =>
    unfold v1 at h
    rw [ev] at h
    change Post X.K X.mgw (rI X.K X.mgw) E β H Q (itD d st1) at h
    unfold itD at h
    split at h
    · rename_i ds eq
      by_cases ht : isTupD d = true
      · refine .inr (.inl ⟨β, env, st, hE, hS, ?_⟩)
        rw [ev]
        intro β1 H1 u x1 s1 r1
        obtain ⟨a, rfl, hl⟩ := later s1 r1 eq
        rw [ht] at hl
        have hg : ∀ st', (gdOf d ds).ok st' := fun st' => gd_nil (by cases d <;> first | rfl | cases ht)
        refine ⟨a, rfl, ?_, h β1 H1 (Itt X.K a) x1 s1 ?_⟩
        · obtain ⟨us, q, _⟩ := hl β1 H1 st1 (ExtF.refl _ _) s1 (hg st1)
          exact ⟨us, q⟩
        · exact walk_at (G := fun us H => SqT X.K H a us) (fun us hu => hu ▸ walk_tup) hl
      · refine .inl ⟨β, env, st, hE, hS, ?_⟩
        rw [ev]
        intro β1 H1 u x1 s1 r1
        obtain ⟨a, rfl, hl⟩ := later s1 r1 eq
        rw [Bool.not_eq_true] at ht
        rw [ht] at hl
        have hg : (gdOf d ds).ok st1 := by
          cases d with
          | ref i =>
            intro p hp
            cases List.mem_singleton.mp hp
            unfold seqOf listOf at eq
            dsimp only at eq
            split at eq
            · rename_i z
              cases eq
              exact z
            · cases eq
          | _ => exact gd_nil rfl
        refine ⟨a, rfl, ?_, h β1 H1 (Itl X.K a) x1 s1 ?_⟩
        · obtain ⟨us, q, _⟩ := hl β1 H1 st1 (ExtF.refl _ _) s1 hg
          exact ⟨us, q⟩
        · exact walk_at (G := fun us H => SqL X.K H a us) (fun us hu => hu ▸ walk_list) hl
    · split at h
      · rename_i z _
        refine .inr (.inr ⟨β, env, st, hE, hS, ?_⟩)
        rw [ev]
        intro β1 H1 u x1 s1 r1
        cases r1 with
        | str z =>
          exact ⟨z, rfl, h β1 H1 (Its z) x1 s1 walk_strD⟩
      · exact h.elim
/-- range -/
def rngL (lo : Int) (n : Nat) : List D := (List.range n).map fun k => .int (lo + (k : Nat))
def rng1 (xs : List D) (st : AS) : Out (List D × Gd) := match xs with
  | [.int j] => if -(2 ^ 62) ≤ j ∧ j < 2 ^ 62 then .ok (rngL 0 j.toNat, []) st else .bad
  | _ => .bad
def rng2 (xs : List D) (st : AS) : Out (List D × Gd) := match xs with
  | [.int i, .int j] => if -(2 ^ 62) ≤ i ∧ i < 2 ^ 62 ∧ -(2 ^ 62) ≤ j ∧ j < 2 ^ 62 then .ok (rngL i (j - i).toNat, []) st else .bad
  | _ => .bad
theorem walk_rng {K : PySem.W.Frag} {mg : MG} {β : Bt} {H : Hp} {lo : Int} {n : Nat} : WalkD K mg β H (Itr lo n) (rngL lo n) [] := by
  have hl : (rngL lo n).length = n := by simp [rngL]
  refine ⟨fun i β' H' st x S g hi => (walk_range (lo := lo) (n := n)).goes i H' (by omega) trivial, fun β' H' st x S g => by rw [hl]; exact (walk_range (lo := lo) (n := n)).stops H' trivial, fun i β' H' st v H2 x S g hi y => ?_⟩
  obtain ⟨rfl, rfl⟩ := (walk_range (lo := lo) (n := n)).yields i H' v H2 (by omega) trivial y
  refine ⟨Same.refl _, .int (lo + (i : Nat)), ?_, .int _⟩
  unfold rngL
  rw [List.getElem?_map, List.getElem?_range (by omega)]
  rfl
theorem vi_range1 {a : Expr} (hg : Gl X "range") (hm : X.mg "range" = none) (ha : VA X E [a] fs) (hs : starEach [a] X.env = [(false, eval a X.env)] := by rfl) : VI X E tg (.Call (.Name "range" p) [a] [] pos) (vA rng1 fs) :=
  weakI (pi_range1 hg hm ha hs) fun σ H Q ⟨β, env, st, he, hs, h⟩ => tG_bind he hs h fun ds st1 β1 H1 us x1 s1 e1 r1 h1 => by
    unfold rng1 at h1
    split at h1
    · rename_i j
      obtain ⟨v, rfl, rv⟩ := one_ok r1
      cases rv
      obtain ⟨⟨b1, b2⟩, h1⟩ := h1.ite
      exact ⟨j, rfl, b1, b2, h1.here s1 walk_rng⟩
    · exact h1.elim
theorem two_ok {K : PySem.W.Frag} {H : Hp} {β : Bt} {x y : D} {us : List V} (r : Reps K H β [x, y] us) : ∃ u v, us = [u, v] ∧ Rep K H β x u ∧ Rep K H β y v := by
  cases r with
  | cons a t =>
    obtain ⟨v, rfl, rv⟩ := one_ok t
    exact ⟨_, v, rfl, a, rv⟩
theorem vi_range2 {a b : Expr} (hg : Gl X "range") (hm : X.mg "range" = none) (ha : VA X E [a, b] fs) (hs : starEach [a, b] X.env = [(false, eval a X.env), (false, eval b X.env)] := by rfl) (hs2 : starEach [b] X.env = [(false, eval b X.env)] := by rfl) : VI X E tg (.Call (.Name "range" p) [a, b] [] pos) (vA rng2 fs) :=
  weakI (pi_range2 hg hm ha hs hs2) fun σ H Q ⟨β, env, st, he, hs, h⟩ => tG_bind he hs h fun ds st1 β1 H1 us x1 s1 e1 r1 h1 => by
    unfold rng2 at h1
    split at h1
    · rename_i i j
      obtain ⟨u, v, rfl, ru, rv⟩ := two_ok r1
      cases ru
      cases rv
      obtain ⟨b1, h1⟩ := h1.ite
      exact ⟨i, j, rfl, b1, h1.here s1 walk_rng⟩
    · exact h1.elim
/-- the walk is over what was evaluated, or an error comes -/
theorem pickA {f : List D → AS → Out (List D × Gd)} {σ : L2.St} {H : Hp} {Q : It → Hp → Prop} (h : tG X.K X.mgw (rI X.K X.mgw) E (vA f fs) σ H Q) :
    (∃ β env st ds st1, EnvR X.K H β env σ ∧ Sim X.K X.mgw β st H ∧ fs env st = .ok ds st1 ∧ Post X.K X.mgw (rI X.K X.mgw) E β H Q (f ds st1)) ∨ ∀ R, tVA X.K X.mgw E fs σ H R := by
  obtain ⟨β, env, st, hE, hS, h⟩ := h
  unfold vA at h
  cases ev : fs env st with
  | bad => rw [ev] at h; exact h.elim
  | exc c xs st1 =>
    rw [ev] at h
    exact .inr fun R => ⟨β, env, st, hE, hS, by rw [ev]; exact h⟩
  | ok ds st1 =>
    rw [ev] at h
    exact .inl ⟨β, env, st, ds, st1, hE, hS, ev, h⟩
theorem goA {σ : L2.St} {H : Hp} {R : List V → Hp → Prop} {β : Bt} {env : En} {st st1 : AS} {ds : List D} (hE : EnvR X.K H β env σ) (hS : Sim X.K X.mgw β st H) (ev : fs env st = .ok ds st1)
    (h : ∀ β1 H1 us, Ext β H β1 H1 → Sim X.K X.mgw β1 st1 H1 → Reps X.K H1 β1 ds us → R us H1) : tVA X.K X.mgw E fs σ H R := ⟨β, env, st, hE, hS, by rw [ev]; exact h⟩
theorem gd_now {st : AS} {d : D} {ds : List D} (h : seqOf st d = some ds) : (gdOf d ds).ok st := by
  cases d with
  | ref i =>
    intro p hp
    cases List.mem_singleton.mp hp
    unfold seqOf listOf at h
    dsimp only at h
    split at h
    · rename_i z
      cases h
      exact z
    · cases h
  | _ => exact gd_nil rfl
theorem gd_app {a b : Gd} {st : AS} : Gd.ok (a ++ b) st ↔ a.ok st ∧ b.ok st :=
  ⟨fun h => ⟨fun p hp => h p (List.mem_append_left _ hp), fun p hp => h p (List.mem_append_right _ hp)⟩, fun h p hp => (List.mem_append.mp hp).elim (h.1 p) (h.2 p)⟩
@[simp] def enumD (xs : List D) (st : AS) : Out (List D × Gd) := match xs with
  | [d] => (match seqOf st d with
    | some ds => .ok (ds.zipIdx.map fun p => .tup [.int (p.2 : Nat), p.1], gdOf d ds) st
    | none => .bad)
  | _ => .bad
theorem vi_enum {tpos : Pos} {elts : List Expr} {kk : Nat} (hg : Gl X "enumerate") (hm : X.mg "enumerate" = none) (ha : VA X E [e] fs) (hs : starEach [e] X.env = [(false, eval e X.env)] := by rfl) : VI X E (.Tuple elts kk tpos) (.Call (.Name "enumerate" p) [e] [] pos) (vA enumD fs) := by
  refine weakI (orI (pi_enum hg hm ha hs) (pi_enumT hg hm ha hs)) fun σ H Q h => ?_
  rcases pickA h with ⟨β, env, st, ds, st1, hE, hS, ev, h⟩ | h
  · unfold enumD at h
    split at h
    · rename_i d
      split at h
      · rename_i xs ed
        by_cases ht : isTupD d = true
        · refine .inr (goA hE hS ev fun β1 H1 us x1 s1 r1 => ?_)
          obtain ⟨v, rfl, rv⟩ := one_ok r1
          obtain ⟨a, rfl, hl⟩ := later s1 rv ed
          rw [ht] at hl
          obtain ⟨us, q, _⟩ := hl β1 H1 st1 (ExtF.refl _ _) s1 (gd_now ed)
          exact ⟨a, us, rfl, q, h β1 H1 _ x1 s1 (walk_num (G := fun us H => SqT X.K H a us) (fun us hu => hu ▸ walk_ET) hl)⟩
        · rw [Bool.not_eq_true] at ht
          refine .inl (goA hE hS ev fun β1 H1 us x1 s1 r1 => ?_)
          obtain ⟨v, rfl, rv⟩ := one_ok r1
          obtain ⟨a, rfl, hl⟩ := later s1 rv ed
          rw [ht] at hl
          obtain ⟨us, q, _⟩ := hl β1 H1 st1 (ExtF.refl _ _) s1 (gd_now ed)
          exact ⟨a, us, rfl, q, h β1 H1 _ x1 s1 (walk_num (G := fun us H => SqL X.K H a us) (fun us hu => hu ▸ walk_enum) hl)⟩
      · exact h.elim
    · exact h.elim
  · exact .inl (h _)
@[simp] def zipD (xs : List D) (st : AS) : Out (List D × Gd) := match xs with
  | [d, e] => (match seqOf st d, seqOf st e with
    | some ds, some es => .ok ((ds.zip es).map fun p => .tup [p.1, p.2], gdOf d ds ++ gdOf e es) st
    | _, _ => .bad)
  | _ => .bad
theorem vi_zip {tpos : Pos} {elts : List Expr} {kk : Nat} (hg : Gl X "zip") (hm : X.mg "zip" = none) (ha : VA X E [e, e2] fs) (hs : starEach [e, e2] X.env = (false, eval e X.env) :: starEach [e2] X.env := by rfl) (hpl : (backTo pos (starEach [e2] X.env)).any (·.1) = false := by rfl) :
    VI X E (.Tuple elts kk tpos) (.Call (.Name "zip" p) [e, e2] [] pos) (vA zipD fs) := by
  refine weakI (orI (RZ.pi_zipA hg hm ha hs hpl) (orI (pi_zipTL hg hm ha hs hpl) (pi_zipLT hg hm ha hs hpl))) fun σ H Q h => ?_
  rcases pickA h with ⟨β, env, st, ds, st1, hE, hS, ev, h⟩ | h
  · unfold zipD at h
    split at h
    · rename_i d e'
      split at h
      · rename_i xs ys ed ee
        have both : ∀ {β1 : Bt} {H1 : Hp} {us : List V}, Sim X.K X.mgw β1 st1 H1 → Reps X.K H1 β1 [d, e'] us → ∃ a b, us = [.ref a, .ref b] ∧
            (∀ β' H' st', ExtF β1 H1 β' H' → Sim X.K X.mgw β' st' H' → Gd.ok (gdOf d xs ++ gdOf e' ys) st' → ∃ us' ws', (SqB (isTupD d) X.K H' a us' ∧ SqB (isTupD e') X.K H' b ws') ∧ Reps X.K H' β' xs us' ∧ Reps X.K H' β' ys ws') ∧ (∃ us' ws', SqB (isTupD d) X.K H1 a us' ∧ SqB (isTupD e') X.K H1 b ws') := by
          intro β1 H1 us s1 r1
          obtain ⟨u, v, rfl, ru, rv⟩ := two_ok r1
          obtain ⟨a, rfl, hl⟩ := later s1 ru ed
          obtain ⟨b, rfl, hl'⟩ := later s1 rv ee
          refine ⟨a, b, rfl, fun β' H' st' x' s' g => ?_, ?_⟩
          · obtain ⟨us', q, r⟩ := hl β' H' st' x' s' (gd_app.mp g).1
            obtain ⟨ws', q', r'⟩ := hl' β' H' st' x' s' (gd_app.mp g).2
            exact ⟨us', ws', ⟨q, q'⟩, r, r'⟩
          · obtain ⟨us', q, _⟩ := hl β1 H1 st1 (ExtF.refl _ _) s1 (gd_now ed)
            obtain ⟨ws', q', _⟩ := hl' β1 H1 st1 (ExtF.refl _ _) s1 (gd_now ee)
            exact ⟨us', ws', q, q'⟩
        cases td : isTupD d with
        | true =>
          cases te : isTupD e' with
          | true =>
            refine .inl (goA hE hS ev fun β1 H1 us x1 s1 r1 => ?_)
            obtain ⟨a, b, rfl, hl, us', ws', q, q'⟩ := both s1 r1
            rw [td, te] at hl
            rw [td] at q
            rw [te] at q'
            exact ⟨a, b, us', ws', rfl, .inr ⟨q, q', h β1 H1 _ x1 s1 (walk_pair (G := fun us ws H => SqT X.K H a us ∧ SqT X.K H b ws) rfl (fun us ws hu hw => walk_zT (by rw [hu, hw])) hl)⟩⟩
          | false =>
            refine .inr (.inl (goA hE hS ev fun β1 H1 us x1 s1 r1 => ?_))
            obtain ⟨a, b, rfl, hl, us', ws', q, q'⟩ := both s1 r1
            rw [td, te] at hl
            rw [td] at q
            rw [te] at q'
            exact ⟨a, b, us', ws', rfl, q, q', h β1 H1 _ x1 s1 (walk_pair (G := fun us ws H => SqT X.K H a us ∧ SqL X.K H b ws) rfl (fun us ws hu hw => walk_TL (by rw [hu, hw])) hl)⟩
        | false =>
          cases te : isTupD e' with
          | true =>
            refine .inr (.inr (goA hE hS ev fun β1 H1 us x1 s1 r1 => ?_))
            obtain ⟨a, b, rfl, hl, us', ws', q, q'⟩ := both s1 r1
            rw [td, te] at hl
            rw [td] at q
            rw [te] at q'
            exact ⟨a, b, us', ws', rfl, q, q', h β1 H1 _ x1 s1 (walk_pair (G := fun us ws H => SqL X.K H a us ∧ SqT X.K H b ws) rfl (fun us ws hu hw => walk_LT (by rw [hu, hw])) hl)⟩
          | false =>
            refine .inl (goA hE hS ev fun β1 H1 us x1 s1 r1 => ?_)
            obtain ⟨a, b, rfl, hl, us', ws', q, q'⟩ := both s1 r1
            rw [td, te] at hl
            rw [td] at q
            rw [te] at q'
            exact ⟨a, b, us', ws', rfl, .inl ⟨q, q', h β1 H1 _ x1 s1 (walk_pair (G := fun us ws H => SqL X.K H a us ∧ SqL X.K H b ws) rfl (fun us ws hu hw => walk_zip (by rw [hu, hw])) hl)⟩⟩
      · exact h.elim
    · exact h.elim
  · exact .inl (h _)
end

/-! ### for, while -/
@[simp] theorem gd_ok_nil (st : AS) : Gd.ok [] st = True := eq_true (gd_nil rfl)
/-- a turn of a loop's body, then the rest -/
def Fl.turn (o : Fl) (k : En → AS → Fl) : Fl := match o with
  | .nx env st => k env st
  | .ct env st => k env st
  | .bk env st => .nx env st
  | .rt d st => .rt d st
  | .exc c fs st => .exc c fs st
  | .bad => .bad
@[simp] theorem Fl.turn_nx (env : En) (st : AS) (g : En → AS → Fl) : (Fl.nx env st).turn g = g env st := rfl
@[simp] theorem Fl.turn_rt (d : D) (st : AS) (g : En → AS → Fl) : (Fl.rt d st).turn g = .rt d st := rfl
@[simp] theorem Fl.turn_bk (env : En) (st : AS) (g : En → AS → Fl) : (Fl.bk env st).turn g = .nx env st := rfl
@[simp] theorem Fl.turn_ct (env : En) (st : AS) (g : En → AS → Fl) : (Fl.ct env st).turn g = g env st := rfl
@[simp] theorem Fl.turn_exc (c : Str) (fs : List (Str × D)) (st : AS) (g : En → AS → Fl) : (Fl.exc c fs st).turn g = .exc c fs st := rfl
@[simp] theorem Fl.turn_bad (g : En → AS → Fl) : (Fl.bad).turn g = .bad := rfl
theorem Fl.turn_ite {p : Prop} [Decidable p] (a b : Fl) (g : En → AS → Fl) : (if p then a else b).turn g = if p then a.turn g else b.turn g := by split <;> rfl
noncomputable instance (gs : Gd) (st : AS) : Decidable (Gd.ok gs st) := Classical.propDecidable _
noncomputable def forL (g : D → En → AS → Out En) (body : En → AS → Fl) (gs : Gd) : List D → En → AS → Fl
  | [], env, st => if gs.ok st then .nx env st else .bad
  | d :: ds, env, st => if gs.ok st then (g d env st).fl fun env st => (body env st).turn (forL g body gs ds)
    else .bad
@[simp] noncomputable def sFor (fi : En → AS → Out (List D × Gd)) (g : D → En → AS → Out En) (body : En → AS → Fl) (env : En) (st : AS) : Fl := (fi env st).fl fun p st => forL g body p.2 p.1 env st
theorem PostS.ite {K : PySem.W.Frag} {mg : MG} {E : XK} {β : Bt} {H : Hp} {De : Ends} {p : Prop} [Decidable p] {o : Fl} (h : PostS K mg E β H De (if p then o else .bad)) : p ∧ PostS K mg E β H De o := by
  by_cases hp : p
  · rw [if_pos hp] at h
    exact ⟨hp, h⟩
  · rw [if_neg hp] at h
    exact h.elim
section
variable {X : Cx} {E : XK} {tg it : Expr} {body : List Stmt} {fi : En → AS → Out (List D × Gd)} {g : D → En → AS → Out En} {fb : En → AS → Fl} {pos : Pos}
theorem vs_for {ws : List Nat} (hp : PassesOwn (model X.prog X.w) X.A X.env X.xe) (hc : X.calm = true) (hi : VI X E tg it fi) (hg : VG X E tg ws g) (hb : VSs X E body fb)
    (hs : ∀ x, foldedSetIterable it X.env x = pure x := by intro _; rfl) : VS X E (.For tg it body [] pos) (sFor fi g fb) := by
  refine weakS (ps_for hp hc hi hg hb hs) fun De σ H ⟨β, env, st, he, hs, h⟩ => ?_
  refine fl_bind he hs h fun pr st1 β1 H1 J x1 s1 e1 w h1 => ?_
  obtain ⟨items, gs⟩ := pr
  refine ⟨fun i m σ H => m = items.length - i ∧ i ≤ items.length ∧ ∃ β' env st, EnvR X.K H β' env σ ∧ Sim X.K X.mgw β' st H ∧ Ext β1 H1 β' H ∧ PostS X.K X.mgw E β' H De (forL g fb gs (items.drop i) env st), ⟨_, rfl, Nat.zero_le _, β1, env, st1, e1, s1, Ext.refl _ _, h1⟩, ?_⟩
  rintro i m σ H ⟨rfl, hi, β2, env, st, he, hs, x, h⟩
  by_cases hlt : i < items.length
  · have ed : items.drop i = items[i] :: items.drop (i + 1) := List.drop_eq_getElem_cons hlt
    rw [ed, forL] at h
    obtain ⟨gk, h⟩ := h.ite
    refine .inr ⟨w.go i β2 H st x.weakF hs gk hlt, fun σ' H' => ∃ β' env st, EnvR X.K H' β' env σ' ∧ Sim X.K X.mgw β' st H' ∧ Ext β1 H1 β' H' ∧ PostS X.K X.mgw E β' H' De (forL g fb gs (items.drop (i + 1)) env st), ?_, fun v H' y => ?_⟩
    · rintro σ' H' ⟨β', env', st', a, b, c, d⟩
      exact ⟨items.length - (i + 1), by omega, rfl, hlt, β', env', st', a, b, c, d⟩
    · obtain ⟨sm, d, e2, r⟩ := w.yld i β2 H st v H' x.weakF hs gk hlt y
      have e3 : d = items[i] := by
        rw [List.getElem?_eq_getElem hlt] at e2
        exact (Option.some.inj e2).symm
      have x2 : Ext β2 H β2 H' := Ext.same sm
      rw [← e3] at h
      refine ⟨β2, env, st, d, he.ext x2, hs.same sm, r, fl_post (PostS.ext x2 h) fun env1 st2 β3 H3 σ3 x3 s3 e3 h3 => ?_⟩
      refine ⟨β3, env1, st2, e3.1, s3, ?_⟩
      cases o : fb env1 st2 with
      | nx env2 st3 =>
        simp only [o, Fl.turn] at h3
        exact fun β4 H4 σ4 x4 s4 e4 => ⟨β4, env2, st3, e4, s4, ((x.trans x2).trans x3).trans x4, PostS.ext x4 h3⟩
      | ct env2 st3 =>
        simp only [o, Fl.turn] at h3
        exact fun β4 H4 σ4 x4 s4 e4 => ⟨β4, env2, st3, e4, s4, ((x.trans x2).trans x3).trans x4, PostS.ext x4 h3⟩
      | bk env2 st3 => simp only [o, Fl.turn] at h3; exact h3
      | rt d2 st3 => simp only [o, Fl.turn] at h3; exact h3
      | exc c fs st3 => simp only [o, Fl.turn] at h3; exact h3
      | bad => simp only [o, Fl.turn] at h3; exact h3
  · have e : i = items.length := by omega
    subst e
    rw [List.drop_length, forL] at h
    obtain ⟨gk, h⟩ := h.ite
    exact .inl ⟨w.stop β2 H st x.weakF hs gk, h β2 H σ (Ext.refl _ _) hs he⟩
/-! while, by as much breath as is wanted -/
def whL (c : En → AS → Out Bool) (body : En → AS → Fl) : Nat → En → AS → Fl
  | 0, _, _ => .bad
  | n + 1, env, st => (c env st).fl fun b st => if b = true then (body env st).turn (whL c body n) else .nx env st
theorem whL_more {c : En → AS → Out Bool} {body : En → AS → Fl} : ∀ {n : Nat} {env : En} {st : AS}, whL c body n env st ≠ .bad → ∀ m, n ≤ m → whL c body m env st = whL c body n env st
  | 0, env, st, h, m, hm => absurd rfl h
  | n + 1, env, st, h, 0, hm => by omega
  | n + 1, env, st, h, m + 1, hm => by
    rw [whL] at h
    rw [whL, whL]
    cases e : c env st with
    | bad => rfl
    | exc x fs s => rfl
    | ok b s =>
      rw [e] at h
      simp only [Out.fl_ok] at h ⊢
      cases b with
      | false => rfl
      | true =>
        simp only [if_true] at h ⊢
        cases o : body env s with
        | nx env2 s2 =>
          simp only [o, Fl.turn] at h ⊢
          exact whL_more h m (by omega)
        | ct env2 s2 =>
          simp only [o, Fl.turn] at h ⊢
          exact whL_more h m (by omega)
        | _ => simp only [Fl.turn]
open Classical in
noncomputable def sWhile (c : En → AS → Out Bool) (body : En → AS → Fl) (env : En) (st : AS) : Fl := if h : ∃ n, whL c body n env st ≠ .bad then whL c body h.choose env st else .bad
theorem sWhile_eq {c : En → AS → Out Bool} {body : En → AS → Fl} {env : En} {st : AS} {n : Nat} {r : Fl} (h : whL c body n env st = r) (hr : r ≠ .bad) : sWhile c body env st = r := by
  have ex : ∃ n, whL c body n env st ≠ .bad := ⟨n, by rw [h]; exact hr⟩
  unfold sWhile
  rw [dif_pos ex]
  have h2 := ex.choose_spec
  rcases Nat.le_total n ex.choose with z | z
  · rw [whL_more (by rw [h]; exact hr) _ z, h]
  · rw [← whL_more h2 _ z, h]
theorem vs_while {c : Expr} {fc : En → AS → Out Bool} (hp : PassesOwn (model X.prog X.w) X.A X.env X.xe) (hc : VT X E c fc) (hb : VSs X E body fb) : VS X E (.While c body [] pos) (sWhile fc fb) := by
  refine weakS (ps_while hp hc hb) fun De σ H ⟨β, env, st, he, hs, h⟩ => ?_
  unfold sWhile at h
  split at h
  · rename_i ex
    generalize ex.choose = n at h
    refine ⟨fun m σ H => ∃ β env st, EnvR X.K H β env σ ∧ Sim X.K X.mgw β st H ∧ PostS X.K X.mgw E β H De (whL fc fb m env st), ⟨n, β, env, st, he, hs, h⟩, ?_⟩
    rintro m σ H ⟨β, env, st, he, hs, h⟩
    cases m with
    | zero => exact h.elim
    | succ m =>
      rw [whL] at h
      refine fl_bind he hs h fun b st1 β1 H1 b' x s1 e1 r1 h1 => ?_
      obtain rfl : b = b' := r1
      cases b with
      | false => exact h1 β1 H1 σ (Ext.refl _ _) s1 e1
      | true =>
        simp only [if_true] at h1 ⊢
        refine ⟨fun σ' H' => ∃ β env st, EnvR X.K H' β env σ' ∧ Sim X.K X.mgw β st H' ∧ PostS X.K X.mgw E β H' De (whL fc fb m env st), fun σ' H' z => ⟨m, Nat.lt_succ_self m, z⟩, β1, env, st1, e1, s1, ?_⟩
        cases o : fb env st1 with
        | nx env2 st3 =>
          simp only [o, Fl.turn] at h1
          exact fun β4 H4 σ4 x4 s4 e4 => ⟨β4, env2, st3, e4, s4, PostS.ext x4 h1⟩
        | ct env2 st3 =>
          simp only [o, Fl.turn] at h1
          exact fun β4 H4 σ4 x4 s4 e4 => ⟨β4, env2, st3, e4, s4, PostS.ext x4 h1⟩
        | bk env2 st3 => simp only [o, Fl.turn] at h1; exact h1
        | rt d2 st3 => simp only [o, Fl.turn] at h1; exact h1
        | exc c fs st3 => simp only [o, Fl.turn] at h1; exact h1
        | bad => simp only [o, Fl.turn] at h1; exact h1
  · exact h.elim
end
/-! ### comprehensions -/
/-- an error within counts as no answer -/
def Out.ne {α : Type} (o : Out α) : Out α := match o with
  | .ok a s => .ok a s
  | _ => .bad
@[simp] theorem Out.ne_ok {α : Type} (a : α) (s : AS) : (Out.ok a s).ne = .ok a s := rfl
noncomputable def compL (g : D → En → AS → Out En) (t : En → AS → Out Bool) (f : En → AS → Out D) (env : En) (gs : Gd) : List D → AS → Out (List D)
  | [], st => if gs.ok st then .ok [] st else .bad
  | d :: ds, st => if gs.ok st then (g d env st).ne.bind fun env1 st => (t env1 st).ne.bind fun b st =>
      if b = true then (f env1 st).ne.bind fun y st => (compL g t f env gs ds st).bind fun ys st => .ok (y :: ys) st else compL g t f env gs ds st
    else .bad
@[simp] def wipeD (env : En) : List Nat → En
  | [] => env
  | v :: vs => (wipeD env vs).set v none
@[simp] noncomputable def vLc (c : Bool) (vs : List Nat) (fi : En → AS → Out (List D × Gd)) (g : D → En → AS → Out En) (t : En → AS → Out Bool) (f : En → AS → Out D) (env : En) (st : AS) : Out D := (fi env st).bind fun p st =>
  if p.1.length ≤ sizeLine then (compL g t f (wipeD env vs) p.2 p.1 st).bind fun ys st => mk c ys st else .bad
section
variable {K : PySem.W.Frag} {mg : MG} {β β' : Bt} {H H' : Hp} {st : AS} {p : Addr}
mutual
theorem Rep.hide {o : HO} (hp : H p = none) : ∀ {d : D} {u : V}, Rep K H β d u → Rep K (upd H p o) (β.hide p) d u
  | _, _, .non => .non
  | _, _, .bl b => .bl b
  | _, _, .int i => .int i
  | _, _, .str s => .str s
  | _, _, .cv v => .cv v
  | _, _, .ref h => .ref h
  | _, _, .tup n h r => .tup ⟨n.1, fun z => (List.mem_cons.mp z).elim (ne_of_none h hp) n.2⟩ ((upd_ne (ne_of_none h hp)).trans h) (Reps.hide hp r)
  | _, _, .ctp h r => .ctp (h.imp fun o h n => ⟨(upd_ne (ne_of_none h hp)).trans h, n.1, fun z => (List.mem_cons.mp z).elim (ne_of_none h hp) n.2⟩) (Reps.hide hp r)
  | _, _, .lst n h r => .lst ⟨n.1, fun z => (List.mem_cons.mp z).elim (ne_of_none h hp) n.2⟩ ((upd_ne (ne_of_none h hp)).trans h) (Reps.hide hp r)
  | _, _, .fzl h r => .fzl (h.imp (fun z => by
      obtain ⟨n, z⟩ := z
      rcases z with h | ⟨w, h⟩
      · exact ⟨⟨n.1, fun z => (List.mem_cons.mp z).elim (ne_of_none h hp) n.2⟩, .inl ((upd_ne (ne_of_none h hp)).trans h)⟩
      · exact ⟨⟨n.1, fun z => (List.mem_cons.mp z).elim (ne_of_none h hp) n.2⟩, .inr ⟨w, (upd_ne (ne_of_none h hp)).trans h⟩⟩) id) (Reps.hide hp r)
theorem Reps.hide {o : HO} (hp : H p = none) : ∀ {ds : List D} {us : List V}, Reps K H β ds us → Reps K (upd H p o) (β.hide p) ds us
  | _, _, .nil => .nil
  | _, _, .cons r t => .cons (Rep.hide hp r) (Reps.hide hp t)
end
mutual
/-- what is hidden may change -/
theorem Rep.hid {o : HO} (hp : p ∈ β.h) : ∀ {d : D} {u : V}, Rep K H β d u → Rep K (upd H p o) β d u
  | _, _, .non => .non
  | _, _, .bl b => .bl b
  | _, _, .int i => .int i
  | _, _, .str s => .str s
  | _, _, .cv v => .cv v
  | _, _, .ref h => .ref h
  | _, _, .tup n h r => .tup n ((upd_ne (fun z => n.2 (by rw [z]; exact hp))).trans h) (Reps.hid hp r)
  | _, _, .ctp h r => .ctp (h.imp fun o h n => ⟨(upd_ne (fun z => n.2 (by rw [z]; exact hp))).trans h, n⟩) (Reps.hid hp r)
  | _, _, .lst n h r => .lst n ((upd_ne (fun z => n.2 (by rw [z]; exact hp))).trans h) (Reps.hid hp r)
  | _, _, .fzl h r => .fzl (h.imp (fun z => by
      obtain ⟨n, z⟩ := z
      rcases z with h | ⟨w, h⟩
      · exact ⟨n, .inl ((upd_ne (fun z => n.2 (by rw [z]; exact hp))).trans h)⟩
      · exact ⟨n, .inr ⟨w, (upd_ne (fun z => n.2 (by rw [z]; exact hp))).trans h⟩⟩) id) (Reps.hid hp r)
theorem Reps.hid {o : HO} (hp : p ∈ β.h) : ∀ {ds : List D} {us : List V}, Reps K H β ds us → Reps K (upd H p o) β ds us
  | _, _, .nil => .nil
  | _, _, .cons r t => .cons (Rep.hid hp r) (Reps.hid hp t)
end
mutual
/-- fewer things hidden, more things numbered -/
theorem Rep.weak (hl : ∀ (i : Nat) a, β.l[i]? = some a → β'.l[i]? = some a) (ho : ∀ a o, H a = some o → β.out a → β'.out a) : ∀ {d : D} {u : V}, Rep K H β d u → Rep K H β' d u
  | _, _, .non => .non
  | _, _, .bl b => .bl b
  | _, _, .int i => .int i
  | _, _, .str s => .str s
  | _, _, .cv v => .cv v
  | _, _, .ref h => .ref (hl _ _ h)
  | _, _, .tup n h r => .tup (ho _ _ h n) h (Reps.weak hl ho r)
  | _, _, .ctp h r => .ctp (h.imp fun o h n => ⟨h, ho _ _ h n⟩) (Reps.weak hl ho r)
  | _, _, .lst n h r => .lst (ho _ _ h n) h (Reps.weak hl ho r)
  | _, _, .fzl h r => .fzl (h.imp (fun z => by
      obtain ⟨n, z⟩ := z
      rcases z with h | ⟨w, h⟩
      · exact ⟨ho _ _ h n, .inl h⟩
      · exact ⟨ho _ _ h n, .inr ⟨w, h⟩⟩) id) (Reps.weak hl ho r)
theorem Reps.weak (hl : ∀ (i : Nat) a, β.l[i]? = some a → β'.l[i]? = some a) (ho : ∀ a o, H a = some o → β.out a → β'.out a) : ∀ {ds : List D} {us : List V}, Reps K H β ds us → Reps K H β' ds us
  | _, _, .nil => .nil
  | _, _, .cons r t => .cons (Rep.weak hl ho r) (Reps.weak hl ho t)
end
theorem CellOk.map {H' : Hp} {β' : Bt} {a : Addr} {c : C} (f : ∀ {ds us}, Reps K H β ds us → Reps K H' β' ds us) (e : H' a = H a) (h : CellOk K mg H β a c) : CellOk K mg H' β' a c := by
  cases c with
  | lst ds => obtain ⟨us, q, r⟩ := h; exact ⟨us, e.trans q, f r⟩
  | dct kvs => obtain ⟨us, q, r⟩ := h; exact ⟨us, e.trans q, r.1, f r.2⟩
  | dtt kvs => obtain ⟨us, q, r⟩ := h; exact ⟨us, e.trans q, r.1, f r.2⟩
  | dtf kvs => obtain ⟨us, bs, q, r, t⟩ := h; exact ⟨us, bs, e.trans q, ⟨r.1, f r.2⟩, f t⟩
  | lck kvs => obtain ⟨z, us, q, r⟩ := h; exact ⟨z, us, e.trans q, r.1, f r.2⟩
  | obj c fs => obtain ⟨Ca, dx, us, m, q, r⟩ := h; exact ⟨Ca, dx, us, m, e.trans q, r.1, f r.2⟩
theorem Sim.hide {o : HO} (S : Sim K mg β st H) (hp : H p = none) : Sim K mg (β.hide p) st (upd H p o) := by
  refine ⟨S.len, S.nd, fun a ha => ?_, fun i a c h1 h2 => ?_⟩
  · rcases List.mem_cons.mp ha with z | z
    · subst z
      exact ⟨(S.fresh hp).1, o, upd_same⟩
    · obtain ⟨n, u, e⟩ := S.hid a z
      exact ⟨n, u, (upd_ne (ne_of_none e hp)).trans e⟩
  · have q := S.cell i a c h1 h2
    obtain ⟨u, e, _⟩ := q.there
    exact q.map (fun r => Reps.hide hp r) (upd_ne (ne_of_none e hp))
theorem Sim.hidden {o : HO} (S : Sim K mg β st H) (hp : p ∈ β.h) : Sim K mg β st (upd H p o) := by
  refine ⟨S.len, S.nd, fun a ha => ?_, fun i a c h1 h2 => ?_⟩
  · obtain ⟨n, u, e⟩ := S.hid a ha
    by_cases z : a = p
    · subst z
      exact ⟨n, o, upd_same⟩
    · exact ⟨n, u, (upd_ne z).trans e⟩
  · have ne : a ≠ p := fun z => (S.hid p hp).1 (by rw [← z]; exact List.mem_of_getElem? h1)
    exact (S.cell i a c h1 h2).map (fun r => Reps.hid hp r) (upd_ne ne)
theorem Bt.hide_out {a : Addr} (h : (β.hide p).out a) : β.out a := ⟨h.1, fun z => h.2 (List.mem_cons_of_mem _ z)⟩
theorem Sim.unhide (S : Sim K mg (β.hide p) st H) : Sim K mg β st H :=
  ⟨S.len, S.nd, fun a ha => S.hid a (List.mem_cons_of_mem _ ha), fun i a c h1 h2 => CellOk.map (β := β.hide p) (β' := β) (fun r => Reps.weak (β := β.hide p) (β' := β) (fun _ _ z => z) (fun _ _ _ z => Bt.hide_out (β := β) z) r) rfl (S.cell i a c h1 h2)⟩
end
theorem wipe_eq {σ σ' : L2.St} {vs : List Nat} (hl : σ'.length = σ.length) (h : ∀ j, j ∉ vs → σ'[j]? = σ[j]?) : wipe σ' vs = wipe σ vs := by
  have at_ : ∀ (σ : L2.St) (vs : List Nat) (j : Nat), j ∈ vs → j < σ.length → (wipe σ vs)[j]? = some none := by
    intro σ vs
    induction vs with
    | nil => intro j hj; cases hj
    | cons v vs ih =>
      intro j hj hlt
      unfold wipe
      by_cases z : v = j
      · subst z
        exact List.getElem?_set_self (by rw [wipe_length]; exact hlt)
      · rw [List.getElem?_set_ne z]
        exact ih j ((List.mem_cons.mp hj).elim (fun w => absurd w.symm z) id) hlt
  apply List.ext_getElem?
  intro j
  by_cases hj : j ∈ vs
  · by_cases hlt : j < σ.length
    · rw [at_ σ vs j hj hlt, at_ σ' vs j hj (by omega)]
    · rw [List.getElem?_eq_none (by rw [wipe_length]; omega), List.getElem?_eq_none (by rw [wipe_length]; omega)]
  · rw [wipe_out hj, wipe_out hj, h j hj]
theorem EnvR.wipe {K : PySem.W.Frag} {H : Hp} {β : Bt} {env : En} {σ : L2.St} (e : EnvR K H β env σ) : ∀ vs : List Nat, EnvR K H β (wipeD env vs) (L2.wipe σ vs)
  | [] => e
  | v :: vs => by
    have ih := EnvR.wipe e vs
    refine ⟨by unfold wipeD L2.wipe; rw [List.length_set, List.length_set, ih.len], fun i d h => ?_⟩
    unfold wipeD at h
    unfold L2.wipe
    by_cases z : v = i
    · subst z
      by_cases hlt : v < (wipeD env vs).length
      · rw [List.getElem?_set_self hlt] at h
        cases h
      · rw [List.getElem?_eq_none (by simpa using hlt)] at h
        cases h
    · rw [List.getElem?_set_ne z] at h ⊢
      exact ih.get i d h
end VL

set_option Elab.async false
set_option linter.all false
set_option maxRecDepth 100000
/-! The value layer: comprehensions, defs, calls. -/
namespace VL
open PySem PySem.Spec PyProof.Rows L2 TB

theorem post_ne {α ρ γ τ : Type} {K : PySem.W.Frag} {mg : MG} {E : XK} {R : Hp → Bt → α → ρ → Prop} {R' : Hp → Bt → γ → τ → Prop} {β0 β : Bt} {H0 H : Hp} {Q : τ → Hp → Prop} {Q' : ρ → Hp → Prop} {o : Out α} {k : α → AS → Out γ}
    (h : Post K mg R' E β0 H0 Q (o.ne.bind k)) (hk : ∀ a st1 β1 H1 u, Ext β H β1 H1 → Sim K mg β1 st1 H1 → R H1 β1 a u → Post K mg R' E β0 H0 Q (k a st1) → Q' u H1) : Post K mg R E0 β H Q' o := by
  cases o with
  | ok a st => exact fun β1 H1 u x s r => hk a st β1 H1 u x s r h
  | exc c fs st => exact h.elim
  | bad => exact h.elim
section
variable {X : Cx} {E : XK} {tg it elt : Expr} {ifs : List Expr} {fi : En → AS → Out (List D × Gd)} {g : D → En → AS → Out En} {t : En → AS → Out Bool} {f : En → AS → Out D} {pos : Pos} {ws vs : List Nat}
theorem use_lc (c : Bool) (hw : ∀ j ∈ ws, j ∈ vs) {σ : L2.St} {H : Hp} {Q : VK} (h : tV X.K X.mgw E (vLc c vs fi g t f) σ H Q) :
    tLc (tG X.K X.mgw (rI X.K X.mgw) E fi) (tVG X.K X.mgw E0 ws g) (tVT X.K X.mgw E0 t) (tV X.K X.mgw E0 f) vs σ H Q := by
  obtain ⟨β, env, st, he, hs, h⟩ := h
  refine tG_bind he hs h fun pr st1 β1 H1 J x1 s1 e1 w h1 Da nD => ?_
  obtain ⟨items, gs⟩ := pr
  obtain ⟨hsz, h1⟩ := h1.ite
  have hsz : items.length ≤ sizeLine := hsz
  refine ⟨fun i m H => m = items.length - i ∧ i ≤ items.length ∧ ∃ β' st acc ys, Ext (β1.hide Da) (upd H1 Da (.lst [])) (β'.hide Da) (upd H Da (.lst [])) ∧ Sim X.K X.mgw (β'.hide Da) st H ∧ EnvR X.K H (β'.hide Da) env σ ∧ H Da = some (.lst acc) ∧ Reps X.K H (β'.hide Da) ys acc ∧ ys.length ≤ i ∧
    Post X.K X.mgw (rD X.K) E β1 H1 Q ((compL g t f (wipeD env vs) gs (items.drop i) st).bind fun zs st => mk c (ys ++ zs) st),
    ⟨_, rfl, Nat.zero_le _, β1, st1, [], [], by rw [upd_upd]; exact Ext.refl _ _, s1.hide nD, ⟨e1.len, fun i d q => ?_⟩, upd_same, .nil, Nat.le_refl _, h1⟩, ?_⟩
  · obtain ⟨u, h1, h2⟩ := e1.get i d q
    exact ⟨u, h1, h2.hide nD⟩
  rintro i m H ⟨rfl, hi, β2, st2, acc, ys, x, s2, e2, hD, rys, hly, hq⟩
  -- how the heap has come from the start, as far as anybody knows
  have xw : ExtF β1 H1 (β2.hide Da) H := by
    obtain ⟨gx, eg⟩ := x.pre
    refine ⟨⟨⟨gx, eg⟩, fun a o ha na => ?_⟩, fun a z u e => ?_⟩
    · have ne : a ≠ Da := ne_of_none ha nD
      obtain ⟨q1, q2⟩ := x.kept a o ((upd_ne ne).trans ha) ⟨na.1, fun z => (List.mem_cons.mp z).elim ne na.2⟩
      exact ⟨(upd_ne ne).symm.trans q1, q2⟩
    · have ne : a ≠ Da := ne_of_none e nD
      exact (upd_ne ne).symm.trans (x.frz a z u ((upd_ne ne).trans e))
  have xs : Ext β1 H1 β2 H := by
    obtain ⟨gx, eg⟩ := x.pre
    refine ⟨⟨gx, eg⟩, List.cons.inj x.hid |>.2, fun a o ha na => ?_, fun a z u e => ?_⟩
    · have ne : a ≠ Da := ne_of_none ha nD
      obtain ⟨q1, q2⟩ := x.kept0 a o ((upd_ne ne).trans ha) na
      exact ⟨(upd_ne ne).symm.trans q1, q2⟩
    · have ne : a ≠ Da := ne_of_none e nD
      exact (upd_ne ne).symm.trans (x.frz a z u ((upd_ne ne).trans e))
  by_cases hlt : i < items.length
  · have ed : items.drop i = items[i] :: items.drop (i + 1) := List.drop_eq_getElem_cons hlt
    rw [ed, compL] at hq
    by_cases gk : gs.ok st2
    · rw [if_pos gk] at hq
      refine .inr ⟨w.go i (β2.hide Da) H st2 xw s2 gk hlt, fun H' => ∃ (β' : Bt) (st : AS) (acc : List V) (ys : List D), Ext (β1.hide Da) (upd H1 Da (.lst [])) (β'.hide Da) (upd H' Da (.lst [])) ∧ Sim X.K X.mgw (β'.hide Da) st H' ∧ EnvR X.K H' (β'.hide Da) env σ ∧ H' Da = some (.lst acc) ∧ Reps X.K H' (β'.hide Da) ys acc ∧ ys.length ≤ i + 1 ∧
        Post X.K X.mgw (rD X.K) E β1 H1 Q ((compL g t f (wipeD env vs) gs (items.drop (i + 1)) st).bind fun zs st => mk c (ys ++ zs) st), ?_, fun v H' y => ?_⟩
      · rintro H' z
        exact ⟨items.length - (i + 1), by omega, rfl, hlt, z⟩
      · obtain ⟨sm, d, e3, r⟩ := w.yld i (β2.hide Da) H st2 v H' xw s2 gk hlt y
        have e4 : d = items[i] := by
          rw [List.getElem?_eq_getElem hlt] at e3
          exact (Option.some.inj e3).symm
        rw [← e4] at hq
        have x2 : Ext (β2.hide Da) H (β2.hide Da) H' := Ext.same sm
        have a2 : EnvR X.K H' (β2.hide Da) env σ := e2.ext x2
        -- a step within keeps Da and what is known
        have keep : ∀ {β3 : Bt} {H3 : Hp}, Ext (β2.hide Da) H β3 H3 → ∃ β3' : Bt, β3 = β3'.hide Da ∧ H3 Da = some (.lst acc) ∧ Ext (β1.hide Da) (upd H1 Da (.lst [])) (β3'.hide Da) (upd H3 Da (.lst [])) := by
          intro β3 H3 x3
          have hh := x3.hid
          obtain ⟨l3, h3⟩ := β3
          change h3 = Da :: β2.h at hh
          subst hh
          have nl : Da ∉ (β2.hide Da).l := (s2.hid Da List.mem_cons_self).1
          obtain ⟨q1, q2⟩ := x3.kept0 Da _ hD nl
          refine ⟨⟨l3, β2.h⟩, rfl, q1, x.trans ⟨x3.pre, rfl, fun a o ha na => ?_, fun a w u e => ?_⟩⟩
          · by_cases z : a = Da
            · subst z
              rw [upd_same] at ha ⊢
              exact ⟨ha, q2⟩
            · rw [upd_ne z] at ha ⊢
              exact x3.kept0 a o ha na
          · by_cases z : a = Da
            · subst z
              rw [upd_same] at e
              cases e
            · rw [upd_ne z] at e ⊢
              exact x3.frz a w u e
        refine ⟨β2.hide Da, wipeD env vs, st2, d, a2.wipe vs, s2.same sm, r, ?_⟩
        have hq2 : Post X.K X.mgw (rD X.K) E β1 H1 Q ((g d (wipeD env vs) st2).ne.bind fun env1 st => (((t env1 st).ne.bind fun b st => if b = true then (f env1 st).ne.bind fun y st => (compL g t f (wipeD env vs) gs (items.drop (i + 1)) st).bind fun ys st => .ok (y :: ys) st else compL g t f (wipeD env vs) gs (items.drop (i + 1)) st)).bind fun zs st => mk c (ys ++ zs) st) := by
          cases o : g d (wipeD env vs) st2 with
          | ok a s => rw [o] at hq; exact hq
          | exc x y z => rw [o] at hq; exact hq
          | bad => rw [o] at hq; exact hq
        refine post_ne hq2 fun env1 st3 β3 H3 σ3 x3 s3 e3 h3 => ⟨?_, ?_⟩
        · have w1 : L2.wipe σ3 vs = L2.wipe (L2.wipe σ vs) vs := wipe_eq e3.2.1 fun j hj => e3.2.2 j fun z => hj (hw j z)
          have w2 : L2.wipe (L2.wipe σ vs) vs = L2.wipe σ vs := wipe_eq (wipe_length σ vs) fun j hj => wipe_out hj
          exact w1.trans w2
        · refine ⟨β3, env1, st3, e3.1, s3, ?_⟩
          have h3' : Post X.K X.mgw (rD X.K) E β1 H1 Q ((t env1 st3).ne.bind fun b st => (if b = true then (f env1 st).ne.bind fun y st => (compL g t f (wipeD env vs) gs (items.drop (i + 1)) st).bind fun ys st => .ok (y :: ys) st else compL g t f (wipeD env vs) gs (items.drop (i + 1)) st).bind fun zs st => mk c (ys ++ zs) st) := by
            cases o : t env1 st3 with
            | ok a s => rw [o] at h3; exact h3
            | exc x y z => rw [o] at h3; exact h3
            | bad => rw [o] at h3; exact h3
          refine post_ne h3' fun b st4 β4 H4 b' x4 s4 r4 h4 => ?_
          obtain rfl : b = b' := r4
          cases b with
          | false =>
            obtain ⟨β4', rfl, q1, q2⟩ := keep ((x2.trans x3).trans x4)
            have xx := (x2.trans x3).trans x4
            exact ⟨β4', st4, acc, ys, q2, s4, e2.ext xx, q1, rys.ext xx, by omega, h4⟩
          | true =>
            have h4' : Post X.K X.mgw (rD X.K) E β1 H1 Q ((f env1 st4).ne.bind fun y st => (compL g t f (wipeD env vs) gs (items.drop (i + 1)) st).bind fun zs st => mk c (ys ++ (y :: zs)) st) := by
              cases o : f env1 st4 with
              | ok a s =>
                simp only [if_true, o, Out.ne_ok, Out.bind_ok] at h4 ⊢
                cases o2 : compL g t f (wipeD env vs) gs (items.drop (i + 1)) s with
                | ok a2 s2 => rw [o2] at h4; exact h4
                | exc x y z => rw [o2] at h4; exact h4
                | bad => rw [o2] at h4; exact h4
              | exc x y z => simp only [if_true, o] at h4; exact h4
              | bad => simp only [if_true, o] at h4; exact h4
            refine ⟨β4, env1, st4, e3.1.ext x4, s4, post_ne h4' fun yv st5 β5 H5 yu x5 s5 r5 h5 => ?_⟩
            have xx := ((x2.trans x3).trans x4).trans x5
            obtain ⟨β5', rfl, q1, q2⟩ := keep xx
            have hm : Da ∈ (β5'.hide Da).h := List.mem_cons_self
            refine ⟨acc, q1, by rw [rys.length]; omega, β5', st5, acc ++ [yu], ys ++ [yv], by rw [upd_upd]; exact q2, s5.hidden hm, ⟨e2.len, fun i d q => ?_⟩, upd_same, ?_, by rw [List.length_append, List.length_singleton]; omega, ?_⟩
            · obtain ⟨u, h1, h2⟩ := e2.get i d q
              exact ⟨u, h1, Rep.hid hm (h2.ext xx)⟩
            · exact Reps.hid hm ((rys.ext xx).append (.cons r5 .nil))
            · simpa using h5
    · rw [if_neg gk] at hq
      exact hq.elim
  · have e : i = items.length := by omega
    subst e
    rw [List.drop_length, compL] at hq
    by_cases gk : gs.ok st2
    · rw [if_pos gk] at hq
      refine .inl ⟨w.stop (β2.hide Da) H st2 xw s2 gk, ?_⟩
      have hq : Post X.K X.mgw (rD X.K) E β1 H1 Q (mk c ys st2) := by simpa using hq
      have su := s2.unhide
      have nl : Da ∉ β2.l := (s2.hid Da List.mem_cons_self).1
      have nb : β1.out Da := s1.fresh nD
      have nh : Da ∉ β2.h := by
        have := List.cons.inj x.hid |>.2
        rw [this]
        exact nb.2
      have ru : Reps X.K H β2 ys acc := Reps.weak (β := β2.hide Da) (β' := β2) (fun _ _ z => z) (fun _ _ _ z => Bt.hide_out (β := β2) z) rys
      cases c with
      | false => exact hq β2 H (.ref Da) xs su (.lst ⟨nl, nh⟩ hD ru)
      | true =>
        have hl : ∀ (i : Nat) a, (β2.hide Da).l[i]? = some a → (β2.push Da).l[i]? = some a := fun i a z => by
          have hlt := (List.getElem?_eq_some_iff.mp z).1
          have hlt : i < β2.l.length := hlt
          exact (List.getElem?_append_left hlt).trans z
        have ho : ∀ a o, H a = some o → (β2.hide Da).out a → (β2.push Da).out a := fun a o _ n => ⟨fun z => (List.mem_append.mp z).elim n.1 fun z => n.2 (by rw [List.mem_singleton.mp z]; exact List.mem_cons_self), fun z => n.2 (List.mem_cons_of_mem _ z)⟩
        have S' : Sim X.K X.mgw (β2.push Da) (st2 ++ [.lst ys]) H := by
          refine ⟨by simp [Bt.push, su.len], ?_, fun a ha => ?_, fun j a c' h1 h2 => ?_⟩
          · show (β2.l ++ [Da]).Nodup
            rw [List.nodup_append]
            refine ⟨su.nd, by simp, fun a ha b hb => ?_⟩
            rw [List.mem_singleton.mp hb]
            rintro rfl
            exact nl ha
          · obtain ⟨n, u, e⟩ := su.hid a ha
            refine ⟨fun z => ?_, u, e⟩
            rcases List.mem_append.mp z with z | z
            · exact n z
            · rw [List.mem_singleton.mp z] at ha
              exact nh ha
          · change (β2.l ++ [Da])[j]? = some a at h1
            by_cases hj : j < st2.length
            · rw [List.getElem?_append_left (by rw [su.len]; exact hj)] at h1
              rw [List.getElem?_append_left hj] at h2
              exact CellOk.map (β := β2.hide Da) (fun r => Reps.weak hl ho r) rfl (s2.cell j a c' h1 h2)
            · have h3 : j < (st2 ++ [C.lst ys]).length := (List.getElem?_eq_some_iff.mp h2).1
              have e : j = st2.length := by simp at h3; omega
              subst e
              rw [List.getElem?_append_right (by omega), Nat.sub_self] at h2
              rw [List.getElem?_append_right (by rw [su.len]; omega), su.len, Nat.sub_self] at h1
              simp at h1 h2
              subst h1
              subst h2
              exact ⟨acc, hD, Reps.weak hl ho rys⟩
        refine hq (β2.push Da) H (.ref Da) ?_ S' (.ref (by rw [← su.len]; simp [Bt.push]))
        obtain ⟨gx, eg⟩ := xs.pre
        refine ⟨⟨gx ++ [Da], ?_⟩, xs.hid, fun a o ha na => ?_, xs.frz⟩
        · show β2.l ++ [Da] = β1.l ++ (gx ++ [Da])
          rw [eg, List.append_assoc]
        · obtain ⟨q1, q2⟩ := xs.kept0 a o ha na
          refine ⟨q1, fun z => ?_⟩
          rcases List.mem_append.mp z with z | z
          · exact q2 z
          · rw [List.mem_singleton.mp z, nD] at ha
            cases ha
    · rw [if_neg gk] at hq
      exact hq.elim
theorem ve_lc (k : Bool) {scope : Scope} {own : List (Str × Nat)} (hw : ∀ j ∈ ws, j ∈ own.map (·.2)) (hc : X.calm = true) (hN : X.N.Nodup) (hi : VI X E tg it fi) (ok : BlkOk X.N X.env.scope scope own)
    (hg : ∀ (s : Shared) (H : Hp) (C : Addr) (cl : List (Str × Addr)) (fp : List Addr), VG (X.blk s H scope (compEnvC scope cl C X.env) fp) E0 tg ws g) (ht : ∀ (s : Shared) (H : Hp) (C : Addr) (cl : List (Str × Addr)) (fp : List Addr), PTs (X.blk s H scope (compEnvC scope cl C X.env) fp) ifs (tVT X.K X.mgw E0 t))
    (he : ∀ (s : Shared) (H : Hp) (C : Addr) (cl : List (Str × Addr)) (fp : List Addr), VE (X.blk s H scope (compEnvC scope cl C X.env) fp) E0 elt f) (hs : ∀ x, foldedSetIterable it X.env x = pure x := by intro _; rfl) :
    VE X E (.ListComp elt [⟨tg, it, ifs, 0⟩] scope pos) (vLc k (own.map (·.2)) fi g t f) :=
  weakE (pe_lc hc hN hi ok hg ht he hs) fun σ H Q h => use_lc k hw h
theorem vs_setLc (k : Bool) {i : Nat} {y : Str} {py spos : Pos} {scope : Scope} {own : List (Str × Nat)} (hw : ∀ j ∈ ws, j ∈ own.map (·.2)) (hc : X.calm = true) (hN : X.N.Nodup) (hy : X.N[i]? = some y) (hyl : X.env.scope.names.lookup y = some .local)
    (hsw : swapsWith (.ListComp elt [⟨tg, it, ifs, 0⟩] scope pos) (some (.Name y py)) spos.line X.env = pure true) (hi : VI X E tg it fi) (ok : BlkOk X.N X.env.scope scope own)
    (hg : ∀ (s : Shared) (H : Hp) (C : Addr) (cl : List (Str × Addr)) (fp : List Addr), VG (X.blk s H scope (compEnvC scope cl C X.env) fp) E0 tg ws g) (ht : ∀ (s : Shared) (H : Hp) (C : Addr) (cl : List (Str × Addr)) (fp : List Addr), PTs (X.blk s H scope (compEnvC scope cl C X.env) fp) ifs (tVT X.K X.mgw E0 t))
    (he : ∀ (s : Shared) (H : Hp) (C : Addr) (cl : List (Str × Addr)) (fp : List Addr), VE (X.blk s H scope (compEnvC scope cl C X.env) fp) E0 elt f) (hs : ∀ x, foldedSetIterable it X.env x = pure x := by intro _; rfl) :
    VS X E (.Assign [.Name y py] (.ListComp elt [⟨tg, it, ifs, 0⟩] scope pos) spos) (sSet i (vLc k (own.map (·.2)) fi g t f)) :=
  weakS (ps_setLc (g := tVG X.K X.mgw E0 ws g) (te := tV X.K X.mgw E0 f) hc hN hy hyl hsw hi ok hg ht he hs) fun De σ H ⟨β, env, st, he, hs, h⟩ => by
    refine use_lc (E := E) (g := g) (t := t) (f := f) k hw ?_
    exact fl_bind he hs h fun a st1 β1 H1 u x s1 e1 r1 h1 => h1 β1 H1 _ (Ext.refl _ _) s1 (e1.set r1 i)
@[simp] def tYesV (_ : En) (st : AS) : Out Bool := .ok true st
theorem vts_nil : PTs X [] (tVT X.K X.mgw E tYesV) := ⟨fun pins s σ H Q I h => (pts_nil (X := X)).run pins s σ H Q I (by
  obtain ⟨β, env, st, he, hs, h⟩ := h
  exact h.here hs rfl)⟩
theorem vts_one {c : Expr} (h : VT X E c t) : PTs X [c] (tVT X.K X.mgw E t) := pts_one h
end

/-! ### defs -/
mutual
def D.low (n : Nat) : D → Bool
  | .tup ds => D.lows n ds
  | .lst ds => D.lows n ds
  | .ctp ds => D.lows n ds
  | .fzl ds => D.lows n ds
  | .ref i => decide (i < n)
  | _ => true
def D.lows (n : Nat) : List D → Bool
  | [] => true
  | d :: ds => d.low n && D.lows n ds
end
theorem D.lows_eq (n : Nat) : ∀ ds : List D, D.lows n ds = ds.all (D.low n)
  | [] => rfl
  | d :: ds => by rw [D.lows, D.lows_eq n ds, List.all_cons]
def C.low (n : Nat) : C → Bool
  | .lst ds => D.lows n ds
  | .dct kvs => D.lows n (kvs.map (·.2))
  | .dtt kvs => D.lows n (kvs.map (·.2))
  | .dtf kvs => D.lows n (kvs.map (·.2))
  | .lck kvs => D.lows n (kvs.map (·.2))
  | .obj _ fs => D.lows n (fs.map (·.2))
theorem kDs_low (n : Nat) : ∀ ks : List Key, D.lows n (ks.map kD) = true
  | [] => by rw [List.map_nil, D.lows]
  | k :: ks => by
    rw [List.map_cons, D.lows, kDs_low n ks, Bool.and_true]
    cases k <;> simp [kD, D.low]
theorem keys_low (n : Nat) : ∀ kvs : List (List Key × D), D.lows n (kvs.map fun p => .ctp (p.1.map kD)) = true
  | [] => by rw [List.map_nil, D.lows]
  | p :: kvs => by
    rw [List.map_cons, D.lows, keys_low n kvs, D.low, kDs_low]
    rfl
section
variable {K : PySem.W.Frag} {mg : MG} {β β' : Bt} {H H' : Hp} {st st' : AS}
mutual
theorem Rep.low : ∀ {d : D} {u : V}, Rep K H β d u → d.low β.l.length = true
  | _, _, .non => by simp [D.low]
  | _, _, .bl b => by simp [D.low]
  | _, _, .int i => by simp [D.low]
  | _, _, .str s => by simp [D.low]
  | _, _, .cv v => by simp [D.low]
  | _, _, .ref h => by
    have := (List.getElem?_eq_some_iff.mp h).1
    simpa [D.low] using this
  | _, _, .tup n h r => by rw [D.low]; exact Reps.low r
  | _, _, .ctp h r => by rw [D.low]; exact Reps.low r
  | _, _, .lst n h r => by rw [D.low]; exact Reps.low r
  | _, _, .fzl h r => by rw [D.low]; exact Reps.low r
theorem Reps.low : ∀ {ds : List D} {us : List V}, Reps K H β ds us → D.lows β.l.length ds = true
  | _, _, .nil => by rw [D.lows]
  | _, _, .cons r t => by rw [D.lows, Rep.low r, Reps.low t]; rfl
end
mutual
/-- the younger things are dropped -/
theorem Rep.drop {n : Nat} (hl : ∀ (i : Nat) a, i < n → β'.l[i]? = some a → β.l[i]? = some a) (ho : ∀ a, β'.out a → β.out a) : ∀ {d : D} {u : V}, Rep K H β' d u → d.low n = true → Rep K H β d u
  | _, _, .non, _ => .non
  | _, _, .bl b, _ => .bl b
  | _, _, .int i, _ => .int i
  | _, _, .str s, _ => .str s
  | _, _, .cv v, _ => .cv v
  | _, _, .ref h, b => .ref (hl _ _ (by simpa [D.low] using b) h)
  | _, _, .tup n h r, b => .tup (ho _ n) h (Reps.dropped hl ho r (by rw [D.low] at b; exact b))
  | _, _, .ctp h r, b => .ctp (h.imp fun o h n => ⟨h, ho _ n⟩) (Reps.dropped hl ho r (by rw [D.low] at b; exact b))
  | _, _, .lst n h r, b => .lst (ho _ n) h (Reps.dropped hl ho r (by rw [D.low] at b; exact b))
  | _, _, .fzl h r, b => .fzl (h.imp (fun z => ⟨ho _ z.1, z.2⟩) id) (Reps.dropped hl ho r (by rw [D.low] at b; exact b))
theorem Reps.dropped {n : Nat} (hl : ∀ (i : Nat) a, i < n → β'.l[i]? = some a → β.l[i]? = some a) (ho : ∀ a, β'.out a → β.out a) : ∀ {ds : List D} {us : List V}, Reps K H β' ds us → D.lows n ds = true → Reps K H β ds us
  | _, _, .nil, _ => .nil
  | _, _, .cons r t, b => by
    rw [D.lows, Bool.and_eq_true] at b
    exact .cons (Rep.drop hl ho r b.1) (Reps.dropped hl ho t b.2)
end
/-- the younger lists, by what they hold -/
def frzD (st : AS) (n : Nat) : Nat → D → D
  | 0, d => d
  | k + 1, d => match d with
    | .ref i => if n ≤ i then (match st[i]? with
      | some (.lst ds) => .lst (ds.map (frzD st n k))
      | _ => .ref i) else .ref i
    | .tup ds => .tup (ds.map (frzD st n k))
    | .lst ds => .lst (ds.map (frzD st n k))
    | d => d
def OkOver (st st' : AS) : Prop := ∀ (i : Nat) (c : C), i < st.length → st'[i]? = some c → st[i]? = some c ∨ c.low st.length = true
noncomputable instance (st st' : AS) : Decidable (OkOver st st') := Classical.propDecidable _
/-- what a def tells: the younger things go, if nothing leans on them -/
noncomputable def ret (frz : Nat) (st : AS) (d : D) (st' : AS) : Out D :=
  if st'.length = st.length then .ok d st'
  else if (frzD st' st.length frz d).low st.length = true ∧ OkOver st st' then .ok (frzD st' st.length frz d) (st'.take st.length)
  else .ok d st'
theorem frz_ok {n : Nat} (S : Sim K mg β' st' H) (hl : ∀ (i : Nat) a, i < n → β'.l[i]? = some a → β.l[i]? = some a) (hn : ∀ a ∈ β.l, ∃ i, i < n ∧ β'.l[i]? = some a) (hh : β.h = β'.h) : ∀ (k : Nat) (d : D) (u : V), Rep K H β' d u → (frzD st' n k d).low n = true → Rep K H β (frzD st' n k d) u := by
  have ho : ∀ a, β'.out a → β.out a := fun a z => ⟨fun m => by
    obtain ⟨i, _, e⟩ := hn a m
    exact z.1 (List.mem_of_getElem? e), by rw [hh]; exact z.2⟩
  intro k
  induction k with
  | zero => exact fun d u r b => r.drop hl ho b
  | succ k ih =>
    have all : ∀ {ds : List D} {us : List V}, Reps K H β' ds us → D.lows n (ds.map (frzD st' n k)) = true → Reps K H β (ds.map (frzD st' n k)) us := by
      intro ds
      induction ds with
      | nil => intro us r _; cases r; exact .nil
      | cons d ds ihd =>
        intro us r b
        rw [List.map_cons, D.lows, Bool.and_eq_true] at b
        cases r with
        | cons r t => exact .cons (ih _ _ r b.1) (ihd t b.2)
    intro d u r b
    cases r with
    | non => exact .non
    | bl _ => exact .bl _
    | int _ => exact .int _
    | str _ => exact .str _
    | cv q => exact .cv q
    | ctp h r => exact Rep.drop (β' := β') hl ho (.ctp h r) b
    | fzl h r => exact Rep.drop (β' := β') hl ho (.fzl h r) b
    | tup nm h r =>
      change D.lows n _ = true at b
      exact .tup (ho _ nm) h (all r b)
    | lst nm h r =>
      change D.lows n _ = true at b
      exact .lst (ho _ nm) h (all r b)
    | ref h =>
      rename_i i a
      unfold frzD at b ⊢
      dsimp only at b ⊢
      by_cases hi : n ≤ i
      · rw [if_pos hi] at b ⊢
        split at b
        · rename_i ds e
          obtain ⟨us, e3, q⟩ := S.cell i a _ h e
          change D.lows n _ = true at b
          refine .lst ⟨fun m => ?_, ?_⟩ e3 (all q b)
          · obtain ⟨j, hj, ej⟩ := hn a m
            obtain ⟨l1, e1⟩ := List.getElem?_eq_some_iff.mp h
            obtain ⟨l2, e2⟩ := List.getElem?_eq_some_iff.mp ej
            have : i = j := (List.getElem_inj S.nd).mp (e1.trans e2.symm)
            omega
          · rw [hh]
            exact fun m => (S.hid a m).1 (List.mem_of_getElem? h)
        · have : i < n := by simpa [D.low] using b
          omega
      · rw [if_neg hi] at b ⊢
        exact .ref (hl i a (by omega) h)
theorem ret_ok {E : XK} {Q : VK} {frz : Nat} {d : D} {u : V} (S : Sim K mg β st H) (S' : Sim K mg β' st' H') (x : Ext β H β' H') (r : Rep K H' β' d u) (h : Post K mg (rD K) E β H Q (ret frz st d st')) : Q u H' := by
  unfold ret at h
  split at h
  · exact h β' H' u x S' r
  · split at h
    · rename_i hb
      obtain ⟨gx, eg⟩ := x.pre
      have hlen : β.l.length = st.length := S.len
      have hl : ∀ (i : Nat) a, i < st.length → β'.l[i]? = some a → β.l[i]? = some a := fun i a hi e => by
        rw [eg, List.getElem?_append_left (by omega)] at e
        exact e
      have hn : ∀ a ∈ β.l, ∃ i, i < st.length ∧ β'.l[i]? = some a := fun a m => by
        obtain ⟨i, hi, e⟩ := List.getElem_of_mem m
        exact ⟨i, by omega, by rw [eg, List.getElem?_append_left hi]; simp [hi, e]⟩
      have ho : ∀ a, β'.out a → β.out a := fun a z => ⟨fun m => z.1 (by rw [eg]; exact List.mem_append_left _ m), by rw [← x.hid]; exact z.2⟩
      have hle : st.length ≤ st'.length := by
        have := S'.len
        rw [eg, List.length_append] at this
        omega
      refine h β H' u ⟨⟨[], by simp⟩, rfl, fun a o ha na => ⟨(x.kept0 a o ha na).1, na⟩, x.frz⟩ ?_ (frz_ok S' hl hn x.hid.symm _ d u r hb.1)
      refine ⟨by rw [List.length_take]; omega, S.nd, fun a ha => ?_, fun i a c h1 h2 => ?_⟩
      · obtain ⟨n, o, e⟩ := S.hid a ha
        exact ⟨n, o, (x.kept0 a o e n).1⟩
      · have hi : i < st.length := by
          have := (List.getElem?_eq_some_iff.mp h1).1
          omega
        rw [List.getElem?_take_of_lt hi] at h2
        have q := S'.cell i a c (x.at h1) h2
        have bl : c.low st.length = true := by
          rcases hb.2 i c hi h2 with z | z
          · have q0 := S.cell i a c h1 z
            rw [← hlen]
            cases c with
            | lst ds => obtain ⟨_, _, r⟩ := q0; exact r.low
            | dct ds => obtain ⟨_, _, r⟩ := q0; exact r.2.low
            | dtt ds => obtain ⟨_, _, r⟩ := q0; exact r.2.low
            | dtf ds => obtain ⟨_, _, _, r, _⟩ := q0; exact r.2.low
            | lck ds => obtain ⟨_, _, _, r⟩ := q0; exact r.2.low
            | obj n fs => obtain ⟨_, _, _, _, _, r⟩ := q0; exact r.2.low
          · exact z
        cases c with
        | lst ds => obtain ⟨us, e, r⟩ := q; exact ⟨us, e, r.dropped hl ho bl⟩
        | dct ds => obtain ⟨us, e, r⟩ := q; exact ⟨us, e, r.1, r.2.dropped hl ho bl⟩
        | dtt ds => obtain ⟨us, e, r⟩ := q; exact ⟨us, e, r.1, r.2.dropped hl ho bl⟩
        | dtf ds => obtain ⟨us, bs, e, r, t⟩ := q; exact ⟨us, bs, e, ⟨r.1, r.2.dropped hl ho bl⟩, t.dropped hl ho (keys_low _ _)⟩
        | lck ds => obtain ⟨z, us, e, r⟩ := q; exact ⟨z, us, e, r.1, r.2.dropped hl ho bl⟩
        | obj n fs => obtain ⟨Ca, dx, us, m, e, r⟩ := q; exact ⟨Ca, dx, us, m, e, r.1, r.2.dropped hl ho bl⟩
    · exact h β' H' u x S' r
end
/-- the def as a plain function: N slots -/
noncomputable def Fl.fin (frz : Nat) (st : AS) (o : Fl) : Out D := match o with
  | .rt d st' => ret frz st d st'
  | .nx _ st' => ret frz st .non st'
  | .exc c fs st' => .exc c fs st'
  | _ => .bad
@[simp] theorem Fl.fin_rt (frz : Nat) (st st' : AS) (d : D) : (Fl.rt d st').fin frz st = ret frz st d st' := rfl
@[simp] theorem Fl.fin_nx (frz : Nat) (st st' : AS) (env : En) : (Fl.nx env st').fin frz st = ret frz st .non st' := rfl
@[simp] theorem Fl.fin_exc (frz : Nat) (st st' : AS) (c : Str) (fs : List (Str × D)) : (Fl.exc c fs st').fin frz st = .exc c fs st' := rfl
@[simp] theorem Fl.fin_bad (frz : Nat) (st : AS) : (Fl.bad).fin frz st = .bad := rfl
theorem Fl.fin_ite {p : Prop} [Decidable p] (frz : Nat) (st : AS) (a b : Fl) : (if p then a else b).fin frz st = if p then a.fin frz st else b.fin frz st := by split <;> rfl
@[simp] theorem ret_same (frz : Nat) (st : AS) (d : D) : ret frz st d st = .ok d st := by
  unfold ret
  rw [if_pos rfl]
@[simp] theorem ret_set (frz : Nat) (st : AS) (d : D) (i : Nat) (c : C) : ret frz st d (st.set i c) = .ok d (st.set i c) := by
  unfold ret
  rw [if_pos (by simp)]
theorem ret_len {frz : Nat} {st st' : AS} {d : D} (h : st'.length = st.length) : ret frz st d st' = .ok d st' := by
  unfold ret
  rw [if_pos h]
@[simp] noncomputable def vFn (N : Nat) (frz : Nat) (body : En → AS → Fl) (ds : List D) (st : AS) : Out D := (body (ds.map some ++ List.replicate (N - ds.length) none) st).fin frz st
def spV (K : PySem.W.Frag) (mg : MG) (n : Nat) (F : List D → AS → Out D) : Sp := fun vs H Q E => ∃ (β : Bt) (ds : List D) (st : AS), vs.length = n ∧ Reps K H β ds vs ∧ Sim K mg β st H ∧ Post K mg (rD K) E β H Q (F ds st)
section
variable {P : Program} {w : World} {K : PySem.W.Frag} {mg : Str → Option Value} {base : Heap}
theorem start_env {H : Hp} {β : Bt} {ds : List D} {vs : List V} {N : List Str} (r : Reps K H β ds vs) : EnvR K H β (ds.map some ++ List.replicate (N.length - ds.length) none) (L2.start N vs) := by
  unfold L2.start
  rw [r.length]
  refine ⟨by simp [r.length], fun i d h => ?_⟩
  by_cases hi : i < ds.length
  · rw [List.getElem?_append_left (by simpa using hi), List.getElem?_map] at h
    rw [List.getElem?_append_left (by simpa [r.length] using hi), List.getElem?_map]
    cases e : ds[i]? with
    | none => rw [e] at h; cases h
    | some d' =>
      rw [e] at h
      cases h
      obtain ⟨u, e1, r1⟩ := r.get e
      exact ⟨u, by rw [e1]; rfl, r1⟩
  · rw [List.getElem?_append_right (by simpa using hi)] at h
    have := List.mem_of_getElem? h
    rw [List.mem_replicate] at this
    cases this.2
/-- THE RULE of a def -/
theorem gokV {x qual : Str} {sd : Stmt} {f : Addr} {fd : FuncData} {N ps : List Str} {k : Nat} {body : En → AS → Fl} (frz : Nat) (F : Fun K x qual sd f fd) (S : FnScope N ps (defScope sd))
    (walk : ∀ (cdv : Value) (A : Around), A.guards = some [] → ∀ (outer : List Env) (s : Shared) (H : Hp) (E : XK), Room k (A.deeper (envOfC qual (defScope sd) s.heap.objs.size f cdv)) →
      VSs (cxOf (L2.CX P w) P w K mg base N qual (defScope sd) f cdv A outer s H E) E (defBody sd) body) :
    FnG P w K mg base (L2.CX P w) (k + 1) f fd ps (spV K ⟨mg, w⟩ ps.length (vFn N.length frz body)) := by
  obtain ⟨_, _, _, _, _, _, cdv, _, _, rfl, lk, hcd⟩ := F.ex
  refine gfn lk hcd S (fun vs H Q E h => ?_) fun A hg outer s H vs Q E hr hsp => ?_
  · obtain ⟨_, _, _, e, _⟩ := h
    exact e
  · obtain ⟨β, ds, st, hl, r, hS, hp⟩ := hsp
    refine ⟨_, walk cdv A hg outer s H E hr, β, _, st, start_env r, hS, ?_⟩
    unfold vFn Fl.fin at hp
    cases o : body (ds.map some ++ List.replicate (N.length - ds.length) none) st with
    | rt d st' =>
      rw [o] at hp
      exact fun β' H' u x S' r' => ret_ok hS S' x r' hp
    | nx env st' =>
      rw [o] at hp
      exact fun β' H' σ' x S' _ => ret_ok hS S' x .non hp
    | exc c fs st' => rw [o] at hp; exact hp
    | bk env st' => rw [o] at hp; exact hp.elim
    | ct env st' => rw [o] at hp; exact hp.elim
    | bad => rw [o] at hp; exact hp.elim
end
section
variable {X : Cx} {E : XK} {k n : Nat} {f : Addr} {fd : FuncData} {ps : List Str} {F : List D → AS → Out D} {dvs : List V} {ds : List Value} {x : Str} {p pos : Pos} {e : Expr} {es : List Expr} {fs : En → AS → Out (List D)}
/-- f(e, ..) of such a def; dd: what stands for what isn't handed in -/
theorem ve_call {dd : List D} (G : FnG X.prog X.w X.K X.mg X.base (L2.CX X.prog X.w) k f fd ps (spV X.K X.mgw n F)) (gd : X.A.guards = some []) (hr : Room k X.A) (hg : Gl X x) (hm : X.mg x = some (.ref f))
    (hk : PySem.W.keepIn X.K (.ref f) = true) (hb : Binds X.K fd ps ds) (hd : Vals dvs ds) (hdd : ∀ H β, Reps X.K H β dd dvs) (hx : Passes (L2.CX X.prog X.w) X E) (hn : (e :: es).length + dd.length = n) (ha : VA X E (e :: es) fs)
    (he : starEach (e :: es) X.env = (false, eval e X.env) :: starEach es X.env := by rfl) (hdb : (x == ("__debug__" : Str)) = false := by decide)
    (hpl : (backTo pos (starEach es X.env)).any (·.1) = false := by rfl) : VE X E (.Call (.Name x p) (e :: es) [] pos) (vA (fun xs st => if xs.length = n - dd.length then F (xs ++ dd) st else .bad) fs) := by
  refine weakE (pe_callG G gd hr hg hm hk hb hd hx ha he hdb hpl) fun σ H Q ⟨β, env, st, hE, hS, h⟩ => ?_
  refine tG_bind hE hS h fun xs st1 β1 H1 us x1 s1 e1 r1 h1 => ?_
  obtain ⟨hl, h1⟩ := h1.ite
  have r2 := r1.append (hdd H1 β1)
  refine ⟨β1, xs ++ dd, st1, ?_, r2, s1, h1⟩
  rw [r2.length, List.length_append, hl]
  simp only [List.length_cons] at hn
  omega
end
end VL

set_option Elab.async false
set_option linter.all false
set_option maxRecDepth 100000
/-! The value layer: how arguments come to parameters; calls by places and by names; the end. -/
namespace VL
open PySem PySem.Spec PyProof.Rows L2 TB

/-- where a parameter's value comes from: a place, a name, a default -/
inductive Src where
  | pos (i : Nat) | kw (j : Nat) | dfl (j : Nat)
@[simp] def pick {α : Type} (us ws ds : List α) : Src → Option α
  | .pos i => us[i]?
  | .kw j => ws[j]?
  | .dfl j => ds[j]?
@[simp] def asm {α : Type} (us ws ds : List α) : List Src → List α
  | [] => []
  | s :: r => match pick us ws ds s with
    | some a => a :: asm us ws ds r
    | none => []
theorem Vals.asm {us ws ds : List V} {us' ws' ds' : List Value} (h1 : Vals us us') (h2 : Vals ws ws') (h3 : Vals ds ds') : ∀ ss : List Src, Vals (asm us ws ds ss) (asm us' ws' ds' ss)
  | [] => .nil
  | s :: r => by
    have ih := Vals.asm h1 h2 h3 r
    have one : ∀ {xs : List V} {ys : List Value} (i : Nat), Vals xs ys → (∃ x y, xs[i]? = some x ∧ ys[i]? = some y ∧ RelV x y) ∨ (xs[i]? = none ∧ ys[i]? = none) := by
      intro xs ys i h
      cases e : xs[i]? with
      | none => exact .inr ⟨rfl, h.none_of e⟩
      | some x =>
        obtain ⟨y, e2, r⟩ := h.get e
        exact .inl ⟨x, y, rfl, e2, r⟩
    unfold VL.asm
    have go : (∃ x y, pick us ws ds s = some x ∧ pick us' ws' ds' s = some y ∧ RelV x y) ∨ (pick us ws ds s = none ∧ pick us' ws' ds' s = none) := by
      cases s with
      | pos i => exact one i h1
      | kw i => exact one i h2
      | dfl i => exact one i h3
    rcases go with ⟨x, y, e1, e2, r⟩ | ⟨e1, e2⟩
    · rw [e1, e2]
      exact .cons r ih
    · rw [e1, e2]
      exact .nil
theorem Reps.asm {K : PySem.W.Frag} {H : Hp} {β : Bt} {us ws ds : List D} {us' ws' ds' : List V} (h1 : Reps K H β us us') (h2 : Reps K H β ws ws') (h3 : Reps K H β ds ds') : ∀ ss : List Src, Reps K H β (asm us ws ds ss) (asm us' ws' ds' ss)
  | [] => .nil
  | s :: r => by
    have ih := Reps.asm h1 h2 h3 r
    have one : ∀ {xs : List D} {ys : List V} (i : Nat), Reps K H β xs ys → (∃ x y, xs[i]? = some x ∧ ys[i]? = some y ∧ Rep K H β x y) ∨ (xs[i]? = none ∧ ys[i]? = none) := by
      intro xs ys i h
      cases e : xs[i]? with
      | none =>
        refine .inr ⟨rfl, ?_⟩
        rw [List.getElem?_eq_none_iff] at e ⊢
        rw [h.length]
        exact e
      | some x =>
        obtain ⟨y, e2, r⟩ := h.get e
        exact .inl ⟨x, y, rfl, e2, r⟩
    unfold VL.asm
    have go : (∃ x y, pick us ws ds s = some x ∧ pick us' ws' ds' s = some y ∧ Rep K H β x y) ∨ (pick us ws ds s = none ∧ pick us' ws' ds' s = none) := by
      cases s with
      | pos i => exact one i h1
      | kw i => exact one i h2
      | dfl i => exact one i h3
    rcases go with ⟨x, y, e1, e2, r⟩ | ⟨e1, e2⟩
    · rw [e1, e2]
      exact .cons r ih
    · rw [e1, e2]
      exact .nil
/-- n values by places, the others by the names ks, the rest by the defaults -/
def BindV (K : PySem.W.Frag) (fd : FuncData) (ps : List Str) (n : Nat) (ks : List Str) (ds : List V) (ss : List Src) : Prop :=
  ∀ (s : Shared) (us ws : List Value), K.In s.heap → us.length = n → ws.length = ks.length → ∃ ds' : List Value, Vals ds ds' ∧ BindsTo s fd ⟨us, ks.zip ws⟩ (ps.zip (asm us ws ds' ss))
theorem bindV0 {K : PySem.W.Frag} {x qual : Str} {st : Stmt} {f : Addr} {fd : FuncData} {ps : List Str} (F : Fun K x qual st f fd) (n : Nat) (ks : List Str) (ss : List Src)
    (h : ∀ (kV doc pm : Value) (an : Option Addr) (cdv ct : Value) (us ws : List Value), us.length = n → ws.length = ks.length → bindArgs (PySem.W.fnOf x qual (defArgs st) (defBody st) (defScope st) .none kV doc pm an cdv ct) ⟨us, ks.zip ws⟩ = pure (ps.zip (asm us ws [] ss))) : BindV K fd ps n ks [] ss := by
  obtain ⟨oc, od, kV, doc, pm, an, cdv, ct, osl, rfl, lk, hcd⟩ := F.ex
  exact fun s us ws X l1 l2 => ⟨[], .nil, .of_eq (h kV doc pm an cdv ct us ws l1 l2)⟩
theorem bindVD {K : PySem.W.Frag} {x qual : Str} {params : Arguments} {body : List Stmt} {scope : Scope} {dvs : List V} {f : Addr} {fd : FuncData} {ps : List Str} (F : FunD K x qual params body scope dvs [] f fd) (hd : dvs ≠ []) (n : Nat) (ks : List Str) (ss : List Src)
    (h : ∀ (T : Addr) (kV doc pm : Value) (an : Option Addr) (cdv ct : Value) (us ws its : List Value), us.length = n → ws.length = ks.length → its.length = dvs.length →
      ∃ k, bindArgs (PySem.W.fnOf x qual params body scope (.ref T) kV doc pm an cdv ct) ⟨us, ks.zip ws⟩ = seqItems? (.ref T) >>= k ∧ k (some its.toArray) = pure (ps.zip (asm us ws its ss))) : BindV K fd ps n ks dvs ss := by
  obtain ⟨oc, od, dV, kV, doc, pm, an, cdv, ct, osl, rfl, lk, hcd, hD, hK⟩ := F.ex
  rcases hD with ⟨e, _⟩ | ⟨_, T, o, its, m, rfl, lT, oT, rT⟩
  · exact absurd e hd
  · intro s us ws X l1 l2
    obtain ⟨k, e1, e2⟩ := h T kV doc pm an cdv ct us ws its l1 l2 rT.length.symm
    refine ⟨its, rT, BindsTo.of_looks fun M => ?_⟩
    rw [e1]
    exact looks_items X lT oT (.of_pure e2)
section
variable {X : Cx} {E : XK} {k n m : Nat} {f : Addr} {fd : FuncData} {ps ks : List Str} {F : List D → AS → Out D} {dvs : List V} {ds : List D} {ss : List Src} {x : Str} {p pos : Pos} {e : Expr} {es : List Expr} {kws : List Keyword} {fs fk : En → AS → Out (List D)}
abbrev VK' (X : Cx) (E : XK) (kws : List Keyword) (f : En → AS → Out (List D)) : Prop := PK X kws (tVA X.K X.mgw E f)
theorem weakK {t t' : TA} (h : PK X kws t) (w : ∀ σ H Q, t' σ H Q → t σ H Q) : PK X kws t' := ⟨fun pos pins s σ H Q I q => h.run pos pins s σ H Q I (w σ H Q q)⟩
theorem vk_nil : VK' X E [] vNil := weakK pk_nil fun σ H Q ⟨β, env, st, he, hs, h⟩ => h.here hs .nil
theorem vk_cons {nm : Option Str} {kpos : Pos} {fe : En → AS → Out D} (ha : VE X E e fe) (hr : VK' X E kws fk) : VK' X E (⟨nm, e, kpos⟩ :: kws) (vCons fe fk) := by
  refine weakK (pk_cons ha hr) fun σ H Q ⟨β, env, st, he, hs, h⟩ => ?_
  refine tG_bind he hs h fun a st1 β1 H1 u x1 s1 e1 r1 h1 => ?_
  refine tG_bind e1 s1 h1 fun as st2 β2 H2 us x2 s2 e2 r2 h2 => ?_
  exact h2 β2 H2 _ (Ext.refl _ _) s2 (.cons (r1.ext x2) r2)
theorem run_V {pins : List (Addr × Obj)} {σ : L2.St} {H : Hp} {s : Shared} {Q : VK} {us ws : List Value} {vs zs : List V} {sp : Sp} (G : FnG X.prog X.w X.K X.mg X.base (L2.CX X.prog X.w) k f fd ps sp) (gd : X.A.guards = some []) (hr : Room k X.A) (hb : BindV X.K fd ps n ks dvs ss) (hx : Passes (L2.CX X.prog X.w) X E)
    (I : Inv X pins σ H s) (r : Vals vs us) (rz : Vals zs ws) (l1 : vs.length = n) (l2 : zs.length = ks.length) (h : sp (asm vs zs dvs ss) H Q E) : wpAny (model X.prog X.w) X.A (call (.ref f) us (ks.zip ws)) (EP X pins σ Q) X.xe s := by
  obtain ⟨ds', rd, hb⟩ := hb s us ws I.kIn (r.length.symm.trans l1) (rz.length.symm.trans l2)
  refine wpAny_call (codeAny_mono (G.run X.A gd hr X.stack s H I.env0 ⟨us, ks.zip ws⟩ _ _ hb (Vals.asm r rz rd ss) Q E h) ?_)
  intro res s' hq
  match res, hq with
  | .error e, hq => exact hx pins σ H s e s' I hq
  | .ok (.ret u), hq => exact I.after hq
  | .ok .next, hq => exact hq.elim
  | .ok .brk, hq => exact hq.elim
  | .ok .cont, hq => exact hq.elim
@[simp] def vCallA (n m : Nat) (ds : List D) (ss : List Src) (F : List D → AS → Out D) (fs fk : En → AS → Out (List D)) (env : En) (st : AS) : Out D := (fs env st).bind fun xs st => (fk env st).bind fun zs st => if xs.length = n ∧ zs.length = m then F (asm xs zs ds ss) st else .bad
theorem use_V {σ : L2.St} {H : Hp} {Q : VK} {N : Nat} (hN : ∀ us ws : List V, us.length = n → ws.length = m → (asm us ws dvs ss).length = N) (hd : ∀ H β, Reps X.K H β ds dvs) (h : tV X.K X.mgw E (vCallA n m ds ss F fs fk) σ H Q) :
    tVA X.K X.mgw E fs σ H fun vs H1 => tVA X.K X.mgw E fk σ H1 fun zs H2 => vs.length = n ∧ zs.length = m ∧ spV X.K X.mgw N F (asm vs zs dvs ss) H2 Q E := by
  obtain ⟨β, env, st, hE, hS, h⟩ := h
  refine tG_bind hE hS h fun xs st1 β1 H1 us x1 s1 e1 r1 h1 => ?_
  refine tG_bind e1 s1 h1 fun zs st2 β2 H2 ws x2 s2 e2 r2 h2 => ?_
  obtain ⟨⟨l1, l2⟩, h2⟩ := h2.ite
  have l1' : us.length = n := r1.length.trans l1
  have l2' : ws.length = m := r2.length.trans l2
  exact ⟨l1', l2', β2, _, st2, hN us ws l1' l2', Reps.asm (r1.ext x2) r2 (hd H2 β2) ss, s2, h2⟩
/-- f(e, ..) -/
theorem ve_callP {N : Nat} (G : FnG X.prog X.w X.K X.mg X.base (L2.CX X.prog X.w) k f fd ps (spV X.K X.mgw N F)) (gd : X.A.guards = some []) (hr : Room k X.A) (hg : Gl X x) (hm : X.mg x = some (.ref f)) (hk : PySem.W.keepIn X.K (.ref f) = true)
    (hb : BindV X.K fd ps n [] dvs ss) (hN : ∀ us ws : List V, us.length = n → ws.length = 0 → (asm us ws dvs ss).length = N) (hd : ∀ H β, Reps X.K H β ds dvs) (hx : Passes (L2.CX X.prog X.w) X E) (ha : VA X E (e :: es) fs)
    (he : starEach (e :: es) X.env = (false, eval e X.env) :: starEach es X.env := by rfl) (hdb : (x == ("__debug__" : Str)) = false := by decide) (hpl : (backTo pos (starEach es X.env)).any (·.1) = false := by rfl) :
    VE X E (.Call (.Name x p) (e :: es) [] pos) (vCallA n 0 ds ss F fs vNil) := by
  constructor
  intro pins s σ H Q I h
  have h := use_V (E := E) hN hd h
  refine wpAny_Call_Name_kw (ld_glob I hg hm (PySem.W.callWith_K (h₀ := X.base) I.ok.mod.kin hk (thn (ha.run pos pins s σ H _ I h) ?_) he hpl) hdb)
  rintro us s1 ⟨vs, H1, I1, r, q⟩
  obtain ⟨zs, H2, I2, rz, q2⟩ : ∃ zs H2, Inv X pins σ H2 s1 ∧ Vals zs ([] : List Value) ∧ (vs.length = n ∧ zs.length = 0 ∧ spV X.K X.mgw N F (asm vs zs dvs ss) H2 Q E) := by
    obtain ⟨β, env, st, hE, hS, q⟩ := q
    exact ⟨[], H1, I1, .nil, q.here hS .nil⟩
  exact ⟨I2.kIn, run_V G gd hr hb hx I2 r rz q2.1 q2.2.1 q2.2.2⟩
/-- f(e, .., k = v, ..) -/
theorem ve_callK {N : Nat} (G : FnG X.prog X.w X.K X.mg X.base (L2.CX X.prog X.w) k f fd ps (spV X.K X.mgw N F)) (gd : X.A.guards = some []) (hr : Room k X.A) (hg : Gl X x) (hm : X.mg x = some (.ref f)) (hk : PySem.W.keepIn X.K (.ref f) = true)
    (hb : BindV X.K fd ps n ks dvs ss) (hN : ∀ us ws : List V, us.length = n → ws.length = ks.length → (asm us ws dvs ss).length = N) (hd : ∀ H β, Reps X.K H β ds dvs) (hx : Passes (L2.CX X.prog X.w) X E) (ha : VA X E (e :: es) fs) (hkw : VK' X E kws fk)
    (hml : ks.length = m) (hall : (backToKw pos (keywordEach kws X.env)).all (·.1.isSome) = true := by rfl) (hks : (backToKw pos (keywordEach kws X.env)).filterMap (·.1) = ks := by rfl)
    (hdb : (x == ("__debug__" : Str)) = false := by decide) (he : starEach (e :: es) X.env = (false, eval e X.env) :: starEach es X.env := by rfl)
    (hpl : ((backTo pos (starEach (e :: es) X.env)).any (·.1) || (backToKw pos (keywordEach kws X.env)).any (·.1.isNone)) = false := by rfl) :
    VE X E (.Call (.Name x p) (e :: es) kws pos) (vCallA n m ds ss F fs fk) := by
  subst hml
  constructor
  intro pins s σ H Q I h
  have h := use_V (E := E) hN hd h
  refine wpAny_Call_Name_kw (ld_glob I hg hm ?_ hdb)
  refine PySem.W.callWith_KW (h₀ := X.base) I.ok.mod.kin hk hall (thn (ha.run pos pins s σ H _ I h) ?_) hpl he
  rintro us s1 ⟨vs, H1, I1, r, q⟩
  refine thn (hkw.run pos pins s1 σ H1 _ I1 q) ?_
  rintro ws s2 ⟨zs, H2, I2, rz, l1, l2, q2⟩
  rw [hks]
  exact ⟨I2.kIn, run_V G gd hr hb hx I2 r rz l1 l2 q2⟩
/-- f(k = v, ..) -/
theorem ve_callK0 {N : Nat} (G : FnG X.prog X.w X.K X.mg X.base (L2.CX X.prog X.w) k f fd ps (spV X.K X.mgw N F)) (gd : X.A.guards = some []) (hr : Room k X.A) (hg : Gl X x) (hm : X.mg x = some (.ref f)) (hk : PySem.W.keepIn X.K (.ref f) = true)
    (hb : BindV X.K fd ps 0 ks dvs ss) (hN : ∀ us ws : List V, us.length = 0 → ws.length = ks.length → (asm us ws dvs ss).length = N) (hd : ∀ H β, Reps X.K H β ds dvs) (hx : Passes (L2.CX X.prog X.w) X E) (hkw : VK' X E kws fk)
    (hml : ks.length = m) (hks : (backToKw pos (keywordEach kws X.env)).filterMap (·.1) = ks := by rfl) (hall : (backToKw pos (keywordEach kws X.env)).all (·.1.isSome) = true := by rfl)
    (hpl : ((backTo pos (starEach [] X.env)).any (·.1) || (backToKw pos (keywordEach kws X.env)).any (·.1.isNone)) = false := by rfl) (hdb : (x == ("__debug__" : Str)) = false := by decide) :
    VE X E (.Call (.Name x p) [] kws pos) (vCallA 0 m ds ss F vNil fk) := by
  subst hml
  constructor
  intro pins s σ H Q I h
  obtain ⟨β, env, st, hE, hS, h⟩ := use_V (E := E) hN hd h
  have h := h.here hS .nil
  refine wpAny_Call_Name_kw (ld_glob I hg hm (PySem.W.callWith_KW0 (h₀ := X.base) I.ok.mod.kin hk hall (thn (hkw.run pos pins s σ H _ I h) ?_) hpl) hdb)
  rintro ws s2 ⟨zs, H2, I2, rz, l1, l2, q2⟩
  rw [hks]
  exact ⟨I2.kIn, run_V (us := []) (vs := []) G gd hr hb hx I2 .nil rz l1 l2 q2⟩
end

theorem hu65 {k : Nat} {A : Around} (hr : Room k A) : A.units + 65 < cLine := by
  have := hr.un
  omega
/-! ### a def with defaults -/
section
variable {P : Program} {w : World} {K : PySem.W.Frag} {mg : Str → Option Value} {base : Heap}
theorem gokVD {x qual : Str} {sd : Stmt} {f : Addr} {fd : FuncData} {dvs : List V} {kws : List (Str × V)} {N ps : List Str} {k : Nat} {body : En → AS → Fl} (frz : Nat) (F : FunD K x qual (defArgs sd) (defBody sd) (defScope sd) dvs kws f fd) (S : FnScope N ps (defScope sd))
    (walk : ∀ (cdv : Value) (A : Around), A.guards = some [] → ∀ (outer : List Env) (s : Shared) (H : Hp) (E : XK), Room k (A.deeper (envOfC qual (defScope sd) s.heap.objs.size f cdv)) →
      VSs (cxOf (L2.CX P w) P w K mg base N qual (defScope sd) f cdv A outer s H E) E (defBody sd) body) :
    FnG P w K mg base (L2.CX P w) (k + 1) f fd ps (spV K ⟨mg, w⟩ ps.length (vFn N.length frz body)) := by
  obtain ⟨oc, od, dV, kV, doc, pm, an, cdv, ct, osl, rfl, lk, hcd, _, _⟩ := F.ex
  refine gfn lk hcd S (fun vs H Q E h => ?_) fun A hg outer s H vs Q E hr hsp => ?_
  · obtain ⟨_, _, _, e, _⟩ := h
    exact e
  · obtain ⟨β, ds, st, hl, r, hS, hp⟩ := hsp
    refine ⟨_, walk cdv A hg outer s H E hr, β, _, st, start_env r, hS, ?_⟩
    unfold vFn Fl.fin at hp
    cases o : body (ds.map some ++ List.replicate (N.length - ds.length) none) st with
    | rt d st' =>
      rw [o] at hp
      exact fun β' H' u x S' r' => ret_ok hS S' x r' hp
    | nx env st' =>
      rw [o] at hp
      exact fun β' H' σ' x S' _ => ret_ok hS S' x .non hp
    | exc c fs st' => rw [o] at hp; exact hp
    | bk env st' => rw [o] at hp; exact hp.elim
    | ct env st' => rw [o] at hp; exact hp.elim
    | bad => rw [o] at hp; exact hp.elim
/-- what is never asked -/
theorem FnG.never {n k : Nat} {f : Addr} {fd : FuncData} {ps : List Str} : FnG P w K mg base (L2.CX P w) k f fd ps (spV K ⟨mg, w⟩ n fun _ _ => .bad) :=
  ⟨fun xs H R Z h => by
    obtain ⟨_, _, _, _, _, _, h⟩ := h
    exact h.elim, fun A _ _ outer s H _ args us vs _ _ Q E h => by
    obtain ⟨_, _, _, _, _, _, h⟩ := h
    exact h.elim⟩
/-! ### the end -/
def spLaw (K : PySem.W.Frag) : Sp := fun vs H Q _ => ∃ (a : Addr) (ns : List Int), vs = [.ref a] ∧ SqL K H a (ns.map V.int) ∧ ns.length ≤ 63 ∧ ∀ H', Q (.bl true) H'
theorem endV {k : Nat} {f : Addr} {fd : FuncData} {F : List D → AS → Out D} {x : Str} (law : ∀ ns : List Int, ns.length ≤ 63 → ∃ st, F [.fzl (ns.map D.int)] [] = .ok (.bl true) st) (G : FnG P w K mg base (L2.CX P w) k f fd [x] (spV K ⟨mg, w⟩ 1 F)) : FnG P w K mg base CX0 k f fd [x] (spLaw K) := by
  refine ⟨fun xs H R Z h => ?_, fun A hg hr outer s H e0 args us vs hb r Q E h => ?_⟩
  · obtain ⟨_, _, rfl, _⟩ := h
    rfl
  · obtain ⟨a, ns, rfl, hq, hl, q⟩ := h
    obtain ⟨st, ev⟩ := law ns hl
    have sp : spV K ⟨mg, w⟩ 1 F [.ref a] H Q E0 := by
      refine ⟨⟨[], []⟩, [.fzl (ns.map D.int)], [], rfl, .cons (.fzl (hq.imp (fun z => ⟨⟨by simp, by simp⟩, z⟩) id) (reps_ints ns)) .nil, ⟨rfl, List.nodup_nil, (fun a ha => nomatch ha), (fun i a c h1 => nomatch h1)⟩, ?_⟩
      rw [ev]
      intro β' H' u _ _ r
      cases r
      exact q H'
    refine codeAny_mono (G.run A hg hr outer s H e0 args us _ hb r Q E0 sp) ?_
    intro res s' hq
    match res, hq with
    | .error e, hq =>
      obtain ⟨_, _, _, _, _, _, _, _, _, _, _, _, z⟩ := hq
      exact z.elim
    | .ok (.ret u), hq => exact hq
    | .ok .next, hq => exact hq.elim
    | .ok .brk, hq => exact hq.elim
    | .ok .cont, hq => exact hq.elim
end
end VL

set_option Elab.async false
set_option linter.all false
set_option maxRecDepth 100000
/-! The value layer: more methods, sorted, texts. -/
namespace VL
open PySem PySem.Spec PyProof.Rows L2 TB

section
variable {X : Cx} {E : XK} {o e : Expr} {es : List Expr} {fo fe : En → AS → Out D} {fs : En → AS → Out (List D)} {pos : Pos}
/-! ### lists -/
theorem om_extend : OkM X E "list.extend" extD := ⟨_, (show MtR X "list.extend" rExtend from mt_extend).or (show MtR X "list.extend" (rExtT X.K) from mt_extendT), fun β H st x xs u us Q S rx rs h => by
  unfold extD at h
  split at h
  · rename_i y
    obtain ⟨v, rfl, rv⟩ := one_ok rs
    split at h
    · rename_i zs ez
      obtain ⟨p, ws, ds, r, ds', rfl, e, q, ek, hq⟩ := putL_ok S rx h
      split at ek
      · rename_i hl
        cases ek
        cases rv with
        | tup n2 e2 r2 =>
          cases ez
          exact .inr ⟨p, _, ws, _, rfl, rfl, e, .inl (.inl e2), by rw [q.length, r2.length]; exact hl, hq _ _ .non (q.append r2)⟩
        | lst n2 e2 r2 =>
          obtain ⟨b, zs', e3, e4, r4⟩ := S.listsW (.lst n2 e2 r2) ez
          cases e3
          exact .inl ⟨p, _, ws, zs', rfl, rfl, e, e4, by rw [q.length, r4.length]; exact hl, hq _ _ .non (q.append r4)⟩
        | ref er =>
          obtain ⟨b, zs', e3, e4, r4⟩ := S.listsW (.ref er) ez
          cases e3
          exact .inl ⟨p, _, ws, zs', rfl, rfl, e, e4, by rw [q.length, r4.length]; exact hl, hq _ _ .non (q.append r4)⟩
        | _ => cases ez
      · cases ek
    · exact h.elim
  · exact h.elim⟩
@[simp] def popAtD (x : D) (xs : List D) (st : AS) : Out D := match xs with
  | [.int i] => if -(2 ^ 63) ≤ i ∧ i < 2 ^ 63 then putL x st fun ds => (match ixN ds.length i with
    | some k => (match ds[k]? with
      | some d => some (d, ds.eraseIdx k)
      | none => none)
    | none => none) else .bad
  | _ => .bad
theorem Reps.erase {K : PySem.W.Frag} {H : Hp} {β : Bt} : ∀ {ds : List D} {us : List V} (i : Nat), Reps K H β ds us → Reps K H β (ds.eraseIdx i) (us.eraseIdx i)
  | _, _, _, .nil => .nil
  | _, _, 0, .cons _ t => t
  | _, _, i + 1, .cons q t => .cons q (Reps.erase i t)
theorem om_popAt : OkM X E "list.pop" popAtD := ⟨_, (show MtR X "list.pop" rPopAt from mt_popAt), fun β H st x xs u us Q S rx rs h => by
  unfold popAtD at h
  split at h
  · rename_i i
    obtain ⟨v, rfl, rv⟩ := one_ok rs
    cases rv
    obtain ⟨⟨b1, b2⟩, h⟩ := h.ite
    obtain ⟨p, ws, ds, r, ds', rfl, e, q, ek, hq⟩ := putL_ok S rx h
    split at ek
    · rename_i k ek2
      split at ek
      · rename_i d ed
        cases ek
        obtain ⟨v, ev, rv⟩ := q.get ed
        exact ⟨p, ws, i, k, v, rfl, rfl, e, b1, b2, by rw [q.length]; exact (ixN_seq ek2).1, ev, hq _ _ rv (q.erase k)⟩
      · cases ek
    · cases ek
  · exact h.elim⟩
@[simp] def insD (x : D) (xs : List D) (st : AS) : Out D := match xs with
  | [.int i, y] => if 0 ≤ i ∧ i < 2 ^ 63 then putL x st fun ds => if ds.length < sizeLine then some (.non, ds.take i.toNat ++ [y] ++ ds.drop i.toNat) else none else .bad
  | _ => .bad
theorem om_insert : OkM X E "list.insert" insD := ⟨_, mt_insert, fun β H st x xs u us Q S rx rs h => by
  unfold insD at h
  split at h
  · rename_i i y
    obtain ⟨v, z, rfl, rv, rz⟩ := two_ok rs
    cases rv
    obtain ⟨⟨b1, b2⟩, h⟩ := h.ite
    obtain ⟨p, ws, ds, r, ds', rfl, e, q, ek, hq⟩ := putL_ok S rx h
    split at ek
    · rename_i hl
      cases ek
      exact ⟨p, ws, i, z, rfl, rfl, e, by rw [q.length]; exact hl, b1, b2, hq _ _ .non (((q.take _).append (.cons rz .nil)).append (q.drop _))⟩
    · cases ek
  · exact h.elim⟩
/-- the first place of a thing -/
@[simp] def idxD (x : D) (xs : List D) (st : AS) : Out D := match xs with
  | [y] => (match listOf st x with
    | some ds => if (scalD y && ds.all scalD) = true then (match ds.findIdx? (fun d => eqvD d y) with
      | some j => .ok (.int (j : Nat)) st
      | none => .bad) else .bad
    | none => .bad)
  | _ => .bad
theorem om_index : OkM X E "list.index" idxD := ⟨_, mt_index, fun β H st x xs u us Q S rx rs h => by
  unfold idxD at h
  split at h
  · rename_i y
    obtain ⟨v, rfl, rv⟩ := one_ok rs
    split at h
    · rename_i ds ed
      obtain ⟨hf, h⟩ := h.ite
      rw [Bool.and_eq_true] at hf
      split at h
      · rename_i j ej
        obtain ⟨a, ws, rfl, hq, r⟩ := S.lists rx ed
        obtain ⟨hj, h1, h2⟩ := List.findIdx?_eq_some_iff_getElem.mp ej
        obtain ⟨z, ez, rz⟩ := r.get (List.getElem?_eq_getElem hj)
        have sc : ∀ d ∈ ds, scalD d = true := List.all_eq_true.mp hf.2
        refine ⟨a, ws, v, j, z, rfl, rfl, hq, rv.flat hf.1, r.flat hf.2, ez, ?_, fun m z' hm ez' => ?_, h.here S (.int _)⟩
        · rw [rz.eqV rv (sc _ (List.getElem_mem hj)) hf.1]
          exact h1
        · obtain ⟨d', e1, r1⟩ := r.get' ez'
          have hm' : m < ds.length := by omega
          have e2 : d' = ds[m] := by
            rw [List.getElem?_eq_getElem hm'] at e1
            exact (Option.some.inj e1).symm
          rw [r1.eqV rv (by rw [e2]; exact sc _ (List.getElem_mem hm')) hf.1, e2]
          have := h2 m hm
          simpa using this
      · exact h.elim
    · exact h.elim
  · exact h.elim⟩

/-! ### sorted: ints, texts -/
def sortI (ns : List Int) : List Int := ns.mergeSort fun a b => decide (a ≤ b)
theorem sortI_perm (ns : List Int) : (sortI ns).Perm ns := List.mergeSort_perm _ _
theorem sortI_pw (ns : List Int) : (sortI ns).Pairwise (· ≤ ·) := by
  have h := List.pairwise_mergeSort (le := fun a b : Int => decide (a ≤ b)) (fun a b c h1 h2 => by simp at *; omega) (fun a b => by simp; omega) ns
  exact h.imp fun z => by simpa using z
theorem sortI_eq {ns ms : List Int} (h1 : ms.Perm ns) (h2 : ms.Pairwise (· ≤ ·)) : ms = sortI ns :=
  List.Perm.eq_of_pairwise (fun a b _ _ x y => Int.le_antisymm x y) h2 (sortI_pw ns) (h1.trans (sortI_perm ns).symm)
def leStr (a b : Str) : Bool := !ltStr b a
def sortS (xs : List Str) : List Str := xs.mergeSort leStr
theorem str_ext {a b : Str} (h : a.cps.toList = b.cps.toList) : a = b := by
  cases a; cases b
  simp only [Str.mk.injEq]
  exact Array.toList_inj.mp h
theorem ltS_irrefl (a : List Nat) : ¬ a < a := List.lt_irrefl a
theorem leStr_iff {a b : Str} : leStr a b = true ↔ ¬ b.cps.toList < a.cps.toList := by simp [leStr, ltStr]
theorem leStr_trans (a b c : Str) (h1 : leStr a b = true) (h2 : leStr b c = true) : leStr a c = true := by
  rw [leStr_iff] at *
  intro h
  rcases Nat.lt_or_ge 0 1 with _ | z
  · have t1 : a.cps.toList ≤ b.cps.toList := List.not_lt.mp h1
    have t2 : b.cps.toList ≤ c.cps.toList := List.not_lt.mp h2
    exact (List.not_lt.mpr (List.le_trans t1 t2)) h
  · omega
theorem leStr_total (a b : Str) : (leStr a b || leStr b a) = true := by
  rw [Bool.or_eq_true, leStr_iff, leStr_iff]
  rcases List.le_total a.cps.toList b.cps.toList with h | h
  · exact .inl (List.not_lt.mpr h)
  · exact .inr (List.not_lt.mpr h)
theorem leStr_anti {a b : Str} (h1 : leStr a b = true) (h2 : leStr b a = true) : a = b := by
  rw [leStr_iff] at *
  exact str_ext (List.le_antisymm (List.not_lt.mp h1) (List.not_lt.mp h2))
theorem sortS_perm (xs : List Str) : (sortS xs).Perm xs := List.mergeSort_perm _ _
theorem sortS_pw (xs : List Str) : (sortS xs).Pairwise (fun a b => leStr a b = true) := List.pairwise_mergeSort leStr_trans leStr_total xs
theorem rising_pw : ∀ {x : Str} {r : List Str}, risingS x r = true → (x :: r).Pairwise (fun a b => leStr a b = true)
  | x, [], _ => List.pairwise_singleton _ _
  | x, y :: r, h => by
    rw [risingS, Bool.and_eq_true] at h
    have ih := rising_pw h.2
    have hxy : leStr x y = true := by
      rw [leStr_iff]
      have h1 := h.1
      rw [ltCps_eq] at h1
      simpa using h1
    refine List.pairwise_cons.mpr ⟨fun z hz => ?_, ih⟩
    rcases List.mem_cons.mp hz with e | e
    · rw [e]; exact hxy
    · exact leStr_trans x y z hxy ((List.pairwise_cons.mp ih).1 z e)
theorem sortS_eq {xs ys : List Str} (h1 : ys.Perm xs) (h2 : sortedS ys = true) : ys = sortS xs := by
  have pw : ys.Pairwise (fun a b => leStr a b = true) := by
    cases ys with
    | nil => exact List.Pairwise.nil
    | cons x r => exact rising_pw h2
  exact List.Perm.eq_of_pairwise (fun a b _ _ x y => leStr_anti x y) pw (sortS_pw xs) (h1.trans (sortS_perm xs).symm)
@[simp] def strsOf : List D → Option (List Str)
  | [] => some []
  | .str i :: ds => (strsOf ds).map (i :: ·)
  | _ :: _ => none
theorem strsOf_map : ∀ ns : List Str, strsOf (ns.map D.str) = some ns
  | [] => rfl
  | n :: ns => by rw [List.map_cons, strsOf, strsOf_map ns]; rfl
theorem Reps.strs {K : PySem.W.Frag} {H : Hp} {β : Bt} : ∀ {ds : List D} {xs : List Str} {us : List V}, strsOf ds = some xs → Reps K H β ds us → us = xs.map V.str
  | [], _, _, e, .nil => by
    cases e
    rfl
  | d :: ds, bs, _, e, .cons r t => by
    cases d with
    | str b =>
      rw [strsOf] at e
      cases e2 : strsOf ds with
      | none => rw [e2] at e; cases e
      | some cs =>
        rw [e2] at e
        cases e
        cases r
        rw [Reps.strs e2 t]
        rfl
    | _ => simp [strsOf] at e
theorem reps_strs {K : PySem.W.Frag} {H : Hp} {β : Bt} : ∀ ns : List Str, Reps K H β (ns.map D.str) (ns.map V.str)
  | [] => .nil
  | n :: ns => .cons (.str n) (reps_strs ns)
@[simp] def sortD (c : Bool) (x : D) (st : AS) : Out D := match listOf st x with
  | some ds => (match intsOf ds with
    | some ns => mk c ((sortI ns).map D.int) st
    | none => (match strsOf ds with
      | some xs => if xs.length < 64 then mk c ((sortS xs).map D.str) st else .bad
      | none => .bad))
  | none => .bad
theorem ob_sorted (c : Bool) : OkB X E (.builtin "sorted") (g1 (sortD c)) := ⟨_, cr_sortedI.or cr_sortedS, fun β H st xs us Q S r h => by
  obtain ⟨x, u, rfl, rx, h⟩ := g1_ok r h
  unfold sortD at h
  split at h
  · rename_i ds e
    obtain ⟨p, us, rfl, hq, r⟩ := S.lists rx e
    split at h
    · rename_i ns en
      have z := intsOf_eq en
      subst z
      have w := r.ints
      subst w
      exact .inl ⟨p, ns, rfl, hq, fun ns' p' h1 h2 hp => by rw [sortI_eq h1 h2]; exact new_lst h S (reps_ints _) p' hp⟩
    · split at h
      · rename_i zs en
        obtain ⟨hl, h⟩ := h.ite
        have w := r.strs en
        subst w
        exact .inr ⟨p, zs, rfl, hq, hl, fun ys p' h1 h2 hp => by rw [sortS_eq h1 h2]; exact new_lst h S (reps_strs _) p' hp⟩
      · exact h.elim
  · exact h.elim⟩

/-! ### texts -/
@[simp] def vMS (g : D → List D → AS → Out D) (fo : En → AS → Out D) (fs : En → AS → Out (List D)) (env : En) (st : AS) : Out D := (fo env st).bind fun x st => (match x with
  | .str _ => (fs env st).bind fun xs st => g x xs st
  | _ => .bad)
theorem ve_ms {name : Str} {apos cpos : Pos} {id : String} {g : D → List D → AS → Out D} (slot : Slot "str" name id) (hty : typeOf (.builtin id) = pure (.type "method_descriptor")) (hm : OkM X E id g) (ho : VE X E o fo) (ha : VA X E (e :: es) fs)
    (hbase : attributeBase o name X.env (eval o X.env) = eval o X.env := by rfl)
    (hfew : ((backTo cpos (starEach (e :: es) X.env)).all (fun x => !x.1) && (backToKw cpos (keywordEach [] X.env)).all (fun x => x.1.isSome)
      && decide ((e :: es).length + ([] : List Keyword).length + (if ([] : List Keyword).isEmpty then 0 else 1) < 30)) = true := by rfl)
    (hline : (apos.endLine == cpos.line) = true := by rfl) (hs : starEach (e :: es) X.env = (false, eval e X.env) :: starEach es X.env := by rfl) (hplain : (backTo cpos (starEach es X.env)).any (·.1) = false := by rfl) :
    VE X E (.Call (.Attribute o name apos) (e :: es) [] cpos) (vMS g fo fs) := by
  obtain ⟨r, h1, h2⟩ := hm
  refine weakE (pe_bm PySem.F.plainAttrs_str slot hty h1 ho ha hbase hfew hline hs hplain) fun σ H Q ⟨β, env, st, he, hS, h⟩ => ?_
  refine tG_bind he hS h fun x st1 β1 H1 u x1 s1 e1 r1 h3 => ?_
  cases r1 with
  | str z =>
    refine ⟨rfl, ?_⟩
    exact tG_bind e1 s1 h3 fun xs st2 β2 H2 us x2 s2 e2 r2 h4 => h2 β2 H2 st2 _ xs _ us Q s2 (.str z) r2 h4
  | _ => exact h3.elim
@[simp] def joinD (x : D) (xs : List D) (st : AS) : Out D := match x with
  | .str a => (match xs with
    | [y] => (match seqOf st y with
      | some ds => (match strsOf ds with
        | some ys => if (ys.map (·.length)).sum + ys.length * a.length ≤ 16777216 then .ok (.str (Txt.join a ys)) st else .bad
        | none => .bad)
      | none => .bad)
    | _ => .bad)
  | _ => .bad
theorem om_join : OkM X E "str.join" joinD := ⟨_, mt_join, fun β H st x xs u us Q S rx rs h => by
  unfold joinD at h
  cases rx with
  | str a =>
    dsimp only at h
    split at h
    · rename_i y
      obtain ⟨v, rfl, rv⟩ := one_ok rs
      split at h
      · rename_i ds ed
        split at h
        · rename_i ys ey
          obtain ⟨hl, h⟩ := h.ite
          obtain ⟨p, ws, rfl, hq, r⟩ := S.seqs rv ed
          have w := r.strs ey
          subst w
          exact ⟨a, p, ys, rfl, rfl, hq, hl, h.here S (.str _)⟩
        · exact h.elim
      · exact h.elim
    · exact h.elim
  | _ => exact h.elim⟩
@[simp] def findD (x : D) (xs : List D) (st : AS) : Out D := match x, xs with
  | .str a, [.str b] => .ok (.int (Txt.find a b)) st
  | _, _ => .bad
theorem om_find : OkM X E "str.find" findD := ⟨_, mt_find, fun β H st x xs u us Q S rx rs h => by
  unfold findD at h
  split at h
  · rename_i a b
    obtain ⟨v, rfl, rv⟩ := one_ok rs
    cases rx
    cases rv
    exact ⟨a, b, rfl, rfl, h.here S (.int _)⟩
  · exact h.elim⟩
@[simp] def sidxD (x : D) (xs : List D) (st : AS) : Out D := match x, xs with
  | .str a, [.str b] => (match Builtin.Str.occurrences a b 0 a.length 1 with
    | i :: _ => .ok (.int (i : Nat)) st
    | [] => .bad)
  | _, _ => .bad
theorem om_sindex : OkM X E "str.index" sidxD := ⟨_, mt_sindex, fun β H st x xs u us Q S rx rs h => by
  unfold sidxD at h
  split at h
  · rename_i a b
    obtain ⟨v, rfl, rv⟩ := one_ok rs
    cases rx
    cases rv
    split at h
    · rename_i i rest ei
      exact ⟨a, b, i, rest, rfl, rfl, ei, h.here S (.int _)⟩
    · exact h.elim
  · exact h.elim⟩
/-- int(x) -/
@[simp] def intD (x : D) (st : AS) : Out D := match x with
  | .int i => .ok (.int i) st
  | .bl b => .ok (.int (if b = true then 1 else 0)) st
  | _ => .bad
theorem ob_int : OkB X E (.type "int") (g1 intD) := ⟨_, call_int1, fun β H st xs us Q S r h => by
  obtain ⟨x, u, rfl, rx, h⟩ := g1_ok r h
  cases rx with
  | int i => exact .inl ⟨i, rfl, h.here S (.int _)⟩
  | bl b => exact .inr ⟨b, rfl, h.here S (.int _)⟩
  | _ => exact h.elim⟩
/-! ### a[i] op= e of a list -/
theorem psets {K : PySem.W.Frag} {mg : MG} {β : Bt} {H : Hp} {st : AS} {De : Ends} {σ : L2.St} {env : En} {o i v : D} {uo ui uv : V} (S : Sim K mg β st H) (he : EnvR K H β env σ) (ro : Rep K H β o uo) (ri : Rep K H β i ui) (rv : Rep K H β v uv)
    (h : PostS K mg E β H De ((setD o i v st).fl fun _ st => .nx env st)) : rSetL uo ui uv H (fun H' => De.nx σ H') ∨ rSetD uo ui uv H (fun H' => De.nx σ H') :=
  set_ok (E := E) S ro ri rv (fl_post (R := fun _ _ _ _ => True) h fun _ st1 β1 H1 _ x s1 _ h1 => h1 β1 H1 σ (Ext.refl _ _) s1 (he.ext x))
@[simp] def sAugS (fo fi : En → AS → Out D) (op : D → D → AS → Out D) (fe : En → AS → Out D) (env : En) (st : AS) : Fl := (fo env st).fl fun o st => (fi env st).fl fun i st => (match i with
  | .int k => (match listOf st o with
    | some ds => (match (if 0 ≤ k then ds[k.toNat]? else none) with
      | some x => (fe env st).fl fun y st => (op x y st).fl fun z st => (setD o i z st).fl fun _ st => .nx env st
      | none => .bad)
    | none => .bad)
  | _ => .bad)
theorem vs_augS (hu : X.A.units + 65 < cLine) {i : Expr} {fi : En → AS → Out D} {op : Operator} {gi : D → D → AS → Out D} {tpos : Pos} (ho : VE X E o fo) (hi : VE X E i fi) (he : VE X E e fe) (hp : OkI X E op gi)
    (ha : ∀ ov iv new, augStore i ov iv new = (do holding [new, ov, iv] (setItem ov iv new); release [new, ov, iv] []; pure .next) := by intros; rfl) : VS X E (.AugAssign (.Subscript o i tpos) op e pos) (sAugS fo fi gi fe) := by
  obtain ⟨r, h1, h2⟩ := hp
  refine weakS (ps_augS ho hi get_list he h1 (psetOr set_list (set_dict (Nat.lt_of_le_of_lt (by omega) hu))) ha) fun De σ H ⟨β, env, st, hE, hS, h⟩ => ?_
  refine fl_bind hE hS h fun ov st1 β1 H1 uo x1 s1 e1 r1 h3 => ?_
  refine fl_bind e1 s1 h3 fun iv st2 β2 H2 ui x2 s2 e2 r2 h4 => ?_
  cases r2 with
  | int k =>
    dsimp only at h4
    split at h4
    · rename_i ds ed
      split at h4
      · rename_i x ex
        by_cases hk : 0 ≤ k
        · rw [if_pos hk] at ex
          obtain ⟨a, us, rfl, hq, rr⟩ := s2.lists (r1.ext x2) ed
          obtain ⟨u, eu, ru⟩ := rr.get ex
          refine ⟨a, us, k.toNat, u, rfl, by rw [Int.toNat_of_nonneg hk], hq, eu, ?_⟩
          refine fl_bind e2 s2 h4 fun y st3 β3 H3 w x3 s3 e3 r3 h5 => ?_
          refine h2 β3 H3 st3 x y u w _ s3 (ru.ext x3) r3 (fl_post h5 fun z st4 β4 H4 t x4 s4 r4 h6 => ?_)
          exact psets s4 (e3.ext x4) (((r1.ext x2).ext x3).ext x4) (.int k) r4 h6
        · rw [if_neg hk] at ex
          cases ex
      · exact h4.elim
    · exact h4.elim
  | _ => exact h4.elim
end
end VL

set_option Elab.async false
set_option linter.all false
set_option maxRecDepth 100000
/-! The value layer: dicts. -/
namespace VL
open PySem PySem.Spec PyProof.Rows L2 TB

section
variable {K : PySem.W.Frag} {mg : MG} {E : XK} {β β' β2 : Bt} {H H' H2 : Hp} {st : AS} {p : Addr} {o0 o : HO}
/-- what came while p was hidden -/
theorem ext_hide (S : Sim K mg β st H) (hp : H p = none) (x : Ext (β.hide p) (upd H p o0) β' H') : ∃ β2 : Bt, β' = β2.hide p ∧ H' p = some o0 ∧ p ∉ β2.l ∧ p ∉ β2.h ∧ Ext β H β2 H' := by
  have nb := S.fresh hp
  obtain ⟨l, h⟩ := β'
  have hh : h = p :: β.h := x.hid
  subst hh
  obtain ⟨q1, q2⟩ := x.kept0 p o0 upd_same nb.1
  refine ⟨⟨l, β.h⟩, rfl, q1, q2, nb.2, ?_⟩
  obtain ⟨g, eg⟩ := x.pre
  refine ⟨⟨g, eg⟩, rfl, fun a u ha na => ?_, fun a z u e => ?_⟩
  · have ne : a ≠ p := ne_of_none ha hp
    exact x.kept0 a u ((upd_ne ne).trans ha) na
  · have ne : a ≠ p := ne_of_none e hp
    exact x.frz a z u ((upd_ne ne).trans e)
theorem Reps.made {ds : List D} {us : List V} (r : Reps K H2 (β2.hide p) ds us) : Reps K (upd H2 p o) (β2.push p) ds us := by
  have r1 : Reps K (upd H2 p o) (β2.hide p) ds us := Reps.hid (β := β2.hide p) List.mem_cons_self r
  refine Reps.weak (β := β2.hide p) (β' := β2.push p) (fun i a z => ?_) (fun a u _ n => ⟨fun z => (List.mem_append.mp z).elim n.1 fun z => n.2 (by rw [List.mem_singleton.mp z]; exact List.mem_cons_self), fun z => n.2 (List.mem_cons_of_mem _ z)⟩) r1
  have hlt : i < β2.l.length := (List.getElem?_eq_some_iff.mp z).1
  exact (List.getElem?_append_left hlt).trans z
theorem Sim.made {c : C} (S2 : Sim K mg (β2.hide p) st H2) (n1 : p ∉ β2.l) (n2 : p ∉ β2.h) (hc : CellOk K mg (upd H2 p o) (β2.push p) p c) : Sim K mg (β2.push p) (st ++ [c]) (upd H2 p o) := by
  have hl : β2.l.length = st.length := S2.len
  refine ⟨by simp [Bt.push, hl], ?_, fun a ha => ?_, fun j a c' h1 h2 => ?_⟩
  · show (β2.l ++ [p]).Nodup
    rw [List.nodup_append]
    refine ⟨S2.nd, by simp, fun a ha b hb => ?_⟩
    rw [List.mem_singleton.mp hb]
    rintro rfl
    exact n1 ha
  · obtain ⟨n, u, e⟩ := S2.hid a (List.mem_cons_of_mem _ ha)
    have ne : a ≠ p := fun z => n2 (by rw [← z]; exact ha)
    refine ⟨fun z => ?_, u, (upd_ne ne).trans e⟩
    rcases List.mem_append.mp z with z | z
    · exact n z
    · exact ne (List.mem_singleton.mp z)
  · change (β2.l ++ [p])[j]? = some a at h1
    by_cases hj : j < st.length
    · rw [List.getElem?_append_left (by rw [hl]; exact hj)] at h1
      rw [List.getElem?_append_left hj] at h2
      have ne : a ≠ p := fun z => n1 (by rw [← z]; exact List.mem_of_getElem? h1)
      exact CellOk.map (β := β2.hide p) (fun r => Reps.made r) (upd_ne ne) (S2.cell j a c' h1 h2)
    · have h3 : j < (st ++ [c]).length := (List.getElem?_eq_some_iff.mp h2).1
      have e : j = st.length := by simp at h3; omega
      subst e
      rw [List.getElem?_append_right (by omega), Nat.sub_self] at h2
      rw [List.getElem?_append_right (by rw [hl]; omega), hl, Nat.sub_self] at h1
      simp at h1 h2
      subst h1
      subst h2
      exact hc
theorem Ext.made (x : Ext β H β2 H2) (hp : H p = none) (n1 : p ∉ β2.l) : Ext β H (β2.push p) (upd H2 p o) := by
  obtain ⟨g, eg⟩ := x.pre
  refine ⟨⟨g ++ [p], by show β2.l ++ [p] = _; rw [eg, List.append_assoc]⟩, x.hid, fun a u ha na => ?_, fun a z u e => (upd_ne (ne_of_none e hp)).trans (x.frz a z u e)⟩
  have ne : a ≠ p := ne_of_none ha hp
  obtain ⟨q1, q2⟩ := x.kept0 a u ha na
  refine ⟨(upd_ne ne).trans q1, fun z => ?_⟩
  rcases List.mem_append.mp z with z | z
  · exact q2 z
  · exact ne (List.mem_singleton.mp z)
theorem made_ref (S2 : Sim K mg (β2.hide p) st H2) {H' : Hp} : Rep K H' (β2.push p) (.ref st.length) (.ref p) := by
  have hl : β2.l.length = st.length := S2.len
  exact .ref (by rw [← hl]; simp [Bt.push])
theorem XRep.unhide {c : Str} {fs : List (Str × D)} {cls : Value} {d : Option Addr} (h : XRep K mg H (β.hide p) c fs cls d) : XRep K mg H β c fs cls d := by
  obtain ⟨Ca, dx, vs, h1, h2, h3, h4, h5, h6, h7⟩ := h
  exact ⟨Ca, dx, vs, h1, h2, h3, Bt.hide_out h4, h5, h6, Reps.weak (β := β.hide p) (β' := β) (fun _ _ z => z) (fun _ _ _ z => Bt.hide_out (β := β) z) h7⟩
theorem post_hide {α ρ γ τ : Type} {R : Hp → Bt → α → ρ → Prop} {R' : Hp → Bt → γ → τ → Prop} {Q : τ → Hp → Prop} {Q' : ρ → Hp → Prop} {f : Out α} {k : α → AS → Out γ} (S : Sim K mg β st H) (hp : H p = none) (h : Post K mg R' E β H Q (f.bind k))
    (hk : ∀ a st1 β2 H2 u, Ext β H β2 H2 → p ∉ β2.l → p ∉ β2.h → H2 p = some o0 → Sim K mg (β2.hide p) st1 H2 → R H2 (β2.hide p) a u → Post K mg R' E β H Q (k a st1) → Q' u H2) : Post K mg R E (β.hide p) (upd H p o0) Q' f := by
  cases f with
  | bad => exact h
  | exc c fs st1 =>
    intro β' H' cls d x s r
    obtain ⟨β2, rfl, e1, n1, n2, x2⟩ := ext_hide S hp x
    exact h β2 H' cls d x2 s.unhide r.unhide
  | ok a st1 =>
    intro β' H' u x s r
    obtain ⟨β2, rfl, e1, n1, n2, x2⟩ := ext_hide S hp x
    exact hk a st1 β2 H' u x2 n1 n2 e1 s r h
end

/-! ### displays -/
def mergeKD {κ : Type} [DecidableEq κ] (kvs more : List (κ × D)) : List (κ × D) := more.foldl (fun acc kv => putKD acc kv.1 kv.2) kvs
@[simp] theorem mergeKD_nil {κ : Type} [DecidableEq κ] (kvs : List (κ × D)) : mergeKD kvs [] = kvs := rfl
@[simp] theorem mergeKD_cons {κ : Type} [DecidableEq κ] (kvs : List (κ × D)) (p : κ × D) (r : List (κ × D)) : mergeKD kvs (p :: r) = mergeKD (putKD kvs p.1 p.2) r := rfl
theorem RepK.nil {κ : Type} {K : PySem.W.Frag} {H : Hp} {β : Bt} : RepK (κ := κ) K H β [] [] := ⟨rfl, .nil⟩
theorem RepK.cons {κ : Type} {K : PySem.W.Frag} {H : Hp} {β : Bt} {p : κ × D} {q : κ × V} {ps : List (κ × D)} {qs : List (κ × V)} (h : RepK K H β (p :: ps) (q :: qs)) : p.1 = q.1 ∧ Rep K H β p.2 q.2 ∧ RepK K H β ps qs := by
  obtain ⟨h1, h2⟩ := h
  simp only [List.map_cons, List.cons.injEq] at h1
  cases h2 with
  | cons r t => exact ⟨h1.1, r, h1.2, t⟩
theorem RepK.merge {K : PySem.W.Frag} {H : Hp} {β : Bt} : ∀ {more : List (Key × D)} {rs : List (Key × V)} {kvs : List (Key × D)} {us : List (Key × V)}, RepK K H β more rs → RepK K H β kvs us → RepK K H β (mergeKD kvs more) (mergeK us rs)
  | [], [], _, _, _, h => h
  | [], _ :: _, _, _, h, _ => absurd h.length (by simp)
  | _ :: _, [], _, _, h, _ => absurd h.length (by simp)
  | p :: r, q :: s, kvs, us, h, h' => by
    obtain ⟨e, r1, t⟩ := h.cons
    rw [mergeKD_cons]
    show RepK K H β _ (mergeK (putK us q.1 q.2) s)
    refine RepK.merge t ?_
    rw [← e]
    exact h'.put r1 p.1
/-- keys of pairs -/
@[simp] def keysP : List (D × D) → Option (List (Key × D))
  | [] => some []
  | p :: r => match keyD p.1, keysP r with
    | some k, some ks => some ((k, p.2) :: ks)
    | _, _ => none
abbrev FE := En → AS → Out D
@[simp] def vPs : List (FE × FE) → En → AS → Out (List (D × D))
  | [] => fun _ st => .ok [] st
  | p :: r => fun env st => (p.1 env st).bind fun x st => (p.2 env st).bind fun y st => (vPs r env st).bind fun ps st => .ok ((x, y) :: ps) st
@[simp] def gDisp (ps : List (D × D)) (st : AS) : Out D := match keysP ps with
  | some kvs => if kvs.length ≤ 15 then .ok (.ref st.length) (st ++ [.dct (mergeKD [] kvs)]) else .bad
  | none => .bad
@[simp] def vDisp (prs : List (FE × FE)) (env : En) (st : AS) : Out D := (vPs prs env st).bind gDisp
abbrev rPs (K : PySem.W.Frag) : Hp → Bt → List (D × D) → List (V × V) → Prop := fun H β ps us => Reps K H β (ps.map (·.1)) (us.map (·.1)) ∧ Reps K H β (ps.map (·.2)) (us.map (·.2))
theorem keysP_ok {K : PySem.W.Frag} {H : Hp} {β : Bt} : ∀ {ps : List (D × D)} {us : List (V × V)} {kvs : List (Key × D)}, rPs K H β ps us → keysP ps = some kvs → ∃ ks : List (Key × V), us = ks.map (fun kv => (kV kv.1, kv.2)) ∧ RepK K H β kvs ks
  | [], us, kvs, ⟨h1, h2⟩, e => by
    cases e
    cases us with
    | nil => exact ⟨[], rfl, .nil⟩
    | cons u us => cases h1
  | p :: ps, us, kvs, ⟨h1, h2⟩, e => by
    cases us with
    | nil => cases h1
    | cons u us =>
      rw [keysP] at e
      split at e
      · rename_i k ks e1 e2
        cases e
        cases h1 with
        | cons a1 t1 =>
          cases h2 with
          | cons a2 t2 =>
            obtain ⟨ks', rfl, r⟩ := keysP_ok ⟨t1, t2⟩ e2
            refine ⟨(k, u.2) :: ks', ?_, ?_, ?_⟩
            · rw [List.map_cons, ← a1.key e1]
            · simp only [List.map_cons, r.1]
            · exact .cons a2 r.2
      · cases e
section
variable {X : Cx} {E : XK} {pos : Pos}
abbrev VPs (X : Cx) (E : XK) (pos : Pos) (keys : List (Option Expr)) (values : List Expr) (prs : List (FE × FE)) : Prop := PPs X pos keys values (prs.map fun p => (tV X.K X.mgw E p.1, tV X.K X.mgw E p.2))
theorem vps_nil : VPs X E pos [] [] [] := pps_nil
theorem vps_cons {k v : Expr} {ks : List (Option Expr)} {vs : List Expr} {fk fv : FE} {prs : List (FE × FE)} (hk : VE X E k fk) (hv : VE X E v fv) (hr : VPs X E pos ks vs prs) : VPs X E pos (some k :: ks) (v :: vs) ((fk, fv) :: prs) := pps_cons hk hv hr
theorem use_ps : ∀ {prs : List (FE × FE)} {σ : L2.St} {H : Hp} {Q : List (V × V) → Hp → Prop}, tG X.K X.mgw (rPs X.K) E (vPs prs) σ H Q → tPairs (prs.map fun p => (tV X.K X.mgw E p.1, tV X.K X.mgw E p.2)) σ H Q
  | [], σ, H, Q, ⟨β, env, st, he, hs, h⟩ => h.here (u := []) hs ⟨.nil, .nil⟩
  | p :: r, σ, H, Q, ⟨β, env, st, he, hs, h⟩ => by
    refine tG_bind he hs h fun x st1 β1 H1 u x1 s1 e1 r1 h1 => ?_
    refine tG_bind e1 s1 h1 fun y st2 β2 H2 v x2 s2 e2 r2 h2 => ?_
    refine use_ps (prs := r) ?_
    refine tG_bind (R := rPs X.K) e2 s2 h2 fun ps st3 β3 H3 us x3 s3 e3 r3 h3 => ?_
    exact h3.here s3 ⟨.cons ((r1.ext x2).ext x3) r3.1, .cons (r2.ext x3) r3.2⟩
theorem EnvR.hide {K : PySem.W.Frag} {H : Hp} {β : Bt} {env : En} {σ : L2.St} {p : Addr} {o : HO} (e : EnvR K H β env σ) (hp : H p = none) : EnvR K (upd H p o) (β.hide p) env σ := ⟨e.len, fun i d q => by
  obtain ⟨u, h1, h2⟩ := e.get i d q
  exact ⟨u, h1, h2.hide hp⟩⟩
theorem ve_disp {keys : List (Option Expr)} {values : List Expr} {prs : List (FE × FE)} (h : VPs X E pos keys values prs) (hall : keys.all (·.isSome) = true := by rfl) (hl : keys.length = values.length := by rfl) (h0 : keys ≠ [] := by exact List.cons_ne_nil _ _)
    (h15 : keys.length ≤ 15 := by decide) : VE X E (.Dict keys values pos) (vDisp prs) := by
  refine weakE (pe_disp h hall hl h0 h15) fun σ H Q ⟨β, env, st, he, hs, h⟩ p hp => ?_
  refine use_ps ⟨β.hide p, env, st, he.hide hp, hs.hide hp, ?_⟩
  refine post_hide hs hp h fun ps st1 β2 H2 us x n1 n2 e s2 r h1 => ⟨e, ?_⟩
  unfold gDisp at h1
  split at h1
  · rename_i kvs ek
    obtain ⟨hk, h1⟩ := h1.ite
    obtain ⟨ks, rfl, rk⟩ := keysP_ok r ek
    refine ⟨ks, rfl, by rw [rk.length]; exact hk, ?_⟩
    refine h1 (β2.push p) _ (.ref p) (x.made hp n1) (s2.made n1 n2 ⟨_, upd_same, ?_⟩) (made_ref s2)
    have rm : RepK X.K H2 (β2.hide p) (mergeKD [] kvs) (mergeK [] ks) := rk.merge .nil
    exact ⟨rm.1, Reps.made rm.2⟩
  · exact h1.elim
@[simp] def vDNew (_ : En) (st : AS) : Out D := .ok (.ref st.length) (st ++ [.dct []])
@[simp] def vDNewT (_ : En) (st : AS) : Out D := .ok (.ref st.length) (st ++ [.dtt []])
theorem ve_dnew : VE X E (.Dict [] [] pos) vDNew := weakE pe_dnewK fun σ H Q ⟨β, env, st, he, hs, h⟩ p hp =>
  h (β.push p) _ (.ref p) (ext_push hp) (hs.push hp ⟨[], upd_same, rfl, .nil⟩) (.ref (by rw [← hs.len]; simp [Bt.push]))
theorem ve_dnewT : VE X E (.Dict [] [] pos) vDNewT := weakE pe_dnewT fun σ H Q ⟨β, env, st, he, hs, h⟩ p hp =>
  h (β.push p) _ (.ref p) (ext_push hp) (hs.push hp ⟨[], upd_same, rfl, .nil⟩) (.ref (by rw [← hs.len]; simp [Bt.push]))

/-! ### methods of dicts -/
@[simp] def isDict (st : AS) (d : D) : Bool := match d with
  | .ref i => (match st[i]? with
    | some (.dct _) => true
    | some (.dtt _) => true
    | _ => false)
  | _ => false
variable {o e : Expr} {es : List Expr} {fo fe : FE} {fs : En → AS → Out (List D)} {name : Str} {apos cpos : Pos} {id : String}
@[simp] def vMD (g : D → List D → AS → Out D) (fo : FE) (fs : En → AS → Out (List D)) (env : En) (st : AS) : Out D := (fo env st).bind fun x st => if isDict st x = true then (fs env st).bind fun xs st => g x xs st else .bad
@[simp] def vMD0 (g : D → List D → AS → Out D) (fo : FE) (env : En) (st : AS) : Out D := (fo env st).bind fun x st => if isDict st x = true then g x [] st else .bad
theorem Sim.isDict {K : PySem.W.Frag} {mg : MG} {β : Bt} {H : Hp} {st : AS} (S : Sim K mg β st H) {d : D} {u : V} (r : Rep K H β d u) (h : VL.isDict st d = true) : tyV K "dict" u H := by
  cases r with
  | ref e =>
    rename_i i a
    unfold VL.isDict at h
    dsimp only at h
    split at h
    · rename_i kvs e2
      obtain ⟨us, e3, _⟩ := S.cell i a _ e e2
      exact .inr (.inr (.inl ⟨rfl, .inl ⟨us, e3⟩⟩))
    · rename_i kvs e2
      obtain ⟨us, e3, _⟩ := S.cell i a _ e e2
      exact .inr (.inr (.inl ⟨rfl, .inr ⟨us, e3⟩⟩))
    · cases h
  | _ => cases h
theorem ve_md {g : D → List D → AS → Out D} (slot : Slot "dict" name id) (hty : typeOf (.builtin id) = pure (.type "method_descriptor")) (hm : OkM X E id g) (ho : VE X E o fo) (ha : VA X E (e :: es) fs)
    (hbase : attributeBase o name X.env (eval o X.env) = eval o X.env := by rfl)
    (hfew : ((backTo cpos (starEach (e :: es) X.env)).all (fun x => !x.1) && (backToKw cpos (keywordEach [] X.env)).all (fun x => x.1.isSome)
      && decide ((e :: es).length + ([] : List Keyword).length + (if ([] : List Keyword).isEmpty then 0 else 1) < 30)) = true := by rfl)
    (hline : (apos.endLine == cpos.line) = true := by rfl) (hs : starEach (e :: es) X.env = (false, eval e X.env) :: starEach es X.env := by rfl) (hplain : (backTo cpos (starEach es X.env)).any (·.1) = false := by rfl) :
    VE X E (.Call (.Attribute o name apos) (e :: es) [] cpos) (vMD g fo fs) := by
  obtain ⟨r, h1, h2⟩ := hm
  refine weakE (pe_bm PySem.F.plainAttrs_dict slot hty h1 ho ha hbase hfew hline hs hplain) fun σ H Q ⟨β, env, st, he, hS, h⟩ => ?_
  refine tG_bind he hS h fun x st1 β1 H1 u x1 s1 e1 r1 h3 => ?_
  obtain ⟨hl, h3⟩ := h3.ite
  refine ⟨s1.isDict r1 hl, ?_⟩
  exact tG_bind e1 s1 h3 fun xs st2 β2 H2 us x2 s2 e2 r2 h4 => h2 β2 H2 st2 x xs u us Q s2 (r1.ext x2) r2 h4
theorem ve_md0 {g : D → List D → AS → Out D} (slot : Slot "dict" name id) (hty : typeOf (.builtin id) = pure (.type "method_descriptor")) (hm : OkM X E id g) (ho : VE X E o fo)
    (hbase : attributeBase o name X.env (eval o X.env) = eval o X.env := by rfl) (hline : (apos.endLine == cpos.line) = true := by rfl) :
    VE X E (.Call (.Attribute o name apos) [] [] cpos) (vMD0 g fo) := by
  obtain ⟨r, h1, h2⟩ := hm
  refine weakE (pe_bm0 PySem.F.plainAttrs_dict slot hty h1 ho hbase hline) fun σ H Q ⟨β, env, st, he, hS, h⟩ => ?_
  refine tG_bind he hS h fun x st1 β1 H1 u x1 s1 e1 r1 h3 => ?_
  obtain ⟨hl, h3⟩ := h3.ite
  exact ⟨s1.isDict r1 hl, h2 β1 H1 st1 x [] u [] Q s1 r1 .nil h3⟩
/-! d.get -/
def rGet1 : V → List V → Hp → VK → Prop := fun x xs H Q => ∃ a y r, x = .ref a ∧ xs = [y] ∧ DGet H a y r ∧ Q (r.getD .non) H
def rGet2 : V → List V → Hp → VK → Prop := fun x xs H Q => ∃ a y z r, x = .ref a ∧ xs = [y, z] ∧ DGet H a y r ∧ Q (r.getD z) H
theorem mt_get1 (hu : X.A.units + 1 < cLine) : MtR X "dict.get" rGet1 := by
  intro pins s σ H x xs v us Q I rx r h
  obtain ⟨a, y, o, rfl, rfl, g, q⟩ := h
  obtain rfl : v = Value.ref a := rx
  obtain ⟨u, rfl, ru⟩ := vals1 r
  exact d_get1 hu I g ru fun w s' I' rw' => ⟨_, H, I', rw', q⟩
theorem mt_get2 (hu : X.A.units + 1 < cLine) : MtR X "dict.get" rGet2 := by
  intro pins s σ H x xs v us Q I rx r h
  obtain ⟨a, y, z, o, rfl, rfl, g, q⟩ := h
  obtain rfl : v = Value.ref a := rx
  cases r with
  | cons ru t =>
    obtain ⟨w, rfl, rw'⟩ := vals1 t
    exact d_get2 hu I g ru rw' fun w s' I' r' => ⟨_, H, I', r', q⟩
/-- what a dict has at a key; none: no dict, no key -/
@[simp] def lookD (st : AS) (x y : D) : Option (Option D) := match x with
  | .ref i => (match st[i]? with
    | some (.dct kvs) => (match keyD y with
      | some k => some (valK kvs k)
      | none => none)
    | some (.dtt kvs) => (match y with
      | .tup ks => (match keysD ks with
        | some k => some (valK kvs k)
        | none => none)
      | _ => none)
    | _ => none)
  | _ => none
@[simp] def getD1 (x : D) (xs : List D) (st : AS) : Out D := match xs with
  | [y] => (match lookD st x y with
    | some r => .ok (r.getD .non) st
    | none => .bad)
  | _ => .bad
@[simp] def getD2 (x : D) (xs : List D) (st : AS) : Out D := match xs with
  | [y, z] => (match lookD st x y with
    | some r => .ok (r.getD z) st
    | none => .bad)
  | _ => .bad
theorem look_ok {K : PySem.W.Frag} {mg : MG} {β : Bt} {H : Hp} {st : AS} {x y : D} {u v : V} {r : Option D} (S : Sim K mg β st H) (rx : Rep K H β x u) (ry : Rep K H β y v) (h : lookD st x y = some r) :
    ∃ a r', u = .ref a ∧ DGet H a v r' ∧ ∀ z z', Rep K H β z z' → Rep K H β (r.getD z) (r'.getD z') := by
  have fin : ∀ {κ : Type} [DecidableEq κ] {kvs : List (κ × D)} {us : List (κ × V)} (k : κ), RepK K H β kvs us → ∀ z z', Rep K H β z z' → Rep K H β ((valK kvs k).getD z) ((valV us k).getD z') := by
    intro κ _ kvs us k q z z' rz
    obtain ⟨h1, h2⟩ := vals_lookup k q
    unfold valK
    cases e : kvs.find? fun kv => decide (kv.1 = k) with
    | none =>
      rw [h2 e]
      exact rz
    | some kv =>
      obtain ⟨w, e1, rw'⟩ := h1 kv.2 (by rw [e]; rfl)
      rw [e1]
      exact rw'
  cases rx with
  | ref er =>
    rename_i i a
    unfold lookD at h
    dsimp only at h
    split at h
    · rename_i kvs ec
      obtain ⟨us, eu, q⟩ := S.cell i a _ er ec
      split at h
      · rename_i k ek
        cases h
        rw [ry.key ek]
        exact ⟨a, _, rfl, DGet.k eu, fin k q⟩
      · cases h
    · rename_i kvs ec
      obtain ⟨us, eu, q⟩ := S.cell i a _ er ec
      cases ry with
      | tup n2 e2 r2 =>
        dsimp only at h
        split at h
        · rename_i k ek
          cases h
          have z := r2.keys ek
          subst z
          exact ⟨a, _, rfl, DGet.t eu e2, fin k q⟩
        · cases h
      | _ => cases h
    · cases h
  | _ => cases h
theorem om_get1 (hu : X.A.units + 65 < cLine) : OkM X E "dict.get" getD1 := ⟨_, mt_get1 (Nat.lt_of_le_of_lt (by omega) hu), fun β H st x xs u us Q S rx rs h => by
  unfold getD1 at h
  split at h
  · rename_i y
    obtain ⟨v, rfl, rv⟩ := one_ok rs
    split at h
    · rename_i r er
      obtain ⟨a, r', rfl, g, hr⟩ := look_ok S rx rv er
      exact ⟨a, v, r', rfl, rfl, g, h.here S (hr _ _ .non)⟩
    · exact h.elim
  · exact h.elim⟩
theorem om_get2 (hu : X.A.units + 65 < cLine) : OkM X E "dict.get" getD2 := ⟨_, mt_get2 (Nat.lt_of_le_of_lt (by omega) hu), fun β H st x xs u us Q S rx rs h => by
  unfold getD2 at h
  split at h
  · rename_i y z
    obtain ⟨v, w, rfl, rv, rw'⟩ := two_ok rs
    split at h
    · rename_i r er
      obtain ⟨a, r', rfl, g, hr⟩ := look_ok S rx rv er
      exact ⟨a, v, w, r', rfl, rfl, g, h.here S (hr _ _ rw')⟩
    · exact h.elim
  · exact h.elim⟩
/-! d.update(dict) -/
def rUpdate : V → List V → Hp → VK → Prop := fun x xs H Q => ∃ a b ks ls, x = .ref a ∧ xs = [.ref b] ∧ a ≠ b ∧ H a = some (.dK ks) ∧ H b = some (.dK ls) ∧ ks.length + ls.length ≤ sizeLine ∧ Q .non (upd H a (.dK (mergeK ks ls)))
theorem mt_update : MtR X "dict.update" rUpdate := by
  intro pins s σ H x xs v us Q I rx r h
  obtain ⟨a, b, ks, ls, rfl, rfl, ne, ea, eb, hl, q⟩ := h
  obtain rfl : v = Value.ref a := rx
  obtain ⟨u, rfl, ru⟩ := vals1 r
  obtain rfl : u = Value.ref b := ru
  obtain ⟨z1, d1, v1, r1, m1⟩ := dk_of I.hok ea
  obtain ⟨z2, d2, v2, r2, m2⟩ := dk_of I.hok eb
  refine call_meetsIn PySem.F.slot_dict_update m1.typeIs PySem.F.entry_dict_update (PySem.F.args_dict_update_2 _ _) (meets_dict_update (mixKind X.prog X.w) a b ne d2) ⟨v1, v2, m1, m2, by rw [← r1.length, ← r2.length]; exact hl, fun h' m1' m2' same => ?_⟩
  have hz : (mergeK ks ls).length ≤ sizeLine := Nat.le_trans (length_mergeK ls ks) hl
  have he : ∃ q, h'.get? a = some q := let ⟨q, _, _, hq, _⟩ := m1'; ⟨q, hq⟩
  exact ⟨.non, _, d_write (t' := s.toks) I (by rw [ea]; exact True.intro) same he (dk_new hz d1 (r2.merge r1) m1'), rfl, q⟩
@[simp] def updD (x : D) (xs : List D) (st : AS) : Out D := match x, xs with
  | .ref i, [.ref j] => if i ≠ j then (match st[i]?, st[j]? with
    | some (.dct ks), some (.dct ls) => if ks.length + ls.length ≤ sizeLine then .ok .non (st.set i (.dct (mergeKD ks ls))) else .bad
    | _, _ => .bad) else .bad
  | _, _ => .bad
theorem om_update : OkM X E "dict.update" updD := ⟨_, mt_update, fun β H st x xs u us Q S rx rs h => by
  unfold updD at h
  split at h
  · rename_i i j
    obtain ⟨v, rfl, rv⟩ := one_ok rs
    cases rx with
    | ref ea =>
      cases rv with
      | ref eb =>
        rename_i a b
        obtain ⟨ne, h⟩ := h.ite
        split at h
        · rename_i ks ls e1 e2
          obtain ⟨hl, h⟩ := h.ite
          obtain ⟨us, e3, q1⟩ := S.cell i a _ ea e1
          obtain ⟨ws, e4, q2⟩ := S.cell j b _ eb e2
          have nab : a ≠ b := fun z => by
            subst z
            obtain ⟨l1, f1⟩ := List.getElem?_eq_some_iff.mp ea
            obtain ⟨l2, f2⟩ := List.getElem?_eq_some_iff.mp eb
            exact ne ((List.getElem_inj S.nd).mp (f1.trans f2.symm))
          refine ⟨a, b, us, ws, rfl, rfl, nab, e3, e4, by rw [q1.length, q2.length]; exact hl, ?_⟩
          have hm : a ∈ β.l := List.mem_of_getElem? ea
          have x : Ext β H β (upd H a (.dK (mergeK us ws))) := ext_put hm e3
          exact h β _ .non x (S.put (o := .dK (mergeK us ws)) (c := .dct (mergeKD ks ls)) ea ⟨_, upd_same, (q2.merge q1).ext x⟩) .non
        · exact h.elim
  · exact h.elim⟩
end
end VL

set_option Elab.async false
set_option linter.all false
set_option maxRecDepth 100000
/-! The value layer: walks of dicts; dict(..), list(d). -/
namespace VL
open PySem PySem.Spec PyProof.Rows L2 TB

@[simp] def keyV : Key → D
  | .inl i => .int i
  | .inr x => .str x
theorem rep_key {K : PySem.W.Frag} {H : Hp} {β : Bt} (k : Key) : Rep K H β (keyV k) (kV k) := by
  cases k with
  | inl i => exact .int i
  | inr x => exact .str x
/-- what is walked: keys, values, pairs -/
inductive Wk where
  | keys | vals | items
@[simp] def wkD (w : Wk) (kvs : List (Key × D)) : List D := match w with
  | .keys => kvs.map fun kv => keyV kv.1
  | .vals => kvs.map (·.2)
  | .items => kvs.map fun kv => .tup [keyV kv.1, kv.2]
@[simp] def itK (w : Wk) (d : D) (st : AS) : Out (List D × Gd) := match d with
  | .ref i => (match st[i]? with
    | some (.lck kvs) => .ok (wkD w kvs, [(i, .lck kvs)]) st
    | _ => .bad)
  | _ => .bad
theorem RepK.at {κ : Type} {K : PySem.W.Frag} {H : Hp} {β : Bt} : ∀ {kvs : List (κ × D)} {us : List (κ × V)} {i : Nat} {k : κ} {v : V}, RepK K H β kvs us → us[i]? = some (k, v) → ∃ d, kvs[i]? = some (k, d) ∧ Rep K H β d v
  | [], us, i, k, v, h, e => by
    have : us = [] := List.length_eq_zero_iff.mp h.length
    subst this
    simp at e
  | p :: kvs, [], i, k, v, h, e => by simp at e
  | p :: kvs, q :: us, 0, k, v, h, e => by
    obtain ⟨e1, r, _⟩ := h.cons
    simp at e
    subst e
    exact ⟨p.2, congrArg some (Prod.ext e1 rfl), r⟩
  | p :: kvs, q :: us, i + 1, k, v, h, e => by
    obtain ⟨_, _, t⟩ := h.cons
    obtain ⟨d, h1, h2⟩ := RepK.at (i := i) t (by simpa using e)
    exact ⟨d, by simpa using h1, h2⟩
theorem RepK.extW {κ : Type} {K : PySem.W.Frag} {β β' : Bt} {H H' : Hp} (x : ExtW β H β' H') {fs : List (κ × D)} {vs : List (κ × V)} (h : RepK K H β fs vs) : RepK K H' β' fs vs := ⟨h.1, h.2.extW x⟩
section
variable {K : PySem.W.Frag} {mg : MG} {β : Bt} {H : Hp} {a : Addr} {o : Obj} {us : List (Key × V)} {kvs : List (Key × D)}
theorem walk_wk {J : It} {w : Wk} {gs : Gd} (ea : H a = some (.frz o (.dK us))) (r : RepK K H β kvs us) (hgo : ∀ i H, H a = some (.frz o (.dK us)) → i < us.length → J.go i H) (hst : ∀ H, H a = some (.frz o (.dK us)) → J.stop us.length H)
    (hy : ∀ i β' H' st x H2, Sim K mg β' st H' → RepK K H' β' kvs us → i < us.length → J.yld i H' x H2 → Same H' H2 ∧ ∃ d, (wkD w kvs)[i]? = some d ∧ Rep K H2 β' d x) : WalkD K mg β H J (wkD w kvs) gs := by
  have hl : (wkD w kvs).length = us.length := by rw [r.length]; cases w <;> simp
  refine ⟨fun i β' H' st x S g hi => hgo i H' (x.frz _ _ _ ea) (by omega), fun β' H' st x S g => by rw [hl]; exact hst H' (x.frz _ _ _ ea), fun i β' H' st v H2 x S g hi y => ?_⟩
  exact hy i β' H' st v H2 S (r.extW x.toExtW) (by omega) y
end
section
variable {X : Cx} {E : XK} {tg e : Expr} {fe : FE} {pos apos cpos : Pos}
theorem it_lck {K : PySem.W.Frag} {mg : MG} {β : Bt} {H : Hp} {st : AS} {d : D} {u : V} {w : Wk} {Q : It → Hp → Prop} (S : Sim K mg β st H) (r : Rep K H β d u) (h : Post K mg (rI K mg) E β H Q (itK w d st)) :
    ∃ a o us kvs gs, u = .ref a ∧ H a = some (.frz o (.dK us)) ∧ RepK K H β kvs us ∧ ∀ J, WalkD K mg β H J (wkD w kvs) gs → Q J H := by
  unfold itK at h
  cases r with
  | ref er =>
    rename_i i a
    dsimp only at h
    split at h
    · rename_i kvs ec
      obtain ⟨z, us, eu, q⟩ := S.cell i a _ er ec
      exact ⟨a, z, us, kvs, _, rfl, eu, q, fun J hJ => h.here S hJ⟩
    · exact h.elim
  | _ => exact h.elim
theorem vi_keys (he : VE X E e fe) : VI X E tg e (v1 (itK .keys) fe) := by
  refine weakI (pi_keys he) fun σ H Q ⟨β, env, st, hE, hS, h⟩ => tG_bind hE hS h fun d st1 β1 H1 u x1 s1 e1 r1 h1 => ?_
  obtain ⟨a, o, us, kvs, gs, rfl, ea, r, hq⟩ := it_lck s1 r1 h1
  refine ⟨a, o, rfl, .inl ⟨us, ea, hq _ (walk_wk ea r (fun i H e hi => ⟨e, hi⟩) (fun H e => ⟨e, Nat.le_refl _⟩) ?_)⟩⟩
  rintro i β' H' st x H2 S r2 hi ⟨rfl, k, v, ek, rfl⟩
  obtain ⟨d, e2, _⟩ := r2.at ek
  exact ⟨Same.refl _, keyV k, by simp [e2], rep_key k⟩
theorem vi_keysM (he : VE X E e fe) (hbase : attributeBase e "keys" X.env (eval e X.env) = eval e X.env := by rfl) (hline : (apos.endLine == cpos.line) = true := by rfl) : VI X E tg (.Call (.Attribute e "keys" apos) [] [] cpos) (v1 (itK .keys) fe) := by
  refine weakI (pi_keysM he hbase hline) fun σ H Q ⟨β, env, st, hE, hS, h⟩ => tG_bind hE hS h fun d st1 β1 H1 u x1 s1 e1 r1 h1 => ?_
  obtain ⟨a, o, us, kvs, gs, rfl, ea, r, hq⟩ := it_lck s1 r1 h1
  refine ⟨a, o, us, rfl, ea, hq _ (walk_wk ea r (fun i H e hi => ⟨e, hi⟩) (fun H e => ⟨e, Nat.le_refl _⟩) ?_)⟩
  rintro i β' H' st x H2 S r2 hi ⟨rfl, k, v, ek, rfl⟩
  obtain ⟨d, e2, _⟩ := r2.at ek
  exact ⟨Same.refl _, keyV k, by simp [e2], rep_key k⟩
theorem vi_vals (he : VE X E e fe) (hbase : attributeBase e "values" X.env (eval e X.env) = eval e X.env := by rfl) (hline : (apos.endLine == cpos.line) = true := by rfl) : VI X E tg (.Call (.Attribute e "values" apos) [] [] cpos) (v1 (itK .vals) fe) := by
  refine weakI (pi_values he hbase hline) fun σ H Q ⟨β, env, st, hE, hS, h⟩ => tG_bind hE hS h fun d st1 β1 H1 u x1 s1 e1 r1 h1 => ?_
  obtain ⟨a, o, us, kvs, gs, rfl, ea, r, hq⟩ := it_lck s1 r1 h1
  refine ⟨a, o, us, rfl, ea, hq _ (walk_wk ea r (fun i H e hi => ⟨e, hi⟩) (fun H e => ⟨e, Nat.le_refl _⟩) ?_)⟩
  rintro i β' H' st x H2 S r2 hi ⟨rfl, k, ek⟩
  obtain ⟨d, e2, r3⟩ := r2.at ek
  exact ⟨Same.refl _, d, by simp [e2], r3⟩
theorem vi_items {elts : List Expr} {kk : Nat} {tpos : Pos} (he : VE X E e fe) (hbase : attributeBase e "items" X.env (eval e X.env) = eval e X.env := by rfl) (hline : (apos.endLine == cpos.line) = true := by rfl) : VI X E (.Tuple elts kk tpos) (.Call (.Attribute e "items" apos) [] [] cpos) (v1 (itK .items) fe) := by
  refine weakI (pi_items he hbase hline) fun σ H Q ⟨β, env, st, hE, hS, h⟩ => tG_bind hE hS h fun d st1 β1 H1 u x1 s1 e1 r1 h1 => ?_
  obtain ⟨a, o, us, kvs, gs, rfl, ea, r, hq⟩ := it_lck s1 r1 h1
  refine ⟨a, o, us, rfl, ea, hq _ (walk_wk ea r (fun i H e hi => ⟨e, hi⟩) (fun H e => ⟨e, Nat.le_refl _⟩) ?_)⟩
  rintro i β' H' st x H2 S r2 hi ⟨T, k, v, ek, rfl, nT, rfl⟩
  obtain ⟨d, e2, r3⟩ := r2.at ek
  have sm : Same H' (upd H' T (.tup [kV k, v])) := same_upd nT
  exact ⟨sm, .tup [keyV k, d], by simp [e2], .tup (S.fresh nT) upd_same (.cons (rep_key k) (.cons (r3.ext (Ext.same sm)) .nil))⟩
end

/-! ### the lock -/
@[simp] def unlS (i : Nat) (st : AS) : Option AS := match st[i]? with
  | some (.lck kvs) => some (st.set i (.dct kvs))
  | _ => none
def Fl.unl (i : Nat) (o : Fl) : Fl := match o with
  | .nx env st => (match unlS i st with
    | some st' => .nx env st'
    | none => .bad)
  | .rt d st => (match unlS i st with
    | some st' => .rt d st'
    | none => .bad)
  | .bk env st => (match unlS i st with
    | some st' => .bk env st'
    | none => .bad)
  | .ct env st => (match unlS i st with
    | some st' => .ct env st'
    | none => .bad)
  | .exc c fs st => .exc c fs st
  | .bad => .bad
def Out.unl {α : Type} (i : Nat) (o : Out α) : Out α := match o with
  | .ok a st => (match unlS i st with
    | some st' => .ok a st'
    | none => .bad)
  | .exc c fs st => .exc c fs st
  | .bad => .bad
@[simp] def sLock (fe : FE) (f : En → AS → Fl) (env : En) (st : AS) : Fl := match fe env st with
  | .ok (.ref i) _ => (match st[i]? with
    | some (.dct kvs) => (f env (st.set i (.lck kvs))).unl i
    | some (.lck _) => f env st
    | _ => .bad)
  | _ => .bad
@[simp] def vLock {α : Type} (fe : FE) (f : En → AS → Out α) (env : En) (st : AS) : Out α := match fe env st with
  | .ok (.ref i) _ => (match st[i]? with
    | some (.dct kvs) => (f env (st.set i (.lck kvs))).unl i
    | some (.lck _) => f env st
    | _ => .bad)
  | _ => .bad
section
variable {K : PySem.W.Frag} {mg : MG} {E : XK} {β β' : Bt} {H H' : Hp} {st : AS} {a : Addr} {i : Nat} {us : List (Key × V)} {kvs : List (Key × D)} {od : Obj}
theorem EnvR.extW {env : En} {σ : L2.St} (e : EnvR K H β env σ) (x : ExtW β H β' H') : EnvR K H' β' env σ := ⟨e.len, fun i d h => by
  obtain ⟨u, h1, h2⟩ := e.get i d h
  exact ⟨u, h1, h2.extW x⟩⟩
theorem lock_sim (S : Sim K mg β st H) (ea : β.l[i]? = some a) (eh : H a = some (.dK us)) (r : RepK K H β kvs us) : Sim K mg β (st.set i (.lck kvs)) (upd H a (.frz od (.dK us))) :=
  S.put (o := .frz od (.dK us)) (c := .lck kvs) ea ⟨od, us, upd_same, r.extW (extW_put (List.mem_of_getElem? ea))⟩
theorem lock_ext (ea : β.l[i]? = some a) (eh : H a = some (.dK us)) (x : Ext β (upd H a (.frz od (.dK us))) β' H') : H' a = some (.frz od (.dK us)) ∧ Ext β H β' H' ∧ Ext β H β' (upd H' a (.dK us)) := by
  have e1 : H' a = some (.frz od (.dK us)) := x.frz a _ _ upd_same
  have hm : a ∈ β.l := List.mem_of_getElem? ea
  refine ⟨e1, ⟨x.pre, x.hid, fun b o hb nb => ?_, fun b z u hb => ?_⟩, ⟨x.pre, x.hid, fun b o hb nb => ?_, fun b z u hb => ?_⟩⟩
  · have ne : b ≠ a := fun z => nb (by rw [z]; exact hm)
    exact x.kept0 b o ((upd_ne ne).trans hb) nb
  · have ne : b ≠ a := by
      rintro rfl
      rw [eh] at hb
      cases hb
    exact x.frz b z u ((upd_ne ne).trans hb)
  · have ne : b ≠ a := fun z => nb (by rw [z]; exact hm)
    obtain ⟨q1, q2⟩ := x.kept0 b o ((upd_ne ne).trans hb) nb
    exact ⟨(upd_ne ne).trans q1, q2⟩
  · have ne : b ≠ a := by
      rintro rfl
      rw [eh] at hb
      cases hb
    exact (upd_ne ne).trans (x.frz b z u ((upd_ne ne).trans hb))
theorem unl_sim {st' : AS} (S : Sim K mg β' st H') (ea : β'.l[i]? = some a) (eh : H' a = some (.frz od (.dK us))) (h : unlS i st = some st') : Sim K mg β' st' (upd H' a (.dK us)) := by
  unfold unlS at h
  split at h
  · rename_i kvs e
    cases h
    obtain ⟨z, ws, e2, r⟩ := S.cell i a _ ea e
    rw [eh] at e2
    cases e2
    exact S.put (o := .dK us) (c := .dct kvs) ea ⟨us, upd_same, r.extW (extW_put (List.mem_of_getElem? ea))⟩
  · cases h
end
section
variable {X : Cx} {E : XK} {s : Stmt} {e : Expr} {fe f : FE} {fs : En → AS → Fl}
theorem orS {s : Stmt} {t t' : TS} (h : PS X s t) (h' : PS X s t') : PS X s (fun De σ H => t De σ H ∨ t' De σ H) := ⟨fun pins s σ H De I q => q.elim (h.run pins s σ H De I) (h'.run pins s σ H De I)⟩
theorem vs_lock (h : VS X E s fs) : VS X E s (sLock fe fs) := by
  refine weakS (orS (ps_lock h) h) fun De σ H ⟨β, env, st, he, hs, q⟩ => ?_
  unfold sLock at q
  split at q
  · rename_i i _ _
    split at q
    · rename_i kvs ec
      obtain ⟨a, ea, us, eh, r⟩ := hs.at ec
      refine .inl ⟨a, _, eh, True.intro, fun od => ⟨β, env, st.set i (.lck kvs), he.extW (extW_put (List.mem_of_getElem? ea)), lock_sim hs ea eh r, ?_⟩⟩
      cases o : fs env (st.set i (.lck kvs)) with
      | bad => rw [o] at q; exact q
      | exc c xs st1 =>
        rw [o] at q
        exact fun β' H' cls d x s1 xr => q β' H' cls d (lock_ext ea eh x).2.1 s1 xr
      | nx env1 st1 =>
        rw [o] at q
        unfold Fl.unl at q
        intro β' H' σ' x s1 e1
        obtain ⟨f1, x1, x2⟩ := lock_ext ea eh x
        refine ⟨f1, ?_⟩
        dsimp only at q
        split at q
        · rename_i st' eu
          exact q β' _ σ' x2 (unl_sim s1 (x.at ea) f1 eu) (e1.extW (extW_put (List.mem_of_getElem? (x.at ea))))
        · exact q.elim
      | bk env1 st1 =>
        rw [o] at q
        unfold Fl.unl at q
        intro β' H' σ' x s1 e1
        obtain ⟨f1, x1, x2⟩ := lock_ext ea eh x
        refine ⟨f1, ?_⟩
        dsimp only at q
        split at q
        · rename_i st' eu
          exact q β' _ σ' x2 (unl_sim s1 (x.at ea) f1 eu) (e1.extW (extW_put (List.mem_of_getElem? (x.at ea))))
        · exact q.elim
      | ct env1 st1 =>
        rw [o] at q
        unfold Fl.unl at q
        intro β' H' σ' x s1 e1
        obtain ⟨f1, x1, x2⟩ := lock_ext ea eh x
        refine ⟨f1, ?_⟩
        dsimp only at q
        split at q
        · rename_i st' eu
          exact q β' _ σ' x2 (unl_sim s1 (x.at ea) f1 eu) (e1.extW (extW_put (List.mem_of_getElem? (x.at ea))))
        · exact q.elim
      | rt d st1 =>
        rw [o] at q
        unfold Fl.unl at q
        intro β' H' u x s1 r1
        obtain ⟨f1, x1, x2⟩ := lock_ext ea eh x
        refine ⟨f1, ?_⟩
        dsimp only at q
        split at q
        · rename_i st' eu
          exact q β' _ u x2 (unl_sim s1 (x.at ea) f1 eu) (r1.extW (extW_put (List.mem_of_getElem? (x.at ea))))
        · exact q.elim
    · exact .inr ⟨β, env, st, he, hs, q⟩
    · exact q.elim
  · exact q.elim
theorem ve_lock (h : VE X E e f) : VE X E e (vLock fe f) := by
  refine weakE (orE (pe_lock h) h) fun σ H Q ⟨β, env, st, he, hs, q⟩ => ?_
  unfold vLock at q
  split at q
  · rename_i i _ _
    split at q
    · rename_i kvs ec
      obtain ⟨a, ea, us, eh, r⟩ := hs.at ec
      refine .inl ⟨a, _, eh, True.intro, fun od => ⟨β, env, st.set i (.lck kvs), he.extW (extW_put (List.mem_of_getElem? ea)), lock_sim hs ea eh r, ?_⟩⟩
      cases o : f env (st.set i (.lck kvs)) with
      | bad => rw [o] at q; exact q
      | exc c xs st1 =>
        rw [o] at q
        exact fun β' H' cls d x s1 xr => q β' H' cls d (lock_ext ea eh x).2.1 s1 xr
      | ok d st1 =>
        rw [o] at q
        unfold Out.unl at q
        intro β' H' u x s1 r1
        obtain ⟨f1, x1, x2⟩ := lock_ext ea eh x
        refine ⟨f1, ?_⟩
        dsimp only at q
        split at q
        · rename_i st' eu
          exact q β' _ u x2 (unl_sim s1 (x.at ea) f1 eu) (r1.extW (extW_put (List.mem_of_getElem? (x.at ea))))
        · exact q.elim
    · exact .inr ⟨β, env, st, he, hs, q⟩
    · exact q.elim
  · exact q.elim

/-! ### list(d) -/
@[simp] def dctOf (st : AS) (d : D) : Option (List (Key × D)) := match d with
  | .ref i => (match st[i]? with
    | some (.dct kvs) => some kvs
    | some (.lck kvs) => some kvs
    | _ => none)
  | _ => none
theorem Sim.dcts {K : PySem.W.Frag} {mg : MG} {β : Bt} {H : Hp} {st : AS} {d : D} {u : V} {kvs : List (Key × D)} (S : Sim K mg β st H) (r : Rep K H β d u) (h : dctOf st d = some kvs) : ∃ a us, u = .ref a ∧ Rd H a (.dK us) ∧ RepK K H β kvs us := by
  cases r with
  | ref er =>
    rename_i i a
    unfold dctOf at h
    dsimp only at h
    split at h
    · rename_i e
      cases h
      obtain ⟨us, e2, q⟩ := S.cell i a _ er e
      exact ⟨a, us, rfl, .inl e2, q⟩
    · rename_i e
      cases h
      obtain ⟨z, us, e2, q⟩ := S.cell i a _ er e
      exact ⟨a, us, rfl, .inr ⟨z, e2⟩, q⟩
    · cases h
  | _ => cases h
theorem reps_keys {K : PySem.W.Frag} {H : Hp} {β : Bt} : ∀ {kvs : List (Key × D)} {us : List (Key × V)}, RepK K H β kvs us → Reps K H β (kvs.map fun kv => keyV kv.1) (us.map fun kv => kV kv.1)
  | [], us, h => by
    have : us = [] := List.length_eq_zero_iff.mp h.length
    subst this
    exact .nil
  | p :: kvs, [], h => absurd h.length (by simp)
  | p :: kvs, q :: us, h => by
    obtain ⟨e, r, t⟩ := h.cons
    refine .cons ?_ (reps_keys t)
    show Rep K H β (keyV p.1) (kV q.1)
    rw [e]
    exact rep_key _
@[simp] def lstKD (c : Bool) (x : D) (st : AS) : Out D := match dctOf st x with
  | some kvs => mk c (kvs.map fun kv => keyV kv.1) st
  | none => lstD c x st
theorem ob_listK (hc : X.calm = true) (c : Bool) : OkB X E (.type "list") (g1 (lstKD c)) := ⟨_, (call_listD hc).or call_list_of, fun β H st xs us Q S r h => by
  obtain ⟨x, u, rfl, rx, h⟩ := g1_ok r h
  unfold lstKD at h
  split at h
  · rename_i kvs e
    obtain ⟨a, us, rfl, hq, q⟩ := S.dcts rx e
    exact .inl ⟨a, us, rfl, hq, new_lst h S (reps_keys q)⟩
  · unfold lstD at h
    split at h
    · rename_i ds e
      obtain ⟨p, us, rfl, hq, r⟩ := S.seqs rx e
      exact .inr ⟨p, us, rfl, hq, new_lst h S r⟩
    · exact h.elim⟩
end
end VL

set_option Elab.async false
set_option linter.all false
set_option maxRecDepth 100000
/-! The value layer: sets of ints and texts, as far as sorted(set(..)) and len(set(..)) want them. -/
namespace VL
open PySem PySem.Spec PyProof.Rows L2 TB

def kOf (e : Int × Value) : Key := match e.2 with
  | .int k _ => .inl k
  | .str x _ => .inr x
  | _ => .inl 0
def GdK (wd : World) (e : Int × Value) : Prop := keyIs (kOf e) e.2 = true ∧ e.1 = keyH wd (kOf e)
/-- the set at a has the members mem, each once, n of them -/
def SetM (wd : World) (hp : Heap) (a : Addr) (mem : Key → Bool) (n : Nat) : Prop :=
  ∃ ob es ep tb, hp.get? a = some ob ∧ ob.ExactSet ∧ ob.data = .set es ep tb ∧ (∀ e ∈ es.toList, GdK wd e) ∧ (es.toList.map kOf).Nodup ∧ (∀ k, mem k = true ↔ k ∈ es.toList.map kOf) ∧
    es.size < scanBound ∧ tb.fits es.size = true ∧ es.size = n ∧ Ris tb.place.toList ∧ (wd.params.followText "set-order" = true ∨ tb.led = true)
def inK (ks : List Key) (k : Key) : Bool := ks.any fun z => decide (z = k)
theorem inK_iff {ks : List Key} {k : Key} : inK ks k = true ↔ k ∈ ks := by
  unfold inK
  rw [List.any_eq_true]
  exact ⟨fun ⟨z, h, e⟩ => by rw [← of_decide_eq_true e]; exact h, fun h => ⟨k, h, decide_eq_true rfl⟩⟩
theorem kOf_is {k : Key} {v : Value} {h : Int} (e : keyIs k v = true) : kOf (h, v) = k := by
  rcases keyIs_shape e with ⟨i, t, rfl, rfl⟩ | ⟨x, t, rfl, rfl⟩ <;> rfl
theorem key_scans {k : Key} {v : Value} (e : keyIs k v = true) : v.scannable = true := by
  rcases keyIs_shape e with ⟨i, t, rfl, rfl⟩ | ⟨x, t, rfl, rfl⟩ <;> rfl
section
variable {pg : Program} {wd : World} {hp hp' : Heap} {a : Addr} {mem : Key → Bool} {n : Nat}
theorem SetM.moved (m : SetM wd hp a mem n) (k : ∀ o, hp.get? a = some o → hp'.get? a = some o) : SetM wd hp' a mem n :=
  let ⟨ob, es, ep, tb, h1, h2⟩ := m
  ⟨ob, es, ep, tb, k ob h1, h2⟩
theorem SetM.by {mem' : Key → Bool} (m : SetM wd hp a mem n) (e : ∀ k, mem' k = mem k) : SetM wd hp a mem' n := (funext e : mem' = mem) ▸ m
theorem gd_elems {es : List (Int × Value)} (g : ∀ e ∈ es, GdK wd e) : ElemsOf (mixKind pg wd) es := fun e he => ⟨⟨kOf e, (g e he).1, (g e he).2⟩, key_scans (g e he).1⟩
theorem gd_is {e : Int × Value} (g : GdK wd e) (k : Key) : (mixKind pg wd).is k e.2 = true ↔ kOf e = k := by
  constructor
  · intro z
    exact (mixKind pg wd).inj e.2 _ _ g.1 z
  · rintro rfl
    exact g.1
theorem gd_in {es : List (Int × Value)} (g : ∀ e ∈ es, GdK wd e) (k : Key) : k ∈ es.map kOf ↔ ∃ e ∈ es, (mixKind pg wd).is k e.2 = true := by
  refine List.mem_map.trans ⟨fun ⟨e, he, z⟩ => ⟨e, he, (gd_is (g e he) k).mpr z⟩, fun ⟨e, he, z⟩ => ⟨e, he, (gd_is (g e he) k).mp z⟩⟩
end
section
variable {pg : Program} {wd : World} {Ar : Around} {Ex : Value → Shared → Prop} {sh : Shared} {a : Addr} {mem : Key → Bool} {n : Nat}
/-- the new table is stored, and laid anew where it is too full -/
theorem setM_tail {gv : Bool → Sem Unit} (hgv : ∀ (b : Bool) (s1 : Shared) (R' : Unit → Shared → Prop), R' () s1 → wpAny (model pg wd) Ar (gv b) R' Ex s1)
    {ob : Obj} {es : Array (Int × Value)} {ep : Nat} {tb : SetTable} (hob : sh.heap.get? a = some ob) (hexs : ob.ExactSet) (hdt : ob.data = .set es ep tb)
    {e1 : Array (Int × Value)} {t1 : SetTable} {mem' : Key → Bool} (gd : ∀ e ∈ e1.toList, GdK wd e) (ndp : (e1.toList.map kOf).Nodup) (hme : ∀ k, mem' k = true ↔ k ∈ e1.toList.map kOf)
    (hbd : e1.size < scanBound) (hfi : t1.fits e1.size = true) (hri : Ris t1.place.toList) (hle : wd.params.followText "set-order" = true ∨ t1.led = true) {dm : Bool} {R : Option Bool → Shared → Prop}
    (fin : ∀ hp', Heap.SameBut a sh.heap hp' → SetM wd hp' a mem' e1.size → R (some true) { sh with heap := hp' }) :
    wpAny (model pg wd) Ar (do
        storeSet a e1 t1
        if (!dm && t1.tooFull) = true then do
            gv (relayAll t1 e1 (SetTable.grown e1.size)).2.2
            storeSet a (relayAll t1 e1 (SetTable.grown e1.size)).1 (relayAll t1 e1 (SetTable.grown e1.size)).2.1
            pure (some true)
          else pure (some true)) R Ex sh := by
  have at1 := store_at (es' := e1) (t' := t1) hob hdt
  have same1 := Heap.SameBut.update sh.heap a (Obj.putSet e1 t1)
  refine wpAny_bind (wpAny_storeSet_of hob hdt ?_ (fits_of_scanBound hbd))
  split
  · have q1 := relayAll_perm t1 e1 (SetTable.grown e1.size)
    have q2 := relayAll_fits t1 e1 (SetTable.grown e1.size)
    have q3 := relayAll_ris t1 e1 (SetTable.grown e1.size)
    have q4 := relayAll_led t1 e1 (SetTable.grown e1.size)
    revert q1 q2 q3 q4
    generalize relayAll t1 e1 (SetTable.grown e1.size) = laid
    obtain ⟨e2, t2, gw⟩ := laid
    intro q1 q2 q3 q4
    dsimp only at q1 q2 q3 q4 ⊢
    have z2 : e2.size = e1.size := by
      have := q1.length_eq
      simpa using this
    have b2 : e2.size < scanBound := z2 ▸ hbd
    refine wpAny_bind (hgv _ _ _ (wpAny_bind (wpAny_storeSet_of at1 rfl ?_ (fits_of_scanBound b2))))
    have at2 := store_at (es' := e2) (t' := t2) at1 rfl
    refine wpAny_pure (fin _ (same1.trans (Heap.SameBut.update _ a _)) ⟨_, e2, _, t2, at2, hexs, rfl, fun e he => gd e (q1.mem_iff.mp he), (q1.map kOf).nodup_iff.mpr ndp, fun k => (hme k).trans (q1.map kOf).mem_iff.symm, b2, q2, z2, q3, ?_⟩)
    exact hle.imp id fun z => q4.trans z
  · exact wpAny_pure (fin _ same1 ⟨_, e1, _, t1, at1, hexs, rfl, gd, ndp, hme, hbd, hfi, rfl, hri, hle⟩)
theorem setM_put {k : Key} {v : Value} {Q : Bool → Shared → Prop} (hk : keyIs k v = true) (m : SetM wd sh.heap a mem n) (room : n + 1 < scanBound)
    (fin : ∀ hp', Heap.SameBut a sh.heap hp' → SetM wd hp' a (fun j => mem j || decide (j = k)) (if mem k = true then n else n + 1) → Q (!mem k) { sh with heap := hp' }) :
    wpAny (model pg wd) Ar (setAddHashed a v ((mixKind pg wd).hash k)) Q Ex sh := by
  obtain ⟨ob, es, ep, tb, hob, hexs, hdt, gd, ndp, hme, hbd, hfi, hn, hri, hle⟩ := m
  have hv : (mixKind pg wd).is k v = true := hk
  have scn : v.scannable = true := key_scans hk
  have els : ElemsOf (mixKind pg wd) es.toList := gd_elems gd
  unfold setAddHashed setAddHashedIn
  refine wpAny_holding (wpAny_bind (wpAny_setState_of hob hdt hfi ?_))
  dsimp only
  rw [byScan_of scn hbd els]
  simp only [↓reduceIte]
  unfold setAddByScan
  refine wpAny_bind (wpAny_bind (wpAny_rule (wpAny_bind (wpAny_setScan_of hv hob hdt hfi els ?_))))
  cases hix : List.findIdx? (fun e => (mixKind pg wd).is k e.2) es.toList with
  | some j =>
    dsimp only
    obtain ⟨hj, pj, _⟩ := List.findIdx?_eq_some_iff_getElem.mp hix
    have yes : mem k = true := (hme k).mpr ((gd_in (pg := pg) gd k).mpr ⟨es.toList[j], List.getElem_mem hj, pj⟩)
    refine wpAny_pure (wpAny_pure ?_)
    have q := fin sh.heap (Heap.SameBut.refl a sh.heap) ⟨ob, es, ep, tb, hob, hexs, hdt, gd, ndp, fun i => by
      rw [Bool.or_eq_true, decide_eq_true_eq]
      refine ⟨fun z => (hme i).mp (z.elim id fun e => e.symm ▸ yes), fun z => .inl ((hme i).mpr z)⟩, hbd, hfi, by rw [if_pos yes]; exact hn, hri, hle⟩
    rw [yes] at q
    exact q
  | none =>
    dsimp only
    have nk : k ∉ es.toList.map kOf := fun z => by
      obtain ⟨e, he, q⟩ := (gd_in (pg := pg) gd k).mp z
      have := List.findIdx?_eq_none_iff.mp hix e he
      simp [q] at this
    have no : mem k = false := by
      by_cases z : mem k = true
      · exact absurd ((hme k).mp z) nk
      · simpa using z
    have q1 := layNew_perm tb es ((mixKind pg wd).hash k) v
    have q2 := layNew_fits tb es ((mixKind pg wd).hash k) v
    have q3 := layNew_ris tb es ((mixKind pg wd).hash k) v hri
    have q4 := layNew_led tb es ((mixKind pg wd).hash k) v
    revert q1 q2 q3 q4
    generalize layNew tb es ((mixKind pg wd).hash k) v = laid
    obtain ⟨e1, t1, dm, gw⟩ := laid
    intro q1 q2 q3 q4
    dsimp only at q1 q2 q3 q4 ⊢
    rw [Array.toList_push] at q1
    have pc : e1.toList.Perm ((keyH wd k, v) :: es.toList) := q1.trans (List.perm_append_singleton _ _)
    have pk : (e1.toList.map kOf).Perm (k :: es.toList.map kOf) := by
      have := pc.map kOf
      rwa [List.map_cons, kOf_is hk] at this
    have gd1 : ∀ e ∈ e1.toList, GdK wd e := fun e he => (List.mem_cons.mp (pc.mem_iff.mp he)).elim (fun z => by
      subst z
      refine ⟨?_, ?_⟩
      · rw [kOf_is hk]; exact hk
      · rw [kOf_is hk]) (gd e)
    have nd1 : (e1.toList.map kOf).Nodup := pk.nodup_iff.mpr (List.nodup_cons.mpr ⟨nk, ndp⟩)
    have me1 : ∀ i, (mem i || decide (i = k)) = true ↔ i ∈ e1.toList.map kOf := fun i => by
      rw [pk.mem_iff, List.mem_cons, Bool.or_eq_true, decide_eq_true_eq, hme i, or_comm]
    have z1 : e1.size = n + 1 := by
      have := pc.length_eq
      simp at this
      omega
    have b1 : e1.size < scanBound := z1 ▸ room
    have l1 : wd.params.followText "set-order" = true ∨ t1.led = true := hle.imp id fun z => q4.trans z
    have go : ∀ hp', Heap.SameBut a sh.heap hp' → SetM wd hp' a (fun j => mem j || decide (j = k)) e1.size → Q true { sh with heap := hp' } := fun hp' sb r => by
      have q := fin hp' sb
      rw [no] at q
      rw [z1] at r
      exact q r
    have gives : ∀ (b : Bool) {s1 : Shared} {R' : Unit → Shared → Prop}, R' () s1 → wpAny (model pg wd) Ar (match b with | true => rule "set.scan.the-table-gave-way" | false => pure ()) R' Ex s1 :=
      fun b s1 R' q => by cases b with | true => exact wpAny_rule q | false => exact wpAny_pure q
    refine wpAny_bind (gives _ ?_)
    split
    · refine wpAny_bind ?_
      rw [hashByValue_scannable 8 scn]
      refine wpAny_pure (setM_tail (fun b s1 R' q => by cases b <;> first | exact wpAny_pure q | exact wpAny_rule q) hob hexs hdt gd1 nd1 me1 b1 ?_ ?_ ?_ ?_)
      · first | (split <;> first | exact q2 | exact SetTable.fits_plain_off q2) | exact q2
      · first | (split <;> exact q3) | exact q3
      · first | (split <;> exact l1) | exact l1
      · intro hp' sb r
        exact wpAny_pure (go hp' sb r)
    · refine wpAny_bind (wpAny_pure ?_)
      simp only [↓reduceIte]
      exact setM_tail (fun b s1 R' q => by cases b <;> first | exact wpAny_pure q | exact wpAny_rule q) hob hexs hdt gd1 nd1 me1 b1 q2 q3 l1 fun hp' sb r => wpAny_pure (go hp' sb r)
/-- the loop of set(..) -/
theorem setM_loop {it : Addr} {fp wr : List Addr} {G : Array GenState → Array GenState → Prop} {m : Nat} {Pv : Nat → Value → Prop} {St : Nat → Shared → Prop} {R : Result → Shared → Prop}
    (W : WalksS pg wd Ar.in1 it fp wr G m Pv St) (S : Addr) (nS : S ∉ fp) (ks : List Key) (hm : m = ks.length) (hb : ks.length + 1 < scanBound) (hval : ∀ i v, Pv i v → ∃ k, ks[i]? = some k ∧ keyIs k v = true) :
    ∀ (j i : Nat) (sh : Shared), m - i = j → i ≤ m → St i sh → (∃ c, c ≤ i ∧ SetM wd sh.heap S (fun k => inK (ks.take i) k) c) →
      (∀ s' c, Moved (S :: wr) G sh s' → c ≤ m → SetM wd s'.heap S (fun k => inK ks k) c → R (.ok (.ret .none)) s') → codeAny (model pg wd) Ar (.builtin "set.update.loop" ⟨[.ref S, .ref it], []⟩) R sh := by
  have nW : S ∉ wr := fun z => nS (W.sub _ z)
  have more : ∀ b ∈ wr, b ∈ S :: wr := fun b hb => List.mem_cons_of_mem _ hb
  intro j
  induction j with
  | zero =>
    rintro i sh hj hi hst ⟨c, hc, sm⟩ hR
    obtain rfl : i = m := by omega
    refine codeAny_builtin F.entry_set_update_loop ?_
    rw [Around.under_plainId F.plain_set_update_loop _]
    show wpAny _ Ar.in1 (pyNext (.ref it) >>= _) _ _ sh
    refine wpAny_bind (W.done sh _ _ hst fun s' mv => ?_)
    show wpAny _ Ar.in1 (PySem.ret Value.none) _ _ s'
    rw [List.take_of_length_le (by omega)] at sm
    exact wpAny_pure (hR s' c (mv.mono more) hc (sm.moved fun o e => mv.heap S o nW e))
  | succ j ih =>
    rintro i sh hj hi hst ⟨c, hc, sm⟩ hR
    have lt : i < m := by omega
    refine codeAny_builtin F.entry_set_update_loop ?_
    rw [Around.under_plainId F.plain_set_update_loop _]
    show wpAny _ Ar.in1 (pyNext (.ref it) >>= _) _ _ sh
    refine wpAny_bind (W.item i sh _ _ lt hst fun v s' hP hst' mv => ?_)
    obtain ⟨k, ek, hk⟩ := hval i v hP
    have sm' : SetM wd s'.heap S (fun k => inK (ks.take i) k) c := sm.moved fun o e => mv.heap S o nW e
    show wpAny _ Ar.in1 (holding [v] (setAdd S v) >>= _) _ _ s'
    refine wpAny_bind (wpAny_holding ?_)
    unfold setAdd
    refine wpAny_holding (wpAny_bind ((mixKind pg wd).pyHash (k := k) hk ?_))
    refine setM_put (sh := { s' with toks := s'.toks + 1 }) hk sm' (by omega) fun hp' sb sm2 => ?_
    have sm3 : SetM wd hp' S (fun z => inK (ks.take (i + 1)) z) (if inK (ks.take i) k = true then c else c + 1) := sm2.by fun z => by
      rw [List.take_add_one, ek]
      unfold inK
      rw [List.any_append]
      simp [eq_comm]
    have c3 : (if inK (ks.take i) k = true then c else c + 1) ≤ i + 1 := by split <;> omega
    refine wpAny_pure ⟨plainId_quiet F.plain_set_update_loop _, ih (i + 1) _ (by omega) lt (W.frame _ s' _ _ hst' (Nat.le_succ _) fun b hb o e => ?_) ⟨_, c3, sm3⟩ fun s2 c2 mv2 hc2 sm4 => ?_⟩
    · exact (sb.2 b fun z : b = S => nS (z ▸ hb)).trans e
    · refine hR s2 c2 (Moved.trans W.gtrans ((mv.mono more).then_heap (Nat.le_succ _) fun b o hb e => ?_) mv2) hc2 sm4
      exact (sb.2 b fun z : b = S => hb (z ▸ List.mem_cons_self)).trans e
end
abbrev newS (wd : World) : Obj := { cls := .type "set", dict := none, data := .set #[] 0 (.fresh 0 0 (!wd.params.followText "set-order")) }
theorem setM_void {wd : World} {hp : Heap} {a : Addr} {ks : List Key} (ho : hp.get? a = some (newS wd)) : SetM wd hp a (fun k => inK (ks.take 0) k) 0 := by
  refine ⟨_, #[], 0, _, ho, ⟨rfl, rfl, rfl⟩, rfl, (fun e he => by simp at he), by simp, fun k => by simp [inK], by decide, rfl, rfl, List.Pairwise.nil, ?_⟩
  cases z : wd.params.followText "set-order" with
  | true => exact .inl rfl
  | false => exact .inr rfl
section
variable {pg : Program} {wd : World} {Ar : Around} {Ex : Value → Shared → Prop} {sh : Shared}

set_option maxHeartbeats 3200000 in
theorem call_setM_tuple {l : Addr} {its : Array Value} (ks : List Key) {Q : Value → Shared → Prop} (hh : Ar.handled = none) (hl : sh.heap.IsTuple l its) (hz : its.size = ks.length) (hval : ∀ (i : Nat) (v : Value), its[i]? = some v → ∃ k, ks[i]? = some k ∧ keyIs k v = true) (hb : ks.length + 1 < scanBound)
    (h : ∀ (hp' : Heap) (tk c : Nat), SetM wd hp' sh.heap.objs.size (inK ks) c → c ≤ ks.length → (∀ b o, sh.heap.get? b = some o → hp'.get? b = some o) → Q (.ref sh.heap.objs.size) { sh with heap := hp', toks := tk }) :
    wpAny (model pg wd) Ar (call (.type "set") [.ref l]) Q Ex sh := by
  obtain ⟨c, tl, hmro⟩ := F.called_set.mro
  have hmade := F.called_set.made
  have hsub := F.called_set.sub
  have h1 := F.called_set.notType
  have h2 := F.called_set.canCreate
  have hct := F.typeCall_set_1 (.ref l)
  refine wpAny_call (codeAny_of_tree ?_)
  show wpAny _ _ (callAny (.type "set") _) _ _ _
  refine wpAny_pure ⟨Code.quiet_builtin _ (by decide +kernel), codeAny_builtin F.entry_type_call ?_⟩
  rw [Around.under_plain (weight_type_call_type "set" [.ref l] []) rfl]
  repeat (any_goals (first | assumption | wp_step))
  refine codeAny_mono (code_set_led1 (.ref l) (E := Ex) (Q₁ := fun obj s1 => obj = .ref sh.heap.objs.size ∧ s1 = { sh with heap := sh.heap.push (newS wd) }) ⟨rfl, rfl⟩) fun r s1 hr => ?_
  match r, hr with
  | .error e, hr => exact hr
  | .ok .next, hr => exact hr.elim
  | .ok .brk, hr => exact hr.elim
  | .ok .cont, hr => exact hr.elim
  | .ok (.ret obj), hr =>
    obtain ⟨rfl, rfl⟩ := hr
    have hS : (sh.heap.push (newS wd)).get? sh.heap.objs.size = some (newS wd) := Heap.get?_push_size _ rfl
    have hT : Shared.TypeIs { sh with heap := sh.heap.push (newS wd) } (.ref sh.heap.objs.size) "set" := ⟨_, hS, rfl⟩
    have hli := F.called_set.init.lookup
    have hbi := F.called_set.init.bind (.ref sh.heap.objs.size)
    repeat (any_goals (first | assumption | wp_step))
    refine codeAny_mono (codeAny_call_builtin (R := wants (fun r s2 => r = .none ∧ ∃ hp' tk c, s2 = { sh with heap := hp', toks := tk } ∧ SetM wd hp' sh.heap.objs.size (inK ks) c ∧ c ≤ ks.length ∧ ∀ b o, sh.heap.get? b = some o → hp'.get? b = some o) Ex) F.called_set.init.plain F.entry_set_init (check_set_init_1 hT ?_)) fun r2 s2 hr2 => ?_
    · obtain ⟨ol, hol, hcl, nl, hdl⟩ := hl
      obtain ⟨ocls, odict, odata, oslots⟩ := ol
      simp only at hcl hdl
      subst hcl
      subst hdl
      have hol' : (sh.heap.push (newS wd)).get? l = some { cls := .type "tuple", dict := odict, data := .seq its nl, slots := oslots } := Heap.get?_push_of_some _ hol
      have hsls := F.sub_tuple_set
      have hslf := F.sub_tuple_frozenset
      have hne : (Value.type "tuple" == Value.type "dict") = false := by decide
      have hl1 : (sh.heap.push (newS wd)).IsTuple l its := ⟨_, hol', rfl, nl, rfl⟩
      unfold Builtin.«set.__init__» noKeywords Builtin.Frozenset.updateFrom
      generalize hPI : pyIter = PI
      wp_walk
      subst hPI
      refine wpAny_pyIter_tuple hl1 (wpAny_bind (wpAny_runValue ?_))
      have low : l < sh.heap.objs.size := Heap.lt_size hol
      have hh3 : Ar.in1.in1.in1.handled = none := by simp [hh]
      have hz1 : (sh.heap.push (newS wd)).objs.size = sh.heap.objs.size + 1 := Heap.size_push ..
      have nI : l ≠ (sh.heap.push (newS wd)).objs.size := by rw [hz1]; exact Nat.ne_of_lt (Nat.lt_succ_of_lt low)
      have nS : sh.heap.objs.size ∉ [(sh.heap.push (newS wd)).objs.size, l] := by
        simp only [List.mem_cons, List.not_mem_nil, or_false, not_or]
        exact ⟨by rw [hz1]; exact Nat.ne_of_lt (Nat.lt_succ_self _), Nat.ne_of_gt low⟩
      refine setM_loop ((Walks.tuple hh3 _ l nI its).toS) sh.heap.objs.size nS ks hz hb hval (its.size - 0) 0 _ (by omega) (Nat.zero_le _) ⟨⟨_, Heap.get?_push_size _ rfl, rfl, rfl⟩, (hl1.push _)⟩ ?first ?last
      case first => exact ⟨0, Nat.le_refl 0, setM_void (Heap.get?_push_of_some _ hS)⟩
      case last =>
        intro s3 c3 mv hc3 sm
        obtain ⟨hp', g2, d2, tk2, os2⟩ := s3
        have eg : g2 = sh.gens := mv.gens
        have ed : d2 = sh.drawn := mv.drawn
        have eo : os2 = sh.os := mv.os
        subst eg
        subst ed
        subst eo
        show wpAny _ _ _ _ _ _
        refine wpAny_pure ?_
        show wpAny _ _ (PySem.ret Value.none) _ _ _
        refine wpAny_pure ⟨rfl, hp', tk2, c3, rfl, sm, by omega, fun b o e => ?_⟩
        have lb : b < sh.heap.objs.size := Heap.lt_size e
        refine mv.heap b o (fun z => ?_) (Heap.get?_push_of_some _ (Heap.get?_push_of_some _ e))
        simp only [List.mem_cons, List.not_mem_nil, or_false] at z
        exact z.elim (Nat.ne_of_lt lb) fun z => Nat.ne_of_lt (Nat.lt_succ_of_lt lb) (z.trans hz1)
    · match r2, hr2 with
      | .error e, hr2 => exact hr2
      | .ok .next, hr2 => exact hr2.elim
      | .ok .brk, hr2 => exact hr2.elim
      | .ok .cont, hr2 => exact hr2.elim
      | .ok (.ret r), hr2 =>
        obtain ⟨rfl, hp', tk, c2, rfl, sm, hc2, hk2⟩ := hr2
        repeat (any_goals (first | assumption | wp_step))
        exact h _ _ _ sm hc2 hk2

set_option maxHeartbeats 3200000 in
theorem call_setM_list {l : Addr} {its : Array Value} (ks : List Key) {Q : Value → Shared → Prop} (hh : Ar.handled = none) (hl : sh.heap.IsList l its) (hz : its.size = ks.length) (hval : ∀ (i : Nat) (v : Value), its[i]? = some v → ∃ k, ks[i]? = some k ∧ keyIs k v = true) (hb : ks.length + 1 < scanBound)
    (h : ∀ (hp' : Heap) (tk c : Nat), SetM wd hp' sh.heap.objs.size (inK ks) c → c ≤ ks.length → (∀ b o, sh.heap.get? b = some o → hp'.get? b = some o) → Q (.ref sh.heap.objs.size) { sh with heap := hp', toks := tk }) :
    wpAny (model pg wd) Ar (call (.type "set") [.ref l]) Q Ex sh := by
  obtain ⟨c, tl, hmro⟩ := F.called_set.mro
  have hmade := F.called_set.made
  have hsub := F.called_set.sub
  have h1 := F.called_set.notType
  have h2 := F.called_set.canCreate
  have hct := F.typeCall_set_1 (.ref l)
  refine wpAny_call (codeAny_of_tree ?_)
  show wpAny _ _ (callAny (.type "set") _) _ _ _
  refine wpAny_pure ⟨Code.quiet_builtin _ (by decide +kernel), codeAny_builtin F.entry_type_call ?_⟩
  rw [Around.under_plain (weight_type_call_type "set" [.ref l] []) rfl]
  repeat (any_goals (first | assumption | wp_step))
  refine codeAny_mono (code_set_led1 (.ref l) (E := Ex) (Q₁ := fun obj s1 => obj = .ref sh.heap.objs.size ∧ s1 = { sh with heap := sh.heap.push (newS wd) }) ⟨rfl, rfl⟩) fun r s1 hr => ?_
  match r, hr with
  | .error e, hr => exact hr
  | .ok .next, hr => exact hr.elim
  | .ok .brk, hr => exact hr.elim
  | .ok .cont, hr => exact hr.elim
  | .ok (.ret obj), hr =>
    obtain ⟨rfl, rfl⟩ := hr
    have hS : (sh.heap.push (newS wd)).get? sh.heap.objs.size = some (newS wd) := Heap.get?_push_size _ rfl
    have hT : Shared.TypeIs { sh with heap := sh.heap.push (newS wd) } (.ref sh.heap.objs.size) "set" := ⟨_, hS, rfl⟩
    have hli := F.called_set.init.lookup
    have hbi := F.called_set.init.bind (.ref sh.heap.objs.size)
    repeat (any_goals (first | assumption | wp_step))
    refine codeAny_mono (codeAny_call_builtin (R := wants (fun r s2 => r = .none ∧ ∃ hp' tk c, s2 = { sh with heap := hp', toks := tk } ∧ SetM wd hp' sh.heap.objs.size (inK ks) c ∧ c ≤ ks.length ∧ ∀ b o, sh.heap.get? b = some o → hp'.get? b = some o) Ex) F.called_set.init.plain F.entry_set_init (check_set_init_1 hT ?_)) fun r2 s2 hr2 => ?_
    · obtain ⟨ol, hol, hcl, nl, hdl⟩ := hl
      obtain ⟨ocls, odict, odata, oslots⟩ := ol
      simp only at hcl hdl
      subst hcl
      subst hdl
      have hol' : (sh.heap.push (newS wd)).get? l = some { cls := .type "list", dict := odict, data := .seq its nl, slots := oslots } := Heap.get?_push_of_some _ hol
      have hsls := F.sub_list_set
      have hslf := F.sub_list_frozenset
      have hne : (Value.type "list" == Value.type "dict") = false := by decide
      have hl1 : (sh.heap.push (newS wd)).IsList l its := ⟨_, hol', rfl, nl, rfl⟩
      unfold Builtin.«set.__init__» noKeywords Builtin.Frozenset.updateFrom
      generalize hPI : pyIter = PI
      wp_walk
      subst hPI
      refine wpAny_pyIter_list hl1 (wpAny_bind (wpAny_runValue ?_))
      have low : l < sh.heap.objs.size := Heap.lt_size hol
      have hh3 : Ar.in1.in1.in1.handled = none := by simp [hh]
      have hz1 : (sh.heap.push (newS wd)).objs.size = sh.heap.objs.size + 1 := Heap.size_push ..
      have nI : l ≠ (sh.heap.push (newS wd)).objs.size := by rw [hz1]; exact Nat.ne_of_lt (Nat.lt_succ_of_lt low)
      have nS : sh.heap.objs.size ∉ [(sh.heap.push (newS wd)).objs.size, l] := by
        simp only [List.mem_cons, List.not_mem_nil, or_false, not_or]
        exact ⟨by rw [hz1]; exact Nat.ne_of_lt (Nat.lt_succ_self _), Nat.ne_of_gt low⟩
      refine setM_loop ((Walks.list hh3 _ l nI its).toS) sh.heap.objs.size nS ks hz hb hval (its.size - 0) 0 _ (by omega) (Nat.zero_le _) ⟨⟨_, Heap.get?_push_size _ rfl, rfl, rfl⟩, (hl1.push _)⟩ ?first ?last
      case first => exact ⟨0, Nat.le_refl 0, setM_void (Heap.get?_push_of_some _ hS)⟩
      case last =>
        intro s3 c3 mv hc3 sm
        obtain ⟨hp', g2, d2, tk2, os2⟩ := s3
        have eg : g2 = sh.gens := mv.gens
        have ed : d2 = sh.drawn := mv.drawn
        have eo : os2 = sh.os := mv.os
        subst eg
        subst ed
        subst eo
        show wpAny _ _ _ _ _ _
        refine wpAny_pure ?_
        show wpAny _ _ (PySem.ret Value.none) _ _ _
        refine wpAny_pure ⟨rfl, hp', tk2, c3, rfl, sm, by omega, fun b o e => ?_⟩
        have lb : b < sh.heap.objs.size := Heap.lt_size e
        refine mv.heap b o (fun z => ?_) (Heap.get?_push_of_some _ (Heap.get?_push_of_some _ e))
        simp only [List.mem_cons, List.not_mem_nil, or_false] at z
        exact z.elim (Nat.ne_of_lt lb) fun z => Nat.ne_of_lt (Nat.lt_succ_of_lt lb) (z.trans hz1)
    · match r2, hr2 with
      | .error e, hr2 => exact hr2
      | .ok .next, hr2 => exact hr2.elim
      | .ok .brk, hr2 => exact hr2.elim
      | .ok .cont, hr2 => exact hr2.elim
      | .ok (.ret r), hr2 =>
        obtain ⟨rfl, hp', tk, c2, rfl, sm, hc2, hk2⟩ := hr2
        repeat (any_goals (first | assumption | wp_step))
        exact h _ _ _ sm hc2 hk2
end
end VL

set_option Elab.async false
set_option linter.all false
set_option maxRecDepth 100000
/-! The value layer: sorted(set(..)), len(set(..)). -/
namespace VL
open PySem PySem.Spec PyProof.Rows L2 TB

/-- each once, the last of like ones -/
def ddup {α : Type} [DecidableEq α] : List α → List α
  | [] => []
  | x :: r => if (r.any fun z => decide (z = x)) = true then ddup r else x :: ddup r
theorem ddup_any {α : Type} [DecidableEq α] {x : α} {r : List α} : (r.any fun z => decide (z = x)) = true ↔ x ∈ r := by
  rw [List.any_eq_true]
  exact ⟨fun ⟨z, h, e⟩ => by rw [← of_decide_eq_true e]; exact h, fun h => ⟨x, h, decide_eq_true rfl⟩⟩
theorem mem_ddup {α : Type} [DecidableEq α] {y : α} : ∀ {l : List α}, y ∈ ddup l ↔ y ∈ l
  | [] => Iff.rfl
  | x :: r => by
    rw [ddup]
    split
    · rename_i h
      rw [mem_ddup, List.mem_cons]
      exact ⟨.inr, fun z => z.elim (fun e => by rw [e]; exact ddup_any.mp h) id⟩
    · rw [List.mem_cons, List.mem_cons, mem_ddup]
theorem nodup_ddup {α : Type} [DecidableEq α] : ∀ l : List α, (ddup l).Nodup
  | [] => List.Pairwise.nil
  | x :: r => by
    rw [ddup]
    split
    · exact nodup_ddup r
    · rename_i h
      exact List.nodup_cons.mpr ⟨fun z => h (ddup_any.mpr (mem_ddup.mp z)), nodup_ddup r⟩
theorem ddup_len {α : Type} [DecidableEq α] : ∀ l : List α, (ddup l).length ≤ l.length
  | [] => Nat.le_refl _
  | x :: r => by
    rw [ddup]
    have := ddup_len r
    split
    · exact Nat.le_succ_of_le this
    · exact Nat.succ_le_succ this
theorem perm_of_mem {α : Type} : ∀ {l m : List α}, l.Nodup → m.Nodup → (∀ x, x ∈ l ↔ x ∈ m) → l.Perm m
  | [], m, _, _, h => by
    cases m with
    | nil => exact .refl _
    | cons x r => exact absurd ((h x).mpr List.mem_cons_self) (fun z => nomatch z)
  | x :: l, m, h1, h2, h => by
    obtain ⟨s, t, rfl⟩ := List.append_of_mem ((h x).mp List.mem_cons_self)
    have p := List.perm_middle (a := x) (l₁ := s) (l₂ := t)
    have n2 := p.nodup_iff.mp h2
    obtain ⟨n3, n4⟩ := List.nodup_cons.mp n2
    obtain ⟨n5, n6⟩ := List.nodup_cons.mp h1
    refine ((perm_of_mem n6 n4 fun y => ?_).cons x).trans p.symm
    have hy := h y
    rw [p.mem_iff, List.mem_cons, List.mem_cons] at hy
    by_cases e : y = x
    · subst e
      exact ⟨fun z => absurd z n5, fun z => absurd z n3⟩
    · exact ⟨fun z => (hy.mp (.inr z)).elim (fun w => absurd w e) id, fun z => (hy.mpr (.inr z)).elim (fun w => absurd w e) id⟩
theorem sortI_set {ns ms : List Int} (h1 : ms.Nodup) (h2 : ∀ k, k ∈ ms ↔ k ∈ ns) (h3 : ms.Pairwise (· ≤ ·)) : ms = sortI (ddup ns) := sortI_eq (perm_of_mem h1 (nodup_ddup ns) fun k => (h2 k).trans mem_ddup.symm) h3
theorem sortS_set {ns ms : List Str} (h1 : ms.Nodup) (h2 : ∀ k, k ∈ ms ↔ k ∈ ns) (h3 : sortedS ms = true) : ms = sortS (ddup ns) := sortS_eq (perm_of_mem h1 (nodup_ddup ns) fun k => (h2 k).trans mem_ddup.symm) h3

theorem strs_from : ∀ (l : List Value), (∀ v ∈ l, ∃ x tk, v = Value.str x tk) → ∃ xs : List Str, StrsAre l xs ∧ l.map (fun v => kOf (0, v)) = xs.map Sum.inr
  | [], _ => ⟨[], .nil, rfl⟩
  | v :: l, h => by
    obtain ⟨x, tk, rfl⟩ := h v List.mem_cons_self
    obtain ⟨xs, h1, h2⟩ := strs_from l fun u hu => h u (List.mem_cons_of_mem _ hu)
    exact ⟨x :: xs, .cons x tk h1, by rw [List.map_cons, List.map_cons, h2]; rfl⟩
theorem ints_from : ∀ (l : List Value), (∀ v ∈ l, ∃ x tk, v = Value.int x tk) → ∃ xs : List Int, IntsAre l xs ∧ l.map (fun v => kOf (0, v)) = xs.map Sum.inl
  | [], _ => ⟨[], .nil, rfl⟩
  | v :: l, h => by
    obtain ⟨x, tk, rfl⟩ := h v List.mem_cons_self
    obtain ⟨xs, h1, h2⟩ := ints_from l fun u hu => h u (List.mem_cons_of_mem _ hu)
    exact ⟨x :: xs, .cons x tk h1, by rw [List.map_cons, List.map_cons, h2]; rfl⟩
section
variable {pg : Program} {wd : World} {Ar : Around} {Ex : Value → Shared → Prop} {sh : Shared} {a : Addr} {mem : Key → Bool} {n : Nat}
/-- sorted(the set), by a sort of the list of its members -/
theorem sorted_setM {Q : Value → Shared → Prop} {outOk : Array Value → Prop} (m : SetM wd sh.heap a mem n) (hh : Ar.handled = none)
    (sort : ∀ (vs : List Value) (s1 : Shared) (ks : List Key), s1.heap.get? (s1.heap.objs.size - 1) = some (seqObj "list" vs.toArray 0) → 1 ≤ s1.heap.objs.size → vs.map (fun v => kOf (0, v)) = ks → (∀ v ∈ vs, ∃ k, keyIs k v = true) → ks.Nodup → (∀ k, k ∈ ks ↔ mem k = true) → vs.length = n →
      ∀ P : PySem.Fin → Shared → Prop, (∀ out, outOk out → P (.done (.ret .none)) { s1 with heap := sortedHeap s1.heap (s1.heap.objs.size - 1) vs out }) → wpAny (model pg wd) Ar.in1.in1 (Builtin.«list.sort» ⟨[.ref (s1.heap.objs.size - 1)], []⟩) P Ex s1)
    (fin : ∀ s' p (out : Array Value) (c : Nat), (∀ b o, sh.heap.get? b = some o → s'.heap.get? b = some o) → s'.gens = sh.gens → s'.os = sh.os → sh.heap.objs.size ≤ p → s'.heap.get? p = some (seqObj "list" out c) → outOk out → Q (.ref p) s') :
    wpAny (model pg wd) Ar (call (.builtin "sorted") [.ref a]) Q Ex sh := by
  obtain ⟨ob, es, ep, tb, hob, hexs, hdt, gd, ndp, hme, hbd, hfi, hn, hri, hle⟩ := m
  refine Calls.call_function_entry kind_sorted plain_sorted entry_sorted (args_sorted1 _) ?_
  unfold Builtin.«sorted»
  refine wpAny_bind (m := checkCount "sorted" 1 1 _) (wpAny_pure (wpAny_bind (collect_set (A := Ar.in1) hh ⟨ob, hob, hexs.1, hdt⟩ hfi hbd hri hle fun s1 vs k1 z1 g1 o1 pm => ?_)))
  have lv : vs.length = n := by
    have := pm.length_eq
    simp at this
    omega
  have pk : (vs.map fun v => kOf (0, v)).Perm (es.toList.map kOf) := by
    have q := pm.map fun v => kOf (0, v)
    rw [List.map_map] at q
    exact q
  refine wpAny_bind (wpAny_newList ?_ (by rw [lv, ← hn]; exact fits_of_scanBound hbd))
  have at1 : (s1.heap.push (seqObj "list" vs.toArray 0)).get? s1.heap.objs.size = some (seqObj "list" vs.toArray 0) := Heap.get?_push_size _ rfl
  have sz : (s1.heap.push (seqObj "list" vs.toArray 0)).objs.size = s1.heap.objs.size + 1 := size_push' _ _
  have sz' : (s1.heap.push (seqObj "list" vs.toArray 0)).objs.size - 1 = s1.heap.objs.size := by rw [sz]; rfl
  have run := sort vs { s1 with heap := s1.heap.push (seqObj "list" vs.toArray 0) } _ (by show (s1.heap.push _).get? ((s1.heap.push _).objs.size - 1) = _; rw [sz']; exact at1) (by show 1 ≤ (s1.heap.push _).objs.size; rw [sz]; exact Nat.le_add_left _ _) rfl (fun v hv => by
    obtain ⟨e, he, q⟩ := List.mem_map.mp (pm.mem_iff.mp hv)
    exact ⟨kOf e, by rw [← q]; exact (gd e he).1⟩) (pk.nodup_iff.mpr ndp) (fun k => (pk.mem_iff).trans (hme k).symm) lv
  dsimp only at run
  rw [sz'] at run
  refine wpAny_bind (wpAny_holding (wpAny_call_entry slot_list_sort ⟨_, at1, rfl⟩ entry_list_sort (run _ fun out ho => ⟨_, rfl, ?_⟩) (args_list_sort _)))
  obtain ⟨c, hc⟩ := sortedHeap_at (vs := vs) (out := out) at1
  refine wpAny_pure ⟨_, rfl, fin _ s1.heap.objs.size out c (fun b u e => ?_) g1 o1 z1 hc ho⟩
  have q := k1 b u e
  have lt := Heap.lt_size q
  show (sortedHeap (s1.heap.push (seqObj "list" vs.toArray 0)) s1.heap.objs.size vs out).get? b = some u
  rw [sortedHeap_old (Nat.ne_of_lt lt) (by rw [sz]; exact Nat.lt_succ_of_lt lt)]
  exact Heap.get?_push_of_some _ q
end
end VL
namespace VL
open PySem PySem.Spec PyProof.Rows L2 TB
@[simp] def srtSetD (c : Bool) (x : D) (st : AS) : Out D := match seqOf st x with
  | some ds => (match intsOf ds with
    | some ns => if ns.length ≤ 1000 then mk c ((sortI (ddup ns)).map D.int) st else .bad
    | none => (match strsOf ds with
      | some xs => if xs.length ≤ 1000 then mk c ((sortS (ddup xs)).map D.str) st else .bad
      | none => .bad))
  | none => .bad
@[simp] def lenSetD (x : D) (st : AS) : Out D := match seqOf st x with
  | some ds => (match intsOf ds with
    | some ns => if ns.length ≤ 1000 then .ok (.int (ddup ns).length) st else .bad
    | none => (match strsOf ds with
      | some xs => if xs.length ≤ 1000 then .ok (.int (ddup xs).length) st else .bad
      | none => .bad))
  | none => .bad
/-- what set(..) may be of: keys -/
@[simp] def keysOfD (ds : List D) : Option (List Key) := match intsOf ds with
  | some ns => some (ns.map Sum.inl)
  | none => (strsOf ds).map (·.map Sum.inr)
theorem vals_keys : ∀ {ks : List Key} {us : List Value}, Vals (ks.map kV) us → ∀ (i : Nat) (v : Value), us[i]? = some v → ∃ k, ks[i]? = some k ∧ keyIs k v = true
  | [], _, r, i, v, e => by
    cases r
    simp at e
  | k :: ks, _, r, i, v, e => by
    cases r with
    | cons r1 r2 =>
      cases i with
      | zero =>
        simp at e
        subst e
        refine ⟨k, rfl, ?_⟩
        cases k with
        | inl j => obtain ⟨t, rfl⟩ := r1; exact keyIs_int j t
        | inr x => obtain ⟨t, rfl⟩ := r1; exact keyIs_str x t
      | succ i =>
        obtain ⟨k', h1, h2⟩ := vals_keys r2 i v (by simpa using e)
        exact ⟨k', by simpa using h1, h2⟩
theorem keys_vals {K : PySem.W.Frag} {H : Hp} {β : Bt} {ds : List D} {us : List V} {ks : List Key} (r : Reps K H β ds us) (h : keysOfD ds = some ks) : us = ks.map kV := by
  unfold keysOfD at h
  split at h
  · rename_i ns en
    cases h
    have z := intsOf_eq en
    subst z
    rw [r.ints, List.map_map]
    rfl
  · cases es : strsOf ds with
    | none => rw [es] at h; cases h
    | some xs =>
      rw [es] at h
      cases h
      rw [r.strs es, List.map_map]
      rfl
section
variable {X : Cx} {E : XK} {a : Expr} {fa : FE} {p p2 q pos : Pos}
/-- set(x) and what is asked of it -/
theorem set_then {id : String} {pins : List (Addr × Obj)} {σ : L2.St} {H : Hp} {s : Shared} {Q : Value → Shared → Prop} {c : Expr} {T : Value → Shared → Prop} {x : Str} (hc : X.calm = true) (hg : Gl X x) (hm : X.mg x = none) (hbt : bootBuiltins x = some (.builtin id)) (hg2 : Gl X "set") (hm2 : X.mg "set" = none) (na : starEach [a] X.env = (false, eval a X.env) :: starEach [] X.env) (hn : x ≠ "__name__") (hdb : (x == ("__debug__" : Str)) = false)
    (I : Inv X pins σ H s) (run : wpAny (model X.prog X.w) X.A (eval a X.env) (fun v s1 => ∃ l H1 ks, v = .ref l ∧ Inv X pins σ H1 s1 ∧ (SqL X.K H1 l (ks.map kV) ∨ SqT X.K H1 l (ks.map kV)) ∧ ks.length ≤ 1000 ∧
      ∀ (hp' : Heap) (tk c : Nat), SetM X.w hp' s1.heap.objs.size (inK ks) c → c ≤ ks.length → (∀ b o, s1.heap.get? b = some o → hp'.get? b = some o) → wpAny (model X.prog X.w) X.A (call (.builtin id) [.ref s1.heap.objs.size]) Q X.xe { s1 with heap := hp', toks := tk }) X.xe s) :
    wpAny (model X.prog X.w) X.A (eval (.Call (.Name x p) [.Call (.Name "set" p2) [a] [] q] [] pos) X.env) Q X.xe s := by
  refine Call_ (ld_blt I hg hm hbt ?_ hn hdb)
  refine PyProof.Rows.callWith_builtin1 (PyProof.Rows.args_cons ?_ rfl) rfl rfl
  refine Call_ (ld_blt I hg2 hm2 PyProof.Rows.boot_set ?_)
  refine PyProof.Rows.callWith_type1 (PyProof.Rows.args_cons (thn run fun v s1 z => PyProof.Rows.args_nil ?_) na) na rfl
  obtain ⟨l, H1, ks, rfl, I1, hq, h1, fin⟩ := z
  have hb : ks.length + 1 < scanBound := Nat.lt_of_le_of_lt (Nat.succ_le_succ h1) (by decide)
  rcases hq with hq | hq
  · obtain ⟨its, r, pl, hz⟩ := I1.list hq
    have hl : its.toArray.size = ks.length := by rw [List.size_toArray, ← r.length, List.length_map]
    refine call_setM_list ks (I1.ok.hd hc) pl.isList hl (fun i v e => vals_keys r i v (by simpa using e)) hb fun hp' tk c sm hk k => ?_
    exact PyProof.Rows.args_nil (fin hp' tk c sm hk k)
  · obtain ⟨its, r, pl, hz⟩ := I1.tuple hq
    have hl : its.toArray.size = ks.length := by rw [List.size_toArray, ← r.length, List.length_map]
    refine call_setM_tuple ks (I1.ok.hd hc) pl hl (fun i v e => vals_keys r i v (by simpa using e)) hb fun hp' tk c sm hk k => ?_
    exact PyProof.Rows.args_nil (fin hp' tk c sm hk k)
theorem use_keys {K : PySem.W.Frag} {mg : MG} {β : Bt} {H : Hp} {st : AS} {d : D} {u : V} {ds : List D} {ks : List Key} (S : Sim K mg β st H) (r : Rep K H β d u) (h : seqOf st d = some ds) (hk : keysOfD ds = some ks) : ∃ l, u = .ref l ∧ (SqL K H l (ks.map kV) ∨ SqT K H l (ks.map kV)) := by
  obtain ⟨l, us, rfl, hq, rs⟩ := S.seqs r h
  rw [keys_vals rs hk] at hq
  exact ⟨l, rfl, hq⟩
theorem inl_of {ks : List Key} {xs : List Int} {vs : List Value} (h : vs.map (fun v => kOf (0, v)) = ks) (he : ∀ v ∈ vs, ∃ k, keyIs k v = true) (hm : ∀ k ∈ ks, k ∈ xs.map Sum.inl) : ∀ v ∈ vs, ∃ x tk, v = Value.int x tk := fun v hv => by
  obtain ⟨k, hk⟩ := he v hv
  have e : kOf (0, v) ∈ ks := by rw [← h]; exact List.mem_map_of_mem hv
  obtain ⟨x, _, ex⟩ := List.mem_map.mp (hm _ e)
  rw [kOf_is hk] at ex
  subst ex
  rcases keyIs_shape hk with ⟨i, t, _, rfl⟩ | ⟨y, t, z, _⟩
  · exact ⟨i, t, rfl⟩
  · cases z
theorem inr_of {ks : List Key} {xs : List Str} {vs : List Value} (h : vs.map (fun v => kOf (0, v)) = ks) (he : ∀ v ∈ vs, ∃ k, keyIs k v = true) (hm : ∀ k ∈ ks, k ∈ xs.map Sum.inr) : ∀ v ∈ vs, ∃ x tk, v = Value.str x tk := fun v hv => by
  obtain ⟨k, hk⟩ := he v hv
  have e : kOf (0, v) ∈ ks := by rw [← h]; exact List.mem_map_of_mem hv
  obtain ⟨x, _, ex⟩ := List.mem_map.mp (hm _ e)
  rw [kOf_is hk] at ex
  subst ex
  rcases keyIs_shape hk with ⟨i, t, z, _⟩ | ⟨y, t, _, rfl⟩
  · cases z
  · exact ⟨y, t, rfl⟩
theorem Inv.grown {pins : List (Addr × Obj)} {σ : L2.St} {H : Hp} {s s' : Shared} {p : Addr} {xs : List V} {out : Array Value} {c : Nat} (I : Inv X pins σ H s) (k : ∀ b o, s.heap.get? b = some o → s'.heap.get? b = some o) (g : s'.gens = s.gens) (o : s'.os = s.os) (hp : s.heap.objs.size ≤ p) (hg : s'.heap.get? p = some (seqObj "list" out c)) (hl : xs.length ≤ sizeLine) (r : Vals xs out.toList) :
    H p = none ∧ Inv X pins σ (upd H p (.lst xs)) s' := by
  have hn : H p = none := I.hok.fresh hp
  refine ⟨hn, ?_⟩
  have J : Inv X pins σ (upd H p (.lst xs)) { s with heap := s'.heap, gens := s'.gens, drawn := s'.drawn, toks := s'.toks } := I.call (ch := []) (Un.laid k hp hn) (I.hok.laid k hp ⟨hl, out.toList, c, r, hg⟩) (by rw [g]; exact I.bare) (fun _ z => nomatch z)
  have e : s' = { s with heap := s'.heap, gens := s'.gens, drawn := s'.drawn, toks := s'.toks } := by
    obtain ⟨_, _, _, _, _⟩ := s'
    obtain ⟨_, _, _, _, _⟩ := s
    cases o
    rfl
  rw [e]
  exact J
theorem ve_sortedSet (k : Bool) (hc : X.calm = true) (hg : Gl X "sorted") (hm : X.mg "sorted" = none) (hg2 : Gl X "set") (hm2 : X.mg "set" = none) (ha : VE X E a fa) (na : starEach [a] X.env = (false, eval a X.env) :: starEach [] X.env := by rfl) :
    VE X E (.Call (.Name "sorted" p) [.Call (.Name "set" p2) [a] [] q] [] pos) (v1 (srtSetD k) fa) := by
  refine ⟨fun pins s σ H Q I h => ?_⟩
  refine set_then (id := "sorted") (c := a) (T := fun _ _ => True) hc hg hm boot_sorted hg2 hm2 na (by decide) (by decide) I ?_
  obtain ⟨β, env, st, hE, hS, h⟩ := h
  have h2 : tV X.K X.mgw E fa σ H fun u H1 => ∃ d st1 β1, Ext β H β1 H1 ∧ Sim X.K X.mgw β1 st1 H1 ∧ Rep X.K H1 β1 d u ∧ Post X.K X.mgw (rD X.K) E β1 H1 Q (srtSetD k d st1) := tG_bind hE hS h fun d st1 β1 H1 u x1 s1 e1 r1 h1 => ⟨d, st1, β1, x1, s1, r1, h1⟩
  refine thn (ha.run pins s σ H _ I h2) fun v s1 ⟨u, H1, I1, rv, d, st1, β1, x1, S1, r1, h1⟩ => ?_
  unfold srtSetD at h1
  split at h1
  · rename_i ds ed
    split at h1
    · rename_i ns en
      obtain ⟨hl, h1⟩ := h1.ite
      have hk : keysOfD ds = some (ns.map Sum.inl) := by unfold keysOfD; rw [en]
      obtain ⟨l, rfl, hq⟩ := use_keys S1 r1 ed hk
      cases rv
      refine ⟨l, H1, _, rfl, I1, hq, by rw [List.length_map]; exact hl, fun hp' tk c sm hcl kp => ?_⟩
      have I2 : Inv X pins σ H1 { s1 with heap := hp', toks := tk } := I1.kept kp
      have mm : ∀ k, inK (ns.map Sum.inl) k = true ↔ k ∈ ns.map Sum.inl := fun k => inK_iff
      refine sorted_setM (outOk := fun out => ∃ ms, IntsAre out.toList ms ∧ ms = sortI (ddup ns)) sm (I2.ok.hd hc) (fun vs sb ks h1 h2 h3 h4 h5 h6 h7 P hP => ?_) fun s' pp out cc kk g o hpp hgt hout => ?_
      · obtain ⟨xs, hi, hx⟩ := ints_from vs (inl_of (xs := ns) h3 h4 fun k hk => (mm k).mp ((h6 k).mp hk))
        refine list_sort_treeAny h1 hi (by rw [h7]; exact Nat.le_trans hcl (Nat.le_trans (by rw [List.length_map]; exact hl) (by rw [sizeLine_eq]; decide))) fun out ms a1 a2 a3 => hP out ⟨ms, a1, sortI_set ?_ ?_ a3⟩
        · refine a2.nodup_iff.mpr ?_
          rw [← h3, hx] at h5
          exact List.Pairwise.of_map _ (fun _ _ hne e => hne (congrArg _ e)) h5
        · intro z
          rw [a2.mem_iff]
          have q1 := h6 (.inl z)
          rw [← h3, hx, mm] at q1
          simpa using q1
      · obtain ⟨ms, hi, rfl⟩ := hout
        have hz : ((sortI (ddup ns)).map V.int).length ≤ sizeLine := by
          rw [List.length_map, (sortI_perm _).length_eq]
          refine Nat.le_trans (ddup_len ns) (Nat.le_trans hl (by rw [sizeLine_eq]; decide))
        obtain ⟨hn, J⟩ := Inv.grown I2 kk g o hpp hgt hz (vals_of_ints hi)
        exact ⟨.ref pp, _, J, rfl, new_lst h1 S1 (reps_ints _) pp hn⟩
    · split at h1
      · rename_i en _ xs es
        obtain ⟨hl, h1⟩ := h1.ite
        have hk : keysOfD ds = some (xs.map Sum.inr) := by unfold keysOfD; rw [en, es]; rfl
        obtain ⟨l, rfl, hq⟩ := use_keys S1 r1 ed hk
        cases rv
        refine ⟨l, H1, _, rfl, I1, hq, by rw [List.length_map]; exact hl, fun hp' tk c sm hcl kp => ?_⟩
        have I2 : Inv X pins σ H1 { s1 with heap := hp', toks := tk } := I1.kept kp
        have mm : ∀ k, inK (xs.map Sum.inr) k = true ↔ k ∈ xs.map Sum.inr := fun k => inK_iff
        refine sorted_setM (outOk := fun out => ∃ ms, StrsAre out.toList ms ∧ ms = sortS (ddup xs)) sm (I2.ok.hd hc) (fun vs sb ks h1 h2 h3 h4 h5 h6 h7 P hP => ?_) fun s' pp out cc kk g o hpp hgt hout => ?_
        · obtain ⟨zs, hi, hx⟩ := strs_from vs (inr_of (xs := xs) h3 h4 fun k hk => (mm k).mp ((h6 k).mp hk))
          refine list_sort_treeKAny PyProof.Rows.strKind_oneLt h1 hi.keysOf (fun v1 v2 rest e => keyKind_strs (by rw [← e]; exact hi)) (by rw [h7]; exact Nat.le_trans hcl (Nat.le_trans (by rw [List.length_map]; exact hl) (by rw [sizeLine_eq]; decide))) fun st' b1 b2 => ?_
          obtain ⟨ms, a1, a2, a3⟩ := sorted_out_str hi b1 b2
          refine hP _ ⟨ms, a1, sortS_set ?_ ?_ a3⟩
          · refine a2.nodup_iff.mpr ?_
            rw [← h3, hx] at h5
            exact List.Pairwise.of_map _ (fun _ _ hne e => hne (congrArg _ e)) h5
          · intro z
            rw [a2.mem_iff]
            have q1 := h6 (.inr z)
            rw [← h3, hx, mm] at q1
            simpa using q1
        · obtain ⟨ms, hi, rfl⟩ := hout
          have hz : ((sortS (ddup xs)).map V.str).length ≤ sizeLine := by
            rw [List.length_map, (sortS_perm _).length_eq]
            refine Nat.le_trans (ddup_len xs) (Nat.le_trans hl (by rw [sizeLine_eq]; decide))
          obtain ⟨hn, J⟩ := Inv.grown I2 kk g o hpp hgt hz (vals_of_strs hi)
          exact ⟨.ref pp, _, J, rfl, new_lst h1 S1 (reps_strs _) pp hn⟩
      · exact h1.elim
  · exact h1.elim
theorem setM_many {wd : World} {hp : Heap} {b : Addr} {ks ds : List Key} {c : Nat} (sm : SetM wd hp b (inK ks) c) (nd : ds.Nodup) (h : ∀ k, k ∈ ds ↔ k ∈ ks) : c = ds.length := by
  obtain ⟨ob, es, ep, tb, hob, hexs, hdt, gd, ndp, hme, hbd, hfi, hn, hri, hle⟩ := sm
  have p : (es.toList.map kOf).Perm ds := perm_of_mem ndp nd fun k => by rw [← hme k, inK_iff, h k]
  have := p.length_eq
  simp at this
  omega
theorem ve_lenSet (hc : X.calm = true) (hg : Gl X "len") (hm : X.mg "len" = none) (hg2 : Gl X "set") (hm2 : X.mg "set" = none) (ha : VE X E a fa) (na : starEach [a] X.env = (false, eval a X.env) :: starEach [] X.env := by rfl) :
    VE X E (.Call (.Name "len" p) [.Call (.Name "set" p2) [a] [] q] [] pos) (v1 lenSetD fa) := by
  refine ⟨fun pins s σ H Q I h => ?_⟩
  refine set_then (id := "len") (c := a) (T := fun _ _ => True) hc hg hm PySem.boot_len hg2 hm2 na (by decide) (by decide) I ?_
  obtain ⟨β, env, st, hE, hS, h⟩ := h
  have h2 : tV X.K X.mgw E fa σ H fun u H1 => ∃ d st1 β1, Ext β H β1 H1 ∧ Sim X.K X.mgw β1 st1 H1 ∧ Rep X.K H1 β1 d u ∧ Post X.K X.mgw (rD X.K) E β1 H1 Q (lenSetD d st1) := tG_bind hE hS h fun d st1 β1 H1 u x1 s1 e1 r1 h1 => ⟨d, st1, β1, x1, s1, r1, h1⟩
  refine thn (ha.run pins s σ H _ I h2) fun v s1 ⟨u, H1, I1, rv, d, st1, β1, x1, S1, r1, h1⟩ => ?_
  have fin : ∀ {ks ds : List Key}, ks.length ≤ 1000 → ds.Nodup → (∀ k, k ∈ ds ↔ k ∈ ks) → Q (.int (ds.length : Nat)) H1 → ∀ (hp' : Heap) (tk c : Nat), SetM X.w hp' s1.heap.objs.size (inK ks) c → c ≤ ks.length → (∀ b o, s1.heap.get? b = some o → hp'.get? b = some o) → wpAny (model X.prog X.w) X.A (call (.builtin "len") [.ref s1.heap.objs.size]) (EP X pins σ Q) X.xe { s1 with heap := hp', toks := tk } := by
    intro ks ds hl nd hm q hp' tk c sm hcl kp
    have I2 : Inv X pins σ H1 { s1 with heap := hp', toks := tk } := I1.kept kp
    have ec := setM_many sm nd hm
    obtain ⟨ob, es, ep, tb, hob, hexs, hdt, gd, ndp, hme, hbd, hfi, hn, hri, hle⟩ := sm
    exact call_len_set hob hexs hdt hfi (by rw [hn]; omega) ⟨.int (ds.length : Nat), H1, I2.tok _, ⟨_, by rw [hn, ec]⟩, q⟩
  unfold lenSetD at h1
  split at h1
  · rename_i ds ed
    split at h1
    · rename_i ns en
      obtain ⟨hl, h1⟩ := h1.ite
      have hk : keysOfD ds = some (ns.map Sum.inl) := by unfold keysOfD; rw [en]
      obtain ⟨l, rfl, hq⟩ := use_keys S1 r1 ed hk
      cases rv
      have hl' : (ns.map (Sum.inl : Int → Key)).length ≤ 1000 := by rw [List.length_map]; exact hl
      refine ⟨l, H1, _, rfl, I1, hq, hl', fin (ds := (ddup ns).map Sum.inl) hl' ?_ ?_ ?_⟩
      · exact List.Pairwise.map _ (fun _ _ hne e => hne (Sum.inl.inj e)) (nodup_ddup ns)
      · intro k
        simp only [List.mem_map, mem_ddup]
      · rw [List.length_map]
        exact h1.here S1 (.int _)
    · split at h1
      · rename_i en _ xs es
        obtain ⟨hl, h1⟩ := h1.ite
        have hk : keysOfD ds = some (xs.map Sum.inr) := by unfold keysOfD; rw [en, es]; rfl
        obtain ⟨l, rfl, hq⟩ := use_keys S1 r1 ed hk
        cases rv
        have hl' : (xs.map (Sum.inr : Str → Key)).length ≤ 1000 := by rw [List.length_map]; exact hl
        refine ⟨l, H1, _, rfl, I1, hq, hl', fin (ds := (ddup xs).map Sum.inr) hl' ?_ ?_ ?_⟩
        · exact List.Pairwise.map _ (fun _ _ hne e => hne (Sum.inr.inj e)) (nodup_ddup xs)
        · intro k
          simp only [List.mem_map, mem_ddup]
        · rw [List.length_map]
          exact h1.here S1 (.int _)
      · exact h1.elim
  · exact h1.elim
end
end VL

set_option Elab.async false
set_option linter.all false
set_option maxRecDepth 100000
/-! The value layer: the module's dicts; calls of a def that a name holds; instances. -/
namespace VL
open PySem PySem.Spec PyProof.Rows L2 TB

/-! ### a dict of the module, with texts as keys -/
inductive Ents (K : PySem.W.Frag) : List DictEntry → List (Str × D) → Prop
  | nil : Ents K [] []
  | cons {e : DictEntry} {es : List DictEntry} {x : Str} {t : Tok} {v : V} {d : D} {ks : List (Str × D)} : e.key = .str x t → RelV v e.val → (∀ H β, Rep K H β d v) → Ents K es ks → Ents K (e :: es) ((x, d) :: ks)
@[simp] def lookS (kvs : List (Str × D)) (z : Str) : Option D := (kvs.find? fun p => decide (p.1 = z)).map (·.2)
theorem isStr_iff {x z : Str} {t : Tok} : (Value.str x t).isStr z = decide (x = z) := by
  by_cases e : x = z
  · subst e
    simp [Value.isStr]
  · simp [Value.isStr, e]
theorem Ents.find {K : PySem.W.Frag} (z : Str) : ∀ {es : List DictEntry} {ks : List (Str × D)}, Ents K es ks → es.any (·.refKey) = false ∧
    ((∃ d e v, lookS ks z = some d ∧ es.find? (·.key.isStr z) = some e ∧ RelV v e.val ∧ ∀ H β, Rep K H β d v) ∨ (lookS ks z = none ∧ es.find? (·.key.isStr z) = none))
  | _, _, .nil => ⟨rfl, .inr ⟨rfl, rfl⟩⟩
  | _, _, .cons (e := e) (x := x) (t := t) (v := v) (d := d) hk hv hr r => by
    obtain ⟨h1, h2⟩ := Ents.find z r
    refine ⟨?_, ?_⟩
    · rw [List.any_cons, h1]
      unfold DictEntry.refKey
      rw [hk]
      rfl
    · by_cases ez : x = z
      · refine .inl ⟨d, e, v, ?_, ?_, hv, hr⟩
        · simp [ez]
        · rw [List.find?_cons_of_pos (by rw [hk, isStr_iff]; exact decide_eq_true ez)]
      · have n1 : ∀ ks : List (Str × D), lookS ((x, d) :: ks) z = lookS ks z := fun ks => by simp [ez]
        have n2 : ¬ (e.key.isStr z = true) := by
          rw [hk, isStr_iff]
          simpa using ez
        rw [n1, List.find?_cons_of_neg (p := fun q : DictEntry => q.key.isStr z) n2]
        exact h2
/-- the module's name c holds a dict of these -/
structure CD (K : PySem.W.Frag) (w : World) (mg : Str → Option Value) (c : Str) (kvs : List (Str × D)) : Prop where
  ex : ∃ (d : Addr) (es : Array DictEntry) (n : Nat), mg c = some (.ref d) ∧ KDict K w d es n ∧ Ents K es.toList kvs
theorem CD.look {K : PySem.W.Frag} {w : World} {d : Addr} {es : Array DictEntry} {n : Nat} {kvs : List (Str × D)} (D : KDict K w d es n) (h : Ents K es.toList kvs) (z : Str) :
    (∃ dv u v, lookS kvs z = some dv ∧ PySem.W.nsIn K d z = some (some u) ∧ RelV v u ∧ ∀ H β, Rep K H β dv v) ∨ (lookS kvs z = none ∧ PySem.W.nsIn K d z = some none) := by
  obtain ⟨h1, h2⟩ := h.find z
  rcases h2 with ⟨dv, e, v, e1, e2, e3, e4⟩ | ⟨e1, e2⟩
  · refine .inl ⟨dv, e.val, v, e1, ?_, e3, e4⟩
    unfold PySem.W.nsIn
    rw [D.at_]
    dsimp only
    rw [e2]
  · refine .inr ⟨e1, ?_⟩
    unfold PySem.W.nsIn
    rw [D.at_]
    dsimp only
    rw [e2, h1]
    rfl
section
variable {X : Cx} {E : XK} {a b e : Expr} {fa fb : FE} {pos p : Pos} {c : Str} {kvs : List (Str × D)}
@[simp] def cixD (kvs : List (Str × D)) (y : D) (st : AS) : Out D := match y with
  | .str z => toOut (lookS kvs z) st
  | _ => .bad
@[simp] def cinD (neg : Bool) (kvs : List (Str × D)) (y : D) (st : AS) : Out D := match y with
  | .str z => .ok (.bl (xor neg (lookS kvs z).isSome)) st
  | _ => .bad
theorem ve_cix (C : CD X.K X.w X.mg c kvs) (hg : Gl X c) (hb : VE X E b fb) (hs : PlainIx b) (hd : (c == ("__debug__" : Str)) = false := by decide) : VE X E (.Subscript (.Name c p) b pos) (v1 (cixD kvs) fb) := by
  obtain ⟨d, es, n, hm, D, hE⟩ := C.ex
  refine weakE (pe_ix ix_kdict (pe_glob hg hm (show RelV (.ref d) (.ref d) from rfl) hd) hb hs) fun σ H Q ⟨β, env, st, he, hS, h⟩ => ?_
  refine tG_bind he hS h fun y st1 β1 H1 u x1 s1 e1 r1 h1 => ?_
  cases r1 with
  | str z =>
    obtain ⟨dv, ed, h1⟩ := h1.opt
    rcases CD.look D hE z with ⟨dv', u, v, q1, q2, q3, q4⟩ | ⟨q1, _⟩
    · rw [q1] at ed
      cases ed
      exact ⟨d, z, v, rfl, rfl, ⟨es, n, u, D.at_, D.lit, q2, q3⟩, h1.here s1 (q4 _ _)⟩
    · rw [q1] at ed
      cases ed
  | _ => exact h1.elim
theorem cin_use {neg : Bool} (f : Bool → Bool) (hf : ∀ b, xor neg b = f b) {d : Addr} {es : Array DictEntry} {n : Nat} (D : KDict X.K X.w d es n) (hE : Ents X.K es.toList kvs) {σ : L2.St} {H : Hp} {Q : VK} (h : tV X.K X.mgw E (v1 (cinD neg kvs) fa) σ H Q) :
    tV X.K X.mgw E fa σ H fun x H1 => ∃ (z : Str) (r : Option Value), x = .str z ∧ V.ref d = .ref d ∧ PySem.W.nsIn X.K d z = some r ∧ Q (.bl (f r.isSome)) H1 := by
  obtain ⟨β, env, st, he, hS, h⟩ := h
  refine tG_bind he hS h fun y st1 β1 H1 u x1 s1 e1 r1 h1 => ?_
  cases r1 with
  | str z =>
    have q := h1.here s1 (.bl _)
    rcases CD.look D hE z with ⟨dv', u, v, q1, q2, q3, q4⟩ | ⟨q1, q2⟩
    · rw [q1, hf] at q
      exact ⟨z, some u, rfl, rfl, q2, q⟩
    · rw [q1, hf] at q
      exact ⟨z, none, rfl, rfl, q2, q⟩
  | _ => exact h1.elim
theorem ve_cin (C : CD X.K X.w X.mg c kvs) (hg : Gl X c) (ha : VE X E a fa) (hd : (c == ("__debug__" : Str)) = false := by decide) (hm2 : behindInMarks .In (.Name c p) = false := by rfl) : VE X E (.Compare a [.In] [.Name c p] pos) (v1 (cinD false kvs) fa) := by
  obtain ⟨d, es, n, hm, D, hE⟩ := C.ex
  refine weakE (pe_cmpR (op_in_kd D) ha (pe_glob hg hm (show RelV (.ref d) (.ref d) from rfl) hd) hm2) fun σ H Q h => ?_
  exact cin_use (fun b => b) (fun b => by cases b <;> rfl) D hE h
theorem ve_cnotin (C : CD X.K X.w X.mg c kvs) (hg : Gl X c) (ha : VE X E a fa) (hd : (c == ("__debug__" : Str)) = false := by decide) (hm2 : behindInMarks .NotIn (.Name c p) = false := by rfl) : VE X E (.Compare a [.NotIn] [.Name c p] pos) (v1 (cinD true kvs) fa) := by
  obtain ⟨d, es, n, hm, D, hE⟩ := C.ex
  refine weakE (pe_cmpR (op_notIn_kd D) ha (pe_glob hg hm (show RelV (.ref d) (.ref d) from rfl) hd) hm2) fun σ H Q h => ?_
  exact cin_use (fun b => !b) (fun b => by cases b <;> rfl) D hE h
theorem vt_cin (C : CD X.K X.w X.mg c kvs) (hg : Gl X c) (ha : VE X E a fa) (hd : (c == ("__debug__" : Str)) = false := by decide) (hm2 : behindInMarks .In (.Name c p) = false := by rfl) : VT X E (.Compare a [.In] [.Name c p] pos) (vB (v1 (cinD false kvs) fa)) := by
  obtain ⟨d, es, n, hm, D, hE⟩ := C.ex
  refine weakT (pt_cmpR (op_in_kd D) ha (pe_glob hg hm (show RelV (.ref d) (.ref d) from rfl) hd) hm2) fun σ H Q ⟨β, env, st, he, hs, h⟩ => ?_
  have h' : tV X.K X.mgw E (v1 (cinD false kvs) fa) σ H fun x H' => ∃ k, x = .bl k ∧ Q k H' := tG_bind he hs h fun x st1 β1 H1 u x1 s1 e1 r1 h1 => postB s1 r1 h1
  exact cin_use (fun b => b) (fun b => by cases b <;> rfl) D hE h'
theorem vt_cnotin (C : CD X.K X.w X.mg c kvs) (hg : Gl X c) (ha : VE X E a fa) (hd : (c == ("__debug__" : Str)) = false := by decide) (hm2 : behindInMarks .NotIn (.Name c p) = false := by rfl) : VT X E (.Compare a [.NotIn] [.Name c p] pos) (vB (v1 (cinD true kvs) fa)) := by
  obtain ⟨d, es, n, hm, D, hE⟩ := C.ex
  refine weakT (pt_cmpR (op_notIn_kd D) ha (pe_glob hg hm (show RelV (.ref d) (.ref d) from rfl) hd) hm2) fun σ H Q ⟨β, env, st, he, hs, h⟩ => ?_
  have h' : tV X.K X.mgw E (v1 (cinD true kvs) fa) σ H fun x H' => ∃ k, x = .bl k ∧ Q k H' := tG_bind he hs h fun x st1 β1 H1 u x1 s1 e1 r1 h1 => postB s1 r1 h1
  exact cin_use (fun b => !b) (fun b => by cases b <;> rfl) D hE h'

/-! ### a name of the module as a value; a call of what a name holds -/
theorem ve_gl {x : Str} {f : Addr} (hg : Gl X x) (hm : X.mg x = some (.ref f)) (hk : PySem.W.nsIn X.K mainGlobals x = some (some (.ref f))) (hd : (x == ("__debug__" : Str)) = false := by decide) : VE X E (.Name x p) (vC (.cv (.gl x))) :=
  ve_c (pe_glob hg hm (show RelV (.ref f) (.ref f) from rfl) hd) fun _ _ => .cv ⟨f, rfl, hk⟩
/-- the defs that may be meant, by their names -/
inductive Tbl (X : Cx) (k n : Nat) : List (Str × (List D → AS → Out D)) → Prop
  | nil : Tbl X k n []
  | cons {x : Str} {F : List D → AS → Out D} {r : List (Str × (List D → AS → Out D))} {f : Addr} {fd : FuncData} {ps : List Str} : PySem.W.nsIn X.K mainGlobals x = some (some (.ref f)) → PySem.W.keepIn X.K (.ref f) = true →
      FnG X.prog X.w X.K X.mg X.base (L2.CX X.prog X.w) k f fd ps (spV X.K X.mgw n F) → BindV X.K fd ps n [] [] ((List.range n).map .pos) → Tbl X k n r → Tbl X k n ((x, F) :: r)
@[simp] def lookF (T : List (Str × (List D → AS → Out D))) (x : Str) : Option (List D → AS → Out D) := (T.find? fun p => decide (p.1 = x)).map (·.2)
theorem Tbl.find {k n : Nat} {x : Str} {F : List D → AS → Out D} {f : Addr} (hx : PySem.W.nsIn X.K mainGlobals x = some (some (.ref f))) : ∀ {T : List (Str × (List D → AS → Out D))}, Tbl X k n T → lookF T x = some F → ∃ fd ps, PySem.W.keepIn X.K (.ref f) = true ∧ FnG X.prog X.w X.K X.mg X.base (L2.CX X.prog X.w) k f fd ps (spV X.K X.mgw n F) ∧ BindV X.K fd ps n [] [] ((List.range n).map .pos)
  | _, .nil, h => by cases h
  | _, .cons (x := y) (F := G) hy hk hF hb r, h => by
    by_cases e : y = x
    · subst e
      simp at h
      subst h
      rw [hy] at hx
      cases hx
      exact ⟨_, _, hk, hF, hb⟩
    · refine Tbl.find hx r ?_
      simpa [e] using h
@[simp] def vCallV (i n : Nat) (T : List (Str × (List D → AS → Out D))) (fs : En → AS → Out (List D)) (env : En) (st : AS) : Out D := match env[i]? with
  | some (some (.cv (.gl x))) => (match lookF T x with
    | some F => (fs env st).bind fun xs st => if xs.length = n then F xs st else .bad
    | none => .bad)
  | _ => .bad
theorem asm_pos {α : Type} (us ds : List α) : ∀ (n m : Nat), us.length = m + n → asm us [] ds ((List.range' m n).map .pos) = us.drop m
  | 0, m, h => by
    rw [List.drop_eq_nil_of_le (by omega)]
    rfl
  | n + 1, m, h => by
    have hlt : m < us.length := by omega
    have ih := asm_pos us ds n (m + 1) (by omega)
    rw [List.range'_succ, List.map_cons, List.drop_eq_getElem_cons hlt, ← ih]
    show (match us[m]? with | some u => u :: _ | none => []) = _
    rw [List.getElem?_eq_getElem hlt]
theorem asm_all {α : Type} (us ds : List α) (n : Nat) (h : us.length = n) : asm us [] ds ((List.range n).map .pos) = us := by
  have q := asm_pos us ds n 0 (by omega)
  rw [← List.range_eq_range'] at q
  exact q
theorem ve_callV {i n k : Nat} {x : Str} {es : List Expr} {fs : En → AS → Out (List D)} {tbl : List (Str × (List D → AS → Out D))} (T : Tbl X k n tbl) (gd : X.A.guards = some []) (hr : Room k X.A) (hN : X.N[i]? = some x) (hx : Passes (L2.CX X.prog X.w) X E) (ha : VA X E (e :: es) fs)
    (hv : Vis X.env.scope x := by first | exact Or.inl rfl | exact Or.inr (Or.inl rfl) | exact Or.inr (Or.inr rfl)) (hdb : (x == ("__debug__" : Str)) = false := by decide) (hcd : (x == ("__classdict__" : Str)) = false := by decide)
    (he : starEach (e :: es) X.env = (false, eval e X.env) :: starEach es X.env := by rfl) (hpl : (backTo pos (starEach es X.env)).any (·.1) = false := by rfl) : VE X E (.Call (.Name x p) (e :: es) [] pos) (vCallV i n tbl fs) := by
  constructor
  intro pins s σ H Q I h
  obtain ⟨β, env, st, hE, hS, h⟩ := h
  unfold vCallV at h
  split at h
  · rename_i y ey
    split at h
    · rename_i F eF
      obtain ⟨u, hu, ru⟩ := hE.get i _ ey
      cases ru with
      | cv q =>
        obtain ⟨f, rfl, hf⟩ := q
        obtain ⟨fd, ps, hk, G, hb⟩ := Tbl.find hf T eF
        refine wpAny_Call_Name_kw (thn ((pe_var (pos := p) hN hv hdb hcd).run pins s σ H (fun v H1 => v = .ref f ∧ H1 = H) I ⟨.ref f, hu, rfl, rfl⟩) fun z s0 ⟨v, H0, I0, r0, q0⟩ => ?_)
        obtain ⟨rfl, rfl⟩ := q0
        cases r0
        have ht : tVA X.K X.mgw E fs σ H0 fun us H1 => us.length = n ∧ spV X.K X.mgw n F us H1 Q E := tG_bind (R' := rD X.K) hE hS h fun xs st1 β1 H1 us x1 s1 e1 r1 h1 => by
          obtain ⟨hl, h1⟩ := h1.ite
          have hl' : us.length = n := r1.length.trans hl
          exact ⟨hl', β1, xs, st1, hl', r1, s1, h1⟩
        refine PySem.W.callWith_K (h₀ := X.base) I.ok.mod.kin hk (thn (ha.run pos pins s0 σ _ _ I0 ht) fun us s1 ⟨vs, H1, I1, r, hl, q⟩ => ⟨I1.kIn, ?_⟩) he hpl
        refine run_V (zs := []) (ws := []) G gd hr hb hx I1 r .nil hl rfl ?_
        rw [asm_all vs [] n hl]
        exact q
    · exact h.elim
  · exact h.elim

/-! ### instances -/
@[simp] def memS (cs : List Str) (c : Str) : Bool := cs.any fun z => decide (z = c)
theorem memS_iff {cs : List Str} {c : Str} : memS cs c = true ↔ c ∈ cs := by
  unfold memS
  rw [List.any_eq_true]
  exact ⟨fun ⟨z, h, e⟩ => by rw [← of_decide_eq_true e]; exact h, fun h => ⟨c, h, decide_eq_true rfl⟩⟩
/-- e.f: of an instance of one of the classes cs -/
@[simp] def fldD (cs : List Str) (f : Str) (x : D) (st : AS) : Out D := match x with
  | .ref i => (match st[i]? with
    | some (.obj c fs) => if memS cs c = true then toOut (lookS fs f) st else .bad
    | _ => .bad)
  | _ => .bad
theorem look_fld {K : PySem.W.Frag} {H : Hp} {β : Bt} (f : Str) : ∀ {fs : List (Str × D)} {vs : List (Str × V)}, RepF K H β fs vs → ∀ d, lookS fs f = some d → ∃ u, vs.lookup f = some u ∧ Rep K H β d u
  | [], _, _, d, e => by cases e
  | p :: fs, [], h, d, e => absurd (congrArg List.length h.1) (by simp)
  | p :: fs, q :: vs, h, d, e => by
    obtain ⟨h1, h2⟩ := h
    simp only [List.map_cons, List.cons.injEq] at h1
    cases h2 with
    | cons r t =>
      obtain ⟨g, v⟩ := q
      by_cases ef : p.1 = f
      · simp [ef] at e
        subst e
        have ef' : g = f := h1.1.symm.trans ef
        subst ef'
        exact ⟨v, by simp [List.lookup], r⟩
      · have ef' : ¬ f = g := fun z => ef (h1.1.trans z.symm)
        obtain ⟨u, e1, e2⟩ := look_fld f (fs := fs) (vs := vs) ⟨h1.2, t⟩ d (by simpa [ef] using e)
        refine ⟨u, ?_, e2⟩
        have hb : (f == g) = false := beq_eq_false_iff_ne.mpr ef'
        simp only [List.lookup, hb]
        exact e1
/-- a class and one of its fields, as the text has them -/
def ClsF (X : Cx) (c f : Str) : Prop := ∃ Ca, X.mg c = some (.ref Ca) ∧ Cls X.K Ca ∧ NoAttr X.K Ca f
theorem ve_fld {cs : List Str} {f : Str} (hC : ∀ c ∈ cs, ClsF X c f) (ha : VE X E e fa) (hb : attributeBase e f X.env (eval e X.env) = eval e X.env := by rfl) : VE X E (.Attribute e f pos) (v1 (fldD cs f) fa) := by
  refine weakE (pe_fld ha hb) fun σ H Q ⟨β, env, st, he, hS, h⟩ => ?_
  refine tG_bind he hS h fun x st1 β1 H1 u x1 s1 e1 r1 h1 => ?_
  unfold fldD at h1
  cases r1 with
  | ref er =>
    rename_i i a
    dsimp only at h1
    split at h1
    · rename_i c fs ec
      obtain ⟨hc, h1⟩ := h1.ite
      obtain ⟨d, ed, h1⟩ := h1.opt
      obtain ⟨Ca, dx, vs, m, q, r⟩ := s1.cell i a _ er ec
      obtain ⟨Ca', m', cl, na⟩ := hC c (memS_iff.mp hc)
      rw [show X.mg c = _ from m] at m'
      cases m'
      obtain ⟨v, ev, rv⟩ := look_fld f r d ed
      exact ⟨a, Ca, dx, vs, v, rfl, q, cl, na, ev, h1.here s1 rv⟩
    · exact h1.elim
  | _ => exact h1.elim
@[simp] def putFD (f : Str) (d : D) : List (Str × D) → List (Str × D)
  | [] => [(f, d)]
  | p :: r => if p.1 = f then (p.1, d) :: r else p :: putFD f d r
theorem RepF.put {K : PySem.W.Frag} {H : Hp} {β : Bt} {f : Str} {d : D} {u : V} (rd : Rep K H β d u) : ∀ {fs : List (Str × D)} {vs : List (Str × V)}, RepF K H β fs vs → RepF K H β (putFD f d fs) (putF f u vs)
  | [], [], _ => ⟨rfl, .cons rd .nil⟩
  | [], _ :: _, h => absurd (congrArg List.length h.1) (by simp)
  | _ :: _, [], h => absurd (congrArg List.length h.1) (by simp)
  | p :: fs, (g, v) :: vs, h => by
    obtain ⟨h1, h2⟩ := h
    simp only [List.map_cons, List.cons.injEq] at h1
    cases h2 with
    | cons r t =>
      obtain ⟨i1, i2⟩ := RepF.put rd (fs := fs) (vs := vs) ⟨h1.2, t⟩
      unfold putFD putF
      by_cases e : p.1 = f
      · have e' : g = f := h1.1.symm.trans e
        rw [if_pos e, if_pos e']
        exact ⟨by simp only [List.map_cons, h1.1, h1.2], .cons rd t⟩
      · have e' : ¬ g = f := fun z => e (h1.1.trans z)
        rw [if_neg e, if_neg e']
        exact ⟨by simp only [List.map_cons, h1.1, i1], .cons r i2⟩
theorem RepF.length {K : PySem.W.Frag} {H : Hp} {β : Bt} {fs : List (Str × D)} {vs : List (Str × V)} (h : RepF K H β fs vs) : vs.length = fs.length := by
  have := congrArg List.length h.1
  simpa using this.symm
/-- o.f = e -/
@[simp] def setF (cs : List Str) (f : Str) (x y : D) (st : AS) : Out Unit := match x with
  | .ref i => (match st[i]? with
    | some (.obj c fs) => if memS cs c = true ∧ fs.length < 1000 then .ok () (st.set i (.obj c (putFD f y fs))) else .bad
    | _ => .bad)
  | _ => .bad
@[simp] def sFldV (cs : List Str) (f : Str) (fo fe : FE) (env : En) (st : AS) : Fl := (fe env st).fl fun y st => (fo env st).fl fun x st => (setF cs f x y st).fl fun _ st => .nx env st
theorem setF_ok {cs : List Str} {f : Str} {β : Bt} {H : Hp} {st : AS} {x y : D} {u v : V} {Q : Hp → Prop} (hC : ∀ c ∈ cs, ClsF X c f) (S : Sim X.K X.mgw β st H) (rx : Rep X.K H β x u) (ry : Rep X.K H β y v)
    (h : Post (ρ := Unit) X.K X.mgw (fun _ _ _ _ => True) E β H (fun _ H' => Q H') (setF cs f x y st)) : ∃ a Ca dx fs, u = .ref a ∧ H a = some (.ins Ca dx fs) ∧ Cls X.K Ca ∧ NoAttr X.K Ca f ∧ fs.length < 1000 ∧ Q (upd H a (.ins Ca dx (putF f v fs))) ∧ ∃ c ∈ cs, X.mg c = some (.ref Ca) := by
  unfold setF at h
  cases rx with
  | ref er =>
    rename_i i a
    dsimp only at h
    split at h
    · rename_i c fs ec
      obtain ⟨⟨hc, hl⟩, h⟩ := h.ite
      obtain ⟨Ca, dx, vs, m, q, r⟩ := S.cell i a _ er ec
      obtain ⟨Ca', m', cl, na⟩ := hC c (memS_iff.mp hc)
      rw [show X.mg c = _ from m] at m'
      cases m'
      refine ⟨a, Ca, dx, vs, rfl, q, cl, na, by rw [r.length]; exact hl, ?_, c, memS_iff.mp hc, m⟩
      have hm : a ∈ β.l := List.mem_of_getElem? er
      have x : Ext β H β (upd H a (.ins Ca dx (putF f v vs))) := ext_put hm q
      exact h β _ () x (S.put (o := .ins Ca dx (putF f v vs)) (c := .obj c (putFD f y fs)) er ⟨Ca, dx, _, m, upd_same, (RepF.put ry r).ext x⟩) trivial
    · exact h.elim
  | _ => exact h.elim
theorem vs_fld {cs : List Str} {f : Str} {o : Expr} {fo fe : FE} {pos' : Pos} (hC : ∀ c ∈ cs, ClsF X c f) (ho : VE X E o fo) (hv : VE X E e fe) (hs : swapsWith e (some (.Attribute o f pos')) pos.line X.env = pure false := by rfl) : VS X E (.Assign [.Attribute o f pos'] e pos) (sFldV cs f fo fe) := by
  refine weakS (ps_fld ho hv hs) fun De σ H ⟨β, env, st, he, hS, h⟩ => ?_
  refine fl_bind he hS h fun y st1 β1 H1 v x1 s1 e1 r1 h1 => ?_
  refine fl_bind e1 s1 h1 fun x st2 β2 H2 u x2 s2 e2 r2 h2 => ?_
  obtain ⟨a, Ca, dx, fs, h1, h2, h3, h4, h5, h6, _⟩ := setF_ok (E := E) (Q := fun H' => De.nx σ H') hC s2 r2 (r1.ext x2) (fl_post (R := fun _ _ _ _ => True) h2 fun _ st3 β3 H3 _ x3 s3 _ h3 => h3 β3 H3 σ (Ext.refl _ _) s3 (e2.ext x3))
  exact ⟨a, Ca, dx, fs, h1, h2, h3, h4, h5, h6⟩
/-- o.f += e, o.f -= e: ints -/
@[simp] def clsOf (cs : List Str) (f : Str) (x : D) (st : AS) : Option (Str × D) := match x with
  | .ref i => (match st[i]? with
    | some (.obj c fs) => if memS cs c = true then (lookS fs f).map fun d => (c, d) else none
    | _ => none)
  | _ => none
@[simp] def sFldAugV (cs : List Str) (f : Str) (op : Int → Int → Int) (fo fe : FE) (env : En) (st : AS) : Fl := (fo env st).fl fun x st => match clsOf cs f x st with
  | some cd => (fe env st).fl fun b st => (iiD (fun i j => .int (op i j)) cd.2 b st).fl fun y st => (setF [cd.1] f x y st).fl fun _ st => .nx env st
  | none => .bad
theorem vs_fldaug {cs : List Str} {f : Str} {o : Expr} {fo fe : FE} {tpos : Pos} {op : Operator} {g : Int → Int → Int} (hop : InOp X op fun x y H Q => ∃ i j, x = .int i ∧ y = .int j ∧ Q (.int (g i j)) H) (hC : ∀ c ∈ cs, ClsF X c f) (ho : VE X E o fo) (hv : VE X E e fe) : VS X E (.AugAssign (.Attribute o f tpos) op e pos) (sFldAugV cs f g fo fe) := by
  refine weakS (ps_fldaug ho hv hop) fun De σ H ⟨β, env, st, he, hS, h⟩ => ?_
  refine fl_bind he hS h fun x st1 β1 H1 u x1 s1 e1 r1 h1 => ?_
  cases hx : clsOf cs f x st1 with
  | none => rw [hx] at h1; exact h1.elim
  | some cd =>
    rw [hx] at h1
    unfold clsOf at hx
    cases r1 with
    | ref er =>
      rename_i i a
      dsimp only at hx
      split at hx
      · rename_i c fs ec
        split at hx
        · rename_i hc
          cases el : lookS fs f with
          | none => rw [el] at hx; cases hx
          | some d' =>
            rw [el] at hx
            cases hx
            obtain ⟨Ca, dx, vs, m, q, r⟩ := s1.cell i a _ er ec
            obtain ⟨Ca', m', cl, na⟩ := hC c (memS_iff.mp hc)
            rw [show X.mg c = _ from m] at m'
            cases m'
            obtain ⟨v, ev, rv⟩ := look_fld f r d' el
            refine ⟨a, Ca, dx, vs, v, rfl, q, cl, na, ev, ?_⟩
            refine fl_bind e1 s1 h1 fun y st3 β3 H3 w x3 s3 e3 r3 h3 => ?_
            cases rv with
            | int n1 =>
              cases r3 with
              | int n2 =>
                refine ⟨n1, n2, rfl, rfl, ?_⟩
                have h4 : PostS X.K X.mgw E β3 H3 De ((setF [c] f (.ref i) (.int (g n1 n2)) st3).fl fun _ st => .nx env st) := h3
                obtain ⟨a', Ca', dx', fs', ea, q', cl', na', hl', hQ, c', hc', m'⟩ := setF_ok (E := E) (u := .ref a) (v := .int (g n1 n2)) (Q := fun H' => De.nx σ H') (fun c' hc' => by rw [List.mem_singleton.mp hc']; exact ⟨Ca, m, cl, na⟩) s3 (.ref (x3.at er)) (.int _) (fl_post (R := fun _ _ _ _ => True) h4 fun _ st5 β5 H5 _ x5 s5 _ h5 => h5 β5 H5 σ (Ext.refl _ _) s5 (e3.ext x5))
                cases ea
                rw [List.mem_singleton.mp hc', show X.mg c = _ from m] at m'
                cases m'
                exact ⟨dx', fs', q', hl', hQ⟩
              | _ => exact h3.elim
            | _ => exact h3.elim
        · cases hx
      · cases hx
    | _ => cases hx
/-- C(e, ..): the instance, then its __init__ -/
@[simp] def vMake (c : Str) (n : Nat) (ds : List D) (ss : List Src) (F : List D → AS → Out D) (fs : En → AS → Out (List D)) (env : En) (st : AS) : Out D := (fs env st).bind fun xs st => if xs.length = n then
  (F (asm (.ref st.length :: xs) [] ds ss) (st ++ [.obj c []])).bind fun r st' => (match r with
    | .non => .ok (.ref st.length) st'
    | _ => .bad) else .bad
theorem run_makeV {k n : Nat} {C f : Addr} {fd : FuncData} {ps : List Str} {sp : Sp} {dvs : List V} {ss : List Src} {pins : List (Addr × Obj)} {σ : L2.St} {H : Hp} {s : Shared} {Q : VK} {us : List Value} {vs : List V} (M : Mk X.K C f) (G : FnG X.prog X.w X.K X.mg X.base (L2.CX X.prog X.w) k f fd ps sp) (gd : X.A.guards = some []) (hr : Room (k + 1) X.A) (hb : BindV X.K fd ps (n + 1) [] dvs ss)
    (hx : Passes (L2.CX X.prog X.w) X E) (I : Inv X pins σ H s) (r : Vals vs us) (hl : vs.length = n) (h : ∀ y dx, H y = none → H dx = none → dx ≠ y → sp (asm (.ref y :: vs) [] dvs ss) (upd (upd H dx (.own y)) y (.ins C dx [])) (fun v H2 => v = .non ∧ Q (.ref y) H2) E) :
    wpAny (model X.prog X.w) X.A (call (.ref C) us) (EP X pins σ Q) X.xe s := by
  have q := h (s.heap.objs.size + 1) s.heap.objs.size (I.hok.fresh (Nat.le_succ _)) (I.hok.fresh (Nat.le_refl _)) (Nat.ne_of_lt (Nat.lt_succ_self _))
  have J := L2.Inv.made (C := C) I
  obtain ⟨ds', rd, hb⟩ := hb _ (Value.ref (s.heap.objs.size + 1) :: us) [] J.kIn (by rw [List.length_cons, ← r.length, hl]) rfl
  have rr : Vals (asm (V.ref (s.heap.objs.size + 1) :: vs) [] dvs ss) (asm (Value.ref (s.heap.objs.size + 1) :: us) [] ds' ss) := Vals.asm (.cons (show RelV (.ref _) (.ref _) from rfl) r) .nil rd ss
  refine wpAny_call (make_map (f := f) I.kIn M.makes M.init (beq_iff_eq.mp M.fn) (codeAny_mono (G.run _ ?_ (hr.make C us []) X.stack _ _ (J.env0.make C us []) ⟨Value.ref (s.heap.objs.size + 1) :: us, []⟩ _ _ hb rr _ E q) fun res s' hq => ?_))
  · have eg : ∀ c : Code, (X.A.under c).guards = PySem.pushGuards c.guards X.A.guards := fun _ => rfl
    rw [eg, gd]
    rfl
  · match res, hq with
    | .error ex, hq => exact hx pins σ _ _ ex s' J hq
    | .ok .next, hq => exact hq.elim
    | .ok .brk, hq => exact hq.elim
    | .ok .cont, hq => exact hq.elim
    | .ok (.ret u), hq =>
      obtain ⟨v, H', J2, rv, rfl, q3⟩ := J.after hq
      exact ⟨rv, ⟨V.ref (s.heap.objs.size + 1), H', J2, rfl, q3⟩⟩
theorem ve_make {k n N : Nat} {C f : Addr} {fd : FuncData} {ps : List Str} {F : List D → AS → Out D} {dvs : List V} {ds : List D} {ss : List Src} {x : Str} {es : List Expr} {fs : En → AS → Out (List D)} (M : Mk X.K C f) (G : FnG X.prog X.w X.K X.mg X.base (L2.CX X.prog X.w) k f fd ps (spV X.K X.mgw N F)) (gd : X.A.guards = some []) (hr : Room (k + 1) X.A) (hg : Gl X x) (hm : X.mg x = some (.ref C))
    (hb : BindV X.K fd ps (n + 1) [] dvs ss) (hN : ∀ us ws : List V, us.length = n + 1 → ws.length = 0 → (asm us ws dvs ss).length = N) (hd : ∀ H β, Reps X.K H β ds dvs) (hx : Passes (L2.CX X.prog X.w) X E) (ha : VA X E (e :: es) fs)
    (he : starEach (e :: es) X.env = (false, eval e X.env) :: starEach es X.env := by rfl) (hdb : (x == ("__debug__" : Str)) = false := by decide) (hpl : (backTo pos (starEach es X.env)).any (·.1) = false := by rfl) :
    VE X E (.Call (.Name x p) (e :: es) [] pos) (vMake x n ds ss F fs) := by
  constructor
  intro pins s σ H Q I h
  obtain ⟨β, env, st, hE, hS, h⟩ := h
  have ht : tVA X.K X.mgw E fs σ H fun vs H1 => vs.length = n ∧ ∀ y dx, H1 y = none → H1 dx = none → dx ≠ y → spV X.K X.mgw N F (asm (.ref y :: vs) [] dvs ss) (upd (upd H1 dx (.own y)) y (.ins C dx [])) (fun v H2 => v = .non ∧ Q (.ref y) H2) E := by
    refine tG_bind (R' := rD X.K) hE hS h fun xs st1 β1 H1 us x1 s1 e1 r1 h1 => ?_
    obtain ⟨hl, h1⟩ := h1.ite
    have hl' : us.length = n := r1.length.trans hl
    refine ⟨hl', fun y dx ny ndx ne => ?_⟩
    have sm : Same H1 (upd H1 dx (.own y)) := same_upd ndx
    have ny' : (upd H1 dx (.own y)) y = none := (upd_ne (Ne.symm ne)).trans ny
    have xx : Ext β1 H1 (β1.push y) (upd (upd H1 dx (.own y)) y (.ins C dx [])) := (Ext.same sm).trans (ext_push ny')
    have S2 : Sim X.K X.mgw (β1.push y) (st1 ++ [.obj x []]) (upd (upd H1 dx (.own y)) y (.ins C dx [])) := (s1.same sm).push ny' ⟨C, dx, [], hm, upd_same, rfl, .nil⟩
    have rself : Rep X.K (upd (upd H1 dx (.own y)) y (.ins C dx [])) (β1.push y) (.ref st1.length) (.ref y) := .ref (by rw [← s1.len]; simp [Bt.push])
    refine ⟨β1.push y, asm (.ref st1.length :: xs) [] ds ss, _, hN _ _ (by rw [List.length_cons, hl']) rfl, Reps.asm (.cons rself (r1.ext xx)) .nil (hd _ _) ss, S2, ?_⟩
    refine post_step (R := rD X.K) (Post.ext xx h1) fun d st3 β3 H3 u x3 s3 r3 h3 => ?_
    cases r3 with
    | non => exact ⟨rfl, h3.here s3 (rself.ext x3)⟩
    | _ => exact h3.elim
  refine wpAny_Call_Name_kw (ld_glob I hg hm (PySem.W.callWith_K (h₀ := X.base) I.ok.mod.kin M.kp (thn (ha.run pos pins s σ H _ I ht) ?_) he hpl) hdb)
  rintro us s1 ⟨vs, H1, I1, r, hl, q⟩
  exact ⟨I1.kIn, run_makeV M G gd hr hb hx I1 r hl q⟩
end
end VL

set_option Elab.async false
set_option linter.all false
set_option maxRecDepth 100000
/-! The value layer: sorted(d), max and min with default. -/
namespace VL
open PySem PySem.Spec PyProof.Rows L2 TB

def intKeys : List (Key × D) → Option (List Int)
  | [] => some []
  | (.inl i, _) :: r => (intKeys r).map (i :: ·)
  | (.inr _, _) :: _ => none
def strKeys : List (Key × D) → Option (List Str)
  | [] => some []
  | (.inr i, _) :: r => (strKeys r).map (i :: ·)
  | (.inl _, _) :: _ => none
theorem intKeys_eq : ∀ {kvs : List (Key × D)} {ns : List Int}, intKeys kvs = some ns → kvs.map (·.1) = ns.map Sum.inl
  | [], _, h => by
    cases h
    rfl
  | (.inl i, d) :: r, ns, h => by
    rw [intKeys] at h
    cases e : intKeys r with
    | none => rw [e] at h; cases h
    | some ms =>
      rw [e] at h
      cases h
      rw [List.map_cons, intKeys_eq e]
      rfl
  | (.inr _, _) :: _, _, h => by cases h
theorem strKeys_eq : ∀ {kvs : List (Key × D)} {ns : List Str}, strKeys kvs = some ns → kvs.map (·.1) = ns.map Sum.inr
  | [], _, h => by
    cases h
    rfl
  | (.inr i, d) :: r, ns, h => by
    rw [strKeys] at h
    cases e : strKeys r with
    | none => rw [e] at h; cases h
    | some ms =>
      rw [e] at h
      cases h
      rw [List.map_cons, strKeys_eq e]
      rfl
  | (.inl _, _) :: _, _, h => by cases h
section
variable {X : Cx} {E : XK} {e : Expr} {es : List Expr} {fe : FE} {fs : En → AS → Out (List D)} {pos p : Pos}
@[simp] def sortKD (c : Bool) (x : D) (st : AS) : Out D := match dctOf st x with
  | some kvs => (match intKeys kvs with
    | some ns => if ns.length < 64 then mk c ((sortI ns).map D.int) st else .bad
    | none => (match strKeys kvs with
      | some xs => if xs.length < 64 then mk c ((sortS xs).map D.str) st else .bad
      | none => .bad))
  | none => .bad
theorem ob_sortedK (hc : X.calm = true) (c : Bool) : OkB X E (.builtin "sorted") (g1 (sortKD c)) := ⟨_, (call_sortedDI hc).or (call_sortedD hc), fun β H st xs us Q S r h => by
  obtain ⟨x, u, rfl, rx, h⟩ := g1_ok r h
  unfold sortKD at h
  split at h
  · rename_i kvs e
    obtain ⟨a, us, rfl, hq, q⟩ := S.dcts rx e
    split at h
    · rename_i ns en
      obtain ⟨hl, h⟩ := h.ite
      exact .inl ⟨a, us, ns, rfl, hq, q.1.symm.trans (intKeys_eq en), hl, fun ys pp h1 h2 hp => by rw [sortI_eq h1 h2]; exact new_lst h S (reps_ints _) pp hp⟩
    · split at h
      · rename_i zs en
        obtain ⟨hl, h⟩ := h.ite
        exact .inr ⟨a, us, zs, rfl, hq, q.1.symm.trans (strKeys_eq en), hl, fun ys pp h1 h2 hp => by rw [sortS_eq h1 h2]; exact new_lst h S (reps_strs _) pp hp⟩
      · exact h.elim
  · exact h.elim⟩
/-! max(xs, default = d) -/
@[simp] def dfD (g : List Int → Int) (xs : List D) (d : D) (st : AS) : Out D := match xs with
  | [x] => (match listOf st x with
    | some ds => (match intsOf ds with
      | some ns => if ns = [] then .ok d st else .ok (.int (g ns)) st
      | none => .bad)
    | none => .bad)
  | _ => .bad
@[simp] def vMaxDf (fs : En → AS → Out (List D)) (fd : FE) (env : En) (st : AS) : Out D := (fs env st).bind fun xs st => (fd env st).bind fun d st => dfD maxI xs d st
@[simp] def vMinDf (fs : En → AS → Out (List D)) (fd : FE) (env : En) (st : AS) : Out D := (fs env st).bind fun xs st => (fd env st).bind fun d st => dfD minI xs d st
theorem df_ok {K : PySem.W.Frag} {mg : MG} {β : Bt} {H : Hp} {st : AS} {Q : VK} {xs : List D} {us : List V} {d : D} {v : V} {g : List Int → Int} (S : Sim K mg β st H) (r : Reps K H β xs us) (rd : Rep K H β d v) (h : Post K mg (rD K) E β H Q (dfD g xs d st)) :
    ∃ a ns, us = [.ref a] ∧ SqL K H a (ns.map V.int) ∧ (ns = [] → Q v H) ∧ (ns ≠ [] → Q (.int (g ns)) H) := by
  unfold dfD at h
  split at h
  · rename_i x
    obtain ⟨w, rfl, rw'⟩ := one_ok r
    split at h
    · rename_i ds e
      split at h
      · rename_i ns en
        obtain ⟨a, ws, rfl, hq, q⟩ := S.lists rw' e
        have z := intsOf_eq en
        subst z
        have w := q.ints
        subst w
        refine ⟨a, ns, rfl, hq, fun z => ?_, fun z => ?_⟩
        · rw [if_pos z] at h
          exact h.here S rd
        · rw [if_neg z] at h
          exact h.here S (.int _)
      · exact h.elim
    · exact h.elim
  · exact h.elim
variable {d : Expr} {fd : FE} {kpos : Pos}
theorem ve_maxDf (hc : X.calm = true) (hg : Gl X "max") (hm : X.mg "max" = none) (ha : VA X E [e] fs) (hd : VE X E d fd)
    (he : backTo pos (starEach [e] X.env) = (false, eval e X.env) :: backTo pos (starEach [] X.env) := by rfl) (hpl : (backTo pos (starEach [e] X.env)).any (·.1) = false := by rfl) : VE X E (.Call (.Name "max" p) [e] [⟨some "default", d, kpos⟩] pos) (vMaxDf fs fd) := by
  refine weakE (pe_callBK (cr_maxDf hc) hg hm (by decide +kernel) ha (vk_cons hd vk_nil) (he := he) (hpl := hpl)) fun σ H Q ⟨β, env, st, hE, hS, h⟩ => ?_
  refine tG_bind hE hS h fun xs st1 β1 H1 us x1 s1 e1 r1 h1 => ?_
  refine ⟨β1, env, st1, e1, s1, ?_⟩
  unfold vCons vNil
  cases ev : fd env st1 with
  | bad => rw [ev] at h1; exact h1.elim
  | exc c fs st2 => rw [ev] at h1; exact h1
  | ok dd st2 =>
    rw [ev] at h1
    intro β2 H2 zs x2 s2 r2
    obtain ⟨z, rfl, rz⟩ := one_ok r2
    obtain ⟨a, ns, rfl, hq, q1, q2⟩ := df_ok s2 (r1.ext x2) rz (Post.ext x2 h1)
    exact ⟨a, ns, z, rfl, rfl, hq, q1, fun m h1 h2 => by rw [maxI_eq h1 h2]; exact q2 (fun z => by subst z; cases h1)⟩
theorem ve_minDf (hc : X.calm = true) (hg : Gl X "min") (hm : X.mg "min" = none) (ha : VA X E [e] fs) (hd : VE X E d fd)
    (he : backTo pos (starEach [e] X.env) = (false, eval e X.env) :: backTo pos (starEach [] X.env) := by rfl) (hpl : (backTo pos (starEach [e] X.env)).any (·.1) = false := by rfl) : VE X E (.Call (.Name "min" p) [e] [⟨some "default", d, kpos⟩] pos) (vMinDf fs fd) := by
  refine weakE (pe_callBK (cr_minDf hc) hg hm (by decide +kernel) ha (vk_cons hd vk_nil) (he := he) (hpl := hpl)) fun σ H Q ⟨β, env, st, hE, hS, h⟩ => ?_
  refine tG_bind hE hS h fun xs st1 β1 H1 us x1 s1 e1 r1 h1 => ?_
  refine ⟨β1, env, st1, e1, s1, ?_⟩
  unfold vCons vNil
  cases ev : fd env st1 with
  | bad => rw [ev] at h1; exact h1.elim
  | exc c fs st2 => rw [ev] at h1; exact h1
  | ok dd st2 =>
    rw [ev] at h1
    intro β2 H2 zs x2 s2 r2
    obtain ⟨z, rfl, rz⟩ := one_ok r2
    obtain ⟨a, ns, rfl, hq, q1, q2⟩ := df_ok s2 (r1.ext x2) rz (Post.ext x2 h1)
    exact ⟨a, ns, z, rfl, rfl, hq, q1, fun m h1 h2 => by rw [minI_eq h1 h2]; exact q2 (fun z => by subst z; cases h1)⟩
/-! ord -/
@[simp] def ordCD (x : D) (st : AS) : Out D := match x with
  | .str z => if z.length = 1 then .ok (.int (z.cps.getD 0 0 : Nat)) st else .bad
  | _ => .bad
theorem ob_ord : OkB X E (.builtin "ord") (g1 ordCD) := ⟨_, call_ord, fun β H st xs us Q S r h => by
  obtain ⟨x, u, rfl, rx, h⟩ := g1_ok r h
  cases rx with
  | str z =>
    obtain ⟨hl, h⟩ := h.ite
    exact ⟨z, rfl, hl, h.here S (.int _)⟩
  | _ => exact h.elim⟩
/-! f() -/
theorem ve_callZ {k N : Nat} {f : Addr} {fd : FuncData} {ps : List Str} {F : List D → AS → Out D} {dvs : List V} {ds : List D} {ss : List Src} {x : Str} (G : FnG X.prog X.w X.K X.mg X.base (L2.CX X.prog X.w) k f fd ps (spV X.K X.mgw N F)) (gd : X.A.guards = some []) (hr : Room k X.A) (hg : Gl X x) (hm : X.mg x = some (.ref f)) (hk : PySem.W.keepIn X.K (.ref f) = true)
    (hb : BindV X.K fd ps 0 [] dvs ss) (hN : ∀ us ws : List V, us.length = 0 → ws.length = 0 → (asm us ws dvs ss).length = N) (hd : ∀ H β, Reps X.K H β ds dvs) (hx : Passes (L2.CX X.prog X.w) X E) (hdb : (x == ("__debug__" : Str)) = false := by decide) :
    VE X E (.Call (.Name x p) [] [] pos) (vCallA 0 0 ds ss F vNil vNil) := by
  constructor
  intro pins s σ H Q I h
  obtain ⟨β, env, st, hE, hS, h⟩ := use_V (E := E) hN hd h
  obtain ⟨β2, env2, st2, hE2, hS2, h2⟩ := h.here hS .nil
  obtain ⟨l1, l2, q⟩ := h2.here hS2 .nil
  refine wpAny_Call_Name_kw (ld_glob I hg hm (PySem.W.callWith_K0 I.kIn hk ?_) hdb)
  exact run_V (us := []) (vs := []) (zs := []) (ws := []) G gd hr hb hx I .nil .nil rfl rfl q
end
end VL

set_option Elab.async false
set_option linter.all false
set_option maxRecDepth 100000
/-! Tools for the plain functions: what is told in the end, loops, comprehensions. -/
namespace VL
open PySem

/-- it comes to a good end, with Q -/
def Out.sat {α : Type} (o : Out α) (Q : α → AS → Prop) : Prop := ∃ a st, o = .ok a st ∧ Q a st
@[simp] theorem Out.sat_ok {α : Type} {a : α} {st : AS} {Q : α → AS → Prop} : (Out.ok a st).sat Q ↔ Q a st := ⟨fun ⟨_, _, e, q⟩ => by cases e; exact q, fun q => ⟨a, st, rfl, q⟩⟩
@[simp] theorem Out.sat_bad {α : Type} {Q : α → AS → Prop} : (Out.bad : Out α).sat Q ↔ False := ⟨fun ⟨_, _, e, _⟩ => (nomatch e), fun h => h.elim⟩
@[simp] theorem Out.sat_exc {α : Type} {c : Str} {fs : List (Str × D)} {st : AS} {Q : α → AS → Prop} : (Out.exc c fs st : Out α).sat Q ↔ False := ⟨fun ⟨_, _, e, _⟩ => (nomatch e), fun h => h.elim⟩
theorem Out.sat_bind {α β : Type} {o : Out α} {k : α → AS → Out β} {Q : β → AS → Prop} : (o.bind k).sat Q ↔ o.sat fun a st => (k a st).sat Q := by
  cases o with
  | ok a st => simp
  | exc c fs st => simp [Out.bind]
  | bad => simp [Out.bind]
theorem Out.sat.mono {α : Type} {o : Out α} {Q R : α → AS → Prop} (h : o.sat Q) (f : ∀ a st, Q a st → R a st) : o.sat R := by
  obtain ⟨a, st, e, q⟩ := h
  exact ⟨a, st, e, f a st q⟩
/-- statements: they go on, return, break or continue, with Q -/
inductive Fk where
  | nx (env : En) | rt (d : D) | bk (env : En) | ct (env : En)
def Fl.sat (o : Fl) (Q : Fk → AS → Prop) : Prop := match o with
  | .nx env st => Q (.nx env) st
  | .rt d st => Q (.rt d) st
  | .bk env st => Q (.bk env) st
  | .ct env st => Q (.ct env) st
  | .exc _ _ _ => False
  | .bad => False
@[simp] theorem Fl.sat_nx {env : En} {st : AS} {Q : Fk → AS → Prop} : (Fl.nx env st).sat Q ↔ Q (.nx env) st := Iff.rfl
@[simp] theorem Fl.sat_rt {d : D} {st : AS} {Q : Fk → AS → Prop} : (Fl.rt d st).sat Q ↔ Q (.rt d) st := Iff.rfl
@[simp] theorem Fl.sat_bk {env : En} {st : AS} {Q : Fk → AS → Prop} : (Fl.bk env st).sat Q ↔ Q (.bk env) st := Iff.rfl
@[simp] theorem Fl.sat_ct {env : En} {st : AS} {Q : Fk → AS → Prop} : (Fl.ct env st).sat Q ↔ Q (.ct env) st := Iff.rfl
@[simp] theorem Fl.sat_bad {Q : Fk → AS → Prop} : (Fl.bad).sat Q ↔ False := Iff.rfl
theorem Out.sat_fl {α : Type} {o : Out α} {k : α → AS → Fl} {Q : Fk → AS → Prop} : (o.fl k).sat Q ↔ o.sat fun a st => (k a st).sat Q := by
  cases o with
  | ok a st => simp
  | exc c fs st => simp [Out.fl, Fl.sat]
  | bad => simp [Out.fl]
theorem Fl.sat.mono {o : Fl} {Q R : Fk → AS → Prop} (h : o.sat Q) (f : ∀ k st, Q k st → R k st) : o.sat R := by
  cases o with
  | nx env st => exact f _ _ h
  | rt d st => exact f _ _ h
  | bk env st => exact f _ _ h
  | ct env st => exact f _ _ h
  | exc _ _ _ => exact h
  | bad => exact h
/-- one statement, then the rest -/
theorem Fl.sat_seq {o : Fl} {g : En → AS → Fl} {Q : Fk → AS → Prop} : (o.seq g).sat Q ↔ o.sat fun k st => match k with
    | .nx env => (g env st).sat Q
    | .rt d => Q (.rt d) st
    | .bk env => Q (.bk env) st
    | .ct env => Q (.ct env) st := by
  cases o <;> exact Iff.rfl
/-- the def's end -/
theorem Fl.sat_fin {o : Fl} {frz : Nat} {st0 : AS} {Q : D → AS → Prop} (h : o.sat fun k st => match k with
    | .rt d => (ret frz st0 d st).sat Q
    | .nx _ => (ret frz st0 .non st).sat Q
    | _ => False) : (o.fin frz st0).sat Q := by
  cases o with
  | nx env st => exact h
  | rt d st => exact h
  | bk env st => exact h.elim
  | ct env st => exact h.elim
  | exc _ _ _ => exact h.elim
  | bad => exact h.elim
/-! ### loops -/
theorem forL_sat {g : D → En → AS → Out En} {body : En → AS → Fl} {gs : Gd} {Q : Fk → AS → Prop} (P : List D → En → AS → Prop) : ∀ (ds : List D) (env : En) (st : AS), P ds env st →
    (∀ ds env st, P ds env st → gs.ok st) →
    (∀ d ds env st, P (d :: ds) env st → (g d env st).sat fun env1 st1 => (body env1 st1).sat fun k st2 => match k with
      | .nx env2 => P ds env2 st2
      | .ct env2 => P ds env2 st2
      | .bk env2 => Q (.nx env2) st2
      | .rt d => Q (.rt d) st2) →
    (∀ env st, P [] env st → Q (.nx env) st) → (forL g body gs ds env st).sat Q
  | [], env, st, h, hg, _, hf => by
    rw [forL, if_pos (hg _ _ _ h)]
    exact hf env st h
  | d :: ds, env, st, h, hg, hs, hf => by
    rw [forL, if_pos (hg _ _ _ h), Out.sat_fl]
    refine (hs d ds env st h).mono fun env1 st1 h1 => ?_
    cases o : body env1 st1 with
    | nx env2 st2 =>
      rw [o] at h1
      exact forL_sat P ds env2 st2 h1 hg hs hf
    | ct env2 st2 =>
      rw [o] at h1
      exact forL_sat P ds env2 st2 h1 hg hs hf
    | bk env2 st2 => rw [o] at h1; exact h1
    | rt d2 st2 => rw [o] at h1; exact h1
    | exc c fs st2 => rw [o] at h1; exact h1.elim
    | bad => rw [o] at h1; exact h1.elim
/-! ### comprehensions -/
theorem Out.sat_ne {α : Type} {o : Out α} {Q : α → AS → Prop} : o.ne.sat Q ↔ o.sat Q := by
  cases o with
  | ok a st => exact Iff.rfl
  | exc c fs st => simp [Out.ne]
  | bad => simp [Out.ne]
/-- with what changes on the way: P tells of what is left and what is found -/
theorem compL_sat {g : D → En → AS → Out En} {t : En → AS → Out Bool} {f : En → AS → Out D} {env : En} {gs : Gd} (P : List D → List D → AS → Prop) {Q : List D → AS → Prop} : ∀ (ds acc : List D) (st : AS), P ds acc st →
    (∀ ds acc st, P ds acc st → gs.ok st) →
    (∀ d ds acc st, P (d :: ds) acc st → (g d env st).sat fun env1 st1 => (t env1 st1).sat fun b st2 => if b = true then (f env1 st2).sat fun y st3 => P ds (acc ++ [y]) st3 else P ds acc st2) →
    (∀ acc st, P [] acc st → Q acc st) → (compL g t f env gs ds st).sat fun ys st => Q (acc ++ ys) st
  | [], acc, st, h, hg, _, hf => by
    rw [compL, if_pos (hg _ _ _ h)]
    simpa using hf acc st h
  | d :: ds, acc, st, h, hg, hs, hf => by
    rw [compL, if_pos (hg _ _ _ h), Out.sat_bind, Out.sat_ne]
    refine (hs d ds acc st h).mono fun env1 st1 h1 => ?_
    rw [Out.sat_bind, Out.sat_ne]
    refine h1.mono fun b st2 h2 => ?_
    cases b with
    | false => exact compL_sat P ds acc st2 (by simpa using h2) hg hs hf
    | true =>
      simp only [if_true] at h2 ⊢
      rw [Out.sat_bind, Out.sat_ne]
      refine h2.mono fun y st3 h3 => ?_
      rw [Out.sat_bind]
      refine (compL_sat P ds (acc ++ [y]) st3 h3 hg hs hf).mono fun ys st4 h4 => ?_
      simpa using h4
/-- nothing changes: a map of a filter -/
theorem compL_map {g : D → En → AS → Out En} {t : En → AS → Out Bool} {f : En → AS → Out D} {env : En} {gs : Gd} {st : AS} (hg : gs.ok st) (p : D → Bool) (h : D → D) : ∀ (ds : List D),
    (∀ d ∈ ds, ∃ env1, g d env st = .ok env1 st ∧ t env1 st = .ok (p d) st ∧ (p d = true → f env1 st = .ok (h d) st)) → compL g t f env gs ds st = .ok ((ds.filter p).map h) st
  | [], _ => by rw [compL, if_pos hg]; rfl
  | d :: ds, hd => by
    obtain ⟨env1, e1, e2, e3⟩ := hd d List.mem_cons_self
    have ih := compL_map hg p h ds fun x hx => hd x (List.mem_cons_of_mem _ hx)
    rw [compL, if_pos hg, e1]
    simp only [Out.ne_ok, Out.bind_ok, e2]
    cases z : p d with
    | false => simp [ih, z]
    | true => simp [ih, z, e3 z]
theorem gd_nilOk {st : AS} : Gd.ok [] st := fun _ h => nomatch h
/-! ### frames -/
/-- but for cell i all that stood stands -/
structure But1 (i : Nat) (st st' : AS) : Prop where
  len : st.length ≤ st'.length
  at_ : ∀ j, j < st.length → j ≠ i → st'[j]? = st[j]?
theorem But1.refl (i : Nat) (st : AS) : But1 i st st := ⟨Nat.le_refl _, fun _ _ _ => rfl⟩
theorem But1.trans {i : Nat} {a b c : AS} (h : But1 i a b) (k : But1 i b c) : But1 i a c := ⟨Nat.le_trans h.len k.len, fun j hj hn => (k.at_ j (Nat.lt_of_lt_of_le hj h.len) hn).trans (h.at_ j hj hn)⟩
theorem But1.set (i : Nat) (st : AS) (c : C) : But1 i st (st.set i c) := ⟨by simp, fun j hj hn => by rw [List.getElem?_set_ne (Ne.symm hn)]⟩
theorem But1.push (i : Nat) (st : AS) (c : C) : But1 i st (st ++ [c]) := ⟨by simp, fun j hj hn => by rw [List.getElem?_append_left hj]⟩
end VL

set_option Elab.async false
set_option linter.all false
set_option maxRecDepth 100000
/-! Tools for the plain functions: slices. -/
namespace VL
open PySem
theorem sIx_pos (n d : Nat) (k : Int) (hk : 0 ≤ k) : HT.sIx n d (some k) = min k.toNat n := by
  show (if k < 0 then _ else _) = _
  rw [if_neg (by omega)]
theorem sIx_neg (n d : Nat) (k : Int) (hk : k < 0) : HT.sIx n d (some k) = (k + (n : Int)).toNat := by
  show (if k < 0 then _ else _) = _
  rw [if_pos hk]
theorem sIx_no (n d : Nat) : HT.sIx n d none = d := rfl
theorem cut_from {α : Type} (xs : List α) (k : Int) (hk : 0 ≤ k) : VL.cut xs (some k) none = xs.drop k.toNat := by
  unfold VL.cut
  rw [sIx_pos _ _ k hk, sIx_no]
  by_cases h : k.toNat ≤ xs.length
  · rw [Nat.min_eq_left h, List.take_of_length_le (by simp)]
  · rw [Nat.min_eq_right (by omega), List.drop_eq_nil_of_le (by omega), List.drop_eq_nil_of_le (by omega)]
    simp
theorem cut_to {α : Type} (xs : List α) (k : Int) (hk : 0 ≤ k) : VL.cut xs none (some k) = xs.take k.toNat := by
  unfold VL.cut
  rw [sIx_pos _ _ k hk, sIx_no, List.drop_zero, Nat.sub_zero]
  by_cases h : k.toNat ≤ xs.length
  · rw [Nat.min_eq_left h]
  · rw [Nat.min_eq_right (by omega), List.take_length, List.take_of_length_le (by omega)]
theorem cut_fromTo {α : Type} (xs : List α) (i k : Int) (hi : 0 ≤ i) (hk : 0 ≤ k) : VL.cut xs (some i) (some k) = (xs.take k.toNat).drop i.toNat := by
  unfold VL.cut
  rw [sIx_pos _ _ k hk, sIx_pos _ _ i hi, List.drop_take]
  by_cases h : i.toNat ≤ xs.length
  · rw [Nat.min_eq_left h]
    by_cases h2 : k.toNat ≤ xs.length
    · rw [Nat.min_eq_left h2]
    · rw [Nat.min_eq_right (by omega), List.take_of_length_le (by simp), List.take_of_length_le (by simp; omega)]
  · have e : min i.toNat xs.length = xs.length := Nat.min_eq_right (by omega)
    rw [e, List.drop_eq_nil_of_le (Nat.le_refl _), List.drop_eq_nil_of_le (by omega)]
    simp
theorem cut_all {α : Type} (xs : List α) : VL.cut xs none none = xs := by
  unfold VL.cut
  rw [sIx_no, sIx_no, List.drop_zero, Nat.sub_zero, List.take_length]
/-- xs[:-k] -/
theorem cut_toBack {α : Type} (xs : List α) (k : Nat) (hk : 0 < k) : VL.cut xs none (some (-(k : Int))) = xs.take (xs.length - k) := by
  unfold VL.cut
  rw [sIx_neg _ _ _ (by omega), sIx_no, List.drop_zero, Nat.sub_zero]
  congr 1
  omega
/-- xs[-k:] -/
theorem cut_fromBack {α : Type} (xs : List α) (k : Nat) (hk : 0 < k) : VL.cut xs (some (-(k : Int))) none = xs.drop (xs.length - k) := by
  unfold VL.cut
  rw [sIx_neg _ _ _ (by omega), sIx_no]
  have : (-(k : Int) + (xs.length : Int)).toNat = xs.length - k := by omega
  rw [this, List.take_of_length_le (by simp)]
theorem ixN_pos {n : Nat} {i : Int} (h : 0 ≤ i) (h2 : i < n) : L2.ixN n i = some i.toNat := by
  unfold L2.ixN
  rw [if_pos h, if_pos h2]
theorem atI_pos {α : Type} {xs : List α} {i : Int} (h : 0 ≤ i) (h2 : i < xs.length) : L2.atI xs i = xs[i.toNat]? := by
  unfold L2.atI
  rw [ixN_pos h h2]
  rfl
theorem atI_last {α : Type} {xs : List α} (h : xs ≠ []) : L2.atI xs (-1) = xs.getLast? := by
  have hp := List.length_pos_iff.mpr h
  unfold L2.atI L2.ixN
  rw [if_neg (by omega), if_pos (by omega), List.getLast?_eq_getElem?]
  show xs[(-1 + (xs.length : Int)).toNat]? = _
  congr 1
  omega
end VL

set_option Elab.async false
set_option linter.all false
set_option maxRecDepth 100000
/-! The value layer: slots that nobody reads any more. -/
namespace VL
open PySem PySem.Spec PyProof.Rows L2 TB
/-- these slots are forgotten -/
@[simp] def killE : List Nat → En → En
  | [], env => env
  | i :: r, env => killE r (env.set i none)
def Fl.kill (ks : List Nat) : Fl → Fl
  | .nx env st => .nx (killE ks env) st
  | .bk env st => .bk (killE ks env) st
  | .ct env st => .ct (killE ks env) st
  | .rt d st => .rt d st
  | .exc c fs st => .exc c fs st
  | .bad => .bad
@[simp] theorem Fl.kill_nx (ks : List Nat) (env : En) (st : AS) : (Fl.nx env st).kill ks = .nx (killE ks env) st := rfl
@[simp] theorem Fl.kill_bk (ks : List Nat) (env : En) (st : AS) : (Fl.bk env st).kill ks = .bk (killE ks env) st := rfl
@[simp] theorem Fl.kill_ct (ks : List Nat) (env : En) (st : AS) : (Fl.ct env st).kill ks = .ct (killE ks env) st := rfl
@[simp] theorem Fl.kill_rt (ks : List Nat) (d : D) (st : AS) : (Fl.rt d st).kill ks = .rt d st := rfl
@[simp] theorem Fl.kill_exc (ks : List Nat) (c : Str) (fs : List (Str × D)) (st : AS) : (Fl.exc c fs st).kill ks = .exc c fs st := rfl
@[simp] theorem Fl.kill_bad (ks : List Nat) : (Fl.bad).kill ks = .bad := rfl
theorem Fl.kill_ite {p : Prop} [Decidable p] (a b : Fl) (ks : List Nat) : (if p then a else b).kill ks = if p then a.kill ks else b.kill ks := by split <;> rfl
@[simp] def sKill (ks : List Nat) (f : En → AS → Fl) (env : En) (st : AS) : Fl := (f env st).kill ks
section
variable {K : PySem.W.Frag} {H : Hp} {β : Bt} {env : En} {σ : L2.St}
theorem EnvR.kill (e : EnvR K H β env σ) : ∀ ks : List Nat, EnvR K H β (killE ks env) σ := by
  intro ks
  induction ks generalizing env with
  | nil => exact e
  | cons i r ih =>
    refine ih (e.less (by simp) fun j d h => ?_)
    by_cases hj : j = i
    · subst hj
      have hl : j < env.length := by
        have := (List.getElem?_eq_some_iff.mp h).1
        simpa using this
      rw [List.getElem?_set_self hl] at h
      cases h
    · rw [List.getElem?_set_ne (Ne.symm hj)] at h
      exact h
end
section
variable {X : Cx} {E : XK} {s : Stmt} {ss : List Stmt} {f : En → AS → Fl}
theorem kill_post {K : PySem.W.Frag} {mg : MG} {β : Bt} {H : Hp} {De : Ends} (ks : List Nat) {o : Fl} (h : PostS K mg E β H De (o.kill ks)) : PostS K mg E β H De o := by
  cases o with
  | nx env st => exact fun β' H' σ' x S e => h β' H' σ' x S (e.kill ks)
  | bk env st => exact fun β' H' σ' x S e => h β' H' σ' x S (e.kill ks)
  | ct env st => exact fun β' H' σ' x S e => h β' H' σ' x S (e.kill ks)
  | rt d st => exact h
  | exc c fs st => exact h
  | bad => exact h
theorem vss_kill (ks : List Nat) (h : VSs X E ss f) : VSs X E ss (sKill ks f) :=
  weakSs h fun De σ H ⟨β, env, st, he, hs, h⟩ => ⟨β, env, st, he, hs, kill_post ks h⟩
theorem vs_kill (ks : List Nat) (h : VS X E s f) : VS X E s (sKill ks f) :=
  weakS h fun De σ H ⟨β, env, st, he, hs, h⟩ => ⟨β, env, st, he, hs, kill_post ks h⟩
end
end VL

set_option Elab.async false
set_option linter.all false
set_option maxRecDepth 100000
/-! The value layer: known tuples (made so; their index), dicts with such keys. -/
namespace VL
open PySem PySem.Spec PyProof.Rows L2 TB

section
variable {X : Cx} {E : XK} {o e : Expr} {es : List Expr} {fo fe : FE} {fs : En → AS → Out (List D)} {name : Str} {apos cpos pos : Pos} {id T : String}
/-! ### tuple(xs), the object known -/
def rTupF (K : PySem.W.Frag) : List V → Hp → VK → Prop := fun xs H Q => ∃ p ys, xs = [.ref p] ∧ SqL K H p ys ∧ ∀ l ob, H l = none → ob.dict = none → Q (.ref l) (upd H l (.frz ob (.tup ys)))
theorem call_tupF : CallR X (.type "tuple") (rTupF X.K) := by
  intro pins s σ H xs us Q I r h
  obtain ⟨p, ys, rfl, hq, q⟩ := h
  obtain ⟨u, rfl, rx⟩ := vals1 r
  cases rx
  obtain ⟨its, r', pl, hz⟩ := I.list hq
  have hlen := r'.length
  refine call_tuple_list pl.isList (fun h' kp => ?_) (by rw [List.size_toArray]; omega)
  have J : Inv X pins σ H { s with heap := h' } := I.kept (t' := s.toks) kp
  have J2 := J.laid (a := h'.objs.size) (o := .frz ({ cls := .type "tuple", data := .seq its.toArray } : Obj) (.tup ys)) (t' := s.toks) (h' := h'.push { cls := .type "tuple", data := .seq its.toArray })
    (fun b o z => Heap.get?_push_of_some _ z) (Nat.le_refl _) ⟨Heap.get?_push_size _ rfl, hz, its, r', IsTup.new _ _⟩
  exact ⟨.ref h'.objs.size, _, J2, rfl, q _ _ (J.hok.fresh (Nat.le_refl _)) rfl⟩
@[simp] def tupFD (x : D) (st : AS) : Out D := match listOf st x with
  | some ds => .ok (.ctp ds) st
  | none => .bad
theorem ob_tupF : OkB X E (.type "tuple") (g1 tupFD) := ⟨_, call_tupF, fun β H st xs us Q S r h => by
  obtain ⟨x, u, rfl, rx, h⟩ := g1_ok r h
  unfold tupFD at h
  split at h
  · rename_i ds e
    obtain ⟨p, us, rfl, hq, r⟩ := S.lists rx e
    refine ⟨p, us, rfl, hq, fun l ob hl hd => ?_⟩
    have sm : Same H (upd H l (.frz ob (.tup us))) := same_upd hl
    exact h β _ _ (Ext.same sm) (S.same sm) (.ctp (.inr ⟨S.fresh hl, ob, upd_same, hd⟩) (r.ext (Ext.same sm)))
  · exact h.elim⟩

/-! ### a method of a thing of a known kind -/
theorem pe_bmT {to : TE} {t : TA} {r : V → List V → Hp → VK → Prop} {ty : V → Hp → Prop} (kind : ∀ (pins : List (Addr × Obj)) (s : Shared) (σ : L2.St) (H : Hp) (x : V) (v : Value), Inv X pins σ H s → RelV x v → ty x H → s.TypeIs v T ∧ ∀ a, v = .ref a → ∃ ob, s.heap.get? a = some ob ∧ ob.dict = none)
    (pa : PlainAttrs T) (slot : Slot T name id) (hty : typeOf (.builtin id) = pure (.type "method_descriptor")) (hm : MtR X id r) (ho : PE X o to) (ha : PA X (e :: es) t)
    (hbase : attributeBase o name X.env (eval o X.env) = eval o X.env)
    (hfew : ((backTo cpos (starEach (e :: es) X.env)).all (fun x => !x.1) && (backToKw cpos (keywordEach [] X.env)).all (fun x => x.1.isSome) && decide ((e :: es).length + ([] : List Keyword).length + (if ([] : List Keyword).isEmpty then 0 else 1) < 30)) = true)
    (hline : (apos.endLine == cpos.line) = true) (hs : starEach (e :: es) X.env = (false, eval e X.env) :: starEach es X.env) (hplain : (backTo cpos (starEach es X.env)).any (·.1) = false) :
    PE X (.Call (.Attribute o name apos) (e :: es) [] cpos) (fun σ H Q => to σ H fun x H1 => ty x H1 ∧ t σ H1 fun xs H2 => r x xs H2 Q) := by
  constructor
  intro pins s σ H Q I h
  refine wpAny_Call_method_late hbase hfew hline rfl (thn (ho.run pins s σ H _ I h) ?_)
  rintro v s1 ⟨x, H1, I1, r1, k1, q1⟩
  obtain ⟨h1, h2⟩ := kind pins s1 σ H1 x v I1 r1 k1
  refine ⟨T, id, pa, slot, hty, h1, h2, ?_⟩
  have hA := ha.run cpos pins s1 σ H1 _ I1 q1
  rw [hs] at hA ⊢
  refine Calls.callWith_builtin (by
    show (false || (backTo cpos (starEach es X.env)).any (·.1)) = false
    rw [hplain, Bool.or_false]) (Calls.evalArgs_plain ?_)
  refine thn hA ?_
  rintro us s2 ⟨xs, H2, I2, r2, q2⟩
  exact hm pins s2 σ H2 x xs v us Q I2 r1 r2 q2
end
end VL
namespace VL
open PySem PySem.Spec PyProof.Rows L2 TB
section
variable {X : Cx} {E : XK} {o e e2 : Expr} {es : List Expr} {fo fe fi : FE} {fs : En → AS → Out (List D)} {name : Str} {apos cpos pos : Pos} {id T : String}
/-! ### t.index(x) of a known tuple of texts -/
theorem idx_first : ∀ (ys : List Str) (z : Str) (m : Nat), m < ys.idxOf z → ys[m]? ≠ some z
  | [], z, m, h => by simp
  | y :: ys, z, m, h => by
    rw [List.idxOf_cons] at h
    by_cases e : y = z
    · subst e
      simp at h
    · have e' : (y == z) = false := beq_eq_false_iff_ne.mpr e
      rw [e', cond_false] at h
      cases m with
      | zero => simpa using e
      | succ m => simpa using idx_first ys z m (by omega)
@[simp] def tixD (x : D) (xs : List D) (st : AS) : Out D := match x, xs with
  | .ctp ds, [.str z] => (match strsOf ds with
    | some ys => if z ∈ ys then .ok (.int (ys.idxOf z : Nat)) st else .bad
    | none => .bad)
  | _, _ => .bad
def isCtp : D → Bool
  | .ctp _ => true
  | _ => false
@[simp] def vMT (g : D → List D → AS → Out D) (fo : FE) (fs : En → AS → Out (List D)) (env : En) (st : AS) : Out D := (fo env st).bind fun x st => if isCtp x = true then (fs env st).bind fun xs st => g x xs st else .bad
def tyCt (X : Cx) (x : V) (H : Hp) : Prop := ∃ β a us, x = .ref a ∧ CtT X.K H β a us
theorem tyCt_is (pins : List (Addr × Obj)) (s : Shared) (σ : L2.St) (H : Hp) (x : V) (v : Value) (I : Inv X pins σ H s) (r : RelV x v) (h : tyCt X x H) : s.TypeIs v "tuple" ∧ ∀ a, v = .ref a → ∃ ob, s.heap.get? a = some ob ∧ ob.dict = none := by
  obtain ⟨β, a, us, rfl, h⟩ := h
  cases r
  rcases h with ⟨ob, its, n, h1, h2, h3, _⟩ | ⟨_, ob, h1, h3⟩
  · have z := I.kIn a ob h1
    exact ⟨⟨ob, z, h2⟩, fun b q => by cases q; exact ⟨ob, z, h3⟩⟩
  · obtain ⟨z, _, its, _, ob', z2, hc, _⟩ := (show ObjOk X.prog X.w H s.heap a (.frz ob (.tup us)) from I.hok a _ h1)
    rw [z] at z2
    cases z2
    exact ⟨⟨ob, z, hc⟩, fun b q => by cases q; exact ⟨ob, z, h3⟩⟩
theorem om_tix : OkM X E "tuple.index" tixD := ⟨_, mt_tup_index, fun β H st x xs u us Q S rx rs h => by
  unfold tixD at h
  split at h
  · rename_i ds z
    cases rx with
    | ctp hc r =>
      split at h
      · rename_i ys ey
        obtain ⟨hz, h⟩ := h.ite
        obtain ⟨w, rfl, rw'⟩ := one_ok rs
        cases rw'
        have e := Reps.strs ey r
        subst e
        have hj := List.idxOf_lt_length_iff.mpr hz
        refine ⟨_, ys, z, ys.idxOf z, rfl, rfl, hc.sq, by rw [List.getElem?_eq_getElem hj, List.getElem_idxOf hj], fun m hm => idx_first ys z m hm, h.here S (.int _)⟩
      · exact h.elim
  · exact h.elim⟩
theorem ve_mt {g : D → List D → AS → Out D} (slot : Slot "tuple" name id) (hty : typeOf (.builtin id) = pure (.type "method_descriptor")) (hm : OkM X E id g) (ho : VE X E o fo) (ha : VA X E (e :: es) fs)
    (hbase : attributeBase o name X.env (eval o X.env) = eval o X.env := by rfl)
    (hfew : ((backTo cpos (starEach (e :: es) X.env)).all (fun x => !x.1) && (backToKw cpos (keywordEach [] X.env)).all (fun x => x.1.isSome) && decide ((e :: es).length + ([] : List Keyword).length + (if ([] : List Keyword).isEmpty then 0 else 1) < 30)) = true := by rfl)
    (hline : (apos.endLine == cpos.line) = true := by rfl) (hs : starEach (e :: es) X.env = (false, eval e X.env) :: starEach es X.env := by rfl) (hplain : (backTo cpos (starEach es X.env)).any (·.1) = false := by rfl) :
    VE X E (.Call (.Attribute o name apos) (e :: es) [] cpos) (vMT g fo fs) := by
  obtain ⟨r, h1, h2⟩ := hm
  refine weakE (pe_bmT (tyCt_is (X := X)) PySem.F.plainAttrs_tuple slot hty h1 ho ha hbase hfew hline hs hplain) fun σ H Q ⟨β, env, st, he, hS, h⟩ => ?_
  refine tG_bind he hS h fun x st1 β1 H1 u x1 s1 e1 r1 h3 => ?_
  obtain ⟨hl, h3⟩ := h3.ite
  refine ⟨?_, tG_bind e1 s1 h3 fun xs st2 β2 H2 us x2 s2 e2 r2 h4 => h2 β2 H2 st2 x xs u us Q s2 (r1.ext x2) r2 h4⟩
  cases r1 with
  | ctp hc r => exact ⟨β1, _, _, rfl, hc⟩
  | _ => cases hl
end
end VL

set_option Elab.async false
set_option linter.all false
set_option maxRecDepth 100000
/-! The value layer: dicts whose keys are known tuples. -/
namespace VL
open PySem PySem.Spec PyProof.Rows L2 TB

abbrev KF : List (List Key × V) → List (List Key × Addr × Value) → Prop := Paired fun p q => p.1 = q.1 ∧ RelV p.2 q.2.2
theorem KF.at {us : List (List Key × V)} {xs : List (List Key × Addr × Value)} (r : KF us xs) (k : List Key) : RelO (valV us k) ((atKey xs k).map (·.2)) := by
  induction r with
  | nil => exact True.intro
  | @cons p q ps qs h t ih =>
    by_cases e : p.1 = k
    · have b : atKey (q :: qs) k = some q.2 := by simp [atKey, List.find?_cons, h.1.symm.trans e]
      rw [valV_pos e, b]
      exact h.2
    · have e' : ¬ q.1 = k := fun z => e (h.1.trans z)
      have b : atKey (q :: qs) k = atKey qs k := by simp [atKey, List.find?_cons, e']
      rw [valV_neg e, b]
      exact ih
theorem KF.swap {us : List (List Key × V)} {xs : List (List Key × Addr × Value)} (r : KF us xs) (k : List Key) {y : V} {u : Value} (ry : RelV y u) : KF (us.map fun kv => if kv.1 = k then (kv.1, y) else kv) (xs.map (putAt k u)) := by
  induction r with
  | nil => exact .nil
  | @cons p q ps qs h t ih =>
    simp only [List.map_cons]
    refine .cons ?_ ih
    unfold putAt
    by_cases e : p.1 = k
    · rw [if_pos e, if_pos (h.1.symm.trans e)]
      exact ⟨h.1, ry⟩
    · rw [if_neg e, if_neg (fun z => e (h.1.trans z))]
      exact h
theorem KF.isSome {us : List (List Key × V)} {xs : List (List Key × Addr × Value)} (r : KF us xs) (k : List Key) : (us.any fun kv => decide (kv.1 = k)) = (atKey xs k).isSome := by
  rw [valV_any, (r.at k).isSome_eq, Option.isSome_map]
theorem KF.put {us : List (List Key × V)} {xs : List (List Key × Addr × Value)} (r : KF us xs) (k : List Key) {b : Addr} {y : V} {u : Value} (ry : RelV y u) : KF (putK us k y) (storedH xs k b u) := by
  unfold putK storedH
  rw [r.isSome k]
  by_cases q : (atKey xs k).isSome = true
  · rw [if_pos q, if_pos q]
    exact r.swap k ry
  · rw [if_neg q, if_neg q]
    exact Paired.snoc r ⟨rfl, ry⟩
def putB (us : List (List Key × V)) (bs : List Addr) (k : List Key) (b : Addr) : List Addr := if (us.any fun kv => decide (kv.1 = k)) = true then bs else bs ++ [b]
theorem KF.puts {us : List (List Key × V)} {xs : List (List Key × Addr × Value)} (r : KF us xs) (k : List Key) (b : Addr) (u : Value) : (storedH xs k b u).map (·.2.1) = putB us (xs.map (·.2.1)) k b := by
  unfold putB storedH
  rw [r.isSome k]
  by_cases q : (atKey xs k).isSome = true
  · rw [if_pos q, if_pos q, List.map_map]
    apply List.map_congr_left
    intro x _
    show (putAt k u x).2.1 = x.2.1
    unfold putAt
    split <;> rfl
  · rw [if_neg q, if_neg q, List.map_append]
    rfl
section
variable {X : Cx} {pins : List (Addr × Obj)} {σ : L2.St} {H : Hp} {s : Shared} {a b : Addr} {us : List (List Key × V)} {bs : List Addr} {ks : List Key}
theorem key_sq (I : Inv X pins σ H s) (h : SqT X.K H b (ks.map kV)) : (tupleKind (mixKind X.prog X.w)).is s.heap ks b := by
  obtain ⟨its, r, ⟨o, h1, h2, n, h3⟩, _⟩ := I.tuple h
  exact ⟨o, its.toArray, n, h1, h2, h3, by simpa using items_are r⟩
/-- the dict at a: what it holds, where its keys stand -/
structure DFat (X : Cx) (H : Hp) (a : Addr) (us : List (List Key × V)) (bs : List Addr) : Prop where
  e : H a = some (dF X.w a us bs)
  keys : Paired (fun (p : List Key × V) b => SqT X.K H b (p.1.map kV)) us bs
theorem DFat.get (F : DFat X H a us bs) (I : Inv X pins σ H s) : us.length ≤ sizeLine ∧ (a == sysModules) = false ∧ ∃ xs, KF us xs ∧ xs.map (·.2.1) = bs ∧ s.heap.DictOfH (tupleKind (mixKind X.prog X.w)) a xs := by
  have ok : ObjOk X.prog X.w H s.heap a (dF X.w a us bs) := I.hok a _ F.e
  unfold dF at ok
  obtain ⟨⟨h1, h2, xs, h3, h4, h5, o, es, ep, h6, h7, h8, h9⟩, _⟩ := ok
  refine ⟨h1, h2, xs, h3, h4, o, es, ep, h6, h7, h8, h9, fun x hx => ?_, h5⟩
  have go : ∀ {us : List (List Key × V)} {xs : List (List Key × Addr × Value)} {bs : List Addr}, KF us xs → xs.map (·.2.1) = bs → Paired (fun (p : List Key × V) b => SqT X.K H b (p.1.map kV)) us bs → ∀ x ∈ xs, (tupleKind (mixKind X.prog X.w)).is s.heap x.1 x.2.1 := by
    intro us xs bs r
    induction r generalizing bs with
    | nil => intro _ _ x hx; cases hx
    | @cons p q ps qs h t ih =>
      intro e k x hx
      subst e
      cases k with
      | cons k1 k2 =>
        rcases List.mem_cons.mp hx with z | z
        · subst z
          rw [← h.1]
          exact key_sq I k1
        · exact ih rfl k2 x z
  exact go h3 h4 F.keys x hx
theorem DFat.stable (w : World) (a : Addr) (us : List (List Key × V)) (bs : List Addr) (h1 h2 : Heap) (k : ∀ o, h1.get? a = some o → h2.get? a = some o) (φ : us.length ≤ sizeLine ∧ (a == sysModules) = false ∧ ∃ xs : List (List Key × Addr × Value), KF us xs ∧ xs.map (·.2.1) = bs ∧ (xs.map (·.1)).Nodup ∧
    ∃ o es ep, h1.get? a = some o ∧ o.ExactDict ∧ o.data = .dict es ep ∧ es.toList = xs.map fun x => ⟨hashT w x.1, .ref x.2.1, x.2.2⟩) : us.length ≤ sizeLine ∧ (a == sysModules) = false ∧ ∃ xs : List (List Key × Addr × Value), KF us xs ∧ xs.map (·.2.1) = bs ∧ (xs.map (·.1)).Nodup ∧
    ∃ o es ep, h2.get? a = some o ∧ o.ExactDict ∧ o.data = .dict es ep ∧ es.toList = xs.map fun x => ⟨hashT w x.1, .ref x.2.1, x.2.2⟩ := by
  obtain ⟨h1, h2, xs, h3, h4, h5, o, es, ep, h6, h7⟩ := φ
  exact ⟨h1, h2, xs, h3, h4, h5, o, es, ep, k o h6, h7⟩
theorem dF_new {H' : Hp} {h' : Heap} (hl : us.length ≤ sizeLine) (hd : (a == sysModules) = false) {xs : List (List Key × Addr × Value)} (r : KF us xs) (hb : xs.map (·.2.1) = bs) (d : h'.DictOfH (tupleKind (mixKind X.prog X.w)) a xs) : ObjOk X.prog X.w H' h' a (dF X.w a us bs) := by
  obtain ⟨o, es, ep, h1, h2, h3, h4, _, h5⟩ := d
  exact ⟨⟨hl, hd, xs, r, hb, h5, o, es, ep, h1, h2, h3, h4⟩, ⟨o, h1⟩, fun g1 g2 φ k => DFat.stable X.w a us bs g1 g2 k φ⟩
end
section
variable {X : Cx} {E : XK} {o e : Expr} {es : List Expr} {fo fe fi : FE} {fs : En → AS → Out (List D)} {apos cpos pos : Pos}
/-! {} -/
@[simp] def vDNewF (_ : En) (st : AS) : Out D := .ok (.ref st.length) (st ++ [.dtf []])
theorem pe_dnewF : PE X (.Dict [] [] pos) (fun _ H Q => ∀ p, H p = none → Q (.ref p) (upd H p (dF X.w p [] []))) := ⟨fun pins s σ H Q I h => by
  refine wpAny_Dict_empty ⟨.ref s.heap.objs.size, _, I.laid (a := s.heap.objs.size) (o := dF X.w s.heap.objs.size [] []) (t' := s.toks) (fun _ _ q => Heap.get?_push_of_some _ q) (Nat.le_refl _) ?_, rfl, h _ (I.hok.fresh (Nat.le_refl _))⟩
  have hb : (s.heap.objs.size == sysModules) = false := beq_eq_false_iff_ne.mpr (Ne.symm (Nat.ne_of_lt I.big))
  exact dF_new (X := X) (xs := []) (Nat.zero_le _) hb .nil rfl ⟨_, #[], 0, Heap.get?_push_size _ rfl, ⟨rfl, rfl, rfl⟩, rfl, rfl, fun _ z => (nomatch z), List.nodup_nil⟩⟩
theorem ve_dnewF : VE X E (.Dict [] [] pos) vDNewF := weakE pe_dnewF fun σ H Q ⟨β, env, st, he, hs, h⟩ p hp =>
  h (β.push p) _ (.ref p) (ext_push hp) (hs.push hp ⟨[], [], upd_same, ⟨rfl, .nil⟩, .nil⟩) (.ref (by rw [← hs.len]; simp [Bt.push]))
/-- what a cell of this kind has at a key -/
@[simp] def cellF (st : AS) (x : D) : Option (List (List Key × D)) := match x with
  | .ref i => (match st[i]? with
    | some (.dtf kvs) => some kvs
    | _ => none)
  | _ => none
@[simp] def keyF (y : D) : Option (List Key) := match y with
  | .ctp ks => keysD ks
  | _ => none
theorem key_ct {K : PySem.W.Frag} {H : Hp} {β : Bt} {y : D} {v : V} {k : List Key} (r : Rep K H β y v) (h : keyF y = some k) : ∃ b, v = .ref b ∧ SqT K H b (k.map kV) := by
  cases r with
  | ctp hc r =>
    have z := r.keys h
    subst z
    exact ⟨_, rfl, hc.sq⟩
  | _ => cases h
theorem kDs_V {K : PySem.W.Frag} {H : Hp} {β : Bt} : ∀ {ks : List Key} {us : List V}, Reps K H β (ks.map kD) us → us = ks.map kV
  | [], _, r => by cases r; rfl
  | k :: ks, _, r => by
    cases r with
    | cons r t =>
      rw [kDs_V t]
      cases k <;> (cases r; rfl)
theorem keys_at {K : PySem.W.Frag} {H : Hp} {β : Bt} : ∀ {kvs : List (List Key × D)} {us : List (List Key × V)} {bs : List Addr}, RepK K H β kvs us → Reps K H β (kvs.map fun p => .ctp (p.1.map kD)) (bs.map V.ref) → Paired (fun (p : List Key × V) b => SqT K H b (p.1.map kV)) us bs
  | [], us, [], r, t => by
    have : us = [] := List.length_eq_zero_iff.mp r.length
    subst this
    exact .nil
  | [], us, _ :: _, r, t => by cases t
  | p :: kvs, us, [], r, t => by cases t
  | p :: kvs, us, b :: bs, r, t => by
    cases us with
    | nil => exact absurd r.length (by simp)
    | cons u us =>
      obtain ⟨r1, r2⟩ := r
      simp only [List.map_cons, List.cons.injEq] at r1
      cases r2 with
      | cons _ r3 =>
        cases t with
        | cons q t =>
          refine .cons ?_ (keys_at ⟨r1.2, r3⟩ t)
          cases q with
          | ctp hc q =>
            rw [← r1.1, ← kDs_V q]
            exact hc.sq
theorem cell_F {β : Bt} {H : Hp} {st : AS} {x : D} {u : V} {kvs : List (List Key × D)} (S : Sim X.K X.mgw β st H) (r : Rep X.K H β x u) (h : cellF st x = some kvs) : ∃ i a us bs, x = .ref i ∧ u = .ref a ∧ β.l[i]? = some a ∧ st[i]? = some (.dtf kvs) ∧ DFat X H a us bs ∧ RepK X.K H β kvs us ∧ Reps X.K H β (kvs.map fun p => .ctp (p.1.map kD)) (bs.map V.ref) := by
  cases r with
  | ref e =>
    rename_i i a
    unfold cellF at h
    dsimp only at h
    split at h
    · rename_i kvs' ec
      cases h
      obtain ⟨us, bs, q, r, t⟩ := S.cell i a _ e ec
      exact ⟨i, a, us, bs, rfl, rfl, e, ec, ⟨q, keys_at r t⟩, r, t⟩
    · cases h
  | _ => cases h
/-! d.get(k, x) -/
def rGetF (X : Cx) : V → List V → Hp → VK → Prop := fun x xs H Q => ∃ a us bs b k z, x = .ref a ∧ xs = [.ref b, z] ∧ DFat X H a us bs ∧ SqT X.K H b (k.map kV) ∧ Q ((valV us k).getD z) H
theorem mt_getF (hu : X.A.units + 1 < cLine) : MtR X "dict.get" (rGetF X) := by
  intro pins s σ H x xs v us Q I rx r h
  obtain ⟨a, ws, bs, b, k, z, rfl, rfl, F, hb, q⟩ := h
  cases rx
  cases r with
  | cons rb t =>
    cases rb
    obtain ⟨w, rfl, rw'⟩ := vals1 t
    obtain ⟨_, hd, xs, rel, _, dd⟩ := F.get I
    refine call_meetsIn PySem.F.slot_dict_get dd.typeIs PySem.F.entry_dict_get (PySem.F.args_dict_get_3 _ _ _) (meetsH_dict_get_default _ a b hd w) ⟨tupleKind_room_in1 hu, k, xs, key_sq I hb, dd, _, _, I.tok _, ?_, q⟩
    exact (rel.at k).getD rw'
def tyDF (X : Cx) (x : V) (H : Hp) : Prop := ∃ a us bs, x = .ref a ∧ DFat X H a us bs
theorem tyDF_is (pins : List (Addr × Obj)) (s : Shared) (σ : L2.St) (H : Hp) (x : V) (v : Value) (I : Inv X pins σ H s) (r : RelV x v) (h : tyDF X x H) : s.TypeIs v "dict" ∧ ∀ a, v = .ref a → ∃ ob, s.heap.get? a = some ob ∧ ob.dict = none := by
  obtain ⟨a, us, bs, rfl, F⟩ := h
  cases r
  obtain ⟨_, _, xs, _, _, dd⟩ := F.get I
  refine ⟨dd.typeIs, fun b q => ?_⟩
  cases q
  obtain ⟨ob, _, _, h1, h2, _⟩ := dd
  exact ⟨ob, h1, h2.2.1⟩
@[simp] def vGetF (fo : FE) (fs : En → AS → Out (List D)) (env : En) (st : AS) : Out D := (fo env st).bind fun x st => match cellF st x with
  | some _ => (fs env st).bind fun xs st => (match xs with
    | [y, z] => (match cellF st x, keyF y with
      | some kvs, some k => .ok ((valK kvs k).getD z) st
      | _, _ => .bad)
    | _ => .bad)
  | none => .bad
theorem getD_ok {K : PySem.W.Frag} {H : Hp} {β : Bt} {kvs : List (List Key × D)} {us : List (List Key × V)} (q : RepK K H β kvs us) (k : List Key) {z : D} {z' : V} (rz : Rep K H β z z') : Rep K H β ((valK kvs k).getD z) ((valV us k).getD z') := by
  obtain ⟨h1, h2⟩ := vals_lookup k q
  unfold valK
  cases e : kvs.find? fun kv => decide (kv.1 = k) with
  | none =>
    rw [h2 e]
    exact rz
  | some kv =>
    obtain ⟨w, e1, rw'⟩ := h1 kv.2 (by rw [e]; rfl)
    rw [e1]
    exact rw'
theorem ve_getF (hu : X.A.units + 65 < cLine) (ho : VE X E o fo) (ha : VA X E (e :: es) fs)
    (hbase : attributeBase o "get" X.env (eval o X.env) = eval o X.env := by rfl)
    (hfew : ((backTo cpos (starEach (e :: es) X.env)).all (fun x => !x.1) && (backToKw cpos (keywordEach [] X.env)).all (fun x => x.1.isSome) && decide ((e :: es).length + ([] : List Keyword).length + (if ([] : List Keyword).isEmpty then 0 else 1) < 30)) = true := by rfl)
    (hline : (apos.endLine == cpos.line) = true := by rfl) (hs : starEach (e :: es) X.env = (false, eval e X.env) :: starEach es X.env := by rfl) (hplain : (backTo cpos (starEach es X.env)).any (·.1) = false := by rfl) :
    VE X E (.Call (.Attribute o "get" apos) (e :: es) [] cpos) (vGetF fo fs) := by
  refine weakE (pe_bmT (tyDF_is (X := X)) PySem.F.plainAttrs_dict PySem.F.slot_dict_get PySem.F.type_dict_get (mt_getF (Nat.lt_of_le_of_lt (by omega) hu)) ho ha hbase hfew hline hs hplain) fun σ H Q ⟨β, env, st, he, hS, h⟩ => ?_
  refine tG_bind he hS h fun x st1 β1 H1 u x1 s1 e1 r1 h3 => ?_
  split at h3
  · rename_i kvs ec
    obtain ⟨i, a, us, bs, rfl, rfl, _, _, F, _, _⟩ := cell_F s1 r1 ec
    refine ⟨⟨a, us, bs, rfl, F⟩, tG_bind e1 s1 h3 fun xs st2 β2 H2 ws x2 s2 e2 r2 h4 => ?_⟩
    split at h4
    · rename_i y z
      obtain ⟨v, w, rfl, rv, rw'⟩ := two_ok r2
      split at h4
      · rename_i kvs2 k ec2 ek
        obtain ⟨i2, a2, us2, bs2, ei, ea, _, _, F2, q2, _⟩ := cell_F s2 (r1.ext x2) ec2
        cases ea
        obtain ⟨b, rfl, hb⟩ := key_ct rv ek
        exact ⟨a, us2, bs2, b, k, w, rfl, rfl, F2, hb, h4.here s2 (getD_ok q2 k rw')⟩
      · exact h4.elim
    · exact h4.elim
  · exact h3.elim
/-! d[k] -/
def rIxF (X : Cx) : R2 := fun x y H Q => ∃ a us bs b k v, x = .ref a ∧ y = .ref b ∧ DFat X H a us bs ∧ SqT X.K H b (k.map kV) ∧ valV us k = some v ∧ Q v H
theorem ix_F (hu : X.A.units + 1 < cLine) : IxR X (rIxF X) := by
  intro value slice pins s σ H x y v u Q I rx ry h hs
  obtain ⟨a, us, bs, b, k, w, rfl, rfl, F, hb, hv, q⟩ := h
  cases rx
  cases ry
  obtain ⟨_, hd, xs, rel, _, dd⟩ := F.get I
  obtain ⟨w', hw, rw'⟩ := RelO.some_of (v := w) (o := (atKey xs k).map (·.2)) (by rw [← hv]; exact rel.at k)
  obtain ⟨p, hp, hp2⟩ := Option.map_eq_some_iff.mp hw
  refine tail_any dd.typeIs slot_dict_getitem.lookup (wpAny_getItem_heap (tupleKind_room_in1 hu) (key_sq I hb) dd hp ?_) hs
  rw [hp2]
  exact ⟨w, H, I.tok _, rw', q⟩
@[simp] def ixF (x y : D) (st : AS) : Out D := match cellF st x, keyF y with
  | some kvs, some k => toOut (valK kvs k) st
  | _, _ => .bad
theorem ve_ixF {b : Expr} {fa fb : FE} (hu : X.A.units + 65 < cLine) (ha : VE X E e fa) (hb : VE X E b fb) (hs : PlainIx b) : VE X E (.Subscript e b pos) (v2 ixF fa fb) :=
  ve_ix (ix_F (Nat.lt_of_le_of_lt (by omega) hu)) (fun β H st x y u v Q S rx ry h => by
    unfold ixF at h
    split at h
    · rename_i kvs k ec ek
      obtain ⟨d, ed, h⟩ := h.opt
      obtain ⟨i, a, us, bs, rfl, rfl, _, _, F, q, _⟩ := cell_F S rx ec
      obtain ⟨b, rfl, hb⟩ := key_ct ry ek
      obtain ⟨w, e1, rw'⟩ := (vals_lookup k q).1 d ed
      exact ⟨a, us, bs, b, k, w, rfl, rfl, F, hb, e1, h.here S rw'⟩
    · exact h.elim) ha hb hs
/-! d[k] = v -/
def rSetF (X : Cx) : TSet := fun o i v H Q => ∃ a us bs b k, o = .ref a ∧ i = .ref b ∧ DFat X H a us bs ∧ SqT X.K H b (k.map kV) ∧ us.length < sizeLine ∧ Q (upd H a (dF X.w a (putK us k v) (putB us bs k b)))
theorem set_F (hu : X.A.units + 1 < cLine) : PSet X (rSetF X) := by
  intro pins s σ H o i v ov iv u Q I ro ri rv h
  obtain ⟨a, us, bs, b, k, rfl, rfl, F, hb, hl, q⟩ := h
  cases ro
  cases ri
  obtain ⟨hz, hd, xs, rel, hbs, dd⟩ := F.get I
  have hz' : xs.length ≤ sizeLine := by
    rw [← Paired.length rel]
    exact hz
  have hp : (putK us k v).length ≤ sizeLine := Nat.le_trans (length_putK us k v) hl
  refine wpAny_setItem_heap (hsz := hz') (tupleKind_room_in1 hu) (key_sq I hb) dd fun h' dd' hs => ⟨_, d_write I ?_ hs ?_ (dF_new hp hd (rel.put k rv) (by rw [rel.puts k b u, hbs]) dd'), q⟩
  · rw [F.e]
    exact True.intro
  · obtain ⟨ob, _, _, z, _⟩ := dd'
    exact ⟨ob, z⟩
@[simp] def putF' (o i v : D) (st : AS) : Out Unit := match o with
  | .ref n => (match cellF st o, keyF i with
    | some kvs, some k => if kvs.length < sizeLine then .ok () (st.set n (.dtf (putKD kvs k v))) else .bad
    | _, _ => .bad)
  | _ => .bad
@[simp] def kSubF (fo fi : En → AS → Out D) (d : D) (env : En) (st : AS) : Out En := (fo env st).bind fun o st => (fi env st).bind fun i st => (putF' o i d st).bind fun _ st => .ok env st
theorem kD_key {K : PySem.W.Frag} {H : Hp} {β : Bt} : ∀ {ks : List D} {k : List Key}, keysD ks = some k → ks = k.map kD
  | [], _, h => by cases h; rfl
  | d :: ds, _, h => by
    unfold keysD at h
    split at h
    · rename_i k1 k2 e1 e2
      cases h
      rw [kD_key (K := K) (H := H) (β := β) e2]
      cases d with
      | int i => cases e1; rfl
      | str i => cases e1; rfl
      | _ => cases e1
    · cases h
theorem vg_subF (hu : X.A.units + 65 < cLine) {i : Expr} (ho : VE X E o fo) (hi : VE X E i fi)
    (ha : ∀ v, assign (.Subscript o i pos) X.env v = (do
      let ov ← holding [v] (eval o X.env)
      let iv ← holding [v, ov] (eval i X.env)
      standAt pos
      holding [v, ov, iv] (setItem ov iv v)
      release [v, ov, iv] []) := by intro _; rfl) : VG X E (.Subscript o i pos) [] (kSubF fo fi) :=
  weakG (pg_sub ho hi (set_F (Nat.lt_of_le_of_lt (by omega) hu)) ha) fun v σ H Q ⟨β, env, st, d, he, hs, r, h⟩ => by
    refine tG_bind he hs h fun x st1 β1 H1 u x1 s1 e1 r1 h1 => ?_
    refine tG_bind e1 s1 h1 fun y st2 β2 H2 w x2 s2 e2 r2 h2 => ?_
    have h3 : Post (ρ := Unit) X.K X.mgw (fun _ _ _ _ => True) E β2 H2 (fun _ H' => Q σ H') (putF' x y d st2) := post_step (R := fun _ _ _ _ => True) h2 fun _ st3 β3 H3 _ x3 s3 _ h3 => h3.here s3 ⟨e2.ext x3, rfl, fun _ _ => rfl⟩
    unfold putF' at h3
    split at h3
    · rename_i n
      split at h3
      · rename_i kvs k ec ek
        obtain ⟨hl, h3⟩ := h3.ite
        obtain ⟨i2, a, us, bs, ei, rfl, ea, es2, F, q, t⟩ := cell_F s2 (r1.ext x2) ec
        cases ei
        obtain ⟨b, rfl, hb⟩ := key_ct r2 ek
        have rv := (r.ext x1).ext x2
        refine ⟨a, us, bs, b, k, rfl, rfl, F, hb, by rw [q.length]; exact hl, ?_⟩
        have hm : a ∈ β2.l := List.mem_of_getElem? ea
        have xx : Ext β2 H2 β2 (upd H2 a (dF X.w a (putK us k v) (putB us bs k b))) := ext_put hm F.e (by intro z u2 q2; unfold dF at q2; cases q2)
        refine h3 β2 _ () xx (s2.put (o := dF X.w a (putK us k v) (putB us bs k b)) (c := .dtf (putKD kvs k d)) ea ⟨_, _, upd_same, (q.put rv k).ext xx, ?_⟩) trivial
        have ha : (us.any fun kv => decide (kv.1 = k)) = kvs.any fun kv => decide (kv.1 = k) := by
          rw [valV_any]
          exact q.any k
        have kk : Reps X.K (upd H2 a (dF X.w a (putK us k v) (putB us bs k b))) β2 ((putKD kvs k d).map fun p => D.ctp (p.1.map kD)) ((putB us bs k b).map V.ref) := by
          have t2 := t.ext xx
          generalize upd H2 a (dF X.w a (putK us k v) (putB us bs k b)) = H3 at xx t2
          unfold putB putKD
          rw [ha]
          split
          · rw [List.map_map]
            have : (kvs.map ((fun p : List Key × D => D.ctp (p.1.map kD)) ∘ fun kv => if kv.1 = k then (kv.1, d) else kv)) = kvs.map fun p => D.ctp (p.1.map kD) := by
              apply List.map_congr_left
              intro p _
              show D.ctp (List.map kD (if p.1 = k then (p.1, d) else p).1) = _
              split <;> rfl
            rw [this]
            exact t2
          · rw [List.map_append, List.map_append]
            refine t2.append (.cons ?_ .nil)
            cases y with
            | ctp ks =>
              show Rep X.K H3 β2 (.ctp (k.map kD)) (V.ref b)
              rw [← kD_key (K := X.K) (H := H2) (β := β2) ek]
              exact r2.ext xx
            | _ => cases ek
        exact kk
      · exact h3.elim
    · exact h3.elim
end
end VL

set_option Elab.async false
set_option linter.all false
set_option maxRecDepth 100000
set_option maxHeartbeats 1000000
namespace TB
open PySem PySem.Spec PyProof.Rows L2

/-! ### zip(t, u, l), two tuples and a list -/
def It3L (K : PySem.W.Frag) (a b c : Addr) : It :=
  ⟨fun i H => ∃ (xs ys zs : List V) (x y z : V), (SqT K H a xs ∧ SqT K H b ys ∧ SqL K H c zs) ∧ xs[i]? = some x ∧ ys[i]? = some y ∧ zs[i]? = some z,
    fun i H v H' => ∃ T x y z, v = .ref T ∧ H T = none ∧ H' = upd H T (.tup [x, y, z]) ∧ (∀ xs, SqT K H a xs → xs[i]? = some x) ∧ (∀ ys, SqT K H b ys → ys[i]? = some y) ∧ ∀ zs, SqL K H c zs → zs[i]? = some z,
    fun i H => ∃ xs ys zs : List V, (SqT K H a xs ∧ SqT K H b ys ∧ SqL K H c zs) ∧ i = min (min xs.length ys.length) zs.length⟩
theorem turn_3L {P : Program} {w : World} {K : PySem.W.Frag} {elts : List Expr} {kk : Nat} {tpos : Pos} {a b c z TI TO i1 i2 i3 : Addr} (S : ZipSep3 z TI TO i1 i2 i3 [i1, a] [i2, b] [i3, c]) (na : a ≠ i1) (nb : b ≠ i2) (nc : c ≠ i3) :
    Turn P w K (.Tuple elts kk tpos) (It3L K a b c) [z, TI, TO, i1, i2, i3] z (fun i h => IsZip h z TI TO .none ∧ IsTupOf3 h TI (.ref i1) (.ref i2) (.ref i3) ∧ (∃ x y u, IsTupOf3 h TO x y u) ∧ h.IsTupleIter i1 a i ∧ h.IsTupleIter i2 b i ∧ h.IsListIter i3 c i) where
  mem := by simp
  obj := fun i h st q hq => by
    obtain ⟨isz, pI, ⟨x, y, u, pO⟩, ⟨o1, e1, _, d1⟩, ⟨o2, e2, _, d2⟩, ⟨o3, e3, _, d3⟩⟩ := st
    have six : q = z ∨ q = TI ∨ q = TO ∨ q = i1 ∨ q = i2 ∨ q = i3 := by simpa using hq
    rcases six with rfl | rfl | rfl | rfl | rfl | rfl
    · exact ⟨_, isz, fun v q => nomatch q⟩
    · exact ⟨_, pI, fun v q => nomatch q⟩
    · exact ⟨_, pO, fun v q => nomatch q⟩
    · exact ⟨o1, e1, fun v q => by rw [d1] at q; cases q⟩
    · exact ⟨o2, e2, fun v q => by rw [d2] at q; cases q⟩
    · exact ⟨o3, e3, fun v q => by rw [d3] at q; cases q⟩
  keep := fun i h h' st k => by
    obtain ⟨isz, pI, ⟨x, y, u, pO⟩, h1, h2, h3⟩ := st
    exact ⟨k _ (by simp) _ isz, k _ (by simp) _ pI, ⟨x, y, u, k _ (by simp) _ pO⟩, h1.at fun o q => k _ (by simp) o q, h2.at fun o q => k _ (by simp) o q, h3.at fun o q => k _ (by simp) o q⟩
  item := by
    intro X eP eW eK hc i pins s σ H E I hf st hg
    subst eP eW eK
    obtain ⟨isz, pI, pO, h1, h2, h3⟩ := st
    obtain ⟨xs, ys, zs, x, y, u, ⟨qx, qy, qz⟩, hx, hy, hu⟩ := hg
    obtain ⟨is1, r1, p1, _⟩ := I.tuple qx
    obtain ⟨is2, r2, p2, _⟩ := I.tuple qy
    obtain ⟨is3, r3, pl3, _⟩ := I.list qz
    have p3 := pl3.isList
    obtain ⟨v1, a1, w1⟩ := r1.get hx
    obtain ⟨v2, a2, w2⟩ := r2.get hy
    obtain ⟨v3, a3, w3⟩ := r3.get hu
    have D1 := Draws.tuple (prog := X.prog) (w := X.w) (A := X.A.in1) (I.ok.hd hc) i1 a na is1.toArray
    have D2 := Draws.tuple (prog := X.prog) (w := X.w) (A := X.A.in1) (I.ok.hd hc) i2 b nb is2.toArray
    have D3 := Draws.list (prog := X.prog) (w := X.w) (A := X.A.in1) (I.ok.hd hc) i3 c nc is3.toArray
    have WT := WalksT.zipD3 S D1 D2 D3
    have l1 := (List.getElem?_eq_some_iff.mp a1).1
    have l2 := (List.getElem?_eq_some_iff.mp a2).1
    have l3 := (List.getElem?_eq_some_iff.mp a3).1
    have il : i < min (min is1.toArray.size is2.toArray.size) is3.toArray.size := by
      simp only [List.size_toArray]
      omega
    have inH : ∀ q ∈ [z, TI, TO, i1, i2, i3], q < s.heap.objs.size := fun q hq => by
      have six : q = z ∨ q = TI ∨ q = TO ∨ q = i1 ∨ q = i2 ∨ q = i3 := by simpa using hq
      obtain ⟨_, _, _, pO'⟩ := pO
      obtain ⟨_, e1, _⟩ := h1
      obtain ⟨_, e2, _⟩ := h2
      obtain ⟨_, e3, _⟩ := h3
      rcases six with rfl | rfl | rfl | rfl | rfl | rfl
      · exact Heap.lt_size isz
      · exact Heap.lt_size pI
      · exact Heap.lt_size pO'
      · exact Heap.lt_size e1
      · exact Heap.lt_size e2
      · exact Heap.lt_size e3
    refine WT.item i s _ E il ⟨isz, pI, pO, ⟨h1, p1⟩, ⟨h2, p2⟩, ⟨h3, p3⟩⟩ fun T vals g tk hP le hT mid hk => ?_
    obtain ⟨x1, x2, x3, e1, e2, e3, rfl⟩ := hP
    have k1 : x1 = v1 := Option.some.inj (by rw [← a1, ← e1]; simp)
    have k2 : x2 = v2 := Option.some.inj (by rw [← a2, ← e2]; simp)
    have k3 : x3 = v3 := Option.some.inj (by rw [← a3, ← e3]; simp)
    subst k1 k2 k3
    have out := WT.apart i T g mid
    refine ⟨_, rfl, WT.go elts kk tpos i T { s with heap := g, toks := tk } _ E mid fun g2 st2 hk2 => ?_⟩
    obtain ⟨z2, I2', O2', ⟨t1, _⟩, ⟨t2, _⟩, ⟨t3, _⟩⟩ := st2
    have hT2 : g2.IsTuple T #[x1, x2, x3] := hT.at fun o q => hk2 T o out q
    have new : ObjOk X.prog X.w (upd H T (.tup [x, y, u])) g2 T (.tup [x, y, u]) := ⟨by show 3 ≤ sizeLine; decide, [x1, x2, x3], .cons w1 (.cons w2 (.cons w3 .nil)), hT2⟩
    have I1 : Inv X pins σ (upd H T (.tup [x, y, u])) { s with heap := g2, toks := tk } := by
      refine I.turnedNew (ch := [z, TI, TO, i1, i2, i3]) (fun q o hq e => ?_) hf le new
      have six : q ≠ z ∧ q ≠ TI ∧ q ≠ TO ∧ q ≠ i1 ∧ q ≠ i2 ∧ q ≠ i3 := by simpa using hq
      have five : q ∉ [z, TO, i1, i2, i3] := by simpa using ⟨six.1, six.2.2.1, six.2.2.2.1, six.2.2.2.2.1, six.2.2.2.2.2⟩
      exact hk2 q o five (hk q o five e)
    refine ⟨.ref T, _, I1, rfl, ⟨T, x, y, u, rfl, I.hok.fresh le, rfl, fun l hl => by rw [I.tuple_inj hl qx]; exact hx, fun l hl => by rw [I.tuple_inj hl qy]; exact hy, fun l hl => by rw [I.list_inj hl qz]; exact hu⟩, ⟨z2, I2', O2', t1, t2, t3⟩, fun q hq => ?_⟩
    have lt := inH q hq
    rw [upd_ne (Nat.ne_of_lt (Nat.lt_of_lt_of_le lt le))]
    exact (hf q hq).1
  done := by
    intro X eP eW eK hc i pins s σ H E I hf st hg
    subst eP eW eK
    obtain ⟨isz, pI, pO, h1, h2, h3⟩ := st
    obtain ⟨xs, ys, zs, ⟨qx, qy, qz⟩, hend⟩ := hg
    obtain ⟨is1, r1, p1, _⟩ := I.tuple qx
    obtain ⟨is2, r2, p2, _⟩ := I.tuple qy
    obtain ⟨is3, r3, pl3, _⟩ := I.list qz
    have p3 := pl3.isList
    have m1 := r1.length
    have m2 := r2.length
    have m3 := r3.length
    have D1 := Draws.tuple (prog := X.prog) (w := X.w) (A := X.A.in1) (I.ok.hd hc) i1 a na is1.toArray
    have D2 := Draws.tuple (prog := X.prog) (w := X.w) (A := X.A.in1) (I.ok.hd hc) i2 b nb is2.toArray
    have D3 := Draws.list (prog := X.prog) (w := X.w) (A := X.A.in1) (I.ok.hd hc) i3 c nc is3.toArray
    have WT := WalksT.zipD3 S D1 D2 D3
    have ei : min (min is1.toArray.size is2.toArray.size) is3.toArray.size = i := by
      simp only [List.size_toArray]
      omega
    refine WT.done s _ E (by rw [ei]; exact ⟨isz, pI, pO, ⟨h1, p1⟩, ⟨h2, p2⟩, ⟨h3, p3⟩⟩) fun g tk hk => ⟨rfl, I.turnedL (ch := [z, TI, TO, i1, i2, i3]) (fun q o hq e => ?_) hf⟩
    have six : q ≠ z ∧ q ≠ TI ∧ q ≠ TO ∧ q ≠ i1 ∧ q ≠ i2 ∧ q ≠ i3 := by simpa using hq
    exact hk q o (by simpa using ⟨six.1, six.2.2.1, six.2.2.2.1, six.2.2.2.2.1, six.2.2.2.2.2⟩) e
  self := fun _ _ _ _ _ st h => wpAny_pyIter_zip st.1 h
def i3TL (K : PySem.W.Frag) (ta : TA) : TI := fun σ H R => ta σ H fun vs H1 => ∃ a b c xs ys zs, vs = [.ref a, .ref b, .ref c] ∧ (SqT K H1 a xs ∧ SqT K H1 b ys ∧ SqL K H1 c zs) ∧ R (It3L K a b c) H1
theorem pi_zip3L {X : Cx} {e e2 e3 : Expr} {ta : TA} {p pos tpos : Pos} {elts : List Expr} {kk : Nat} (hg : Gl X "zip") (hm : X.mg "zip" = none) (ha : PA X [e, e2, e3] ta)
    (hs : starEach [e, e2, e3] X.env = (false, eval e X.env) :: starEach [e2, e3] X.env := by rfl) (hpl : (backTo pos (starEach [e2, e3] X.env)).any (·.1) = false := by rfl) : PI X (.Tuple elts kk tpos) (.Call (.Name "zip" p) [e, e2, e3] [] pos) (i3TL X.K ta) := by
  refine ⟨fun pins s0 σ H R I h => ?_⟩
  refine Call_ (ld_blt I hg hm PyProof.Rows.boot_zip (PyProof.Rows.callWith_type1 (thn (ha.run pos pins s0 σ H _ I h) fun us u ⟨vs, H1, I1, r1, q1⟩ => ?_) hs hpl))
  obtain ⟨a, b, c, xs, ys, zs, rfl, ⟨qx, qy, qz⟩, q⟩ := q1
  cases r1 with
  | cons ra rr =>
    cases rr with
    | cons rb rr =>
      cases rr with
      | cons rc rr =>
        cases rr
        cases ra
        cases rb
        cases rc
        obtain ⟨is1, _, p1, _⟩ := I1.tuple qx
        obtain ⟨is2, _, p2, _⟩ := I1.tuple qy
        obtain ⟨is3, _, pl3, _⟩ := I1.list qz
        have p3 := pl3.isList
        have la : a < u.heap.objs.size := by obtain ⟨o, ho, _⟩ := id p1; exact Heap.lt_size ho
        have lb : b < u.heap.objs.size := by obtain ⟨o, ho, _⟩ := id p2; exact Heap.lt_size ho
        have lc : c < u.heap.objs.size := by obtain ⟨o, ho, _⟩ := id p3; exact Heap.lt_size ho
        refine zip_begins3 (begins_tuple a is1.toArray) (begins_tuple b is2.toArray) (begins_list c is3.toArray) p1 p2 p3 fun g hz hTI hTO g1 g2 g3 hsz hk => wpAny_pyIter_zip hz ?_
        have I2 : Inv X pins σ H1 { u with heap := g } := I1.kept (t' := u.toks) hk
        generalize hn : u.heap.objs.size = n at *
        have fr : ∀ q, q ∈ [n + 5, n + 3, n + 4, n, n + 1, n + 2] → FpOk X pins H1 q := fun q hq => by
          have six : q = n + 5 ∨ q = n + 3 ∨ q = n + 4 ∨ q = n ∨ q = n + 1 ∨ q = n + 2 := by simpa using hq
          have le : u.heap.objs.size ≤ q := by rw [hn]; omega
          exact I1.fpOk le (I1.hok.fresh le)
        have sep := zip_sep3 (N := n) (fp1 := [a]) (fp2 := [b]) (fp3 := [c]) (fun q hq => by rw [List.mem_singleton.mp hq]; exact la) (fun q hq => by rw [List.mem_singleton.mp hq]; exact lb) (fun q hq => by rw [List.mem_singleton.mp hq]; exact lc)
        exact ⟨n + 5, [n + 5, n + 3, n + 4, n, n + 1, n + 2], _, _, H1, rfl, I2, turn_3L (z := n + 5) (TI := n + 3) (TO := n + 4) (i1 := n) (i2 := n + 1) (i3 := n + 2) sep (Nat.ne_of_lt la) (Nat.ne_of_lt (Nat.lt_succ_of_lt lb)) (Nat.ne_of_lt (Nat.lt_succ_of_lt (Nat.lt_succ_of_lt lc))),
          ⟨hz, hTI, ⟨_, _, _, hTO⟩, ⟨_, g1, rfl, rfl⟩, ⟨_, g2, rfl, rfl⟩, ⟨_, g3, rfl, rfl⟩⟩, fr, q⟩
theorem walk_3L {K : PySem.W.Frag} {a b c : Addr} {xs ys zs : List V} {n : Nat} (hn : n = min (min xs.length ys.length) zs.length) : Walk (It3L K a b c) n (fun H => SqT K H a xs ∧ SqT K H b ys ∧ SqL K H c zs) (YTri xs ys zs) := by
  refine ⟨fun i H hi q => ?_, fun H q => ⟨xs, ys, zs, q, hn⟩, fun i H x H' hi q y => ?_⟩
  · have h1 : i < xs.length := by omega
    have h2 : i < ys.length := by omega
    have h3 : i < zs.length := by omega
    exact ⟨xs, ys, zs, xs[i], ys[i], zs[i], q, by simp [h1], by simp [h2], by simp [h3]⟩
  · obtain ⟨T, u, v, r, h1, h2, h3, h4, h5, h6⟩ := y
    exact ⟨T, u, v, r, h1, h2, h3, h4 xs q.1, h5 ys q.2.1, h6 zs q.2.2⟩
end TB

set_option Elab.async false
set_option linter.all false
set_option maxRecDepth 100000
/-! The value layer: odds and ends for the texts written by program. -/
namespace VL
open PySem PySem.Spec PyProof.Rows L2 TB
def clsS (s : Stmt) (j : Nat) : Stmt := match s with
  | .ClassDef _ _ _ b _ _ _ _ _ _ _ => b.getD j (.Pass ⟨0, 0, 0, 0⟩)
  | _ => s
theorem _root_.TB.FnG.up {P : Program} {w : World} {K : PySem.W.Frag} {mg : Str → Option Value} {base : Heap} {CX : CXT} {k k' : Nat} {f : Addr} {fd : FuncData} {ps : List Str} {sp : Sp} (F : FnG P w K mg base CX k f fd ps sp) (h : k ≤ k') : FnG P w K mg base CX k' f fd ps sp :=
  ⟨F.len, fun A hg hr => F.run A hg (hr.mono h)⟩
/-! ### zip of three: two tuples, and a tuple or a list -/
section
variable {K : PySem.W.Frag} {mg : MG} {β β' : Bt} {H H' : Hp} {st : AS}
abbrev tri (ds es fs : List D) : List D := (ds.zip (es.zip fs)).map fun p => .tup [p.1, p.2.1, p.2.2]
theorem tri_at {ds es fs : List D} {i : Nat} {d e f : D} (h1 : ds[i]? = some d) (h2 : es[i]? = some e) (h3 : fs[i]? = some f) : (tri ds es fs)[i]? = some (.tup [d, e, f]) := by
  unfold tri
  rw [List.getElem?_map, List.getElem?_zip_eq_some (z := (d, (e, f))) |>.mpr ⟨h1, List.getElem?_zip_eq_some (z := (e, f)) |>.mpr ⟨h2, h3⟩⟩]
  rfl
theorem walk_tri {J : It} {G : List V → List V → List V → Hp → Prop} {ds es fs : List D} {gs : Gd} {n : Nat} (hn : n = min (min ds.length es.length) fs.length)
    (hW : ∀ us ws zs : List V, us.length = ds.length → ws.length = es.length → zs.length = fs.length → Walk J n (G us ws zs) (YTri us ws zs))
    (hG : ∀ β' H' st, ExtF β H β' H' → Sim K mg β' st H' → gs.ok st → ∃ us ws zs, G us ws zs H' ∧ Reps K H' β' ds us ∧ Reps K H' β' es ws ∧ Reps K H' β' fs zs) : WalkD K mg β H J (tri ds es fs) gs := by
  have hl : (tri ds es fs).length = n := by
    simp only [tri, List.length_map, List.length_zip]
    omega
  refine ⟨fun i β' H' st x S g hi => ?_, fun β' H' st x S g => ?_, fun i β' H' st v H2 x S g hi y => ?_⟩
  · obtain ⟨us, ws, zs, q, r, r', r2⟩ := hG β' H' st x S g
    exact (hW us ws zs r.length r'.length r2.length).goes i H' (by omega) q
  · obtain ⟨us, ws, zs, q, r, r', r2⟩ := hG β' H' st x S g
    rw [hl]
    exact (hW us ws zs r.length r'.length r2.length).stops H' q
  · obtain ⟨us, ws, zs, q, r, r', r2⟩ := hG β' H' st x S g
    obtain ⟨T, a, b, c, rfl, nT, rfl, ea, eb, ec⟩ := (hW us ws zs r.length r'.length r2.length).yields i H' v H2 (by omega) q y
    obtain ⟨d1, f1, q1⟩ := r.get' ea
    obtain ⟨d2, f2, q2⟩ := r'.get' eb
    obtain ⟨d3, f3, q3⟩ := r2.get' ec
    have sm : Same H' (upd H' T (.tup [a, b, c])) := same_upd nT
    exact ⟨sm, .tup [d1, d2, d3], tri_at f1 f2 f3, .tup (S.fresh nT) upd_same (.cons (q1.ext (Ext.same sm)) (.cons (q2.ext (Ext.same sm)) (.cons (q3.ext (Ext.same sm)) .nil)))⟩
theorem three_ok {x y z : D} {us : List V} (r : Reps K H β [x, y, z] us) : ∃ u v t, us = [u, v, t] ∧ Rep K H β x u ∧ Rep K H β y v ∧ Rep K H β z t := by
  cases r with
  | cons a t =>
    obtain ⟨u, v, rfl, ru, rv⟩ := two_ok t
    exact ⟨_, u, v, rfl, a, ru, rv⟩
end
section
variable {X : Cx} {E : XK} {e e2 e3 : Expr} {fs : En → AS → Out (List D)} {pos p : Pos}
@[simp] def zip3D (xs : List D) (st : AS) : Out (List D × Gd) := match xs with
  | [d, e, f] => if isTupD d = true ∧ isTupD e = true then (match seqOf st d, seqOf st e, seqOf st f with
    | some ds, some es, some fs => .ok (tri ds es fs, gdOf d ds ++ (gdOf e es ++ gdOf f fs)) st
    | _, _, _ => .bad) else .bad
  | _ => .bad
theorem vi_zip3 {tpos : Pos} {elts : List Expr} {kk : Nat} (hg : Gl X "zip") (hm : X.mg "zip" = none) (ha : VA X E [e, e2, e3] fs) (hs : starEach [e, e2, e3] X.env = (false, eval e X.env) :: starEach [e2, e3] X.env := by rfl) (hpl : (backTo pos (starEach [e2, e3] X.env)).any (·.1) = false := by rfl) :
    VI X E (.Tuple elts kk tpos) (.Call (.Name "zip" p) [e, e2, e3] [] pos) (vA zip3D fs) := by
  refine weakI (orI (pi_zip3 hg hm ha hs hpl) (pi_zip3L hg hm ha hs hpl)) fun σ H Q h => ?_
  rcases pickA h with ⟨β, env, st, ds, st1, hE, hS, ev, h⟩ | h
  · unfold zip3D at h
    split at h
    · rename_i d e' f'
      obtain ⟨⟨td, te⟩, h⟩ := h.ite
      split at h
      · rename_i xs ys zs ed ee ef
        have all : ∀ {β1 : Bt} {H1 : Hp} {us : List V}, Sim X.K X.mgw β1 st1 H1 → Reps X.K H1 β1 [d, e', f'] us → ∃ a b c, us = [.ref a, .ref b, .ref c] ∧
            (∀ β' H' st', ExtF β1 H1 β' H' → Sim X.K X.mgw β' st' H' → Gd.ok (gdOf d xs ++ (gdOf e' ys ++ gdOf f' zs)) st' → ∃ us' ws' zs', (SqT X.K H' a us' ∧ SqT X.K H' b ws' ∧ SqB (isTupD f') X.K H' c zs') ∧ Reps X.K H' β' xs us' ∧ Reps X.K H' β' ys ws' ∧ Reps X.K H' β' zs zs') ∧ (∃ us' ws' zs', SqT X.K H1 a us' ∧ SqT X.K H1 b ws' ∧ SqB (isTupD f') X.K H1 c zs') := by
          intro β1 H1 us s1 r1
          obtain ⟨u, v, t, rfl, ru, rv, rt⟩ := three_ok r1
          obtain ⟨a, rfl, hl⟩ := later s1 ru ed
          obtain ⟨b, rfl, hl'⟩ := later s1 rv ee
          obtain ⟨c, rfl, hl2⟩ := later s1 rt ef
          rw [td] at hl
          rw [te] at hl'
          refine ⟨a, b, c, rfl, fun β' H' st' x' s' g => ?_, ?_⟩
          · obtain ⟨g1, g2⟩ := gd_app.mp g
            obtain ⟨g2, g3⟩ := gd_app.mp g2
            obtain ⟨us', q, r⟩ := hl β' H' st' x' s' g1
            obtain ⟨ws', q', r'⟩ := hl' β' H' st' x' s' g2
            obtain ⟨zs', q2, r2⟩ := hl2 β' H' st' x' s' g3
            exact ⟨us', ws', zs', ⟨q, q', q2⟩, r, r', r2⟩
          · obtain ⟨us', q, _⟩ := hl β1 H1 st1 (ExtF.refl _ _) s1 (gd_now ed)
            obtain ⟨ws', q', _⟩ := hl' β1 H1 st1 (ExtF.refl _ _) s1 (gd_now ee)
            obtain ⟨zs', q2, _⟩ := hl2 β1 H1 st1 (ExtF.refl _ _) s1 (gd_now ef)
            exact ⟨us', ws', zs', q, q', q2⟩
        cases tf : isTupD f' with
        | true =>
          refine .inl (goA hE hS ev fun β1 H1 us x1 s1 r1 => ?_)
          obtain ⟨a, b, c, rfl, hl, us', ws', zs', q, q', q2⟩ := all s1 r1
          rw [tf] at hl q2
          exact ⟨a, b, c, us', ws', zs', rfl, ⟨q, q', q2⟩, h β1 H1 _ x1 s1 (walk_tri (G := fun us ws zs H => SqT X.K H a us ∧ SqT X.K H b ws ∧ SqT X.K H c zs) rfl (fun us ws zs hu hw hz => walk_3 (by rw [hu, hw, hz])) hl)⟩
        | false =>
          refine .inr (goA hE hS ev fun β1 H1 us x1 s1 r1 => ?_)
          obtain ⟨a, b, c, rfl, hl, us', ws', zs', q, q', q2⟩ := all s1 r1
          rw [tf] at hl q2
          exact ⟨a, b, c, us', ws', zs', rfl, ⟨q, q', q2⟩, h β1 H1 _ x1 s1 (walk_tri (G := fun us ws zs H => SqT X.K H a us ∧ SqT X.K H b ws ∧ SqL X.K H c zs) rfl (fun us ws zs hu hw hz => walk_3L (by rw [hu, hw, hz])) hl)⟩
      · exact h.elim
    · exact h.elim
  · exact .inl (h _)
end
end VL

set_option Elab.async false
set_option linter.all false
set_option maxRecDepth 100000
set_option maxHeartbeats 2000000
namespace G
open PySem VL

abbrev d_LONGEST_WORD : D := .int 8
abbrev d_PLACES : List (Str × D) := [("sit", D.ctp [.str "seat", .str "table"]), ("move", D.ctp [.str "seat", .str "table"]), ("join", D.ctp [.str "table", .str "other"]), ("go", D.ctp [.str "seat"]), ("ask", D.ctp [.str "dish", .str "item", .str "course", .str "seats"]), ("change", D.ctp [.str "dish", .str "item"]), ("fire", D.ctp [.str "table", .str "course"]), ("rush", D.ctp [.str "table", .str "course"]), ("serve", D.ctp [.str "dish"]), ("back", D.ctp [.str "dish"]), ("strike", D.ctp [.str "dish"]), ("pay", D.ctp [.str "seat", .str "pence"]), ("take", D.ctp [.str "seat", .str "other", .str "pence"]), ("even", D.ctp [.str "party"])]
abbrev d_LEAST_SEATS : List (Str × D) := [("seats", D.int 1), ("party", D.int 2)]
noncomputable def B_is_number : En → AS → Fl :=
    (sRet (vAndV (vA isiD (vCons (vVar 0) (vCons (vC (.cv (.v (.ty "int")))) vNil))) (vNotV (vA isiD (vCons (vVar 0) (vCons (vC (.cv (.v (.ty "bool")))) vNil))))))
noncomputable def F_is_number : List D → AS → Out D := vFn 1 0 B_is_number
noncomputable def B_is_word : En → AS → Fl :=
    (sRet (vAndV (vA isiD (vCons (vVar 0) (vCons (vC (.cv (.v (.ty "str")))) vNil))) (vAndV (vChain leD leD (vC (.int 1)) (vA (g1 lenD) (vCons (vVar 0) vNil)) (vC d_LONGEST_WORD)) (vA (g1 (onBls fun bs => bs.all id)) (vCons (vLc false [1] (v1 itD (vVar 0)) (kName 1) tYesV (vChain leD leD (vC (.str "a")) (vVar 1) (vC (.str "z")))) vNil)))))
noncomputable def F_is_word : List D → AS → Out D := vFn 2 0 B_is_word
noncomputable def B_is_count : En → AS → Fl :=
    (sRet (vAndV (vCallA 1 0 [] [.pos 0] F_is_number (vCons (vVar 0) vNil) vNil) (v2 geD (vVar 0) (vC (.int 0)))))
noncomputable def F_is_count : List D → AS → Out D := vFn 1 0 B_is_count
noncomputable def B_is_tuple_of : En → AS → Fl :=
    (sRet (vAndV (vA isiD (vCons (vVar 0) (vCons (vC (.cv (.v (.ty "tuple")))) vNil))) (v2 (eqD false) (vA (g1 lenD) (vCons (vVar 0) vNil)) (vVar 1))))
noncomputable def F_is_tuple_of : List D → AS → Out D := vFn 2 0 B_is_tuple_of
noncomputable def B_are_counts : En → AS → Fl :=
    (sRet (vAndV (vCallA 2 0 [] [.pos 0, .pos 1] F_is_tuple_of (vCons (vVar 0) (vCons (vVar 1) vNil)) vNil) (vA (g1 (onBls fun bs => bs.all id)) (vCons (vLc false [2] (v1 itD (vVar 0)) (kName 2) tYesV (vCallA 1 0 [] [.pos 0] F_is_count (vCons (vVar 2) vNil) vNil)) vNil))))
noncomputable def F_are_counts : List D → AS → Out D := vFn 3 0 B_are_counts
noncomputable def B_rises : En → AS → Fl :=
    (sRet (vA (g1 (onBls fun bs => bs.all id)) (vCons (vLc false [1, 2] (vA zipD (vCons (vVar 0) (vCons (vSl (slD false) (vVar 0) (v1 asI (vC (.int 1))) vNoPart) vNil))) (kTup 2 (kCons (kName 1) (kCons (kName 2) kNil))) tYesV (v2 ltD (vVar 1) (vVar 2))) vNil)))
noncomputable def F_rises : List D → AS → Out D := vFn 3 0 B_rises
noncomputable def B_are_rising_words : En → AS → Fl :=
    (sRet (vAndV (vA isiD (vCons (vVar 0) (vCons (vC (.cv (.v (.ty "tuple")))) vNil))) (vAndV (vA (g1 (onBls fun bs => bs.all id)) (vCons (vLc false [1] (v1 itD (vVar 0)) (kName 1) tYesV (vCallA 1 0 [] [.pos 0] F_is_word (vCons (vVar 1) vNil) vNil)) vNil)) (vCallA 1 0 [] [.pos 0] F_rises (vCons (vVar 0) vNil) vNil))))
noncomputable def F_are_rising_words : List D → AS → Out D := vFn 2 0 B_are_rising_words
end G

set_option Elab.async false
set_option linter.all false
set_option maxRecDepth 100000
set_option maxHeartbeats 2000000
namespace G
open PySem VL

noncomputable def B__law_feed_6a37 : En → AS → Fl :=
    (sRet (vA (gLst true) (vCons (vSl (slD false) (vVar 0) vNoPart (v1 asI (vC (.int 63)))) (vCons (vC (.int 0)) (vCons (vC (.int 0)) (vCons (vC (.int 0)) vNil))))))
noncomputable def F__law_feed_6a37 : List D → AS → Out D := vFn 1 0 B__law_feed_6a37
noncomputable def B__law_draw_ed7e : En → AS → Fl :=
    (sSeq (sAugS (vVar 0) (vC (.int 3)) (iiD fun a b => .int (a + b)) (vC (.int 1)))
    (sSeq (sIf (vB (v2 gtD (v2 ixD (vVar 0) (vC (.int 2))) (vC (.int 0)))) (sSeq (sSet 2 (v2 modD (v2 ixD (vVar 0) (vC (.int 2))) (vVar 1)))
    (sSeq (sAsg (v2 fdivD (v2 ixD (vVar 0) (vC (.int 2))) (vVar 1)) (kSub (vVar 0) (vC (.int 2))))
    (sRet (vVar 2)))) sNext)
    (sSeq (sSet 3 (vIfE (vB (v2 (eqD false) (v2 ixD (vVar 0) (vC (.int 0))) (vA (gLst false) vNil))) (vC (.int 7)) (v2 ixD (v2 ixD (vVar 0) (vC (.int 0))) (v2 modD (v2 ixD (vVar 0) (vC (.int 1))) (vA (g1 lenD) (vCons (v2 ixD (vVar 0) (vC (.int 0))) vNil))))))
    (sSeq (sAugS (vVar 0) (vC (.int 1)) (iiD fun a b => .int (a + b)) (vC (.int 1)))
    (sSeq (sIf (vAnd (vB (v2 geD (vVar 3) (v2 powD (vC (.int 10)) (vC (.int 18))))) (vB (v2 leD (v2 ixD (vVar 0) (vC (.int 1))) (vA (g1 lenD) (vCons (v2 ixD (vVar 0) (vC (.int 0))) vNil))))) (sSeq (sAsg (v2 fdivD (vVar 3) (vVar 1)) (kSub (vVar 0) (vC (.int 2))))
    (sRet (v2 modD (vVar 3) (vVar 1)))) sNext)
    (sSeq (sSet 4 (v2 ixD (vVar 0) (vC (.int 3))))
    (sSeq (sSet 5 (v2 modD (v2 (addD false) (v2 (addD false) (v2 modD (vVar 3) (vC (.int 2147483629))) (v2 (mulD false) (v2 (mulD false) (vC (.int 69621)) (vVar 4)) (vVar 4))) (v2 (mulD false) (vC (.int 7)) (vVar 4))) (vC (.int 2147483629))))
    (sSeq (sSet 5 (v2 modD (v2 (addD false) (v2 (mulD false) (vVar 5) (vVar 5)) (v2 (mulD false) (vC (.int 48271)) (vVar 4))) (vC (.int 2147483647))))
    (sSeq (sSet 5 (v2 modD (v2 (addD false) (v2 (mulD false) (vVar 5) (vVar 5)) (v2 (mulD false) (vC (.int 16807)) (vVar 4))) (vC (.int 2147483587))))
    (sRet (v2 modD (v2 fdivD (v2 modD (v2 (addD false) (v2 (mulD false) (vVar 5) (vVar 5)) (vVar 4)) (vC (.int 2147483629))) (vC (.int 131))) (vVar 1))))))))))))
noncomputable def F__law_draw_ed7e : List D → AS → Out D := vFn 6 0 B__law_draw_ed7e
noncomputable def B__law_after : En → AS → Fl :=
    (sSeq (sSet 1 (vC (.str "abcdefghijklmnopqrstuvwxyz")))
    (sSeq (sIf (vB (v2 ltD (vA (g1 lenD) (vCons (vVar 0) vNil)) (vC (.int 8)))) (sRet (v2 (addD false) (vVar 0) (vC (.str "a")))) sNext)
    (sSeq (sSet 2 (vC (.int 7)))
    (sSeq (sWhile (vAnd (vB (v2 gtD (vVar 2) (vC (.int 0)))) (vB (v2 (eqD false) (v2 ixD (vVar 0) (vVar 2)) (vC (.str "z"))))) (sAug 2 (iiD fun a b => .int (a - b)) (vC (.int 1))))
    (sSeq (sSet 3 (v2 ixD (vVar 1) (v2 modD (v2 (addD false) (vMS sidxD (vVar 1) (vCons (v2 ixD (vVar 0) (vVar 2)) vNil)) (vC (.int 1))) (vC (.int 26)))))
    (sRet (v2 (addD false) (v2 (addD false) (vSl (slD false) (vVar 0) vNoPart (v1 asI (vVar 2))) (vVar 3)) (v2 (mulD false) (vC (.str "a")) (v2 subD (vC (.int 7)) (vVar 2))))))))))
noncomputable def F__law_after : List D → AS → Out D := vFn 4 0 B__law_after
noncomputable def B__law_word_8a86 : En → AS → Fl :=
    (sSeq (sSet 2 (vC (.str "abcdefghijklmnopqrstuvwxyz")))
    (sSeq (sSet 3 (vCallA 2 0 [] [.pos 0, .pos 1] F__law_draw_ed7e (vCons (vVar 0) (vCons (vC (.int 5)) vNil)) vNil))
    (sSeq (sSet 4 (v2 ixD (vVar 2) (vCallA 2 0 [] [.pos 0, .pos 1] F__law_draw_ed7e (vCons (vVar 0) (vCons (vC (.int 26)) vNil)) vNil)))
    (sSeq (sIf (vOr (vB (v2 gtD (vVar 3) (vC (.int 1)))) (vB (v2 (eqD false) (vVar 1) (vA (gLst false) vNil)))) (sFor (vA rng1 (vCons (vCallA 2 0 [] [.pos 0, .pos 1] F__law_draw_ed7e (vCons (vVar 0) (vCons (vC (.int 8)) vNil)) vNil) vNil)) (kName 5) (sKill [5] (sSet 4 (v2 (addD false) (vVar 4) (v2 ixD (vVar 2) (vCallA 2 0 [] [.pos 0, .pos 1] F__law_draw_ed7e (vCons (vVar 0) (vCons (vC (.int 26)) vNil)) vNil)))))) (sSeq (sSet 6 (v2 ixD (vVar 1) (vCallA 2 0 [] [.pos 0, .pos 1] F__law_draw_ed7e (vCons (vVar 0) (vCons (vA (g1 lenD) (vCons (vVar 1) vNil)) vNil)) vNil)))
    (sSet 4 (vIfE (vB (v2 (eqD false) (vVar 3) (vC (.int 0)))) (vSl (slD false) (vVar 6) vNoPart (v1 asI (v2 (addD false) (vC (.int 1)) (vCallA 2 0 [] [.pos 0, .pos 1] F__law_draw_ed7e (vCons (vVar 0) (vCons (vA (g1 lenD) (vCons (vVar 6) vNil)) vNil)) vNil)))) (v2 (addD false) (vSl (slD false) (vVar 6) vNoPart (v1 asI (vC (.int 7)))) (v2 ixD (vVar 2) (vCallA 2 0 [] [.pos 0, .pos 1] F__law_draw_ed7e (vCons (vVar 0) (vCons (vC (.int 26)) vNil)) vNil)))))))
    (sSeq (sFor (vA rng1 (vCons (vC (.int 60)) vNil)) (kName 5) (sKill [5] (sSeq (sIf (vB (v2 (inD true) (vVar 4) (vVar 1))) sBreak sNext)
    (sSet 4 (vCallA 1 0 [] [.pos 0] F__law_after (vCons (vVar 4) vNil) vNil)))))
    (sRet (vVar 4)))))))
noncomputable def F__law_word_8a86 : List D → AS → Out D := vFn 7 0 B__law_word_8a86
noncomputable def B__law_bend (F : List D → AS → Out D) : En → AS → Fl :=
    (sSeq (sIf (vAnd (v1 truD (vA isiD (vCons (vVar 1) (vCons (vC (.cv (.v (.ty "tuple")))) vNil)))) (vAnd (vB (v2 (eqD true) (vVar 1) (vA gTup vNil))) (vB (v2 gtD (vCallA 2 0 [] [.pos 0, .pos 1] F__law_draw_ed7e (vCons (vVar 0) (vCons (vC (.int 4)) vNil)) vNil) (vC (.int 0)))))) (sSeq (sSet 3 (vCallA 2 0 [] [.pos 0, .pos 1] F__law_draw_ed7e (vCons (vVar 0) (vCons (vA (g1 lenD) (vCons (vVar 1) vNil)) vNil)) vNil))
    (sRet (v2 (addD false) (v2 (addD false) (vSl (slD false) (vVar 1) vNoPart (v1 asI (vVar 3))) (vA gTup (vCons (vCallA 3 0 [] [.pos 0, .pos 1, .pos 2] F (vCons (vVar 0) (vCons (v2 ixD (vVar 1) (vVar 3)) (vCons (vVar 2) vNil))) vNil) vNil))) (vSl (slD false) (vVar 1) (v1 asI (v2 (addD false) (vVar 3) (vC (.int 1)))) vNoPart)))) sNext)
    (sSeq (sSet 4 (vCallA 2 0 [] [.pos 0, .pos 1] F__law_draw_ed7e (vCons (vVar 0) (vCons (vC (.int 6)) vNil)) vNil))
    (sSeq (sIf (vAnd (v1 truD (vA isiD (vCons (vVar 1) (vCons (vC (.cv (.v (.ty "tuple")))) vNil)))) (vB (v2 ltD (vVar 4) (vC (.int 4))))) (sSeq (sSet 3 (vCallA 2 0 [] [.pos 0, .pos 1] F__law_draw_ed7e (vCons (vVar 0) (vCons (v2 (addD false) (vA (g1 lenD) (vCons (vVar 1) vNil)) (vC (.int 1))) vNil)) vNil))
    (sSeq (sIf (vB (v2 (eqD false) (vVar 4) (vC (.int 0)))) (sRet (v2 (addD false) (v2 (addD false) (vSl (slD false) (vVar 1) vNoPart (v1 asI (vVar 3))) (vA gTup (vCons (v2 ixD (vVar 2) (vCallA 2 0 [] [.pos 0, .pos 1] F__law_draw_ed7e (vCons (vVar 0) (vCons (vA (g1 lenD) (vCons (vVar 2) vNil)) vNil)) vNil)) vNil))) (vSl (slD false) (vVar 1) (v1 asI (vVar 3)) vNoPart))) sNext)
    (sRet (vIfE (vB (v2 (eqD false) (vVar 4) (vC (.int 1)))) (v2 (addD false) (vSl (slD false) (vVar 1) vNoPart (v1 asI (vVar 3))) (vSl (slD false) (vVar 1) (v1 asI (v2 (addD false) (vVar 3) (vC (.int 1)))) vNoPart)) (vIfE (vB (v2 (eqD false) (vVar 4) (vC (.int 2)))) (vA (g1 (lstD false)) (vCons (vVar 1) vNil)) (v2 (addD false) (vVar 1) (vSl (slD false) (vVar 1) vNoPart (v1 asI (vVar 3))))))))) sNext)
    (sSeq (sIf (vAnd (v1 truD (vA isiD (vCons (vVar 1) (vCons (vC (.cv (.v (.ty "int")))) vNil)))) (vB (v2 ltD (vVar 4) (vC (.int 4))))) (sRet (v2 ixD (vA gTup (vCons (v2 (addD false) (vVar 1) (vC (.int 1))) (vCons (v2 subD (vVar 1) (vC (.int 1))) (vCons (v1 negD (vVar 1)) (vCons (vA gTup (vCons (vVar 1) vNil)) vNil))))) (vVar 4))) sNext)
    (sSeq (sIf (vAnd (v1 truD (vA isiD (vCons (vVar 1) (vCons (vC (.cv (.v (.ty "str")))) vNil)))) (vB (v2 ltD (vVar 4) (vC (.int 3))))) (sRet (v2 ixD (vA gTup (vCons (v2 (addD false) (vVar 1) (vC (.str "a"))) (vCons (vSl (slD false) (vVar 1) (v1 asI (vC (.int 1))) vNoPart) (vCons (vA (gLst false) (vCons (vVar 1) vNil)) vNil)))) (vVar 4))) sNext)
    (sRet (v2 ixD (vVar 2) (vCallA 2 0 [] [.pos 0, .pos 1] F__law_draw_ed7e (vCons (vVar 0) (vCons (vA (g1 lenD) (vCons (vVar 2) vNil)) vNil)) vNil))))))))
noncomputable def F__law_bend : Nat → List D → AS → Out D
  | 0 => fun _ _ => .bad
  | n + 1 => vFn 5 0 (B__law_bend (F__law_bend n))
noncomputable def B__law_odd_2e17 : En → AS → Fl :=
    (sSeq (sSet 0 (vA gTup (vCons (vC .non) (vCons (vC (.bl true)) (vCons (vC (.bl false)) (vCons (vC (.str "")) (vCons (vC (.str "a")) (vCons (vC (.str "A")) (vCons (vC (.int 0)) (vCons (vC (.int 1)) (vCons (vC (.int 2)) (vCons (vC (.int 4)) (vCons (v1 negD (vC (.int 1))) (vCons (vA gTup vNil) (vCons (vA (gLst false) vNil) (vCons (vA gTup (vCons (vA (gLst false) (vCons (vC (.int 1)) vNil)) (vCons (vC (.str "a")) vNil))) (vCons (vA gTup (vCons (vC (.str "a")) (vCons (vC (.int 1)) vNil))) (vCons (vA gTup (vCons (vC (.str "a")) vNil)) vNil))))))))))))))))))
    (sRet (v2 (addD false) (vVar 0) (vA gTup (vCons (v2 (mulD false) (v2 (mulD false) (v2 (mulD false) (v2 powD (vC (.int 10)) (vC (.int 64))) (v2 powD (vC (.int 10)) (vC (.int 64)))) (v2 powD (vC (.int 10)) (vC (.int 64)))) (v2 powD (vC (.int 10)) (vC (.int 7)))) (vCons (vC (.str "abcdefgh")) (vCons (vC (.str "abcdefghi")) (vCons (vC (.str "a b")) (vCons (vA gTup (vCons (vC (.int 0)) vNil)) (vCons (vA gTup (vCons (vC (.int 1)) (vCons (vC (.int 1)) vNil))) vNil))))))))))
noncomputable def F__law_odd_2e17 : List D → AS → Out D := vFn 1 0 B__law_odd_2e17
noncomputable def B__law_same : En → AS → Fl :=
    (sRet (vOrV (vAndV (v2 (isND false) (vVar 0) (vC (.bl true))) (vVar 1)) (vAndV (v2 (isND false) (vVar 0) (vC (.bl false))) (vNotV (vVar 1)))))
noncomputable def F__law_same : List D → AS → Out D := vFn 2 0 B__law_same
noncomputable def B__law_number_6395 : En → AS → Fl :=
    (sRet (vAndV (vA isiD (vCons (vVar 0) (vCons (vC (.cv (.v (.ty "int")))) vNil))) (vAndV (v2 (isND true) (vVar 0) (vC (.bl true))) (v2 (isND true) (vVar 0) (vC (.bl false))))))
noncomputable def F__law_number_6395 : List D → AS → Out D := vFn 1 0 B__law_number_6395
noncomputable def B__law_worded_65e4 : En → AS → Fl :=
    (sSeq (sIf (vOr (vNot (v1 truD (vA isiD (vCons (vVar 0) (vCons (vC (.cv (.v (.ty "str")))) vNil))))) (vB (v2 (inD true) (vA (g1 lenD) (vCons (vVar 0) vNil)) (vA gTup (vCons (vC (.int 1)) (vCons (vC (.int 2)) (vCons (vC (.int 3)) (vCons (vC (.int 4)) (vCons (vC (.int 5)) (vCons (vC (.int 6)) (vCons (vC (.int 7)) (vCons (vC (.int 8)) vNil)))))))))))) (sRet (vC (.bl false))) sNext)
    (sRet (v2 (eqD false) (vLc false [1] (v1 itD (vVar 0)) (kName 1) (vOr (vB (v2 ltD (vA (g1 ordCD) (vCons (vVar 1) vNil)) (vC (.int 97)))) (vB (v2 gtD (vA (g1 ordCD) (vCons (vVar 1) vNil)) (vC (.int 122))))) (vVar 1)) (vA (gLst false) vNil))))
noncomputable def F__law_worded_65e4 : List D → AS → Out D := vFn 2 0 B__law_worded_65e4
noncomputable def B__law_great : En → AS → Fl :=
    (sSeq (sSet 1 (vCallA 2 0 [] [.pos 0, .pos 1] F__law_draw_ed7e (vCons (vVar 0) (vCons (vC (.int 100)) vNil)) vNil))
    (sSeq (sFor (vA rng1 (vCons (vIfE (vB (v2 (eqD false) (vCallA 2 0 [] [.pos 0, .pos 1] F__law_draw_ed7e (vCons (vVar 0) (vCons (vC (.int 3)) vNil)) vNil) (vC (.int 0)))) (vCallA 2 0 [] [.pos 0, .pos 1] F__law_draw_ed7e (vCons (vVar 0) (vCons (vC (.int 33)) vNil)) vNil) (vC (.int 0))) vNil)) (kName 2) (sKill [2] (sSet 1 (v2 (addD false) (v2 (mulD false) (vVar 1) (v2 powD (vC (.int 10)) (vC (.int 6)))) (vCallA 2 0 [] [.pos 0, .pos 1] F__law_draw_ed7e (vCons (vVar 0) (vCons (v2 powD (vC (.int 10)) (vC (.int 6))) vNil)) vNil)))))
    (sRet (vIfE (vB (v2 (eqD false) (vCallA 2 0 [] [.pos 0, .pos 1] F__law_draw_ed7e (vCons (vVar 0) (vCons (vC (.int 2)) vNil)) vNil) (vC (.int 0)))) (v1 negD (vVar 1)) (vVar 1)))))
noncomputable def F__law_great : List D → AS → Out D := vFn 3 0 B__law_great
noncomputable def B__law_spoilt_359a : En → AS → Fl :=
    (sSeq (sSet 2 (vC (.str " !\"#$&'()*+,-./0123456789:;<=>?@ABCDEFGHIJKLMNOPQRSTUVWXYZ[\\]^_`abcdefghijklmnopqrstuvwxyz{|}~")))
    (sSeq (sSet 3 (vCallA 2 0 [] [.pos 0, .pos 1] F__law_draw_ed7e (vCons (vVar 0) (vCons (vA (g1 lenD) (vCons (vVar 1) vNil)) vNil)) vNil))
    (sSeq (sSet 4 (v2 ixD (vVar 2) (vCallA 2 0 [] [.pos 0, .pos 1] F__law_draw_ed7e (vCons (vVar 0) (vCons (vA (g1 lenD) (vCons (vVar 2) vNil)) vNil)) vNil)))
    (sSeq (sSet 5 (vCallA 2 0 [] [.pos 0, .pos 1] F__law_draw_ed7e (vCons (vVar 0) (vCons (vC (.int 3)) vNil)) vNil))
    (sRet (v2 (addD false) (v2 (addD false) (vSl (slD false) (vVar 1) vNoPart (v1 asI (vVar 3))) (vIfE (vB (v2 (eqD false) (vVar 5) (vC (.int 2)))) (vC (.str "")) (vVar 4))) (vSl (slD false) (vVar 1) (v1 asI (v2 (addD false) (vVar 3) (vIfE (vB (v2 (eqD false) (vVar 5) (vC (.int 1)))) (vC (.int 0)) (vC (.int 1))))) vNoPart)))))))
noncomputable def F__law_spoilt_359a : List D → AS → Out D := vFn 6 0 B__law_spoilt_359a
noncomputable def B__law_fixed_af6b : En → AS → Fl :=
    (sSeq (sSet 0 (v2 (mulD false) (v2 (mulD false) (v2 powD (vC (.int 10)) (vC (.int 64))) (v2 powD (vC (.int 10)) (vC (.int 64)))) (v2 powD (vC (.int 10)) (vC (.int 64)))))
    (sRet (vA (gLst true) (vCons (vC (.int 0)) (vCons (vC (.int 1)) (vCons (v1 negD (vC (.int 1))) (vCons (vC (.int 4)) (vCons (vVar 0) (vCons (v1 negD (vVar 0)) (vCons (vC (.bl true)) (vCons (vC (.bl false)) (vCons (vC .non) (vCons (vC (.str "")) (vCons (vC (.str "a")) (vCons (vC (.str "z")) (vCons (vC (.str "0")) (vCons (vC (.str "a0")) (vCons (vC (.str "A")) (vCons (vC (.str "aB")) (vCons (vC (.str "`")) (vCons (vC (.str "{")) (vCons (vC (.str "a{")) (vCons (vC (.str "`a")) (vCons (vC (.str " ")) (vCons (vC (.str "a b")) (vCons (vC (.str " a")) (vCons (vC (.str "a ")) (vCons (vC (.str "a-")) (vCons (vC (.str "abcdefgh")) (vCons (vC (.str "abcdefghi")) (vCons (vC (.str "zzzzzzzz")) (vCons (vC (.str "zzzzzzzzz")) (vCons (vA gTup vNil) (vCons (vA (gLst false) vNil) (vCons (vA gTup (vCons (vC (.str "a")) vNil)) (vCons (vA (gLst false) (vCons (vC (.str "a")) vNil)) (vCons (vA gTup (vCons (vC (.int 1)) vNil)) (vCons (vA (gLst false) (vCons (vC (.int 1)) vNil)) (vCons (vA gTup (vCons (vA gTup vNil) vNil)) (vCons (vC (.str "None")) (vCons (vC (.str "1")) (vCons (vA gTup (vCons (vC (.str "a")) (vCons (vC (.int 1)) vNil))) (vCons (vA (gLst false) (vCons (vA (gLst false) vNil) vNil)) vNil)))))))))))))))))))))))))))))))))))))))))))
noncomputable def F__law_fixed_af6b : List D → AS → Out D := vFn 1 0 B__law_fixed_af6b
noncomputable def B_law_6f3e : En → AS → Fl :=
    (sSeq (sSet 1 (vCallA 1 0 [] [.pos 0] F__law_feed_6a37 (vCons (vVar 0) vNil) vNil))
    (sSeq (sSet 2 (vCallA 0 0 [] [] F__law_odd_2e17 vNil vNil))
    (sSeq (sSet 3 (vCallA 0 0 [] [] F__law_fixed_af6b vNil vNil))
    (sSeq (sFor (vA rng1 (vCons (vC (.int 6)) vNil)) (kName 4) (sKill [4, 5, 6, 7, 8, 9] (sSeq (sSet 5 (vCallA 2 0 [] [.pos 0, .pos 1] F__law_word_8a86 (vCons (vVar 1) (vCons (vA (gLst false) vNil) vNil)) vNil))
    (sSeq (sSet 6 (vSl (slD false) (v2 (addD false) (vVar 5) (vC (.str "abcdefgh"))) vNoPart (v1 asI (vC (.int 8)))))
    (sSeq (sSet 7 (vC (.str "")))
    (sSeq (sFor (vA rng1 (vCons (vCallA 2 0 [] [.pos 0, .pos 1] F__law_draw_ed7e (vCons (vVar 1) (vCons (vC (.int 11)) vNil)) vNil) vNil)) (kName 8) (sKill [8] (sSet 7 (vCallA 2 0 [] [.pos 0, .pos 1] F__law_spoilt_359a (vCons (vVar 1) (vCons (v2 (addD false) (vVar 7) (vC (.str "b"))) vNil)) vNil))))
    (sSeq (sSet 9 (vCallA 1 0 [] [.pos 0] F__law_great (vCons (vVar 1) vNil) vNil))
    (sSeq (sExpr (vML extD (vVar 3) (vCons (vA (gLst false) (vCons (vVar 5) (vCons (vCallA 2 0 [] [.pos 0, .pos 1] F__law_spoilt_359a (vCons (vVar 1) (vCons (vVar 5) vNil)) vNil) (vCons (vVar 6) (vCons (v2 (addD false) (vVar 6) (vC (.str "a"))) (vCons (vCallA 2 0 [] [.pos 0, .pos 1] F__law_spoilt_359a (vCons (vVar 1) (vCons (vVar 6) vNil)) vNil) (vCons (vVar 7) (vCons (vVar 9) vNil)))))))) vNil)))
    (sExpr (vML extD (vVar 3) (vCons (vA (gLst false) (vCons (vA (g1 strD) (vCons (vVar 9) vNil)) (vCons (vCallA 3 0 [] [.pos 0, .pos 1, .pos 2] (F__law_bend 20) (vCons (vVar 1) (vCons (vVar 9) (vCons (vVar 2) vNil))) vNil) (vCons (vCallA 3 0 [] [.pos 0, .pos 1, .pos 2] (F__law_bend 20) (vCons (vVar 1) (vCons (vVar 5) (vCons (vVar 2) vNil))) vNil) vNil)))) vNil)))))))))))
    (sSeq (sSet 10 (vA (g1 reprD) (vCons (vVar 3) vNil)))
    (sSeq (sFor (v1 itD (v2 (addD false) (vVar 3) (v1 revD (vVar 3)))) (kName 11) (sKill [11] (sIf (vOr (vNot (v1 truD (vCallA 2 0 [] [.pos 0, .pos 1] F__law_same (vCons (vCallA 1 0 [] [.pos 0] F_is_number (vCons (vVar 11) vNil) vNil) (vCons (vCallA 1 0 [] [.pos 0] F__law_number_6395 (vCons (vVar 11) vNil) vNil) vNil)) vNil))) (vNot (v1 truD (vCallA 2 0 [] [.pos 0, .pos 1] F__law_same (vCons (vCallA 1 0 [] [.pos 0] F_is_word (vCons (vVar 11) vNil) vNil) (vCons (vCallA 1 0 [] [.pos 0] F__law_worded_65e4 (vCons (vVar 11) vNil) vNil) vNil)) vNil)))) (sRet (vC (.bl false))) sNext)))
    (sRet (v2 (eqD false) (vA (g1 reprD) (vCons (vVar 3) vNil)) (vVar 10)))))))))
noncomputable def F_law_6f3e : List D → AS → Out D := vFn 12 0 B_law_6f3e
end G

set_option Elab.async false
set_option linter.all false
set_option maxRecDepth 100000
set_option maxHeartbeats 1000000
/-! Plain functions over typed things: dicts as lists of pairs; comprehensions and loops over lists of typed things. -/
namespace G
open PySem VL
section
variable {κ α β : Type} [DecidableEq κ]
def has (l : List (κ × α)) (k : κ) : Bool := l.any fun p => decide (p.1 = k)
def look (l : List (κ × α)) (k : κ) : Option α := (l.find? fun p => decide (p.1 = k)).map (·.2)
def put (l : List (κ × α)) (k : κ) (v : α) : List (κ × α) := if has l k = true then l.map fun p => if p.1 = k then (p.1, v) else p else l ++ [(k, v)]
theorem look_cons (p : κ × α) (l : List (κ × α)) (k : κ) : look (p :: l) k = if p.1 = k then some p.2 else look l k := by
  unfold look
  by_cases h : p.1 = k <;> simp [List.find?_cons, h]
@[simp] theorem look_nil (k : κ) : look ([] : List (κ × α)) k = none := rfl
@[simp] theorem has_nil (k : κ) : has ([] : List (κ × α)) k = false := rfl
theorem has_cons (p : κ × α) (l : List (κ × α)) (k : κ) : has (p :: l) k = (decide (p.1 = k) || has l k) := rfl
theorem has_look (l : List (κ × α)) (k : κ) : has l k = (look l k).isSome := by
  induction l with
  | nil => rfl
  | cons p l ih =>
    rw [has_cons, look_cons, ih]
    by_cases h : p.1 = k <;> simp [h]
theorem look_rep (l : List (κ × α)) (k : κ) (v : α) (j : κ) : look (l.map fun p => if p.1 = k then (p.1, v) else p) j = if j = k then (look l k).map fun _ => v else look l j := by
  induction l with
  | nil => by_cases h : j = k <;> simp [h]
  | cons p l ih =>
    rw [List.map_cons, look_cons, ih, look_cons, look_cons]
    by_cases hp : p.1 = k
    · by_cases hj : j = k
      · simp [hp, hj]
      · have : ¬ k = j := Ne.symm hj
        simp [hp, hj, this]
    · by_cases hj : j = k
      · simp [hp, hj]
      · simp [hp, hj]
theorem look_app (l : List (κ × α)) (k : κ) (v : α) (j : κ) : look (l ++ [(k, v)]) j = (look l j).or (if k = j then some v else none) := by
  induction l with
  | nil => simp [look_cons]
  | cons p l ih =>
    rw [List.cons_append, look_cons, ih, look_cons]
    by_cases hp : p.1 = j <;> simp [hp]
theorem look_put (l : List (κ × α)) (k : κ) (v : α) (j : κ) : look (put l k v) j = if j = k then some v else look l j := by
  unfold put
  rw [has_look]
  cases h : look l k with
  | none =>
    rw [if_neg (by simp), look_app]
    by_cases hj : j = k
    · subst hj
      simp [h]
    · have : ¬ k = j := Ne.symm hj
      simp [hj, this]
  | some u =>
    rw [if_pos (by simp), look_rep, h]
    rfl
theorem look_mem {l : List (κ × α)} {k : κ} {v : α} (h : look l k = some v) : (k, v) ∈ l := by
  induction l with
  | nil => cases h
  | cons p l ih =>
    rw [look_cons] at h
    by_cases hp : p.1 = k
    · rw [if_pos hp] at h
      cases h
      subst hp
      exact List.mem_cons_self
    · rw [if_neg hp] at h
      exact List.mem_cons_of_mem _ (ih h)
theorem put_keys (l : List (κ × α)) (k : κ) (v : α) : (put l k v).map (·.1) = if has l k = true then l.map (·.1) else l.map (·.1) ++ [k] := by
  unfold put
  split
  · rw [List.map_map]
    apply List.map_congr_left
    intro p _
    show (if p.1 = k then (p.1, v) else p).1 = p.1
    split <;> rfl
  · rw [List.map_append]
    rfl
theorem mem_keys {l : List (κ × α)} {k : κ} : has l k = true ↔ k ∈ l.map (·.1) := by
  unfold has
  rw [List.any_eq_true, List.mem_map]
  exact ⟨fun ⟨p, h1, h2⟩ => ⟨p, h1, of_decide_eq_true h2⟩, fun ⟨p, h1, h2⟩ => ⟨p, h1, decide_eq_true h2⟩⟩
theorem put_nodup {l : List (κ × α)} (h : (l.map (·.1)).Nodup) (k : κ) (v : α) : ((put l k v).map (·.1)).Nodup := by
  rw [put_keys]
  split
  · exact h
  · rename_i hk
    rw [List.nodup_append]
    refine ⟨h, by simp, fun a ha b hb => ?_⟩
    rw [List.mem_singleton.mp hb]
    rintro rfl
    exact hk (mem_keys.mpr ha)
end
/-! the same, told by values -/
section
variable {κ κ' α : Type} [DecidableEq κ] [DecidableEq κ'] (f : κ → κ') (g : α → D) (hf : ∀ a b, f a = f b → a = b)
def enK (l : List (κ × α)) : List (κ' × D) := l.map fun p => (f p.1, g p.2)
@[simp] theorem enK_nil : enK f g ([] : List (κ × α)) = [] := rfl
theorem enK_length (l : List (κ × α)) : (enK f g l).length = l.length := by simp [enK]
include hf
theorem enK_find (l : List (κ × α)) (k : κ) : (enK f g l).find? (fun kv => decide (kv.1 = f k)) = (l.find? fun p => decide (p.1 = k)).map fun p => (f p.1, g p.2) := by
  induction l with
  | nil => rfl
  | cons p l ih =>
    unfold enK at ih ⊢
    rw [List.map_cons, List.find?_cons, List.find?_cons, ih]
    by_cases h : p.1 = k
    · simp [h]
    · have : ¬ f p.1 = f k := fun z => h (hf _ _ z)
      simp [h, this]
theorem valK_enK (l : List (κ × α)) (k : κ) : valK (enK f g l) (f k) = (look l k).map g := by
  unfold valK look
  rw [enK_find f g hf, Option.map_map, Option.map_map]
  rfl
theorem any_enK (l : List (κ × α)) (k : κ) : ((enK f g l).any fun kv => decide (kv.1 = f k)) = has l k := by
  unfold enK has
  rw [List.any_map]
  congr 1
  funext p
  show decide (f p.1 = f k) = decide (p.1 = k)
  by_cases h : p.1 = k
  · simp [h]
  · have : ¬ f p.1 = f k := fun z => h (hf _ _ z)
    simp [h, this]
theorem putKD_enK (l : List (κ × α)) (k : κ) (v : α) : putKD (enK f g l) (f k) (g v) = enK f g (put l k v) := by
  unfold putKD put
  rw [any_enK f g hf]
  by_cases h : has l k = true
  · rw [if_pos h, if_pos h]
    unfold enK
    rw [List.map_map, List.map_map]
    apply List.map_congr_left
    intro p _
    show (if f p.1 = f k then (f p.1, g v) else (f p.1, g p.2)) = (f (if p.1 = k then (p.1, v) else p).1, g (if p.1 = k then (p.1, v) else p).2)
    by_cases e : p.1 = k
    · rw [if_pos (by rw [e]), if_pos e]
    · rw [if_neg (fun z => e (hf _ _ z)), if_neg e]
  · rw [if_neg h, if_neg h]
    unfold enK
    rw [List.map_append]
    rfl
end
theorem inl_inj (a b : Int) (h : (Sum.inl a : L2.Key) = Sum.inl b) : a = b := Sum.inl.inj h
theorem inr_inj (a b : Str) (h : (Sum.inr a : L2.Key) = Sum.inr b) : a = b := Sum.inr.inj h
/-! comprehensions that change nothing -/
theorem comp_en {α : Type} {g : D → En → AS → Out En} {t : En → AS → Out Bool} {f : En → AS → Out D} {env : En} {gs : Gd} {st : AS} (e : α → D) (p : α → Bool) (h : α → D) (hg : gs.ok st) : ∀ (xs : List α),
    (∀ x ∈ xs, ∃ env1, g (e x) env st = .ok env1 st ∧ t env1 st = .ok (p x) st ∧ (p x = true → f env1 st = .ok (h x) st)) → compL g t f env gs (xs.map e) st = .ok ((xs.filter p).map h) st
  | [], _ => by rw [List.map_nil, compL, if_pos hg]; rfl
  | x :: xs, hx => by
    obtain ⟨env1, e1, e2, e3⟩ := hx x List.mem_cons_self
    have ih := comp_en e p h hg xs fun y hy => hx y (List.mem_cons_of_mem _ hy)
    rw [List.map_cons, compL, if_pos hg, e1]
    simp only [Out.ne_ok, Out.bind_ok, e2]
    cases z : p x with
    | false => simp [ih, z]
    | true => simp [ih, z, e3 z]
/-- without a condition -/
theorem comp_all {α : Type} {g : D → En → AS → Out En} {t : En → AS → Out Bool} {f : En → AS → Out D} {env : En} {gs : Gd} {st : AS} (e : α → D) (h : α → D) (hg : gs.ok st) (xs : List α)
    (hx : ∀ x ∈ xs, ∃ env1, g (e x) env st = .ok env1 st ∧ t env1 st = .ok true st ∧ f env1 st = .ok (h x) st) : compL g t f env gs (xs.map e) st = .ok (xs.map h) st := by
  have := comp_en (g := g) (t := t) (f := f) (env := env) e (fun _ => true) h hg xs fun x m => by
    obtain ⟨env1, e1, e2, e3⟩ := hx x m
    exact ⟨env1, e1, e2, fun _ => e3⟩
  rw [this, List.filter_eq_self.mpr (fun _ _ => rfl)]
/-! loops: a fold -/
theorem for_fold {α σ : Type} {g : D → En → AS → Out En} {body : En → AS → Fl} {gs : Gd} (e : α → D) (env : σ → En) (st : σ → AS) (step : σ → α → σ) (hg : ∀ s, gs.ok (st s)) : ∀ (xs : List α) (s : σ),
    (∀ x ∈ xs, ∀ s, ∃ env1, g (e x) (env s) (st s) = .ok env1 (st s) ∧ (body env1 (st s) = .nx (env (step s x)) (st (step s x)) ∨ body env1 (st s) = .ct (env (step s x)) (st (step s x)))) →
    forL g body gs (xs.map e) (env s) (st s) = .nx (env (xs.foldl step s)) (st (xs.foldl step s))
  | [], s, _ => by rw [List.map_nil, forL, if_pos (hg s)]; rfl
  | x :: xs, s, hx => by
    obtain ⟨env1, e1, e2⟩ := hx x List.mem_cons_self s
    have ih := for_fold e env st step hg xs (step s x) fun y hy => hx y (List.mem_cons_of_mem _ hy)
    rw [List.map_cons, forL, if_pos (hg s), e1, Out.fl_ok]
    rcases e2 with e2 | e2 <;> (rw [e2]; exact ih)
/-- a fold where what holds on the way is known -/
theorem for_inv {α σ : Type} {g : D → En → AS → Out En} {body : En → AS → Fl} {gs : Gd} (e : α → D) (env : σ → En) (st : σ → AS) (step : σ → α → σ) (I : σ → Prop) (hg : ∀ s, I s → gs.ok (st s)) : ∀ (xs : List α) (s : σ), I s →
    (∀ x ∈ xs, ∀ s, I s → I (step s x) ∧ ∃ env1, g (e x) (env s) (st s) = .ok env1 (st s) ∧ (body env1 (st s) = .nx (env (step s x)) (st (step s x)) ∨ body env1 (st s) = .ct (env (step s x)) (st (step s x)))) →
    forL g body gs (xs.map e) (env s) (st s) = .nx (env (xs.foldl step s)) (st (xs.foldl step s)) ∧ I (xs.foldl step s)
  | [], s, hi, _ => by rw [List.map_nil, forL, if_pos (hg s hi)]; exact ⟨rfl, hi⟩
  | x :: xs, s, hi, hx => by
    obtain ⟨i2, env1, e1, e2⟩ := hx x List.mem_cons_self s hi
    have ih := for_inv e env st step I hg xs (step s x) i2 fun y hy => hx y (List.mem_cons_of_mem _ hy)
    rw [List.map_cons, forL, if_pos (hg s hi), e1, Out.fl_ok]
    rcases e2 with e2 | e2 <;> (rw [e2]; exact ih)
/-- the first that is so ends it with a return; else nothing is changed -/
theorem for_find {α : Type} {g : D → En → AS → Out En} {body : En → AS → Fl} {gs : Gd} {env : En} {st : AS} (e : α → D) (p : α → Bool) (r : α → D) (hg : gs.ok st) : ∀ (xs : List α),
    (∀ x ∈ xs, ∃ env1, g (e x) env st = .ok env1 st ∧ body env1 st = if p x = true then .rt (r x) st else .nx env st) →
    forL g body gs (xs.map e) env st = (match xs.find? p with | some x => .rt (r x) st | none => .nx env st)
  | [], _ => by rw [List.map_nil, forL, if_pos hg]; rfl
  | x :: xs, hx => by
    obtain ⟨env1, e1, e2⟩ := hx x List.mem_cons_self
    have ih := for_find e p r hg xs fun y hy => hx y (List.mem_cons_of_mem _ hy)
    rw [List.map_cons, forL, if_pos hg, e1, Out.fl_ok, e2, List.find?_cons]
    cases h : p x with
    | true => rfl
    | false => exact ih
theorem ok_nil {st : AS} : Gd.ok [] st := fun _ h => nomatch h
theorem ok_one {st : AS} {i : Nat} {c : C} (h : st[i]? = some c) : Gd.ok [(i, c)] st := fun p hp => by cases List.mem_singleton.mp hp; exact h
end G

set_option Elab.async false
set_option linter.all false
set_option maxRecDepth 100000
set_option maxHeartbeats 1000000
/-! Plain functions: what simp should know of equality, order, membership. -/
namespace G
open PySem VL
theorem eqv_ii (a b : Int) : eqvD (.int a) (.int b) = decide (a = b) := by
  simp [eqvD, D.py, PyData.eqv]
  by_cases h : a = b <;> simp [h]
theorem eqv_ss (a b : Str) : eqvD (.str a) (.str b) = decide (a = b) := by
  simp [eqvD, D.py, PyData.eqv]
  by_cases h : a = b <;> simp [h]
@[simp] theorem eq_ii (n : Bool) (a b : Int) (st : AS) : eqD n (.int a) (.int b) st = .ok (.bl (xor n (decide (a = b)))) st := by simp [eqD, scalD, eqv_ii]
@[simp] theorem eq_ss (n : Bool) (a b : Str) (st : AS) : eqD n (.str a) (.str b) st = .ok (.bl (xor n (decide (a = b)))) st := by simp [eqD, scalD, eqv_ss]
theorem eqv_ns (b : Str) : eqvD .non (.str b) = false := by simp [eqvD, D.py, PyData.eqv]
theorem eqv_sn (b : Str) : eqvD (.str b) .non = false := by simp [eqvD, D.py, PyData.eqv]
@[simp] theorem eq_ns (n : Bool) (b : Str) (st : AS) : eqD n .non (.str b) st = .ok (.bl n) st := by simp [eqD, scalD, eqv_ns]
@[simp] theorem eq_sn (n : Bool) (b : Str) (st : AS) : eqD n (.str b) .non st = .ok (.bl n) st := by simp [eqD, scalD, eqv_sn]
theorem all_str : ∀ xs : List Str, (xs.map D.str).all scalD = true
  | [] => rfl
  | x :: xs => by rw [List.map_cons, List.all_cons, all_str xs]; rfl
theorem any_str (x : Str) : ∀ xs : List Str, ((xs.map D.str).any fun d => eqvD d (.str x)) = decide (x ∈ xs)
  | [] => by simp
  | y :: ys => by
    rw [List.map_cons, List.any_cons, any_str x ys, eqv_ss]
    by_cases h : y = x
    · simp [h]
    · have h' : ¬ x = y := Ne.symm h
      simp [h, h']
theorem any_non : ∀ xs : List Str, ((xs.map D.str).any fun d => eqvD d .non) = false
  | [] => rfl
  | y :: ys => by rw [List.map_cons, List.any_cons, any_non ys, eqv_sn]; rfl
/-- x in xs, texts -/
@[simp] theorem in_tup (n : Bool) (x : Str) (xs : List Str) (st : AS) : inD n (.str x) (.tup (xs.map D.str)) st = .ok (.bl (xor n (decide (x ∈ xs)))) st := by
  have h1 := all_str xs
  have h2 := any_str x xs
  simp only [inD, seqOf, scalD, h1, h2, Bool.and_self, if_true]
@[simp] theorem in_ctp (n : Bool) (x : Str) (xs : List Str) (st : AS) : inD n (.str x) (.ctp (xs.map D.str)) st = .ok (.bl (xor n (decide (x ∈ xs)))) st := by
  have h1 := all_str xs
  have h2 := any_str x xs
  simp only [inD, seqOf, scalD, h1, h2, Bool.and_self, if_true]
@[simp] theorem in_lst (n : Bool) (x : Str) (xs : List Str) (st : AS) : inD n (.str x) (.lst (xs.map D.str)) st = .ok (.bl (xor n (decide (x ∈ xs)))) st := by
  have h1 := all_str xs
  have h2 := any_str x xs
  simp only [inD, seqOf, VL.listOf, scalD, h1, h2, Bool.and_self, if_true]
@[simp] theorem ints_of : ∀ ns : List Int, intsOf (ns.map D.int) = some ns
  | [] => rfl
  | n :: ns => by rw [List.map_cons, intsOf, ints_of ns]; rfl
@[simp] theorem strs_of : ∀ ns : List Str, strsOf (ns.map D.str) = some ns := strsOf_map
@[simp] theorem sum_lst (ns : List Int) (st : AS) : sumD (.lst (ns.map D.int)) st = .ok (.int ns.sum) st := by simp [sumD, onInts, ints_of]
@[simp] theorem bls_of : ∀ ns : List Bool, blsOf (ns.map D.bl) = some ns
  | [] => rfl
  | n :: ns => by rw [List.map_cons, blsOf, bls_of ns]; rfl
@[simp] theorem all_lst (ns : List Bool) (st : AS) : onBls (fun bs => bs.all id) (.lst (ns.map D.bl)) st = .ok (.bl (ns.all id)) st := by simp [onBls, bls_of]
@[simp] theorem any_lst (ns : List Bool) (st : AS) : onBls (fun bs => bs.any id) (.lst (ns.map D.bl)) st = .ok (.bl (ns.any id)) st := by simp [onBls, bls_of]
theorem log_lt {m : Int} (h0 : 0 < m) (h : m < 4611686018427387904) : m.natAbs.log2 < 9000 := by
  have h1 : m.natAbs ≠ 0 := by omega
  have h2 : m.natAbs < 2 ^ 62 := by
    have : (2 : Nat) ^ 62 = 4611686018427387904 := by decide
    omega
  have h3 : m.natAbs.log2 < 62 := (Nat.log2_lt h1).mpr h2
  omega
theorem line_ge {n : Nat} (h : n ≤ 16000000) : n ≤ sizeLine := by rw [sizeLine_eq]; omega
theorem line_gt {n : Nat} (h : n ≤ 16000000) : n < sizeLine := by rw [sizeLine_eq]; omega
@[simp] theorem atI_0 {α : Type} (a : α) (l : List α) : L2.atI (a :: l) 0 = some a := by rw [atI_pos (by decide) (by simp only [List.length_cons]; omega)]; rfl
@[simp] theorem atI_1 {α : Type} (a b : α) (l : List α) : L2.atI (a :: b :: l) 1 = some b := by rw [atI_pos (by decide) (by simp only [List.length_cons]; omega)]; rfl
@[simp] theorem atI_2 {α : Type} (a b c : α) (l : List α) : L2.atI (a :: b :: c :: l) 2 = some c := by rw [atI_pos (by decide) (by simp only [List.length_cons]; omega)]; rfl
@[simp] theorem atI_3 {α : Type} (a b c d : α) (l : List α) : L2.atI (a :: b :: c :: d :: l) 3 = some d := by rw [atI_pos (by decide) (by simp only [List.length_cons]; omega)]; rfl
@[simp] theorem atI_4 {α : Type} (a b c d e : α) (l : List α) : L2.atI (a :: b :: c :: d :: e :: l) 4 = some e := by rw [atI_pos (by decide) (by simp only [List.length_cons]; omega)]; rfl
@[simp] theorem gdOf_tup (ds es : List D) : gdOf (.tup ds) es = [] := rfl
@[simp] theorem gdOf_ctp (ds es : List D) : gdOf (.ctp ds) es = [] := rfl
@[simp] theorem gdOf_lst (ds es : List D) : gdOf (.lst ds) es = [] := rfl
@[simp] theorem gdOf_fzl (ds es : List D) : gdOf (.fzl ds) es = [] := rfl
@[simp] theorem gdOf_ref (i : Nat) (es : List D) : gdOf (.ref i) es = [(i, .lst es)] := rfl
theorem rng1_ok {j : Int} {st : AS} (h0 : -1000000000 ≤ j) (h : j ≤ 1000000000) : rng1 [.int j] st = .ok ((List.range j.toNat).map fun (k : Nat) => D.int (k : Int), []) st := by
  unfold rng1
  dsimp only
  rw [if_pos ⟨by omega, by omega⟩]
  simp [rngL]
theorem rng2_ok {i j : Int} {st : AS} (hi : -1000000000 ≤ i ∧ i ≤ 1000000000) (hj : -1000000000 ≤ j ∧ j ≤ 1000000000) : rng2 [.int i, .int j] st = .ok ((List.range (j - i).toNat).map fun (k : Nat) => D.int (i + (k : Int)), []) st := by
  unfold rng2
  dsimp only
  rw [if_pos ⟨by omega, by omega, by omega, by omega⟩]
  simp [rngL]
theorem map_int {α : Type} (f : α → Int) (l : List α) : l.map (fun x => D.int (f x)) = (l.map f).map D.int := by rw [List.map_map]; rfl
theorem map_str {α : Type} (f : α → Str) (l : List α) : l.map (fun x => D.str (f x)) = (l.map f).map D.str := by rw [List.map_map]; rfl
theorem map_bl {α : Type} (f : α → Bool) (l : List α) : l.map (fun x => D.bl (f x)) = (l.map f).map D.bl := by rw [List.map_map]; rfl
end G

set_option Elab.async false
set_option linter.all false
set_option maxRecDepth 100000
set_option maxHeartbeats 2000000
namespace Kd
open PySem VL G
abbrev feedC (ns : List Int) (a b c : Int) : C := .lst [.lst (ns.map D.int), .int a, .int b, .int c]
theorem sIx_none (n k : Nat) : HT.sIx n k none = k := rfl
theorem scal_lst (ds : List D) : scalD (.lst ds) = false := rfl
theorem pures_ints : ∀ ns : List Int, D.pures (ns.map D.int) = true
  | [] => by simp [D.pures]
  | n :: ns => by simp [D.pures, D.pure, pures_ints ns]
theorem pys_ints : ∀ ns : List Int, PyData.canLayAll0 (D.pys (ns.map D.int)) = true ∧ PyData.depthAll (D.pys (ns.map D.int)) = 0
  | [] => by simp [D.pys, PyData.canLayAll0, PyData.depthAll]
  | n :: ns => by simp [D.pys, D.py, PyData.canLayAll0, PyData.canLay0, PyData.depthAll, PyData.depth, pys_ints ns]
theorem fit_ints (ns : List Int) : (D.lst (ns.map D.int)).fit = true := by
  unfold D.fit
  rw [Bool.and_eq_true]
  refine ⟨by rw [D.pure]; exact pures_ints ns, ?_⟩
  rw [D.py]
  unfold SeqAt.shaped
  simp [PyData.canLay0, PyData.depth, pys_ints ns]
theorem eqv_nil (ns : List Int) : eqvD (.lst (ns.map D.int)) (.lst []) = decide (ns = []) := by
  unfold eqvD
  rw [D.py, D.py]
  cases ns with
  | nil => simp [D.pys, PyData.eqv, PyData.eqvAll]
  | cons n r => simp [D.pys, PyData.eqv, PyData.eqvAll]
theorem fit_nil : (D.lst []).fit = true := fit_ints []
theorem map_at (ns : List Int) (k : Nat) (hk : k < ns.length) : (ns.map D.int)[k]? = some (.int ns[k]) := by simp [hk]
def mix (z t : Int) : Int :=
  (((((z % 2147483629 + 69621 * t * t + 7 * t) % 2147483629 * ((z % 2147483629 + 69621 * t * t + 7 * t) % 2147483629) + 48271 * t) % 2147483647 * (((z % 2147483629 + 69621 * t * t + 7 * t) % 2147483629 * ((z % 2147483629 + 69621 * t * t + 7 * t) % 2147483629) + 48271 * t) % 2147483647) + 16807 * t) % 2147483587 * ((((z % 2147483629 + 69621 * t * t + 7 * t) % 2147483629 * ((z % 2147483629 + 69621 * t * t + 7 * t) % 2147483629) + 48271 * t) % 2147483647 * (((z % 2147483629 + 69621 * t * t + 7 * t) % 2147483629 * ((z % 2147483629 + 69621 * t * t + 7 * t) % 2147483629) + 48271 * t) % 2147483647) + 16807 * t) % 2147483587) + t) % 2147483629) / 131
theorem draw_eq {i : Nat} {ns : List Int} {a b c m : Int} {st : AS} (h : st[i]? = some (feedC ns a b c)) (hm : 0 < m) (hm2 : m < 2 ^ 62) (ha : 0 ≤ a) (hc : 0 ≤ c) (hcT : c < 2 ^ 60) :
    ∃ r a' b', F__law_draw_ed7e [.ref i, .int m] st = .ok (.int r) (st.set i (feedC ns a' b' (c + 1))) ∧ 0 ≤ r ∧ r < m ∧ 0 ≤ a' := by
  have hl : i < st.length := (List.getElem?_eq_some_iff.mp h).1
  have g : ∀ x : C, (st.set i x)[i]? = some x := fun x => List.getElem?_set_self hl
  have lg : m.natAbs.log2 < 9000 := Nat.lt_of_le_of_lt (Nat.log2_lt (show m.natAbs ≠ 0 by omega) |>.mpr (show m.natAbs < 2 ^ 62 by omega) |> Nat.le_of_lt) (by decide)
  by_cases hb : b > 0
  · refine ⟨b % m, a, b / m, ?_, Int.emod_nonneg _ (by omega), Int.emod_lt_of_pos _ hm, ha⟩
    have hd : L2.CDivW b m := ⟨hm, lg⟩
    simp [F__law_draw_ed7e, B__law_draw_ed7e, h, g, hb, hm, hd, L2.ixN, L2.atI]
  · have hb' : ¬ 0 < b := hb
    have t1 : (-18446744073709551616 : Int) < c + 1 ∧ c + 1 < 18446744073709551616 := by omega
    have mo : ∀ x y : Int, 0 ≤ x → x < 2 ^ 62 → VL.MulOk x y := fun x y h1 h2 => .inl (.inl ⟨by omega, by omega⟩)
    have mo2 : ∀ x : Int, VL.MulOk x (c + 1) := fun x => .inl (.inr ⟨by omega, by omega⟩)
    have md : ∀ x : Int, 0 ≤ x % 2147483629 ∧ x % 2147483629 < 2 ^ 62 := fun x => ⟨Int.emod_nonneg _ (by decide), by have := Int.emod_lt_of_pos x (show (0 : Int) < 2147483629 by decide); omega⟩
    have md2 : ∀ x : Int, 0 ≤ x % 2147483647 ∧ x % 2147483647 < 2 ^ 62 := fun x => ⟨Int.emod_nonneg _ (by decide), by have := Int.emod_lt_of_pos x (show (0 : Int) < 2147483647 by decide); omega⟩
    have md3 : ∀ x : Int, 0 ≤ x % 2147483587 ∧ x % 2147483587 < 2 ^ 62 := fun x => ⟨Int.emod_nonneg _ (by decide), by have := Int.emod_lt_of_pos x (show (0 : Int) < 2147483587 by decide); omega⟩
    have pw : L2.CPow 10 18 := ⟨by decide, by decide, by decide⟩
    have dv : ∀ x : Int, L2.CDivW x 131 := fun x => ⟨by decide, by decide⟩
    have dm : ∀ x : Int, L2.CDivW x m := fun x => ⟨hm, lg⟩
    have a1 : ∀ x : Int, VL.MulOk (x % 2147483629) (x % 2147483629) := fun x => mo _ _ (md x).1 (md x).2
    have a2 : ∀ x : Int, VL.MulOk (x % 2147483647) (x % 2147483647) := fun x => mo _ _ (md2 x).1 (md2 x).2
    have a3 : ∀ x : Int, VL.MulOk (x % 2147483587) (x % 2147483587) := fun x => mo _ _ (md3 x).1 (md3 x).2
    by_cases e : ns = []
    · subst e
      have := fit_nil
      refine ⟨mix 7 (c + 1) % m, a + 1, b, ?_, Int.emod_nonneg _ (by omega), Int.emod_lt_of_pos _ hm, by omega⟩
      simp [F__law_draw_ed7e, B__law_draw_ed7e, h, g, hb', hm, L2.ixN, L2.atI, eqD, scal_lst, this, eqvD, D.py, D.pys, PyData.eqv, PyData.eqvAll, pw, mo2, a1, a2, a3, dv, mix, feedC]
    · have hp : 0 < ns.length := List.length_pos_iff.mpr e
      have h1 := Int.emod_nonneg a (show (ns.length : Int) ≠ 0 by omega)
      have h2 := Int.emod_lt_of_pos a (show (0 : Int) < ns.length by omega)
      have hp' : (0 : Int) < ns.length := by omega
      have hlt : (a % ns.length).toNat < ns.length := by omega
      by_cases q1 : (1000000000000000000 : Int) ≤ ns[(a % ns.length).toNat]
      · by_cases q2 : a + 1 ≤ ns.length
        · refine ⟨ns[(a % ns.length).toNat] % m, a + 1, ns[(a % ns.length).toNat] / m, ?_, Int.emod_nonneg _ (by omega), Int.emod_lt_of_pos _ hm, by omega⟩
          simp [F__law_draw_ed7e, B__law_draw_ed7e, h, g, hb', hm, L2.ixN, L2.atI, eqD, scal_lst, fit_ints ns, fit_nil, eqv_nil ns, e, hp, hp', h1, h2, pw, mo2, a1, a2, a3, dv, dm, q1, q2, feedC]
        · refine ⟨mix ns[(a % ns.length).toNat] (c + 1) % m, a + 1, b, ?_, Int.emod_nonneg _ (by omega), Int.emod_lt_of_pos _ hm, by omega⟩
          simp [F__law_draw_ed7e, B__law_draw_ed7e, h, g, hb', hm, L2.ixN, L2.atI, eqD, scal_lst, fit_ints ns, fit_nil, eqv_nil ns, e, hp, hp', h1, h2, pw, mo2, a1, a2, a3, dv, dm, q1, q2, mix, feedC]
      · refine ⟨mix ns[(a % ns.length).toNat] (c + 1) % m, a + 1, b, ?_, Int.emod_nonneg _ (by omega), Int.emod_lt_of_pos _ hm, by omega⟩
        simp [F__law_draw_ed7e, B__law_draw_ed7e, h, g, hb', hm, L2.ixN, L2.atI, eqD, scal_lst, fit_ints ns, fit_nil, eqv_nil ns, e, hp, hp', h1, h2, pw, mo2, a1, a2, a3, dv, dm, q1, mix, feedC]
end Kd

set_option Elab.async false
set_option linter.all false
set_option maxRecDepth 100000
set_option maxHeartbeats 2000000
namespace Kd
open PySem VL G
def numD : D → Bool
  | .int _ => true
  | _ => false
def letter (c : Nat) : Bool := decide (97 ≤ c) && decide (c ≤ 122)
def wordS (x : Str) : Bool := decide (1 ≤ x.length) && (decide (x.length ≤ 8) && x.cps.toList.all letter)
def wordD : D → Bool
  | .str x => wordS x
  | _ => false
def cntD : D → Bool
  | .int i => decide (0 ≤ i)
  | _ => false
theorem f_is_number (d : D) (st : AS) (h : d.pure = true) : F_is_number [d] st = .ok (.bl (numD d)) st := by
  cases d <;> simp [F_is_number, B_is_number, isT, numD, D.pure] at h ⊢
theorem f_is_count (d : D) (st : AS) (h : d.pure = true) : F_is_count [d] st = .ok (.bl (cntD d)) st := by
  have e := f_is_number d st h
  cases d <;> simp [F_is_count, B_is_count, e, numD, cntD, D.pure] at h ⊢
theorem lt_sign (c k : Nat) : ltStr ⟨#[c]⟩ ⟨#[k]⟩ = decide (c < k) := by
  unfold ltStr
  simp [List.cons_lt_cons_iff]
theorem str_a : (Str.ofString "a") = ⟨#[97]⟩ := by decide
theorem str_z : (Str.ofString "z") = ⟨#[122]⟩ := by decide
theorem bls_map {α : Type} (f : α → Bool) : ∀ l : List α, blsOf (l.map fun c => D.bl (f c)) = some (l.map f)
  | [] => rfl
  | x :: l => by rw [List.map_cons, blsOf, bls_map f l]; rfl
theorem f_is_word (d : D) (st : AS) (h : d.pure = true) (hl : ∀ x, d = .str x → x.length ≤ sizeLine) : F_is_word [d] st = .ok (.bl (wordD d)) st := by
  cases d with
  | str x =>
    have hx := hl x rfl
    have hx' : x.cps.size ≤ sizeLine := hx
    have cm : compL (kName 1) tYesV (vChain leD leD (vC (.str "a")) (vVar 1) (vC (.str "z"))) [some (D.str x), none] [] (x.cps.toList.map fun c => .str ⟨#[c]⟩) st = .ok (x.cps.toList.map fun c => D.bl (letter c)) st := by
      rw [compL_map gd_nilOk (fun _ => true) (fun d => match d with | .str y => .bl (letter (y.cps.getD 0 0)) | _ => .non)]
      · rw [List.filter_eq_self.mpr (fun _ _ => rfl), List.map_map]
        rfl
      · intro d hd
        obtain ⟨c, hc, rfl⟩ := List.mem_map.mp hd
        refine ⟨_, rfl, rfl, fun _ => ?_⟩
        by_cases z : 97 ≤ c
        · by_cases z2 : c ≤ 122
          · simp [str_a, str_z, lt_sign, letter, z, z2, show ¬ c < 97 by omega, show ¬ 122 < c by omega]
          · simp [str_a, str_z, lt_sign, letter, z, z2, show ¬ c < 97 by omega, show 122 < c by omega]
        · simp [str_a, str_z, lt_sign, letter, z, show c < 97 by omega]
    try simp at cm
    by_cases h1 : 1 ≤ x.length
    · have h1' : (1 : Int) ≤ x.length := by omega
      by_cases h2 : x.length ≤ 8
      · have h2' : (x.length : Int) ≤ 8 := by omega
        simp [F_is_word, B_is_word, isT, wordD, wordS, hx, hx', h1, h2, h1', h2', cm, bls_map, List.all_map]
      · have h2' : ¬ (x.length : Int) ≤ 8 := by omega
        simp [F_is_word, B_is_word, isT, wordD, wordS, hx, h1, h2, h1', h2']
    · have h1' : ¬ (1 : Int) ≤ x.length := by omega
      simp [F_is_word, B_is_word, isT, wordD, wordS, hx, h1, h1']
  | _ => simp [F_is_word, B_is_word, isT, wordD, D.pure] at h ⊢
end Kd

set_option Elab.async false
set_option linter.all false
set_option maxRecDepth 100000
set_option maxHeartbeats 1000000
namespace TB
open PySem PySem.Spec PyProof.Rows L2

/-! ### how large a thing is, and what stands at its ends -/
def asc (z : Str) : Prop := ∀ c ∈ z.cps.toList, c < 128
theorem asc_app {x y : Str} (hx : asc x) (hy : asc y) : asc (x ++ y) := fun c hc => by
  have e : (x ++ y).cps.toList = x.cps.toList ++ y.cps.toList := Array.toList_append
  rw [e] at hc
  rcases List.mem_append.mp hc with h | h
  · exact hx c h
  · exact hy c h
theorem asc_cut {z : Str} (hz : asc z) (lo hi : Option Int) : asc (cutS z lo hi) := fun c hc => hz c (List.mem_of_mem_drop (List.mem_of_mem_take hc))
theorem cutS_len (z : Str) (lo hi : Option Int) : (cutS z lo hi).length ≤ z.length := by
  show (List.toArray _).size ≤ _
  rw [List.size_toArray, List.length_take, List.length_drop]
  have : z.cps.toList.length = z.length := Array.length_toList
  omega
mutual
def sz : PyData → Nat
  | .tuple xs => 1 + szs xs
  | .list xs => 1 + szs xs
  | _ => 1
def szs : List PyData → Nat
  | [] => 0
  | x :: xs => sz x + szs xs
end
mutual
def Ats (j : Nat) : PyData → Prop
  | .none => True
  | .bool _ => True
  | .int i => i.natAbs < 2 ^ (700 + j)
  | .str z => asc z ∧ z.length ≤ 20 + j
  | .tuple xs => AtsL j xs
  | .list xs => AtsL j xs
  | .dict _ => False
def AtsL (j : Nat) : List PyData → Prop
  | [] => True
  | x :: xs => Ats j x ∧ AtsL j xs
end
theorem atsL_iff {j : Nat} : ∀ {ds : List PyData}, AtsL j ds ↔ ∀ d ∈ ds, Ats j d
  | [] => ⟨fun _ d h => (by cases h), fun _ => by simp [AtsL]⟩
  | d :: ds => by
    simp only [AtsL, List.mem_cons, forall_eq_or_imp]
    rw [atsL_iff (ds := ds)]
theorem Ats.tup {j : Nat} {ds : List PyData} : Ats j (.tuple ds) ↔ ∀ d ∈ ds, Ats j d := by
  simp only [Ats]
  exact atsL_iff
theorem Ats.lst {j : Nat} {ds : List PyData} : Ats j (.list ds) ↔ ∀ d ∈ ds, Ats j d := by
  simp only [Ats]
  exact atsL_iff
mutual
theorem Ats.mono {i j : Nat} (h : i ≤ j) : ∀ (d : PyData), Ats i d → Ats j d
  | .none, _ => by simp [Ats]
  | .bool _, _ => by simp [Ats]
  | .int n, a => by
    simp only [Ats] at a ⊢
    exact Nat.lt_of_lt_of_le a (Nat.pow_le_pow_right (by decide) (by omega))
  | .str z, a => by
    simp only [Ats] at a ⊢
    exact ⟨a.1, by omega⟩
  | .tuple xs, a => by
    simp only [Ats] at a ⊢
    exact AtsL.mono h xs a
  | .list xs, a => by
    simp only [Ats] at a ⊢
    exact AtsL.mono h xs a
  | .dict _, a => by simp [Ats] at a
theorem AtsL.mono {i j : Nat} (h : i ≤ j) : ∀ (ds : List PyData), AtsL i ds → AtsL j ds
  | [], _ => by simp [AtsL]
  | d :: ds, a => by
    simp only [AtsL] at a ⊢
    exact ⟨Ats.mono h d a.1, AtsL.mono h ds a.2⟩
end
theorem sz_pos (d : PyData) : 1 ≤ sz d := by
  cases d <;> simp [sz]
theorem szs_app : ∀ (a b : List PyData), szs (a ++ b) = szs a + szs b
  | [], b => by simp [szs]
  | x :: a, b => by
    simp only [List.cons_append, szs, szs_app a b]
    omega
theorem szs_drop : ∀ (n : Nat) (ds : List PyData), szs (ds.drop n) ≤ szs ds
  | 0, ds => Nat.le_refl _
  | n + 1, [] => Nat.le_refl _
  | n + 1, x :: ds => by
    have := szs_drop n ds
    simp only [List.drop_succ_cons, szs]
    omega
theorem szs_take : ∀ (n : Nat) (ds : List PyData), szs (ds.take n) ≤ szs ds
  | 0, ds => by simp [szs]
  | n + 1, [] => Nat.le_refl _
  | n + 1, x :: ds => by
    have := szs_take n ds
    simp only [List.take_succ_cons, szs]
    omega
theorem szs_cut (ds : List PyData) (lo hi : Option Int) : szs (cutD ds lo hi) ≤ szs ds := by
  unfold cutD
  exact Nat.le_trans (szs_take _ _) (szs_drop _ _)
theorem szs_mem : ∀ {ds : List PyData} {d : PyData}, d ∈ ds → sz d ≤ szs ds
  | x :: ds, d, h => by
    simp only [szs]
    rcases List.mem_cons.mp h with rfl | h
    · omega
    · have := szs_mem h
      omega
theorem szs_len : ∀ (ds : List PyData), ds.length ≤ szs ds
  | [] => Nat.le_refl _
  | x :: ds => by
    have := szs_len ds
    have := sz_pos x
    simp only [szs, List.length_cons]
    omega
theorem sz_tup (ds : List PyData) : sz (.tuple ds) = 1 + szs ds := by simp [sz]
theorem sz_lst (ds : List PyData) : sz (.list ds) = 1 + szs ds := by simp [sz]
theorem dep_tup (ds : List PyData) : PyData.depth (.tuple ds) = PyData.depthAll ds + 1 := by simp only [PyData.depth]
theorem dep_lst (ds : List PyData) : PyData.depth (.list ds) = PyData.depthAll ds + 1 := by simp only [PyData.depth]
theorem dep_all {k : Nat} : ∀ {ds : List PyData}, PyData.depthAll ds ≤ k ↔ ∀ d ∈ ds, PyData.depth d ≤ k
  | [] => ⟨fun _ d h => (by cases h), fun _ => by simp [PyData.depthAll]⟩
  | x :: ds => by
    simp only [PyData.depthAll, List.mem_cons, forall_eq_or_imp]
    rw [← dep_all (ds := ds)]
    omega
theorem sh_big {i : Int} (h : i.natAbs < 2 ^ 1900) : Sh 0 1921 (.int i) := by
  have hl : i.natAbs.log2 < 1920 := by
    by_cases h0 : i.natAbs = 0
    · rw [h0]; decide
    · exact (Nat.log2_lt h0).2 (Nat.lt_of_lt_of_le h (Nat.pow_le_pow_right (by decide) (by decide)))
  refine ⟨by simp only [PyData.showable, decide_eq_true_eq]; exact hl, by simp only [PyData.hasDict], by simp [PyData.depth], ?_⟩
  simp only [PyData.shown]
  exact int_text_len_1921 hl
theorem sh_txt {z : Str} (a : asc z) : Sh 0 (10 * z.length + 2) (.str z) := by
  refine ⟨rfl, rfl, by simp [PyData.depth], ?_⟩
  simp only [PyData.shown]
  exact StrLaws.reprText_len z fun c hc => Nat.lt_of_lt_of_le (a c hc) (by decide)
mutual
theorem ats_sh {j : Nat} (hj : j ≤ 100) : ∀ d : PyData, Ats j d → d.showable = true ∧ d.hasDict = false ∧ d.shown.length + 10 ≤ 2000 * sz d ∧ PyData.canLay0 d = true
  | .none, _ => by
    refine ⟨rfl, rfl, ?_, rfl⟩
    simp only [sz]
    decide
  | .bool b, _ => by
    refine ⟨rfl, rfl, ?_, rfl⟩
    simp only [sz]
    cases b <;> decide
  | .int i, a => by
    simp only [Ats] at a
    have s := sh_big (Nat.lt_of_lt_of_le a (Nat.pow_le_pow_right (show 0 < 2 by decide) (show 700 + j ≤ 1900 by omega)))
    refine ⟨s.sh, s.nd, ?_, rfl⟩
    have := s.ln
    simp only [sz]
    omega
  | .str z, a => by
    simp only [Ats] at a
    have s := sh_txt a.1
    refine ⟨s.sh, s.nd, ?_, ?_⟩
    · have := s.ln
      simp only [sz]
      omega
    · show PyData.strOk z = true
      unfold PyData.strOk
      simp only [Array.all_eq_true, Bool.and_eq_true]
      first
        | (intro i hi
           have := a.1 z.cps[i] (by simp)
           simp
           omega)
        | (have h := a.1
           simp
           omega)
  | .tuple xs, a => by
    simp only [Ats] at a
    obtain ⟨p, q, r, s, t⟩ := ats_shs hj xs a
    refine ⟨by simp only [PyData.showable, p], by simp only [PyData.hasDict, q], ?_, by simp only [PyData.canLay0, t]⟩
    simp only [PyData.shown, sz]
    have := tupleText_len_le (PyData.shownAll xs)
    rw [s] at this
    omega
  | .list xs, a => by
    simp only [Ats] at a
    obtain ⟨p, q, r, s, t⟩ := ats_shs hj xs a
    refine ⟨by simp only [PyData.showable, p], by simp only [PyData.hasDict, q], ?_, by simp only [PyData.canLay0, t]⟩
    simp only [PyData.shown, sz]
    have := listText_len_le (PyData.shownAll xs)
    rw [s] at this
    omega
  | .dict _, a => by simp [Ats] at a
theorem ats_shs {j : Nat} (hj : j ≤ 100) : ∀ ds : List PyData, AtsL j ds → PyData.showableAll ds = true ∧ PyData.hasDictAll ds = false ∧ ((PyData.shownAll ds).map (·.length)).sum + 10 * ds.length ≤ 2000 * szs ds ∧ (PyData.shownAll ds).length = ds.length ∧ PyData.canLayAll0 ds = true
  | [], _ => by simp [PyData.showableAll, PyData.hasDictAll, PyData.shownAll, szs, PyData.canLayAll0]
  | d :: ds, a => by
    simp only [AtsL] at a
    obtain ⟨p, q, r, s⟩ := ats_sh hj d a.1
    obtain ⟨p', q', r', s', t'⟩ := ats_shs hj ds a.2
    refine ⟨by simp only [PyData.showableAll, p, p', Bool.and_self], by simp only [PyData.hasDictAll, q, q', Bool.or_self], ?_, by simp only [PyData.shownAll, List.length_cons, s'], by simp only [PyData.canLayAll0, s, t', Bool.and_self]⟩
    simp only [PyData.shownAll, List.map_cons, List.sum_cons, szs, List.length_cons]
    omega
end
/-- of this size, this depth, with such ends -/
structure Fit (m k j : Nat) (d : PyData) : Prop where
  sz : sz d ≤ m
  dp : PyData.depth d ≤ k
  at_ : Ats j d
theorem Fit.mono {m m' k k' j j' : Nat} {d : PyData} (h : Fit m k j d) (a : m ≤ m') (b : k ≤ k') (c : j ≤ j') : Fit m' k' j' d := ⟨Nat.le_trans h.sz a, Nat.le_trans h.dp b, Ats.mono c d h.at_⟩
theorem Fit.sh {m k j : Nat} {d : PyData} (h : Fit m k j d) (hj : j ≤ 100) : Sh k (2000 * m) d := by
  obtain ⟨a, b, c, _⟩ := ats_sh hj d h.at_
  have := h.sz
  exact ⟨a, b, h.dp, by omega⟩
theorem Fit.shaped {m k j : Nat} {d : PyData} (h : Fit m k j d) (hj : j ≤ 100) (hk : k ≤ 60) : SeqAt.shaped d = true := by
  obtain ⟨_, _, _, a⟩ := ats_sh hj d h.at_
  have := h.dp
  unfold SeqAt.shaped
  rw [a, decide_eq_true (by omega)]
  rfl
theorem Fit.mem {m k j : Nat} {ds : List PyData} {d : PyData} (h : Fit m (k + 1) j (.tuple ds)) (hm : d ∈ ds) : Fit m k j d := by
  refine ⟨?_, ?_, Ats.tup.mp h.at_ d hm⟩
  · have := h.sz
    rw [sz_tup] at this
    have := szs_mem hm
    omega
  · have := h.dp
    rw [dep_tup] at this
    exact dep_all.mp (show PyData.depthAll ds ≤ k by omega) d hm
theorem fit_tup {m k j : Nat} {ds : List PyData} (hs : szs ds ≤ m) (h : ∀ d ∈ ds, PyData.depth d ≤ k ∧ Ats j d) : Fit (m + 1) (k + 1) j (.tuple ds) :=
  ⟨by rw [sz_tup]; omega, by rw [dep_tup]; have := dep_all.mpr fun d hd => (h d hd).1; omega, Ats.tup.mpr fun d hd => (h d hd).2⟩
theorem fit_lst {m k j : Nat} {ds : List PyData} (hs : szs ds ≤ m) (h : ∀ d ∈ ds, PyData.depth d ≤ k ∧ Ats j d) : Fit (m + 1) (k + 1) j (.list ds) :=
  ⟨by rw [sz_lst]; omega, by rw [dep_lst]; have := dep_all.mpr fun d hd => (h d hd).1; omega, Ats.lst.mpr fun d hd => (h d hd).2⟩
theorem dep_ints (ns : List Int) : ∀ d ∈ dInts ns, PyData.depth d = 0 := fun d hd => by
  obtain ⟨i, _, rfl⟩ := List.mem_map.mp hd
  simp [PyData.depth]
theorem szs_ints : ∀ ns : List Int, szs (dInts ns) = ns.length
  | [] => rfl
  | n :: ns => by
    show sz (.int n) + szs (dInts ns) = _
    rw [szs_ints ns]
    simp [sz]
    omega
theorem fit_ints {ns : List Int} {m j : Nat} (hl : ns.length ≤ m) (h : ∀ n ∈ ns, n.natAbs < 2 ^ (700 + j)) : Fit (m + 1) 1 j (.tuple (dInts ns)) :=
  fit_tup (by rw [szs_ints]; exact hl) fun d hd => ⟨by rw [dep_ints ns d hd]; exact Nat.le_refl _, by
    obtain ⟨i, hi, rfl⟩ := List.mem_map.mp hd
    simp only [Ats]
    exact h i hi⟩
end TB

set_option Elab.async false
set_option linter.all false
set_option maxRecDepth 100000
set_option maxHeartbeats 2000000
namespace Kd
open PySem VL G
/-- the parts of a tuple -/
def tupOf : D → Option (List D)
  | .tup ds => some ds
  | .ctp ds => some ds
  | _ => none
theorem eqv_int (a b : Int) : eqvD (.int a) (.int b) = decide (a = b) := by
  simp [eqvD, D.py, PyData.eqv]
  by_cases h : a = b <;> simp [h]
theorem f_is_tuple_of (d : D) (n : Nat) (st : AS) (h : d.pure = true) : F_is_tuple_of [d, .int n] st = .ok (.bl (match tupOf d with | some ds => decide (ds.length = n) | none => false)) st := by
  cases d <;> simp [F_is_tuple_of, B_is_tuple_of, isT, tupOf, D.pure, eqD, scalD, eqv_int] at h ⊢
  all_goals norm_cast
def cntsD (d : D) (n : Nat) : Bool := match tupOf d with
  | some ds => decide (ds.length = n) && ds.all cntD
  | none => false
theorem gdOf_ok (d : D) (ds : List D) (st : AS) (h : d.pure = true) : (gdOf d ds).ok st := by
  cases d <;> first | exact gd_nilOk | (simp [D.pure] at h)
theorem pure_mem {d : D} {ds : List D} (h : d.pure = true) (e : tupOf d = some ds) : ∀ x ∈ ds, x.pure = true := by
  cases d <;> simp [tupOf] at e
  all_goals
    subst e
    rw [D.pure, D.pures_eq, List.all_eq_true] at h
    exact h
theorem bls_of (f : D → Bool) (ds : List D) : blsOf (ds.map fun d => D.bl (f d)) = some (ds.map f) := bls_map f ds
theorem f_are_counts (d : D) (n : Nat) (st : AS) (h : d.pure = true) (hl : ∀ ds, tupOf d = some ds → ds.length ≤ sizeLine) : F_are_counts [d, .int n] st = .ok (.bl (cntsD d n)) st := by
  have e := f_is_tuple_of d n st h
  cases et : tupOf d with
  | none =>
    rw [et] at e
    simp [F_are_counts, B_are_counts, e, cntsD, et]
  | some ds =>
    rw [et] at e
    have hs := hl ds et
    have hm := pure_mem h et
    have sq : seqOf st d = some ds := by cases d <;> simp [tupOf] at et <;> simp [et]
    have cm : compL (kName 2) tYesV (vCallA 1 0 [] [.pos 0] F_is_count (vCons (vVar 2) vNil) vNil) [some d, some (.int n), none] (gdOf d ds) ds st = .ok (ds.map fun x => D.bl (cntD x)) st := by
      rw [compL_map (gdOf_ok d ds st h) (fun _ => true) (fun x => .bl (cntD x))]
      · rw [List.filter_eq_self.mpr (fun _ _ => rfl)]
      · intro x hx
        refine ⟨_, rfl, rfl, fun _ => ?_⟩
        simp [f_is_count x st (hm x hx)]
    by_cases z : ds.length = n
    · have hn : n ≤ sizeLine := z ▸ hs
      cases d <;> simp [tupOf] at et
      all_goals
        subst et
        simp [gdOf] at cm
        have fe : (cntD : D → Bool) = (id ∘ cntD) := rfl
        simp [F_are_counts, B_are_counts, e, cntsD, tupOf, z, gdOf, cm, bls_map, List.all_map, hn]
    · simp [F_are_counts, B_are_counts, e, cntsD, et, z]
end Kd

set_option Elab.async false
set_option linter.all false
set_option maxRecDepth 100000
set_option maxHeartbeats 2000000
namespace Kd
open PySem VL G
mutual
/-- plain: made of ints, texts, truths, None, tuples and lists -/
def pln : D → Bool
  | .tup ds => plns ds
  | .lst ds => plns ds
  | .non => true
  | .bl _ => true
  | .int _ => true
  | .str _ => true
  | _ => false
def plns : List D → Bool
  | [] => true
  | d :: ds => pln d && plns ds
end
theorem plns_eq : ∀ ds : List D, plns ds = ds.all pln
  | [] => by simp [plns]
  | d :: ds => by simp [plns, plns_eq ds]
mutual
theorem pln_pure : ∀ {d : D}, pln d = true → d.pure = true
  | .tup ds, h => by rw [pln] at h; rw [D.pure]; exact plns_pure h
  | .lst ds, h => by rw [pln] at h; rw [D.pure]; exact plns_pure h
  | .non, _ => by simp [D.pure]
  | .bl _, _ => by simp [D.pure]
  | .int _, _ => by simp [D.pure]
  | .str _, _ => by simp [D.pure]
  | .ctp _, h => by simp [pln] at h
  | .fzl _, h => by simp [pln] at h
  | .ref _, h => by simp [pln] at h
  | .cv _, h => by simp [pln] at h
theorem plns_pure : ∀ {ds : List D}, plns ds = true → D.pures ds = true
  | [], _ => by simp [D.pures]
  | d :: ds, h => by
    rw [plns, Bool.and_eq_true] at h
    rw [D.pures, pln_pure h.1, plns_pure h.2]
    rfl
end
/-- words that rise -/
def risS : List D → Bool
  | .str x :: .str y :: r => ltStr x y && risS (.str y :: r)
  | _ => true
def strD : D → Bool
  | .str _ => true
  | _ => false
theorem ris_zip : ∀ (ds : List D), ds.all strD = true → (((ds.zip (ds.drop 1)).map fun p => match p.1, p.2 with | .str x, .str y => ltStr x y | _, _ => false).all id) = risS ds
  | [], _ => by simp [risS]
  | [d], h => by
    cases d <;> simp [strD] at h
    simp [risS]
  | d :: e :: r, h => by
    simp only [List.all_cons, Bool.and_eq_true] at h
    have ih := ris_zip (e :: r) (by simp only [List.all_cons, Bool.and_eq_true]; exact ⟨h.2.1, h.2.2⟩)
    cases d <;> simp [strD] at h
    cases e <;> simp [strD] at h
    simp only [List.drop_one, List.tail_cons, List.zip_cons_cons, List.map_cons, List.all_cons] at ih ⊢
    simp only [risS]
    rw [← ih]
    simp
theorem f_rises (ds : List D) (st : AS) (hw : ds.all strD = true) (hl : ds.length ≤ sizeLine) : F_rises [.tup ds] st = .ok (.bl (risS ds)) st := by
  have ct : VL.cut ds (some 1) none = ds.drop 1 := by
    exact cut_from ds 1 (by decide)
  have cm : compL (kTup 2 (kCons (kName 1) (kCons (kName 2) kNil))) tYesV (v2 ltD (vVar 1) (vVar 2)) [some (.tup ds), none, none] [] ((ds.zip (ds.drop 1)).map fun p => .tup [p.1, p.2]) st = .ok ((ds.zip (ds.drop 1)).map fun p => D.bl (match p.1, p.2 with | .str x, .str y => ltStr x y | _, _ => false)) st := by
    rw [compL_map gd_nilOk (fun _ => true) (fun d => match d with | .tup [.str x, .str y] => .bl (ltStr x y) | _ => .bl false)]
    · rw [List.filter_eq_self.mpr (fun _ _ => rfl), List.map_map]
      congr 1
      apply List.map_congr_left
      rintro ⟨a, b⟩ hab
      obtain ⟨ha, hb⟩ := List.of_mem_zip hab
      have h1 := List.all_eq_true.mp hw a ha
      have h2 := List.all_eq_true.mp hw b (List.mem_of_mem_drop hb)
      cases a <;> simp [strD] at h1
      cases b <;> simp [strD] at h2
      rfl
    · intro d hd
      obtain ⟨⟨a, b⟩, hab, rfl⟩ := List.mem_map.mp hd
      obtain ⟨ha, hb⟩ := List.of_mem_zip hab
      have h1 := List.all_eq_true.mp hw a ha
      have h2 := List.all_eq_true.mp hw b (List.mem_of_mem_drop hb)
      cases a <;> simp [strD] at h1
      cases b <;> simp [strD] at h2
      refine ⟨_, by simp; rfl, rfl, fun _ => ?_⟩
      simp
  try simp at cm
  have hz : (ds.zip (ds.drop 1)).length ≤ sizeLine := by
    rw [List.length_zip]
    omega
  have q := ris_zip ds hw
  have hz2 : ds.length ≤ sizeLine + 1 := by omega
  have bm := bls_map (fun p : D × D => match p.1, p.2 with | .str x, .str y => ltStr x y | _, _ => false) (ds.zip ds.tail)
  simp only [List.drop_one] at q
  simp [F_rises, B_rises, ct, gdOf, cm, hz2, bm, q]
end Kd

set_option Elab.async false
set_option linter.all false
set_option maxRecDepth 100000
set_option maxHeartbeats 2000000
namespace G
open PySem VL

abbrev d_WHOLE : D := .int 100
noncomputable def B_are_prices : En → AS → Fl :=
    (sRet (vAndV (vA isiD (vCons (vVar 0) (vCons (vC (.cv (.v (.ty "tuple")))) vNil))) (vAndV (v2 gtD (vA (g1 lenD) (vCons (vVar 0) vNil)) (vC (.int 0))) (vAndV (vA (g1 (onBls fun bs => bs.all id)) (vCons (vLc false [1] (v1 itD (vVar 0)) (kName 1) tYesV (vCallA 2 0 [] [.pos 0, .pos 1] F_are_counts (vCons (vVar 1) (vCons (vC (.int 2)) vNil)) vNil)) vNil)) (vAndV (v2 (eqD false) (v2 ixD (v2 ixD (vVar 0) (vC (.int 0))) (vC (.int 0))) (vC (.int 0))) (vCallA 1 0 [] [.pos 0] F_rises (vCons (vLc false [1] (v1 itD (vVar 0)) (kName 1) tYesV (v2 ixD (vVar 1) (vC (.int 0)))) vNil) vNil))))))
noncomputable def F_are_prices : List D → AS → Out D := vFn 2 0 B_are_prices
noncomputable def B_is_menu_row : En → AS → Fl :=
    (sRet (vAndV (vCallA 2 0 [] [.pos 0, .pos 1] F_is_tuple_of (vCons (vVar 0) (vCons (vC (.int 3)) vNil)) vNil) (vAndV (vCallA 1 0 [] [.pos 0] F_is_word (vCons (v2 ixD (vVar 0) (vC (.int 0))) vNil) vNil) (vAndV (vCallA 1 0 [] [.pos 0] F_is_count (vCons (v2 ixD (vVar 0) (vC (.int 1))) vNil) vNil) (vCallA 1 0 [] [.pos 0] F_are_prices (vCons (v2 ixD (vVar 0) (vC (.int 2))) vNil) vNil)))))
noncomputable def F_is_menu_row : List D → AS → Out D := vFn 1 0 B_is_menu_row
noncomputable def B_is_menu : En → AS → Fl :=
    (sRet (vAndV (vA isiD (vCons (vVar 0) (vCons (vC (.cv (.v (.ty "tuple")))) vNil))) (vAndV (v2 gtD (vA (g1 lenD) (vCons (vVar 0) vNil)) (vC (.int 0))) (vAndV (vA (g1 (onBls fun bs => bs.all id)) (vCons (vLc false [1] (v1 itD (vVar 0)) (kName 1) tYesV (vCallA 1 0 [] [.pos 0] F_is_menu_row (vCons (vVar 1) vNil) vNil)) vNil)) (vCallA 1 0 [] [.pos 0] F_rises (vCons (vLc false [1] (v1 itD (vVar 0)) (kName 1) tYesV (v2 ixD (vVar 1) (vC (.int 0)))) vNil) vNil)))))
noncomputable def F_is_menu : List D → AS → Out D := vFn 2 0 B_is_menu
noncomputable def B_is_off : En → AS → Fl :=
    (sRet (vAndV (vCallA 2 0 [] [.pos 0, .pos 1] F_is_tuple_of (vCons (vVar 0) (vCons (vC (.int 4)) vNil)) vNil) (vAndV (vCallA 1 0 [] [.pos 0] F_are_rising_words (vCons (v2 ixD (vVar 0) (vC (.int 0))) vNil) vNil) (vAndV (vCallA 2 0 [] [.pos 0, .pos 1] F_are_counts (vCons (vSl (slD false) (vVar 0) (v1 asI (vC (.int 1))) vNoPart) (vCons (vC (.int 3)) vNil)) vNil) (v2 leD (v2 ixD (vVar 0) (vC (.int 3))) (vC d_WHOLE))))))
noncomputable def F_is_off : List D → AS → Out D := vFn 1 0 B_is_off
noncomputable def B_is_offs : En → AS → Fl :=
    (sRet (vAndV (vA isiD (vCons (vVar 0) (vCons (vC (.cv (.v (.ty "tuple")))) vNil))) (vA (g1 (onBls fun bs => bs.all id)) (vCons (vLc false [1] (v1 itD (vVar 0)) (kName 1) tYesV (vCallA 1 0 [] [.pos 0] F_is_off (vCons (vVar 1) vNil) vNil)) vNil))))
noncomputable def F_is_offs : List D → AS → Out D := vFn 2 0 B_is_offs
noncomputable def B_menu_row : En → AS → Fl :=
    (sSeq (sFor (v1 itD (vVar 0)) (kName 2) (sKill [2] (sIf (vB (v2 (eqD false) (v2 ixD (vVar 2) (vC (.int 0))) (vVar 1))) (sRet (vVar 2)) sNext)))
    sBad)
noncomputable def F_menu_row : List D → AS → Out D := vFn 3 0 B_menu_row
noncomputable def B_price : En → AS → Fl :=
    (sSeq (sSet 3 (v2 ixD (vCallA 2 0 [] [.pos 0, .pos 1] F_menu_row (vCons (vVar 0) (vCons (vVar 1) vNil)) vNil) (vC (.int 2))))
    (sRet (v2 ixD (vLc false [4, 5] (v1 itD (vVar 3)) (kTup 2 (kCons (kName 4) (kCons (kName 5) kNil))) (vB (v2 leD (vVar 4) (vVar 2))) (vVar 5)) (v1 negD (vC (.int 1))))))
noncomputable def F_price : List D → AS → Out D := vFn 6 0 B_price
noncomputable def B_minutes_of : En → AS → Fl :=
    (sRet (v2 ixD (vCallA 2 0 [] [.pos 0, .pos 1] F_menu_row (vCons (vVar 0) (vCons (vVar 1) vNil)) vNil) (vC (.int 1))))
noncomputable def F_minutes_of : List D → AS → Out D := vFn 2 0 B_minutes_of
end G

set_option Elab.async false
set_option linter.all false
set_option maxRecDepth 100000
set_option maxHeartbeats 2000000
namespace Kd
open PySem VL TB G
/-- what is small enough to be looked at -/
structure Ok (m k j : Nat) (d : D) : Prop where
  p : pln d = true
  f : Fit m k j d.py
theorem ats_str {j : Nat} {x : Str} (h : Ats j (.str x)) : asc x ∧ x.length ≤ 20 + j := by
  simpa [Ats] using h
def risWD (d : D) : Bool := match d with
  | .tup ds => ds.all wordD && risS ds
  | _ => false
theorem word_str {d : D} (h : wordD d = true) : strD d = true := by
  cases d <;> simp [wordD, strD] at h ⊢
theorem f_are_rising_words (d : D) (st : AS) (h : pln d = true) (hl : ∀ ds, d = .tup ds → ds.length ≤ sizeLine ∧ ∀ x, .str x ∈ ds → x.length ≤ sizeLine) : F_are_rising_words [d] st = .ok (.bl (risWD d)) st := by
  cases d with
  | tup ds =>
    obtain ⟨h1, h2⟩ := hl ds rfl
    have hm : ∀ x ∈ ds, pln x = true := by
      rw [pln, plns_eq, List.all_eq_true] at h
      exact h
    have cm : compL (kName 1) tYesV (vCallA 1 0 [] [.pos 0] F_is_word (vCons (vVar 1) vNil) vNil) [some (.tup ds), none] [] ds st = .ok (ds.map fun x => D.bl (wordD x)) st := by
      rw [compL_map gd_nilOk (fun _ => true) (fun x => .bl (wordD x))]
      · rw [List.filter_eq_self.mpr (fun _ _ => rfl)]
      · intro x hx
        refine ⟨_, rfl, rfl, fun _ => ?_⟩
        simp [f_is_word x st (pln_pure (hm x hx)) (fun y e => h2 y (e ▸ hx))]
    by_cases hw : ds.all wordD = true
    · have hs : ds.all strD = true := List.all_eq_true.mpr fun x hx => word_str (List.all_eq_true.mp hw x hx)
      have hr := f_rises ds st hs h1
      simp [F_are_rising_words, B_are_rising_words, isT, gdOf, cm, bls_map, h1, hw, hr, risWD]
    · have hw' : ds.all wordD = false := by simpa using hw
      simp [F_are_rising_words, B_are_rising_words, isT, gdOf, cm, bls_map, h1, hw', risWD]
  | _ => simp [F_are_rising_words, B_are_rising_words, isT, risWD, pln] at h ⊢
/-- the sizes that the looks want -/
def Sml (d : D) : Prop := ∀ ds, d = .tup ds → ds.length ≤ sizeLine ∧ ∀ x, .str x ∈ ds → x.length ≤ sizeLine
def offD (d : D) : Bool := match d with
  | .tup [a, .int i, .int j, .int p] => risWD a && (decide (0 ≤ i) && decide (0 ≤ j) && decide (0 ≤ p) && decide (p ≤ 100))
  | _ => false
theorem f_is_off (d : D) (st : AS) (h : pln d = true) (hl : Sml d) (hm : ∀ ds, d = .tup ds → ∀ x ∈ ds, Sml x) : F_is_off [d] st = .ok (.bl (offD d)) st := by
  have hp := pln_pure h
  have e1 := f_is_tuple_of d 4 st hp
  cases d with
  | tup ds =>
    have hmp : ∀ x ∈ ds, pln x = true := by
      rw [pln, plns_eq, List.all_eq_true] at h
      exact h
    by_cases h4 : ds.length = 4
    · match ds, h4 with
      | [a, b, c, e], _ =>
        have e2 := f_are_rising_words a st (hmp a (by simp)) (hm _ rfl a (by simp))
        have ct : VL.cut [a, b, c, e] (some 1) none = [b, c, e] := cut_from _ 1 (by decide)
        have e3 : F_are_counts [.tup [b, c, e], .int 3] st = .ok (.bl (cntsD (.tup [b, c, e]) 3)) st := f_are_counts (.tup [b, c, e]) 3 st (by
          rw [D.pure]
          simp [D.pures, pln_pure (hmp b (by simp)), pln_pure (hmp c (by simp)), pln_pure (hmp e (by simp))]) (fun ds q => by
          cases q
          rw [sizeLine_eq]
          show 3 ≤ 16777216
          decide)
        simp [tupOf] at e1
        by_cases hr : risWD a = true
        · by_cases hc : cntsD (.tup [b, c, e]) 3 = true
          · have hc0 := hc
            simp [cntsD, tupOf] at hc
            obtain ⟨q1, q2, q3⟩ := hc
            cases b <;> simp [cntD] at q1
            cases c <;> simp [cntD] at q2
            cases e <;> simp [cntD] at q3
            simp [F_is_off, B_is_off, e1, L2.atI, L2.ixN, e2, hr, ct, e3, hc0, offD, q1, q2, q3]
          · have hc' : cntsD (.tup [b, c, e]) 3 = false := by simpa using hc
            have ho : offD (.tup [a, b, c, e]) = false := by
              unfold offD
              split
              · rename_i q
                cases q
                simp [cntsD, tupOf, cntD] at hc'
                simp
                omega
              · rfl
            simp [F_is_off, B_is_off, e1, L2.atI, L2.ixN, e2, hr, ct, e3, hc', ho]
        · have hr' : risWD a = false := by simpa using hr
          have ho : offD (.tup [a, b, c, e]) = false := by
            unfold offD
            split
            · rename_i q
              cases q
              simp [hr']
            · rfl
          simp [F_is_off, B_is_off, e1, L2.atI, L2.ixN, e2, hr', ho]
    · have e1' : F_is_tuple_of [.tup ds, .int 4] st = .ok (.bl false) st := by
        have := e1
        simp [tupOf, h4] at this
        exact this
      have ho : offD (.tup ds) = false := by
        unfold offD
        split
        · rename_i q
          cases q
          simp at h4
        · rfl
      simp [F_is_off, B_is_off, e1', ho]
  | ctp ds => simp [pln] at h
  | _ =>
    simp [tupOf] at e1
    simp [F_is_off, B_is_off, e1, offD]
end Kd

set_option Elab.async false
set_option linter.all false
set_option maxRecDepth 100000
set_option maxHeartbeats 2000000
namespace Kd
open PySem VL TB G
/-- small all through: as deep as the looks go -/
structure Sm (d : D) : Prop where
  p : pln d = true
  s0 : Sml d
  s1 : ∀ ds, d = .tup ds → ∀ x ∈ ds, Sml x
  s2 : ∀ ds, d = .tup ds → ∀ x ∈ ds, ∀ es, x = .tup es → ∀ y ∈ es, Sml y
def offsD (d : D) : Bool := match d with
  | .tup ds => ds.all offD
  | _ => false
theorem f_is_offs (d : D) (st : AS) (h : Sm d) : F_is_offs [d] st = .ok (.bl (offsD d)) st := by
  cases d with
  | tup ds =>
    have h1 := (h.s0 ds rfl).1
    have hm : ∀ x ∈ ds, pln x = true := by
      have := h.p
      rw [pln, plns_eq, List.all_eq_true] at this
      exact this
    have cm : compL (kName 1) tYesV (vCallA 1 0 [] [.pos 0] F_is_off (vCons (vVar 1) vNil) vNil) [some (.tup ds), none] [] ds st = .ok (ds.map fun x => D.bl (offD x)) st := by
      rw [compL_map gd_nilOk (fun _ => true) (fun x => .bl (offD x))]
      · rw [List.filter_eq_self.mpr (fun _ _ => rfl)]
      · intro x hx
        refine ⟨_, rfl, rfl, fun _ => ?_⟩
        simp [f_is_off x st (hm x hx) (h.s1 ds rfl x hx) (h.s2 ds rfl x hx)]
    simp [F_is_offs, B_is_offs, isT, gdOf, cm, bls_map, h1, offsD]
  | _ =>
    have := h.p
    simp [F_is_offs, B_is_offs, isT, offsD, pln] at this ⊢
end Kd

set_option Elab.async false
set_option linter.all false
set_option maxRecDepth 100000
set_option maxHeartbeats 2000000
namespace Kd
open PySem VL TB G
theorem pys_map (ds : List D) : D.pys ds = ds.map D.py := D.pys_eq ds
theorem Ok.mem {m k j : Nat} {ds : List D} (h : Ok m (k + 1) j (.tup ds)) : ∀ x ∈ ds, Ok m k j x := fun x hx => by
  have hp := h.p
  rw [pln, plns_eq, List.all_eq_true] at hp
  have hf := h.f
  rw [D.py, pys_map] at hf
  exact ⟨hp x hx, hf.mem (List.mem_map_of_mem hx)⟩
theorem Ok.sml {m k j : Nat} {d : D} (h : Ok m k j d) (hm : m ≤ 16000000) (hj : j ≤ 100) : Sml d := fun ds e => by
  subst e
  have hf := h.f
  rw [D.py, pys_map] at hf
  have h1 := hf.sz
  rw [sz_tup] at h1
  have h2 := szs_len (ds.map D.py)
  rw [List.length_map] at h2
  refine ⟨by rw [sizeLine_eq]; omega, fun x hx => ?_⟩
  have h3 := Ats.tup.mp hf.at_ (.str x) (by
    have := List.mem_map_of_mem (f := D.py) hx
    rwa [D.py] at this)
  have := (ats_str h3).2
  rw [sizeLine_eq]
  omega
theorem Ok.sm {m k j : Nat} {d : D} (h : Ok m (k + 3) j d) (hm : m ≤ 16000000) (hj : j ≤ 100) : Sm d := by
  refine ⟨h.p, h.sml hm hj, fun ds e x hx => ?_, fun ds e x hx es e2 y hy => ?_⟩
  · subst e
    exact (Ok.mem (k := k + 2) h x hx).sml hm hj
  · subst e
    have h1 := Ok.mem (k := k + 2) h x hx
    subst e2
    exact (Ok.mem (k := k + 1) h1 y hy).sml hm hj
theorem Ok.fit {m k j : Nat} {d : D} (h : Ok m k j d) (hj : j ≤ 100) (hk : k ≤ 60) : d.fit = true := by
  unfold D.fit
  rw [pln_pure h.p, h.f.shaped hj hk]
  rfl
end Kd

set_option Elab.async false
set_option linter.all false
set_option maxRecDepth 100000
set_option maxHeartbeats 2000000
namespace G
open PySem VL

noncomputable def B__law_prices_33c9 : En → AS → Fl :=
    (sSeq (sPar 1 2 (vCons (vA (gLst true) vNil) (vCons (vC (.int 0)) vNil)))
    (sSeq (sFor (vA rng1 (vCons (v2 (addD false) (vC (.int 1)) (vCallA 2 0 [] [.pos 0, .pos 1] F__law_draw_ed7e (vCons (vVar 0) (vCons (vC (.int 4)) vNil)) vNil)) vNil)) (kName 3) (sKill [3, 4] (sSeq (sSet 4 (vA gTup (vCons (vC (.int 0)) (vCons (vC (.int 1)) (vCons (vCallA 2 0 [] [.pos 0, .pos 1] F__law_draw_ed7e (vCons (vVar 0) (vCons (vC (.int 100)) vNil)) vNil) (vCons (v2 subD (vC (.int 100000)) (vCallA 2 0 [] [.pos 0, .pos 1] F__law_draw_ed7e (vCons (vVar 0) (vCons (vC (.int 3)) vNil)) vNil)) (vCons (vCallA 2 0 [] [.pos 0, .pos 1] F__law_draw_ed7e (vCons (vVar 0) (vCons (vC (.int 100001)) vNil)) vNil) vNil)))))))
    (sSeq (sExpr (vML appD (vVar 1) (vCons (vA gTup (vCons (vVar 2) (vCons (v2 ixD (vVar 4) (vCallA 2 0 [] [.pos 0, .pos 1] F__law_draw_ed7e (vCons (vVar 0) (vCons (vC (.int 5)) vNil)) vNil)) vNil))) vNil)))
    (sAug 2 (iiD fun a b => .int (a + b)) (v2 (addD false) (vC (.int 1)) (v2 ixD (vA gTup (vCons (vC (.int 0)) (vCons (vCallA 2 0 [] [.pos 0, .pos 1] F__law_draw_ed7e (vCons (vVar 0) (vCons (vC (.int 90)) vNil)) vNil) (vCons (vCallA 2 0 [] [.pos 0, .pos 1] F__law_draw_ed7e (vCons (vVar 0) (vCons (vC (.int 30000)) vNil)) vNil) vNil)))) (vCallA 2 0 [] [.pos 0, .pos 1] F__law_draw_ed7e (vCons (vVar 0) (vCons (vC (.int 3)) vNil)) vNil))))))))
    (sRet (vA (g1 tupD) (vCons (vVar 1) vNil)))))
noncomputable def F__law_prices_33c9 : List D → AS → Out D := vFn 5 0 B__law_prices_33c9
noncomputable def B__law_menu_3a71 : En → AS → Fl :=
    (sSeq (sSet 2 (vA (gLst true) vNil))
    (sSeq (sFor (vA rng1 (vCons (vVar 1) vNil)) (kName 3) (sKill [3] (sExpr (vML appD (vVar 2) (vCons (vCallA 2 0 [] [.pos 0, .pos 1] F__law_word_8a86 (vCons (vVar 0) (vCons (vVar 2) vNil)) vNil) vNil)))))
    (sRet (vA (g1 tupD) (vCons (vLc false [4] (v1 itD (vA (g1 (sortD false)) (vCons (vVar 2) vNil))) (kName 4) tYesV (vA gTup (vCons (vVar 4) (vCons (vCallA 2 0 [] [.pos 0, .pos 1] F__law_draw_ed7e (vCons (vVar 0) (vCons (vC (.int 61)) vNil)) vNil) (vCons (vCallA 1 0 [] [.pos 0] F__law_prices_33c9 (vCons (vVar 0) vNil) vNil) vNil))))) vNil)))))
noncomputable def F__law_menu_3a71 : List D → AS → Out D := vFn 5 0 B__law_menu_3a71
noncomputable def B__law_worded_c386 : En → AS → Fl :=
    (sSeq (sIf (vOr (vNot (v1 truD (vA isiD (vCons (vVar 0) (vCons (vC (.cv (.v (.ty "str")))) vNil))))) (vOr (vB (v2 (eqD false) (vVar 0) (vC (.str "")))) (vB (v2 gtD (vA (g1 lenD) (vCons (vVar 0) vNil)) (vC (.int 8)))))) (sRet (vC (.bl false))) sNext)
    (sRet (v2 (eqD false) (vLc false [1] (v1 itD (vVar 0)) (kName 1) (vOr (vB (v2 ltD (vA (g1 ordCD) (vCons (vVar 1) vNil)) (vC (.int 97)))) (vB (v2 gtD (vA (g1 ordCD) (vCons (vVar 1) vNil)) (vC (.int 122))))) (vVar 1)) (vA (gLst false) vNil))))
noncomputable def F__law_worded_c386 : List D → AS → Out D := vFn 2 0 B__law_worded_c386
noncomputable def B__law_priced : En → AS → Fl :=
    (sSeq (sIf (vOr (vNot (v1 truD (vA isiD (vCons (vVar 0) (vCons (vC (.cv (.v (.ty "tuple")))) vNil))))) (vB (v2 (eqD false) (vVar 0) (vA gTup vNil)))) (sRet (vC (.bl false))) sNext)
    (sSeq (sFor (v1 itD (vVar 0)) (kName 1) (sKill [1] (sSeq (sIf (vOr (vNot (v1 truD (vA isiD (vCons (vVar 1) (vCons (vC (.cv (.v (.ty "tuple")))) vNil))))) (vB (v2 (eqD true) (vA (g1 lenD) (vCons (vVar 1) vNil)) (vC (.int 2))))) (sRet (vC (.bl false))) sNext)
    (sIf (vOr (vNot (v1 truD (vCallA 1 0 [] [.pos 0] F__law_number_6395 (vCons (v2 ixD (vVar 1) (vC (.int 0))) vNil) vNil))) (vOr (vNot (v1 truD (vCallA 1 0 [] [.pos 0] F__law_number_6395 (vCons (v2 ixD (vVar 1) (vC (.int 1))) vNil) vNil))) (vOr (vB (v2 ltD (v2 ixD (vVar 1) (vC (.int 0))) (vC (.int 0)))) (vB (v2 ltD (v2 ixD (vVar 1) (vC (.int 1))) (vC (.int 0))))))) (sRet (vC (.bl false))) sNext))))
    (sSeq (sSet 2 (vLc false [1] (v1 itD (vVar 0)) (kName 1) tYesV (v2 ixD (vVar 1) (vC (.int 0)))))
    (sRet (vAndV (v2 (eqD false) (vVar 2) (v1 (srtSetD false) (vVar 2))) (v2 (eqD false) (v2 ixD (vVar 2) (vC (.int 0))) (vC (.int 0))))))))
noncomputable def F__law_priced : List D → AS → Out D := vFn 3 0 B__law_priced
noncomputable def B__law_carded : En → AS → Fl :=
    (sSeq (sIf (vOr (vNot (v1 truD (vA isiD (vCons (vVar 0) (vCons (vC (.cv (.v (.ty "tuple")))) vNil))))) (vB (v2 (eqD false) (vVar 0) (vA gTup vNil)))) (sRet (vC (.bl false))) sNext)
    (sSeq (sFor (v1 itD (vVar 0)) (kName 1) (sKill [1] (sSeq (sIf (vOr (vNot (v1 truD (vA isiD (vCons (vVar 1) (vCons (vC (.cv (.v (.ty "tuple")))) vNil))))) (vOr (vB (v2 (eqD true) (vA (g1 lenD) (vCons (vVar 1) vNil)) (vC (.int 3)))) (vNot (v1 truD (vCallA 1 0 [] [.pos 0] F__law_worded_c386 (vCons (v2 ixD (vVar 1) (vC (.int 0))) vNil) vNil))))) (sRet (vC (.bl false))) sNext)
    (sIf (vOr (vNot (v1 truD (vCallA 1 0 [] [.pos 0] F__law_number_6395 (vCons (v2 ixD (vVar 1) (vC (.int 1))) vNil) vNil))) (vOr (vB (v2 ltD (v2 ixD (vVar 1) (vC (.int 1))) (vC (.int 0)))) (vNot (v1 truD (vCallA 1 0 [] [.pos 0] F__law_priced (vCons (v2 ixD (vVar 1) (vC (.int 2))) vNil) vNil))))) (sRet (vC (.bl false))) sNext))))
    (sSeq (sSet 2 (vLc false [1] (v1 itD (vVar 0)) (kName 1) tYesV (v2 ixD (vVar 1) (vC (.int 0)))))
    (sRet (v2 (eqD false) (vVar 2) (v1 (srtSetD false) (vVar 2)))))))
noncomputable def F__law_carded : List D → AS → Out D := vFn 3 0 B__law_carded
noncomputable def B__law_fixed_4990 : En → AS → Fl :=
    (sSeq (sAsg (vA gTup (vCons (vA gTup (vCons (vA gTup (vCons (vC (.int 0)) (vCons (vC (.int 5)) vNil))) vNil)) (vCons (v2 powD (vC (.int 10)) (vC (.int 60))) vNil))) (kTup 2 (kCons (kName 0) (kCons (kName 1) kNil))))
    (sSeq (sPar 2 3 (vCons (vA gTup (vCons (vC (.str "a")) (vCons (vC (.int 1)) (vCons (vVar 0) vNil)))) (vCons (vA gTup (vCons (vC (.str "b")) (vCons (vC (.int 0)) (vCons (vA gTup (vCons (vA gTup (vCons (vC (.int 0)) (vCons (vC (.int 0)) vNil))) (vCons (vA gTup (vCons (vC (.int 1)) (vCons (vC (.int 9)) vNil))) vNil))) vNil)))) vNil)))
    (sSeq (sSet 4 (vA (gLst true) (vCons (vA gTup vNil) (vCons (vA gTup (vCons (vVar 2) vNil)) (vCons (vA gTup (vCons (vVar 2) (vCons (vVar 3) vNil))) (vCons (vA gTup (vCons (vVar 3) (vCons (vVar 2) vNil))) (vCons (vA gTup (vCons (vVar 2) (vCons (vVar 2) vNil))) (vCons (vA (gLst false) (vCons (vVar 2) (vCons (vVar 3) vNil))) (vCons (vVar 2) (vCons (vC .non) (vCons (vC (.int 0)) (vCons (vC (.str "a")) (vCons (vA gTup (vCons (vVar 2) (vCons (vC .non) vNil))) (vCons (vA gTup (vCons (vVar 2) (vCons (vA (g1 (lstD false)) (vCons (vVar 3) vNil)) vNil))) (vCons (vA gTup (vCons (vA gTup vNil) vNil)) (vCons (vA gTup (vCons (vC .non) vNil)) vNil))))))))))))))))
    (sSeq (sExpr (vML extD (vVar 4) (vCons (vA (gLst false) (vCons (vA gTup (vCons (vA gTup (vCons (vC (.str "a")) (vCons (v1 negD (vC (.int 1))) (vCons (vVar 0) vNil)))) vNil)) (vCons (vA gTup (vCons (vA gTup (vCons (vC (.str "a")) (vCons (vC (.bl true)) (vCons (vVar 0) vNil)))) vNil)) (vCons (vA gTup (vCons (vA gTup (vCons (vC (.str "a")) (vCons (vC .non) (vCons (vVar 0) vNil)))) vNil)) (vCons (vA gTup (vCons (vA gTup (vCons (vC (.str "a")) (vCons (vC (.str "1")) (vCons (vVar 0) vNil)))) vNil)) (vCons (vA gTup (vCons (vA gTup (vCons (vC (.str "a")) (vCons (vC (.int 1)) vNil))) vNil)) vNil)))))) vNil)))
    (sSeq (sExpr (vML extD (vVar 4) (vCons (vA (gLst false) (vCons (vA gTup (vCons (vA gTup (vCons (vC (.str "a")) (vCons (vC (.int 1)) (vCons (vVar 0) (vCons (vC (.int 0)) vNil))))) vNil)) (vCons (vA gTup (vCons (vA gTup (vCons (vC (.str "")) (vCons (vC (.int 1)) (vCons (vVar 0) vNil)))) vNil)) (vCons (vA gTup (vCons (vA gTup (vCons (vC (.str "A")) (vCons (vC (.int 1)) (vCons (vVar 0) vNil)))) vNil)) (vCons (vA gTup (vCons (vA gTup (vCons (vC (.str "abcdefgh")) (vCons (vC (.int 1)) (vCons (vVar 0) vNil)))) vNil)) vNil))))) vNil)))
    (sSeq (sExpr (vML extD (vVar 4) (vCons (vA (gLst false) (vCons (vA gTup (vCons (vA gTup (vCons (vC (.str "abcdefghi")) (vCons (vC (.int 1)) (vCons (vVar 0) vNil)))) vNil)) (vCons (vA gTup (vCons (vA gTup (vCons (vA (gLst false) (vCons (vC (.str "a")) vNil)) (vCons (vC (.int 1)) (vCons (vVar 0) vNil)))) vNil)) (vCons (vA gTup (vCons (vA gTup (vCons (vC (.str "a")) (vCons (vA (gLst false) (vCons (vC (.int 1)) vNil)) (vCons (vVar 0) vNil)))) vNil)) (vCons (vA gTup (vCons (vA gTup (vCons (vC (.str "a")) (vCons (vVar 1) (vCons (vA gTup (vCons (vA gTup (vCons (vC (.int 0)) (vCons (vVar 1) vNil))) vNil)) vNil)))) vNil)) vNil))))) vNil)))
    (sSeq (sExpr (vML extD (vVar 4) (vCons (vA (gLst false) (vCons (vA gTup (vCons (vA gTup (vCons (vC (.str "a")) (vCons (vC (.int 1)) (vCons (vA gTup vNil) vNil)))) vNil)) (vCons (vA gTup (vCons (vA gTup (vCons (vC (.str "a")) (vCons (vC (.int 1)) (vCons (vA (gLst false) (vCons (vA gTup (vCons (vC (.int 0)) (vCons (vC (.int 5)) vNil))) vNil)) vNil)))) vNil)) (vCons (vA gTup (vCons (vA gTup (vCons (vC (.str "a")) (vCons (vC (.int 1)) (vCons (vA gTup (vCons (vA (gLst false) (vCons (vC (.int 0)) (vCons (vC (.int 5)) vNil))) vNil)) vNil)))) vNil)) (vCons (vA gTup (vCons (vA gTup (vCons (vC (.str "a")) (vCons (vC (.int 1)) (vCons (vA gTup (vCons (vA gTup (vCons (vC (.int 1)) (vCons (vC (.int 5)) vNil))) vNil)) vNil)))) vNil)) vNil))))) vNil)))
    (sSeq (sExpr (vML extD (vVar 4) (vCons (vA (gLst false) (vCons (vA gTup (vCons (vA gTup (vCons (vC (.str "a")) (vCons (vC (.int 1)) (vCons (vA gTup (vCons (vA gTup (vCons (vC (.int 0)) (vCons (vC (.int 5)) vNil))) (vCons (vA gTup (vCons (vC (.int 0)) (vCons (vC (.int 6)) vNil))) vNil))) vNil)))) vNil)) (vCons (vA gTup (vCons (vA gTup (vCons (vC (.str "a")) (vCons (vC (.int 1)) (vCons (vA gTup (vCons (vA gTup (vCons (vC (.int 0)) (vCons (vC (.int 5)) vNil))) (vCons (vA gTup (vCons (vC (.int 9)) (vCons (vC (.int 6)) vNil))) (vCons (vA gTup (vCons (vC (.int 3)) (vCons (vC (.int 6)) vNil))) vNil)))) vNil)))) vNil)) (vCons (vA gTup (vCons (vA gTup (vCons (vC (.str "a")) (vCons (vC (.int 1)) (vCons (vA gTup (vCons (vA gTup (vCons (vC (.int 0)) (vCons (v1 negD (vC (.int 1))) vNil))) vNil)) vNil)))) vNil)) vNil)))) vNil)))
    (sSeq (sExpr (vML extD (vVar 4) (vCons (vA (gLst false) (vCons (vA gTup (vCons (vA gTup (vCons (vC (.str "a")) (vCons (vC (.int 1)) (vCons (vA gTup (vCons (vA gTup (vCons (vC (.int 0)) (vCons (vC (.bl true)) vNil))) vNil)) vNil)))) vNil)) (vCons (vA gTup (vCons (vA gTup (vCons (vC (.str "a")) (vCons (vC (.int 1)) (vCons (vA gTup (vCons (vA gTup (vCons (vC (.bl false)) (vCons (vC (.int 5)) vNil))) vNil)) vNil)))) vNil)) (vCons (vA gTup (vCons (vA gTup (vCons (vC (.str "a")) (vCons (vC (.int 1)) (vCons (vA gTup (vCons (vA gTup (vCons (vC (.int 0)) (vCons (vC (.int 5)) vNil))) (vCons (vC .non) vNil))) vNil)))) vNil)) vNil)))) vNil)))
    (sSeq (sExpr (vML extD (vVar 4) (vCons (vA (gLst false) (vCons (vA gTup (vCons (vA gTup (vCons (vC (.str "a")) (vCons (vC (.int 1)) (vCons (vA gTup (vCons (vA gTup (vCons (vC (.int 0)) (vCons (vC (.int 5)) (vCons (vC (.int 6)) vNil)))) vNil)) vNil)))) vNil)) (vCons (vA gTup (vCons (vA gTup (vCons (vC (.str "a")) (vCons (vC (.int 1)) (vCons (vA gTup (vCons (vA gTup (vCons (vC (.int 0)) (vCons (vA (gLst false) (vCons (vC (.int 5)) vNil)) vNil))) vNil)) vNil)))) vNil)) (vCons (vA gTup (vCons (vA gTup (vCons (vC (.str "a")) (vCons (vC (.int 1)) (vCons (vA gTup (vCons (vC (.int 0)) (vCons (vC (.int 5)) vNil))) vNil)))) vNil)) (vCons (vA gTup (vCons (vA gTup (vCons (vC (.str "a")) (vCons (vC (.int 1)) (vCons (vC .non) vNil)))) vNil)) vNil))))) vNil)))
    (sSeq (sExpr (vML extD (vVar 4) (vCons (vA (gLst false) (vCons (vA gTup (vCons (vA gTup (vCons (vC (.str "a")) (vCons (vC (.int 1)) (vCons (vVar 0) vNil)))) (vCons (vA gTup (vCons (vC (.str "ab")) (vCons (vC (.int 1)) (vCons (vVar 0) vNil)))) (vCons (vA gTup (vCons (vC (.str "b")) (vCons (vC (.int 1)) (vCons (vVar 0) vNil)))) vNil)))) (vCons (vA gTup (vCons (vA gTup (vCons (vC (.str "ab")) (vCons (vC (.int 1)) (vCons (vVar 0) vNil)))) (vCons (vA gTup (vCons (vC (.str "a")) (vCons (vC (.int 1)) (vCons (vVar 0) vNil)))) vNil))) (vCons (vA gTup (vCons (vVar 2) (vCons (vVar 3) (vCons (vVar 2) vNil)))) vNil)))) vNil)))
    (sSeq (sSet 5 (vA (g1 tupD) (vCons (vLc false [6] (v1 itD (vC (.str "abcdefghijklmnopqrstuvwxyz"))) (kName 6) tYesV (vA gTup (vCons (v2 (addD false) (vC (.str "q")) (vVar 6)) (vCons (vC (.int 1)) (vCons (vVar 0) vNil))))) vNil)))
    (sSeq (sExpr (vML extD (vVar 4) (vCons (vA (gLst false) (vCons (vVar 5) (vCons (v2 (addD false) (vVar 5) (vA gTup (vCons (vA gTup (vCons (vC (.str "r")) (vCons (vC (.int 2)) (vCons (vVar 0) vNil)))) vNil))) (vCons (v2 (addD false) (vVar 5) (vA gTup (vCons (vA gTup (vCons (vC (.str "qz")) (vCons (vC (.int 2)) (vCons (vVar 0) vNil)))) vNil))) vNil)))) vNil)))
    (sRet (v2 (addD true) (vVar 4) (vA (gLst false) (vCons (vA gTup (vCons (vA gTup (vCons (vC (.str "a")) (vCons (vC (.int 1)) (vCons (vA (g1 tupD) (vCons (vLc false [7] (vA rng1 (vCons (vC (.int 20)) vNil)) (kName 7) tYesV (vA gTup (vCons (v2 (mulD false) (vC (.int 7)) (vVar 7)) (vCons (vVar 7) vNil)))) vNil)) vNil)))) vNil)) vNil)))))))))))))))))
noncomputable def F__law_fixed_4990 : List D → AS → Out D := vFn 8 0 B__law_fixed_4990
noncomputable def B__law_near_6dc7 : En → AS → Fl :=
    (sSeq (sPar 2 3 (vCons (vCallA 2 0 [] [.pos 0, .pos 1] F__law_draw_ed7e (vCons (vVar 0) (vCons (vA (g1 lenD) (vCons (vVar 1) vNil)) vNil)) vNil) (vCons (vCallA 2 0 [] [.pos 0, .pos 1] F__law_draw_ed7e (vCons (vVar 0) (vCons (vA (g1 lenD) (vCons (vVar 1) vNil)) vNil)) vNil) vNil)))
    (sSeq (sAsg (v2 ixD (vVar 1) (vVar 2)) (kTup 3 (kCons (kName 4) (kCons (kName 5) (kCons (kName 6) kNil)))))
    (sSeq (sSet 7 (vCallA 2 0 [] [.pos 0, .pos 1] F__law_word_8a86 (vCons (vVar 0) (vCons (vLc false [8] (v1 itD (vVar 1)) (kName 8) tYesV (v2 ixD (vVar 8) (vC (.int 0)))) vNil)) vNil))
    (sSeq (sSet 8 (vA (g1 (lstD true)) (vCons (vVar 1) vNil)))
    (sSeq (sAsg (v2 ixD (vVar 1) (vVar 3)) (kSub (vVar 8) (vVar 2)))
    (sSeq (sAsg (v2 ixD (vVar 1) (vVar 2)) (kSub (vVar 8) (vVar 3)))
    (sSeq (sSet 9 (vCallA 3 0 [] [.pos 0, .pos 1, .pos 2] (F__law_bend 20) (vCons (vVar 0) (vCons (vVar 1) (vCons (vCallA 0 0 [] [] F__law_odd_2e17 vNil vNil) vNil))) vNil))
    (sSeq (sSet 10 (vA (gLst true) (vCons (vVar 1) (vCons (vA (g1 tupD) (vCons (vVar 8) vNil)) (vCons (v2 (addD false) (vSl (slD false) (vVar 1) vNoPart (v1 asI (vVar 2))) (vSl (slD false) (vVar 1) (v1 asI (v2 (addD false) (vVar 2) (vC (.int 1)))) vNoPart)) (vCons (v2 (addD false) (v2 (addD false) (vSl (slD false) (vVar 1) vNoPart (v1 asI (vVar 2))) (vA gTup (vCons (v2 ixD (vVar 1) (vVar 3)) vNil))) (vSl (slD false) (vVar 1) (v1 asI (vVar 2)) vNoPart)) (vCons (v1 revD (vVar 1)) vNil)))))))
    (sSeq (sSet 11 (vA (gLst true) (vCons (vA gTup (vCons (vVar 7) (vCons (vVar 5) (vCons (vVar 6) vNil)))) (vCons (vA gTup (vCons (vVar 4) (vCons (v1 negD (vC (.int 1))) (vCons (vVar 6) vNil)))) (vCons (vA gTup (vCons (vVar 4) (vCons (vVar 5) (vCons (v1 revD (vVar 6)) vNil)))) (vCons (vA gTup (vCons (vVar 4) (vCons (vVar 5) (vCons (vSl (slD false) (vVar 6) (v1 asI (vC (.int 1))) vNoPart) vNil)))) vNil))))))
    (sSeq (sExpr (vML extD (vVar 11) (vCons (vA (gLst false) (vCons (vA gTup (vCons (vVar 4) (vCons (vVar 5) (vCons (v2 (addD false) (vVar 6) (vSl (slD false) (vVar 6) (v1 asI (v1 negD (vC (.int 1)))) vNoPart)) vNil)))) (vCons (vA gTup (vCons (vVar 4) (vCons (vVar 5) (vCons (v2 (addD false) (vSl (slD false) (vVar 6) vNoPart (v1 asI (v1 negD (vC (.int 1))))) (vA gTup (vCons (vA gTup (vCons (v2 ixD (v2 ixD (vVar 6) (v1 negD (vC (.int 1)))) (vC (.int 0))) (vCons (v1 negD (vC (.int 1))) vNil))) vNil))) vNil)))) vNil))) vNil)))
    (sSeq (sFor (v1 itD (vVar 11)) (kName 12) (sKill [12] (sExpr (vML appD (vVar 10) (vCons (v2 (addD false) (v2 (addD false) (vSl (slD false) (vVar 1) vNoPart (v1 asI (vVar 2))) (vA gTup (vCons (vVar 12) vNil))) (vSl (slD false) (vVar 1) (v1 asI (v2 (addD false) (vVar 2) (vC (.int 1)))) vNoPart)) vNil)))))
    (sRet (v2 (addD false) (vVar 10) (vA (gLst false) (vCons (vVar 9) (vCons (vCallA 3 0 [] [.pos 0, .pos 1, .pos 2] (F__law_bend 20) (vCons (vVar 0) (vCons (vVar 9) (vCons (vCallA 0 0 [] [] F__law_odd_2e17 vNil vNil) vNil))) vNil) (vCons (vA (g1 (lstD false)) (vCons (vVar 1) vNil)) vNil)))))))))))))))))
noncomputable def F__law_near_6dc7 : List D → AS → Out D := vFn 13 0 B__law_near_6dc7
noncomputable def B_law_fd2d : En → AS → Fl :=
    (sSeq (sSet 1 (vCallA 1 0 [] [.pos 0] F__law_feed_6a37 (vCons (vVar 0) vNil) vNil))
    (sSeq (sSet 2 (vCallA 0 0 [] [] F__law_fixed_4990 vNil vNil))
    (sSeq (sFor (vA rng1 (vCons (vC (.int 3)) vNil)) (kName 3) (sKill [3, 4] (sSeq (sSet 4 (vCallA 2 0 [] [.pos 0, .pos 1] F__law_menu_3a71 (vCons (vVar 1) (vCons (v2 (addD false) (vC (.int 1)) (vCallA 2 0 [] [.pos 0, .pos 1] F__law_draw_ed7e (vCons (vVar 1) (vCons (vC (.int 12)) vNil)) vNil)) vNil)) vNil))
    (sSeq (sIf (vB (v2 (isND true) (vCallA 1 0 [] [.pos 0] F_is_menu (vCons (vVar 4) vNil) vNil) (vC (.bl true)))) (sRet (vC (.bl false))) sNext)
    (sExpr (vML extD (vVar 2) (vCons (vCallA 2 0 [] [.pos 0, .pos 1] F__law_near_6dc7 (vCons (vVar 1) (vCons (vVar 4) vNil)) vNil) vNil)))))))
    (sSeq (sSet 5 (vA (g1 reprD) (vCons (vVar 2) vNil)))
    (sSeq (sFor (v1 itD (vVar 2)) (kName 6) (sKill [6] (sIf (vNot (v1 truD (vCallA 2 0 [] [.pos 0, .pos 1] F__law_same (vCons (vCallA 1 0 [] [.pos 0] F_is_menu (vCons (vVar 6) vNil) vNil) (vCons (vCallA 1 0 [] [.pos 0] F__law_carded (vCons (vVar 6) vNil) vNil) vNil)) vNil))) (sRet (vC (.bl false))) sNext)))
    (sRet (v2 (eqD false) (vA (g1 reprD) (vCons (vVar 2) vNil)) (vVar 5))))))))
noncomputable def F_law_fd2d : List D → AS → Out D := vFn 7 0 B_law_fd2d
end G

set_option Elab.async false
set_option linter.all false
set_option maxRecDepth 100000
set_option maxHeartbeats 2000000
namespace Kd
open PySem VL TB G
theorem eqv_str (x y : Str) : eqvD (.str x) (.str y) = decide (x = y) := by
  simp [eqvD, D.py, PyData.eqv]
  by_cases h : x = y <;> simp [h]
theorem str_nil (x : Str) : x = (Str.ofString "") ↔ x.length = 0 := by
  constructor
  · rintro rfl
    rfl
  · intro h
    apply str_ext
    have : x.cps.size = 0 := h
    have h2 : x.cps = #[] := Array.eq_empty_of_size_eq_zero this
    rw [h2]
    rfl
theorem eqv_lst_nil (ds : List D) : eqvD (.lst ds) (.lst []) = decide (ds = []) := by
  unfold eqvD
  rw [D.py, D.py]
  cases ds with
  | nil => simp [D.pys, PyData.eqv, PyData.eqvAll]
  | cons n r => simp [D.pys, PyData.eqv, PyData.eqvAll]
theorem signs_py (cs : List Nat) (h : ∀ c ∈ cs, c < 128) : ∀ d ∈ (cs.map fun c => D.str ⟨#[c]⟩).map D.py, PyData.depth d ≤ 0 ∧ Ats 0 d := fun d hd => by
  simp only [List.mem_map] at hd
  obtain ⟨e, ⟨c, hc, rfl⟩, rfl⟩ := hd
  rw [D.py]
  refine ⟨by simp [PyData.depth], ?_⟩
  simp only [Ats]
  refine ⟨fun a ha => ?_, show 1 ≤ 20 + 0 by decide⟩
  have : a = c := by simpa using ha
  rw [this]
  exact h c hc
theorem pures_signs : ∀ cs : List Nat, D.pures (cs.map fun c => D.str ⟨#[c]⟩) = true
  | [] => by simp [D.pures]
  | c :: cs => by simp [D.pures, D.pure, pures_signs cs]
theorem fit_signs (cs : List Nat) (h : ∀ c ∈ cs, c < 128) : (D.lst (cs.map fun c => .str ⟨#[c]⟩)).fit = true := by
  unfold D.fit
  rw [D.pure, pures_signs, D.py, pys_map]
  rw [(fit_lst (Nat.le_refl _) (signs_py cs h)).shaped (by decide) (by decide)]
  rfl
theorem f_worded (d : D) (st : AS) (h : d.pure = true) (ha : ∀ x, d = .str x → asc x ∧ x.length ≤ sizeLine) : F__law_worded_c386 [d] st = .ok (.bl (wordD d)) st := by
  cases d with
  | str x =>
    obtain ⟨h1, h2⟩ := ha x rfl
    have h2' : x.cps.size ≤ sizeLine := h2
    have cm : compL (kName 1) (vOr (vB (v2 ltD (vA (g1 ordCD) (vCons (vVar 1) vNil)) (vC (.int 97)))) (vB (v2 gtD (vA (g1 ordCD) (vCons (vVar 1) vNil)) (vC (.int 122))))) (vVar 1) [some (D.str x), none] [] (x.cps.toList.map fun c => .str ⟨#[c]⟩) st = .ok ((x.cps.toList.filter fun c => !letter c).map fun c => .str ⟨#[c]⟩) st := by
      rw [compL_map gd_nilOk (fun d => match d with | .str y => !letter (y.cps.getD 0 0) | _ => false) id]
      · rw [List.filter_map, List.map_map]
        rfl
      · intro d hd
        obtain ⟨c, hc, rfl⟩ := List.mem_map.mp hd
        have l1 : Str.length ⟨#[c]⟩ = 1 := rfl
        refine ⟨_, rfl, ?_, fun _ => by simp⟩
        by_cases z : 97 ≤ c
        · by_cases z2 : c ≤ 122
          · simp [l1, letter, z, z2, show ¬ (c : Int) < 97 by omega, show ¬ (122 : Int) < c by omega]
          · simp [l1, letter, z, z2, show ¬ (c : Int) < 97 by omega, show (122 : Int) < c by omega]
        · simp [l1, letter, z, show (c : Int) < 97 by omega]
    try simp at cm
    by_cases e0 : x.length = 0
    · have e1 := (str_nil x).mpr e0
      simp [F__law_worded_c386, B__law_worded_c386, isT, eqD, scalD, eqv_str, e1, wordD, wordS, show Str.length (Str.ofString "") = 0 from rfl]
    · have e1 : ¬ x = Str.ofString "" := fun z => e0 ((str_nil x).mp z)
      have l1 : 1 ≤ x.length := by omega
      by_cases e2 : x.length ≤ 8
      · have e2' : ¬ (8 : Int) < x.length := by omega
        have fs := fit_signs (x.cps.toList.filter fun c => !letter c) fun c hc => h1 c (List.mem_filter.mp hc).1
        have ev := eqv_lst_nil ((x.cps.toList.filter fun c => !letter c).map fun c => D.str ⟨#[c]⟩)
        have fin : decide (((x.cps.toList.filter fun c => !letter c).map fun c => D.str ⟨#[c]⟩) = []) = x.cps.toList.all letter := by
          rw [Bool.eq_iff_iff, decide_eq_true_eq, List.map_eq_nil_iff, List.filter_eq_nil_iff, List.all_eq_true]
          simp
        simp [F__law_worded_c386, B__law_worded_c386, isT, eqD, scalD, eqv_str, e1, h2, h2', e2', cm, fs, fit_nil, ev, wordD, wordS, l1, e2]
        rw [Bool.eq_iff_iff, decide_eq_true_eq, Array.all_eq_true']
      · have e2' : (8 : Int) < x.length := by omega
        simp [F__law_worded_c386, B__law_worded_c386, isT, eqD, scalD, eqv_str, e1, h2, e2', wordD, wordS, e2]
  | _ => simp [F__law_worded_c386, B__law_worded_c386, isT, wordD, D.pure] at h ⊢
end Kd

set_option Elab.async false
set_option linter.all false
set_option maxRecDepth 100000
set_option maxHeartbeats 2000000
namespace Kd
open PySem VL TB G
theorem eqv_strs : ∀ xs ys : List Str, PyData.eqvAll (D.pys (xs.map D.str)) (D.pys (ys.map D.str)) = decide (xs = ys)
  | [], [] => by simp [D.pys, PyData.eqvAll]
  | [], _ :: _ => by simp [D.pys, PyData.eqvAll]
  | _ :: _, [] => by simp [D.pys, PyData.eqvAll]
  | x :: xs, y :: ys => by
    simp only [List.map_cons, D.pys, PyData.eqvAll, D.py, PyData.eqv, eqv_strs xs ys]
    by_cases h : x = y <;> simp [h]
theorem eqv_lst_strs (xs ys : List Str) : eqvD (.lst (xs.map D.str)) (.lst (ys.map D.str)) = decide (xs = ys) := by
  unfold eqvD
  rw [D.py, D.py, PyData.eqv]
  exact eqv_strs xs ys
/-- strictly rising -/
def ris : List Str → Bool
  | x :: y :: r => ltStr x y && ris (y :: r)
  | _ => true
theorem risS_map : ∀ xs : List Str, risS (xs.map D.str) = ris xs
  | [] => by simp [risS, ris]
  | [x] => by simp [risS, ris]
  | x :: y :: r => by
    have ih := risS_map (y :: r)
    simp only [List.map_cons] at ih ⊢
    simp only [risS, ris, ih]
theorem ltStr_trans {a b c : Str} (h1 : ltStr a b = true) (h2 : ltStr b c = true) : ltStr a c = true := by
  unfold ltStr at *
  rw [decide_eq_true_eq] at *
  exact List.lt_trans h1 h2
theorem ltStr_irrefl (a : Str) : ltStr a a = false := by
  unfold ltStr
  rw [decide_eq_false_iff_not]
  exact List.lt_irrefl _
theorem ris_pw : ∀ {xs : List Str}, ris xs = true → xs.Pairwise fun a b => ltStr a b = true
  | [], _ => List.Pairwise.nil
  | [x], _ => List.pairwise_singleton _ _
  | x :: y :: r, h => by
    simp only [ris, Bool.and_eq_true] at h
    have ih := ris_pw h.2
    refine List.pairwise_cons.mpr ⟨fun z hz => ?_, ih⟩
    rcases List.mem_cons.mp hz with e | e
    · rw [e]; exact h.1
    · exact ltStr_trans h.1 ((List.pairwise_cons.mp ih).1 z e)
theorem pw_ris : ∀ {xs : List Str}, (xs.Pairwise fun a b => ltStr a b = true) → ris xs = true
  | [], _ => by simp [ris]
  | [x], _ => by simp [ris]
  | x :: y :: r, h => by
    obtain ⟨h1, h2⟩ := List.pairwise_cons.mp h
    simp only [ris, Bool.and_eq_true]
    exact ⟨h1 y List.mem_cons_self, pw_ris h2⟩
theorem lt_le {a b : Str} (h : ltStr a b = true) : leStr a b = true := by
  rw [leStr_iff]
  unfold ltStr at h
  rw [decide_eq_true_eq] at h
  exact fun z => List.lt_irrefl _ (List.lt_trans h z)
theorem le_ne {a b : Str} (h : leStr a b = true) (n : a ≠ b) : ltStr a b = true := by
  unfold ltStr
  rw [decide_eq_true_eq]
  rw [leStr_iff] at h
  apply Classical.byContradiction
  intro z
  exact n (str_ext (List.le_antisymm (List.not_lt.mp h) (List.not_lt.mp z)))
/-- a list of texts is its own sorted set just where it rises -/
theorem set_ris (xs : List Str) : decide (xs = sortS (ddup xs)) = ris xs := by
  rw [Bool.eq_iff_iff, decide_eq_true_eq]
  constructor
  · intro h
    apply pw_ris
    have pw := sortS_pw (ddup xs)
    have nd : (sortS (ddup xs)).Nodup := (sortS_perm (ddup xs)).nodup_iff.mpr (nodup_ddup xs)
    rw [← h] at pw nd
    exact (pw.and nd).imp fun ⟨a, b⟩ => le_ne a b
  · intro h
    have pw := ris_pw h
    have nd : xs.Nodup := pw.imp fun {a b} q e => by
      subst e
      rw [ltStr_irrefl] at q
      cases q
    refine List.Perm.eq_of_pairwise (fun a b _ _ x y => leStr_anti x y) (pw.imp fun q => lt_le q) (sortS_pw _) ?_
    exact (perm_of_mem nd (nodup_ddup xs) fun k => mem_ddup.symm).trans (sortS_perm _).symm
end Kd

set_option linter.all false
set_option maxRecDepth 100000
namespace K02
/-! ### words by the codes of their letters, and the word behind a word -/
def Lt (c : Nat) : Prop := 97 ≤ c ∧ c ≤ 122
/-- the next word of as many letters, written backwards -/
def incR : List Nat → List Nat
  | [] => []
  | [c] => [if c = 122 then 97 else c + 1]
  | c :: d :: r => if c = 122 then 97 :: incR (d :: r) else (c + 1) :: d :: r
def aft (cs : List Nat) : List Nat := if cs.length < 8 then cs ++ [97] else (incR cs.reverse).reverse
def valR : List Nat → Nat
  | [] => 0
  | c :: r => (c - 97) + 26 * valR r
theorem incR_len : ∀ l : List Nat, (incR l).length = l.length
  | [] => rfl
  | [c] => rfl
  | c :: d :: r => by
    unfold incR
    by_cases h : c = 122
    · rw [if_pos h, List.length_cons, incR_len (d :: r)]
      rfl
    · rw [if_neg h]
      rfl
theorem incR_lt : ∀ {l : List Nat}, (∀ c ∈ l, Lt c) → ∀ c ∈ incR l, Lt c
  | [], _, c, h => by cases h
  | [c], hl, x, hx => by
    unfold incR at hx
    have hc := hl c List.mem_cons_self
    unfold Lt at *
    rw [List.mem_singleton.mp hx]
    by_cases h : c = 122
    · rw [if_pos h]
      omega
    · rw [if_neg h]
      omega
  | c :: d :: r, hl, x, hx => by
    unfold incR at hx
    have hc := hl c List.mem_cons_self
    by_cases h : c = 122
    · rw [if_pos h] at hx
      rcases List.mem_cons.mp hx with rfl | hx
      · exact ⟨by omega, by omega⟩
      · exact incR_lt (fun y hy => hl y (List.mem_cons_of_mem _ hy)) x hx
    · rw [if_neg h] at hx
      rcases List.mem_cons.mp hx with rfl | hx
      · unfold Lt at *
        omega
      · exact hl x (List.mem_cons_of_mem _ hx)
theorem valR_lt : ∀ {l : List Nat}, (∀ c ∈ l, Lt c) → valR l < 26 ^ l.length
  | [], _ => by decide
  | c :: r, h => by
    have hc := h c List.mem_cons_self
    have hr := valR_lt fun y hy => h y (List.mem_cons_of_mem _ hy)
    unfold Lt at hc
    rw [List.length_cons, Nat.pow_succ]
    show c - 97 + 26 * valR r < _
    omega
/-- one more, or all the way round -/
theorem valR_inc : ∀ {l : List Nat}, l ≠ [] → (∀ c ∈ l, Lt c) → valR (incR l) = (valR l + 1) % 26 ^ l.length
  | [], h, _ => absurd rfl h
  | [c], _, h => by
    have hc := h c List.mem_cons_self
    unfold Lt at hc
    unfold incR
    by_cases z : c = 122
    · rw [if_pos z, z]
      rfl
    · rw [if_neg z]
      show c + 1 - 97 + 26 * 0 = (c - 97 + 26 * 0 + 1) % 26 ^ 1
      omega
  | c :: d :: r, _, h => by
    have hc := h c List.mem_cons_self
    have ht : ∀ y ∈ d :: r, Lt y := fun y hy => h y (List.mem_cons_of_mem _ hy)
    have vl := valR_lt ht
    unfold Lt at hc
    unfold incR
    have e : 26 ^ (c :: d :: r).length = 26 * 26 ^ (d :: r).length := by rw [List.length_cons, Nat.pow_succ, Nat.mul_comm]
    rw [e]
    by_cases z : c = 122
    · rw [if_pos z, z]
      show 97 - 97 + 26 * valR (incR (d :: r)) = (122 - 97 + 26 * valR (d :: r) + 1) % (26 * 26 ^ (d :: r).length)
      rw [valR_inc (by intro y; cases y) ht]
      have e2 : 122 - 97 + 26 * valR (d :: r) + 1 = 26 * (valR (d :: r) + 1) := by omega
      rw [e2, Nat.mul_mod_mul_left]
      omega
    · rw [if_neg z]
      show c + 1 - 97 + 26 * valR (d :: r) = (c - 97 + 26 * valR (d :: r) + 1) % (26 * 26 ^ (d :: r).length)
      generalize 26 ^ (d :: r).length = B at *
      rw [Nat.mod_eq_of_lt (by omega)]
      omega
/-- a word -/
structure Wd (cs : List Nat) : Prop where
  n0 : 0 < cs.length
  n1 : cs.length ≤ 8
  lt : ∀ c ∈ cs, Lt c
theorem Wd.aft {cs : List Nat} (h : Wd cs) : Wd (aft cs) := by
  unfold K02.aft
  by_cases c : cs.length < 8
  · rw [if_pos c]
    refine ⟨by rw [List.length_append]; exact Nat.lt_of_lt_of_le h.n0 (Nat.le_add_right _ _), by rw [List.length_append]; show _ + 1 ≤ 8; omega, fun x hx => ?_⟩
    rcases List.mem_append.mp hx with z | z
    · exact h.lt x z
    · rw [List.mem_singleton.mp z]
      exact ⟨by decide, by decide⟩
  · rw [if_neg c]
    refine ⟨by rw [List.length_reverse, incR_len, List.length_reverse]; exact h.n0, by rw [List.length_reverse, incR_len, List.length_reverse]; exact h.n1, fun x hx => ?_⟩
    exact incR_lt (fun y hy => h.lt y (List.mem_reverse.mp hy)) x (List.mem_reverse.mp hx)
def it (cs : List Nat) : Nat → List Nat
  | 0 => cs
  | k + 1 => aft (it cs k)
theorem Wd.it {cs : List Nat} (h : Wd cs) : ∀ k, Wd (it cs k)
  | 0 => h
  | k + 1 => (Wd.it h k).aft
theorem aft_len {cs : List Nat} (h : Wd cs) : (aft cs).length = min 8 (cs.length + 1) := by
  have := h.n1
  unfold aft
  by_cases c : cs.length < 8
  · rw [if_pos c, List.length_append]
    show _ + 1 = _
    omega
  · rw [if_neg c, List.length_reverse, incR_len, List.length_reverse]
    omega
theorem it_len {cs : List Nat} (h : Wd cs) : ∀ k, (it cs k).length = min 8 (cs.length + k)
  | 0 => by
    have := h.n1
    show cs.length = _
    omega
  | k + 1 => by
    show (aft (it cs k)).length = _
    rw [aft_len (h.it k), it_len h k]
    omega
theorem aft_val {cs : List Nat} (h : Wd cs) (h8 : cs.length = 8) : valR (aft cs).reverse = (valR cs.reverse + 1) % 26 ^ 8 := by
  unfold aft
  rw [if_neg (by omega), List.reverse_reverse, valR_inc (fun z => by
    have : cs.reverse.length = 0 := by rw [z]; rfl
    rw [List.length_reverse] at this
    omega) (fun y hy => h.lt y (List.mem_reverse.mp hy)), List.length_reverse, h8]
theorem it_val {cs : List Nat} (h : Wd cs) {i : Nat} (h8 : (it cs i).length = 8) : ∀ k, valR (it cs (i + k)).reverse = (valR (it cs i).reverse + k) % 26 ^ 8
  | 0 => by
    have := valR_lt (l := (it cs i).reverse) fun y hy => (h.it i).lt y (List.mem_reverse.mp hy)
    rw [List.length_reverse, h8] at this
    rw [Nat.add_zero, Nat.add_zero, Nat.mod_eq_of_lt this]
  | k + 1 => by
    have l8 : (it cs (i + k)).length = 8 := by
      rw [it_len h] at h8 ⊢
      omega
    show valR (aft (it cs (i + k))).reverse = _
    rw [aft_val (h.it _) l8, it_val h h8 k]
    omega
/-- of so few steps no two meet -/
theorem it_ne {cs : List Nat} (h : Wd cs) {i k : Nat} (hk : 0 < k) (h1 : k < 1000) : it cs i ≠ it cs (i + k) := fun e => by
  have hl := congrArg List.length e
  rw [it_len h, it_len h] at hl
  have l8 : (it cs i).length = 8 := by
    rw [it_len h]
    omega
  have v := it_val h l8 k
  rw [← e] at v
  have b := valR_lt (l := (it cs i).reverse) fun y hy => (h.it i).lt y (List.mem_reverse.mp hy)
  rw [List.length_reverse, l8] at b
  omega
theorem sub_len {α : Type} [DecidableEq α] : ∀ {l F : List α}, l.Nodup → (∀ x ∈ l, x ∈ F) → l.length ≤ F.length
  | [], _, _, _ => Nat.zero_le _
  | x :: l, F, nd, h => by
    have hx := h x List.mem_cons_self
    obtain ⟨n1, n2⟩ := List.nodup_cons.mp nd
    have := sub_len (F := F.erase x) n2 fun y hy => (List.mem_erase_of_ne (fun (z : y = x) => n1 (z ▸ hy))).mpr (h y (List.mem_cons_of_mem _ hy))
    rw [List.length_erase_of_mem hx] at this
    have : 0 < F.length := List.length_pos_of_mem hx
    rw [List.length_cons]
    omega
/-- not all of the first n are among fewer -/
theorem it_out {cs : List Nat} (h : Wd cs) {F : List (List Nat)} {n : Nat} (hn : F.length < n) (h1 : n < 1000) : ¬ ∀ k, k < n → it cs k ∈ F := fun all => by
  have nd : ((List.range n).map (it cs)).Nodup := by
    refine List.pairwise_map.mpr ?_
    refine List.Pairwise.imp_of_mem ?_ (List.pairwise_lt_range (n := n))
    intro a b ha hb hab e
    have := List.mem_range.mp hb
    obtain ⟨k, rfl⟩ : ∃ k, b = a + k := ⟨b - a, by omega⟩
    exact it_ne h (by omega) (by omega) e
  have := sub_len nd fun x hx => by
    obtain ⟨k, hk, rfl⟩ := List.mem_map.mp hx
    exact all k (List.mem_range.mp hk)
  rw [List.length_map, List.length_range] at this
  omega
end K02

set_option Elab.async false
set_option linter.all false
set_option maxRecDepth 100000
set_option maxHeartbeats 2000000
/-! Tools: what a def tells of pure things; the feed; draws. -/
namespace Kd
open PySem VL TB G
mutual
theorem pure_low (n : Nat) : ∀ {d : D}, d.pure = true → d.low n = true
  | .tup ds, h => by rw [D.pure] at h; rw [D.low]; exact pures_low n h
  | .ctp ds, h => by rw [D.pure] at h; rw [D.low]; exact pures_low n h
  | .lst ds, h => by rw [D.pure] at h; rw [D.low]; exact pures_low n h
  | .fzl _, h => by simp [D.pure] at h
  | .ref _, h => by simp [D.pure] at h
  | .cv _, h => by simp [D.pure] at h
  | .non, _ => by simp [D.low]
  | .bl _, _ => by simp [D.low]
  | .int _, _ => by simp [D.low]
  | .str _, _ => by simp [D.low]
theorem pures_low (n : Nat) : ∀ {ds : List D}, D.pures ds = true → D.lows n ds = true
  | [], _ => by rw [D.lows]
  | d :: ds, h => by
    rw [D.pures, Bool.and_eq_true] at h
    rw [D.lows, pure_low n h.1, pures_low n h.2]
    rfl
end
theorem map_same {α : Type} {f : α → α} : ∀ {l : List α}, (∀ x ∈ l, f x = x) → l.map f = l
  | [], _ => rfl
  | x :: l, h => by rw [List.map_cons, h x List.mem_cons_self, map_same fun y hy => h y (List.mem_cons_of_mem _ hy)]
theorem pure_frz (st : AS) (n : Nat) : ∀ (k : Nat) (d : D), d.pure = true → frzD st n k d = d
  | 0, d, _ => rfl
  | k + 1, d, h => by
    cases d with
    | tup ds =>
      rw [D.pure, D.pures_eq, List.all_eq_true] at h
      show D.tup (ds.map (frzD st n k)) = _
      rw [map_same fun x hx => pure_frz st n k x (h x hx)]
    | lst ds =>
      rw [D.pure, D.pures_eq, List.all_eq_true] at h
      show D.lst (ds.map (frzD st n k)) = _
      rw [map_same fun x hx => pure_frz st n k x (h x hx)]
    | ref i => simp [D.pure] at h
    | _ => rfl
theorem ret_pure {frz : Nat} {st st' : AS} {d : D} {i : Nat} (hd : d.pure = true) (hb : But1 i st st') : ∃ st2, VL.ret frz st d st' = .ok d st2 ∧ But1 i st st2 ∧ ∀ j, j < st.length → st2[j]? = st'[j]? := by
  unfold VL.ret
  split
  · exact ⟨st', rfl, hb, fun _ _ => rfl⟩
  · split
    · refine ⟨st'.take st.length, by rw [pure_frz _ _ _ _ hd], ⟨by rw [List.length_take]; have := hb.len; omega, fun j hj hn => ?_⟩, fun j hj => List.getElem?_take_of_lt hj⟩
      rw [List.getElem?_take_of_lt hj]
      exact hb.at_ j hj hn
    · exact ⟨st', rfl, hb, fun _ _ => rfl⟩
/-- a younger list that holds pure things -/
theorem frz_ref {frz : Nat} {st st' : AS} {j : Nat} {ds : List D} (hj : st.length ≤ j) (h : st'[j]? = some (.lst ds)) (hp : D.pures ds = true) : frzD st' st.length (frz + 1) (.ref j) = .lst ds := by
  show (if st.length ≤ j then _ else _) = _
  rw [if_pos hj, h]
  show D.lst (ds.map (frzD st' st.length frz)) = _
  rw [D.pures_eq, List.all_eq_true] at hp
  rw [map_same fun x hx => pure_frz _ _ _ x (hp x hx)]
/-- the feed -/
structure Fd (i : Nat) (ns : List Int) (n : Nat) (st : AS) : Prop where
  h : ∃ a b c, st[i]? = some (feedC ns a b c) ∧ 0 ≤ a ∧ 0 ≤ c ∧ c ≤ n
theorem Fd.mono {i : Nat} {ns : List Int} {n m : Nat} {st : AS} (h : Fd i ns n st) (hm : n ≤ m) : Fd i ns m st := by
  obtain ⟨a, b, c, h1, h2, h3, h4⟩ := h.h
  exact ⟨a, b, c, h1, h2, h3, by omega⟩
theorem Fd.lt {i : Nat} {ns : List Int} {n : Nat} {st : AS} (h : Fd i ns n st) : i < st.length := by
  obtain ⟨a, b, c, h1, _⟩ := h.h
  exact (List.getElem?_eq_some_iff.mp h1).1
theorem Fd.to {i : Nat} {ns : List Int} {n : Nat} {st st' : AS} (h : Fd i ns n st) (e : st'[i]? = st[i]?) : Fd i ns n st' := by
  obtain ⟨a, b, c, h1, h2, h3, h4⟩ := h.h
  exact ⟨a, b, c, by rw [e]; exact h1, h2, h3, h4⟩
theorem Fd.push {i : Nat} {ns : List Int} {n : Nat} {st : AS} (h : Fd i ns n st) (c : C) : Fd i ns n (st ++ [c]) := h.to (List.getElem?_append_left h.lt)
theorem Fd.put {i j : Nat} {ns : List Int} {n : Nat} {st : AS} (h : Fd i ns n st) (c : C) (hj : j ≠ i) : Fd i ns n (st.set j c) := h.to (List.getElem?_set_ne hj)
/-- a step that changes the feed alone -/
structure Dr (i : Nat) (ns : List Int) (n : Nat) (st st' : AS) : Prop where
  fd : Fd i ns n st'
  len : st'.length = st.length
  at_ : ∀ j, j ≠ i → st'[j]? = st[j]?
theorem Dr.but {i : Nat} {ns : List Int} {n : Nat} {st st' : AS} (h : Dr i ns n st st') : But1 i st st' := ⟨by rw [h.len]; exact Nat.le_refl _, fun j _ hn => h.at_ j hn⟩
theorem Dr.refl {i : Nat} {ns : List Int} {n : Nat} {st : AS} (h : Fd i ns n st) : Dr i ns n st st := ⟨h, rfl, fun _ _ => rfl⟩
theorem Dr.trans {i : Nat} {ns : List Int} {n m : Nat} {a b c : AS} (h : Dr i ns n a b) (k : Dr i ns m b c) : Dr i ns m a c := ⟨k.fd, k.len.trans h.len, fun j hj => (k.at_ j hj).trans (h.at_ j hj)⟩
theorem draw_ok {i : Nat} {ns : List Int} {n : Nat} {st : AS} {m : Int} (h : Fd i ns n st) (hn : n < 1000000000000) (h0 : 0 < m) (h1 : m < 4611686018427387904) :
    ∃ r st1, F__law_draw_ed7e [.ref i, .int m] st = .ok (.int r) st1 ∧ 0 ≤ r ∧ r < m ∧ Dr i ns (n + 1) st st1 := by
  obtain ⟨a, b, c, e, ha, hc, hcn⟩ := h.h
  have p60 : (2 : Int) ^ 60 = 1152921504606846976 := by decide
  have p62 : (2 : Int) ^ 62 = 4611686018427387904 := by decide
  obtain ⟨r, a', b', q, r0, r1, ha'⟩ := draw_eq (m := m) e h0 (by omega) ha hc (by omega)
  have hl : i < st.length := (List.getElem?_eq_some_iff.mp e).1
  exact ⟨r, _, q, r0, r1, ⟨⟨a', b', c + 1, List.getElem?_set_self hl, ha', by omega, by omega⟩, by simp, fun j hj => List.getElem?_set_ne (Ne.symm hj)⟩⟩
/-- every one is so, or False -/
theorem for_chk {g : D → En → AS → Out En} {body : En → AS → Fl} {gs : Gd} {env : En} {st : AS} (p : D → Bool) (hg : gs.ok st) : ∀ ds : List D,
    (∀ d ∈ ds, ∃ env1, g d env st = .ok env1 st ∧ body env1 st = if p d = true then .nx env st else .rt (.bl false) st) →
    forL g body gs ds env st = if ds.all p = true then .nx env st else .rt (.bl false) st
  | [], _ => by rw [forL, if_pos hg]; rfl
  | d :: ds, hd => by
    obtain ⟨env1, e1, e2⟩ := hd d List.mem_cons_self
    have ih := for_chk p hg ds fun y hy => hd y (List.mem_cons_of_mem _ hy)
    rw [forL, if_pos hg, e1, Out.fl_ok, e2]
    cases z : p d with
    | true =>
      rw [if_pos rfl, Fl.turn_nx, ih]
      simp [z]
    | false => simp [z]
theorem atI_in {α : Type} {xs : List α} {i : Int} (h : 0 ≤ i) (h2 : i < xs.length) : ∃ x, L2.atI xs i = some x ∧ x ∈ xs := by
  rw [atI_pos h h2]
  have hl : i.toNat < xs.length := by omega
  exact ⟨xs[i.toNat], List.getElem?_eq_getElem hl, List.getElem_mem hl⟩
/-! sizes -/
theorem szs_sub : ∀ {a b : List PyData}, a.Sublist b → szs a ≤ szs b := by
  intro a b h
  induction h with
  | slnil => exact Nat.le_refl _
  | cons x _ ih => simp only [szs]; omega
  | cons_cons x _ ih => simp only [szs]; omega
theorem Ok.lst {m k j : Nat} {ds es : List D} (h : Ok m (k + 1) j (.tup ds)) (hs : es.Sublist ds) : Ok m (k + 1) j (.lst es) := by
  have hp := h.p
  rw [pln, plns_eq, List.all_eq_true] at hp
  have hf := h.f
  rw [D.py, pys_map] at hf
  have h1 := hf.sz
  rw [sz_tup] at h1
  refine ⟨?_, ?_⟩
  · rw [pln, plns_eq, List.all_eq_true]
    exact fun x hx => hp x (hs.subset hx)
  · rw [D.py, pys_map]
    have hss := szs_sub (hs.map D.py)
    have h2 := hf.dp
    rw [dep_tup] at h2
    have h3 := dep_all.mp (show PyData.depthAll (ds.map D.py) ≤ k by omega)
    have h4 := Ats.tup.mp hf.at_
    obtain ⟨m', rfl⟩ : ∃ m', m = m' + 1 := ⟨m - 1, by omega⟩
    refine fit_lst (by omega) fun d hd => ?_
    have hm : d ∈ ds.map D.py := (hs.map D.py).subset hd
    exact ⟨h3 d hm, h4 d hm⟩
end Kd

set_option Elab.async false
set_option linter.all false
set_option maxRecDepth 100000
set_option maxHeartbeats 2000000
namespace Kd
open PySem PySem.Spec PyProof.Rows L2 TB VL G K02
/-! ### letters -/
def abc : Str := "abcdefghijklmnopqrstuvwxyz"
def mkS (cs : List Nat) : Str := ⟨cs.toArray⟩
def nxt (c : Nat) : Nat := if c = 122 then 97 else c + 1
theorem mkS_len (cs : List Nat) : (mkS cs).length = cs.length := by
  show cs.toArray.size = _
  simp
theorem mkS_cps (cs : List Nat) : (mkS cs).cps.toList = cs := by
  show cs.toArray.toList = _
  simp
theorem mkS_app (as bs : List Nat) : mkS as ++ mkS bs = mkS (as ++ bs) := by
  show (⟨as.toArray ++ bs.toArray⟩ : Str) = ⟨(as ++ bs).toArray⟩
  simp
theorem abc_at : ∀ k : Fin 26, atI abc.cps.toList ((k.val : Nat) : Int) = some (97 + k.val) := by decide +kernel
theorem abc_find : ∀ k : Fin 26, Builtin.Str.occurrences abc (mkS [97 + k.val]) 0 abc.length 1 = [k.val] := by decide +kernel
theorem a_times : ∀ k : Fin 8, Txt.mul (Str.ofString "a") ((k.val : Nat) : Int) = mkS (List.replicate k.val 97) ∧ PySem.MulOk (Str.ofString "a") ((k.val : Nat) : Int) := by
  unfold PySem.MulOk
  decide +kernel
theorem rep_snoc (n c : Nat) (r : List Nat) : List.replicate n c ++ c :: r = c :: (List.replicate n c ++ r) := by
  induction n with
  | zero => rfl
  | succ n ih => rw [List.replicate_succ, List.cons_append, ih, List.cons_append]
theorem incR_run : ∀ (n c : Nat) (r : List Nat), (r = [] ∨ c ≠ 122) → incR (List.replicate n 122 ++ c :: r) = List.replicate n 97 ++ nxt c :: r
  | 0, c, r, h => by
    show incR (c :: r) = nxt c :: r
    cases r with
    | nil => rfl
    | cons d r =>
      rcases h with z | z
      · cases z
      · unfold incR nxt
        rw [if_neg z, if_neg z]
  | n + 1, c, r, h => by
    have ih := incR_run n c r h
    rw [List.replicate_succ, List.replicate_succ, List.cons_append, List.cons_append, ← ih]
    cases n with
    | zero => rfl
    | succ n => rfl
/-- as the law writes it -/
theorem aft_cut {cs : List Nat} {a c : Nat} (h8 : cs.length = 8) (ha : a ≤ 7) (hc : cs[a]? = some c) (hz : ∀ i, a < i → i ≤ 7 → cs[i]? = some 122) (h : a = 0 ∨ c ≠ 122) :
    aft cs = (cs.take a ++ [nxt c]) ++ List.replicate (7 - a) 97 := by
  have e : cs = cs.take a ++ c :: List.replicate (7 - a) 122 := by
    refine List.ext_getElem? fun i => ?_
    by_cases i1 : i < a
    · rw [List.getElem?_append_left (by rw [List.length_take]; omega), List.getElem?_take_of_lt i1]
    · have tl : (cs.take a).length = a := by rw [List.length_take]; omega
      rw [List.getElem?_append_right (by omega), tl]
      by_cases i2 : i = a
      · rw [i2, Nat.sub_self]
        exact hc
      · obtain ⟨k, rfl⟩ : ∃ k, i = a + 1 + k := ⟨i - a - 1, by omega⟩
        have e1 : a + 1 + k - a = k + 1 := by omega
        rw [e1, List.getElem?_cons_succ]
        by_cases i3 : a + 1 + k ≤ 7
        · rw [hz _ (by omega) i3, List.getElem?_replicate, if_pos (by omega)]
        · rw [List.getElem?_eq_none (by omega), List.getElem?_replicate, if_neg (by omega)]
  unfold aft
  rw [if_neg (by omega)]
  have er : cs.reverse = List.replicate (7 - a) 122 ++ c :: (cs.take a).reverse := by
    conv => lhs; rw [e]
    rw [List.reverse_append, List.reverse_cons, List.reverse_replicate, List.append_assoc]
    rfl
  rw [er, incR_run _ _ _ (by
    rcases h with z | z
    · left
      rw [z]
      rfl
    · exact .inr z), List.reverse_append, List.reverse_cons, List.reverse_replicate, List.reverse_reverse]

theorem mkS_self (x : Str) : mkS x.cps.toList = x := by
  unfold mkS
  cases x
  simp
theorem word_mk {x : Str} (h : wordS x = true) : ∃ cs, x = mkS cs ∧ Wd cs := by
  unfold wordS at h
  simp only [Bool.and_eq_true, decide_eq_true_eq, List.all_eq_true] at h
  obtain ⟨h1, h2, h3⟩ := h
  have hl : x.cps.toList.length = x.length := by
    rw [Array.length_toList]
    rfl
  refine ⟨x.cps.toList, (mkS_self x).symm, by omega, by omega, fun c hc => ?_⟩
  have := h3 c hc
  simp only [letter, Bool.and_eq_true, decide_eq_true_eq] at this
  exact this
theorem mk_word {cs : List Nat} (h : Wd cs) : wordS (mkS cs) = true := by
  unfold wordS
  simp only [Bool.and_eq_true, decide_eq_true_eq, List.all_eq_true]
  rw [mkS_len, mkS_cps]
  refine ⟨h.n0, h.n1, fun c hc => ?_⟩
  have := h.lt c hc
  simp only [letter, Bool.and_eq_true, decide_eq_true_eq]
  exact this
theorem mkS_inj {a b : List Nat} (h : mkS a = mkS b) : a = b := by
  have := congrArg (fun z : Str => z.cps.toList) h
  rwa [mkS_cps, mkS_cps] at this
theorem one_mk (c : Nat) : (⟨#[c]⟩ : Str) = mkS [c] := rfl
theorem ofs_z : (Str.ofString "z") = mkS [122] := by decide +kernel
theorem ofs_a : (Str.ofString "a") = mkS [97] := by decide +kernel
theorem after_while {cs : List Nat} (h8 : cs.length = 8) (st : AS) : ∀ a : Nat, a ≤ 7 → (∀ i, a < i → i ≤ 7 → cs[i]? = some 122) → ∃ b c : Nat, b ≤ 7 ∧ cs[b]? = some c ∧ (∀ i, b < i → i ≤ 7 → cs[i]? = some 122) ∧ (b = 0 ∨ c ≠ 122) ∧
    whL (vAnd (vB (v2 gtD (vVar 2) (vC (.int 0)))) (vB (v2 (eqD false) (v2 ixD (vVar 0) (vVar 2)) (vC (.str "z"))))) (sAug 2 (iiD fun a b => .int (a - b)) (vC (.int 1))) (a + 1) [some (.str (mkS cs)), some (.str "abcdefghijklmnopqrstuvwxyz"), some (.int (a : Int)), none] st = .nx [some (.str (mkS cs)), some (.str "abcdefghijklmnopqrstuvwxyz"), some (.int (b : Int)), none] st := by
  intro a
  induction a with
  | zero =>
    intro _ hz
    have hc : cs[0]? = some (cs.getD 0 0) := by
      rw [List.getElem?_eq_getElem (by omega), List.getD_eq_getElem?_getD, List.getElem?_eq_getElem (by omega)]
      rfl
    exact ⟨0, _, by omega, hc, hz, .inl rfl, by simp [whL]⟩
  | succ a ih =>
    intro ha hz
    have hc : cs[a + 1]? = some (cs.getD (a + 1) 0) := by
      rw [List.getElem?_eq_getElem (by omega), List.getD_eq_getElem?_getD, List.getElem?_eq_getElem (by omega)]
      rfl
    generalize cs.getD (a + 1) 0 = x at *
    have hat : L2.atI (mkS cs).cps.toList ((a + 1 : Nat) : Int) = some x := by
      rw [mkS_cps]
      exact atI_nat hc
    have szc : (mkS cs).length ≤ sizeLine := by rw [mkS_len, sizeLine_eq]; omega
    have g0 : (0 : Int) < ((a + 1 : Nat) : Int) := by omega
    by_cases x2 : x = 122
    · obtain ⟨b, c, h1, h2, h3, h4, h5⟩ := ih (by omega) fun i h1 h2 => by
        by_cases e : i = a + 1
        · rw [e, hc, x2]
        · exact hz i (by omega) h2
      refine ⟨b, c, h1, h2, h3, h4, ?_⟩
      have e1 : ((a + 1 : Nat) : Int) - 1 = (a : Int) := by omega
      rw [whL]
      rw [x2] at hat
      have e1' : (a : Int) + 1 - 1 = a := by omega
      simp -implicitDefEqProofs only [Int.natCast_add, Int.cast_ofNat_Int] at hat g0 e1
      have h6 := h5
      simp only [vB] at h6
      simp -implicitDefEqProofs [g0, hat, szc, ofs_z.symm, one_mk, Fl.turn, e1', h6]
    · refine ⟨a + 1, x, ha, hc, hz, .inr x2, ?_⟩
      rw [whL]
      have ne : ¬ mkS [x] = Str.ofString "z" := fun z => x2 (List.cons.inj (mkS_inj (z.trans ofs_z))).1
      simp -implicitDefEqProofs only [Int.natCast_add, Int.cast_ofNat_Int] at hat g0
      simp -implicitDefEqProofs [g0, hat, szc, one_mk, ne]
theorem f_after {cs : List Nat} (st : AS) (h : Wd cs) : F__law_after [.str (mkS cs)] st = .ok (.str (mkS (aft cs))) st := by
  have hl := h.n1
  have sz : ∀ {n : Nat}, n ≤ 1000 → n ≤ sizeLine := fun {n} h => by rw [sizeLine_eq]; omega
  have l1 : (mkS cs).length ≤ sizeLine := by rw [mkS_len, sizeLine_eq]; omega
  by_cases h7 : cs.length < 8
  · have l2 : ((mkS cs).length : Int) < 8 := by rw [mkS_len]; omega
    have l3 : (mkS (cs ++ [97])).length ≤ sizeLine := sz (by rw [mkS_len, List.length_append]; show cs.length + 1 ≤ 1000; omega)
    have l4 : (mkS cs).length + (mkS [97]).length ≤ sizeLine := sz (by rw [mkS_len, mkS_len]; show cs.length + 1 ≤ 1000; omega)
    have e : aft cs = cs ++ [97] := if_pos h7
    simp -implicitDefEqProofs [F__law_after, B__law_after, l1, l2, ofs_a, l3, l4, mkS_app, e]
  · obtain ⟨a, x, ha, hc, hz, hx, hw⟩ := after_while (show cs.length = 8 by omega) st 7 (by omega) (fun i _ _ => by omega)
    have w := sWhile_eq hw (by simp)
    simp -implicitDefEqProofs only [Int.cast_ofNat_Int, vB] at w
    have l2 : ¬ ((mkS cs).length : Int) < 8 := by rw [mkS_len]; omega
    have lt := h.lt _ (List.mem_of_getElem? hc)
    have hat : L2.atI (mkS cs).cps.toList (a : Int) = some x := by
      rw [mkS_cps]
      exact atI_nat hc
    obtain ⟨k, rfl, hk⟩ : ∃ k : Nat, x = 97 + k ∧ k < 26 := ⟨x - 97, by have := lt.1; omega, by have := lt.2; omega⟩
    have fnd := abc_find ⟨k, hk⟩
    have abl : abc.length ≤ sizeLine := sz (by decide +kernel)
    have hn : L2.atI abc.cps.toList (((k : Int) + 1) % 26) = some (nxt (97 + k)) := by
      by_cases e : k = 25
      · subst e
        decide +kernel
      · have e1 : ((k : Int) + 1) % 26 = ((k + 1 : Nat) : Int) := by omega
        rw [e1, abc_at ⟨k + 1, by omega⟩]
        unfold nxt
        rw [if_neg (by omega)]
        rfl
    have ecut : cutS (mkS cs) none (some (a : Int)) = mkS (cs.take a) := by
      unfold cutS
      rw [HT.sIx_nat, HT.sIx_none, List.drop_zero, Nat.sub_zero, mkS_cps, mkS_len]
      show mkS (cs.take (min a cs.length)) = _
      rw [Nat.min_eq_left (by omega)]
    obtain ⟨em, mo⟩ := a_times ⟨7 - a, by omega⟩
    have e7 : ((7 - a : Nat) : Int) = 7 - (a : Int) := by omega
    simp only [e7] at em mo
    have ab : (Str.ofString "abcdefghijklmnopqrstuvwxyz") = abc := rfl
    have g1 : (mkS (cs.take a)).length + (mkS [nxt (97 + k)]).length ≤ sizeLine := sz (by rw [mkS_len, mkS_len, List.length_take]; show _ + 1 ≤ 1000; omega)
    have g2 : (mkS (cs.take a)).length + (mkS [nxt (97 + k)]).length + (mkS (List.replicate (7 - a) 97)).length ≤ sizeLine := sz (by rw [mkS_len, mkS_len, mkS_len, List.length_take, List.length_replicate]; show _ + 1 + _ ≤ 1000; omega)
    rw [← ab] at fnd abl hn
    have g3 : (mkS (cs.take a) ++ mkS [nxt (97 + k)]).length + (mkS (List.replicate (7 - a) 97)).length ≤ sizeLine := sz (by rw [mkS_app, mkS_len, mkS_len, List.length_append, List.length_take, List.length_replicate]; show _ + 1 + _ ≤ 1000; omega)
    have fin : aft cs = (cs.take a ++ [nxt (97 + k)]) ++ List.replicate (7 - a) 97 := aft_cut (by omega) ha hc hz hx
    have fin2 : mkS (cs.take a) ++ mkS [nxt (97 + k)] ++ mkS (List.replicate (7 - a) 97) = mkS (aft cs) := by rw [fin, mkS_app, mkS_app]
    simp -implicitDefEqProofs [F__law_after, B__law_after, l1, l2, w, hat, one_mk, fnd, abl, hn, ecut, em, mo, g1, g2, g3, fin2]
end Kd

set_option Elab.async false
set_option linter.all false
set_option maxRecDepth 100000
set_option maxHeartbeats 2000000
namespace G
open PySem VL

noncomputable def B__law_offs_9cbf : En → AS → Fl :=
    (sSeq (sSet 2 (vA (gLst true) vNil))
    (sSeq (sFor (vA rng1 (vCons (vCallA 2 0 [] [.pos 0, .pos 1] F__law_draw_ed7e (vCons (vVar 0) (vCons (vC (.int 7)) vNil)) vNil) vNil)) (kName 3) (sKill [3, 4, 5, 6, 7] (sSeq (sSet 4 (vLc true [8] (v1 itD (vVar 1)) (kName 8) (vB (v2 (eqD false) (vCallA 2 0 [] [.pos 0, .pos 1] F__law_draw_ed7e (vCons (vVar 0) (vCons (vC (.int 2)) vNil)) vNil) (vC (.int 0)))) (v2 ixD (vVar 8) (vC (.int 0)))))
    (sSeq (sIf (vB (v2 (eqD false) (vCallA 2 0 [] [.pos 0, .pos 1] F__law_draw_ed7e (vCons (vVar 0) (vCons (vC (.int 4)) vNil)) vNil) (vC (.int 0)))) (sExpr (vML appD (vVar 4) (vCons (vCallA 2 0 [] [.pos 0, .pos 1] F__law_word_8a86 (vCons (vVar 0) (vCons (vLc false [8] (v1 itD (vVar 1)) (kName 8) tYesV (v2 ixD (vVar 8) (vC (.int 0)))) vNil)) vNil) vNil))) sNext)
    (sSeq (sSet 5 (v2 ixD (vA gTup (vCons (vC (.int 0)) (vCons (vCallA 2 0 [] [.pos 0, .pos 1] F__law_draw_ed7e (vCons (vVar 0) (vCons (vC (.int 90)) vNil)) vNil) (vCons (vCallA 2 0 [] [.pos 0, .pos 1] F__law_draw_ed7e (vCons (vVar 0) (vCons (vC (.int 90000)) vNil)) vNil) vNil)))) (vCallA 2 0 [] [.pos 0, .pos 1] F__law_draw_ed7e (vCons (vVar 0) (vCons (vC (.int 3)) vNil)) vNil)))
    (sSeq (sSet 6 (v2 ixD (vA gTup (vCons (vVar 5) (vCons (v2 (addD false) (vVar 5) (vC (.int 1))) (vCons (v2 (addD false) (vVar 5) (vCallA 2 0 [] [.pos 0, .pos 1] F__law_draw_ed7e (vCons (vVar 0) (vCons (vC (.int 9000)) vNil)) vNil)) (vCons (vCallA 2 0 [] [.pos 0, .pos 1] F__law_draw_ed7e (vCons (vVar 0) (vCons (vC (.int 99999)) vNil)) vNil) vNil))))) (vCallA 2 0 [] [.pos 0, .pos 1] F__law_draw_ed7e (vCons (vVar 0) (vCons (vC (.int 4)) vNil)) vNil)))
    (sSeq (sSet 7 (v2 ixD (vA gTup (vCons (vC (.int 0)) (vCons (vC (.int 1)) (vCons (vC (.int 50)) (vCons (vC (.int 99)) (vCons (vC (.int 100)) (vCons (vCallA 2 0 [] [.pos 0, .pos 1] F__law_draw_ed7e (vCons (vVar 0) (vCons (vC (.int 101)) vNil)) vNil) vNil))))))) (vCallA 2 0 [] [.pos 0, .pos 1] F__law_draw_ed7e (vCons (vVar 0) (vCons (vC (.int 6)) vNil)) vNil)))
    (sExpr (vML appD (vVar 2) (vCons (vA gTup (vCons (vA (g1 tupD) (vCons (vA (g1 (sortD false)) (vCons (vVar 4) vNil)) vNil)) (vCons (vVar 5) (vCons (vVar 6) (vCons (vVar 7) vNil))))) vNil))))))))))
    (sRet (vA (g1 tupD) (vCons (vVar 2) vNil)))))
noncomputable def F__law_offs_9cbf : List D → AS → Out D := vFn 9 0 B__law_offs_9cbf
noncomputable def B__law_offed : En → AS → Fl :=
    (sSeq (sIf (vNot (v1 truD (vA isiD (vCons (vVar 0) (vCons (vC (.cv (.v (.ty "tuple")))) vNil))))) (sRet (vC (.bl false))) sNext)
    (sSeq (sFor (v1 itD (vVar 0)) (kName 1) (sKill [1] (sSeq (sIf (vOr (vNot (v1 truD (vA isiD (vCons (vVar 1) (vCons (vC (.cv (.v (.ty "tuple")))) vNil))))) (vOr (vB (v2 (eqD true) (vA (g1 lenD) (vCons (vVar 1) vNil)) (vC (.int 4)))) (vNot (v1 truD (vA isiD (vCons (v2 ixD (vVar 1) (vC (.int 0))) (vCons (vC (.cv (.v (.ty "tuple")))) vNil))))))) (sRet (vC (.bl false))) sNext)
    (sSeq (sIf (vOr (vB (v2 (eqD true) (vLc false [3] (v1 itD (v2 ixD (vVar 1) (vC (.int 0)))) (kName 3) (vNot (v1 truD (vCallA 1 0 [] [.pos 0] F__law_worded_c386 (vCons (vVar 3) vNil) vNil))) (vVar 3)) (vA (gLst false) vNil))) (vB (v2 (eqD true) (vA (g1 (lstD false)) (vCons (v2 ixD (vVar 1) (vC (.int 0))) vNil)) (v1 (srtSetD false) (v2 ixD (vVar 1) (vC (.int 0))))))) (sRet (vC (.bl false))) sNext)
    (sSeq (sIf (vB (v2 (eqD true) (vLc false [2] (v1 itD (vSl (slD false) (vVar 1) (v1 asI (vC (.int 1))) vNoPart)) (kName 2) (vNot (v1 truD (vCallA 1 0 [] [.pos 0] F__law_number_6395 (vCons (vVar 2) vNil) vNil))) (vVar 2)) (vA (gLst false) vNil))) (sRet (vC (.bl false))) sNext)
    (sIf (vOr (vB (v2 ltD (vA minD (vCons (vSl (slD false) (vVar 1) (v1 asI (vC (.int 1))) vNoPart) vNil)) (vC (.int 0)))) (vB (v2 gtD (v2 ixD (vVar 1) (vC (.int 3))) (vC (.int 100))))) (sRet (vC (.bl false))) sNext))))))
    (sRet (vC (.bl true)))))
noncomputable def F__law_offed : List D → AS → Out D := vFn 4 0 B__law_offed
noncomputable def B__law_fixed_a7f8 : En → AS → Fl :=
    (sSeq (sSet 0 (v2 powD (vC (.int 10)) (vC (.int 60))))
    (sSeq (sSet 1 (vA gTup (vCons (vA gTup (vCons (vC (.str "a")) (vCons (vC (.str "b")) vNil))) (vCons (vC (.int 0)) (vCons (vC (.int 9)) (vCons (vC (.int 50)) vNil))))))
    (sSeq (sSet 2 (vA (gLst true) (vCons (vA gTup vNil) (vCons (vA gTup (vCons (vVar 1) vNil)) (vCons (vA gTup (vCons (vVar 1) (vCons (vVar 1) vNil))) (vCons (vA (gLst false) (vCons (vVar 1) vNil)) (vCons (vVar 1) (vCons (vC .non) (vCons (vC (.int 0)) (vCons (vC (.str "a")) (vCons (vA gTup (vCons (vA gTup vNil) vNil)) (vCons (vA gTup (vCons (vC .non) vNil)) (vCons (vA gTup (vCons (vVar 1) (vCons (vA (g1 (lstD false)) (vCons (vVar 1) vNil)) vNil))) (vCons (vA gTup (vCons (vA gTup (vCons (vA gTup (vCons (vC (.str "a")) vNil)) (vCons (vC (.int 0)) (vCons (vC (.int 9)) vNil)))) vNil)) vNil))))))))))))))
    (sSeq (sExpr (vML extD (vVar 2) (vCons (vA (gLst false) (vCons (vA gTup (vCons (vA gTup (vCons (vA gTup vNil) (vCons (vC (.int 0)) (vCons (vC (.int 0)) (vCons (vC (.int 0)) vNil))))) vNil)) (vCons (vA gTup (vCons (vA gTup (vCons (vA gTup (vCons (vC (.str "a")) vNil)) (vCons (vC (.int 9)) (vCons (vC (.int 0)) (vCons (vC (.int 100)) vNil))))) vNil)) (vCons (vA gTup (vCons (vA gTup (vCons (vA gTup (vCons (vC (.str "a")) vNil)) (vCons (vC (.int 0)) (vCons (vC (.int 9)) (vCons (vC (.int 101)) vNil))))) vNil)) (vCons (vA gTup (vCons (vA gTup (vCons (vA gTup (vCons (vC (.str "a")) vNil)) (vCons (vC (.int 0)) (vCons (vC (.int 9)) (vCons (v1 negD (vC (.int 1))) vNil))))) vNil)) vNil))))) vNil)))
    (sSeq (sExpr (vML extD (vVar 2) (vCons (vA (gLst false) (vCons (vA gTup (vCons (vA gTup (vCons (vA gTup (vCons (vC (.str "a")) vNil)) (vCons (v1 negD (vC (.int 1))) (vCons (vC (.int 9)) (vCons (vC (.int 1)) vNil))))) vNil)) (vCons (vA gTup (vCons (vA gTup (vCons (vA gTup (vCons (vC (.str "a")) vNil)) (vCons (vC (.int 0)) (vCons (v1 negD (vC (.int 1))) (vCons (vC (.int 1)) vNil))))) vNil)) (vCons (vA gTup (vCons (vA gTup (vCons (vA gTup (vCons (vC (.str "a")) vNil)) (vCons (vC (.bl true)) (vCons (vC (.int 9)) (vCons (vC (.int 1)) vNil))))) vNil)) (vCons (vA gTup (vCons (vA gTup (vCons (vA gTup (vCons (vC (.str "a")) vNil)) (vCons (vC (.int 0)) (vCons (vC (.int 9)) (vCons (vC (.bl true)) vNil))))) vNil)) vNil))))) vNil)))
    (sSeq (sExpr (vML extD (vVar 2) (vCons (vA (gLst false) (vCons (vA gTup (vCons (vA gTup (vCons (vA gTup (vCons (vC (.str "b")) (vCons (vC (.str "a")) vNil))) (vCons (vC (.int 0)) (vCons (vC (.int 9)) (vCons (vC (.int 1)) vNil))))) vNil)) (vCons (vA gTup (vCons (vA gTup (vCons (vA gTup (vCons (vC (.str "a")) (vCons (vC (.str "a")) vNil))) (vCons (vC (.int 0)) (vCons (vC (.int 9)) (vCons (vC (.int 1)) vNil))))) vNil)) (vCons (vA gTup (vCons (vA gTup (vCons (vA (gLst false) (vCons (vC (.str "a")) vNil)) (vCons (vC (.int 0)) (vCons (vC (.int 9)) (vCons (vC (.int 1)) vNil))))) vNil)) (vCons (vA gTup (vCons (vA gTup (vCons (vC (.str "a")) (vCons (vC (.int 0)) (vCons (vC (.int 9)) (vCons (vC (.int 1)) vNil))))) vNil)) vNil))))) vNil)))
    (sSeq (sExpr (vML extD (vVar 2) (vCons (vA (gLst false) (vCons (vA gTup (vCons (vA gTup (vCons (vA gTup (vCons (vC (.str "a")) (vCons (vC (.int 0)) vNil))) (vCons (vC (.int 0)) (vCons (vC (.int 9)) (vCons (vC (.int 1)) vNil))))) vNil)) (vCons (vA gTup (vCons (vA gTup (vCons (vA gTup (vCons (vC (.str "a")) (vCons (vA (gLst false) (vCons (vC (.str "b")) vNil)) vNil))) (vCons (vC (.int 0)) (vCons (vC (.int 9)) (vCons (vC (.int 1)) vNil))))) vNil)) (vCons (vA gTup (vCons (vA gTup (vCons (vA gTup (vCons (vC (.str "")) (vCons (vC (.str "a")) vNil))) (vCons (vC (.int 0)) (vCons (vC (.int 9)) (vCons (vC (.int 1)) vNil))))) vNil)) (vCons (vA gTup (vCons (vA gTup (vCons (vA gTup (vCons (vC (.str "A")) vNil)) (vCons (vC (.int 0)) (vCons (vC (.int 9)) (vCons (vC (.int 1)) vNil))))) vNil)) vNil))))) vNil)))
    (sSeq (sExpr (vML extD (vVar 2) (vCons (vA (gLst false) (vCons (vA gTup (vCons (vA gTup (vCons (vA gTup (vCons (vC (.str "a")) (vCons (vC (.str "ab")) (vCons (vC (.str "b")) vNil)))) (vCons (vC (.int 0)) (vCons (vC (.int 9)) (vCons (vC (.int 1)) vNil))))) vNil)) (vCons (vA gTup (vCons (vA gTup (vCons (vA gTup (vCons (vC (.str "ab")) (vCons (vC (.str "a")) vNil))) (vCons (vC (.int 0)) (vCons (vC (.int 9)) (vCons (vC (.int 1)) vNil))))) vNil)) (vCons (vA gTup (vCons (vA gTup (vCons (vA gTup (vCons (vC (.str "a")) vNil)) (vCons (vC (.int 0)) (vCons (vVar 0) (vCons (vC (.int 1)) vNil))))) vNil)) vNil)))) vNil)))
    (sSeq (sExpr (vML extD (vVar 2) (vCons (vA (gLst false) (vCons (vA gTup (vCons (vA gTup (vCons (vA gTup (vCons (vC (.str "a")) vNil)) (vCons (vC .non) (vCons (vC (.int 9)) (vCons (vC (.int 1)) vNil))))) vNil)) (vCons (vA gTup (vCons (vA gTup (vCons (vA gTup (vCons (vC (.str "a")) vNil)) (vCons (vC (.int 0)) (vCons (vC (.str "9")) (vCons (vC (.int 1)) vNil))))) vNil)) (vCons (vA gTup (vCons (vA gTup (vCons (vA gTup (vCons (vC (.str "a")) vNil)) (vCons (vA (gLst false) (vCons (vC (.int 0)) vNil)) (vCons (vC (.int 9)) (vCons (vC (.int 1)) vNil))))) vNil)) vNil)))) vNil)))
    (sSeq (sExpr (vML appD (vVar 2) (vCons (vA gTup (vCons (vA gTup (vCons (vA gTup (vCons (vC (.str "abcdefghi")) vNil)) (vCons (vC (.int 0)) (vCons (vC (.int 9)) (vCons (vC (.int 1)) vNil))))) vNil)) vNil)))
    (sSeq (sExpr (vML extD (vVar 2) (vCons (vA (gLst false) (vCons (vA gTup (vCons (vA gTup (vCons (vA gTup (vCons (vC (.str "a")) vNil)) (vCons (vC (.int 0)) (vCons (vC (.int 9)) (vCons (vC (.int 1)) (vCons (vC (.int 0)) vNil)))))) vNil)) (vCons (vA gTup (vCons (vA gTup (vCons (vA gTup (vCons (vC (.str "a")) vNil)) (vCons (vC (.int 0)) (vCons (vC (.int 9)) (vCons (vVar 0) vNil))))) vNil)) (vCons (v2 (mulD false) (vA gTup (vCons (vVar 1) vNil)) (vC (.int 40))) (vCons (v2 (addD false) (v2 (mulD false) (vA gTup (vCons (vVar 1) vNil)) (vC (.int 40))) (vA gTup (vCons (vC .non) vNil))) vNil))))) vNil)))
    (sRet (v2 (addD true) (vVar 2) (vA (gLst false) (vCons (vA gTup (vCons (vA gTup (vCons (vA (g1 tupD) (vCons (vLc false [3] (v1 itD (vC (.str "abcdefghijklmnopqrstuvwxyz"))) (kName 3) tYesV (v2 (addD false) (vC (.str "q")) (vVar 3))) vNil)) (vCons (vC (.int 5)) (vCons (vC (.int 6)) (vCons (vC (.int 7)) vNil))))) vNil)) vNil)))))))))))))))
noncomputable def F__law_fixed_a7f8 : List D → AS → Out D := vFn 4 0 B__law_fixed_a7f8
noncomputable def B__law_near_5481 : En → AS → Fl :=
    (sSeq (sSet 2 (vCallA 2 0 [] [.pos 0, .pos 1] F__law_draw_ed7e (vCons (vVar 0) (vCons (vA (g1 lenD) (vCons (vVar 1) vNil)) vNil)) vNil))
    (sSeq (sAsg (v2 ixD (vVar 1) (vVar 2)) (kTup 4 (kCons (kName 3) (kCons (kName 4) (kCons (kName 5) (kCons (kName 6) kNil))))))
    (sSeq (sSet 7 (vCallA 3 0 [] [.pos 0, .pos 1, .pos 2] (F__law_bend 20) (vCons (vVar 0) (vCons (vVar 1) (vCons (vCallA 0 0 [] [] F__law_odd_2e17 vNil vNil) vNil))) vNil))
    (sSeq (sSet 8 (vA (gLst true) (vCons (vA gTup (vCons (v1 revD (vVar 3)) (vCons (vVar 4) (vCons (vVar 5) (vCons (vVar 6) vNil))))) (vCons (vA gTup (vCons (v2 (addD false) (vVar 3) (vSl (slD false) (vVar 3) (v1 asI (v1 negD (vC (.int 1)))) vNoPart)) (vCons (vVar 4) (vCons (vVar 5) (vCons (vVar 6) vNil))))) (vCons (vA gTup (vCons (vVar 3) (vCons (vVar 4) (vCons (vVar 5) (vCons (vC (.int 100)) vNil))))) vNil)))))
    (sSeq (sExpr (vML extD (vVar 8) (vCons (vA (gLst false) (vCons (vA gTup (vCons (vVar 3) (vCons (vVar 4) (vCons (vVar 5) (vCons (vC (.int 101)) vNil))))) (vCons (vA gTup (vCons (vVar 3) (vCons (vVar 4) (vCons (vVar 5) (vCons (v1 negD (vC (.int 1))) vNil))))) (vCons (vA gTup (vCons (vVar 3) (vCons (v1 negD (vC (.int 1))) (vCons (vVar 5) (vCons (vVar 6) vNil))))) vNil)))) vNil)))
    (sSeq (sExpr (vML appD (vVar 8) (vCons (vA gTup (vCons (vVar 3) (vCons (vVar 5) (vCons (vVar 4) (vCons (vVar 6) vNil))))) vNil)))
    (sSeq (sExpr (vML extD (vVar 8) (vCons (vA (gLst false) (vCons (vA gTup (vCons (vA (g1 (lstD false)) (vCons (vVar 3) vNil)) (vCons (vVar 4) (vCons (vVar 5) (vCons (vVar 6) vNil))))) (vCons (vVar 3) vNil))) vNil)))
    (sSeq (sSet 9 (vA (gLst true) (vCons (vVar 1) (vCons (vA (g1 (lstD false)) (vCons (vVar 1) vNil)) (vCons (vVar 7) (vCons (vCallA 3 0 [] [.pos 0, .pos 1, .pos 2] (F__law_bend 20) (vCons (vVar 0) (vCons (vVar 7) (vCons (vCallA 0 0 [] [] F__law_odd_2e17 vNil vNil) vNil))) vNil) (vCons (v1 revD (vVar 1)) (vCons (v2 (addD false) (vVar 1) (vVar 1)) vNil))))))))
    (sSeq (sFor (v1 itD (vVar 8)) (kName 10) (sKill [10] (sExpr (vML appD (vVar 9) (vCons (v2 (addD false) (v2 (addD false) (vSl (slD false) (vVar 1) vNoPart (v1 asI (vVar 2))) (vA gTup (vCons (vVar 10) vNil))) (vSl (slD false) (vVar 1) (v1 asI (v2 (addD false) (vVar 2) (vC (.int 1)))) vNoPart)) vNil)))))
    (sRet (vVar 9)))))))))))
noncomputable def F__law_near_5481 : List D → AS → Out D := vFn 11 4 B__law_near_5481
noncomputable def B_law_89be : En → AS → Fl :=
    (sSeq (sSet 1 (vCallA 1 0 [] [.pos 0] F__law_feed_6a37 (vCons (vVar 0) vNil) vNil))
    (sSeq (sSet 2 (vCallA 0 0 [] [] F__law_fixed_a7f8 vNil vNil))
    (sSeq (sFor (vA rng1 (vCons (vC (.int 4)) vNil)) (kName 3) (sKill [3, 4] (sSeq (sSet 4 (vCallA 2 0 [] [.pos 0, .pos 1] F__law_offs_9cbf (vCons (vVar 1) (vCons (vCallA 2 0 [] [.pos 0, .pos 1] F__law_menu_3a71 (vCons (vVar 1) (vCons (v2 (addD false) (vC (.int 1)) (vCallA 2 0 [] [.pos 0, .pos 1] F__law_draw_ed7e (vCons (vVar 1) (vCons (vC (.int 6)) vNil)) vNil)) vNil)) vNil) vNil)) vNil))
    (sSeq (sIf (vB (v2 (isND true) (vCallA 1 0 [] [.pos 0] F_is_offs (vCons (vVar 4) vNil) vNil) (vC (.bl true)))) (sRet (vC (.bl false))) sNext)
    (sExpr (vML extD (vVar 2) (vCons (vIfE (vB (v2 (eqD true) (vVar 4) (vA gTup vNil))) (vCallA 2 0 [] [.pos 0, .pos 1] F__law_near_5481 (vCons (vVar 1) (vCons (vVar 4) vNil)) vNil) (vA (gLst false) (vCons (vVar 4) vNil))) vNil)))))))
    (sSeq (sSet 5 (vA (g1 reprD) (vCons (vVar 2) vNil)))
    (sSeq (sFor (v1 itD (vVar 2)) (kName 6) (sKill [6] (sIf (vNot (v1 truD (vCallA 2 0 [] [.pos 0, .pos 1] F__law_same (vCons (vCallA 1 0 [] [.pos 0] F_is_offs (vCons (vVar 6) vNil) vNil) (vCons (vCallA 1 0 [] [.pos 0] F__law_offed (vCons (vVar 6) vNil) vNil) vNil)) vNil))) (sRet (vC (.bl false))) sNext)))
    (sRet (v2 (eqD false) (vA (g1 reprD) (vCons (vVar 2) vNil)) (vVar 5))))))))
noncomputable def F_law_89be : List D → AS → Out D := vFn 7 0 B_law_89be
end G

set_option Elab.async false
set_option linter.all false
set_option maxRecDepth 100000
set_option maxHeartbeats 2000000
namespace Kd
open PySem VL TB G
theorem f_number (d : D) (st : AS) (h : d.pure = true) : F__law_number_6395 [d] st = .ok (.bl (numD d)) st := by
  cases d with
  | bl b => cases b <;> simp [F__law_number_6395, B__law_number_6395, isT, numD]
  | _ => simp [F__law_number_6395, B__law_number_6395, isT, numD, D.pure] at h ⊢
theorem eqv_lst_nil2 (ds : List D) : eqvD (.lst ds) (.lst []) = ds.isEmpty := by
  rw [eqv_lst_nil]
  cases ds <;> simp
/-- ds != [] -/
theorem ne_nil {m k j : Nat} {ds : List D} (st : AS) (h : Ok m k j (.lst ds)) (hj : j ≤ 100) (hk : k ≤ 60) : eqD true (.lst ds) (.lst []) st = .ok (.bl (!ds.isEmpty)) st := by
  have h1 := h.fit hj hk
  simp [eqD, scalD, h1, fit_nil, eqv_lst_nil2]
theorem strs_mapD : ∀ {ds : List D}, ds.all strD = true → ∃ xs : List Str, ds = xs.map D.str
  | [], _ => ⟨[], rfl⟩
  | d :: ds, h => by
    simp only [List.all_cons, Bool.and_eq_true] at h
    obtain ⟨xs, rfl⟩ := strs_mapD h.2
    cases d <;> simp [strD] at h
    rename_i x
    exact ⟨x :: xs, rfl⟩
theorem numD_int {d : D} (h : numD d = true) : ∃ i, d = .int i := by
  cases d <;> simp [numD] at h
  exact ⟨_, rfl⟩
theorem min3 (p q r : Int) : minI [p, q, r] < 0 ↔ p < 0 ∨ q < 0 ∨ r < 0 := by
  show min p (min q r) < 0 ↔ _
  rw [Int.min_def, Int.min_def]
  split <;> split <;> omega
theorem off_num {a b c e : D} (h : [b, c, e].all numD = false) : offD (.tup [a, b, c, e]) = false := by
  unfold offD
  split
  · rename_i q
    cases q
    simp [numD] at h
  · rfl
theorem off_ris {a b c e : D} (h : risWD a = false) : offD (.tup [a, b, c, e]) = false := by
  unfold offD
  split
  · rename_i q
    cases q
    simp [h]
  · rfl
theorem isEmpty_filter {α : Type} (p : α → Bool) : ∀ l : List α, (l.filter fun x => !p x).isEmpty = l.all p
  | [] => rfl
  | x :: l => by
    rw [List.filter_cons, List.all_cons, ← isEmpty_filter p l]
    cases p x <;> simp
theorem Ok.str {m k j : Nat} {x : Str} (h : Ok m k j (.str x)) (hj : j ≤ 100) : asc x ∧ x.length ≤ sizeLine := by
  have := h.f.at_
  rw [D.py] at this
  obtain ⟨h1, h2⟩ := ats_str this
  exact ⟨h1, by rw [sizeLine_eq]; omega⟩
theorem Ok.len {m k j : Nat} {ds : List D} (h : Ok m k j (.tup ds)) : ds.length + 1 ≤ m := by
  have hf := h.f
  rw [D.py, pys_map] at hf
  have h1 := hf.sz
  rw [sz_tup] at h1
  have h2 := szs_len (ds.map D.py)
  rw [List.length_map] at h2
  omega
theorem szs_strs : ∀ xs : List Str, szs ((xs.map D.str).map D.py) = xs.length
  | [] => by simp [szs]
  | x :: xs => by
    have := szs_strs xs
    simp only [List.map_cons, szs, List.length_cons, this, D.py, sz]
    omega
theorem pures_strs : ∀ xs : List Str, D.pures (xs.map D.str) = true
  | [] => by simp [D.pures]
  | x :: xs => by simp [D.pures, D.pure, pures_strs xs]
theorem fit_strs {j : Nat} (xs : List Str) (hl : xs.length ≤ 15000000) (hj : j ≤ 100) (h : ∀ x ∈ xs, asc x ∧ x.length ≤ 20 + j) : (D.lst (xs.map D.str)).fit = true := by
  unfold D.fit
  rw [D.pure, pures_strs, D.py, pys_map]
  have : Fit (15000000 + 1) 1 j (.list ((xs.map D.str).map D.py)) := fit_lst (by rw [szs_strs]; exact hl) fun d hd => by
    simp only [List.mem_map] at hd
    obtain ⟨e, ⟨x, hx, rfl⟩, rfl⟩ := hd
    rw [D.py]
    exact ⟨by simp [PyData.depth], by simp only [Ats]; exact h x hx⟩
  rw [this.shaped hj (by decide)]
  rfl
/-- one OFF, as the law looks -/
theorem f_off1 {m k j : Nat} (x : D) (st : AS) (T : D) (ho : Ok m (k + 2) j x) (hm : m ≤ 1000) (hj : j ≤ 100) (hk : k + 2 ≤ 60) :
    (sKill [1] (sSeq (sIf (vOr (vNot (v1 truD (vA isiD (vCons (vVar 1) (vCons (vC (.cv (.v (.ty "tuple")))) vNil))))) (vOr (vB (v2 (eqD true) (vA (g1 lenD) (vCons (vVar 1) vNil)) (vC (.int 4)))) (vNot (v1 truD (vA isiD (vCons (v2 ixD (vVar 1) (vC (.int 0))) (vCons (vC (.cv (.v (.ty "tuple")))) vNil))))))) (sRet (vC (.bl false))) sNext)
    (sSeq (sIf (vOr (vB (v2 (eqD true) (vLc false [3] (v1 itD (v2 ixD (vVar 1) (vC (.int 0)))) (kName 3) (vNot (v1 truD (vCallA 1 0 [] [.pos 0] F__law_worded_c386 (vCons (vVar 3) vNil) vNil))) (vVar 3)) (vA (gLst false) vNil))) (vB (v2 (eqD true) (vA (g1 (lstD false)) (vCons (v2 ixD (vVar 1) (vC (.int 0))) vNil)) (v1 (srtSetD false) (v2 ixD (vVar 1) (vC (.int 0))))))) (sRet (vC (.bl false))) sNext)
    (sSeq (sIf (vB (v2 (eqD true) (vLc false [2] (v1 itD (vSl (slD false) (vVar 1) (v1 asI (vC (.int 1))) vNoPart)) (kName 2) (vNot (v1 truD (vCallA 1 0 [] [.pos 0] F__law_number_6395 (vCons (vVar 2) vNil) vNil))) (vVar 2)) (vA (gLst false) vNil))) (sRet (vC (.bl false))) sNext)
    (sIf (vOr (vB (v2 ltD (vA minD (vCons (vSl (slD false) (vVar 1) (v1 asI (vC (.int 1))) vNoPart) vNil)) (vC (.int 0)))) (vB (v2 gtD (v2 ixD (vVar 1) (vC (.int 3))) (vC (.int 100))))) (sRet (vC (.bl false))) sNext))))) [some T, some x, none, none] st = if offD x = true then .nx [some T, none, none, none] st else .rt (.bl false) st := by
  have hp := ho.p
  cases x with
  | tup es =>
    have hl := ho.len
    have hls : es.length ≤ sizeLine := by rw [sizeLine_eq]; omega
    by_cases h4 : es.length = 4
    · match es, h4 with
      | [a, b, c, e], _ =>
        have hie : ∀ y ∈ [a, b, c, e], Ok m (k + 1) j y := Ok.mem (k := k + 1) ho
        have ct : VL.cut [a, b, c, e] (some 1) none = [b, c, e] := cut_from _ 1 (by decide)
        have oa := hie a (by simp)
        have pb := pln_pure (hie b (by simp)).p
        have pc := pln_pure (hie c (by simp)).p
        have pe := pln_pure (hie e (by simp)).p
        have ol : Ok m (k + 2) j (.lst ([b, c, e].filter fun d => !numD d)) := Ok.lst (k := k + 1) ho (List.filter_sublist.trans (List.sublist_cons_self _ _))
        have cn : compL (kName 2) (vNot (v1 truD (vCallA 1 0 [] [.pos 0] F__law_number_6395 (vCons (vVar 2) vNil) vNil))) (vVar 2) [some T, some (.tup [a, b, c, e]), none, none] [] [b, c, e] st = .ok ([b, c, e].filter fun d => !numD d) st := by
          rw [compL_map gd_nilOk (fun d => !numD d) id, List.map_id]
          intro d hd
          have pd : d.pure = true := by
            simp only [List.mem_cons, List.not_mem_nil, or_false] at hd
            rcases hd with rfl | rfl | rfl <;> assumption
          exact ⟨_, rfl, by simp [f_number d st pd], fun _ => by simp⟩
        have en := ne_nil st ol hj (by omega)
        rw [isEmpty_filter numD] at en
        have l3 : (3 : Nat) ≤ sizeLine := by rw [sizeLine_eq]; decide
        cases a with
        | tup as =>
          have hia : ∀ y ∈ as, Ok m k j y := Ok.mem (k := k) oa
          have la := oa.len
          have las : as.length ≤ sizeLine := by rw [sizeLine_eq]; omega
          have ow : Ok m (k + 1) j (.lst (as.filter fun d => !wordD d)) := Ok.lst (k := k) oa List.filter_sublist
          have cw : compL (kName 3) (vNot (v1 truD (vCallA 1 0 [] [.pos 0] F__law_worded_c386 (vCons (vVar 3) vNil) vNil))) (vVar 3) [some T, some (.tup [.tup as, b, c, e]), none, none] [] as st = .ok (as.filter fun d => !wordD d) st := by
            rw [compL_map gd_nilOk (fun d => !wordD d) id, List.map_id]
            intro d hd
            have od := hia d hd
            exact ⟨_, rfl, by simp [f_worded d st (pln_pure od.p) (fun x e => by subst e; exact od.str hj)], fun _ => by simp⟩
          have ew := ne_nil st ow hj (by omega)
          rw [isEmpty_filter wordD] at ew
          by_cases hw : as.all wordD = true
          · have hs : as.all strD = true := List.all_eq_true.mpr fun x hx => word_str (List.all_eq_true.mp hw x hx)
            obtain ⟨xs, rfl⟩ := strs_mapD hs
            have hx : ∀ x ∈ xs, asc x ∧ x.length ≤ 20 + j := fun x hx => by
              have := (hia (.str x) (List.mem_map_of_mem hx)).f.at_
              rw [D.py] at this
              exact ats_str this
            have lx : xs.length + 1 ≤ m := by
              rw [List.length_map] at la
              exact la
            have hsub : ∀ x ∈ sortS (ddup xs), x ∈ xs := fun x h => mem_ddup.mp ((sortS_perm (ddup xs)).mem_iff.mp h)
            have f1 := fit_strs xs (by omega) hj hx
            have f2 := fit_strs (sortS (ddup xs)) (by
              have := K02.sub_len (F := xs) ((sortS_perm (ddup xs)).nodup_iff.mpr (nodup_ddup xs)) hsub
              omega) hj fun x h => hx x (hsub x h)
            have e2 : eqD true (.lst (xs.map D.str)) (.lst ((sortS (ddup xs)).map D.str)) st = .ok (.bl (!ris xs)) st := by
              have ev := eqv_lst_strs xs (sortS (ddup xs))
              rw [set_ris] at ev
              simp [eqD, scalD, f1, f2, ev]
            have io : xs ≠ [] → intsOf (xs.map D.str) = none := fun z => by
              cases xs with
              | nil => exact absurd rfl z
              | cons x r => rfl
            have ss : srtSetD false (.tup (xs.map D.str)) st = .ok (.lst ((sortS (ddup xs)).map D.str)) st := by
              by_cases z : xs = []
              · subst z
                simp [intsOf, sortI, sortS, ddup, mk]
              · have l1000 : xs.length ≤ 1000 := by omega
                simp [io z, l1000]
            have hr : risWD (.tup (xs.map D.str)) = ris xs := by
              simp only [risWD, hw, Bool.true_and, risS_map]
            rw [hw] at ew
            rw [List.length_map] at las
            by_cases hi : ris xs = true
            · by_cases hn : [b, c, e].all numD = true
              · have hn' := hn
                simp only [List.all_cons, List.all_nil, Bool.and_true, Bool.and_eq_true] at hn
                obtain ⟨n1, n2, n3⟩ := hn
                obtain ⟨p, rfl⟩ := numD_int n1
                obtain ⟨q, rfl⟩ := numD_int n2
                obtain ⟨r, rfl⟩ := numD_int n3
                rw [hn'] at en
                have i3 : intsOf [.int p, .int q, .int r] = some [p, q, r] := rfl
                have lt1 : ∀ x : Int, ltD (.int x) (.int 0) st = .ok (.bl (decide (x < 0))) st := fun _ => rfl
                have o1 : offD (.tup [.tup (xs.map D.str), .int p, .int q, .int r]) = (decide (0 ≤ p) && decide (0 ≤ q) && decide (0 ≤ r) && decide (r ≤ 100)) := by
                  simp [offD, hr, hi]
                have m3 := min3 p q r
                rw [o1]
                simp -implicitDefEqProofs [-srtSetD, isT, gdOf, cw, ew, e2, ss, hi, ct, cn, en, las, i3, l3]
                by_cases q1 : minI [p, q, r] < 0
                · have : ¬ (((0 ≤ p ∧ 0 ≤ q) ∧ 0 ≤ r) ∧ r ≤ 100) := by omega
                  simp [q1, this]
                · by_cases q2 : 100 < r
                  · have : ¬ (((0 ≤ p ∧ 0 ≤ q) ∧ 0 ≤ r) ∧ r ≤ 100) := by omega
                    simp [q1, q2, this]
                  · have : (((0 ≤ p ∧ 0 ≤ q) ∧ 0 ≤ r) ∧ r ≤ 100) := by omega
                    simp [q1, q2, this]
              · have hn' : [b, c, e].all numD = false := Bool.eq_false_iff.mpr hn
                rw [hn'] at en
                rw [off_num hn']
                simp -implicitDefEqProofs [-srtSetD, isT, gdOf, cw, ew, e2, ss, hi, ct, cn, en, las, l3]
            · have hi' : ris xs = false := Bool.eq_false_iff.mpr hi
              rw [off_ris (by rw [hr, hi'])]
              simp -implicitDefEqProofs [-srtSetD, isT, gdOf, cw, ew, e2, ss, hi', las]
          · have hw' : as.all wordD = false := Bool.eq_false_iff.mpr hw
            rw [hw'] at ew
            rw [off_ris (by simp only [risWD, hw', Bool.false_and])]
            simp -implicitDefEqProofs [-srtSetD, isT, gdOf, cw, ew, las]
        | ctp _ => have pa := oa.p; simp [pln] at pa
        | fzl _ => have pa := oa.p; simp [pln] at pa
        | ref _ => have pa := oa.p; simp [pln] at pa
        | cv _ => have pa := oa.p; simp [pln] at pa
        | _ =>
          rw [off_ris rfl]
          simp -implicitDefEqProofs [isT]
    · have ho : offD (.tup es) = false := by
        unfold offD
        split
        · rename_i q
          cases q
          simp at h4
        · rfl
      have h4' : ¬ (es.length : Int) = 4 := by omega
      simp -implicitDefEqProofs [isT, h4', ho, hls]
  | _ =>
    first
      | (simp [pln] at hp; done)
      | simp -implicitDefEqProofs [isT, offD]
theorem f_offed {m k j : Nat} (d : D) (st : AS) (h : Ok m (k + 3) j d) (hm : m ≤ 1000) (hj : j ≤ 100) (hk : k + 3 ≤ 60) : F__law_offed [d] st = .ok (.bl (offsD d)) st := by
  cases d with
  | tup ds =>
    have hin : ∀ x ∈ ds, Ok m (k + 2) j x := Ok.mem (k := k + 2) h
    simp -implicitDefEqProofs [F__law_offed, B__law_offed, isT, gdOf]
    rw [for_chk offD gd_nilOk ds ?c]
    · show _ = Out.ok (D.bl (ds.all offD)) st
      generalize ds.all offD = b
      cases b <;> simp
    case c =>
      intro x hx
      exact ⟨_, rfl, f_off1 x st (.tup ds) (hin x hx) hm hj (by omega)⟩
  | _ => 
    have := h.p
    simp [F__law_offed, B__law_offed, isT, offsD, pln] at this ⊢
end Kd

set_option Elab.async false
set_option linter.all false
set_option maxRecDepth 100000
set_option maxHeartbeats 2000000
/-! A word that is drawn, unlike those found. -/
namespace Kd
open PySem PySem.Spec PyProof.Rows L2 TB VL G K02
theorem abc_len : Str.length (Str.ofString "abcdefghijklmnopqrstuvwxyz") ≤ sizeLine := by rw [sizeLine_eq]; decide +kernel
theorem abc_ix {r : Int} (h0 : 0 ≤ r) (h1 : r < 26) : L2.atI (Str.ofString "abcdefghijklmnopqrstuvwxyz").cps.toList r = some (97 + r.toNat) := by
  have := abc_at ⟨r.toNat, by omega⟩
  have e : ((r.toNat : Nat) : Int) = r := by omega
  simp only [e] at this
  exact this
noncomputable abbrev gro : En → AS → Fl := (sKill [5] (sSet 4 (v2 (addD false) (vVar 4) (v2 ixD (vVar 2) (vCallA 2 0 [] [.pos 0, .pos 1] F__law_draw_ed7e (vCons (vVar 0) (vCons (vC (.int 26)) vNil)) vNil)))))
theorem word_grow {i : Nat} {ns : List Int} {d : D} {r1 : Int} : ∀ (ds : List D) (cs : List Nat) (n : Nat) (st : AS), Fd i ns n st → n + ds.length < 1000000000 → (∀ c ∈ cs, Lt c) → 0 < cs.length → cs.length + ds.length ≤ 8 →
    ∃ cs' st', forL (kName 5) gro [] ds [some (.ref i), some d, some (.str "abcdefghijklmnopqrstuvwxyz"), some (.int r1), some (.str (mkS cs)), none, none] st = .nx [some (.ref i), some d, some (.str "abcdefghijklmnopqrstuvwxyz"), some (.int r1), some (.str (mkS cs')), none, none] st' ∧ Wd cs' ∧ Dr i ns (n + ds.length) st st'
  | [], cs, n, st, hf, _, hc, h0, h8 => ⟨cs, st, by simp [forL], ⟨h0, h8, hc⟩, Dr.refl hf⟩
  | x :: ds, cs, n, st, hf, hn, hc, h0, h8 => by
    simp only [List.length_cons] at h8 hn
    obtain ⟨r, s1, e, q0, q1, d1⟩ := draw_ok (m := 26) hf (by omega) (by omega) (by omega)
    have lt : Lt (97 + r.toNat) := ⟨by omega, by omega⟩
    obtain ⟨cs', s2, e2, w2, d2⟩ := word_grow (d := d) (r1 := r1) ds (cs ++ [97 + r.toNat]) (n + 1) s1 d1.fd (by omega) (fun c hc' => (List.mem_append.mp hc').elim (hc c) fun z => by rw [List.mem_singleton.mp z]; exact lt) (by simp) (by simp; omega)
    refine ⟨cs', s2, ?_, w2, by rw [List.length_cons, show n + (ds.length + 1) = n + 1 + ds.length by omega]; exact d1.trans d2⟩
    have ix := abc_ix q0 q1
    have al := abc_len
    have l4 : (mkS cs).length + (mkS [97 + r.toNat]).length ≤ sizeLine := by rw [mkS_len, mkS_len, sizeLine_eq]; show cs.length + 1 ≤ _; omega
    rw [forL, if_pos gd_nilOk]
    simp -implicitDefEqProofs [e, ix, al, one_mk, l4, mkS_app]
    exact e2
/-- a thing that tells a list of texts: a value, or a cell beside the feed -/
def Wl (i : Nat) (st : AS) (d : D) (xs : List Str) : Prop := d = .lst (xs.map D.str) ∨ ∃ j, d = .ref j ∧ j ≠ i ∧ st[j]? = some (.lst (xs.map D.str))
theorem Wl.dr {i : Nat} {st st' : AS} {d : D} {xs : List Str} (h : Wl i st d xs) (k : ∀ j, j ≠ i → st'[j]? = st[j]?) : Wl i st' d xs := by
  rcases h with h | ⟨j, h1, h2, h3⟩
  · exact .inl h
  · exact .inr ⟨j, h1, h2, (k j h2).trans h3⟩
theorem Wl.in_ {i : Nat} {st : AS} {d : D} {xs : List Str} (h : Wl i st d xs) (n : Bool) (x : Str) : inD n (.str x) d st = .ok (.bl (xor n (decide (x ∈ xs)))) st := by
  rcases h with rfl | ⟨j, rfl, h2, h3⟩
  · exact in_lst n x xs st
  · have h1 := all_str xs
    have h2 := any_str x xs
    simp only [inD, seqOf, VL.listOf, h3, scalD, h1, h2, Bool.and_self, if_true]
theorem Wl.seq {i : Nat} {st : AS} {d : D} {xs : List Str} (h : Wl i st d xs) : seqOf st d = some (xs.map D.str) := by
  rcases h with rfl | ⟨j, rfl, h2, h3⟩
  · rfl
  · simp [h3]
theorem Wl.ix {i : Nat} {st : AS} {d : D} {xs : List Str} (h : Wl i st d xs) {r : Int} (h0 : 0 ≤ r) (h1 : r < xs.length) : ∃ x, x ∈ xs ∧ ixD d (.int r) st = .ok (.str x) st := by
  obtain ⟨y, e, hy⟩ := atI_in (xs := xs.map D.str) h0 (by simpa using h1)
  obtain ⟨x, hx, rfl⟩ := List.mem_map.mp hy
  have hs := h.seq
  refine ⟨x, hx, ?_⟩
  unfold ixD
  rw [hs]
  simp [e]
theorem Wl.len {i : Nat} {st : AS} {d : D} {xs : List Str} (h : Wl i st d xs) (hl : xs.length ≤ 1000) : lenD d st = .ok (.int xs.length) st := by
  have hs := h.seq
  unfold lenD
  rw [hs]
  have : xs.length ≤ sizeLine := by rw [sizeLine_eq]; omega
  simp [this]
theorem Wl.nil {i : Nat} {st : AS} {d : D} {xs : List Str} (h : Wl i st d xs) (hl : xs.length ≤ 1000) (hw : ∀ x ∈ xs, wordS x = true) : eqD false d (.lst []) st = .ok (.bl xs.isEmpty) st := by
  have hx : ∀ x ∈ xs, asc x ∧ x.length ≤ 20 + 0 := fun x hx => by
    obtain ⟨cs, rfl, w⟩ := word_mk (hw x hx)
    have := w.n1
    refine ⟨fun c hc => ?_, by rw [mkS_len]; omega⟩
    rw [mkS_cps] at hc
    have := (w.lt c hc).2
    omega
  have f1 := fit_strs xs (by omega) (by omega) hx
  have ev := eqv_lst_nil2 (xs.map D.str)
  have hv : valD st d = .lst (xs.map D.str) := by
    rcases h with rfl | ⟨j, rfl, h2, h3⟩
    · rfl
    · simp [h3]
  have sc : scalD d = false := by
    rcases h with rfl | ⟨j, rfl, h2, h3⟩ <;> rfl
  have e2 : (List.map D.str xs).isEmpty = xs.isEmpty := by cases xs <;> rfl
  unfold eqD
  rw [sc, hv]
  simp [f1, fit_nil, ev, e2]
noncomputable abbrev sek : En → AS → Fl := (sKill [5] (sSeq (sIf (vB (v2 (inD true) (vVar 4) (vVar 1))) sBreak sNext)
    (sSet 4 (vCallA 1 0 [] [.pos 0] F__law_after (vCons (vVar 4) vNil) vNil))))
theorem word_seek {i : Nat} {d : D} {r1 : Int} {st : AS} {xs : List Str} {cs : List Nat} {o : Option D} (hw : Wd cs) (hl : Wl i st d xs) : ∀ (ds : List D) (k : Nat), (∀ m, m < k → mkS (it cs m) ∈ xs) →
    ∃ k', forL (kName 5) sek [] ds [some (.ref i), some d, some (.str "abcdefghijklmnopqrstuvwxyz"), some (.int r1), some (.str (mkS (it cs k))), none, o] st = .nx [some (.ref i), some d, some (.str "abcdefghijklmnopqrstuvwxyz"), some (.int r1), some (.str (mkS (it cs k'))), none, o] st ∧ (mkS (it cs k') ∉ xs ∨ (k' = k + ds.length ∧ ∀ m, m < k' → mkS (it cs m) ∈ xs))
  | [], k, hk => ⟨k, by simp [forL], .inr ⟨rfl, hk⟩⟩
  | x :: ds, k, hk => by
    have hi := hl.in_ true (mkS (it cs k))
    by_cases hm : mkS (it cs k) ∈ xs
    · obtain ⟨k', e, h⟩ := word_seek (o := o) (r1 := r1) hw hl ds (k + 1) fun m h => by
        by_cases z : m = k
        · rw [z]; exact hm
        · exact hk m (by omega)
      refine ⟨k', ?_, h.imp id fun ⟨a, b⟩ => ⟨by rw [List.length_cons]; omega, b⟩⟩
      have af := f_after st (hw.it k)
      rw [forL, if_pos gd_nilOk]
      simp -implicitDefEqProofs [hi, hm, af]
      exact e
    · refine ⟨k, ?_, .inl hm⟩
      rw [forL, if_pos gd_nilOk]
      simp -implicitDefEqProofs [hi, hm]
end Kd

set_option Elab.async false
set_option linter.all false
set_option maxRecDepth 100000
set_option maxHeartbeats 2000000
namespace Kd
open PySem PySem.Spec PyProof.Rows L2 TB VL G K02
theorem rng1_ex {j : Int} (h0 : 0 ≤ j) (h1 : j ≤ 1000000) : ∃ ds : List D, ds.length = j.toNat ∧ (∀ st, rng1 [.int j] st = .ok (ds, []) st) ∧ ∀ d ∈ ds, ∃ k : Nat, d = .int k ∧ (k : Int) < j :=
  ⟨(List.range j.toNat).map fun (k : Nat) => D.int (k : Int), by simp, fun st => rng1_ok (by omega) (by omega), fun d hd => by
    obtain ⟨k, hk, rfl⟩ := List.mem_map.mp hd
    have := List.mem_range.mp hk
    exact ⟨k, rfl, by omega⟩⟩
theorem cutS_to (cs : List Nat) (n : Nat) : cutS (mkS cs) none (some (n : Int)) = mkS (cs.take n) := by
  unfold cutS
  rw [HT.sIx_nat, HT.sIx_none, List.drop_zero, Nat.sub_zero, mkS_cps, mkS_len]
  show mkS (cs.take (min n cs.length)) = _
  by_cases c : n ≤ cs.length
  · rw [Nat.min_eq_left c]
  · rw [Nat.min_eq_right (by omega), List.take_length, List.take_of_length_le (by omega)]
theorem abc_ixD {r : Int} (h0 : 0 ≤ r) (h1 : r < 26) (st : AS) : ixD (.str "abcdefghijklmnopqrstuvwxyz") (.int r) st = .ok (.str (mkS [97 + r.toNat])) st := by
  have al := abc_len
  have ix := abc_ix h0 h1
  simp [al, ix, one_mk]
theorem f_word {i : Nat} {ns : List Int} {n : Nat} {st : AS} {d : D} {xs : List Str} (hf : Fd i ns n st) (hn : n < 1000000) (hl : Wl i st d xs) (hx : ∀ x ∈ xs, wordS x = true) (h50 : xs.length ≤ 50) :
    ∃ x st', F__law_word_8a86 [.ref i, d] st = .ok (.str x) st' ∧ wordS x = true ∧ x ∉ xs ∧ Dr i ns (n + 12) st st' := by
  obtain ⟨r1, s1, e1, p1, q1, d1⟩ := draw_ok (m := 5) hf (by omega) (by omega) (by omega)
  obtain ⟨r2, s2, e2, p2, q2, d2⟩ := draw_ok (m := 26) d1.fd (by omega) (by omega) (by omega)
  have hl2 := hl.dr (d1.trans d2).at_
  have nil := hl2.nil (by omega) hx
  have al := abc_len
  have ix2 := abc_ix p2 q2
  obtain ⟨d60, l60, r60, _⟩ := rng1_ex (j := 60) (by omega) (by omega)
  have fin : ∀ (s : AS) (cs : List Nat) (o : Option D) (r1 : Int), Wd cs → Wl i s d xs → ∃ x, forL (kName 5) sek [] d60 [some (.ref i), some d, some (.str "abcdefghijklmnopqrstuvwxyz"), some (.int r1), some (.str (mkS cs)), none, o] s = .nx [some (.ref i), some d, some (.str "abcdefghijklmnopqrstuvwxyz"), some (.int r1), some (.str x), none, o] s ∧ wordS x = true ∧ x ∉ xs := by
    intro s cs o r1 wd hl
    obtain ⟨k', e, h⟩ := word_seek (o := o) (r1 := r1) wd hl d60 0 (fun m h => by omega)
    refine ⟨_, e, mk_word (wd.it k'), ?_⟩
    rcases h with h | ⟨h1, h2⟩
    · exact h
    · have := it_out wd (F := xs.map fun x => x.cps.toList) (n := 60) (by rw [List.length_map]; omega) (by omega)
      exact absurd (fun k hk => List.mem_map.mpr ⟨_, h2 k (by rw [h1, l60]; show k < 0 + 60; omega), mkS_cps _⟩) this
  by_cases c : 1 < r1 ∨ xs.isEmpty = true
  · obtain ⟨r3, s3, e3, p3, q3, d3⟩ := draw_ok (m := 8) d2.fd (by omega) (by omega) (by omega)
    obtain ⟨d8, l8, r8, _⟩ := rng1_ex (j := r3) p3 (by omega)
    have lt : Lt (97 + r2.toNat) := ⟨by omega, by omega⟩
    obtain ⟨cs, s4, e4, w4, d4⟩ := word_grow (d := d) (r1 := r1) d8 [97 + r2.toNat] _ s3 d3.fd (by omega) (fun c hc => by rw [List.mem_singleton.mp hc]; exact lt) (by simp) (by simp; omega)
    have dd := ((d1.trans d2).trans d3).trans d4
    obtain ⟨x, e5, w5, n5⟩ := fin s4 cs none r1 w4 (hl.dr dd.at_)
    refine ⟨x, s4, ?_, w5, n5, ⟨dd.fd.mono (by omega), dd.len, dd.at_⟩⟩
    simp only [gro, sek, vB] at e4 e5
    have rt : ∀ x, VL.ret 0 st (D.str x) s4 = .ok (.str x) s4 := fun x => ret_len dd.len
    rcases c with c | c
    · have c' : decide (1 < r1) = true := decide_eq_true c
      simp -implicitDefEqProofs [F__law_word_8a86, B__law_word_8a86, e1, e2, al, ix2, one_mk, c, e3, r8, e4, r60, e5, rt]
    · by_cases c' : 1 < r1
      · simp -implicitDefEqProofs [F__law_word_8a86, B__law_word_8a86, e1, e2, al, ix2, one_mk, c', e3, r8, e4, r60, e5, rt]
      · simp -implicitDefEqProofs [F__law_word_8a86, B__law_word_8a86, e1, e2, al, ix2, one_mk, c', nil, c, e3, r8, e4, r60, e5, rt]
  · have c1 : ¬ 1 < r1 := fun z => c (.inl z)
    have c2 : xs.isEmpty = false := Bool.eq_false_iff.mpr fun z => c (.inr z)
    have hp : 0 < xs.length := by cases xs with | nil => simp at c2 | cons _ _ => simp
    obtain ⟨r3, s3, e3, p3, q3, d3⟩ := draw_ok (m := (xs.length : Int)) d2.fd (by omega) (by omega) (by omega)
    have hl3 := hl2.dr d3.at_
    have len2 := hl2.len (by omega)
    obtain ⟨own, ho, eo⟩ := hl3.ix p3 q3
    obtain ⟨cs, rfl, wd⟩ := word_mk (hx own ho)
    have ol : (mkS cs).length ≤ sizeLine := by rw [mkS_len, sizeLine_eq]; have := wd.n1; omega
    have n0 := wd.n0
    have n1 := wd.n1
    by_cases c3 : r1 = 0
    · obtain ⟨r4, s4, e4, p4, q4, d4⟩ := draw_ok (m := ((mkS cs).length : Int)) d3.fd (by omega) (by rw [mkS_len]; omega) (by rw [mkS_len]; omega)
      rw [mkS_len] at q4
      have ct : cutS (mkS cs) none (some (1 + r4)) = mkS (cs.take (1 + r4.toNat)) := by
        rw [← cutS_to]
        congr 2
        omega
      have dd := ((d1.trans d2).trans d3).trans d4
      have wt : Wd (cs.take (1 + r4.toNat)) := ⟨by rw [List.length_take]; omega, by rw [List.length_take]; omega, fun c hc => wd.lt c (List.mem_of_mem_take hc)⟩
      obtain ⟨x, e5, w5, n5⟩ := fin s4 _ (some (.str (mkS cs))) r1 wt (hl.dr dd.at_)
      refine ⟨x, s4, ?_, w5, n5, ⟨dd.fd.mono (by omega), dd.len, dd.at_⟩⟩
      simp only [gro, sek, vB] at e5
      have rt : ∀ x, VL.ret 0 st (D.str x) s4 = .ok (.str x) s4 := fun x => ret_len dd.len
      subst c3
      have ab2 := abc_ixD p2 q2 s2
      have len4 : ∀ s, lenD (.str (mkS cs)) s = .ok (.int ((mkS cs).length : Int)) s := fun s => by simp [ol]
      simp -implicitDefEqProofs [-ixD, -lenD, F__law_word_8a86, B__law_word_8a86, e1, e2, ab2, nil, c2, len2, e3, eo, ol, len4, e4, ct, r60, e5, rt]
    · obtain ⟨r4, s4, e4, p4, q4, d4⟩ := draw_ok (m := 26) d3.fd (by omega) (by omega) (by omega)
      have ct : cutS (mkS cs) none (some 7) = mkS (cs.take 7) := cutS_to cs 7
      have dd := ((d1.trans d2).trans d3).trans d4
      have wt : Wd (cs.take 7 ++ [97 + r4.toNat]) := ⟨by simp, by rw [List.length_append, List.length_take]; show _ + 1 ≤ 8; omega, fun c hc => (List.mem_append.mp hc).elim (fun z => wd.lt c (List.mem_of_mem_take z)) fun z => by rw [List.mem_singleton.mp z]; exact ⟨by omega, by omega⟩⟩
      obtain ⟨x, e5, w5, n5⟩ := fin s4 _ (some (.str (mkS cs))) r1 wt (hl.dr dd.at_)
      refine ⟨x, s4, ?_, w5, n5, ⟨dd.fd.mono (by omega), dd.len, dd.at_⟩⟩
      simp only [gro, sek, vB] at e5
      have rt : ∀ x, VL.ret 0 st (D.str x) s4 = .ok (.str x) s4 := fun x => ret_len dd.len
      have ab2 := abc_ixD p2 q2 s2
      have ab4 := abc_ixD p4 q4 s4
      have l7 : (mkS (cs.take 7)).length + (mkS [97 + r4.toNat]).length ≤ sizeLine := by rw [mkS_len, mkS_len, List.length_take, sizeLine_eq]; show _ + 1 ≤ _; omega
      simp -implicitDefEqProofs [-ixD, -lenD, F__law_word_8a86, B__law_word_8a86, e1, e2, ab2, nil, c1, c2, c3, len2, e3, eo, ol, e4, ct, ab4, l7, mkS_app, r60, e5, rt]
end Kd

set_option Elab.async false
set_option linter.all false
set_option maxRecDepth 100000
set_option maxHeartbeats 2000000
namespace G
open PySem VL

noncomputable def B_percent_at : En → AS → Fl :=
    (sRet (vMaxDf (vCons (vLc false [3, 4, 5, 6] (v1 itD (vVar 0)) (kTup 4 (kCons (kName 3) (kCons (kName 4) (kCons (kName 5) (kCons (kName 6) kNil))))) (vAnd (vB (v2 (inD false) (vVar 1) (vVar 3))) (vB (vChain leD ltD (vVar 4) (vVar 2) (vVar 5)))) (vVar 6)) vNil) (vC (.int 0))))
noncomputable def F_percent_at : List D → AS → Out D := vFn 7 0 B_percent_at
noncomputable def B_cost : En → AS → Fl :=
    (sSeq (sSet 4 (v2 (mulD false) (vCallA 3 0 [.int 0] [.pos 0, .pos 1, .pos 2] F_price (vCons (vVar 0) (vCons (vVar 2) (vCons (vVar 3) vNil))) vNil) (v2 subD (vC d_WHOLE) (vCallA 3 0 [.int 0] [.pos 0, .pos 1, .pos 2] F_percent_at (vCons (vVar 1) (vCons (vVar 2) (vCons (vVar 3) vNil))) vNil))))
    (sRet (v2 fdivD (v2 subD (v2 (addD false) (vVar 4) (vC d_WHOLE)) (vC (.int 1))) (vC d_WHOLE))))
noncomputable def F_cost : List D → AS → Out D := vFn 5 0 B_cost
end G

set_option Elab.async false
set_option linter.all false
set_option maxRecDepth 100000
set_option maxHeartbeats 2000000
namespace G
open PySem VL

noncomputable def B_numbers_below : En → AS → Fl :=
    (sRet (v2 fdivD (v2 subD (v2 (addD false) (v2 subD (vVar 0) (vVar 2)) (vVar 1)) (vC (.int 1))) (vVar 1)))
noncomputable def F_numbers_below : List D → AS → Out D := vFn 3 0 B_numbers_below
noncomputable def B_deal : En → AS → Fl :=
    (sSeq (sSet 3 (v2 (addD false) (vVar 2) (vVar 0)))
    (sRet (vA (g1 tupD) (vCons (vLc false [4] (vA rng1 (vCons (vVar 1) vNil)) (kName 4) tYesV (v2 subD (vCallA 3 0 [] [.pos 0, .pos 1, .pos 2] F_numbers_below (vCons (vVar 3) (vCons (vVar 1) (vCons (vVar 4) vNil))) vNil) (vCallA 3 0 [] [.pos 0, .pos 1, .pos 2] F_numbers_below (vCons (vVar 2) (vCons (vVar 1) (vCons (vVar 4) vNil))) vNil))) vNil))))
noncomputable def F_deal : List D → AS → Out D := vFn 5 0 B_deal
noncomputable def B_dealt_on : En → AS → Fl :=
    (sSeq (sSet 2 (vA (gLst true) vNil))
    (sSeq (sSet 3 (vC (.int 0)))
    (sSeq (sFor (v1 itD (vVar 0)) (kName 4) (sKill [4] (sSeq (sExpr (vML appD (vVar 2) (vCons (vCallA 3 0 [.int 0] [.pos 0, .pos 1, .pos 2] F_deal (vCons (vVar 4) (vCons (vVar 1) (vCons (vVar 3) vNil))) vNil) vNil)))
    (sAug 3 (iiD fun a b => .int (a + b)) (vVar 4)))))
    (sRet (vVar 2)))))
noncomputable def F_dealt_on : List D → AS → Out D := vFn 5 4 B_dealt_on
end G

set_option Elab.async false
set_option linter.all false
set_option maxRecDepth 100000
set_option maxHeartbeats 1000000
/-! What a dish costs; pence dealt. -/
namespace G
open PySem VL
abbrev Menu := List (Str × Int × List (Int × Int))
abbrev Offs := List (List Str × Int × Int × Int)
def ePr (p : Int × Int) : D := .tup [.int p.1, .int p.2]
def eRow (r : Str × Int × List (Int × Int)) : D := .tup [.str r.1, .int r.2.1, .tup (r.2.2.map ePr)]
def eMenu (m : Menu) : D := .tup (m.map eRow)
def eOff (o : List Str × Int × Int × Int) : D := .tup [.tup (o.1.map D.str), .int o.2.1, .int o.2.2.1, .int o.2.2.2]
def eOffs (o : Offs) : D := .tup (o.map eOff)
def rowOf (m : Menu) (item : Str) := m.find? fun r => decide (r.1 = item)
theorem f_menu_row (m : Menu) (item : Str) (st : AS) {r : Str × Int × List (Int × Int)} (h : rowOf m item = some r) : F_menu_row [eMenu m, .str item] st = .ok (eRow r) st := by
  simp -implicitDefEqProofs [F_menu_row, B_menu_row, eMenu]
  rw [for_find eRow (fun r => decide (r.1 = item)) eRow ok_nil m ?c, show m.find? (fun r => decide (r.1 = item)) = some r from h]
  · simp
  case c =>
    intro x _
    refine ⟨_, rfl, ?_⟩
    by_cases hx : x.1 = item <;> simp [eRow, hx]
def pct (o : Offs) (item : Str) (minute : Int) : Int :=
  let ns := (o.filter fun x => decide (item ∈ x.1) && (decide (x.2.1 ≤ minute) && decide (minute < x.2.2.1))).map fun x => x.2.2.2
  if ns = [] then 0 else maxI ns
theorem f_percent_at (o : Offs) (item : Str) (minute : Int) (st : AS) (hl : o.length ≤ 1000000) : F_percent_at [eOffs o, .str item, .int minute] st = .ok (.int (pct o item minute)) st := by
  have hs : o.length ≤ sizeLine := line_ge (by omega)
  simp -implicitDefEqProofs [F_percent_at, B_percent_at, eOffs, hs]
  rw [comp_en eOff (fun x => decide (item ∈ x.1) && (decide (x.2.1 ≤ minute) && decide (minute < x.2.2.1))) (fun x => .int x.2.2.2) ok_nil o ?c, map_int]
  · simp only [Out.bind_ok, ints_of, pct]
    split <;> simp_all
  case c =>
    intro x _
    refine ⟨_, by simp [eOff]; rfl, ?_, fun _ => by simp⟩
    by_cases h1 : item ∈ x.1
    · by_cases h2 : x.2.1 ≤ minute <;> simp [h1, h2]
    · simp [h1]
def lastP (r : Str × Int × List (Int × Int)) (minute : Int) : Option Int := ((r.2.2.filter fun p => decide (p.1 ≤ minute)).map (·.2)).getLast?
theorem f_price (m : Menu) (item : Str) (minute : Int) (st : AS) {r : Str × Int × List (Int × Int)} {p : Int} (h : rowOf m item = some r) (hp : lastP r minute = some p) (hl : r.2.2.length ≤ 1000000) : F_price [eMenu m, .str item, .int minute] st = .ok (.int p) st := by
  have hs : r.2.2.length ≤ sizeLine := line_ge (by omega)
  have e1 := f_menu_row m item st h
  simp -implicitDefEqProofs [F_price, B_price, e1, eRow, hs]
  rw [comp_en ePr (fun p => decide (p.1 ≤ minute)) (fun p => .int p.2) ok_nil r.2.2 ?c, map_int]
  · have hn : (r.2.2.filter fun p => decide (p.1 ≤ minute)).map (·.2) ≠ [] := by
      intro z
      rw [lastP, z] at hp
      cases hp
    have hn' : ((r.2.2.filter fun p => decide (p.1 ≤ minute)).map (·.2)).map D.int ≠ [] := fun z => hn (List.map_eq_nil_iff.mp z)
    have ha := atI_last hn'
    rw [List.getLast?_map] at ha
    unfold lastP at hp
    rw [hp] at ha
    simp only [Out.bind_ok, ha]
    simp
  case c =>
    intro x _
    refine ⟨_, by simp [ePr]; rfl, by simp, fun _ => by simp⟩
def costT (m : Menu) (o : Offs) (item : Str) (minute : Int) : Int := (((rowOf m item).bind fun r => lastP r minute).getD 0 * (100 - pct o item minute) + 100 - 1) / 100
/-- a house that can be reckoned with -/
structure OkMenu (m : Menu) : Prop where
  len : ∀ r ∈ m, r.2.2.length ≤ 1000000
  zero : ∀ r ∈ m, ∃ p, p ∈ r.2.2 ∧ p.1 = 0
structure OkOffs (o : Offs) : Prop where
  len : o.length ≤ 1000000
  pc : ∀ x ∈ o, 0 ≤ x.2.2.2 ∧ x.2.2.2 ≤ 100
theorem OkMenu.last {m : Menu} (h : OkMenu m) {item : Str} {r : Str × Int × List (Int × Int)} (hr : rowOf m item = some r) {minute : Int} (hm : 0 ≤ minute) : ∃ p, lastP r minute = some p := by
  obtain ⟨p, h1, h2⟩ := h.zero r (List.mem_of_find?_eq_some hr)
  have : (r.2.2.filter fun p => decide (p.1 ≤ minute)).map (·.2) ≠ [] := by
    intro z
    rw [List.map_eq_nil_iff, List.filter_eq_nil_iff] at z
    exact z p h1 (by simp [h2, hm])
  exact ⟨_, List.getLast?_eq_some_getLast this⟩
theorem OkOffs.pct {o : Offs} (h : OkOffs o) (item : Str) (minute : Int) : 0 ≤ G.pct o item minute ∧ G.pct o item minute ≤ 100 := by
  unfold G.pct
  dsimp only
  split
  · omega
  · rename_i hn
    obtain ⟨x, hx, e⟩ := List.mem_map.mp (maxI_mem hn).1
    rw [← e]
    exact h.pc x ((List.mem_filter.mp hx).1)
theorem f_cost (m : Menu) (o : Offs) (item : Str) (minute : Int) (st : AS) (hm : OkMenu m) (ho : OkOffs o) (hi : (rowOf m item).isSome = true) (h0 : 0 ≤ minute) : F_cost [eMenu m, eOffs o, .str item, .int minute] st = .ok (.int (costT m o item minute)) st := by
  obtain ⟨r, hr⟩ := Option.isSome_iff_exists.mp hi
  obtain ⟨p, hp⟩ := hm.last hr h0
  have e1 := f_price m item minute st hr hp (hm.len r (List.mem_of_find?_eq_some hr))
  have e2 := f_percent_at o item minute st ho.len
  have b := ho.pct item minute
  have hmul : VL.MulOk p (100 - pct o item minute) := .inl (.inr ⟨by omega, by omega⟩)
  have hdiv : ∀ x : Int, L2.CDivW x 100 := fun x => ⟨by decide, by decide⟩
  simp -implicitDefEqProofs [F_cost, B_cost, e1, e2, hmul, hdiv, costT, hr, hp]
end G

set_option Elab.async false
set_option linter.all false
set_option maxRecDepth 100000
set_option maxHeartbeats 2000000
/-! Prices that are drawn, menus. -/
namespace Kd
open PySem PySem.Spec PyProof.Rows L2 TB VL G K02
theorem pure_D {d : D} {n : Nat} (h : d.pure = true) : d.low n = true := pure_low n h
theorem feed_low (n : Nat) (ns : List Int) (a b c : Int) : C.low n (feedC ns a b c) = true := by
  have h := pures_low n (pures_ints ns)
  simp [C.low, D.lows, D.low, h]
theorem ret_dr {frz : Nat} {st st' : AS} {d d' : D} {i : Nat} {ns : List Int} {n : Nat} (hd : frzD st' st.length frz d = d') (hp : d'.pure = true) (hd0 : st'.length = st.length → d = d') (hf : Fd i ns n st') (hi : i < st.length)
    (hat : ∀ j, j < st.length → j ≠ i → st'[j]? = st[j]?) (hl : st.length ≤ st'.length) : ∃ st2, VL.ret frz st d st' = .ok d' st2 ∧ Dr i ns n st st2 := by
  have dr : Dr i ns n st (st'.take st.length) := ⟨hf.to (List.getElem?_take_of_lt hi), by rw [List.length_take]; omega, fun j hj => by
    by_cases c : j < st.length
    · rw [List.getElem?_take_of_lt c]
      exact hat j c hj
    · rw [List.getElem?_eq_none (by rw [List.length_take]; omega), List.getElem?_eq_none (by omega)]⟩
  unfold VL.ret
  split
  · rename_i e
    refine ⟨st', by rw [hd0 e], ?_⟩
    have : st'.take st.length = st' := by rw [← e, List.take_length]
    rwa [this] at dr
  · rw [hd]
    have ok : OkOver st st' := fun j c hj e => by
      by_cases z : j = i
      · subst z
        obtain ⟨a, b, c', h1, _⟩ := hf.h
        rw [h1] at e
        cases e
        exact .inr (feed_low _ _ _ _ _)
      · rw [hat j hj z] at e
        exact .inl e
    rw [if_pos ⟨pure_low _ hp, ok⟩]
    exact ⟨_, rfl, dr⟩
/-- .. of a thing that is pure -/
theorem ret_drP {frz : Nat} {st st' : AS} {d : D} {i : Nat} {ns : List Int} {n : Nat} (hp : d.pure = true) (hf : Fd i ns n st') (hi : i < st.length)
    (hat : ∀ j, j < st.length → j ≠ i → st'[j]? = st[j]?) (hl : st.length ≤ st'.length) : ∃ st2, VL.ret frz st d st' = .ok d st2 ∧ Dr i ns n st st2 :=
  ret_dr (pure_frz _ _ _ _ hp) hp (fun _ => rfl) hf hi hat hl
structure PrOk (ps : List (Int × Int)) (b : Int) : Prop where
  b0 : 0 ≤ b
  mem : ∀ p ∈ ps, 0 ≤ p.1 ∧ p.1 < b ∧ 0 ≤ p.2 ∧ p.2 ≤ 100000
  pw : ps.Pairwise fun p q => p.1 < q.1
  hd : ∀ p r, ps = p :: r → p.1 = 0
  no : ps = [] → b = 0
  bl : b ≤ 40000 * ps.length
theorem PrOk.add {ps : List (Int × Int)} {b v x : Int} (h : PrOk ps b) (v0 : 0 ≤ v) (v1 : v ≤ 100000) (x0 : 0 ≤ x) (x1 : x ≤ 30000) : PrOk (ps ++ [(b, v)]) (b + (1 + x)) := by
  have := h.b0
  refine ⟨by omega, fun p hp => ?_, ?_, fun p r e => ?_, fun e => by simp at e, ?_⟩
  · rcases List.mem_append.mp hp with z | z
    · obtain ⟨a1, a2, a3, a4⟩ := h.mem p z
      exact ⟨a1, by omega, a3, a4⟩
    · rw [List.mem_singleton.mp z]
      exact ⟨h.b0, by show b < _; omega, v0, v1⟩
  · refine List.pairwise_append.mpr ⟨h.pw, List.pairwise_singleton _ _, fun p hp q hq => ?_⟩
    rw [List.mem_singleton.mp hq]
    exact (h.mem p hp).2.1
  · cases ps with
    | nil =>
      simp at e
      rw [← e.1]
      exact h.no rfl
    | cons q r' =>
      simp at e
      rw [← e.1]
      exact h.hd q r' rfl
  · rw [List.length_append]
    have := h.bl
    show _ ≤ 40000 * ((ps.length + 1 : Nat) : Int)
    omega
noncomputable abbrev prB : En → AS → Fl := (sKill [3, 4] (sSeq (sSet 4 (vA gTup (vCons (vC (.int 0)) (vCons (vC (.int 1)) (vCons (vCallA 2 0 [] [.pos 0, .pos 1] F__law_draw_ed7e (vCons (vVar 0) (vCons (vC (.int 100)) vNil)) vNil) (vCons (v2 subD (vC (.int 100000)) (vCallA 2 0 [] [.pos 0, .pos 1] F__law_draw_ed7e (vCons (vVar 0) (vCons (vC (.int 3)) vNil)) vNil)) (vCons (vCallA 2 0 [] [.pos 0, .pos 1] F__law_draw_ed7e (vCons (vVar 0) (vCons (vC (.int 100001)) vNil)) vNil) vNil)))))))
    (sSeq (sExpr (vML appD (vVar 1) (vCons (vA gTup (vCons (vVar 2) (vCons (v2 ixD (vVar 4) (vCallA 2 0 [] [.pos 0, .pos 1] F__law_draw_ed7e (vCons (vVar 0) (vCons (vC (.int 5)) vNil)) vNil)) vNil))) vNil)))
    (sAug 2 (iiD fun a b => .int (a + b)) (v2 (addD false) (vC (.int 1)) (v2 ixD (vA gTup (vCons (vC (.int 0)) (vCons (vCallA 2 0 [] [.pos 0, .pos 1] F__law_draw_ed7e (vCons (vVar 0) (vCons (vC (.int 90)) vNil)) vNil) (vCons (vCallA 2 0 [] [.pos 0, .pos 1] F__law_draw_ed7e (vCons (vVar 0) (vCons (vC (.int 30000)) vNil)) vNil) vNil)))) (vCallA 2 0 [] [.pos 0, .pos 1] F__law_draw_ed7e (vCons (vVar 0) (vCons (vC (.int 3)) vNil)) vNil)))))))
theorem prices_loop {i j : Nat} {ns : List Int} (hij : j ≠ i) : ∀ (ds : List D) (ps : List (Int × Int)) (b : Int) (n : Nat) (st : AS), Fd i ns n st → n + 8 * ds.length < 100000000 → ps.length + ds.length ≤ 1000 → st[j]? = some (.lst (ps.map ePr)) → PrOk ps b →
    ∃ ps' b' st', forL (kName 3) prB [] ds [some (.ref i), some (.ref j), some (.int b), none, none] st = .nx [some (.ref i), some (.ref j), some (.int b'), none, none] st' ∧ st'[j]? = some (.lst (ps'.map ePr)) ∧ PrOk ps' b' ∧ ps'.length = ps.length + ds.length ∧ Fd i ns (n + 8 * ds.length) st' ∧ st'.length = st.length ∧ ∀ k, k ≠ i → k ≠ j → st'[k]? = st[k]?
  | [], ps, b, n, st, hf, _, _, hj, hp => ⟨ps, b, st, by simp [forL], hj, hp, rfl, hf, rfl, fun _ _ _ => rfl⟩
  | d :: ds, ps, b, n, st, hf, hn, hl, hj, hp => by
    simp only [List.length_cons] at hn hl
    obtain ⟨r1, s1, e1, p1, q1, d1⟩ := draw_ok (m := 100) hf (by omega) (by omega) (by omega)
    obtain ⟨r2, s2, e2, p2, q2, d2⟩ := draw_ok (m := 3) d1.fd (by omega) (by omega) (by omega)
    obtain ⟨r3, s3, e3, p3, q3, d3⟩ := draw_ok (m := 100001) d2.fd (by omega) (by omega) (by omega)
    obtain ⟨r4, s4, e4, p4, q4, d4⟩ := draw_ok (m := 5) d3.fd (by omega) (by omega) (by omega)
    have dd := ((d1.trans d2).trans d3).trans d4
    have hj4 : s4[j]? = some (.lst (ps.map ePr)) := (dd.at_ j hij).trans hj
    obtain ⟨x, ex, hx⟩ := atI_in (xs := [D.int 0, D.int 1, D.int r1, D.int (100000 - r2), D.int r3]) p4 (by simp; omega)
    obtain ⟨v, rfl, v0, v1⟩ : ∃ v, x = .int v ∧ 0 ≤ v ∧ v ≤ 100000 := by
      simp only [List.mem_cons, List.not_mem_nil, or_false] at hx
      rcases hx with rfl | rfl | rfl | rfl | rfl <;> exact ⟨_, rfl, by omega, by omega⟩
    have hj3 : s3[j]? = some (.lst (ps.map ePr)) := (((d1.trans d2).trans d3).at_ j hij).trans hj
    have hjl : j < s4.length := (List.getElem?_eq_some_iff.mp hj4).1
    have f5 : Fd i ns _ (s4.set j (.lst (ps.map ePr ++ [.tup [.int b, .int v]]))) := dd.fd.put _ hij
    obtain ⟨r5, s5, e5, p5, q5, d5⟩ := draw_ok (m := 90) f5 (by omega) (by omega) (by omega)
    obtain ⟨r6, s6, e6, p6, q6, d6⟩ := draw_ok (m := 30000) d5.fd (by omega) (by omega) (by omega)
    obtain ⟨r7, s7, e7, p7, q7, d7⟩ := draw_ok (m := 3) d6.fd (by omega) (by omega) (by omega)
    have dd2 := (d5.trans d6).trans d7
    obtain ⟨y, ey, hy⟩ := atI_in (xs := [D.int 0, D.int r5, D.int r6]) p7 (by simp; omega)
    obtain ⟨u, rfl, u0, u1⟩ : ∃ v, y = .int v ∧ 0 ≤ v ∧ v ≤ 30000 := by
      simp only [List.mem_cons, List.not_mem_nil, or_false] at hy
      rcases hy with rfl | rfl | rfl <;> exact ⟨_, rfl, by omega, by omega⟩
    have hj7 : s7[j]? = some (.lst ((ps ++ [(b, v)]).map ePr)) := by
      rw [dd2.at_ j hij, List.getElem?_set_self hjl, List.map_append]
      rfl
    obtain ⟨ps', b', s8, e8, h1, h2, h3, h4, h5, h6⟩ := prices_loop hij ds (ps ++ [(b, v)]) (b + (1 + u)) _ s7 dd2.fd (by omega) (by rw [List.length_append]; show ps.length + 1 + _ ≤ _; omega) hj7 (hp.add v0 v1 u0 u1)
    refine ⟨ps', b', s8, ?_, h1, h2, by rw [List.length_append] at h3; simp only [List.length_cons, List.length_nil] at h3 ⊢; omega, h4.mono (by rw [List.length_cons]; omega), ?_, fun k hk hk2 => ?_⟩
    · have l5 : (5 : Nat) ≤ sizeLine := by rw [sizeLine_eq]; omega
      have l2 : (2 : Nat) ≤ sizeLine := by rw [sizeLine_eq]; omega
      have l3 : (3 : Nat) ≤ sizeLine := by rw [sizeLine_eq]; omega
      have lp : ps.length < sizeLine := by rw [sizeLine_eq]; omega
      rw [forL, if_pos gd_nilOk]
      simp -implicitDefEqProofs [e1, e2, e3, e4, ex, hj3, hj4, l5, l2, l3, lp, e5, e6, e7, ey]
      exact e8
    · rw [h5, dd2.len, List.length_set, dd.len]
    · rw [h6 k hk hk2, dd2.at_ k hk, List.getElem?_set_ne (Ne.symm hk2), dd.at_ k hk]
theorem pures_prs : ∀ ps : List (Int × Int), D.pures (ps.map ePr) = true
  | [] => by simp [D.pures]
  | p :: ps => by simp [D.pures, D.pure, ePr, pures_prs ps]
theorem f_prices {i : Nat} {ns : List Int} {n : Nat} {st : AS} (hf : Fd i ns n st) (hn : n < 10000000) : ∃ ps b st', F__law_prices_33c9 [.ref i] st = .ok (.tup (ps.map ePr)) st' ∧ PrOk ps b ∧ 1 ≤ ps.length ∧ ps.length ≤ 4 ∧ Dr i ns (n + 33) st st' := by
  have hi := hf.lt
  have hf0 := hf.push (.lst [])
  obtain ⟨r1, s1, e1, p1, q1, d1⟩ := draw_ok (m := 4) hf0 (by omega) (by omega) (by omega)
  obtain ⟨d4, l4, r4, _⟩ := rng1_ex (j := 1 + r1) (by omega) (by omega)
  have hij : st.length ≠ i := by omega
  have hj : s1[st.length]? = some (.lst (([] : List (Int × Int)).map ePr)) := by
    rw [d1.at_ _ hij]
    simp
  obtain ⟨ps, b, s2, e2, h1, h2, h3, h4, h5, h6⟩ := prices_loop hij d4 [] 0 _ s1 d1.fd (by omega) (by simp; omega) hj ⟨by omega, by simp, by simp, by simp, by simp, by simp⟩
  have hl2 : s2.length = st.length + 1 := by rw [h5, d1.len]; simp
  obtain ⟨s3, e3, d3⟩ := ret_drP (frz := 0) (st := st) (d := .tup (ps.map ePr)) (by rw [D.pure]; exact pures_prs ps) h4 hi (fun j hj hn => by
    rw [h6 j hn (by omega), d1.at_ j hn, List.getElem?_append_left hj]) (by omega)
  refine ⟨ps, b, s3, ?_, h2, by rw [h3]; simp; omega, by rw [h3]; simp; omega, d3.fd.mono (by omega), d3.len, d3.at_⟩
  have lp : ps.length ≤ sizeLine := by rw [h3, sizeLine_eq]; simp; omega
  simp only [prB] at e2
  simp -implicitDefEqProofs [F__law_prices_33c9, B__law_prices_33c9, mk, e1, r4, e2, h1, lp, e3]
end Kd

set_option Elab.async false
set_option linter.all false
set_option maxRecDepth 100000
set_option maxHeartbeats 2000000
/-! Menus that are drawn. -/
namespace Kd
open PySem PySem.Spec PyProof.Rows L2 TB VL G K02
noncomputable abbrev mwB : En → AS → Fl := (sKill [3] (sExpr (vML appD (vVar 2) (vCons (vCallA 2 0 [] [.pos 0, .pos 1] F__law_word_8a86 (vCons (vVar 0) (vCons (vVar 2) vNil)) vNil) vNil))))
theorem words_loop {i j : Nat} {ns : List Int} {m : Int} (hij : j ≠ i) : ∀ (ds : List D) (ws : List Str) (n : Nat) (st : AS), Fd i ns n st → n + 12 * ds.length < 1000000 → ws.length + ds.length ≤ 40 → st[j]? = some (.lst (ws.map D.str)) → (∀ x ∈ ws, wordS x = true) → ws.Nodup →
    ∃ (ws' : List Str) (st' : AS), forL (kName 3) mwB [] ds [some (.ref i), some (.int m), some (.ref j), none, none] st = .nx [some (.ref i), some (.int m), some (.ref j), none, none] st' ∧ st'[j]? = some (.lst (ws'.map D.str)) ∧ (∀ x ∈ ws', wordS x = true) ∧ ws'.Nodup ∧ ws'.length = ws.length + ds.length ∧ Fd i ns (n + 12 * ds.length) st' ∧ st'.length = st.length ∧ ∀ k, k ≠ i → k ≠ j → st'[k]? = st[k]?
  | [], ws, n, st, hf, _, _, hj, hw, hn => ⟨ws, st, by simp [forL], hj, hw, hn, rfl, hf, rfl, fun _ _ _ => rfl⟩
  | d :: ds, ws, n, st, hf, hn, hl, hj, hw, hnd => by
    simp only [List.length_cons] at hn hl
    obtain ⟨x, s1, e1, wx, nx, d1⟩ := f_word hf (by omega) (.inr ⟨j, rfl, hij, hj⟩) hw (by omega)
    have hj1 : s1[j]? = some (.lst (ws.map D.str)) := (d1.at_ j hij).trans hj
    have hjl : j < s1.length := (List.getElem?_eq_some_iff.mp hj1).1
    have hj2 : (s1.set j (.lst (ws.map D.str ++ [.str x])))[j]? = some (.lst ((ws ++ [x]).map D.str)) := by
      rw [List.getElem?_set_self hjl, List.map_append]
      rfl
    obtain ⟨ws', s2, e2, h1, h2, h3, h4, h5, h6, h7⟩ := words_loop (m := m) hij ds (ws ++ [x]) _ _ (d1.fd.put (.lst (ws.map D.str ++ [.str x])) hij) (by omega) (by rw [List.length_append]; show ws.length + 1 + _ ≤ _; omega) hj2 (fun y hy => (List.mem_append.mp hy).elim (hw y) fun z => by rw [List.mem_singleton.mp z]; exact wx)
      (List.nodup_append.mpr ⟨hnd, List.nodup_cons.mpr ⟨by simp, List.nodup_nil⟩, fun a ha b hb => by
        rw [List.mem_singleton.mp hb]
        exact fun z => nx (z ▸ ha)⟩)
    refine ⟨ws', s2, ?_, h1, h2, h3, by rw [List.length_append] at h4; simp only [List.length_cons, List.length_nil] at h4 ⊢; omega, h5.mono (by rw [List.length_cons]; omega), by rw [h6, List.length_set, d1.len], fun k hk hk2 => by rw [h7 k hk hk2, List.getElem?_set_ne (Ne.symm hk2), d1.at_ k hk]⟩
    have lw : ws.length < sizeLine := by rw [sizeLine_eq]; omega
    rw [forL, if_pos gd_nilOk]
    simp -implicitDefEqProofs [e1, hj, hj1, lw]
    exact e2
structure RowOk (r : Str × Int × List (Int × Int)) : Prop where
  w : wordS r.1 = true
  m0 : 0 ≤ r.2.1
  m1 : r.2.1 ≤ 60
  p : ∃ b, PrOk r.2.2 b
  l0 : 1 ≤ r.2.2.length
  l1 : r.2.2.length ≤ 4
structure MOk (m : Menu) : Prop where
  row : ∀ r ∈ m, RowOk r
  ris : ris (m.map (·.1)) = true
noncomputable abbrev mrB : En → AS → Out D := (vA gTup (vCons (vVar 4) (vCons (vCallA 2 0 [] [.pos 0, .pos 1] F__law_draw_ed7e (vCons (vVar 0) (vCons (vC (.int 61)) vNil)) vNil) (vCons (vCallA 1 0 [] [.pos 0] F__law_prices_33c9 (vCons (vVar 0) vNil) vNil) vNil))))
theorem rows_comp {i j : Nat} {ns : List Int} {m : Int} : ∀ (ws : List Str) (n : Nat) (st : AS), Fd i ns n st → n + 34 * ws.length < 1000000 → (∀ x ∈ ws, wordS x = true) →
    ∃ (ms : Menu) (st' : AS), compL (kName 4) tYesV mrB [some (.ref i), some (.int m), some (.ref j), none, none] [] (ws.map D.str) st = .ok (ms.map eRow) st' ∧ ms.map (·.1) = ws ∧ (∀ r ∈ ms, RowOk r) ∧ Dr i ns (n + 34 * ws.length) st st'
  | [], n, st, hf, _, _ => ⟨[], st, by simp [compL], rfl, by simp, Dr.refl hf⟩
  | w :: ws, n, st, hf, hn, hw => by
    simp only [List.length_cons] at hn
    obtain ⟨r1, s1, e1, p1, q1, d1⟩ := draw_ok (m := 61) hf (by omega) (by omega) (by omega)
    obtain ⟨ps, b, s2, e2, hp, l0, l1, d2⟩ := f_prices d1.fd (by omega)
    obtain ⟨ms, s3, e3, h1, h2, d3⟩ := rows_comp (j := j) (m := m) ws _ s2 d2.fd (by omega) fun x hx => hw x (List.mem_cons_of_mem _ hx)
    refine ⟨(w, r1, ps) :: ms, s3, ?_, by simp [h1], fun r hr => ?_, ?_⟩
    · have l3 : (3 : Nat) ≤ sizeLine := by rw [sizeLine_eq]; omega
      rw [List.map_cons, compL, if_pos gd_nilOk]
      simp -implicitDefEqProofs [e1, e2, l3]
      simp only [mrB] at e3
      simp [e3, eRow]
    · rcases List.mem_cons.mp hr with rfl | hr
      · exact ⟨hw w List.mem_cons_self, p1, by show r1 ≤ 60; omega, ⟨b, hp⟩, l0, l1⟩
      · exact h2 r hr
    · have := (d1.trans d2).trans d3
      exact ⟨this.fd.mono (by rw [List.length_cons]; omega), this.len, this.at_⟩
theorem pures_rows : ∀ ms : Menu, D.pures (ms.map eRow) = true
  | [] => by simp [D.pures]
  | p :: ps => by simp [D.pures, D.pure, eRow, pures_prs, pures_rows ps]
theorem sort_ris {ws : List Str} (nd : ws.Nodup) : ris (sortS ws) = true := by
  apply pw_ris
  have pw := sortS_pw ws
  have nd2 : (sortS ws).Nodup := (sortS_perm ws).nodup_iff.mpr nd
  exact (pw.and nd2).imp fun ⟨a, b⟩ => le_ne a b
theorem f_menu {i : Nat} {ns : List Int} {n : Nat} {st : AS} {k : Int} (hf : Fd i ns n st) (hn : n < 900000) (k0 : 1 ≤ k) (k1 : k ≤ 12) :
    ∃ (m : Menu) (st' : AS), F__law_menu_3a71 [.ref i, .int k] st = .ok (eMenu m) st' ∧ m.length = k.toNat ∧ MOk m ∧ Dr i ns (n + 600) st st' := by
  have hi := hf.lt
  have hf0 := hf.push (.lst [])
  obtain ⟨d4, l4, r4, _⟩ := rng1_ex (j := k) (by omega) (by omega)
  have hij : st.length ≠ i := by omega
  have hj : (st ++ [C.lst []])[st.length]? = some (.lst (([] : List Str).map D.str)) := by simp
  obtain ⟨ws, s2, e2, h1, h2, h3, h4, h5, h6, h7⟩ := words_loop (m := k) hij d4 [] _ _ hf0 (by omega) (by simp; omega) hj (by simp) List.nodup_nil
  simp only [List.length_nil, Nat.zero_add] at h4
  have hperm := sortS_perm ws
  have hlen : (sortS ws).length = ws.length := hperm.length_eq
  obtain ⟨ms, s3, e3, g1, g2, d3⟩ := rows_comp (j := st.length) (m := k) (sortS ws) _ s2 h5 (by omega) fun x hx => h2 x (hperm.mem_iff.mp hx)
  have hl2 : s2.length = st.length + 1 := by rw [h6]; simp
  obtain ⟨s4, e4, d4'⟩ := ret_drP (frz := 0) (st := st) (d := eMenu ms) (by rw [eMenu, D.pure]; exact pures_rows ms) d3.fd hi (fun j hj hn => by
    rw [d3.at_ j hn, h7 j hn (by omega), List.getElem?_append_left hj]) (by rw [d3.len]; omega)
  have ml : ms.length = ws.length := by rw [← hlen, ← g1, List.length_map]
  refine ⟨ms, s4, ?_, by omega, ⟨g2, by rw [g1]; exact sort_ris h3⟩, d4'.fd.mono (by omega), d4'.len, d4'.at_⟩
  have lw : ws.length ≤ sizeLine := by rw [sizeLine_eq]; omega
  have lws : (sortS ws).length ≤ sizeLine := by rw [hlen]; exact lw
  have lm : ms.length ≤ sizeLine := by rw [sizeLine_eq]; omega
  simp only [mwB] at e2
  simp only [mrB] at e3
  have io : ws ≠ [] → intsOf (ws.map D.str) = none := fun z => by
    cases ws with
    | nil => exact absurd rfl z
    | cons x r => rfl
  have ne : ws ≠ [] := by
    intro z
    rw [z] at h4
    simp at h4
    omega
  have l1000 : ws.length < 64 := by omega
  simp only [eMenu] at e4 ⊢
  simp -implicitDefEqProofs [F__law_menu_3a71, B__law_menu_3a71, mk, r4, e2, h1, io ne, lw, l1000, e3, lm, lws, e4]
end Kd

set_option Elab.async false
set_option linter.all false
set_option maxRecDepth 100000
set_option maxHeartbeats 2000000
/-! OFFS that are drawn. -/
namespace Kd
open PySem PySem.Spec PyProof.Rows L2 TB VL G K02
noncomputable abbrev itT : En → AS → Out Bool := (vB (v2 (eqD false) (vCallA 2 0 [] [.pos 0, .pos 1] F__law_draw_ed7e (vCons (vVar 0) (vCons (vC (.int 2)) vNil)) vNil) (vC (.int 0))))
theorem its_comp {i j : Nat} {ns : List Int} {M x3 : D} : ∀ (m : Menu) (n : Nat) (st : AS), Fd i ns n st → n + m.length < 100000000 →
    ∃ (its : List Str) (st' : AS), compL (kName 8) itT (v2 ixD (vVar 8) (vC (.int 0))) [some (.ref i), some M, some (.ref j), some x3, none, none, none, none, none] [] (m.map eRow) st = .ok (its.map D.str) st' ∧ its.Sublist (m.map (·.1)) ∧ Dr i ns (n + m.length) st st'
  | [], n, st, hf, _ => ⟨[], st, by simp [compL], by simp, Dr.refl hf⟩
  | r :: m, n, st, hf, hn => by
    simp only [List.length_cons] at hn
    obtain ⟨r1, s1, e1, p1, q1, d1⟩ := draw_ok (m := 2) hf (by omega) (by omega) (by omega)
    obtain ⟨its, s2, e2, h1, d2⟩ := its_comp (j := j) (M := M) (x3 := x3) m _ s1 d1.fd (by omega)
    have dd := d1.trans d2
    simp only [itT, vB] at e2
    by_cases c : r1 = 0
    · subst c
      refine ⟨r.1 :: its, s2, ?_, h1.cons_cons _, ⟨dd.fd.mono (by rw [List.length_cons]; omega), dd.len, dd.at_⟩⟩
      rw [List.map_cons, compL, if_pos gd_nilOk]
      simp -implicitDefEqProofs [e1, e2, eRow]
    · refine ⟨its, s2, ?_, h1.cons _, ⟨dd.fd.mono (by rw [List.length_cons]; omega), dd.len, dd.at_⟩⟩
      rw [List.map_cons, compL, if_pos gd_nilOk]
      simp -implicitDefEqProofs [e1, e2, c]
theorem wds_comp {i j c : Nat} {M x3 : D} (m : Menu) (st : AS) : compL (kName 8) tYesV (v2 ixD (vVar 8) (vC (.int 0))) [some (.ref i), some M, some (.ref j), some x3, some (.ref c), none, none, none, none] [] (m.map eRow) st = .ok ((m.map (·.1)).map D.str) st := by
  rw [comp_all eRow (fun r => .str r.1) ok_nil m ?c, map_str]
  case c =>
    intro r _
    exact ⟨_, rfl, rfl, by simp [eRow]⟩
structure OffOk (o : List Str × Int × Int × Int) : Prop where
  w : ∀ x ∈ o.1, wordS x = true
  ris : ris o.1 = true
  len : o.1.length ≤ 13
  a0 : 0 ≤ o.2.1
  a1 : o.2.1 ≤ 100000
  b0 : 0 ≤ o.2.2.1
  b1 : o.2.2.1 ≤ 200000
  c0 : 0 ≤ o.2.2.2
  c1 : o.2.2.2 ≤ 100
noncomputable abbrev ofB : En → AS → Fl := (sKill [3, 4, 5, 6, 7] (sSeq (sSet 4 (vLc true [8] (v1 itD (vVar 1)) (kName 8) itT (v2 ixD (vVar 8) (vC (.int 0)))))
    (sSeq (sIf (vB (v2 (eqD false) (vCallA 2 0 [] [.pos 0, .pos 1] F__law_draw_ed7e (vCons (vVar 0) (vCons (vC (.int 4)) vNil)) vNil) (vC (.int 0)))) (sExpr (vML appD (vVar 4) (vCons (vCallA 2 0 [] [.pos 0, .pos 1] F__law_word_8a86 (vCons (vVar 0) (vCons (vLc false [8] (v1 itD (vVar 1)) (kName 8) tYesV (v2 ixD (vVar 8) (vC (.int 0)))) vNil)) vNil) vNil))) sNext)
    (sSeq (sSet 5 (v2 ixD (vA gTup (vCons (vC (.int 0)) (vCons (vCallA 2 0 [] [.pos 0, .pos 1] F__law_draw_ed7e (vCons (vVar 0) (vCons (vC (.int 90)) vNil)) vNil) (vCons (vCallA 2 0 [] [.pos 0, .pos 1] F__law_draw_ed7e (vCons (vVar 0) (vCons (vC (.int 90000)) vNil)) vNil) vNil)))) (vCallA 2 0 [] [.pos 0, .pos 1] F__law_draw_ed7e (vCons (vVar 0) (vCons (vC (.int 3)) vNil)) vNil)))
    (sSeq (sSet 6 (v2 ixD (vA gTup (vCons (vVar 5) (vCons (v2 (addD false) (vVar 5) (vC (.int 1))) (vCons (v2 (addD false) (vVar 5) (vCallA 2 0 [] [.pos 0, .pos 1] F__law_draw_ed7e (vCons (vVar 0) (vCons (vC (.int 9000)) vNil)) vNil)) (vCons (vCallA 2 0 [] [.pos 0, .pos 1] F__law_draw_ed7e (vCons (vVar 0) (vCons (vC (.int 99999)) vNil)) vNil) vNil))))) (vCallA 2 0 [] [.pos 0, .pos 1] F__law_draw_ed7e (vCons (vVar 0) (vCons (vC (.int 4)) vNil)) vNil)))
    (sSeq (sSet 7 (v2 ixD (vA gTup (vCons (vC (.int 0)) (vCons (vC (.int 1)) (vCons (vC (.int 50)) (vCons (vC (.int 99)) (vCons (vC (.int 100)) (vCons (vCallA 2 0 [] [.pos 0, .pos 1] F__law_draw_ed7e (vCons (vVar 0) (vCons (vC (.int 101)) vNil)) vNil) vNil))))))) (vCallA 2 0 [] [.pos 0, .pos 1] F__law_draw_ed7e (vCons (vVar 0) (vCons (vC (.int 6)) vNil)) vNil)))
    (sExpr (vML appD (vVar 2) (vCons (vA gTup (vCons (vA (g1 tupD) (vCons (vA (g1 (sortD false)) (vCons (vVar 4) vNil)) vNil)) (vCons (vVar 5) (vCons (vVar 6) (vCons (vVar 7) vNil))))) vNil)))))))))
theorem ris_nodup {xs : List Str} (h : ris xs = true) : xs.Nodup := (ris_pw h).imp fun {a b} q e => by
  subst e
  rw [ltStr_irrefl] at q
  cases q
theorem sort_strs {c : Nat} {its : List Str} {st : AS} (h : st[c]? = some (.lst (its.map D.str))) (hl : its.length < 64) : sortD false (.ref c) st = .ok (.lst ((sortS its).map D.str)) st := by
  unfold sortD
  have e : VL.listOf st (.ref c) = some (its.map D.str) := by simp [h]
  rw [e]
  dsimp only
  cases its with
  | nil => simp [intsOf, sortI, sortS, mk]
  | cons x r =>
    have io : intsOf ((x :: r).map D.str) = none := rfl
    rw [io, strs_of]
    dsimp only
    rw [if_pos hl]
    rfl
theorem offs_loop {i j : Nat} {ns : List Int} {m : Menu} (hij : j ≠ i) (hm : MOk m) (hml : m.length ≤ 12) : ∀ (ds : List D) (os : Offs) (n : Nat) (st : AS), Fd i ns n st → n + 40 * ds.length < 1000000 → os.length + ds.length ≤ 40 → st[j]? = some (.lst (os.map eOff)) → (∀ o ∈ os, OffOk o) →
    ∃ (os' : Offs) (st' : AS), forL (kName 3) ofB [] ds [some (.ref i), some (eMenu m), some (.ref j), none, none, none, none, none, none] st = .nx [some (.ref i), some (eMenu m), some (.ref j), none, none, none, none, none, none] st' ∧ st'[j]? = some (.lst (os'.map eOff)) ∧ (∀ o ∈ os', OffOk o) ∧ os'.length = os.length + ds.length ∧ Fd i ns (n + 40 * ds.length) st' ∧ st.length ≤ st'.length ∧ ∀ k, k < st.length → k ≠ i → k ≠ j → st'[k]? = st[k]?
  | [], os, n, st, hf, _, _, hj, ho => ⟨os, st, by simp [forL], hj, ho, rfl, hf, Nat.le_refl _, fun _ _ _ _ => rfl⟩
  | d :: ds, os, n, st, hf, hn, hl, hj, ho => by
    simp only [List.length_cons] at hn hl
    have hi := hf.lt
    have hjl : j < st.length := (List.getElem?_eq_some_iff.mp hj).1
    obtain ⟨its, s1, e1, sub, d1⟩ := its_comp (j := j) (M := eMenu m) (x3 := d) m n st hf (by omega)
    have nm : (m.map (·.1)).length ≤ 12 := by rw [List.length_map]; exact hml
    have il : its.length ≤ 12 := Nat.le_trans sub.length_le nm
    have hww : ∀ x ∈ m.map (·.1), wordS x = true := fun x hx => by
      obtain ⟨r, hr, rfl⟩ := List.mem_map.mp hx
      exact (hm.row r hr).w
    have ind : its.Nodup := (ris_nodup hm.ris).sublist sub
    -- the list of items is a cell, behind all others
    have hc1 : (s1 ++ [C.lst (its.map D.str)])[st.length]? = some (.lst (its.map D.str)) := by
      rw [← d1.len]
      simp
    have f1 : Fd i ns _ (s1 ++ [C.lst (its.map D.str)]) := d1.fd.push _
    obtain ⟨r2, s2, e2, p2, q2, d2⟩ := draw_ok (m := 4) f1 (by omega) (by omega) (by omega)
    have cne : st.length ≠ i := by omega
    have hc2 : s2[st.length]? = some (.lst (its.map D.str)) := (d2.at_ _ cne).trans hc1
    have key : ∃ (jts : List Str) (s3 : AS), (sIf (vB (v2 (eqD false) (vCallA 2 0 [] [.pos 0, .pos 1] F__law_draw_ed7e (vCons (vVar 0) (vCons (vC (.int 4)) vNil)) vNil) (vC (.int 0)))) (sExpr (vML appD (vVar 4) (vCons (vCallA 2 0 [] [.pos 0, .pos 1] F__law_word_8a86 (vCons (vVar 0) (vCons (vLc false [8] (v1 itD (vVar 1)) (kName 8) tYesV (v2 ixD (vVar 8) (vC (.int 0)))) vNil)) vNil) vNil))) sNext) [some (.ref i), some (eMenu m), some (.ref j), some d, some (.ref st.length), none, none, none, none] (s1 ++ [C.lst (its.map D.str)]) = .nx [some (.ref i), some (eMenu m), some (.ref j), some d, some (.ref st.length), none, none, none, none] s3 ∧ s3[st.length]? = some (.lst (jts.map D.str)) ∧ (∀ x ∈ jts, wordS x = true) ∧ jts.Nodup ∧ jts.length ≤ 13 ∧ Fd i ns (n + 25) s3 ∧ s3.length = st.length + 1 ∧ ∀ k, k < st.length → k ≠ i → s3[k]? = st[k]? := by
      have old : ∀ k, k < st.length → k ≠ i → s2[k]? = st[k]? := fun k hk hki => by
        rw [d2.at_ k hki, List.getElem?_append_left (by rw [d1.len]; exact hk), d1.at_ k hki]
      have len2 : s2.length = st.length + 1 := by rw [d2.len, List.length_append, d1.len]; rfl
      by_cases c : r2 = 0
      · subst c
        obtain ⟨x, s3, e3, wx, nx, d3⟩ := f_word (d := .lst ((m.map (·.1)).map D.str)) (xs := m.map (·.1)) d2.fd (by omega) (.inl rfl) hww (by omega)
        have hc3 : s3[st.length]? = some (.lst (its.map D.str)) := (d3.at_ _ cne).trans hc2
        have hl3 : st.length < s3.length := (List.getElem?_eq_some_iff.mp hc3).1
        refine ⟨its ++ [x], s3.set st.length (.lst (its.map D.str ++ [.str x])), ?_, by rw [List.getElem?_set_self hl3, List.map_append]; rfl, fun y hy => (List.mem_append.mp hy).elim (fun z => hww y (sub.subset z)) fun z => by rw [List.mem_singleton.mp z]; exact wx,
          List.nodup_append.mpr ⟨ind, List.nodup_cons.mpr ⟨by simp, List.nodup_nil⟩, fun a ha b hb => by
            rw [List.mem_singleton.mp hb]
            exact fun z => nx (z ▸ sub.subset ha)⟩, by rw [List.length_append]; show _ + 1 ≤ 13; omega, (d3.fd.put _ cne).mono (by omega), by rw [List.length_set, d3.len, len2], fun k hk hki => by rw [List.getElem?_set_ne (by omega), d3.at_ k hki, old k hk hki]⟩
        have li : its.length < sizeLine := by rw [sizeLine_eq]; omega
        have lm : m.length ≤ sizeLine := by rw [sizeLine_eq]; omega
        have wc := wds_comp (i := i) (j := j) (c := st.length) (M := eMenu m) (x3 := d) m s2
        have me : eMenu m = .tup (m.map eRow) := rfl
        rw [me] at wc ⊢
        simp -implicitDefEqProofs only [List.map_map] at wc e3 ⊢
        simp -implicitDefEqProofs [e2, wc, mk, lm, e3, hc2, hc3, li]
      · refine ⟨its, s2, ?_, hc2, fun x hx => hww x (sub.subset hx), ind, by omega, d2.fd.mono (by omega), len2, old⟩
        simp -implicitDefEqProofs [e2, c]
    obtain ⟨jts, s3, e3, hc3, jw, jnd, jl, f3, l3, old3⟩ := key
    obtain ⟨r4, s4, e4, p4, q4, d4⟩ := draw_ok (m := 90) f3 (by omega) (by omega) (by omega)
    obtain ⟨r5, s5, e5, p5, q5, d5⟩ := draw_ok (m := 90000) d4.fd (by omega) (by omega) (by omega)
    obtain ⟨r6, s6, e6, p6, q6, d6⟩ := draw_ok (m := 3) d5.fd (by omega) (by omega) (by omega)
    obtain ⟨y, ey, hy⟩ := atI_in (xs := [D.int 0, D.int r4, D.int r5]) p6 (by simp; omega)
    obtain ⟨lo, rfl, lo0, lo1⟩ : ∃ v, y = .int v ∧ 0 ≤ v ∧ v ≤ 90000 := by
      simp only [List.mem_cons, List.not_mem_nil, or_false] at hy
      rcases hy with rfl | rfl | rfl <;> exact ⟨_, rfl, by omega, by omega⟩
    obtain ⟨r7, s7, e7, p7, q7, d7⟩ := draw_ok (m := 9000) d6.fd (by omega) (by omega) (by omega)
    obtain ⟨r8, s8, e8, p8, q8, d8⟩ := draw_ok (m := 99999) d7.fd (by omega) (by omega) (by omega)
    obtain ⟨r9, s9, e9, p9, q9, d9⟩ := draw_ok (m := 4) d8.fd (by omega) (by omega) (by omega)
    obtain ⟨z, ez, hz⟩ := atI_in (xs := [D.int lo, D.int (lo + 1), D.int (lo + r7), D.int r8]) p9 (by simp; omega)
    obtain ⟨hi', rfl, hi0, hi1⟩ : ∃ v, z = .int v ∧ 0 ≤ v ∧ v ≤ 200000 := by
      simp only [List.mem_cons, List.not_mem_nil, or_false] at hz
      rcases hz with rfl | rfl | rfl | rfl <;> exact ⟨_, rfl, by omega, by omega⟩
    obtain ⟨r10, s10, e10, p10, q10, d10⟩ := draw_ok (m := 101) d9.fd (by omega) (by omega) (by omega)
    obtain ⟨r11, s11, e11, p11, q11, d11⟩ := draw_ok (m := 6) d10.fd (by omega) (by omega) (by omega)
    obtain ⟨u, eu, hu⟩ := atI_in (xs := [D.int 0, D.int 1, D.int 50, D.int 99, D.int 100, D.int r10]) p11 (by simp; omega)
    obtain ⟨pc, rfl, pc0, pc1⟩ : ∃ v, u = .int v ∧ 0 ≤ v ∧ v ≤ 100 := by
      simp only [List.mem_cons, List.not_mem_nil, or_false] at hu
      rcases hu with rfl | rfl | rfl | rfl | rfl | rfl <;> exact ⟨_, rfl, by omega, by omega⟩
    have dd := ((((((d4.trans d5).trans d6).trans d7).trans d8).trans d9).trans d10).trans d11
    have hc11 : s11[st.length]? = some (.lst (jts.map D.str)) := (dd.at_ _ cne).trans hc3
    have hj11 : s11[j]? = some (.lst (os.map eOff)) := (dd.at_ _ hij).trans ((old3 j hjl hij).trans hj)
    have hjl11 : j < s11.length := (List.getElem?_eq_some_iff.mp hj11).1
    have srt := sort_strs hc11 (show jts.length < 64 by omega)
    have sl : (sortS jts).length = jts.length := (sortS_perm jts).length_eq
    have hj12 : (s11.set j (.lst (os.map eOff ++ [.tup [.tup ((sortS jts).map D.str), .int lo, .int hi', .int pc]])))[j]? = some (.lst ((os ++ [(sortS jts, lo, hi', pc)]).map eOff)) := by
      rw [List.getElem?_set_self hjl11, List.map_append]
      rfl
    have ol1 : os.length + 1 + ds.length ≤ 40 := by omega
    obtain ⟨os', s13, e13, h1, h2, h3, h4, h5, h6⟩ := offs_loop hij hm hml ds (os ++ [(sortS jts, lo, hi', pc)]) _ _ (dd.fd.put (.lst (os.map eOff ++ [.tup [.tup ((sortS jts).map D.str), .int lo, .int hi', .int pc]])) hij) (by omega) (by rw [List.length_append]; exact ol1) hj12 (fun o h => (List.mem_append.mp h).elim (ho o) fun w => by
      rw [List.mem_singleton.mp w]
      exact ⟨fun x hx => jw x ((sortS_perm jts).mem_iff.mp hx), sort_ris jnd, by show (sortS jts).length ≤ 13; omega, lo0, by show lo ≤ _; omega, hi0, hi1, pc0, pc1⟩)
    have ll : (s11.set j (.lst (os.map eOff ++ [.tup [.tup ((sortS jts).map D.str), .int lo, .int hi', .int pc]]))).length = st.length + 1 := by rw [List.length_set, dd.len, l3]
    refine ⟨os', s13, ?_, h1, h2, by rw [List.length_append] at h3; simp only [List.length_cons, List.length_nil] at h3 ⊢; omega, h4.mono (by rw [List.length_cons]; omega), by omega, fun k hk hk2 hk3 => by rw [h6 k (by omega) hk2 hk3, List.getElem?_set_ne (Ne.symm hk3), dd.at_ k hk2, old3 k hk hk2]⟩
    have lo' : os.length < sizeLine := by rw [sizeLine_eq]; omega
    have li : its.length ≤ sizeLine := by rw [sizeLine_eq]; omega
    have lm : m.length ≤ sizeLine := by rw [sizeLine_eq]; omega
    have lj : jts.length ≤ sizeLine := by rw [sizeLine_eq]; omega
    have lj2 : (sortS jts).length ≤ sizeLine := by rw [sl]; exact lj
    have z3 : (3 : Nat) ≤ sizeLine := by rw [sizeLine_eq]; omega
    have z4 : (4 : Nat) ≤ sizeLine := by rw [sizeLine_eq]; omega
    have z6 : (6 : Nat) ≤ sizeLine := by rw [sizeLine_eq]; omega
    have me : eMenu m = .tup (m.map eRow) := rfl
    have A : (sSet 4 (vLc true [8] (v1 itD (vVar 1)) (kName 8) itT (v2 ixD (vVar 8) (vC (.int 0))))) [some (.ref i), some (eMenu m), some (.ref j), some d, none, none, none, none, none] st = .nx [some (.ref i), some (eMenu m), some (.ref j), some d, some (.ref st.length), none, none, none, none] (s1 ++ [C.lst (its.map D.str)]) := by
      rw [me] at e1 ⊢
      simp only [itT, vB] at e1
      simp -implicitDefEqProofs [mk, e1, lm, d1.len]
    rw [forL, if_pos gd_nilOk]
    simp only [ofB, sKill, sSeq, kName, Out.fl_ok, List.set_cons_succ, List.set_cons_zero, A, Fl.seq_nx, e3]
    simp -implicitDefEqProofs [-sortD, e4, e5, e6, ey, e7, e8, e9, ez, e10, e11, eu, srt, hc11, hj11, z3, z4, z6, lj, lj2, lo', li]
    exact e13
end Kd

set_option Elab.async false
set_option linter.all false
set_option maxRecDepth 100000
set_option maxHeartbeats 2000000
/-! Things bent by one step. -/
namespace Kd
open PySem PySem.Spec PyProof.Rows L2 TB VL G K02
theorem f_offs {i : Nat} {ns : List Int} {n : Nat} {st : AS} {m : Menu} (hf : Fd i ns n st) (hn : n < 900000) (hm : MOk m) (hml : m.length ≤ 12) :
    ∃ (os : Offs) (st' : AS), F__law_offs_9cbf [.ref i, eMenu m] st = .ok (eOffs os) st' ∧ os.length ≤ 6 ∧ (∀ o ∈ os, OffOk o) ∧ Dr i ns (n + 300) st st' := by
  have hi := hf.lt
  have hf0 := hf.push (.lst [])
  obtain ⟨r1, s1, e1, p1, q1, d1⟩ := draw_ok (m := 7) hf0 (by omega) (by omega) (by omega)
  obtain ⟨d6, l6, r6, _⟩ := rng1_ex (j := r1) p1 (by omega)
  have hij : st.length ≠ i := by omega
  have hj : s1[st.length]? = some (.lst (([] : Offs).map eOff)) := by
    rw [d1.at_ _ hij]
    simp
  have ll : s1.length = st.length + 1 := by rw [d1.len]; simp
  obtain ⟨os, s2, e2, h1, h2, h3, h4, h5, h6⟩ := offs_loop hij hm hml d6 [] _ s1 d1.fd (by omega) (by simp; omega) hj (by simp)
  simp only [List.length_nil, Nat.zero_add] at h3
  have po : ∀ os : Offs, D.pures (os.map eOff) = true := by
    intro os
    induction os with
    | nil => simp [D.pures]
    | cons o r ih => simp [D.pures, D.pure, eOff, pures_strs, ih]
  obtain ⟨s3, e3, d3⟩ := ret_drP (frz := 0) (st := st) (d := eOffs os) (by rw [eOffs, D.pure]; exact po os) h4 hi (fun j hj hn => by
    rw [h6 j (by omega) hn (by omega), d1.at_ j hn, List.getElem?_append_left hj]) (by omega)
  refine ⟨os, s3, ?_, by omega, h2, d3.fd.mono (by omega), d3.len, d3.at_⟩
  have lp : os.length ≤ sizeLine := by rw [sizeLine_eq]; omega
  simp only [ofB, itT, vB] at e2
  simp only [eOffs] at e3 ⊢
  simp -implicitDefEqProofs [F__law_offs_9cbf, B__law_offs_9cbf, mk, e1, r6, e2, h1, lp, e3]
theorem word_at {x : Str} (h : wordS x = true) : Ats 0 (.str x) := by
  obtain ⟨cs, rfl, w⟩ := word_mk h
  have := w.n1
  simp only [Ats]
  refine ⟨fun c hc => ?_, by rw [mkS_len]; omega⟩
  rw [mkS_cps] at hc
  have := (w.lt c hc).2
  omega
theorem big690 {i : Int} {j : Nat} (h : i.natAbs < 2 ^ 64) : i.natAbs < 2 ^ (700 + j) := Nat.lt_of_lt_of_le h (Nat.pow_le_pow_right (by decide) (by omega))
theorem ok_int {m k j : Nat} {i : Int} (h : i.natAbs < 2 ^ (700 + j)) : Ok (m + 1) k j (.int i) := ⟨by simp [pln], by rw [D.py]; exact ⟨by simp [sz], by simp [PyData.depth], by simpa [Ats] using h⟩⟩
/-- a tuple, a list of things that are Ok -/
theorem szs_le {c : Nat} : ∀ {ds : List PyData}, (∀ d ∈ ds, sz d ≤ c) → szs ds ≤ ds.length * c
  | [], _ => by simp [szs]
  | d :: ds, h => by
    have h1 := h d List.mem_cons_self
    have h2 := szs_le fun x hx => h x (List.mem_cons_of_mem _ hx)
    simp only [szs, List.length_cons, Nat.add_mul]
    omega
theorem ok_tup {c k j : Nat} {ds : List D} (h : ∀ d ∈ ds, Ok c k j d) : Ok (ds.length * c + 1) (k + 1) j (.tup ds) := by
  refine ⟨by rw [pln, plns_eq, List.all_eq_true]; exact fun d hd => (h d hd).p, ?_⟩
  rw [D.py, pys_map]
  refine fit_tup (by
    have := szs_le (c := c) (ds := ds.map D.py) fun d hd => by
      obtain ⟨x, hx, rfl⟩ := List.mem_map.mp hd
      exact (h x hx).f.sz
    rwa [List.length_map] at this) fun d hd => ?_
  obtain ⟨x, hx, rfl⟩ := List.mem_map.mp hd
  exact ⟨(h x hx).f.dp, (h x hx).f.at_⟩
theorem ok_lst {c k j : Nat} {ds : List D} (h : ∀ d ∈ ds, Ok c k j d) : Ok (ds.length * c + 1) (k + 1) j (.lst ds) := by
  refine ⟨by rw [pln, plns_eq, List.all_eq_true]; exact fun d hd => (h d hd).p, ?_⟩
  rw [D.py, pys_map]
  refine fit_lst (by
    have := szs_le (c := c) (ds := ds.map D.py) fun d hd => by
      obtain ⟨x, hx, rfl⟩ := List.mem_map.mp hd
      exact (h x hx).f.sz
    rwa [List.length_map] at this) fun d hd => ?_
  obtain ⟨x, hx, rfl⟩ := List.mem_map.mp hd
  exact ⟨(h x hx).f.dp, (h x hx).f.at_⟩
theorem Ok.mono {m k j m' k' j' : Nat} {d : D} (h : Ok m k j d) (a : m ≤ m') (b : k ≤ k') (c : j ≤ j') : Ok m' k' j' d := ⟨h.p, h.f.mono a b c⟩
theorem ok_str {m k j : Nat} {x : Str} (h : Ats j (.str x)) : Ok (m + 1) k j (.str x) := ⟨by simp [pln], by rw [D.py]; exact ⟨by simp [sz], by simp [PyData.depth], h⟩⟩
theorem OffOk.ok {o : List Str × Int × Int × Int} (h : OffOk o) : Ok 18 2 0 (eOff o) := by
  obtain ⟨its, a, b, c⟩ := o
  have hl := h.len
  have h1 : Ok (its.length * 1 + 1) 1 0 (.tup (its.map D.str)) := by
    have := ok_tup (c := 1) (k := 0) (j := 0) (ds := its.map D.str) fun d hd => by
      obtain ⟨x, hx, rfl⟩ := List.mem_map.mp hd
      exact ok_str (m := 0) (word_at (h.w x hx))
    rwa [List.length_map] at this
  have i1 : Ok 1 1 0 (.int a) := ok_int (m := 0) (big690 (by have := h.a0; have := h.a1; simp only at *; omega))
  have i2 : Ok 1 1 0 (.int b) := ok_int (m := 0) (big690 (by have := h.b0; have := h.b1; simp only at *; omega))
  have i3 : Ok 1 1 0 (.int c) := ok_int (m := 0) (big690 (by have := h.c0; have := h.c1; simp only at *; omega))
  simp only at hl
  have hpl := h1.p
  rw [pln] at hpl
  refine ⟨by simp [eOff, pln, plns, hpl], ?_⟩
  rw [eOff, D.py, pys_map]
  refine fit_tup (m := 17) (k := 1) ?_ fun d hd => ?_
  · have z1 := h1.f.sz
    have z2 := i1.f.sz
    have z3 := i2.f.sz
    have z4 := i3.f.sz
    simp only [List.map_cons, List.map_nil, szs]
    omega
  · simp only [List.map_cons, List.map_nil, List.mem_cons, List.not_mem_nil, or_false] at hd
    rcases hd with rfl | rfl | rfl | rfl
    · exact ⟨h1.f.dp, h1.f.at_⟩
    · exact ⟨i1.f.dp, i1.f.at_⟩
    · exact ⟨i2.f.dp, i2.f.at_⟩
    · exact ⟨i3.f.dp, i3.f.at_⟩
theorem offs_ok {os : Offs} (hl : os.length ≤ 6) (h : ∀ o ∈ os, OffOk o) : Ok 109 3 0 (eOffs os) := by
  have := ok_tup (c := 18) (k := 2) (j := 0) (ds := os.map eOff) fun d hd => by
    obtain ⟨x, hx, rfl⟩ := List.mem_map.mp hd
    exact (h x hx).ok
  rw [List.length_map] at this
  exact this.mono (by omega) (by omega) (by omega)
theorem OffOk.off {o : List Str × Int × Int × Int} (h : OffOk o) : offD (eOff o) = true := by
  have h1 : (o.1.map D.str).all wordD = true := List.all_eq_true.mpr fun d hd => by
    obtain ⟨x, hx, rfl⟩ := List.mem_map.mp hd
    exact h.w x hx
  have a0 := h.a0
  have b0 := h.b0
  have c0 := h.c0
  have c1 := h.c1
  have hr := h.ris
  simp only [eOff, offD, risWD, h1, risS_map, hr, a0, b0, c0, c1, decide_true, Bool.and_true]
theorem offs_off {os : Offs} (h : ∀ o ∈ os, OffOk o) : offsD (eOffs os) = true := by
  simp only [eOffs, offsD, List.all_map, List.all_eq_true]
  exact fun o ho => (h o ho).off
end Kd

set_option Elab.async false
set_option linter.all false
set_option maxRecDepth 100000
set_option maxHeartbeats 2000000
/-! Things bent by one step. -/
namespace Kd
open PySem PySem.Spec PyProof.Rows L2 TB VL G K02
theorem lineT {n : Nat} (h : n ≤ 16000000) : (n ≤ sizeLine) = True := eq_true (line_ge h)
theorem lineLT {n : Nat} (h : n ≤ 16000000) : (n < sizeLine) = True := eq_true (line_gt h)
mutual
def chk : PyData → Bool
  | .int i => decide (i.natAbs < 2 ^ 700)
  | .str z => z.cps.toList.all (fun c => decide (c < 128)) && decide (z.length ≤ 20)
  | .tuple xs => chks xs
  | .list xs => chks xs
  | .dict _ => false
  | _ => true
def chks : List PyData → Bool
  | [] => true
  | x :: xs => chk x && chks xs
end
mutual
theorem chk_ats : ∀ d : PyData, chk d = true → Ats 0 d
  | .none, _ => by simp [Ats]
  | .bool _, _ => by simp [Ats]
  | .int i, h => by
    simp only [chk] at h
    simp only [Ats]
    exact of_decide_eq_true h
  | .str z, h => by
    simp only [chk, Bool.and_eq_true] at h
    simp only [Ats]
    exact ⟨fun c hc => of_decide_eq_true (List.all_eq_true.mp h.1 c hc), of_decide_eq_true h.2⟩
  | .tuple xs, h => by
    simp only [chk] at h
    simp only [Ats]
    exact chks_ats xs h
  | .list xs, h => by
    simp only [chk] at h
    simp only [Ats]
    exact chks_ats xs h
  | .dict _, h => by simp [chk] at h
theorem chks_ats : ∀ ds : List PyData, chks ds = true → AtsL 0 ds
  | [], _ => by simp [AtsL]
  | d :: ds, h => by
    simp only [chks, Bool.and_eq_true] at h
    simp only [AtsL]
    exact ⟨chk_ats d h.1, chks_ats ds h.2⟩
end
def okD (c k : Nat) (d : D) : Bool := pln d && (chk d.py && (decide (sz d.py ≤ c) && decide (PyData.depth d.py ≤ k)))
theorem okD_ok {c k : Nat} {d : D} (h : okD c k d = true) : Ok c k 0 d := by
  unfold okD at h
  simp only [Bool.and_eq_true] at h
  exact ⟨h.1, of_decide_eq_true h.2.2.1, of_decide_eq_true h.2.2.2, chk_ats _ h.2.1⟩
theorem eqv_tup_nil (ds : List D) : eqvD (.tup ds) (.tup []) = ds.isEmpty := by
  unfold eqvD
  rw [D.py, D.py]
  cases ds with
  | nil => simp [D.pys, PyData.eqv, PyData.eqvAll]
  | cons n r => simp [D.pys, PyData.eqv, PyData.eqvAll]
theorem fit_tnil : (D.tup []).fit = true := by
  unfold D.fit SeqAt.shaped
  simp [D.pure, D.pures, D.py, D.pys, PyData.canLay0, PyData.canLayAll0, PyData.depth, PyData.depthAll]
theorem tup_ne {m k j : Nat} {ds : List D} (n : Bool) (st : AS) (h : Ok m k j (.tup ds)) (hj : j ≤ 100) (hk : k ≤ 60) : eqD n (.tup ds) (.tup []) st = .ok (.bl (xor n ds.isEmpty)) st := by
  have h1 := h.fit hj hk
  simp [eqD, scalD, h1, fit_tnil, eqv_tup_nil]
/-- a tuple, by its parts' sizes together -/
theorem ok_tupS {m k j : Nat} {ds : List D} (hp : ∀ d ∈ ds, pln d = true ∧ PyData.depth d.py ≤ k ∧ Ats j d.py) (hs : szs (ds.map D.py) ≤ m) : Ok (m + 1) (k + 1) j (.tup ds) := by
  refine ⟨by rw [pln, plns_eq, List.all_eq_true]; exact fun d hd => (hp d hd).1, ?_⟩
  rw [D.py, pys_map]
  refine fit_tup hs fun d hd => ?_
  obtain ⟨x, hx, rfl⟩ := List.mem_map.mp hd
  exact (hp x hx).2
theorem ok_lstS {m k j : Nat} {ds : List D} (hp : ∀ d ∈ ds, pln d = true ∧ PyData.depth d.py ≤ k ∧ Ats j d.py) (hs : szs (ds.map D.py) ≤ m) : Ok (m + 1) (k + 1) j (.lst ds) := by
  refine ⟨by rw [pln, plns_eq, List.all_eq_true]; exact fun d hd => (hp d hd).1, ?_⟩
  rw [D.py, pys_map]
  refine fit_lst hs fun d hd => ?_
  obtain ⟨x, hx, rfl⟩ := List.mem_map.mp hd
  exact (hp x hx).2
theorem Ok.parts {m k j : Nat} {ds : List D} (h : Ok m k j (.tup ds)) : 1 + szs (ds.map D.py) ≤ m ∧ 1 ≤ k ∧ ∀ d ∈ ds, pln d = true ∧ PyData.depth d.py ≤ k - 1 ∧ Ats j d.py := by
  have hp := h.p
  rw [pln, plns_eq, List.all_eq_true] at hp
  have hf := h.f
  rw [D.py, pys_map] at hf
  have h1 := hf.sz
  rw [sz_tup] at h1
  have h2 := hf.dp
  rw [dep_tup] at h2
  have h3 := dep_all.mp (show PyData.depthAll (ds.map D.py) ≤ k - 1 by omega)
  have h4 := Ats.tup.mp hf.at_
  exact ⟨h1, by omega, fun d hd => ⟨hp d hd, h3 _ (List.mem_map_of_mem hd), h4 _ (List.mem_map_of_mem hd)⟩⟩
theorem szs_appD (a b : List D) : szs ((a ++ b).map D.py) = szs (a.map D.py) + szs (b.map D.py) := by rw [List.map_append, szs_app]
theorem szs_splitD {ds : List D} {n : Nat} {d : D} (h : ds[n]? = some d) : szs ((ds.take n).map D.py) + sz d.py + szs ((ds.drop (n + 1)).map D.py) = szs (ds.map D.py) := by
  have hl := (List.getElem?_eq_some_iff.mp h).1
  have e : ds = ds.take n ++ d :: ds.drop (n + 1) := by
    have := List.take_append_drop n ds
    rw [List.drop_eq_getElem_cons hl] at this
    rw [(List.getElem?_eq_some_iff.mp h).2] at this
    exact this.symm
  conv => rhs; rw [e]
  rw [List.map_append, szs_app, List.map_cons, szs]
  omega
theorem szs_takeD (ds : List D) (n : Nat) : szs ((ds.take n).map D.py) ≤ szs (ds.map D.py) := szs_sub ((List.take_sublist n ds).map _)
theorem szs_td (ds : List D) (n : Nat) : szs ((ds.take n).map D.py) + szs ((ds.drop n).map D.py) = szs (ds.map D.py) := by
  rw [← szs_appD, List.take_append_drop]
theorem cut_toN {α : Type} (xs : List α) {r : Int} (h : 0 ≤ r) : VL.cut xs none (some r) = xs.take r.toNat := cut_to xs r h
noncomputable abbrev bnR : En → AS → Fl := (sSeq (sSet 4 (vCallA 2 0 [] [.pos 0, .pos 1] F__law_draw_ed7e (vCons (vVar 0) (vCons (vC (.int 6)) vNil)) vNil))
          (sSeq (sIf (vAnd (v1 truD (vA isiD (vCons (vVar 1) (vCons (vC (.cv (.v (.ty "tuple")))) vNil)))) (vB (v2 ltD (vVar 4) (vC (.int 4))))) (sSeq (sSet 3 (vCallA 2 0 [] [.pos 0, .pos 1] F__law_draw_ed7e (vCons (vVar 0) (vCons (v2 (addD false) (vA (g1 lenD) (vCons (vVar 1) vNil)) (vC (.int 1))) vNil)) vNil))
          (sSeq (sIf (vB (v2 (eqD false) (vVar 4) (vC (.int 0)))) (sRet (v2 (addD false) (v2 (addD false) (vSl (slD false) (vVar 1) vNoPart (v1 asI (vVar 3))) (vA gTup (vCons (v2 ixD (vVar 2) (vCallA 2 0 [] [.pos 0, .pos 1] F__law_draw_ed7e (vCons (vVar 0) (vCons (vA (g1 lenD) (vCons (vVar 2) vNil)) vNil)) vNil)) vNil))) (vSl (slD false) (vVar 1) (v1 asI (vVar 3)) vNoPart))) sNext)
          (sRet (vIfE (vB (v2 (eqD false) (vVar 4) (vC (.int 1)))) (v2 (addD false) (vSl (slD false) (vVar 1) vNoPart (v1 asI (vVar 3))) (vSl (slD false) (vVar 1) (v1 asI (v2 (addD false) (vVar 3) (vC (.int 1)))) vNoPart)) (vIfE (vB (v2 (eqD false) (vVar 4) (vC (.int 2)))) (vA (g1 (lstD false)) (vCons (vVar 1) vNil)) (v2 (addD false) (vVar 1) (vSl (slD false) (vVar 1) vNoPart (v1 asI (vVar 3))))))))) sNext)
          (sSeq (sIf (vAnd (v1 truD (vA isiD (vCons (vVar 1) (vCons (vC (.cv (.v (.ty "int")))) vNil)))) (vB (v2 ltD (vVar 4) (vC (.int 4))))) (sRet (v2 ixD (vA gTup (vCons (v2 (addD false) (vVar 1) (vC (.int 1))) (vCons (v2 subD (vVar 1) (vC (.int 1))) (vCons (v1 negD (vVar 1)) (vCons (vA gTup (vCons (vVar 1) vNil)) vNil))))) (vVar 4))) sNext)
          (sSeq (sIf (vAnd (v1 truD (vA isiD (vCons (vVar 1) (vCons (vC (.cv (.v (.ty "str")))) vNil)))) (vB (v2 ltD (vVar 4) (vC (.int 3))))) (sRet (v2 ixD (vA gTup (vCons (v2 (addD false) (vVar 1) (vC (.str "a"))) (vCons (vSl (slD false) (vVar 1) (v1 asI (vC (.int 1))) vNoPart) (vCons (vA (gLst false) (vCons (vVar 1) vNil)) vNil)))) (vVar 4))) sNext)
          (sRet (v2 ixD (vVar 2) (vCallA 2 0 [] [.pos 0, .pos 1] F__law_draw_ed7e (vCons (vVar 0) (vCons (vA (g1 lenD) (vCons (vVar 2) vNil)) vNil)) vNil)))))))
noncomputable abbrev bnI (F : List D → AS → Out D) : En → AS → Fl := (sIf (vAnd (v1 truD (vA isiD (vCons (vVar 1) (vCons (vC (.cv (.v (.ty "tuple")))) vNil)))) (vAnd (vB (v2 (eqD true) (vVar 1) (vA gTup vNil))) (vB (v2 gtD (vCallA 2 0 [] [.pos 0, .pos 1] F__law_draw_ed7e (vCons (vVar 0) (vCons (vC (.int 4)) vNil)) vNil) (vC (.int 0)))))) (sSeq (sSet 3 (vCallA 2 0 [] [.pos 0, .pos 1] F__law_draw_ed7e (vCons (vVar 0) (vCons (vA (g1 lenD) (vCons (vVar 1) vNil)) vNil)) vNil))
    (sRet (v2 (addD false) (v2 (addD false) (vSl (slD false) (vVar 1) vNoPart (v1 asI (vVar 3))) (vA gTup (vCons (vCallA 3 0 [] [.pos 0, .pos 1, .pos 2] F (vCons (vVar 0) (vCons (v2 ixD (vVar 1) (vVar 3)) (vCons (vVar 2) vNil))) vNil) vNil))) (vSl (slD false) (vVar 1) (v1 asI (v2 (addD false) (vVar 3) (vC (.int 1)))) vNoPart)))) sNext)
theorem bend_eq (f i : Nat) (d o : D) (st : AS) : F__law_bend (f + 1) [.ref i, d, o] st = ((sSeq (bnI (F__law_bend f)) bnR) [some (.ref i), some d, some o, none, none] st).fin 0 st := rfl
theorem ats_near {j : Nat} {a b : Int} (h : Ats j (.int a)) (hb : b.natAbs ≤ a.natAbs + 1) : Ats (j + 1) (.int b) := by
  simp only [Ats] at h ⊢
  rw [show 700 + (j + 1) = 700 + j + 1 by omega, Nat.pow_succ]
  have : 0 < 2 ^ (700 + j) := Nat.pow_pos (by decide)
  omega
theorem f_bend {i : Nat} {ns : List Int} {O : List D} (hO : ∀ x ∈ O, Ok 5 2 0 x) (lO : O.length = 22) : ∀ (f m k j : Nat) (d : D) (n : Nat) (st : AS), k < f → k ≤ 40 → m ≤ 100000 → j ≤ 50 → Ok m k j d → Fd i ns n st → n + 4 * f < 100000000 →
    ∃ d' st', F__law_bend f [.ref i, d, .tup O] st = .ok d' st' ∧ Ok (2 * m + 30) (k + 3) (j + 1) d' ∧ Dr i ns (n + 4 * f) st st' := by
  intro f
  have z22 : (22 : Nat) ≤ sizeLine := by rw [sizeLine_eq]; omega
  have z4 : (4 : Nat) ≤ sizeLine := by rw [sizeLine_eq]; omega
  have z3 : (3 : Nat) ≤ sizeLine := by rw [sizeLine_eq]; omega
  have z1 : (1 : Nat) ≤ sizeLine := by rw [sizeLine_eq]; omega
  induction f with
  | zero => intro m k j d n st hk; omega
  | succ f ih =>
    intro m k j d n st hk hk2 hm hj hok hf hn
    -- one of the odd things
    have last : ∀ (n' : Nat) (s : AS), Dr i ns n' st s → n' + 1 ≤ n + 4 * (f + 1) → ∃ x r s', F__law_draw_ed7e [.ref i, .int 22] s = .ok (.int r) s' ∧ L2.atI O r = some x ∧ Ok 5 2 0 x ∧ Dr i ns (n + 4 * (f + 1)) st s' ∧ (∀ d, VL.ret 0 st d s' = .ok d s') := by
      intro n' s dr hn'
      obtain ⟨r, s', e, p, q, d'⟩ := draw_ok (m := 22) dr.fd (by omega) (by omega) (by omega)
      obtain ⟨x, ex, hx⟩ := atI_in (xs := O) p (by rw [lO]; omega)
      have dd := dr.trans d'
      exact ⟨x, r, s', e, ex, hO x hx, ⟨dd.fd.mono (by omega), dd.len, dd.at_⟩, fun d => ret_len dd.len⟩
    cases d with
    | tup ds =>
      obtain ⟨hs, hk1, hp⟩ := hok.parts
      have hlen := hok.len
      have gs : ∀ {x : Nat}, x ≤ 400000 → x ≤ sizeLine := fun {x} h => by rw [sizeLine_eq]; omega
      have lg1 : ∀ r : Nat, min r ds.length + 1 ≤ sizeLine := fun r => gs (by omega)
      have lg2 : ∀ r : Nat, min r ds.length + 1 + (ds.length - r) ≤ sizeLine := fun r => gs (by omega)
      have lg3 : ∀ r : Nat, min r ds.length + (ds.length - (r + 1)) ≤ sizeLine := fun r => gs (by omega)
      have lg4 : ∀ r : Nat, min r ds.length + (ds.length - r) ≤ sizeLine := fun r => gs (by omega)
      have lg5 : ∀ r : Nat, ds.length + min r ds.length ≤ sizeLine := fun r => gs (by omega)
      have lg6 : ∀ r s : Nat, min r ds.length + (ds.length - s) ≤ sizeLine := fun r s => gs (by omega)
      have lg7 : ∀ r s : Nat, min r ds.length + 1 + (ds.length - s) ≤ sizeLine := fun r s => gs (by omega)
      have ls : ds.length ≤ sizeLine := by rw [sizeLine_eq]; omega
      have ne : ∀ s, eqD true (.tup ds) (.tup []) s = .ok (.bl (!ds.isEmpty)) s := fun s => by rw [tup_ne true s hok (by omega) (by omega)]; simp
      -- behind the first draw
      have rest : ∀ (n' : Nat) (s1 : AS), Dr i ns n' st s1 → n' ≤ n + 1 → ∃ d' st', bnR [some (.ref i), some (.tup ds), some (.tup O), none, none] s1 = .rt d' st' ∧ Ok (2 * m + 30) (k + 3) (j + 1) d' ∧ Dr i ns (n + 4 * (f + 1)) st st' ∧ ∀ d, VL.ret 0 st d st' = .ok d st' := by
        intro n' s1 dr hn'
        obtain ⟨r2, s2, e2, p2, q2, d2⟩ := draw_ok (m := 6) dr.fd (by omega) (by omega) (by omega)
        by_cases w4 : r2 < 4
        · obtain ⟨r3, s3, e3, p3, q3, d3⟩ := draw_ok (m := (ds.length : Int) + 1) d2.fd (by omega) (by omega) (by omega)
          have dd := (dr.trans d2).trans d3
          have ct := cut_to ds r3 p3
          have cf := cut_from ds r3 p3
          have cf1 := cut_from ds (r3 + 1) (by omega)
          have std := szs_td ds r3.toNat
          have stk := szs_takeD ds r3.toNat
          have ltk : (ds.take r3.toNat).length ≤ ds.length := by rw [List.length_take]; omega
          have lts : (ds.take r3.toNat).length + ds.length ≤ sizeLine := by rw [sizeLine_eq]; omega
          by_cases w0 : r2 = 0
          · subst w0
            obtain ⟨x, r, s4, e4, ex, hx, d4, rt⟩ := last _ s3 dd (by omega)
            refine ⟨_, s4, by
              simp -implicitDefEqProofs [bnR, ls, z22, z1, z3, z4, lg1, lg2, lg3, lg4, lg5, lg6, lg7, e2, isT, e3, ct, cf, lO, e4, ex]
              rfl, ?_, d4, rt⟩
            have hxs := hx.f
            refine (ok_tupS (m := 2 * m + 29) (k := k + 2) (j := j + 1) (fun y hy => ?_) ?_)
            · have old : ∀ y ∈ ds, pln y = true ∧ PyData.depth y.py ≤ k + 2 ∧ Ats (j + 1) y.py := fun y hy => by
                obtain ⟨a, b, c⟩ := hp y hy
                exact ⟨a, by omega, Ats.mono (by omega) _ c⟩
              rcases List.mem_append.mp hy with hy | hy
              · exact old y (List.mem_of_mem_take hy)
              · rcases List.mem_cons.mp hy with rfl | hy
                · exact ⟨hx.p, by have := hxs.dp; omega, Ats.mono (by omega) _ hxs.at_⟩
                · exact old y (List.mem_of_mem_drop hy)
            · rw [szs_appD, List.map_cons, szs]
              have := hxs.sz
              omega
          · have dd4 : Dr i ns (n + 4 * (f + 1)) st s3 := ⟨dd.fd.mono (by omega), dd.len, dd.at_⟩
            have rt : ∀ d, VL.ret 0 st d s3 = .ok d s3 := fun d => ret_len dd.len
            have old : ∀ y ∈ ds, pln y = true ∧ PyData.depth y.py ≤ k + 2 ∧ Ats (j + 1) y.py := fun y hy => by
              obtain ⟨a, b, c⟩ := hp y hy
              exact ⟨a, by omega, Ats.mono (by omega) _ c⟩
            by_cases w1 : r2 = 1
            · subst w1
              refine ⟨_, s3, by
                simp -implicitDefEqProofs [bnR, ls, z22, z1, z3, z4, lg1, lg2, lg3, lg4, lg5, lg6, lg7, e2, isT, e3, ct, cf1]
                rfl, ?_, dd4, rt⟩
              refine (ok_tupS (m := 2 * m + 29) (k := k + 2) (j := j + 1) (fun y hy => ?_) ?_)
              · rcases List.mem_append.mp hy with hy | hy
                · exact old y (List.mem_of_mem_take hy)
                · exact old y (List.mem_of_mem_drop hy)
              · rw [szs_appD]
                have := szs_td ds (r3 + 1).toNat
                omega
            · by_cases w2 : r2 = 2
              · subst w2
                refine ⟨_, s3, by
                  simp -implicitDefEqProofs [bnR, ls, z22, z1, z3, z4, lg1, lg2, lg3, lg4, lg5, lg6, lg7, e2, isT, e3, mk]
                  rfl, ?_, dd4, rt⟩
                exact ok_lstS (m := 2 * m + 29) (k := k + 2) (j := j + 1) old (by omega)
              · refine ⟨_, s3, by
                  simp -implicitDefEqProofs [bnR, ls, z22, z1, z3, z4, lg1, lg2, lg3, lg4, lg5, lg6, lg7, e2, isT, e3, ct, w0, w1, w2, w4]
                  rfl, ?_, dd4, rt⟩
                refine (ok_tupS (m := 2 * m + 29) (k := k + 2) (j := j + 1) (fun y hy => ?_) ?_)
                · rcases List.mem_append.mp hy with hy | hy
                  · exact old y hy
                  · exact old y (List.mem_of_mem_take hy)
                · rw [szs_appD]
                  omega
        · obtain ⟨x, r, s4, e4, ex, hx, d4, rt⟩ := last _ s2 (dr.trans d2) (by omega)
          exact ⟨x, s4, by simp -implicitDefEqProofs [bnR, ls, z22, z1, z3, z4, lg1, lg2, lg3, lg4, lg5, lg6, lg7, e2, isT, w4, lO, e4, ex], hx.mono (by omega) (by omega) (by omega), d4, rt⟩
      have hne := ne st
      by_cases emp : ds.isEmpty = true
      · obtain ⟨d', st', e, h1, h2, rt⟩ := rest n st (Dr.refl hf) (by omega)
        refine ⟨d', st', ?_, h1, h2⟩
        have hI : bnI (F__law_bend f) [some (.ref i), some (.tup ds), some (.tup O), none, none] st = .nx [some (.ref i), some (.tup ds), some (.tup O), none, none] st := by
          simp -implicitDefEqProofs [bnI, isT, hne, emp]
        rw [bend_eq]
        simp only [sSeq, hI, Fl.seq_nx, e, Fl.fin_rt, rt]
      · have emp' : ds.isEmpty = false := Bool.eq_false_iff.mpr emp
        have hp0 : 0 < ds.length := by cases ds with | nil => simp at emp | cons _ _ => simp
        obtain ⟨r1, s1, e1, p1, q1, d1⟩ := draw_ok (m := 4) hf (by omega) (by omega) (by omega)
        by_cases w : 0 < r1
        · obtain ⟨r2, s2, e2, p2, q2, d2⟩ := draw_ok (m := (ds.length : Int)) d1.fd (by omega) (by omega) (by omega)
          have hr2 : r2.toNat < ds.length := by omega
          have ea : L2.atI ds r2 = some ds[r2.toNat] := by
            rw [atI_pos p2 q2]
            exact List.getElem?_eq_getElem hr2
          have eg : ds[r2.toNat]? = some ds[r2.toNat] := List.getElem?_eq_getElem hr2
          generalize ds[r2.toNat] = x at *
          obtain ⟨xa, xb, xc⟩ := hp x (List.mem_of_getElem? eg)
          have spl := szs_splitD eg
          obtain ⟨y, s3, e3, hy, d3⟩ := ih (sz x.py) (k - 1) j x _ s2 (by omega) (by omega) (by omega) hj ⟨xa, ⟨Nat.le_refl _, xb, xc⟩⟩ d2.fd (by omega)
          have dd := (d1.trans d2).trans d3
          have ct := cut_to ds r2 p2
          have cf1 := cut_from ds (r2 + 1) (by omega)
          have e1n : (r2 + 1).toNat = r2.toNat + 1 := by omega
          rw [e1n] at cf1
          refine ⟨.tup (ds.take r2.toNat ++ y :: ds.drop (r2.toNat + 1)), s3, ?_, ?_, ⟨dd.fd.mono (by omega), dd.len, dd.at_⟩⟩
          · have rt : ∀ d, VL.ret 0 st d s3 = .ok d s3 := fun d => ret_len dd.len
            have hI : bnI (F__law_bend f) [some (.ref i), some (.tup ds), some (.tup O), none, none] st = .rt (.tup (ds.take r2.toNat ++ y :: ds.drop (r2.toNat + 1))) s3 := by
              simp -implicitDefEqProofs [bnI, isT, hne, emp', e1, w, ls, e2, ea, e3, ct, cf1, z1, lg1, lg2, lg3, lg4, lg5, lg6, lg7]
            rw [bend_eq]
            simp only [sSeq, hI, Fl.seq_rt, Fl.fin_rt, rt]
          · have hyf := hy.f
            refine (ok_tupS (m := 2 * m + 29) (k := k + 2) (j := j + 1) (fun z hz => ?_) ?_)
            · have old : ∀ y ∈ ds, pln y = true ∧ PyData.depth y.py ≤ k + 2 ∧ Ats (j + 1) y.py := fun y hy => by
                obtain ⟨a, b, c⟩ := hp y hy
                exact ⟨a, by omega, Ats.mono (by omega) _ c⟩
              rcases List.mem_append.mp hz with hz | hz
              · exact old z (List.mem_of_mem_take hz)
              · rcases List.mem_cons.mp hz with rfl | hz
                · exact ⟨hy.p, by have := hyf.dp; omega, hyf.at_⟩
                · exact old z (List.mem_of_mem_drop hz)
            · rw [szs_appD, List.map_cons, szs]
              have := hyf.sz
              omega
        · have r0 : r1 = 0 := by omega
          subst r0
          obtain ⟨d', st', e, h1, h2, rt⟩ := rest _ s1 d1 (by omega)
          refine ⟨d', st', ?_, h1, h2⟩
          have hI : bnI (F__law_bend f) [some (.ref i), some (.tup ds), some (.tup O), none, none] st = .nx [some (.ref i), some (.tup ds), some (.tup O), none, none] s1 := by
            simp -implicitDefEqProofs [bnI, isT, hne, emp', e1]
          rw [bend_eq]
          simp only [sSeq, hI, Fl.seq_nx, e, Fl.fin_rt, rt]
    | int a =>
      have ha := hok.f.at_
      rw [D.py] at ha
      obtain ⟨r2, s2, e2, p2, q2, d2⟩ := draw_ok (m := 6) hf (by omega) (by omega) (by omega)
      have dd2 : Dr i ns (n + 4 * (f + 1)) st s2 := ⟨d2.fd.mono (by omega), d2.len, d2.at_⟩
      have rt : ∀ d, VL.ret 0 st d s2 = .ok d s2 := fun d => ret_len d2.len
      rw [bend_eq]
      by_cases w4 : r2 < 4
      · have w : r2 = 0 ∨ r2 = 1 ∨ r2 = 2 ∨ r2 = 3 := by omega
        have oi : ∀ b : Int, b.natAbs ≤ a.natAbs + 1 → Ok (2 * m + 30) (k + 3) (j + 1) (.int b) := fun b hb => ⟨by simp [pln], by rw [D.py]; exact ⟨by simp [sz], by simp [PyData.depth], ats_near ha hb⟩⟩
        have ot : Ok (2 * m + 30) (k + 3) (j + 1) (.tup [.int a]) := by
          have := ok_tup (c := 1) (k := 0) (j := j + 1) (ds := [.int a]) fun d hd => by
            rw [List.mem_singleton.mp hd]
            exact ⟨by simp [pln], by rw [D.py]; exact ⟨by simp [sz], by simp [PyData.depth], ats_near ha (by omega)⟩⟩
          exact this.mono (by simp) (by omega) (by omega)
        rcases w with rfl | rfl | rfl | rfl
        · exact ⟨.int (a + 1), s2, by simp -implicitDefEqProofs [bnI, bnR, isT, e2, z4, z1, rt], oi _ (by omega), dd2⟩
        · exact ⟨.int (a - 1), s2, by simp -implicitDefEqProofs [bnI, bnR, isT, e2, z4, z1, rt], oi _ (by omega), dd2⟩
        · exact ⟨.int (-a), s2, by simp -implicitDefEqProofs [bnI, bnR, isT, e2, z4, z1, rt], oi _ (by omega), dd2⟩
        · exact ⟨.tup [.int a], s2, by simp -implicitDefEqProofs [bnI, bnR, isT, e2, z4, z1, rt], ot, dd2⟩
      · obtain ⟨x, r, s4, e4, ex, hx, d4, rt⟩ := last _ s2 d2 (by omega)
        exact ⟨x, s4, by simp -implicitDefEqProofs [bnI, bnR, isT, e2, w4, lO, z22, e4, ex, rt], hx.mono (by omega) (by omega) (by omega), d4⟩
    | bl a =>
      obtain ⟨r2, s2, e2, p2, q2, d2⟩ := draw_ok (m := 6) hf (by omega) (by omega) (by omega)
      have dd2 : Dr i ns (n + 4 * (f + 1)) st s2 := ⟨d2.fd.mono (by omega), d2.len, d2.at_⟩
      have rt : ∀ d, VL.ret 0 st d s2 = .ok d s2 := fun d => ret_len d2.len
      rw [bend_eq]
      by_cases w4 : r2 < 4
      · have w : r2 = 0 ∨ r2 = 1 ∨ r2 = 2 ∨ r2 = 3 := by omega
        have oi : ∀ b : Int, b.natAbs ≤ 2 → Ok (2 * m + 30) (k + 3) (j + 1) (.int b) := fun b hb => (ok_int (m := 0) (k := 0) (j := 0) (big690 (by omega))).mono (by omega) (by omega) (by omega)
        have ot : Ok (2 * m + 30) (k + 3) (j + 1) (.tup [.bl a]) := by
          have := ok_tup (c := 1) (k := 0) (j := j + 1) (ds := [.bl a]) fun d hd => by
            rw [List.mem_singleton.mp hd]
            exact ⟨by simp [pln], by rw [D.py]; exact ⟨by simp [sz], by simp [PyData.depth], by simp [Ats]⟩⟩
          exact this.mono (by simp) (by omega) (by omega)
        have hb : (if a = true then (1 : Int) else 0).natAbs ≤ 1 := by cases a <;> simp
        generalize hc : (if a = true then (1 : Int) else 0) = c at hb
        rcases w with rfl | rfl | rfl | rfl
        · exact ⟨.int (c + 1), s2, by simp -implicitDefEqProofs [bnI, bnR, isT, e2, z4, z1, rt, hc], oi _ (by omega), dd2⟩
        · exact ⟨.int (c - 1), s2, by simp -implicitDefEqProofs [bnI, bnR, isT, e2, z4, z1, rt, hc], oi _ (by omega), dd2⟩
        · exact ⟨.int (-c), s2, by simp -implicitDefEqProofs [bnI, bnR, isT, e2, z4, z1, rt, hc], oi _ (by omega), dd2⟩
        · exact ⟨.tup [.bl a], s2, by simp -implicitDefEqProofs [bnI, bnR, isT, e2, z4, z1, rt, hc], ot, dd2⟩
      · obtain ⟨x, r, s4, e4, ex, hx, d4, rt⟩ := last _ s2 d2 (by omega)
        exact ⟨x, s4, by simp -implicitDefEqProofs [bnI, bnR, isT, e2, w4, lO, z22, e4, ex, rt], hx.mono (by omega) (by omega) (by omega), d4⟩
    | str x =>
      have ha := hok.f.at_
      rw [D.py] at ha
      obtain ⟨hasc, hlx⟩ := ats_str ha
      have ls : x.length ≤ sizeLine := by rw [sizeLine_eq]; omega
      have ls1 : x.length + Str.length (Str.ofString "a") ≤ sizeLine := by rw [sizeLine_eq]; show x.length + 1 ≤ _; omega
      obtain ⟨r2, s2, e2, p2, q2, d2⟩ := draw_ok (m := 6) hf (by omega) (by omega) (by omega)
      have dd2 : Dr i ns (n + 4 * (f + 1)) st s2 := ⟨d2.fd.mono (by omega), d2.len, d2.at_⟩
      have rt : ∀ d, VL.ret 0 st d s2 = .ok d s2 := fun d => ret_len d2.len
      rw [bend_eq]
      by_cases w3 : r2 < 3
      · have w : r2 = 0 ∨ r2 = 1 ∨ r2 = 2 := by omega
        have os : ∀ y : Str, asc y → y.length ≤ 20 + (j + 1) → Ok (2 * m + 30) (k + 3) (j + 1) (.str y) := fun y h1 h2 => (ok_str (m := 0) (k := 0) (by simp only [Ats]; exact ⟨h1, h2⟩)).mono (by omega) (by omega) (by omega)
        have ot : Ok (2 * m + 30) (k + 3) (j + 1) (.lst [.str x]) := by
          have := ok_lst (c := 1) (k := 0) (j := j + 1) (ds := [.str x]) fun d hd => by
            rw [List.mem_singleton.mp hd]
            exact ok_str (m := 0) (by simp only [Ats]; exact ⟨hasc, by omega⟩)
          exact this.mono (by simp) (by omega) (by omega)
        have aa : asc (Str.ofString "a") := by
          intro c hc
          rw [ofs_a, mkS_cps] at hc
          have : c = 97 := List.mem_singleton.mp hc
          omega
        rcases w with rfl | rfl | rfl
        · exact ⟨.str (x ++ Str.ofString "a"), s2, by simp -implicitDefEqProofs [bnI, bnR, isT, e2, z3, z1, ls, ls1, mk, rt], os _ (asc_app hasc aa) (by
            have : (x ++ Str.ofString "a").length = x.length + 1 := by
              show (x.cps ++ _).size = _
              rw [Array.size_append]
              rfl
            omega), dd2⟩
        · exact ⟨.str (cutS x (some 1) none), s2, by simp -implicitDefEqProofs [bnI, bnR, isT, e2, z3, z1, ls, ls1, mk, rt], os _ (asc_cut hasc _ _) (by have := cutS_len x (some 1) none; omega), dd2⟩
        · exact ⟨.lst [.str x], s2, by simp -implicitDefEqProofs [bnI, bnR, isT, e2, z3, z1, ls, ls1, mk, rt], ot, dd2⟩
      · obtain ⟨y, r, s4, e4, ex, hx, d4, rt⟩ := last _ s2 d2 (by omega)
        exact ⟨y, s4, by simp -implicitDefEqProofs [bnI, bnR, isT, e2, w3, lO, z22, e4, ex, rt], hx.mono (by omega) (by omega) (by omega), d4⟩
    | non =>
      obtain ⟨r2, s2, e2, p2, q2, d2⟩ := draw_ok (m := 6) hf (by omega) (by omega) (by omega)
      obtain ⟨y, r, s4, e4, ex, hx, d4, rt⟩ := last _ s2 d2 (by omega)
      rw [bend_eq]
      exact ⟨y, s4, by simp -implicitDefEqProofs [bnI, bnR, isT, e2, lO, z22, e4, ex, rt], hx.mono (by omega) (by omega) (by omega), d4⟩
    | lst ls =>
      obtain ⟨r2, s2, e2, p2, q2, d2⟩ := draw_ok (m := 6) hf (by omega) (by omega) (by omega)
      obtain ⟨y, r, s4, e4, ex, hx, d4, rt⟩ := last _ s2 d2 (by omega)
      rw [bend_eq]
      exact ⟨y, s4, by simp -implicitDefEqProofs [bnI, bnR, isT, e2, lO, z22, e4, ex, rt], hx.mono (by omega) (by omega) (by omega), d4⟩
    | ctp _ => have := hok.p; simp [pln] at this
    | fzl _ => have := hok.p; simp [pln] at this
    | ref _ => have := hok.p; simp [pln] at this
    | cv _ => have := hok.p; simp [pln] at this
end Kd

set_option Elab.async false
set_option linter.all false
set_option maxRecDepth 100000
set_option maxHeartbeats 2000000
/-! The odd things, those by hand. -/
namespace Kd
open PySem PySem.Spec PyProof.Rows L2 TB VL G K02
def great : Int := 10 ^ 199
def oddL : List D := [.non, .bl true, .bl false, .str "", .str "a", .str "A", .int 0, .int 1, .int 2, .int 4, .int (-1), .tup [], .lst [], .tup [.lst [.int 1], .str "a"], .tup [.str "a", .int 1], .tup [.str "a"], .int great, .str "abcdefgh", .str "abcdefghi", .str "a b", .tup [.int 0], .tup [.int 1, .int 1]]
theorem oddL_len : oddL.length = 22 := rfl
theorem oddL_ok : ∀ x ∈ oddL, Ok 5 2 0 x := fun x hx => okD_ok (List.all_eq_true.mp (show oddL.all (okD 5 2) = true by decide +kernel) x hx)
theorem pow64 : L2.CPow 10 64 := by decide +kernel
theorem pow7 : L2.CPow 10 7 := by decide +kernel
theorem mul1 : VL.MulOk (10 ^ 64) (10 ^ 64) := by decide +kernel
theorem mul2 : VL.MulOk (10 ^ 64 * 10 ^ 64) (10 ^ 64) := by decide +kernel
theorem mul3 : VL.MulOk (10 ^ 64 * 10 ^ 64 * 10 ^ 64) (10 ^ 7) := by decide +kernel
theorem great_eq : (10 : Int) ^ 64 * 10 ^ 64 * 10 ^ 64 * 10 ^ 7 = great := by decide +kernel
theorem v2_ok {g : D → D → AS → Out D} {fa fb : En → AS → Out D} {env : En} {st : AS} {a b : D} {r : Out D} (h1 : fa env st = .ok a st) (h2 : fb env st = .ok b st) (h3 : g a b st = r) : v2 g fa fb env st = r := by
  unfold v2
  rw [h1, Out.bind_ok, h2, Out.bind_ok, h3]
theorem mul_ii {a b : Int} (c : Bool) (st : AS) (h : VL.MulOk a b) : mulD c (.int a) (.int b) st = .ok (.int (a * b)) st := by simp [h]
theorem big_ok (env : En) (st : AS) : v2 (mulD false) (v2 (mulD false) (v2 (mulD false) (v2 powD (vC (.int 10)) (vC (.int 64))) (v2 powD (vC (.int 10)) (vC (.int 64)))) (v2 powD (vC (.int 10)) (vC (.int 64)))) (v2 powD (vC (.int 10)) (vC (.int 7))) env st = .ok (.int great) st := by
  have a : v2 powD (vC (.int 10)) (vC (.int 64)) env st = .ok (.int (10 ^ 64)) st := v2_ok rfl rfl (by show (if L2.CPow 10 64 then _ else Out.bad) = _; rw [if_pos pow64]; rfl)
  have b : v2 powD (vC (.int 10)) (vC (.int 7)) env st = .ok (.int (10 ^ 7)) st := v2_ok rfl rfl (by show (if L2.CPow 10 7 then _ else Out.bad) = _; rw [if_pos pow7]; rfl)
  have c1 : mulD false (.int (10 ^ 64)) (.int (10 ^ 64)) st = .ok (.int (10 ^ 64 * 10 ^ 64)) st := mul_ii _ _ mul1
  have c2 : mulD false (.int (10 ^ 64 * 10 ^ 64)) (.int (10 ^ 64)) st = .ok (.int (10 ^ 64 * 10 ^ 64 * 10 ^ 64)) st := mul_ii _ _ mul2
  have c3 : mulD false (.int (10 ^ 64 * 10 ^ 64 * 10 ^ 64)) (.int (10 ^ 7)) st = .ok (.int great) st := by rw [mul_ii _ _ mul3, great_eq]
  exact v2_ok (v2_ok (v2_ok a a c1) a c2) b c3
theorem f_odd (st : AS) : F__law_odd_2e17 [] st = .ok (.tup oddL) st := by
  have z16 : (16 : Nat) ≤ sizeLine := by rw [sizeLine_eq]; omega
  have z22 : (22 : Nat) ≤ sizeLine := by rw [sizeLine_eq]; omega
  have z6 : (6 : Nat) ≤ sizeLine := by rw [sizeLine_eq]; omega
  have z2 : (2 : Nat) ≤ sizeLine := by rw [sizeLine_eq]; omega
  have z1 : (1 : Nat) ≤ sizeLine := by rw [sizeLine_eq]; omega
  have bg := big_ok
  unfold F__law_odd_2e17 B__law_odd_2e17
  generalize (v2 (mulD false) (v2 (mulD false) (v2 (mulD false) (v2 powD (vC (.int 10)) (vC (.int 64))) (v2 powD (vC (.int 10)) (vC (.int 64)))) (v2 powD (vC (.int 10)) (vC (.int 64)))) (v2 powD (vC (.int 10)) (vC (.int 7)))) = bf at *
  simp -implicitDefEqProofs [bg, mk, z16, z22, z6, z2, z1, oddL]
end Kd

set_option Elab.async false
set_option linter.all false
set_option maxRecDepth 100000
set_option maxHeartbeats 4000000
/-! Those by hand. -/
namespace Kd
open PySem PySem.Spec PyProof.Rows L2 TB VL G K02
def gr60 : Int := 10 ^ 60
abbrev one : D := .tup [.tup [.str "a", .str "b"], .int 0, .int 9, .int 50]
abbrev fixA : List D := [.tup [], .tup [.tup [.tup [.str "a", .str "b"], .int 0, .int 9, .int 50]], .tup [.tup [.tup [.str "a", .str "b"], .int 0, .int 9, .int 50], .tup [.tup [.str "a", .str "b"], .int 0, .int 9, .int 50]], .lst [.tup [.tup [.str "a", .str "b"], .int 0, .int 9, .int 50]], .tup [.tup [.str "a", .str "b"], .int 0, .int 9, .int 50], .non, .int 0, .str "a", .tup [.tup []], .tup [.non], .tup [.tup [.tup [.str "a", .str "b"], .int 0, .int 9, .int 50], .lst [.tup [.str "a", .str "b"], .int 0, .int 9, .int 50]], .tup [.tup [.tup [.str "a"], .int 0, .int 9]], .tup [.tup [.tup [], .int 0, .int 0, .int 0]], .tup [.tup [.tup [.str "a"], .int 9, .int 0, .int 100]], .tup [.tup [.tup [.str "a"], .int 0, .int 9, .int 101]], .tup [.tup [.tup [.str "a"], .int 0, .int 9, .int (-1)]], .tup [.tup [.tup [.str "a"], .int (-1), .int 9, .int 1]], .tup [.tup [.tup [.str "a"], .int 0, .int (-1), .int 1]], .tup [.tup [.tup [.str "a"], .bl true, .int 9, .int 1]], .tup [.tup [.tup [.str "a"], .int 0, .int 9, .bl true]], .tup [.tup [.tup [.str "b", .str "a"], .int 0, .int 9, .int 1]], .tup [.tup [.tup [.str "a", .str "a"], .int 0, .int 9, .int 1]], .tup [.tup [.lst [.str "a"], .int 0, .int 9, .int 1]], .tup [.tup [.str "a", .int 0, .int 9, .int 1]], .tup [.tup [.tup [.str "a", .int 0], .int 0, .int 9, .int 1]], .tup [.tup [.tup [.str "a", .lst [.str "b"]], .int 0, .int 9, .int 1]], .tup [.tup [.tup [.str "", .str "a"], .int 0, .int 9, .int 1]], .tup [.tup [.tup [.str "A"], .int 0, .int 9, .int 1]], .tup [.tup [.tup [.str "a", .str "ab", .str "b"], .int 0, .int 9, .int 1]], .tup [.tup [.tup [.str "ab", .str "a"], .int 0, .int 9, .int 1]], .tup [.tup [.tup [.str "a"], .int 0, .int gr60, .int 1]], .tup [.tup [.tup [.str "a"], .non, .int 9, .int 1]], .tup [.tup [.tup [.str "a"], .int 0, .str "9", .int 1]], .tup [.tup [.tup [.str "a"], .lst [.int 0], .int 9, .int 1]], .tup [.tup [.tup [.str "abcdefghi"], .int 0, .int 9, .int 1]], .tup [.tup [.tup [.str "a"], .int 0, .int 9, .int 1, .int 0]], .tup [.tup [.tup [.str "a"], .int 0, .int 9, .int gr60]], .tup (List.replicate 40 one), .tup (List.replicate 40 one ++ [.non])]
abbrev fixL : List D := fixA ++ [.tup [.tup [.tup ((Str.ofString "abcdefghijklmnopqrstuvwxyz").cps.toList.map fun c => .str (Str.ofString "q" ++ ⟨#[c]⟩)), .int 5, .int 6, .int 7]]]
theorem pow60 : L2.CPow 10 60 := by decide +kernel
theorem gr_ok (env : En) (st : AS) : v2 powD (vC (.int 10)) (vC (.int 60)) env st = .ok (.int gr60) st := v2_ok rfl rfl (by show (if L2.CPow 10 60 then _ else Out.bad) = _; rw [if_pos pow60]; rfl)
theorem fix_ok : ∀ x ∈ fixL, Ok 1000 40 0 x := fun x hx => okD_ok (List.all_eq_true.mp (show fixL.all (okD 1000 40) = true by decide +kernel) x hx)
theorem q_comp (env : En) (st : AS) (h : ∃ a b c, env = [a, b, c, none]) : compL (kName 3) tYesV (v2 (addD false) (vC (.str "q")) (vVar 3)) env [] ((Str.ofString "abcdefghijklmnopqrstuvwxyz").cps.toList.map fun c => .str ⟨#[c]⟩) st = .ok ((Str.ofString "abcdefghijklmnopqrstuvwxyz").cps.toList.map fun c => .str (Str.ofString "q" ++ ⟨#[c]⟩)) st := by
  obtain ⟨a, b, c, rfl⟩ := h
  rw [comp_all (fun c => .str ⟨#[c]⟩) (fun c => .str (Str.ofString "q" ++ ⟨#[c]⟩)) ok_nil _ ?c]
  case c =>
    intro x _
    have l : Str.length (Str.ofString "q") + Str.length ⟨#[x]⟩ ≤ sizeLine := by rw [sizeLine_eq]; show 1 + 1 ≤ _; omega
    exact ⟨_, rfl, rfl, by simp [l]⟩
theorem ret_new {st : AS} {a b : C} : VL.ret 0 st (.ref (st.length + 1)) (st ++ [a, b]) = .ok (.ref (st.length + 1)) (st ++ [a, b]) := by
  have h1 : ¬ (st ++ [a, b]).length = st.length := by simp
  have h2 : ¬ ((frzD (st ++ [a, b]) st.length 0 (.ref (st.length + 1))).low st.length = true ∧ OkOver st (st ++ [a, b])) := fun z => by
    have w : (D.ref (st.length + 1)).low st.length = true := z.1
    unfold D.low at w
    have := of_decide_eq_true w
    omega
  unfold VL.ret
  rw [if_neg h1, if_neg h2]
theorem f_fixed (st : AS) : F__law_fixed_a7f8 [] st = .ok (.ref (st.length + 1)) (st ++ [.lst fixA, .lst fixL]) := by
  have bg := gr_ok
  have hget : ∀ x : C, (st ++ [x])[st.length]? = some x := fun x => by simp
  have hset : ∀ x y : C, (st ++ [x]).set st.length y = st ++ [y] := fun x y => by simp
  have al := abc_len
  have lg : (Str.ofString "abcdefghijklmnopqrstuvwxyz").cps.toList.length = 26 := by decide +kernel
  have lg' : (Str.ofString "abcdefghijklmnopqrstuvwxyz").cps.size = 26 := by decide +kernel
  unfold F__law_fixed_a7f8 B__law_fixed_a7f8
  generalize (v2 powD (vC (.int 10)) (vC (.int 60))) = bf at *
  have qc := fun env st h => q_comp env st h
  simp -implicitDefEqProofs [bg, mk, hget, hset, sizeLine_eq, al, q_comp, lg, lg']
  exact ret_new
end Kd

set_option Elab.async false
set_option linter.all false
set_option maxRecDepth 100000
set_option maxHeartbeats 4000000
set_option exponentiation.threshold 2000
namespace Kd
open PySem PySem.Spec PyProof.Rows L2 TB VL

theorem sh_700 {i : Int} (h : i.natAbs < 2 ^ 703) : Sh 0 250 (.int i) := by
  have s := sh_big (i := i) (Nat.lt_of_lt_of_le h (Nat.pow_le_pow_right (show 0 < 2 by decide) (show 703 ≤ 1900 by decide)))
  refine ⟨s.sh, s.nd, s.dp, ?_⟩
  simp only [PyData.shown]
  have := PySem.int_text_length_le10 (a := i) (k := 212) (by decide) (Nat.lt_of_lt_of_le h (by decide +kernel))
  rw [PySem.ofString_length]
  omega
mutual
theorem ats8 {j : Nat} (hj : j ≤ 3) : ∀ d : PyData, Ats j d → d.showable = true ∧ d.hasDict = false ∧ d.shown.length + 10 ≤ 300 * sz d ∧ PyData.canLay0 d = true
  | .none, _ => by
    refine ⟨rfl, rfl, ?_, rfl⟩
    simp only [sz]
    decide
  | .bool b, _ => by
    refine ⟨rfl, rfl, ?_, rfl⟩
    simp only [sz]
    cases b <;> decide
  | .int i, a => by
    simp only [Ats] at a
    have s := sh_700 (Nat.lt_of_lt_of_le a (Nat.pow_le_pow_right (show 0 < 2 by decide) (show 700 + j ≤ 703 by omega)))
    refine ⟨s.sh, s.nd, ?_, rfl⟩
    have := s.ln
    simp only [sz]
    omega
  | .str z, a => by
    simp only [Ats] at a
    have s := sh_txt a.1
    refine ⟨s.sh, s.nd, ?_, ?_⟩
    · have := s.ln
      simp only [sz]
      omega
    · show PyData.strOk z = true
      unfold PyData.strOk
      simp only [Array.all_eq_true, Bool.and_eq_true]
      first
        | (intro i hi
           have := a.1 z.cps[i] (by simp)
           simp
           omega)
        | (have h := a.1
           simp
           omega)
  | .tuple xs, a => by
    simp only [Ats] at a
    obtain ⟨p, q, r, s, t⟩ := ats8s hj xs a
    refine ⟨by simp only [PyData.showable, p], by simp only [PyData.hasDict, q], ?_, by simp only [PyData.canLay0, t]⟩
    simp only [PyData.shown, sz]
    have := tupleText_len_le (PyData.shownAll xs)
    rw [s] at this
    omega
  | .list xs, a => by
    simp only [Ats] at a
    obtain ⟨p, q, r, s, t⟩ := ats8s hj xs a
    refine ⟨by simp only [PyData.showable, p], by simp only [PyData.hasDict, q], ?_, by simp only [PyData.canLay0, t]⟩
    simp only [PyData.shown, sz]
    have := listText_len_le (PyData.shownAll xs)
    rw [s] at this
    omega
  | .dict _, a => by simp [Ats] at a
theorem ats8s {j : Nat} (hj : j ≤ 3) : ∀ ds : List PyData, AtsL j ds → PyData.showableAll ds = true ∧ PyData.hasDictAll ds = false ∧ ((PyData.shownAll ds).map (·.length)).sum + 10 * ds.length ≤ 300 * szs ds ∧ (PyData.shownAll ds).length = ds.length ∧ PyData.canLayAll0 ds = true
  | [], _ => by simp [PyData.showableAll, PyData.hasDictAll, PyData.shownAll, szs, PyData.canLayAll0]
  | d :: ds, a => by
    simp only [AtsL] at a
    obtain ⟨p, q, r, s⟩ := ats8 hj d a.1
    obtain ⟨p', q', r', s', t'⟩ := ats8s hj ds a.2
    refine ⟨by simp only [PyData.showableAll, p, p', Bool.and_self], by simp only [PyData.hasDictAll, q, q', Bool.or_self], ?_, by simp only [PyData.shownAll, List.length_cons, s'], by simp only [PyData.canLayAll0, s, t', Bool.and_self]⟩
    simp only [PyData.shownAll, List.map_cons, List.sum_cons, szs, List.length_cons]
    omega
end
theorem fit_sh {m k j : Nat} {d : PyData} (h : Fit m k j d) (hj : j ≤ 3) : Sh k (300 * m) d := by
  obtain ⟨a, b, c, _⟩ := ats8 hj d h.at_
  have := h.sz
  exact ⟨a, b, h.dp, by omega⟩
end Kd

set_option Elab.async false
set_option linter.all false
set_option maxRecDepth 100000
set_option maxHeartbeats 4000000
/-! Things near OFFS. -/
namespace Kd
open PySem PySem.Spec PyProof.Rows L2 TB VL G K02
theorem f_same (b : Bool) (st : AS) : F__law_same [.bl b, .bl b] st = .ok (.bl true) st := by
  cases b <;> simp [F__law_same, B__law_same]
noncomputable abbrev neB : En → AS → Fl := (sKill [10] (sExpr (vML appD (vVar 9) (vCons (v2 (addD false) (v2 (addD false) (vSl (slD false) (vVar 1) vNoPart (v1 asI (vVar 2))) (vA gTup (vCons (vVar 10) vNil))) (vSl (slD false) (vVar 1) (v1 asI (v2 (addD false) (vVar 2) (vC (.int 1)))) vNoPart)) vNil))))
theorem near_loop {i : Nat} {x3 x4 x5 x6 x7 : D} {c f : Nat} {R os : List D} {r : Int} (h0 : 0 ≤ r) (h1 : r < os.length) (hl : os.length ≤ 6) (hcf : c ≠ f) : ∀ (ds acc : List D) (st : AS), acc.length + ds.length ≤ 100 → st[c]? = some (.lst R) → st[f]? = some (.lst acc) →
    forL (kName 10) neB [(c, .lst R)] ds [some (.ref i), some (.tup os), some (.int r), some x3, some x4, some x5, some x6, some x7, some (.ref c), some (.ref f), none] st = .nx [some (.ref i), some (.tup os), some (.int r), some x3, some x4, some x5, some x6, some x7, some (.ref c), some (.ref f), none] (st.set f (.lst (acc ++ ds.map fun own => .tup (os.take r.toNat ++ own :: os.drop (r.toNat + 1)))))
  | [], acc, st, _, hc, hf => by
    have e : st.set f (.lst (acc ++ ([] : List D).map fun own => .tup (os.take r.toNat ++ own :: os.drop (r.toNat + 1)))) = st := by
      rw [List.map_nil, List.append_nil]
      obtain ⟨hl, e⟩ := List.getElem?_eq_some_iff.mp hf
      rw [← e]
      exact List.set_getElem_self hl
    rw [forL, if_pos (ok_one hc), e]
  | d :: ds, acc, st, hn, hc, hf => by
    simp only [List.length_cons] at hn
    have fl : f < st.length := (List.getElem?_eq_some_iff.mp hf).1
    have ct := cut_to os r h0
    have cf1 := cut_from os (r + 1) (by omega)
    have e1n : (r + 1).toNat = r.toNat + 1 := by omega
    rw [e1n] at cf1
    have gs : ∀ {x : Nat}, x ≤ 400000 → x ≤ sizeLine := fun {x} h => by rw [sizeLine_eq]; omega
    have z1 : (1 : Nat) ≤ sizeLine := gs (by omega)
    have k1 : min r.toNat os.length + 1 ≤ sizeLine := gs (by omega)
    have k2 : min r.toNat os.length + 1 + (os.length - (r.toNat + 1)) ≤ sizeLine := gs (by omega)
    have k3 : acc.length < sizeLine := by rw [sizeLine_eq]; omega
    have ih := near_loop (i := i) (x3 := x3) (x4 := x4) (x5 := x5) (x6 := x6) (x7 := x7) (R := R) h0 h1 hl hcf ds (acc ++ [.tup (os.take r.toNat ++ d :: os.drop (r.toNat + 1))]) (st.set f (.lst (acc ++ [.tup (os.take r.toNat ++ d :: os.drop (r.toNat + 1))]))) (by rw [List.length_append]; show acc.length + 1 + _ ≤ _; omega) ((List.getElem?_set_ne (Ne.symm hcf)).trans hc) (List.getElem?_set_self fl)
    rw [List.set_set, List.append_assoc] at ih
    rw [forL, if_pos (ok_one hc), List.map_cons, ← List.singleton_append (l := ds.map _), ← ih]
    simp -implicitDefEqProofs [ct, cf1, hf, z1, k1, k2, k3]
theorem own_ok {X : D} {a b c : Int} (hX : Ok 30 1 0 X) (ha : a.natAbs < 2 ^ 64) (hb : b.natAbs < 2 ^ 64) (hc : c.natAbs < 2 ^ 64) : Ok 40 2 0 (.tup [X, .int a, .int b, .int c]) := by
  have i1 : Ok 1 1 0 (.int a) := ok_int (m := 0) (big690 ha)
  have i2 : Ok 1 1 0 (.int b) := ok_int (m := 0) (big690 hb)
  have i3 : Ok 1 1 0 (.int c) := ok_int (m := 0) (big690 hc)
  refine ok_tupS (m := 39) (k := 1) (fun d hd => ?_) ?_
  · simp only [List.mem_cons, List.not_mem_nil, or_false] at hd
    rcases hd with rfl | rfl | rfl | rfl
    · exact ⟨hX.p, hX.f.dp, hX.f.at_⟩
    · exact ⟨i1.p, i1.f.dp, i1.f.at_⟩
    · exact ⟨i2.p, i2.f.dp, i2.f.at_⟩
    · exact ⟨i3.p, i3.f.dp, i3.f.at_⟩
  · have z1 := hX.f.sz
    have z2 := i1.f.sz
    have z3 := i2.f.sz
    have z4 := i3.f.sz
    simp only [List.map_cons, List.map_nil, szs]
    omega
theorem szs_repl {ds : List D} {n c : Nat} {own : D} (h : szs (ds.map D.py) ≤ c) (ho : sz own.py ≤ 40) : szs ((ds.take n ++ own :: ds.drop (n + 1)).map D.py) ≤ c + 40 := by
  rw [szs_appD, List.map_cons, szs]
  have h1 := szs_td ds n
  have h2 : szs ((ds.drop (n + 1)).map D.py) ≤ szs ((ds.drop n).map D.py) := by
    rw [← List.drop_drop]
    exact szs_sub ((List.drop_sublist 1 _).map _)
  omega
theorem f_near {i : Nat} {ns : List Int} {n : Nat} {st : AS} {os : Offs} (hf : Fd i ns n st) (hn : n < 800000) (hl : os.length ≤ 6) (h0 : 0 < os.length) (ho : ∀ o ∈ os, OffOk o) :
    ∃ (xs : List D) (st' : AS), F__law_near_5481 [.ref i, eOffs os] st = .ok (.lst xs) st' ∧ (∀ x ∈ xs, Ok 600 9 2 x) ∧ xs.length ≤ 15 ∧ Dr i ns (n + 200) st st' := by
  have hi := hf.lt
  have ok0 := offs_ok hl ho
  obtain ⟨r, s1, e1, p1, q1, d1⟩ := draw_ok (m := (os.length : Int)) hf (by omega) (by omega) (by omega)
  obtain ⟨o, eo, hoin⟩ := atI_in (xs := os.map eOff) p1 (by simpa using q1)
  obtain ⟨⟨its, lo, hh, pc⟩, hoo, rfl⟩ := List.mem_map.mp hoin
  have oo := ho _ hoo
  obtain ⟨b1, s2, e2, hb1, d2⟩ := f_bend oddL_ok oddL_len 20 109 3 0 (eOffs os) _ s1 (by omega) (by omega) (by omega) (by omega) ok0 d1.fd (by omega)
  have f2 := d2.fd
  -- the cell of the rows
  obtain ⟨R, hR⟩ : ∃ R : List D, R = [.tup [.tup (its.map D.str).reverse, .int lo, .int hh, .int pc], .tup [.tup (its.map D.str ++ (its.map D.str).drop (its.length - 1)), .int lo, .int hh, .int pc], .tup [.tup (its.map D.str), .int lo, .int hh, .int 100],
    .tup [.tup (its.map D.str), .int lo, .int hh, .int 101], .tup [.tup (its.map D.str), .int lo, .int hh, .int (-1)], .tup [.tup (its.map D.str), .int (-1), .int hh, .int pc], .tup [.tup (its.map D.str), .int hh, .int lo, .int pc], .tup [.lst (its.map D.str), .int lo, .int hh, .int pc], .tup (its.map D.str)] := ⟨_, rfl⟩
  obtain ⟨b2, s4, e4, hb2, d4⟩ := f_bend oddL_ok oddL_len 20 248 6 1 b1 _ (s2 ++ [C.lst R]) (by omega) (by omega) (by omega) (by omega) (hb1.mono (by omega) (by omega) (by omega)) (f2.push _) (by omega)
  have l2 : s2.length = st.length := by rw [d2.len, d1.len]
  have l4 : s4.length = st.length + 1 := by rw [d4.len, List.length_append, l2]; rfl
  have cne : st.length ≠ i := by omega
  have fne : st.length + 1 ≠ i := by omega
  have hc4 : s4[st.length]? = some (.lst R) := by
    rw [d4.at_ _ cne, ← l2]
    simp
  obtain ⟨F0, hF0⟩ : ∃ F0 : List D, F0 = [eOffs os, .lst (os.map eOff), b1, b2, .tup (os.map eOff).reverse, .tup (os.map eOff ++ os.map eOff)] := ⟨_, rfl⟩
  have hc5 : (s4 ++ [C.lst F0])[st.length]? = some (.lst R) := by rw [List.getElem?_append_left (by omega)]; exact hc4
  have hf5 : (s4 ++ [C.lst F0])[st.length + 1]? = some (.lst F0) := by
    rw [← l4]
    simp
  have r9 : R.length = 9 := by rw [hR]; rfl
  have f6 : F0.length = 6 := by rw [hF0]; rfl
  have lp := near_loop (i := i) (x3 := .tup (its.map D.str)) (x4 := .int lo) (x5 := .int hh) (x6 := .int pc) (x7 := b1) (R := R) (os := os.map eOff) p1 (by rw [List.length_map]; exact q1) (by rw [List.length_map]; exact hl) (show st.length ≠ st.length + 1 by omega) R F0 (s4 ++ [C.lst F0]) (by omega) hc5 hf5
  generalize hxs : F0 ++ R.map (fun own => D.tup ((os.map eOff).take r.toNat ++ own :: (os.map eOff).drop (r.toNat + 1))) = xs at lp
  have w0 := oo.w
  have il := oo.len
  simp only at w0 il
  have okX : ∀ ys : List Str, (∀ y ∈ ys, y ∈ its) → ys.length ≤ 28 → Ok 30 1 0 (.tup (ys.map D.str)) ∧ Ok 30 1 0 (.lst (ys.map D.str)) := fun ys hy hl => by
    have h1 : ∀ d ∈ ys.map D.str, Ok 1 0 0 d := fun d hd => by
      obtain ⟨x, hx, rfl⟩ := List.mem_map.mp hd
      exact ok_str (m := 0) (word_at (w0 x (hy x hx)))
    have t1 := ok_tup h1
    have t2 := ok_lst h1
    rw [List.length_map] at t1 t2
    exact ⟨t1.mono (by omega) (by omega) (by omega), t2.mono (by omega) (by omega) (by omega)⟩
  have nlo : lo.natAbs < 2 ^ 64 := by have := oo.a0; have := oo.a1; simp only at *; omega
  have nhh : hh.natAbs < 2 ^ 64 := by have := oo.b0; have := oo.b1; simp only at *; omega
  have npc : pc.natAbs < 2 ^ 64 := by have := oo.c0; have := oo.c1; simp only at *; omega
  have okR : ∀ own ∈ R, Ok 40 2 0 own := fun own hown => by
    rw [hR] at hown
    have xi := okX its (fun y h => h) (by omega)
    have xr := okX its.reverse (fun y h => List.mem_reverse.mp h) (by rw [List.length_reverse]; omega)
    have xd := okX (its ++ its.drop (its.length - 1)) (fun y h => (List.mem_append.mp h).elim id fun z => List.mem_of_mem_drop z) (by rw [List.length_append, List.length_drop]; omega)
    rw [List.map_reverse] at xr
    rw [List.map_append, List.map_drop] at xd
    simp only [List.mem_cons, List.not_mem_nil, or_false] at hown
    rcases hown with rfl | rfl | rfl | rfl | rfl | rfl | rfl | rfl | rfl
    · exact own_ok xr.1 nlo nhh npc
    · exact own_ok xd.1 nlo nhh npc
    · exact own_ok xi.1 nlo nhh (by decide)
    · exact own_ok xi.1 nlo nhh (by decide)
    · exact own_ok xi.1 nlo nhh (by decide)
    · exact own_ok xi.1 (by decide) nhh npc
    · exact own_ok xi.1 nhh nlo npc
    · exact own_ok xi.2 nlo nhh npc
    · exact xi.1.mono (by omega) (by omega) (by omega)
  obtain ⟨os1, os2, os3⟩ := ok0.parts
  have okall : ∀ x ∈ xs, Ok 600 9 2 x := fun x hx => by
    rw [← hxs] at hx
    rcases List.mem_append.mp hx with hx | hx
    · rw [hF0] at hx
      have o3 : ∀ d ∈ os.map eOff, pln d = true ∧ PyData.depth d.py ≤ 8 ∧ Ats 2 d.py := fun d hd => by
        obtain ⟨a, b, c⟩ := os3 d hd
        exact ⟨a, by omega, Ats.mono (by omega) _ c⟩
      have s3 : szs ((os.map eOff).map D.py) ≤ 108 := by omega
      simp only [List.mem_cons, List.not_mem_nil, or_false] at hx
      rcases hx with rfl | rfl | rfl | rfl | rfl | rfl
      · exact ok0.mono (by omega) (by omega) (by omega)
      · exact ok_lstS (m := 599) (k := 8) o3 (by omega)
      · exact hb1.mono (by omega) (by omega) (by omega)
      · exact hb2.mono (by omega) (by omega) (by omega)
      · refine ok_tupS (m := 599) (k := 8) (fun d hd => o3 d (List.mem_reverse.mp hd)) ?_
        have : szs (((os.map eOff).reverse).map D.py) = szs ((os.map eOff).map D.py) := by
          rw [List.map_reverse]
          generalize (os.map eOff).map D.py = l
          induction l with
          | nil => rfl
          | cons a l ih => rw [List.reverse_cons, szs_app, ih]; simp only [szs]; omega
        omega
      · refine ok_tupS (m := 599) (k := 8) (fun d hd => (List.mem_append.mp hd).elim (o3 d) (o3 d)) ?_
        rw [szs_appD]
        omega
    · obtain ⟨own, hown, rfl⟩ := List.mem_map.mp hx
      have oo := okR own hown
      refine ok_tupS (m := 599) (k := 8) (fun d hd => ?_) ?_
      · rcases List.mem_append.mp hd with hd | hd
        · obtain ⟨a, b, c⟩ := os3 d (List.mem_of_mem_take hd)
          exact ⟨a, by omega, Ats.mono (by omega) _ c⟩
        · rcases List.mem_cons.mp hd with rfl | hd
          · exact ⟨oo.p, by have := oo.f.dp; omega, Ats.mono (by omega) _ oo.f.at_⟩
          · obtain ⟨a, b, c⟩ := os3 d (List.mem_of_mem_drop hd)
            exact ⟨a, by omega, Ats.mono (by omega) _ c⟩
      · have := szs_repl (n := r.toNat) (own := own) (show szs ((os.map eOff).map D.py) ≤ 108 by omega) oo.f.sz
        omega
  have pxs : D.pures xs = true := by
    rw [D.pures_eq, List.all_eq_true]
    exact fun x hx => pln_pure (okall x hx).p
  have lxs : xs.length ≤ 15 := by rw [← hxs, List.length_append, List.length_map]; omega
  have hf6 : Fd i ns _ ((s4 ++ [C.lst F0]).set (st.length + 1) (.lst xs)) := (d4.fd.push (.lst F0)).put _ fne
  have fl : st.length + 1 < (s4 ++ [C.lst F0]).length := by rw [List.length_append, l4]; show _ < _ + 1; omega
  obtain ⟨s7, e7, d7⟩ := ret_dr (frz := 4) (st := st) (st' := (s4 ++ [C.lst F0]).set (st.length + 1) (.lst xs)) (d := .ref (st.length + 1)) (d' := .lst xs) (frz_ref (by omega) (List.getElem?_set_self fl) pxs) (by rw [D.pure]; exact pxs) (fun z => by
    rw [List.length_set, List.length_append, l4] at z
    simp at z
    omega) hf6 hi (fun j hj hn => by
      rw [List.getElem?_set_ne (by omega), List.getElem?_append_left (by omega), d4.at_ j hn, List.getElem?_append_left (by omega), d2.at_ j hn, d1.at_ j hn]) (by rw [List.length_set, List.length_append, l4]; omega)
  refine ⟨xs, s7, ?_, okall, lxs, d7.fd.mono (by omega), d7.len, d7.at_⟩
  have od := f_odd
  have gs : ∀ {x : Nat}, x ≤ 400000 → x ≤ sizeLine := fun {x} h => by rw [sizeLine_eq]; omega
  have z3 : (3 : Nat) ≤ sizeLine := gs (by omega)
  have z4 : (4 : Nat) ≤ sizeLine := gs (by omega)
  have z6 : (6 : Nat) ≤ sizeLine := gs (by omega)
  have z2 : (2 : Nat) ≤ sizeLine := gs (by omega)
  have lo' : os.length ≤ sizeLine := gs (by omega)
  have lo2 : os.length + os.length ≤ sizeLine := gs (by omega)
  have li : its.length ≤ sizeLine := gs (by omega)
  have cb : VL.cut (its.map D.str) (some (-1)) none = (its.map D.str).drop (its.length - 1) := by
    have := cut_fromBack (its.map D.str) 1 (by omega)
    rw [List.length_map] at this
    exact this
  have lb : its.length + (its.length - (its.length - 1)) ≤ sizeLine := gs (by omega)
  simp only [neB] at lp
  simp only [eOffs] at e2 hF0 ⊢
  subst hR
  subst hF0
  have hset : ∀ x y : C, (s2 ++ [x]).set s2.length y = s2 ++ [y] := fun x y => by simp
  have hget : ∀ x : C, (s2 ++ [x])[s2.length]? = some x := fun x => by simp
  have hs2 : (s4 ++ [C.lst [D.tup (os.map eOff), .lst (os.map eOff), b1, b2, .tup (os.map eOff).reverse, .tup (os.map eOff ++ os.map eOff)]]).set (st.length + 1) (.lst xs) = s4 ++ [C.lst xs] := by
    rw [← l4]
    simp
  rw [hs2] at lp e7
  rw [← l2] at lp e7 hc5
  have z6' : (6 : Nat) < sizeLine := by rw [sizeLine_eq]; omega
  have z9 : (9 : Nat) ≤ sizeLine := gs (by omega)
  have z7 : (7 : Nat) ≤ sizeLine := gs (by omega)
  have l4' : s4.length = s2.length + 1 := by omega
  have eo' : L2.atI (os.map eOff) r = some (.tup [.tup (its.map D.str), .int lo, .int hh, .int pc]) := eo
  simp -implicitDefEqProofs [F__law_near_5481, B__law_near_5481, lo', e1, eo', od, e2, mk, z2, z3, z4, z6, z6', z7, z9, lo2, li, lb, cb, hset, hget, e4, l4', hc5, lp, e7]
end Kd

set_option Elab.async false
set_option linter.all false
set_option maxRecDepth 100000
set_option maxHeartbeats 4000000
namespace V03
open PySem PySem.Spec PyProof.Rows L2 TB VL G K02 Kd
theorem f_feed (ns : List Int) (h : ns.length ≤ 63) : F__law_feed_6a37 [.fzl (ns.map D.int)] [] = .ok (.ref 0) [feedC ns 0 0 0] := by
  have ct : VL.cut (ns.map D.int) none (some 63) = ns.map D.int := by
    rw [cut_to _ 63 (by decide)]
    exact List.take_of_length_le (by simpa using h)
  have z4 : (4 : Nat) ≤ sizeLine := by rw [sizeLine_eq]; omega
  have rt : VL.ret 0 [] (.ref 0) [feedC ns 0 0 0] = .ok (.ref 0) [feedC ns 0 0 0] := by
    unfold VL.ret
    rw [if_neg (by simp), if_neg (fun z => by
      have w : (D.ref 0).low 0 = true := z.1
      simp [D.low] at w)]
  simp -implicitDefEqProofs [F__law_feed_6a37, B__law_feed_6a37, mk, ct, z4]
  exact rt
theorem fix_szs : szs (fixL.map D.py) ≤ 2000 := by decide +kernel
/-- what stands on the way -/
structure Th (ns : List Int) (n c : Nat) (st : AS) (xs : List D) : Prop where
  fd : Fd 0 ns n st
  len : st.length = 3
  at_ : st[2]? = some (.lst xs)
  ok : ∀ x ∈ xs, Ok 1000 40 2 x
  sz : szs (xs.map D.py) ≤ c
noncomputable abbrev loB : En → AS → Fl := (sKill [3, 4] (sSeq (sSet 4 (vCallA 2 0 [] [.pos 0, .pos 1] F__law_offs_9cbf (vCons (vVar 1) (vCons (vCallA 2 0 [] [.pos 0, .pos 1] F__law_menu_3a71 (vCons (vVar 1) (vCons (v2 (addD false) (vC (.int 1)) (vCallA 2 0 [] [.pos 0, .pos 1] F__law_draw_ed7e (vCons (vVar 1) (vCons (vC (.int 6)) vNil)) vNil)) vNil)) vNil) vNil)) vNil))
    (sSeq (sIf (vB (v2 (isND true) (vCallA 1 0 [] [.pos 0] F_is_offs (vCons (vVar 4) vNil) vNil) (vC (.bl true)))) (sRet (vC (.bl false))) sNext)
    (sExpr (vML extD (vVar 2) (vCons (vIfE (vB (v2 (eqD true) (vVar 4) (vA gTup vNil))) (vCallA 2 0 [] [.pos 0, .pos 1] F__law_near_5481 (vCons (vVar 1) (vCons (vVar 4) vNil)) vNil) (vA (gLst false) (vCons (vVar 4) vNil))) vNil))))))
theorem loop {ns : List Int} {a : D} : ∀ (ds : List D) (n c : Nat) (st : AS) (xs : List D), n + 2000 * ds.length < 100000 → c + 10000 * ds.length ≤ 50000 → Th ns n c st xs →
    ∃ (st' : AS) (ys : List D), forL (kName 3) loB [] ds [some a, some (.ref 0), some (.ref 2), none, none, none, none] st = .nx [some a, some (.ref 0), some (.ref 2), none, none, none, none] st' ∧ Th ns (n + 2000 * ds.length) (c + 10000 * ds.length) st' ys
  | [], n, c, st, xs, _, _, h => ⟨st, xs, by simp [forL], h⟩
  | d :: ds, n, c, st, xs, hn, hc, h => by
    simp only [List.length_cons] at hn hc
    obtain ⟨r, s1, e1, p1, q1, d1⟩ := draw_ok (m := 6) h.fd (by omega) (by omega) (by omega)
    obtain ⟨m, s2, e2, ml, mo, d2⟩ := f_menu (k := 1 + r) d1.fd (by omega) (by omega) (by omega)
    obtain ⟨os, s3, e3, ol, oo, d3⟩ := f_offs d2.fd (by omega) mo (by omega)
    have ok0 := offs_ok ol oo
    have io := f_is_offs (eOffs os) s3 (ok0.sm (k := 0) (by omega) (by omega))
    rw [offs_off oo] at io
    have dd := (d1.trans d2).trans d3
    have at3 : s3[2]? = some (.lst xs) := (dd.at_ 2 (by decide)).trans h.at_
    have ne := tup_ne true s3 ok0 (by omega) (by omega)
    have xl : xs.length ≤ 50000 := by
      have := szs_len (xs.map D.py)
      rw [List.length_map] at this
      have := h.sz
      omega
    have key : ∃ (ys : List D) (s4 : AS), vML extD (vVar 2) (vCons (vIfE (vB (v2 (eqD true) (vVar 4) (vA gTup vNil))) (vCallA 2 0 [] [.pos 0, .pos 1] F__law_near_5481 (vCons (vVar 1) (vCons (vVar 4) vNil)) vNil) (vA (gLst false) (vCons (vVar 4) vNil))) vNil) [some a, some (.ref 0), some (.ref 2), some d, some (eOffs os), none, none] s3 = .ok .non s4 ∧ Th ns (n + 2000) (c + 10000) s4 ys := by
      have z1 : (1 : Nat) ≤ sizeLine := by rw [sizeLine_eq]; omega
      by_cases em : os = []
      · subst em
        refine ⟨xs ++ [eOffs []], s3.set 2 (.lst (xs ++ [eOffs []])), ?_, (dd.fd.put _ (by decide)).mono (by omega), by rw [List.length_set, dd.len, h.len], List.getElem?_set_self (by rw [dd.len, h.len]; decide), fun x hx => ?_, ?_⟩
        · have xl' : xs.length + 1 ≤ sizeLine := by rw [sizeLine_eq]; omega
          have ne' : eqD true (eOffs []) (.tup []) s3 = .ok (.bl false) s3 := by
            simp only [eOffs] at ne ⊢
            rw [ne]
            rfl
          simp -implicitDefEqProofs [ne', at3, z1, xl', mk]
        · rcases List.mem_append.mp hx with hx | hx
          · exact h.ok x hx
          · rw [List.mem_singleton.mp hx]
            exact ok0.mono (by omega) (by omega) (by omega)
        · rw [szs_appD]
          have := ok0.f.sz
          have := h.sz
          simp only [List.map_cons, List.map_nil, szs]
          omega
      · have hp : 0 < os.length := List.length_pos_iff.mpr em
        obtain ⟨ys, s4, e4, y1, y2, d4⟩ := f_near dd.fd (by omega) ol hp oo
        have at4 : s4[2]? = some (.lst xs) := (d4.at_ 2 (by decide)).trans at3
        refine ⟨xs ++ ys, s4.set 2 (.lst (xs ++ ys)), ?_, (d4.fd.put _ (by decide)).mono (by omega), by rw [List.length_set, d4.len, dd.len, h.len], List.getElem?_set_self (by rw [d4.len, dd.len, h.len]; decide), fun x hx => ?_, ?_⟩
        · have xl' : xs.length + ys.length ≤ sizeLine := by rw [sizeLine_eq]; omega
          have ne' : eqD true (eOffs os) (.tup []) s3 = .ok (.bl true) s3 := by
            simp only [eOffs] at ne ⊢
            rw [ne]
            cases os with
            | nil => exact absurd rfl em
            | cons _ _ => rfl
          simp -implicitDefEqProofs [ne', at3, at4, z1, xl', e4]
        · rcases List.mem_append.mp hx with hx | hx
          · exact h.ok x hx
          · exact (y1 x hx).mono (by omega) (by omega) (by omega)
        · rw [szs_appD]
          have := h.sz
          have := szs_le (c := 600) (ds := ys.map D.py) fun d hd => by
            obtain ⟨x, hx, rfl⟩ := List.mem_map.mp hd
            exact (y1 x hx).f.sz
          rw [List.length_map] at this
          have : ys.length * 600 ≤ 15 * 600 := Nat.mul_le_mul_right _ y2
          omega
    obtain ⟨ys, s4, e4, t4⟩ := key
    obtain ⟨st', zs, e5, t5⟩ := loop (a := a) ds _ _ s4 ys (by omega) (by omega) t4
    refine ⟨st', zs, ?_, by rw [List.length_cons, show n + 2000 * (ds.length + 1) = n + 2000 + 2000 * ds.length by omega, show c + 10000 * (ds.length + 1) = c + 10000 + 10000 * ds.length by omega]; exact t5⟩
    have A : (sSet 4 (vCallA 2 0 [] [.pos 0, .pos 1] F__law_offs_9cbf (vCons (vVar 1) (vCons (vCallA 2 0 [] [.pos 0, .pos 1] F__law_menu_3a71 (vCons (vVar 1) (vCons (v2 (addD false) (vC (.int 1)) (vCallA 2 0 [] [.pos 0, .pos 1] F__law_draw_ed7e (vCons (vVar 1) (vCons (vC (.int 6)) vNil)) vNil)) vNil)) vNil) vNil)) vNil)) [some a, some (.ref 0), some (.ref 2), some d, none, none, none] st = .nx [some a, some (.ref 0), some (.ref 2), some d, some (eOffs os), none, none] s3 := by
      simp -implicitDefEqProofs [e1, e2, e3]
    have B : (sIf (vB (v2 (isND true) (vCallA 1 0 [] [.pos 0] F_is_offs (vCons (vVar 4) vNil) vNil) (vC (.bl true)))) (sRet (vC (.bl false))) sNext) [some a, some (.ref 0), some (.ref 2), some d, some (eOffs os), none, none] s3 = .nx [some a, some (.ref 0), some (.ref 2), some d, some (eOffs os), none, none] s3 := by
      simp -implicitDefEqProofs [io]
    rw [forL, if_pos gd_nilOk]
    simp only [loB, sKill, sSeq, kName, Out.fl_ok, List.set_cons_succ, List.set_cons_zero, A, B, Fl.seq_nx, sExpr, e4]
    simp -implicitDefEqProofs
    exact e5
theorem law_true (ns : List Int) (h : ns.length ≤ 63) : ∃ st, F_law_89be [.fzl (ns.map D.int)] [] = .ok (.bl true) st := by
  have f1 := f_feed ns h
  have f2 := f_fixed [feedC ns 0 0 0]
  rw [show List.length [feedC ns 0 0 0] + 1 = 2 from rfl, List.singleton_append] at f2
  have t0 : Th ns 0 2000 (feedC ns 0 0 0 :: [C.lst fixA, C.lst fixL]) fixL := ⟨⟨0, 0, 0, rfl, by omega, by omega, by omega⟩, rfl, rfl, fun x hx => (fix_ok x hx).mono (by omega) (by omega) (by omega), fix_szs⟩
  generalize (feedC ns 0 0 0 :: [C.lst fixA, C.lst fixL]) = S0 at f2 t0
  obtain ⟨d4, l4, r4, _⟩ := rng1_ex (j := 4) (by omega) (by omega)
  have l4' : d4.length = 4 := l4
  obtain ⟨s1, xs, e1, t1⟩ := loop (a := .fzl (ns.map D.int)) d4 0 2000 _ fixL (by omega) (by omega) t0
  rw [l4'] at t1
  have hok : Ok 42001 41 2 (.lst xs) := ok_lstS (m := 42000) (k := 40) (fun d hd => ⟨(t1.ok d hd).p, (t1.ok d hd).f.dp, (t1.ok d hd).f.at_⟩) t1.sz
  have sh := fit_sh hok.f (by omega)
  have pu := pln_pure hok.p
  have hv : valD s1 (.ref 2) = .lst xs := by simp [t1.at_]
  have rp : reprD (.ref 2) s1 = .ok (.str (TB.txt (D.lst xs).py)) s1 := by
    unfold reprD
    rw [hv, if_pos ⟨pu, sh.sh, by have := sh.dp; omega, by have := sh.ln; rw [sizeLine_eq]; omega⟩]
  have lp : forL (kName 6) (sKill [6] (sIf (vNot (v1 truD (vCallA 2 0 [] [.pos 0, .pos 1] F__law_same (vCons (vCallA 1 0 [] [.pos 0] F_is_offs (vCons (vVar 6) vNil) vNil) (vCons (vCallA 1 0 [] [.pos 0] F__law_offed (vCons (vVar 6) vNil) vNil) vNil)) vNil))) (sRet (vC (.bl false))) sNext)) [(2, .lst xs)] xs [some (.fzl (ns.map D.int)), some (.ref 0), some (.ref 2), none, none, some (.str (TB.txt (D.lst xs).py)), none] s1 = .nx [some (.fzl (ns.map D.int)), some (.ref 0), some (.ref 2), none, none, some (.str (TB.txt (D.lst xs).py)), none] s1 := by
    rw [for_chk (fun _ => true) (ok_one t1.at_) xs ?c]
    · rw [if_pos (by simp)]
    case c =>
      intro x hx
      refine ⟨_, rfl, ?_⟩
      have o := t1.ok x hx
      have a1 := f_is_offs x s1 (o.sm (k := 37) (by omega) (by omega))
      have a2 := f_offed (k := 37) x s1 o (by omega) (by omega) (by omega)
      have a3 := f_same (offsD x) s1
      simp -implicitDefEqProofs [a1, a2, a3]
  obtain ⟨s2, e2, _⟩ := ret_pure (frz := 0) (st := []) (st' := s1) (d := .bl true) (i := 0) (by simp [D.pure]) ⟨by simp, fun j hj => by simp at hj⟩
  refine ⟨s2, ?_⟩
  simp only [loB, vB] at e1
  simp -implicitDefEqProofs [-reprD, F_law_89be, B_law_89be, f1, f2, r4, e1, rp, t1.at_, lp, e2]
end V03

set_option Elab.async false
set_option linter.all false
set_option maxRecDepth 100000
set_option maxHeartbeats 2000000
namespace V03
open PySem PySem.Spec PyProof.Rows L2 TB VL G

def topS (i : Nat) : Stmt := PySem.Challenge.pw_tablebills_k03_offs_by_kind.main.body.getD i (.Pass ⟨0, 0, 0, 0⟩)
abbrev s_is_number : Stmt := topS 2
abbrev s_is_word : Stmt := topS 3
abbrev s_is_count : Stmt := topS 4
abbrev s_is_tuple_of : Stmt := topS 5
abbrev s_are_counts : Stmt := topS 6
abbrev s_rises : Stmt := topS 7
abbrev s_are_rising_words : Stmt := topS 8
abbrev s_is_off : Stmt := topS 12
abbrev s_is_offs : Stmt := topS 11
abbrev s__law_feed : Stmt := topS 14
abbrev s__law_draw : Stmt := topS 15
abbrev s__law_after : Stmt := topS 16
abbrev s__law_word : Stmt := topS 17
abbrev s__law_prices : Stmt := topS 18
abbrev s__law_menu : Stmt := topS 19
abbrev s__law_offs : Stmt := topS 20
abbrev s__law_bend : Stmt := topS 21
abbrev s__law_odd : Stmt := topS 22
abbrev s__law_same : Stmt := topS 23
abbrev s__law_number : Stmt := topS 24
abbrev s__law_worded : Stmt := topS 25
abbrev s__law_offed : Stmt := topS 26
abbrev s__law_fixed : Stmt := topS 27
abbrev s__law_near : Stmt := topS 28
abbrev s_law : Stmt := topS 29
theorem sc_is_number : FnScope ["thing"] ["thing"] (defScope s_is_number) := ⟨rfl, rfl, rfl, by decide +kernel, rfl, by decide +kernel, by decide +kernel⟩
theorem sc_is_word : FnScope ["thing", "sign"] ["thing"] (defScope s_is_word) := ⟨rfl, rfl, rfl, by decide +kernel, rfl, by decide +kernel, by decide +kernel⟩
theorem sc_is_count : FnScope ["thing"] ["thing"] (defScope s_is_count) := ⟨rfl, rfl, rfl, by decide +kernel, rfl, by decide +kernel, by decide +kernel⟩
theorem sc_is_tuple_of : FnScope ["thing", "many"] ["thing", "many"] (defScope s_is_tuple_of) := ⟨rfl, rfl, rfl, by decide +kernel, rfl, by decide +kernel, by decide +kernel⟩
theorem sc_are_counts : FnScope ["thing", "many", "part"] ["thing", "many"] (defScope s_are_counts) := ⟨rfl, rfl, rfl, by decide +kernel, rfl, by decide +kernel, by decide +kernel⟩
theorem sc_rises : FnScope ["things", "low", "high"] ["things"] (defScope s_rises) := ⟨rfl, rfl, rfl, by decide +kernel, rfl, by decide +kernel, by decide +kernel⟩
theorem sc_are_rising_words : FnScope ["thing", "word"] ["thing"] (defScope s_are_rising_words) := ⟨rfl, rfl, rfl, by decide +kernel, rfl, by decide +kernel, by decide +kernel⟩
theorem sc_is_off : FnScope ["thing"] ["thing"] (defScope s_is_off) := ⟨rfl, rfl, rfl, by decide +kernel, rfl, by decide +kernel, by decide +kernel⟩
theorem sc_is_offs : FnScope ["thing", "off"] ["thing"] (defScope s_is_offs) := ⟨rfl, rfl, rfl, by decide +kernel, rfl, by decide +kernel, by decide +kernel⟩
theorem sc__law_feed : FnScope ["_law_script"] ["_law_script"] (defScope s__law_feed) := ⟨rfl, rfl, rfl, by decide +kernel, rfl, by decide +kernel, by decide +kernel⟩
theorem sc__law_draw : FnScope ["_law_feed_here", "_law_many", "_law_told", "_law_cell", "_law_turn", "_law_mixed"] ["_law_feed_here", "_law_many"] (defScope s__law_draw) := ⟨rfl, rfl, rfl, by decide +kernel, rfl, by decide +kernel, by decide +kernel⟩
theorem sc__law_after : FnScope ["_law_word_here", "_law_letters", "_law_at", "_law_sign"] ["_law_word_here"] (defScope s__law_after) := ⟨rfl, rfl, rfl, by decide +kernel, rfl, by decide +kernel, by decide +kernel⟩
theorem sc__law_word : FnScope ["_law_feed_here", "_law_found", "_law_letters", "_law_way", "_law_word_here", "_law_k", "_law_own"] ["_law_feed_here", "_law_found"] (defScope s__law_word) := ⟨rfl, rfl, rfl, by decide +kernel, rfl, by decide +kernel, by decide +kernel⟩
theorem sc__law_prices : FnScope ["_law_feed_here", "_law_found", "_law_begin", "_law_k", "_law_pence"] ["_law_feed_here"] (defScope s__law_prices) := ⟨rfl, rfl, rfl, by decide +kernel, rfl, by decide +kernel, by decide +kernel⟩
theorem sc__law_menu : FnScope ["_law_feed_here", "_law_many", "_law_words", "_law_k", "_law_word_here"] ["_law_feed_here", "_law_many"] (defScope s__law_menu) := ⟨rfl, rfl, rfl, by decide +kernel, rfl, by decide +kernel, by decide +kernel⟩
theorem sc__law_offs : FnScope ["_law_feed_here", "_law_menu_here", "_law_found", "_law_k", "_law_items", "_law_low", "_law_high", "_law_percent", "_law_row"] ["_law_feed_here", "_law_menu_here"] (defScope s__law_offs) := ⟨rfl, rfl, rfl, by decide +kernel, rfl, by decide +kernel, by decide +kernel⟩
theorem sc__law_bend : FnScope ["_law_feed_here", "_law_thing", "_law_odd_here", "_law_at", "_law_way"] ["_law_feed_here", "_law_thing", "_law_odd_here"] (defScope s__law_bend) := ⟨rfl, rfl, rfl, by decide +kernel, rfl, by decide +kernel, by decide +kernel⟩
theorem sc__law_odd : FnScope ["_law_small"] [] (defScope s__law_odd) := ⟨rfl, rfl, rfl, by decide +kernel, rfl, by decide +kernel, by decide +kernel⟩
theorem sc__law_same : FnScope ["_law_told", "_law_wanted"] ["_law_told", "_law_wanted"] (defScope s__law_same) := ⟨rfl, rfl, rfl, by decide +kernel, rfl, by decide +kernel, by decide +kernel⟩
theorem sc__law_number : FnScope ["_law_thing"] ["_law_thing"] (defScope s__law_number) := ⟨rfl, rfl, rfl, by decide +kernel, rfl, by decide +kernel, by decide +kernel⟩
theorem sc__law_worded : FnScope ["_law_thing", "_law_sign"] ["_law_thing"] (defScope s__law_worded) := ⟨rfl, rfl, rfl, by decide +kernel, rfl, by decide +kernel, by decide +kernel⟩
theorem sc__law_offed : FnScope ["_law_thing", "_law_off", "_law_number_here", "_law_item"] ["_law_thing"] (defScope s__law_offed) := ⟨rfl, rfl, rfl, by decide +kernel, rfl, by decide +kernel, by decide +kernel⟩
theorem sc__law_fixed : FnScope ["_law_great", "_law_one", "_law_found", "_law_sign"] [] (defScope s__law_fixed) := ⟨rfl, rfl, rfl, by decide +kernel, rfl, by decide +kernel, by decide +kernel⟩
theorem sc__law_near : FnScope ["_law_feed_here", "_law_offs_here", "_law_at", "_law_items", "_law_low", "_law_high", "_law_percent", "_law_bent", "_law_rows", "_law_found", "_law_own"] ["_law_feed_here", "_law_offs_here"] (defScope s__law_near) := ⟨rfl, rfl, rfl, by decide +kernel, rfl, by decide +kernel, by decide +kernel⟩
theorem sc_law : FnScope ["_law_script", "_law_feed_here", "_law_things", "_law_k", "_law_offs_here", "_law_kept", "_law_thing"] ["_law_script"] (defScope s_law) := ⟨rfl, rfl, rfl, by decide +kernel, rfl, by decide +kernel, by decide +kernel⟩
section
variable {P : Program} {w : World} {K : PySem.W.Frag} {mg : Str → Option Value} {base : Heap}
theorem ok_is_number {f_is_number : Addr} {fd_is_number : FuncData} (F_ : Fun K "is_number" "is_number" s_is_number f_is_number fd_is_number) (m_bool : mg "bool" = none) (m_int : mg "int" = none) (m_isinstance : mg "isinstance" = none) : FnG P w K mg base (L2.CX P w) 2 f_is_number fd_is_number ["thing"] (spV K ⟨mg, w⟩ 1 F_is_number) := by
  refine gokV (k := 1) 0 F_ sc_is_number fun cdv A gd outer s H E hr => ?_
  have hu := hu65 hr
  exact (vss_one (vs_ret (ve_and (ve_callB ob_isi (by rfl) m_isinstance (by decide +kernel) (va_cons (ve_var 0) (va_cons (ve_ty (by rfl) m_int (by decide +kernel)) va_nil))) (ve_one (ve_not (ve_callB ob_isi (by rfl) m_isinstance (by decide +kernel) (va_cons (ve_var 0) (va_cons (ve_ty (by rfl) m_bool (by decide +kernel)) va_nil))))))))
theorem ok_is_word {f_is_word : Addr} {fd_is_word : FuncData} (F_ : Fun K "is_word" "is_word" s_is_word f_is_word fd_is_word) (m_all : mg "all" = none) (m_isinstance : mg "isinstance" = none) (m_len : mg "len" = none) (m_str : mg "str" = none) {u_LONGEST_WORD : Value} {v_LONGEST_WORD : V} (mg_LONGEST_WORD : mg "LONGEST_WORD" = some u_LONGEST_WORD) (r_LONGEST_WORD : RelV v_LONGEST_WORD u_LONGEST_WORD) (q_LONGEST_WORD : ∀ H β, Rep K H β d_LONGEST_WORD v_LONGEST_WORD) : FnG P w K mg base (L2.CX P w) 2 f_is_word fd_is_word ["thing"] (spV K ⟨mg, w⟩ 1 F_is_word) := by
  refine gokV (k := 1) 0 F_ sc_is_word fun cdv A gd outer s H E hr => ?_
  have hu := hu65 hr
  exact (vss_one (vs_ret (ve_and (ve_callB ob_isi (by rfl) m_isinstance (by decide +kernel) (va_cons (ve_var 0) (va_cons (ve_ty (by rfl) m_str (by decide +kernel)) va_nil))) (ve_and (ve_chain (oc_le hu) (oc_le hu) ve_int (ve_callB ob_len (by rfl) m_len (by decide +kernel) (va_cons (ve_var 0) va_nil)) (ve_glob (by rfl) mg_LONGEST_WORD r_LONGEST_WORD q_LONGEST_WORD)) (ve_one (ve_callB (ob_all rfl) (by rfl) m_all (by decide +kernel) (va_cons (ve_lc false (own := [("sign", 1)]) (by decide) rfl sc_is_word.nd (vi_seq (ve_var 0)) (blkOk_by (own := [("sign", 1)]) (N := ["thing", "sign"]) (sc := defScope s_is_word) (by decide +kernel)) (fun _ _ _ _ _ => (vg_name (i := 1) sc_is_word.nd rfl (.inl rfl))) (fun _ _ _ _ _ => vts_nil) (fun _ _ _ _ _ => (ve_chain (oc_le hu) (oc_le hu) ve_str (ve_var 1) ve_str))) va_nil)))))))
theorem ok_is_count {f_is_count : Addr} {fd_is_count : FuncData} (F_ : Fun K "is_count" "is_count" s_is_count f_is_count fd_is_count) {f_is_number : Addr} {fd_is_number : FuncData} (G_is_number : FnG P w K mg base (L2.CX P w) 2 f_is_number fd_is_number ["thing"] (spV K ⟨mg, w⟩ 1 F_is_number)) (k_is_number : PySem.W.keepIn K (.ref f_is_number) = true) (g_is_number : mg "is_number" = some (.ref f_is_number)) (b_is_number_1 : BindV K fd_is_number ["thing"] 1 [] [] [.pos 0]) : FnG P w K mg base (L2.CX P w) 3 f_is_count fd_is_count ["thing"] (spV K ⟨mg, w⟩ 1 F_is_count) := by
  refine gokV (k := 2) 0 F_ sc_is_count fun cdv A gd outer s H E hr => ?_
  have hu := hu65 hr
  exact (vss_one (vs_ret (ve_and (ve_callP (ds := []) (dvs := []) (ss := [.pos 0]) G_is_number gd (hr.mono (by decide)) (by rfl) g_is_number k_is_number b_is_number_1 (by intro us ws h1 h2; match us, h1, ws, h2 with | [_], _, [], _ => rfl) (fun _ _ => .nil) (passes_call (takes_of rfl rfl rfl rfl) (fun _ _ _ _ h => h)) (va_cons (ve_var 0) va_nil)) (ve_one (OkC.ve oc_ge (ve_var 0) ve_int (nomark _))))))
theorem ok_is_tuple_of {f_is_tuple_of : Addr} {fd_is_tuple_of : FuncData} (F_ : Fun K "is_tuple_of" "is_tuple_of" s_is_tuple_of f_is_tuple_of fd_is_tuple_of) (m_isinstance : mg "isinstance" = none) (m_len : mg "len" = none) (m_tuple : mg "tuple" = none) : FnG P w K mg base (L2.CX P w) 2 f_is_tuple_of fd_is_tuple_of ["thing", "many"] (spV K ⟨mg, w⟩ 2 F_is_tuple_of) := by
  refine gokV (k := 1) 0 F_ sc_is_tuple_of fun cdv A gd outer s H E hr => ?_
  have hu := hu65 hr
  exact (vss_one (vs_ret (ve_and (ve_callB ob_isi (by rfl) m_isinstance (by decide +kernel) (va_cons (ve_var 0) (va_cons (ve_ty (by rfl) m_tuple (by decide +kernel)) va_nil))) (ve_one (OkC.ve (oc_eq hu) (ve_callB ob_len (by rfl) m_len (by decide +kernel) (va_cons (ve_var 0) va_nil)) (ve_var 1) (nomark _))))))
theorem ok_are_counts {f_are_counts : Addr} {fd_are_counts : FuncData} (F_ : Fun K "are_counts" "are_counts" s_are_counts f_are_counts fd_are_counts) {f_is_count : Addr} {fd_is_count : FuncData} (G_is_count : FnG P w K mg base (L2.CX P w) 3 f_is_count fd_is_count ["thing"] (spV K ⟨mg, w⟩ 1 F_is_count)) (k_is_count : PySem.W.keepIn K (.ref f_is_count) = true) (g_is_count : mg "is_count" = some (.ref f_is_count)) {f_is_tuple_of : Addr} {fd_is_tuple_of : FuncData} (G_is_tuple_of : FnG P w K mg base (L2.CX P w) 2 f_is_tuple_of fd_is_tuple_of ["thing", "many"] (spV K ⟨mg, w⟩ 2 F_is_tuple_of)) (k_is_tuple_of : PySem.W.keepIn K (.ref f_is_tuple_of) = true) (g_is_tuple_of : mg "is_tuple_of" = some (.ref f_is_tuple_of)) (b_is_count_1 : BindV K fd_is_count ["thing"] 1 [] [] [.pos 0]) (b_is_tuple_of_2 : BindV K fd_is_tuple_of ["thing", "many"] 2 [] [] [.pos 0, .pos 1]) (m_all : mg "all" = none) : FnG P w K mg base (L2.CX P w) 4 f_are_counts fd_are_counts ["thing", "many"] (spV K ⟨mg, w⟩ 2 F_are_counts) := by
  refine gokV (k := 3) 0 F_ sc_are_counts fun cdv A gd outer s H E hr => ?_
  have hu := hu65 hr
  exact (vss_one (vs_ret (ve_and (ve_callP (ds := []) (dvs := []) (ss := [.pos 0, .pos 1]) G_is_tuple_of gd (hr.mono (by decide)) (by rfl) g_is_tuple_of k_is_tuple_of b_is_tuple_of_2 (by intro us ws h1 h2; match us, h1, ws, h2 with | [_, _], _, [], _ => rfl) (fun _ _ => .nil) (passes_call (takes_of rfl rfl rfl rfl) (fun _ _ _ _ h => h)) (va_cons (ve_var 0) (va_cons (ve_var 1) va_nil))) (ve_one (ve_callB (ob_all rfl) (by rfl) m_all (by decide +kernel) (va_cons (ve_lc false (own := [("part", 2)]) (by decide) rfl sc_are_counts.nd (vi_seq (ve_var 0)) (blkOk_by (own := [("part", 2)]) (N := ["thing", "many", "part"]) (sc := defScope s_are_counts) (by decide +kernel)) (fun _ _ _ _ _ => (vg_name (i := 2) sc_are_counts.nd rfl (.inl rfl))) (fun _ _ _ _ _ => vts_nil) (fun _ _ _ _ _ => (ve_callP (ds := []) (dvs := []) (ss := [.pos 0]) G_is_count gd (hr.mono (by decide)) (by rfl) g_is_count k_is_count b_is_count_1 (by intro us ws h1 h2; match us, h1, ws, h2 with | [_], _, [], _ => rfl) (fun _ _ => .nil) passL (va_cons (ve_var 2) va_nil)))) va_nil))))))
theorem ok_rises {f_rises : Addr} {fd_rises : FuncData} (F_ : Fun K "rises" "rises" s_rises f_rises fd_rises) (m_all : mg "all" = none) (m_zip : mg "zip" = none) : FnG P w K mg base (L2.CX P w) 2 f_rises fd_rises ["things"] (spV K ⟨mg, w⟩ 1 F_rises) := by
  refine gokV (k := 1) 0 F_ sc_rises fun cdv A gd outer s H E hr => ?_
  have hu := hu65 hr
  exact (vss_one (vs_ret (ve_callB (ob_all rfl) (by rfl) m_all (by decide +kernel) (va_cons (ve_lc false (own := [("low", 1), ("high", 2)]) (by decide) rfl sc_rises.nd (vi_zip (by rfl) m_zip (va_cons (ve_var 0) (va_cons (ve_slice false (ve_var 0) (vo_some ve_int) vo_none) va_nil))) (blkOk_by (own := [("low", 1), ("high", 2)]) (N := ["things", "low", "high"]) (sc := defScope s_rises) (by decide +kernel)) (fun _ _ _ _ _ => (vg_tup rfl (vgs_cons (vg_name (i := 1) sc_rises.nd rfl (.inl rfl)) (vgs_cons (vg_name (i := 2) sc_rises.nd rfl (.inl rfl)) vgs_nil)))) (fun _ _ _ _ _ => vts_nil) (fun _ _ _ _ _ => (OkC.ve (oc_lt hu) (ve_var 1) (ve_var 2) (nomark _)))) va_nil))))
theorem ok_are_rising_words {f_are_rising_words : Addr} {fd_are_rising_words : FuncData} (F_ : Fun K "are_rising_words" "are_rising_words" s_are_rising_words f_are_rising_words fd_are_rising_words) {f_is_word : Addr} {fd_is_word : FuncData} (G_is_word : FnG P w K mg base (L2.CX P w) 2 f_is_word fd_is_word ["thing"] (spV K ⟨mg, w⟩ 1 F_is_word)) (k_is_word : PySem.W.keepIn K (.ref f_is_word) = true) (g_is_word : mg "is_word" = some (.ref f_is_word)) {f_rises : Addr} {fd_rises : FuncData} (G_rises : FnG P w K mg base (L2.CX P w) 2 f_rises fd_rises ["things"] (spV K ⟨mg, w⟩ 1 F_rises)) (k_rises : PySem.W.keepIn K (.ref f_rises) = true) (g_rises : mg "rises" = some (.ref f_rises)) (b_is_word_1 : BindV K fd_is_word ["thing"] 1 [] [] [.pos 0]) (b_rises_1 : BindV K fd_rises ["things"] 1 [] [] [.pos 0]) (m_all : mg "all" = none) (m_isinstance : mg "isinstance" = none) (m_tuple : mg "tuple" = none) : FnG P w K mg base (L2.CX P w) 3 f_are_rising_words fd_are_rising_words ["thing"] (spV K ⟨mg, w⟩ 1 F_are_rising_words) := by
  refine gokV (k := 2) 0 F_ sc_are_rising_words fun cdv A gd outer s H E hr => ?_
  have hu := hu65 hr
  exact (vss_one (vs_ret (ve_and (ve_callB ob_isi (by rfl) m_isinstance (by decide +kernel) (va_cons (ve_var 0) (va_cons (ve_ty (by rfl) m_tuple (by decide +kernel)) va_nil))) (ve_and (ve_callB (ob_all rfl) (by rfl) m_all (by decide +kernel) (va_cons (ve_lc false (own := [("word", 1)]) (by decide) rfl sc_are_rising_words.nd (vi_seq (ve_var 0)) (blkOk_by (own := [("word", 1)]) (N := ["thing", "word"]) (sc := defScope s_are_rising_words) (by decide +kernel)) (fun _ _ _ _ _ => (vg_name (i := 1) sc_are_rising_words.nd rfl (.inl rfl))) (fun _ _ _ _ _ => vts_nil) (fun _ _ _ _ _ => (ve_callP (ds := []) (dvs := []) (ss := [.pos 0]) G_is_word gd (hr.mono (by decide)) (by rfl) g_is_word k_is_word b_is_word_1 (by intro us ws h1 h2; match us, h1, ws, h2 with | [_], _, [], _ => rfl) (fun _ _ => .nil) passL (va_cons (ve_var 1) va_nil)))) va_nil)) (ve_one (ve_callP (ds := []) (dvs := []) (ss := [.pos 0]) G_rises gd (hr.mono (by decide)) (by rfl) g_rises k_rises b_rises_1 (by intro us ws h1 h2; match us, h1, ws, h2 with | [_], _, [], _ => rfl) (fun _ _ => .nil) (passes_call (takes_of rfl rfl rfl rfl) (fun _ _ _ _ h => h)) (va_cons (ve_var 0) va_nil)))))))
theorem ok_is_off {f_is_off : Addr} {fd_is_off : FuncData} (F_ : Fun K "is_off" "is_off" s_is_off f_is_off fd_is_off) {f_are_counts : Addr} {fd_are_counts : FuncData} (G_are_counts : FnG P w K mg base (L2.CX P w) 4 f_are_counts fd_are_counts ["thing", "many"] (spV K ⟨mg, w⟩ 2 F_are_counts)) (k_are_counts : PySem.W.keepIn K (.ref f_are_counts) = true) (g_are_counts : mg "are_counts" = some (.ref f_are_counts)) {f_are_rising_words : Addr} {fd_are_rising_words : FuncData} (G_are_rising_words : FnG P w K mg base (L2.CX P w) 3 f_are_rising_words fd_are_rising_words ["thing"] (spV K ⟨mg, w⟩ 1 F_are_rising_words)) (k_are_rising_words : PySem.W.keepIn K (.ref f_are_rising_words) = true) (g_are_rising_words : mg "are_rising_words" = some (.ref f_are_rising_words)) {f_is_tuple_of : Addr} {fd_is_tuple_of : FuncData} (G_is_tuple_of : FnG P w K mg base (L2.CX P w) 2 f_is_tuple_of fd_is_tuple_of ["thing", "many"] (spV K ⟨mg, w⟩ 2 F_is_tuple_of)) (k_is_tuple_of : PySem.W.keepIn K (.ref f_is_tuple_of) = true) (g_is_tuple_of : mg "is_tuple_of" = some (.ref f_is_tuple_of)) (b_are_counts_2 : BindV K fd_are_counts ["thing", "many"] 2 [] [] [.pos 0, .pos 1]) (b_are_rising_words_1 : BindV K fd_are_rising_words ["thing"] 1 [] [] [.pos 0]) (b_is_tuple_of_2 : BindV K fd_is_tuple_of ["thing", "many"] 2 [] [] [.pos 0, .pos 1]) {u_WHOLE : Value} {v_WHOLE : V} (mg_WHOLE : mg "WHOLE" = some u_WHOLE) (r_WHOLE : RelV v_WHOLE u_WHOLE) (q_WHOLE : ∀ H β, Rep K H β d_WHOLE v_WHOLE) : FnG P w K mg base (L2.CX P w) 5 f_is_off fd_is_off ["thing"] (spV K ⟨mg, w⟩ 1 F_is_off) := by
  refine gokV (k := 4) 0 F_ sc_is_off fun cdv A gd outer s H E hr => ?_
  have hu := hu65 hr
  exact (vss_one (vs_ret (ve_and (ve_callP (ds := []) (dvs := []) (ss := [.pos 0, .pos 1]) G_is_tuple_of gd (hr.mono (by decide)) (by rfl) g_is_tuple_of k_is_tuple_of b_is_tuple_of_2 (by intro us ws h1 h2; match us, h1, ws, h2 with | [_, _], _, [], _ => rfl) (fun _ _ => .nil) (passes_call (takes_of rfl rfl rfl rfl) (fun _ _ _ _ h => h)) (va_cons (ve_var 0) (va_cons ve_int va_nil))) (ve_and (ve_callP (ds := []) (dvs := []) (ss := [.pos 0]) G_are_rising_words gd (hr.mono (by decide)) (by rfl) g_are_rising_words k_are_rising_words b_are_rising_words_1 (by intro us ws h1 h2; match us, h1, ws, h2 with | [_], _, [], _ => rfl) (fun _ _ => .nil) (passes_call (takes_of rfl rfl rfl rfl) (fun _ _ _ _ h => h)) (va_cons (ve_sub_ix hu (ve_var 0) ve_int (fun _ _ => rfl)) va_nil)) (ve_and (ve_callP (ds := []) (dvs := []) (ss := [.pos 0, .pos 1]) G_are_counts gd (hr.mono (by decide)) (by rfl) g_are_counts k_are_counts b_are_counts_2 (by intro us ws h1 h2; match us, h1, ws, h2 with | [_, _], _, [], _ => rfl) (fun _ _ => .nil) (passes_call (takes_of rfl rfl rfl rfl) (fun _ _ _ _ h => h)) (va_cons (ve_slice false (ve_var 0) (vo_some ve_int) vo_none) (va_cons ve_int va_nil))) (ve_one (OkC.ve (oc_le hu) (ve_sub_ix hu (ve_var 0) ve_int (fun _ _ => rfl)) (ve_glob (by rfl) mg_WHOLE r_WHOLE q_WHOLE) (nomark _))))))))
theorem ok_is_offs {f_is_offs : Addr} {fd_is_offs : FuncData} (F_ : Fun K "is_offs" "is_offs" s_is_offs f_is_offs fd_is_offs) {f_is_off : Addr} {fd_is_off : FuncData} (G_is_off : FnG P w K mg base (L2.CX P w) 5 f_is_off fd_is_off ["thing"] (spV K ⟨mg, w⟩ 1 F_is_off)) (k_is_off : PySem.W.keepIn K (.ref f_is_off) = true) (g_is_off : mg "is_off" = some (.ref f_is_off)) (b_is_off_1 : BindV K fd_is_off ["thing"] 1 [] [] [.pos 0]) (m_all : mg "all" = none) (m_isinstance : mg "isinstance" = none) (m_tuple : mg "tuple" = none) : FnG P w K mg base (L2.CX P w) 6 f_is_offs fd_is_offs ["thing"] (spV K ⟨mg, w⟩ 1 F_is_offs) := by
  refine gokV (k := 5) 0 F_ sc_is_offs fun cdv A gd outer s H E hr => ?_
  have hu := hu65 hr
  exact (vss_one (vs_ret (ve_and (ve_callB ob_isi (by rfl) m_isinstance (by decide +kernel) (va_cons (ve_var 0) (va_cons (ve_ty (by rfl) m_tuple (by decide +kernel)) va_nil))) (ve_one (ve_callB (ob_all rfl) (by rfl) m_all (by decide +kernel) (va_cons (ve_lc false (own := [("off", 1)]) (by decide) rfl sc_is_offs.nd (vi_seq (ve_var 0)) (blkOk_by (own := [("off", 1)]) (N := ["thing", "off"]) (sc := defScope s_is_offs) (by decide +kernel)) (fun _ _ _ _ _ => (vg_name (i := 1) sc_is_offs.nd rfl (.inl rfl))) (fun _ _ _ _ _ => vts_nil) (fun _ _ _ _ _ => (ve_callP (ds := []) (dvs := []) (ss := [.pos 0]) G_is_off gd (hr.mono (by decide)) (by rfl) g_is_off k_is_off b_is_off_1 (by intro us ws h1 h2; match us, h1, ws, h2 with | [_], _, [], _ => rfl) (fun _ _ => .nil) passL (va_cons (ve_var 1) va_nil)))) va_nil))))))
theorem ok__law_feed {f__law_feed : Addr} {fd__law_feed : FuncData} (F_ : Fun K "_law_feed" "_law_feed" s__law_feed f__law_feed fd__law_feed)  : FnG P w K mg base (L2.CX P w) 2 f__law_feed fd__law_feed ["_law_script"] (spV K ⟨mg, w⟩ 1 F__law_feed_6a37) := by
  refine gokV (k := 1) 0 F_ sc__law_feed fun cdv A gd outer s H E hr => ?_
  have hu := hu65 hr
  exact (vss_one (vs_ret (ve_lst true (va_cons (ve_slice false (ve_var 0) vo_none (vo_some ve_int)) (va_cons ve_int (va_cons ve_int (va_cons ve_int va_nil)))))))
theorem ok__law_draw {f__law_draw : Addr} {fd__law_draw : FuncData} (F_ : Fun K "_law_draw" "_law_draw" s__law_draw f__law_draw fd__law_draw) (m_len : mg "len" = none) : FnG P w K mg base (L2.CX P w) 2 f__law_draw fd__law_draw ["_law_feed_here", "_law_many"] (spV K ⟨mg, w⟩ 2 F__law_draw_ed7e) := by
  refine gokV (k := 1) 0 F_ sc__law_draw fun cdv A gd outer s H E hr => ?_
  have hu := hu65 hr
  exact (vss_cons (vs_augS hu (ve_var 0) ve_int ve_int oi_add)
      (vss_cons (vs_if (OkC.vt oc_gt (ve_sub_ix hu (ve_var 0) ve_int (fun _ _ => rfl)) ve_int (nomark _)) (vss_cons (vs_set (i := 2) sc__law_draw.nd rfl (.inl rfl) (ve_mod (ve_sub_ix hu (ve_var 0) ve_int (fun _ _ => rfl)) (ve_var 1)))
      (vss_cons (vs_asg (ve_fdiv (ve_sub_ix hu (ve_var 0) ve_int (fun _ _ => rfl)) (ve_var 1)) (vg_sub hu (ve_var 0) ve_int))
      (vss_one (vs_ret (ve_var 2))))) vss_nil)
      (vss_cons (vs_set (i := 3) sc__law_draw.nd rfl (.inl rfl) (ve_ifExp (OkC.vt (oc_eq hu) (ve_sub_ix hu (ve_var 0) ve_int (fun _ _ => rfl)) (ve_lst false va_nil) (nomark _)) ve_int (ve_sub_ix hu (ve_sub_ix hu (ve_var 0) ve_int (fun _ _ => rfl)) (ve_mod (ve_sub_ix hu (ve_var 0) ve_int (fun _ _ => rfl)) (ve_callB ob_len (by rfl) m_len (by decide +kernel) (va_cons (ve_sub_ix hu (ve_var 0) ve_int (fun _ _ => rfl)) va_nil))) (fun _ _ => rfl))))
      (vss_cons (vs_augS hu (ve_var 0) ve_int ve_int oi_add)
      (vss_cons (vs_if (PW.pt (vw_and (OkC.vt oc_ge (ve_var 3) (ve_pow ve_int ve_int) (nomark _)) (vw_and1 (OkC.vt (oc_le hu) (ve_sub_ix hu (ve_var 0) ve_int (fun _ _ => rfl)) (ve_callB ob_len (by rfl) m_len (by decide +kernel) (va_cons (ve_sub_ix hu (ve_var 0) ve_int (fun _ _ => rfl)) va_nil)) (nomark _))))) (vss_cons (vs_asg (ve_fdiv (ve_var 3) (ve_var 1)) (vg_sub hu (ve_var 0) ve_int))
      (vss_one (vs_ret (ve_mod (ve_var 3) (ve_var 1))))) vss_nil)
      (vss_cons (vs_set (i := 4) sc__law_draw.nd rfl (.inl rfl) (ve_sub_ix hu (ve_var 0) ve_int (fun _ _ => rfl)))
      (vss_cons (vs_set (i := 5) sc__law_draw.nd rfl (.inl rfl) (ve_mod (ve_add false (ve_add false (ve_mod (ve_var 3) ve_int) (ve_mul false (ve_mul false ve_int (ve_var 4)) (ve_var 4))) (ve_mul false ve_int (ve_var 4))) ve_int))
      (vss_cons (vs_set (i := 5) sc__law_draw.nd rfl (.inl rfl) (ve_mod (ve_add false (ve_mul false (ve_var 5) (ve_var 5)) (ve_mul false ve_int (ve_var 4))) ve_int))
      (vss_cons (vs_set (i := 5) sc__law_draw.nd rfl (.inl rfl) (ve_mod (ve_add false (ve_mul false (ve_var 5) (ve_var 5)) (ve_mul false ve_int (ve_var 4))) ve_int))
      (vss_one (vs_ret (ve_mod (ve_fdiv (ve_mod (ve_add false (ve_mul false (ve_var 5) (ve_var 5)) (ve_var 4)) ve_int) ve_int) (ve_var 1)))))))))))))
theorem ok__law_after {f__law_after : Addr} {fd__law_after : FuncData} (F_ : Fun K "_law_after" "_law_after" s__law_after f__law_after fd__law_after) (m_len : mg "len" = none) : FnG P w K mg base (L2.CX P w) 2 f__law_after fd__law_after ["_law_word_here"] (spV K ⟨mg, w⟩ 1 F__law_after) := by
  refine gokV (k := 1) 0 F_ sc__law_after fun cdv A gd outer s H E hr => ?_
  have hu := hu65 hr
  exact (vss_cons (vs_set (i := 1) sc__law_after.nd rfl (.inl rfl) ve_str)
      (vss_cons (vs_if (OkC.vt (oc_lt hu) (ve_callB ob_len (by rfl) m_len (by decide +kernel) (va_cons (ve_var 0) va_nil)) ve_int (nomark _)) (vss_one (vs_ret (ve_add false (ve_var 0) ve_str))) vss_nil)
      (vss_cons (vs_set (i := 2) sc__law_after.nd rfl (.inl rfl) ve_int)
      (vss_cons (vs_while (passes_of rfl) (PW.pt (vw_and (OkC.vt oc_gt (ve_var 2) ve_int (nomark _)) (vw_and1 (OkC.vt (oc_eq hu) (ve_sub_ix hu (ve_var 0) (ve_var 2) (fun _ _ => rfl)) ve_str (nomark _))))) (vss_one (vs_aug (i := 2) sc__law_after.nd rfl (.inl rfl) ve_int oi_sub)))
      (vss_cons (vs_set (i := 3) sc__law_after.nd rfl (.inl rfl) (ve_sub_ix hu (ve_var 1) (ve_mod (ve_add false (ve_ms PySem.F.slot_str_index PySem.F.type_str_index om_sindex (ve_var 1) (va_cons (ve_sub_ix hu (ve_var 0) (ve_var 2) (fun _ _ => rfl)) va_nil)) ve_int) ve_int) (fun _ _ => rfl)))
      (vss_one (vs_ret (ve_add false (ve_add false (ve_slice false (ve_var 0) vo_none (vo_some (ve_var 2))) (ve_var 3)) (ve_mul false ve_str (ve_sub ve_int (ve_var 2)))))))))))
theorem ok__law_word {f__law_word : Addr} {fd__law_word : FuncData} (F_ : Fun K "_law_word" "_law_word" s__law_word f__law_word fd__law_word) {f__law_after : Addr} {fd__law_after : FuncData} (G__law_after : FnG P w K mg base (L2.CX P w) 2 f__law_after fd__law_after ["_law_word_here"] (spV K ⟨mg, w⟩ 1 F__law_after)) (k__law_after : PySem.W.keepIn K (.ref f__law_after) = true) (g__law_after : mg "_law_after" = some (.ref f__law_after)) {f__law_draw : Addr} {fd__law_draw : FuncData} (G__law_draw : FnG P w K mg base (L2.CX P w) 2 f__law_draw fd__law_draw ["_law_feed_here", "_law_many"] (spV K ⟨mg, w⟩ 2 F__law_draw_ed7e)) (k__law_draw : PySem.W.keepIn K (.ref f__law_draw) = true) (g__law_draw : mg "_law_draw" = some (.ref f__law_draw)) (b__law_after_1 : BindV K fd__law_after ["_law_word_here"] 1 [] [] [.pos 0]) (b__law_draw_2 : BindV K fd__law_draw ["_law_feed_here", "_law_many"] 2 [] [] [.pos 0, .pos 1]) (m_len : mg "len" = none) (m_range : mg "range" = none) : FnG P w K mg base (L2.CX P w) 3 f__law_word fd__law_word ["_law_feed_here", "_law_found"] (spV K ⟨mg, w⟩ 2 F__law_word_8a86) := by
  refine gokV (k := 2) 0 F_ sc__law_word fun cdv A gd outer s H E hr => ?_
  have hu := hu65 hr
  exact (vss_cons (vs_set (i := 2) sc__law_word.nd rfl (.inl rfl) ve_str)
      (vss_cons (vs_set (i := 3) sc__law_word.nd rfl (.inl rfl) (ve_callP (ds := []) (dvs := []) (ss := [.pos 0, .pos 1]) G__law_draw gd (hr.mono (by decide)) (by rfl) g__law_draw k__law_draw b__law_draw_2 (by intro us ws h1 h2; match us, h1, ws, h2 with | [_, _], _, [], _ => rfl) (fun _ _ => .nil) (passes_call (takes_of rfl rfl rfl rfl) (fun _ _ _ _ h => h)) (va_cons (ve_var 0) (va_cons ve_int va_nil))))
      (vss_cons (vs_set (i := 4) sc__law_word.nd rfl (.inl rfl) (ve_sub_ix hu (ve_var 2) (ve_callP (ds := []) (dvs := []) (ss := [.pos 0, .pos 1]) G__law_draw gd (hr.mono (by decide)) (by rfl) g__law_draw k__law_draw b__law_draw_2 (by intro us ws h1 h2; match us, h1, ws, h2 with | [_, _], _, [], _ => rfl) (fun _ _ => .nil) (passes_call (takes_of rfl rfl rfl rfl) (fun _ _ _ _ h => h)) (va_cons (ve_var 0) (va_cons ve_int va_nil))) (fun _ _ => rfl)))
      (vss_cons (vs_if (PW.pt (vw_or (OkC.vt oc_gt (ve_var 3) ve_int (nomark _)) (vw_or1 (OkC.vt (oc_eq hu) (ve_var 1) (ve_lst false va_nil) (nomark _))))) (vss_one (vs_for (passes_of rfl) rfl (vi_range1 (by rfl) m_range (va_cons (ve_callP (ds := []) (dvs := []) (ss := [.pos 0, .pos 1]) G__law_draw gd (hr.mono (by decide)) (by rfl) g__law_draw k__law_draw b__law_draw_2 (by intro us ws h1 h2; match us, h1, ws, h2 with | [_, _], _, [], _ => rfl) (fun _ _ => .nil) (passes_call (takes_of rfl rfl rfl rfl) (fun _ _ _ _ h => h)) (va_cons (ve_var 0) (va_cons ve_int va_nil))) va_nil)) (vg_name (i := 5) sc__law_word.nd rfl (.inl rfl)) (vss_kill [5] (vss_one (vs_set (i := 4) sc__law_word.nd rfl (.inl rfl) (ve_add false (ve_var 4) (ve_sub_ix hu (ve_var 2) (ve_callP (ds := []) (dvs := []) (ss := [.pos 0, .pos 1]) G__law_draw gd (hr.mono (by decide)) (by rfl) g__law_draw k__law_draw b__law_draw_2 (by intro us ws h1 h2; match us, h1, ws, h2 with | [_, _], _, [], _ => rfl) (fun _ _ => .nil) (passes_call (takes_of rfl rfl rfl rfl) (fun _ _ _ _ h => h)) (va_cons (ve_var 0) (va_cons ve_int va_nil))) (fun _ _ => rfl)))))))) (vss_cons (vs_set (i := 6) sc__law_word.nd rfl (.inl rfl) (ve_sub_ix hu (ve_var 1) (ve_callP (ds := []) (dvs := []) (ss := [.pos 0, .pos 1]) G__law_draw gd (hr.mono (by decide)) (by rfl) g__law_draw k__law_draw b__law_draw_2 (by intro us ws h1 h2; match us, h1, ws, h2 with | [_, _], _, [], _ => rfl) (fun _ _ => .nil) (passes_call (takes_of rfl rfl rfl rfl) (fun _ _ _ _ h => h)) (va_cons (ve_var 0) (va_cons (ve_callB ob_len (by rfl) m_len (by decide +kernel) (va_cons (ve_var 1) va_nil)) va_nil))) (fun _ _ => rfl)))
      (vss_one (vs_set (i := 4) sc__law_word.nd rfl (.inl rfl) (ve_ifExp (OkC.vt (oc_eq hu) (ve_var 3) ve_int (nomark _)) (ve_slice false (ve_var 6) vo_none (vo_some (ve_add false ve_int (ve_callP (ds := []) (dvs := []) (ss := [.pos 0, .pos 1]) G__law_draw gd (hr.mono (by decide)) (by rfl) g__law_draw k__law_draw b__law_draw_2 (by intro us ws h1 h2; match us, h1, ws, h2 with | [_, _], _, [], _ => rfl) (fun _ _ => .nil) (passes_call (takes_of rfl rfl rfl rfl) (fun _ _ _ _ h => h)) (va_cons (ve_var 0) (va_cons (ve_callB ob_len (by rfl) m_len (by decide +kernel) (va_cons (ve_var 6) va_nil)) va_nil)))))) (ve_add false (ve_slice false (ve_var 6) vo_none (vo_some ve_int)) (ve_sub_ix hu (ve_var 2) (ve_callP (ds := []) (dvs := []) (ss := [.pos 0, .pos 1]) G__law_draw gd (hr.mono (by decide)) (by rfl) g__law_draw k__law_draw b__law_draw_2 (by intro us ws h1 h2; match us, h1, ws, h2 with | [_, _], _, [], _ => rfl) (fun _ _ => .nil) (passes_call (takes_of rfl rfl rfl rfl) (fun _ _ _ _ h => h)) (va_cons (ve_var 0) (va_cons ve_int va_nil))) (fun _ _ => rfl))))))))
      (vss_cons (vs_for (passes_of rfl) rfl (vi_range1 (by rfl) m_range (va_cons ve_int va_nil)) (vg_name (i := 5) sc__law_word.nd rfl (.inl rfl)) (vss_kill [5] (vss_cons (vs_if (OkC.vt (oc_notin hu) (ve_var 4) (ve_var 1) (by rfl)) (vss_one vs_break) vss_nil)
      (vss_one (vs_set (i := 4) sc__law_word.nd rfl (.inl rfl) (ve_callP (ds := []) (dvs := []) (ss := [.pos 0]) G__law_after gd (hr.mono (by decide)) (by rfl) g__law_after k__law_after b__law_after_1 (by intro us ws h1 h2; match us, h1, ws, h2 with | [_], _, [], _ => rfl) (fun _ _ => .nil) (passes_call (takes_of rfl rfl rfl rfl) (fun _ _ _ _ h => h)) (va_cons (ve_var 4) va_nil)))))))
      (vss_one (vs_ret (ve_var 4))))))))
theorem ok__law_prices {f__law_prices : Addr} {fd__law_prices : FuncData} (F_ : Fun K "_law_prices" "_law_prices" s__law_prices f__law_prices fd__law_prices) {f__law_draw : Addr} {fd__law_draw : FuncData} (G__law_draw : FnG P w K mg base (L2.CX P w) 2 f__law_draw fd__law_draw ["_law_feed_here", "_law_many"] (spV K ⟨mg, w⟩ 2 F__law_draw_ed7e)) (k__law_draw : PySem.W.keepIn K (.ref f__law_draw) = true) (g__law_draw : mg "_law_draw" = some (.ref f__law_draw)) (b__law_draw_2 : BindV K fd__law_draw ["_law_feed_here", "_law_many"] 2 [] [] [.pos 0, .pos 1]) (m_range : mg "range" = none) (m_tuple : mg "tuple" = none) : FnG P w K mg base (L2.CX P w) 3 f__law_prices fd__law_prices ["_law_feed_here"] (spV K ⟨mg, w⟩ 1 F__law_prices_33c9) := by
  refine gokV (k := 2) 0 F_ sc__law_prices fun cdv A gd outer s H E hr => ?_
  have hu := hu65 hr
  exact (vss_cons (vs_par (i := 1) (j := 2) (by rfl) sc__law_prices.nd rfl rfl (by decide) rfl rfl (va_cons (ve_lst true va_nil) (va_cons ve_int va_nil)) (by rfl))
      (vss_cons (vs_for (passes_of rfl) rfl (vi_range1 (by rfl) m_range (va_cons (ve_add false ve_int (ve_callP (ds := []) (dvs := []) (ss := [.pos 0, .pos 1]) G__law_draw gd (hr.mono (by decide)) (by rfl) g__law_draw k__law_draw b__law_draw_2 (by intro us ws h1 h2; match us, h1, ws, h2 with | [_, _], _, [], _ => rfl) (fun _ _ => .nil) (passes_call (takes_of rfl rfl rfl rfl) (fun _ _ _ _ h => h)) (va_cons (ve_var 0) (va_cons ve_int va_nil)))) va_nil)) (vg_name (i := 3) sc__law_prices.nd rfl (.inl rfl)) (vss_kill [3, 4] (vss_cons (vs_set (i := 4) sc__law_prices.nd rfl (.inl rfl) (ve_tup (va_cons ve_int (va_cons ve_int (va_cons (ve_callP (ds := []) (dvs := []) (ss := [.pos 0, .pos 1]) G__law_draw gd (hr.mono (by decide)) (by rfl) g__law_draw k__law_draw b__law_draw_2 (by intro us ws h1 h2; match us, h1, ws, h2 with | [_, _], _, [], _ => rfl) (fun _ _ => .nil) (passes_call (takes_of rfl rfl rfl rfl) (fun _ _ _ _ h => h)) (va_cons (ve_var 0) (va_cons ve_int va_nil))) (va_cons (ve_sub ve_int (ve_callP (ds := []) (dvs := []) (ss := [.pos 0, .pos 1]) G__law_draw gd (hr.mono (by decide)) (by rfl) g__law_draw k__law_draw b__law_draw_2 (by intro us ws h1 h2; match us, h1, ws, h2 with | [_, _], _, [], _ => rfl) (fun _ _ => .nil) (passes_call (takes_of rfl rfl rfl rfl) (fun _ _ _ _ h => h)) (va_cons (ve_var 0) (va_cons ve_int va_nil)))) (va_cons (ve_callP (ds := []) (dvs := []) (ss := [.pos 0, .pos 1]) G__law_draw gd (hr.mono (by decide)) (by rfl) g__law_draw k__law_draw b__law_draw_2 (by intro us ws h1 h2; match us, h1, ws, h2 with | [_, _], _, [], _ => rfl) (fun _ _ => .nil) (passes_call (takes_of rfl rfl rfl rfl) (fun _ _ _ _ h => h)) (va_cons (ve_var 0) (va_cons ve_int va_nil))) va_nil)))))))
      (vss_cons (vs_expr (ve_ml PySem.F.slot_list_append PySem.F.type_list_append om_append (ve_var 1) (va_cons (ve_tup (va_cons (ve_var 2) (va_cons (ve_sub_ix hu (ve_var 4) (ve_callP (ds := []) (dvs := []) (ss := [.pos 0, .pos 1]) G__law_draw gd (hr.mono (by decide)) (by rfl) g__law_draw k__law_draw b__law_draw_2 (by intro us ws h1 h2; match us, h1, ws, h2 with | [_, _], _, [], _ => rfl) (fun _ _ => .nil) (passes_call (takes_of rfl rfl rfl rfl) (fun _ _ _ _ h => h)) (va_cons (ve_var 0) (va_cons ve_int va_nil))) (fun _ _ => rfl)) va_nil))) va_nil)))
      (vss_one (vs_aug (i := 2) sc__law_prices.nd rfl (.inl rfl) (ve_add false ve_int (ve_sub_ix hu (ve_tup (va_cons ve_int (va_cons (ve_callP (ds := []) (dvs := []) (ss := [.pos 0, .pos 1]) G__law_draw gd (hr.mono (by decide)) (by rfl) g__law_draw k__law_draw b__law_draw_2 (by intro us ws h1 h2; match us, h1, ws, h2 with | [_, _], _, [], _ => rfl) (fun _ _ => .nil) (passes_call (takes_of rfl rfl rfl rfl) (fun _ _ _ _ h => h)) (va_cons (ve_var 0) (va_cons ve_int va_nil))) (va_cons (ve_callP (ds := []) (dvs := []) (ss := [.pos 0, .pos 1]) G__law_draw gd (hr.mono (by decide)) (by rfl) g__law_draw k__law_draw b__law_draw_2 (by intro us ws h1 h2; match us, h1, ws, h2 with | [_, _], _, [], _ => rfl) (fun _ _ => .nil) (passes_call (takes_of rfl rfl rfl rfl) (fun _ _ _ _ h => h)) (va_cons (ve_var 0) (va_cons ve_int va_nil))) va_nil)))) (ve_callP (ds := []) (dvs := []) (ss := [.pos 0, .pos 1]) G__law_draw gd (hr.mono (by decide)) (by rfl) g__law_draw k__law_draw b__law_draw_2 (by intro us ws h1 h2; match us, h1, ws, h2 with | [_, _], _, [], _ => rfl) (fun _ _ => .nil) (passes_call (takes_of rfl rfl rfl rfl) (fun _ _ _ _ h => h)) (va_cons (ve_var 0) (va_cons ve_int va_nil))) (fun _ _ => rfl))) oi_add))))))
      (vss_one (vs_ret (ve_callTy ob_tuple (by rfl) m_tuple (by decide +kernel) (va_cons (ve_var 1) va_nil))))))
theorem ok__law_menu {f__law_menu : Addr} {fd__law_menu : FuncData} (F_ : Fun K "_law_menu" "_law_menu" s__law_menu f__law_menu fd__law_menu) {f__law_draw : Addr} {fd__law_draw : FuncData} (G__law_draw : FnG P w K mg base (L2.CX P w) 2 f__law_draw fd__law_draw ["_law_feed_here", "_law_many"] (spV K ⟨mg, w⟩ 2 F__law_draw_ed7e)) (k__law_draw : PySem.W.keepIn K (.ref f__law_draw) = true) (g__law_draw : mg "_law_draw" = some (.ref f__law_draw)) {f__law_prices : Addr} {fd__law_prices : FuncData} (G__law_prices : FnG P w K mg base (L2.CX P w) 3 f__law_prices fd__law_prices ["_law_feed_here"] (spV K ⟨mg, w⟩ 1 F__law_prices_33c9)) (k__law_prices : PySem.W.keepIn K (.ref f__law_prices) = true) (g__law_prices : mg "_law_prices" = some (.ref f__law_prices)) {f__law_word : Addr} {fd__law_word : FuncData} (G__law_word : FnG P w K mg base (L2.CX P w) 3 f__law_word fd__law_word ["_law_feed_here", "_law_found"] (spV K ⟨mg, w⟩ 2 F__law_word_8a86)) (k__law_word : PySem.W.keepIn K (.ref f__law_word) = true) (g__law_word : mg "_law_word" = some (.ref f__law_word)) (b__law_draw_2 : BindV K fd__law_draw ["_law_feed_here", "_law_many"] 2 [] [] [.pos 0, .pos 1]) (b__law_prices_1 : BindV K fd__law_prices ["_law_feed_here"] 1 [] [] [.pos 0]) (b__law_word_2 : BindV K fd__law_word ["_law_feed_here", "_law_found"] 2 [] [] [.pos 0, .pos 1]) (m_range : mg "range" = none) (m_sorted : mg "sorted" = none) (m_tuple : mg "tuple" = none) : FnG P w K mg base (L2.CX P w) 4 f__law_menu fd__law_menu ["_law_feed_here", "_law_many"] (spV K ⟨mg, w⟩ 2 F__law_menu_3a71) := by
  refine gokV (k := 3) 0 F_ sc__law_menu fun cdv A gd outer s H E hr => ?_
  have hu := hu65 hr
  exact (vss_cons (vs_set (i := 2) sc__law_menu.nd rfl (.inl rfl) (ve_lst true va_nil))
      (vss_cons (vs_for (passes_of rfl) rfl (vi_range1 (by rfl) m_range (va_cons (ve_var 1) va_nil)) (vg_name (i := 3) sc__law_menu.nd rfl (.inl rfl)) (vss_kill [3] (vss_one (vs_expr (ve_ml PySem.F.slot_list_append PySem.F.type_list_append om_append (ve_var 2) (va_cons (ve_callP (ds := []) (dvs := []) (ss := [.pos 0, .pos 1]) G__law_word gd (hr.mono (by decide)) (by rfl) g__law_word k__law_word b__law_word_2 (by intro us ws h1 h2; match us, h1, ws, h2 with | [_, _], _, [], _ => rfl) (fun _ _ => .nil) (passes_call (takes_of rfl rfl rfl rfl) (fun _ _ _ _ h => h)) (va_cons (ve_var 0) (va_cons (ve_var 2) va_nil))) va_nil))))))
      (vss_one (vs_ret (ve_callTy ob_tuple (by rfl) m_tuple (by decide +kernel) (va_cons (ve_lc false (own := [("_law_word_here", 4)]) (by decide) rfl sc__law_menu.nd (vi_seq (ve_callB (ob_sorted false) (by rfl) m_sorted (by decide +kernel) (va_cons (ve_var 2) va_nil))) (blkOk_by (own := [("_law_word_here", 4)]) (N := ["_law_feed_here", "_law_many", "_law_words", "_law_k", "_law_word_here"]) (sc := defScope s__law_menu) (by decide +kernel)) (fun _ _ _ _ _ => (vg_name (i := 4) sc__law_menu.nd rfl (.inl rfl))) (fun _ _ _ _ _ => vts_nil) (fun _ _ _ _ _ => (ve_tup (va_cons (ve_var 4) (va_cons (ve_callP (ds := []) (dvs := []) (ss := [.pos 0, .pos 1]) G__law_draw gd (hr.mono (by decide)) (by rfl) g__law_draw k__law_draw b__law_draw_2 (by intro us ws h1 h2; match us, h1, ws, h2 with | [_, _], _, [], _ => rfl) (fun _ _ => .nil) passL (va_cons (ve_var 0) (va_cons ve_int va_nil))) (va_cons (ve_callP (ds := []) (dvs := []) (ss := [.pos 0]) G__law_prices gd (hr.mono (by decide)) (by rfl) g__law_prices k__law_prices b__law_prices_1 (by intro us ws h1 h2; match us, h1, ws, h2 with | [_], _, [], _ => rfl) (fun _ _ => .nil) passL (va_cons (ve_var 0) va_nil)) va_nil)))))) va_nil))))))
theorem ok__law_offs {f__law_offs : Addr} {fd__law_offs : FuncData} (F_ : Fun K "_law_offs" "_law_offs" s__law_offs f__law_offs fd__law_offs) {f__law_draw : Addr} {fd__law_draw : FuncData} (G__law_draw : FnG P w K mg base (L2.CX P w) 2 f__law_draw fd__law_draw ["_law_feed_here", "_law_many"] (spV K ⟨mg, w⟩ 2 F__law_draw_ed7e)) (k__law_draw : PySem.W.keepIn K (.ref f__law_draw) = true) (g__law_draw : mg "_law_draw" = some (.ref f__law_draw)) {f__law_word : Addr} {fd__law_word : FuncData} (G__law_word : FnG P w K mg base (L2.CX P w) 3 f__law_word fd__law_word ["_law_feed_here", "_law_found"] (spV K ⟨mg, w⟩ 2 F__law_word_8a86)) (k__law_word : PySem.W.keepIn K (.ref f__law_word) = true) (g__law_word : mg "_law_word" = some (.ref f__law_word)) (b__law_draw_2 : BindV K fd__law_draw ["_law_feed_here", "_law_many"] 2 [] [] [.pos 0, .pos 1]) (b__law_word_2 : BindV K fd__law_word ["_law_feed_here", "_law_found"] 2 [] [] [.pos 0, .pos 1]) (m_range : mg "range" = none) (m_sorted : mg "sorted" = none) (m_tuple : mg "tuple" = none) : FnG P w K mg base (L2.CX P w) 4 f__law_offs fd__law_offs ["_law_feed_here", "_law_menu_here"] (spV K ⟨mg, w⟩ 2 F__law_offs_9cbf) := by
  refine gokV (k := 3) 0 F_ sc__law_offs fun cdv A gd outer s H E hr => ?_
  have hu := hu65 hr
  exact (vss_cons (vs_set (i := 2) sc__law_offs.nd rfl (.inl rfl) (ve_lst true va_nil))
      (vss_cons (vs_for (passes_of rfl) rfl (vi_range1 (by rfl) m_range (va_cons (ve_callP (ds := []) (dvs := []) (ss := [.pos 0, .pos 1]) G__law_draw gd (hr.mono (by decide)) (by rfl) g__law_draw k__law_draw b__law_draw_2 (by intro us ws h1 h2; match us, h1, ws, h2 with | [_, _], _, [], _ => rfl) (fun _ _ => .nil) (passes_call (takes_of rfl rfl rfl rfl) (fun _ _ _ _ h => h)) (va_cons (ve_var 0) (va_cons ve_int va_nil))) va_nil)) (vg_name (i := 3) sc__law_offs.nd rfl (.inl rfl)) (vss_kill [3, 4, 5, 6, 7] (vss_cons (vs_setLc true (i := 4) (own := [("_law_row", 8)]) (by decide) rfl sc__law_offs.nd rfl rfl (sw_true rfl rfl rfl (by decide +kernel)) (vi_seq (ve_var 1)) (blkOk_by (own := [("_law_row", 8)]) (N := ["_law_feed_here", "_law_menu_here", "_law_found", "_law_k", "_law_items", "_law_low", "_law_high", "_law_percent", "_law_row"]) (sc := defScope s__law_offs) (by decide +kernel)) (fun _ _ _ _ _ => (vg_name (i := 8) sc__law_offs.nd rfl (.inl rfl))) (fun _ _ _ _ _ => (vts_one (OkC.vt (oc_eq hu) (ve_callP (ds := []) (dvs := []) (ss := [.pos 0, .pos 1]) G__law_draw gd (hr.mono (by decide)) (by rfl) g__law_draw k__law_draw b__law_draw_2 (by intro us ws h1 h2; match us, h1, ws, h2 with | [_, _], _, [], _ => rfl) (fun _ _ => .nil) passL (va_cons (ve_var 0) (va_cons ve_int va_nil))) ve_int (nomark _)))) (fun _ _ _ _ _ => (ve_sub_ix hu (ve_var 8) ve_int (fun _ _ => rfl))))
      (vss_cons (vs_if (OkC.vt (oc_eq hu) (ve_callP (ds := []) (dvs := []) (ss := [.pos 0, .pos 1]) G__law_draw gd (hr.mono (by decide)) (by rfl) g__law_draw k__law_draw b__law_draw_2 (by intro us ws h1 h2; match us, h1, ws, h2 with | [_, _], _, [], _ => rfl) (fun _ _ => .nil) (passes_call (takes_of rfl rfl rfl rfl) (fun _ _ _ _ h => h)) (va_cons (ve_var 0) (va_cons ve_int va_nil))) ve_int (nomark _)) (vss_one (vs_expr (ve_ml PySem.F.slot_list_append PySem.F.type_list_append om_append (ve_var 4) (va_cons (ve_callP (ds := []) (dvs := []) (ss := [.pos 0, .pos 1]) G__law_word gd (hr.mono (by decide)) (by rfl) g__law_word k__law_word b__law_word_2 (by intro us ws h1 h2; match us, h1, ws, h2 with | [_, _], _, [], _ => rfl) (fun _ _ => .nil) (passes_call (takes_of rfl rfl rfl rfl) (fun _ _ _ _ h => h)) (va_cons (ve_var 0) (va_cons (ve_lc false (own := [("_law_row", 8)]) (by decide) rfl sc__law_offs.nd (vi_seq (ve_var 1)) (blkOk_by (own := [("_law_row", 8)]) (N := ["_law_feed_here", "_law_menu_here", "_law_found", "_law_k", "_law_items", "_law_low", "_law_high", "_law_percent", "_law_row"]) (sc := defScope s__law_offs) (by decide +kernel)) (fun _ _ _ _ _ => (vg_name (i := 8) sc__law_offs.nd rfl (.inl rfl))) (fun _ _ _ _ _ => vts_nil) (fun _ _ _ _ _ => (ve_sub_ix hu (ve_var 8) ve_int (fun _ _ => rfl)))) va_nil))) va_nil)))) vss_nil)
      (vss_cons (vs_set (i := 5) sc__law_offs.nd rfl (.inl rfl) (ve_sub_ix hu (ve_tup (va_cons ve_int (va_cons (ve_callP (ds := []) (dvs := []) (ss := [.pos 0, .pos 1]) G__law_draw gd (hr.mono (by decide)) (by rfl) g__law_draw k__law_draw b__law_draw_2 (by intro us ws h1 h2; match us, h1, ws, h2 with | [_, _], _, [], _ => rfl) (fun _ _ => .nil) (passes_call (takes_of rfl rfl rfl rfl) (fun _ _ _ _ h => h)) (va_cons (ve_var 0) (va_cons ve_int va_nil))) (va_cons (ve_callP (ds := []) (dvs := []) (ss := [.pos 0, .pos 1]) G__law_draw gd (hr.mono (by decide)) (by rfl) g__law_draw k__law_draw b__law_draw_2 (by intro us ws h1 h2; match us, h1, ws, h2 with | [_, _], _, [], _ => rfl) (fun _ _ => .nil) (passes_call (takes_of rfl rfl rfl rfl) (fun _ _ _ _ h => h)) (va_cons (ve_var 0) (va_cons ve_int va_nil))) va_nil)))) (ve_callP (ds := []) (dvs := []) (ss := [.pos 0, .pos 1]) G__law_draw gd (hr.mono (by decide)) (by rfl) g__law_draw k__law_draw b__law_draw_2 (by intro us ws h1 h2; match us, h1, ws, h2 with | [_, _], _, [], _ => rfl) (fun _ _ => .nil) (passes_call (takes_of rfl rfl rfl rfl) (fun _ _ _ _ h => h)) (va_cons (ve_var 0) (va_cons ve_int va_nil))) (fun _ _ => rfl)))
      (vss_cons (vs_set (i := 6) sc__law_offs.nd rfl (.inl rfl) (ve_sub_ix hu (ve_tup (va_cons (ve_var 5) (va_cons (ve_add false (ve_var 5) ve_int) (va_cons (ve_add false (ve_var 5) (ve_callP (ds := []) (dvs := []) (ss := [.pos 0, .pos 1]) G__law_draw gd (hr.mono (by decide)) (by rfl) g__law_draw k__law_draw b__law_draw_2 (by intro us ws h1 h2; match us, h1, ws, h2 with | [_, _], _, [], _ => rfl) (fun _ _ => .nil) (passes_call (takes_of rfl rfl rfl rfl) (fun _ _ _ _ h => h)) (va_cons (ve_var 0) (va_cons ve_int va_nil)))) (va_cons (ve_callP (ds := []) (dvs := []) (ss := [.pos 0, .pos 1]) G__law_draw gd (hr.mono (by decide)) (by rfl) g__law_draw k__law_draw b__law_draw_2 (by intro us ws h1 h2; match us, h1, ws, h2 with | [_, _], _, [], _ => rfl) (fun _ _ => .nil) (passes_call (takes_of rfl rfl rfl rfl) (fun _ _ _ _ h => h)) (va_cons (ve_var 0) (va_cons ve_int va_nil))) va_nil))))) (ve_callP (ds := []) (dvs := []) (ss := [.pos 0, .pos 1]) G__law_draw gd (hr.mono (by decide)) (by rfl) g__law_draw k__law_draw b__law_draw_2 (by intro us ws h1 h2; match us, h1, ws, h2 with | [_, _], _, [], _ => rfl) (fun _ _ => .nil) (passes_call (takes_of rfl rfl rfl rfl) (fun _ _ _ _ h => h)) (va_cons (ve_var 0) (va_cons ve_int va_nil))) (fun _ _ => rfl)))
      (vss_cons (vs_set (i := 7) sc__law_offs.nd rfl (.inl rfl) (ve_sub_ix hu (ve_tup (va_cons ve_int (va_cons ve_int (va_cons ve_int (va_cons ve_int (va_cons ve_int (va_cons (ve_callP (ds := []) (dvs := []) (ss := [.pos 0, .pos 1]) G__law_draw gd (hr.mono (by decide)) (by rfl) g__law_draw k__law_draw b__law_draw_2 (by intro us ws h1 h2; match us, h1, ws, h2 with | [_, _], _, [], _ => rfl) (fun _ _ => .nil) (passes_call (takes_of rfl rfl rfl rfl) (fun _ _ _ _ h => h)) (va_cons (ve_var 0) (va_cons ve_int va_nil))) va_nil))))))) (ve_callP (ds := []) (dvs := []) (ss := [.pos 0, .pos 1]) G__law_draw gd (hr.mono (by decide)) (by rfl) g__law_draw k__law_draw b__law_draw_2 (by intro us ws h1 h2; match us, h1, ws, h2 with | [_, _], _, [], _ => rfl) (fun _ _ => .nil) (passes_call (takes_of rfl rfl rfl rfl) (fun _ _ _ _ h => h)) (va_cons (ve_var 0) (va_cons ve_int va_nil))) (fun _ _ => rfl)))
      (vss_one (vs_expr (ve_ml PySem.F.slot_list_append PySem.F.type_list_append om_append (ve_var 2) (va_cons (ve_tup (va_cons (ve_callTy ob_tuple (by rfl) m_tuple (by decide +kernel) (va_cons (ve_callB (ob_sorted false) (by rfl) m_sorted (by decide +kernel) (va_cons (ve_var 4) va_nil)) va_nil)) (va_cons (ve_var 5) (va_cons (ve_var 6) (va_cons (ve_var 7) va_nil))))) va_nil)))))))))))
      (vss_one (vs_ret (ve_callTy ob_tuple (by rfl) m_tuple (by decide +kernel) (va_cons (ve_var 2) va_nil))))))
theorem ok__law_bend {f__law_bend : Addr} {fd__law_bend : FuncData} (F_ : Fun K "_law_bend" "_law_bend" s__law_bend f__law_bend fd__law_bend) (k__law_bend : PySem.W.keepIn K (.ref f__law_bend) = true) (g__law_bend : mg "_law_bend" = some (.ref f__law_bend)) {f__law_draw : Addr} {fd__law_draw : FuncData} (G__law_draw : FnG P w K mg base (L2.CX P w) 2 f__law_draw fd__law_draw ["_law_feed_here", "_law_many"] (spV K ⟨mg, w⟩ 2 F__law_draw_ed7e)) (k__law_draw : PySem.W.keepIn K (.ref f__law_draw) = true) (g__law_draw : mg "_law_draw" = some (.ref f__law_draw)) (b__law_bend_3 : BindV K fd__law_bend ["_law_feed_here", "_law_thing", "_law_odd_here"] 3 [] [] [.pos 0, .pos 1, .pos 2]) (b__law_draw_2 : BindV K fd__law_draw ["_law_feed_here", "_law_many"] 2 [] [] [.pos 0, .pos 1]) (m_int : mg "int" = none) (m_isinstance : mg "isinstance" = none) (m_len : mg "len" = none) (m_list : mg "list" = none) (m_str : mg "str" = none) (m_tuple : mg "tuple" = none) : ∀ n, FnG P w K mg base (L2.CX P w) (n + 3) f__law_bend fd__law_bend ["_law_feed_here", "_law_thing", "_law_odd_here"] (spV K ⟨mg, w⟩ 3 (F__law_bend n)) := by
  intro n
  induction n with
  | zero => exact FnG.never
  | succ n G__law_bend =>
    refine gokV (k := n + 3) 0 F_ sc__law_bend fun cdv A gd outer s H E hr => ?_
    have hu := hu65 hr
    exact (vss_cons (vs_if (PW.pt (vw_and (vt_val (ve_callB ob_isi (by rfl) m_isinstance (by decide +kernel) (va_cons (ve_var 1) (va_cons (ve_ty (by rfl) m_tuple (by decide +kernel)) va_nil)))) (vw_and (OkC.vt (oc_ne hu) (ve_var 1) (ve_tup va_nil) (nomark _)) (vw_and1 (OkC.vt oc_gt (ve_callP (ds := []) (dvs := []) (ss := [.pos 0, .pos 1]) G__law_draw gd (hr.mono (by omega)) (by rfl) g__law_draw k__law_draw b__law_draw_2 (by intro us ws h1 h2; match us, h1, ws, h2 with | [_, _], _, [], _ => rfl) (fun _ _ => .nil) (passes_call (takes_of rfl rfl rfl rfl) (fun _ _ _ _ h => h)) (va_cons (ve_var 0) (va_cons ve_int va_nil))) ve_int (nomark _)))))) (vss_cons (vs_set (i := 3) sc__law_bend.nd rfl (.inl rfl) (ve_callP (ds := []) (dvs := []) (ss := [.pos 0, .pos 1]) G__law_draw gd (hr.mono (by omega)) (by rfl) g__law_draw k__law_draw b__law_draw_2 (by intro us ws h1 h2; match us, h1, ws, h2 with | [_, _], _, [], _ => rfl) (fun _ _ => .nil) (passes_call (takes_of rfl rfl rfl rfl) (fun _ _ _ _ h => h)) (va_cons (ve_var 0) (va_cons (ve_callB ob_len (by rfl) m_len (by decide +kernel) (va_cons (ve_var 1) va_nil)) va_nil))))
      (vss_one (vs_ret (ve_add false (ve_add false (ve_slice false (ve_var 1) vo_none (vo_some (ve_var 3))) (ve_tup (va_cons (ve_callP (ds := []) (dvs := []) (ss := [.pos 0, .pos 1, .pos 2]) G__law_bend gd (hr.mono (by omega)) (by rfl) g__law_bend k__law_bend b__law_bend_3 (by intro us ws h1 h2; match us, h1, ws, h2 with | [_, _, _], _, [], _ => rfl) (fun _ _ => .nil) (passes_call (takes_of rfl rfl rfl rfl) (fun _ _ _ _ h => h)) (va_cons (ve_var 0) (va_cons (ve_sub_ix hu (ve_var 1) (ve_var 3) (fun _ _ => rfl)) (va_cons (ve_var 2) va_nil)))) va_nil))) (ve_slice false (ve_var 1) (vo_some (ve_add false (ve_var 3) ve_int)) vo_none))))) vss_nil)
      (vss_cons (vs_set (i := 4) sc__law_bend.nd rfl (.inl rfl) (ve_callP (ds := []) (dvs := []) (ss := [.pos 0, .pos 1]) G__law_draw gd (hr.mono (by omega)) (by rfl) g__law_draw k__law_draw b__law_draw_2 (by intro us ws h1 h2; match us, h1, ws, h2 with | [_, _], _, [], _ => rfl) (fun _ _ => .nil) (passes_call (takes_of rfl rfl rfl rfl) (fun _ _ _ _ h => h)) (va_cons (ve_var 0) (va_cons ve_int va_nil))))
      (vss_cons (vs_if (PW.pt (vw_and (vt_val (ve_callB ob_isi (by rfl) m_isinstance (by decide +kernel) (va_cons (ve_var 1) (va_cons (ve_ty (by rfl) m_tuple (by decide +kernel)) va_nil)))) (vw_and1 (OkC.vt (oc_lt hu) (ve_var 4) ve_int (nomark _))))) (vss_cons (vs_set (i := 3) sc__law_bend.nd rfl (.inl rfl) (ve_callP (ds := []) (dvs := []) (ss := [.pos 0, .pos 1]) G__law_draw gd (hr.mono (by omega)) (by rfl) g__law_draw k__law_draw b__law_draw_2 (by intro us ws h1 h2; match us, h1, ws, h2 with | [_, _], _, [], _ => rfl) (fun _ _ => .nil) (passes_call (takes_of rfl rfl rfl rfl) (fun _ _ _ _ h => h)) (va_cons (ve_var 0) (va_cons (ve_add false (ve_callB ob_len (by rfl) m_len (by decide +kernel) (va_cons (ve_var 1) va_nil)) ve_int) va_nil))))
      (vss_cons (vs_if (OkC.vt (oc_eq hu) (ve_var 4) ve_int (nomark _)) (vss_one (vs_ret (ve_add false (ve_add false (ve_slice false (ve_var 1) vo_none (vo_some (ve_var 3))) (ve_tup (va_cons (ve_sub_ix hu (ve_var 2) (ve_callP (ds := []) (dvs := []) (ss := [.pos 0, .pos 1]) G__law_draw gd (hr.mono (by omega)) (by rfl) g__law_draw k__law_draw b__law_draw_2 (by intro us ws h1 h2; match us, h1, ws, h2 with | [_, _], _, [], _ => rfl) (fun _ _ => .nil) (passes_call (takes_of rfl rfl rfl rfl) (fun _ _ _ _ h => h)) (va_cons (ve_var 0) (va_cons (ve_callB ob_len (by rfl) m_len (by decide +kernel) (va_cons (ve_var 2) va_nil)) va_nil))) (fun _ _ => rfl)) va_nil))) (ve_slice false (ve_var 1) (vo_some (ve_var 3)) vo_none)))) vss_nil)
      (vss_one (vs_ret (ve_ifExp (OkC.vt (oc_eq hu) (ve_var 4) ve_int (nomark _)) (ve_add false (ve_slice false (ve_var 1) vo_none (vo_some (ve_var 3))) (ve_slice false (ve_var 1) (vo_some (ve_add false (ve_var 3) ve_int)) vo_none)) (ve_ifExp (OkC.vt (oc_eq hu) (ve_var 4) ve_int (nomark _)) (ve_callTy (ob_list false) (by rfl) m_list (by decide +kernel) (va_cons (ve_var 1) va_nil)) (ve_add false (ve_var 1) (ve_slice false (ve_var 1) vo_none (vo_some (ve_var 3)))))))))) vss_nil)
      (vss_cons (vs_if (PW.pt (vw_and (vt_val (ve_callB ob_isi (by rfl) m_isinstance (by decide +kernel) (va_cons (ve_var 1) (va_cons (ve_ty (by rfl) m_int (by decide +kernel)) va_nil)))) (vw_and1 (OkC.vt (oc_lt hu) (ve_var 4) ve_int (nomark _))))) (vss_one (vs_ret (ve_sub_ix hu (ve_tup (va_cons (ve_add false (ve_var 1) ve_int) (va_cons (ve_sub (ve_var 1) ve_int) (va_cons (ve_neg (ve_var 1)) (va_cons (ve_tup (va_cons (ve_var 1) va_nil)) va_nil))))) (ve_var 4) (fun _ _ => rfl)))) vss_nil)
      (vss_cons (vs_if (PW.pt (vw_and (vt_val (ve_callB ob_isi (by rfl) m_isinstance (by decide +kernel) (va_cons (ve_var 1) (va_cons (ve_ty (by rfl) m_str (by decide +kernel)) va_nil)))) (vw_and1 (OkC.vt (oc_lt hu) (ve_var 4) ve_int (nomark _))))) (vss_one (vs_ret (ve_sub_ix hu (ve_tup (va_cons (ve_add false (ve_var 1) ve_str) (va_cons (ve_slice false (ve_var 1) (vo_some ve_int) vo_none) (va_cons (ve_lst false (va_cons (ve_var 1) va_nil)) va_nil)))) (ve_var 4) (fun _ _ => rfl)))) vss_nil)
      (vss_one (vs_ret (ve_sub_ix hu (ve_var 2) (ve_callP (ds := []) (dvs := []) (ss := [.pos 0, .pos 1]) G__law_draw gd (hr.mono (by omega)) (by rfl) g__law_draw k__law_draw b__law_draw_2 (by intro us ws h1 h2; match us, h1, ws, h2 with | [_, _], _, [], _ => rfl) (fun _ _ => .nil) (passes_call (takes_of rfl rfl rfl rfl) (fun _ _ _ _ h => h)) (va_cons (ve_var 0) (va_cons (ve_callB ob_len (by rfl) m_len (by decide +kernel) (va_cons (ve_var 2) va_nil)) va_nil))) (fun _ _ => rfl)))))))))
theorem ok__law_odd {f__law_odd : Addr} {fd__law_odd : FuncData} (F_ : Fun K "_law_odd" "_law_odd" s__law_odd f__law_odd fd__law_odd)  : FnG P w K mg base (L2.CX P w) 2 f__law_odd fd__law_odd [] (spV K ⟨mg, w⟩ 0 F__law_odd_2e17) := by
  refine gokV (k := 1) 0 F_ sc__law_odd fun cdv A gd outer s H E hr => ?_
  have hu := hu65 hr
  exact (vss_cons (vs_set (i := 0) sc__law_odd.nd rfl (.inl rfl) (ve_tup (va_cons ve_non (va_cons ve_bl (va_cons ve_bl (va_cons ve_str (va_cons ve_str (va_cons ve_str (va_cons ve_int (va_cons ve_int (va_cons ve_int (va_cons ve_int (va_cons (ve_neg ve_int) (va_cons (ve_tup va_nil) (va_cons (ve_lst false va_nil) (va_cons (ve_tup (va_cons (ve_lst false (va_cons ve_int va_nil)) (va_cons ve_str va_nil))) (va_cons (ve_tup (va_cons ve_str (va_cons ve_int va_nil))) (va_cons (ve_tup (va_cons ve_str va_nil)) va_nil))))))))))))))))))
      (vss_one (vs_ret (ve_add false (ve_var 0) (ve_tup (va_cons (ve_mul false (ve_mul false (ve_mul false (ve_pow ve_int ve_int) (ve_pow ve_int ve_int)) (ve_pow ve_int ve_int)) (ve_pow ve_int ve_int)) (va_cons ve_str (va_cons ve_str (va_cons ve_str (va_cons (ve_tup (va_cons ve_int va_nil)) (va_cons (ve_tup (va_cons ve_int (va_cons ve_int va_nil))) va_nil)))))))))))
theorem ok__law_same {f__law_same : Addr} {fd__law_same : FuncData} (F_ : Fun K "_law_same" "_law_same" s__law_same f__law_same fd__law_same)  : FnG P w K mg base (L2.CX P w) 2 f__law_same fd__law_same ["_law_told", "_law_wanted"] (spV K ⟨mg, w⟩ 2 F__law_same) := by
  refine gokV (k := 1) 0 F_ sc__law_same fun cdv A gd outer s H E hr => ?_
  have hu := hu65 hr
  exact (vss_one (vs_ret (ve_or (ve_and (OkC.ve oc_is (ve_var 0) ve_bl (nomark _)) (ve_one (ve_var 1))) (ve_one (ve_and (OkC.ve oc_is (ve_var 0) ve_bl (nomark _)) (ve_one (ve_not (ve_var 1))))))))
theorem ok__law_number {f__law_number : Addr} {fd__law_number : FuncData} (F_ : Fun K "_law_number" "_law_number" s__law_number f__law_number fd__law_number) (m_int : mg "int" = none) (m_isinstance : mg "isinstance" = none) : FnG P w K mg base (L2.CX P w) 2 f__law_number fd__law_number ["_law_thing"] (spV K ⟨mg, w⟩ 1 F__law_number_6395) := by
  refine gokV (k := 1) 0 F_ sc__law_number fun cdv A gd outer s H E hr => ?_
  have hu := hu65 hr
  exact (vss_one (vs_ret (ve_and (ve_callB ob_isi (by rfl) m_isinstance (by decide +kernel) (va_cons (ve_var 0) (va_cons (ve_ty (by rfl) m_int (by decide +kernel)) va_nil))) (ve_and (OkC.ve oc_isnot (ve_var 0) ve_bl (nomark _)) (ve_one (OkC.ve oc_isnot (ve_var 0) ve_bl (nomark _)))))))
theorem ok__law_worded {f__law_worded : Addr} {fd__law_worded : FuncData} (F_ : Fun K "_law_worded" "_law_worded" s__law_worded f__law_worded fd__law_worded) (m_isinstance : mg "isinstance" = none) (m_len : mg "len" = none) (m_ord : mg "ord" = none) (m_str : mg "str" = none) : FnG P w K mg base (L2.CX P w) 2 f__law_worded fd__law_worded ["_law_thing"] (spV K ⟨mg, w⟩ 1 F__law_worded_c386) := by
  refine gokV (k := 1) 0 F_ sc__law_worded fun cdv A gd outer s H E hr => ?_
  have hu := hu65 hr
  exact (vss_cons (vs_if (PW.pt (vw_or (vt_not (vt_val (ve_callB ob_isi (by rfl) m_isinstance (by decide +kernel) (va_cons (ve_var 0) (va_cons (ve_ty (by rfl) m_str (by decide +kernel)) va_nil))))) (vw_or (OkC.vt (oc_eq hu) (ve_var 0) ve_str (nomark _)) (vw_or1 (OkC.vt oc_gt (ve_callB ob_len (by rfl) m_len (by decide +kernel) (va_cons (ve_var 0) va_nil)) ve_int (nomark _)))))) (vss_one (vs_ret ve_bl)) vss_nil)
      (vss_one (vs_ret (OkC.ve (oc_eq hu) (ve_lc false (own := [("_law_sign", 1)]) (by decide) rfl sc__law_worded.nd (vi_seq (ve_var 0)) (blkOk_by (own := [("_law_sign", 1)]) (N := ["_law_thing", "_law_sign"]) (sc := defScope s__law_worded) (by decide +kernel)) (fun _ _ _ _ _ => (vg_name (i := 1) sc__law_worded.nd rfl (.inl rfl))) (fun _ _ _ _ _ => (vts_one (PW.pt (vw_or (OkC.vt (oc_lt hu) (ve_callB ob_ord (by rfl) m_ord (by decide +kernel) (va_cons (ve_var 1) va_nil)) ve_int (nomark _)) (vw_or1 (OkC.vt oc_gt (ve_callB ob_ord (by rfl) m_ord (by decide +kernel) (va_cons (ve_var 1) va_nil)) ve_int (nomark _))))))) (fun _ _ _ _ _ => (ve_var 1))) (ve_lst false va_nil) (nomark _)))))
theorem ok__law_offed {f__law_offed : Addr} {fd__law_offed : FuncData} (F_ : Fun K "_law_offed" "_law_offed" s__law_offed f__law_offed fd__law_offed) {f__law_number : Addr} {fd__law_number : FuncData} (G__law_number : FnG P w K mg base (L2.CX P w) 2 f__law_number fd__law_number ["_law_thing"] (spV K ⟨mg, w⟩ 1 F__law_number_6395)) (k__law_number : PySem.W.keepIn K (.ref f__law_number) = true) (g__law_number : mg "_law_number" = some (.ref f__law_number)) {f__law_worded : Addr} {fd__law_worded : FuncData} (G__law_worded : FnG P w K mg base (L2.CX P w) 2 f__law_worded fd__law_worded ["_law_thing"] (spV K ⟨mg, w⟩ 1 F__law_worded_c386)) (k__law_worded : PySem.W.keepIn K (.ref f__law_worded) = true) (g__law_worded : mg "_law_worded" = some (.ref f__law_worded)) (b__law_number_1 : BindV K fd__law_number ["_law_thing"] 1 [] [] [.pos 0]) (b__law_worded_1 : BindV K fd__law_worded ["_law_thing"] 1 [] [] [.pos 0]) (m_isinstance : mg "isinstance" = none) (m_len : mg "len" = none) (m_list : mg "list" = none) (m_min : mg "min" = none) (m_set : mg "set" = none) (m_sorted : mg "sorted" = none) (m_tuple : mg "tuple" = none) : FnG P w K mg base (L2.CX P w) 3 f__law_offed fd__law_offed ["_law_thing"] (spV K ⟨mg, w⟩ 1 F__law_offed) := by
  refine gokV (k := 2) 0 F_ sc__law_offed fun cdv A gd outer s H E hr => ?_
  have hu := hu65 hr
  exact (vss_cons (vs_if (vt_not (vt_val (ve_callB ob_isi (by rfl) m_isinstance (by decide +kernel) (va_cons (ve_var 0) (va_cons (ve_ty (by rfl) m_tuple (by decide +kernel)) va_nil))))) (vss_one (vs_ret ve_bl)) vss_nil)
      (vss_cons (vs_for (passes_of rfl) rfl (vi_seq (ve_var 0)) (vg_name (i := 1) sc__law_offed.nd rfl (.inl rfl)) (vss_kill [1] (vss_cons (vs_if (PW.pt (vw_or (vt_not (vt_val (ve_callB ob_isi (by rfl) m_isinstance (by decide +kernel) (va_cons (ve_var 1) (va_cons (ve_ty (by rfl) m_tuple (by decide +kernel)) va_nil))))) (vw_or (OkC.vt (oc_ne hu) (ve_callB ob_len (by rfl) m_len (by decide +kernel) (va_cons (ve_var 1) va_nil)) ve_int (nomark _)) (vw_or1 (vt_not (vt_val (ve_callB ob_isi (by rfl) m_isinstance (by decide +kernel) (va_cons (ve_sub_ix hu (ve_var 1) ve_int (fun _ _ => rfl)) (va_cons (ve_ty (by rfl) m_tuple (by decide +kernel)) va_nil))))))))) (vss_one (vs_ret ve_bl)) vss_nil)
      (vss_cons (vs_if (PW.pt (vw_or (OkC.vt (oc_ne hu) (ve_lc false (own := [("_law_item", 3)]) (by decide) rfl sc__law_offed.nd (vi_seq (ve_sub_ix hu (ve_var 1) ve_int (fun _ _ => rfl))) (blkOk_by (own := [("_law_item", 3)]) (N := ["_law_thing", "_law_off", "_law_number_here", "_law_item"]) (sc := defScope s__law_offed) (by decide +kernel)) (fun _ _ _ _ _ => (vg_name (i := 3) sc__law_offed.nd rfl (.inl rfl))) (fun _ _ _ _ _ => (vts_one (vt_not (vt_val (ve_callP (ds := []) (dvs := []) (ss := [.pos 0]) G__law_worded gd (hr.mono (by decide)) (by rfl) g__law_worded k__law_worded b__law_worded_1 (by intro us ws h1 h2; match us, h1, ws, h2 with | [_], _, [], _ => rfl) (fun _ _ => .nil) passL (va_cons (ve_var 3) va_nil)))))) (fun _ _ _ _ _ => (ve_var 3))) (ve_lst false va_nil) (nomark _)) (vw_or1 (OkC.vt (oc_ne hu) (ve_callTy (ob_list false) (by rfl) m_list (by decide +kernel) (va_cons (ve_sub_ix hu (ve_var 1) ve_int (fun _ _ => rfl)) va_nil)) (ve_sortedSet false rfl (by rfl) m_sorted (by rfl) m_set (ve_sub_ix hu (ve_var 1) ve_int (fun _ _ => rfl))) (nomark _))))) (vss_one (vs_ret ve_bl)) vss_nil)
      (vss_cons (vs_if (OkC.vt (oc_ne hu) (ve_lc false (own := [("_law_number_here", 2)]) (by decide) rfl sc__law_offed.nd (vi_seq (ve_slice false (ve_var 1) (vo_some ve_int) vo_none)) (blkOk_by (own := [("_law_number_here", 2)]) (N := ["_law_thing", "_law_off", "_law_number_here", "_law_item"]) (sc := defScope s__law_offed) (by decide +kernel)) (fun _ _ _ _ _ => (vg_name (i := 2) sc__law_offed.nd rfl (.inl rfl))) (fun _ _ _ _ _ => (vts_one (vt_not (vt_val (ve_callP (ds := []) (dvs := []) (ss := [.pos 0]) G__law_number gd (hr.mono (by decide)) (by rfl) g__law_number k__law_number b__law_number_1 (by intro us ws h1 h2; match us, h1, ws, h2 with | [_], _, [], _ => rfl) (fun _ _ => .nil) passL (va_cons (ve_var 2) va_nil)))))) (fun _ _ _ _ _ => (ve_var 2))) (ve_lst false va_nil) (nomark _)) (vss_one (vs_ret ve_bl)) vss_nil)
      (vss_one (vs_if (PW.pt (vw_or (OkC.vt (oc_lt hu) (ve_callB (ob_min rfl) (by rfl) m_min (by decide +kernel) (va_cons (ve_slice false (ve_var 1) (vo_some ve_int) vo_none) va_nil)) ve_int (nomark _)) (vw_or1 (OkC.vt oc_gt (ve_sub_ix hu (ve_var 1) ve_int (fun _ _ => rfl)) ve_int (nomark _))))) (vss_one (vs_ret ve_bl)) vss_nil)))))))
      (vss_one (vs_ret ve_bl))))
theorem ok__law_fixed {f__law_fixed : Addr} {fd__law_fixed : FuncData} (F_ : Fun K "_law_fixed" "_law_fixed" s__law_fixed f__law_fixed fd__law_fixed) (m_list : mg "list" = none) (m_tuple : mg "tuple" = none) : FnG P w K mg base (L2.CX P w) 2 f__law_fixed fd__law_fixed [] (spV K ⟨mg, w⟩ 0 F__law_fixed_a7f8) := by
  refine gokV (k := 1) 0 F_ sc__law_fixed fun cdv A gd outer s H E hr => ?_
  have hu := hu65 hr
  exact (vss_cons (vs_set (i := 0) sc__law_fixed.nd rfl (.inl rfl) (ve_pow ve_int ve_int))
      (vss_cons (vs_set (i := 1) sc__law_fixed.nd rfl (.inl rfl) (ve_tup (va_cons (ve_tup (va_cons ve_str (va_cons ve_str va_nil))) (va_cons ve_int (va_cons ve_int (va_cons ve_int va_nil))))))
      (vss_cons (vs_set (i := 2) sc__law_fixed.nd rfl (.inl rfl) (ve_lst true (va_cons (ve_tup va_nil) (va_cons (ve_tup (va_cons (ve_var 1) va_nil)) (va_cons (ve_tup (va_cons (ve_var 1) (va_cons (ve_var 1) va_nil))) (va_cons (ve_lst false (va_cons (ve_var 1) va_nil)) (va_cons (ve_var 1) (va_cons ve_non (va_cons ve_int (va_cons ve_str (va_cons (ve_tup (va_cons (ve_tup va_nil) va_nil)) (va_cons (ve_tup (va_cons ve_non va_nil)) (va_cons (ve_tup (va_cons (ve_var 1) (va_cons (ve_callTy (ob_list false) (by rfl) m_list (by decide +kernel) (va_cons (ve_var 1) va_nil)) va_nil))) (va_cons (ve_tup (va_cons (ve_tup (va_cons (ve_tup (va_cons ve_str va_nil)) (va_cons ve_int (va_cons ve_int va_nil)))) va_nil)) va_nil))))))))))))))
      (vss_cons (vs_expr (ve_ml PySem.F.slot_list_extend PySem.F.type_list_extend om_extend (ve_var 2) (va_cons (ve_lst false (va_cons (ve_tup (va_cons (ve_tup (va_cons (ve_tup va_nil) (va_cons ve_int (va_cons ve_int (va_cons ve_int va_nil))))) va_nil)) (va_cons (ve_tup (va_cons (ve_tup (va_cons (ve_tup (va_cons ve_str va_nil)) (va_cons ve_int (va_cons ve_int (va_cons ve_int va_nil))))) va_nil)) (va_cons (ve_tup (va_cons (ve_tup (va_cons (ve_tup (va_cons ve_str va_nil)) (va_cons ve_int (va_cons ve_int (va_cons ve_int va_nil))))) va_nil)) (va_cons (ve_tup (va_cons (ve_tup (va_cons (ve_tup (va_cons ve_str va_nil)) (va_cons ve_int (va_cons ve_int (va_cons (ve_neg ve_int) va_nil))))) va_nil)) va_nil))))) va_nil)))
      (vss_cons (vs_expr (ve_ml PySem.F.slot_list_extend PySem.F.type_list_extend om_extend (ve_var 2) (va_cons (ve_lst false (va_cons (ve_tup (va_cons (ve_tup (va_cons (ve_tup (va_cons ve_str va_nil)) (va_cons (ve_neg ve_int) (va_cons ve_int (va_cons ve_int va_nil))))) va_nil)) (va_cons (ve_tup (va_cons (ve_tup (va_cons (ve_tup (va_cons ve_str va_nil)) (va_cons ve_int (va_cons (ve_neg ve_int) (va_cons ve_int va_nil))))) va_nil)) (va_cons (ve_tup (va_cons (ve_tup (va_cons (ve_tup (va_cons ve_str va_nil)) (va_cons ve_bl (va_cons ve_int (va_cons ve_int va_nil))))) va_nil)) (va_cons (ve_tup (va_cons (ve_tup (va_cons (ve_tup (va_cons ve_str va_nil)) (va_cons ve_int (va_cons ve_int (va_cons ve_bl va_nil))))) va_nil)) va_nil))))) va_nil)))
      (vss_cons (vs_expr (ve_ml PySem.F.slot_list_extend PySem.F.type_list_extend om_extend (ve_var 2) (va_cons (ve_lst false (va_cons (ve_tup (va_cons (ve_tup (va_cons (ve_tup (va_cons ve_str (va_cons ve_str va_nil))) (va_cons ve_int (va_cons ve_int (va_cons ve_int va_nil))))) va_nil)) (va_cons (ve_tup (va_cons (ve_tup (va_cons (ve_tup (va_cons ve_str (va_cons ve_str va_nil))) (va_cons ve_int (va_cons ve_int (va_cons ve_int va_nil))))) va_nil)) (va_cons (ve_tup (va_cons (ve_tup (va_cons (ve_lst false (va_cons ve_str va_nil)) (va_cons ve_int (va_cons ve_int (va_cons ve_int va_nil))))) va_nil)) (va_cons (ve_tup (va_cons (ve_tup (va_cons ve_str (va_cons ve_int (va_cons ve_int (va_cons ve_int va_nil))))) va_nil)) va_nil))))) va_nil)))
      (vss_cons (vs_expr (ve_ml PySem.F.slot_list_extend PySem.F.type_list_extend om_extend (ve_var 2) (va_cons (ve_lst false (va_cons (ve_tup (va_cons (ve_tup (va_cons (ve_tup (va_cons ve_str (va_cons ve_int va_nil))) (va_cons ve_int (va_cons ve_int (va_cons ve_int va_nil))))) va_nil)) (va_cons (ve_tup (va_cons (ve_tup (va_cons (ve_tup (va_cons ve_str (va_cons (ve_lst false (va_cons ve_str va_nil)) va_nil))) (va_cons ve_int (va_cons ve_int (va_cons ve_int va_nil))))) va_nil)) (va_cons (ve_tup (va_cons (ve_tup (va_cons (ve_tup (va_cons ve_str (va_cons ve_str va_nil))) (va_cons ve_int (va_cons ve_int (va_cons ve_int va_nil))))) va_nil)) (va_cons (ve_tup (va_cons (ve_tup (va_cons (ve_tup (va_cons ve_str va_nil)) (va_cons ve_int (va_cons ve_int (va_cons ve_int va_nil))))) va_nil)) va_nil))))) va_nil)))
      (vss_cons (vs_expr (ve_ml PySem.F.slot_list_extend PySem.F.type_list_extend om_extend (ve_var 2) (va_cons (ve_lst false (va_cons (ve_tup (va_cons (ve_tup (va_cons (ve_tup (va_cons ve_str (va_cons ve_str (va_cons ve_str va_nil)))) (va_cons ve_int (va_cons ve_int (va_cons ve_int va_nil))))) va_nil)) (va_cons (ve_tup (va_cons (ve_tup (va_cons (ve_tup (va_cons ve_str (va_cons ve_str va_nil))) (va_cons ve_int (va_cons ve_int (va_cons ve_int va_nil))))) va_nil)) (va_cons (ve_tup (va_cons (ve_tup (va_cons (ve_tup (va_cons ve_str va_nil)) (va_cons ve_int (va_cons (ve_var 0) (va_cons ve_int va_nil))))) va_nil)) va_nil)))) va_nil)))
      (vss_cons (vs_expr (ve_ml PySem.F.slot_list_extend PySem.F.type_list_extend om_extend (ve_var 2) (va_cons (ve_lst false (va_cons (ve_tup (va_cons (ve_tup (va_cons (ve_tup (va_cons ve_str va_nil)) (va_cons ve_non (va_cons ve_int (va_cons ve_int va_nil))))) va_nil)) (va_cons (ve_tup (va_cons (ve_tup (va_cons (ve_tup (va_cons ve_str va_nil)) (va_cons ve_int (va_cons ve_str (va_cons ve_int va_nil))))) va_nil)) (va_cons (ve_tup (va_cons (ve_tup (va_cons (ve_tup (va_cons ve_str va_nil)) (va_cons (ve_lst false (va_cons ve_int va_nil)) (va_cons ve_int (va_cons ve_int va_nil))))) va_nil)) va_nil)))) va_nil)))
      (vss_cons (vs_expr (ve_ml PySem.F.slot_list_append PySem.F.type_list_append om_append (ve_var 2) (va_cons (ve_tup (va_cons (ve_tup (va_cons (ve_tup (va_cons ve_str va_nil)) (va_cons ve_int (va_cons ve_int (va_cons ve_int va_nil))))) va_nil)) va_nil)))
      (vss_cons (vs_expr (ve_ml PySem.F.slot_list_extend PySem.F.type_list_extend om_extend (ve_var 2) (va_cons (ve_lst false (va_cons (ve_tup (va_cons (ve_tup (va_cons (ve_tup (va_cons ve_str va_nil)) (va_cons ve_int (va_cons ve_int (va_cons ve_int (va_cons ve_int va_nil)))))) va_nil)) (va_cons (ve_tup (va_cons (ve_tup (va_cons (ve_tup (va_cons ve_str va_nil)) (va_cons ve_int (va_cons ve_int (va_cons (ve_var 0) va_nil))))) va_nil)) (va_cons (ve_mul false (ve_tup (va_cons (ve_var 1) va_nil)) ve_int) (va_cons (ve_add false (ve_mul false (ve_tup (va_cons (ve_var 1) va_nil)) ve_int) (ve_tup (va_cons ve_non va_nil))) va_nil))))) va_nil)))
      (vss_one (vs_ret (ve_add true (ve_var 2) (ve_lst false (va_cons (ve_tup (va_cons (ve_tup (va_cons (ve_callTy ob_tuple (by rfl) m_tuple (by decide +kernel) (va_cons (ve_lc false (own := [("_law_sign", 3)]) (by decide) rfl sc__law_fixed.nd (vi_seq ve_str) (blkOk_by (own := [("_law_sign", 3)]) (N := ["_law_great", "_law_one", "_law_found", "_law_sign"]) (sc := defScope s__law_fixed) (by decide +kernel)) (fun _ _ _ _ _ => (vg_name (i := 3) sc__law_fixed.nd rfl (.inl rfl))) (fun _ _ _ _ _ => vts_nil) (fun _ _ _ _ _ => (ve_add false ve_str (ve_var 3)))) va_nil)) (va_cons ve_int (va_cons ve_int (va_cons ve_int va_nil))))) va_nil)) va_nil))))))))))))))))
theorem ok__law_near {f__law_near : Addr} {fd__law_near : FuncData} (F_ : Fun K "_law_near" "_law_near" s__law_near f__law_near fd__law_near) {f__law_bend : Addr} {fd__law_bend : FuncData} (G__law_bend : FnG P w K mg base (L2.CX P w) 23 f__law_bend fd__law_bend ["_law_feed_here", "_law_thing", "_law_odd_here"] (spV K ⟨mg, w⟩ 3 (F__law_bend 20))) (k__law_bend : PySem.W.keepIn K (.ref f__law_bend) = true) (g__law_bend : mg "_law_bend" = some (.ref f__law_bend)) {f__law_draw : Addr} {fd__law_draw : FuncData} (G__law_draw : FnG P w K mg base (L2.CX P w) 2 f__law_draw fd__law_draw ["_law_feed_here", "_law_many"] (spV K ⟨mg, w⟩ 2 F__law_draw_ed7e)) (k__law_draw : PySem.W.keepIn K (.ref f__law_draw) = true) (g__law_draw : mg "_law_draw" = some (.ref f__law_draw)) {f__law_odd : Addr} {fd__law_odd : FuncData} (G__law_odd : FnG P w K mg base (L2.CX P w) 2 f__law_odd fd__law_odd [] (spV K ⟨mg, w⟩ 0 F__law_odd_2e17)) (k__law_odd : PySem.W.keepIn K (.ref f__law_odd) = true) (g__law_odd : mg "_law_odd" = some (.ref f__law_odd)) (b__law_bend_3 : BindV K fd__law_bend ["_law_feed_here", "_law_thing", "_law_odd_here"] 3 [] [] [.pos 0, .pos 1, .pos 2]) (b__law_draw_2 : BindV K fd__law_draw ["_law_feed_here", "_law_many"] 2 [] [] [.pos 0, .pos 1]) (b__law_odd_0 : BindV K fd__law_odd [] 0 [] [] []) (m_len : mg "len" = none) (m_list : mg "list" = none) : FnG P w K mg base (L2.CX P w) 24 f__law_near fd__law_near ["_law_feed_here", "_law_offs_here"] (spV K ⟨mg, w⟩ 2 F__law_near_5481) := by
  refine gokV (k := 23) 4 F_ sc__law_near fun cdv A gd outer s H E hr => ?_
  have hu := hu65 hr
  exact (vss_cons (vs_set (i := 2) sc__law_near.nd rfl (.inl rfl) (ve_callP (ds := []) (dvs := []) (ss := [.pos 0, .pos 1]) G__law_draw gd (hr.mono (by decide)) (by rfl) g__law_draw k__law_draw b__law_draw_2 (by intro us ws h1 h2; match us, h1, ws, h2 with | [_, _], _, [], _ => rfl) (fun _ _ => .nil) (passes_call (takes_of rfl rfl rfl rfl) (fun _ _ _ _ h => h)) (va_cons (ve_var 0) (va_cons (ve_callB ob_len (by rfl) m_len (by decide +kernel) (va_cons (ve_var 1) va_nil)) va_nil))))
      (vss_cons (vs_asg (ve_sub_ix hu (ve_var 1) (ve_var 2) (fun _ _ => rfl)) (vg_tup rfl (vgs_cons (vg_name (i := 3) sc__law_near.nd rfl (.inl rfl)) (vgs_cons (vg_name (i := 4) sc__law_near.nd rfl (.inl rfl)) (vgs_cons (vg_name (i := 5) sc__law_near.nd rfl (.inl rfl)) (vgs_cons (vg_name (i := 6) sc__law_near.nd rfl (.inl rfl)) vgs_nil))))))
      (vss_cons (vs_set (i := 7) sc__law_near.nd rfl (.inl rfl) (ve_callP (ds := []) (dvs := []) (ss := [.pos 0, .pos 1, .pos 2]) G__law_bend gd (hr.mono (by decide)) (by rfl) g__law_bend k__law_bend b__law_bend_3 (by intro us ws h1 h2; match us, h1, ws, h2 with | [_, _, _], _, [], _ => rfl) (fun _ _ => .nil) (passes_call (takes_of rfl rfl rfl rfl) (fun _ _ _ _ h => h)) (va_cons (ve_var 0) (va_cons (ve_var 1) (va_cons (ve_callZ (ds := []) (dvs := []) (ss := []) G__law_odd gd (hr.mono (by decide)) (by rfl) g__law_odd k__law_odd b__law_odd_0 (by intro us ws h1 h2; match us, h1, ws, h2 with | [], _, [], _ => rfl) (fun _ _ => .nil) (passes_call (takes_of rfl rfl rfl rfl) (fun _ _ _ _ h => h)) ) va_nil)))))
      (vss_cons (vs_set (i := 8) sc__law_near.nd rfl (.inl rfl) (ve_lst true (va_cons (ve_tup (va_cons (ve_revT (ve_var 3)) (va_cons (ve_var 4) (va_cons (ve_var 5) (va_cons (ve_var 6) va_nil))))) (va_cons (ve_tup (va_cons (ve_add false (ve_var 3) (ve_slice false (ve_var 3) (vo_some (ve_neg ve_int)) vo_none)) (va_cons (ve_var 4) (va_cons (ve_var 5) (va_cons (ve_var 6) va_nil))))) (va_cons (ve_tup (va_cons (ve_var 3) (va_cons (ve_var 4) (va_cons (ve_var 5) (va_cons ve_int va_nil))))) va_nil)))))
      (vss_cons (vs_expr (ve_ml PySem.F.slot_list_extend PySem.F.type_list_extend om_extend (ve_var 8) (va_cons (ve_lst false (va_cons (ve_tup (va_cons (ve_var 3) (va_cons (ve_var 4) (va_cons (ve_var 5) (va_cons ve_int va_nil))))) (va_cons (ve_tup (va_cons (ve_var 3) (va_cons (ve_var 4) (va_cons (ve_var 5) (va_cons (ve_neg ve_int) va_nil))))) (va_cons (ve_tup (va_cons (ve_var 3) (va_cons (ve_neg ve_int) (va_cons (ve_var 5) (va_cons (ve_var 6) va_nil))))) va_nil)))) va_nil)))
      (vss_cons (vs_expr (ve_ml PySem.F.slot_list_append PySem.F.type_list_append om_append (ve_var 8) (va_cons (ve_tup (va_cons (ve_var 3) (va_cons (ve_var 5) (va_cons (ve_var 4) (va_cons (ve_var 6) va_nil))))) va_nil)))
      (vss_cons (vs_expr (ve_ml PySem.F.slot_list_extend PySem.F.type_list_extend om_extend (ve_var 8) (va_cons (ve_lst false (va_cons (ve_tup (va_cons (ve_callTy (ob_list false) (by rfl) m_list (by decide +kernel) (va_cons (ve_var 3) va_nil)) (va_cons (ve_var 4) (va_cons (ve_var 5) (va_cons (ve_var 6) va_nil))))) (va_cons (ve_var 3) va_nil))) va_nil)))
      (vss_cons (vs_set (i := 9) sc__law_near.nd rfl (.inl rfl) (ve_lst true (va_cons (ve_var 1) (va_cons (ve_callTy (ob_list false) (by rfl) m_list (by decide +kernel) (va_cons (ve_var 1) va_nil)) (va_cons (ve_var 7) (va_cons (ve_callP (ds := []) (dvs := []) (ss := [.pos 0, .pos 1, .pos 2]) G__law_bend gd (hr.mono (by decide)) (by rfl) g__law_bend k__law_bend b__law_bend_3 (by intro us ws h1 h2; match us, h1, ws, h2 with | [_, _, _], _, [], _ => rfl) (fun _ _ => .nil) (passes_call (takes_of rfl rfl rfl rfl) (fun _ _ _ _ h => h)) (va_cons (ve_var 0) (va_cons (ve_var 7) (va_cons (ve_callZ (ds := []) (dvs := []) (ss := []) G__law_odd gd (hr.mono (by decide)) (by rfl) g__law_odd k__law_odd b__law_odd_0 (by intro us ws h1 h2; match us, h1, ws, h2 with | [], _, [], _ => rfl) (fun _ _ => .nil) (passes_call (takes_of rfl rfl rfl rfl) (fun _ _ _ _ h => h)) ) va_nil)))) (va_cons (ve_revT (ve_var 1)) (va_cons (ve_add false (ve_var 1) (ve_var 1)) va_nil))))))))
      (vss_cons (vs_for (passes_of rfl) rfl (vi_seq (ve_var 8)) (vg_name (i := 10) sc__law_near.nd rfl (.inl rfl)) (vss_kill [10] (vss_one (vs_expr (ve_ml PySem.F.slot_list_append PySem.F.type_list_append om_append (ve_var 9) (va_cons (ve_add false (ve_add false (ve_slice false (ve_var 1) vo_none (vo_some (ve_var 2))) (ve_tup (va_cons (ve_var 10) va_nil))) (ve_slice false (ve_var 1) (vo_some (ve_add false (ve_var 2) ve_int)) vo_none)) va_nil))))))
      (vss_one (vs_ret (ve_var 9))))))))))))
theorem ok_law {f_law : Addr} {fd_law : FuncData} (F_ : Fun K "law" "law" s_law f_law fd_law) {f__law_draw : Addr} {fd__law_draw : FuncData} (G__law_draw : FnG P w K mg base (L2.CX P w) 2 f__law_draw fd__law_draw ["_law_feed_here", "_law_many"] (spV K ⟨mg, w⟩ 2 F__law_draw_ed7e)) (k__law_draw : PySem.W.keepIn K (.ref f__law_draw) = true) (g__law_draw : mg "_law_draw" = some (.ref f__law_draw)) {f__law_feed : Addr} {fd__law_feed : FuncData} (G__law_feed : FnG P w K mg base (L2.CX P w) 2 f__law_feed fd__law_feed ["_law_script"] (spV K ⟨mg, w⟩ 1 F__law_feed_6a37)) (k__law_feed : PySem.W.keepIn K (.ref f__law_feed) = true) (g__law_feed : mg "_law_feed" = some (.ref f__law_feed)) {f__law_fixed : Addr} {fd__law_fixed : FuncData} (G__law_fixed : FnG P w K mg base (L2.CX P w) 2 f__law_fixed fd__law_fixed [] (spV K ⟨mg, w⟩ 0 F__law_fixed_a7f8)) (k__law_fixed : PySem.W.keepIn K (.ref f__law_fixed) = true) (g__law_fixed : mg "_law_fixed" = some (.ref f__law_fixed)) {f__law_menu : Addr} {fd__law_menu : FuncData} (G__law_menu : FnG P w K mg base (L2.CX P w) 4 f__law_menu fd__law_menu ["_law_feed_here", "_law_many"] (spV K ⟨mg, w⟩ 2 F__law_menu_3a71)) (k__law_menu : PySem.W.keepIn K (.ref f__law_menu) = true) (g__law_menu : mg "_law_menu" = some (.ref f__law_menu)) {f__law_near : Addr} {fd__law_near : FuncData} (G__law_near : FnG P w K mg base (L2.CX P w) 24 f__law_near fd__law_near ["_law_feed_here", "_law_offs_here"] (spV K ⟨mg, w⟩ 2 F__law_near_5481)) (k__law_near : PySem.W.keepIn K (.ref f__law_near) = true) (g__law_near : mg "_law_near" = some (.ref f__law_near)) {f__law_offed : Addr} {fd__law_offed : FuncData} (G__law_offed : FnG P w K mg base (L2.CX P w) 3 f__law_offed fd__law_offed ["_law_thing"] (spV K ⟨mg, w⟩ 1 F__law_offed)) (k__law_offed : PySem.W.keepIn K (.ref f__law_offed) = true) (g__law_offed : mg "_law_offed" = some (.ref f__law_offed)) {f__law_offs : Addr} {fd__law_offs : FuncData} (G__law_offs : FnG P w K mg base (L2.CX P w) 4 f__law_offs fd__law_offs ["_law_feed_here", "_law_menu_here"] (spV K ⟨mg, w⟩ 2 F__law_offs_9cbf)) (k__law_offs : PySem.W.keepIn K (.ref f__law_offs) = true) (g__law_offs : mg "_law_offs" = some (.ref f__law_offs)) {f__law_same : Addr} {fd__law_same : FuncData} (G__law_same : FnG P w K mg base (L2.CX P w) 2 f__law_same fd__law_same ["_law_told", "_law_wanted"] (spV K ⟨mg, w⟩ 2 F__law_same)) (k__law_same : PySem.W.keepIn K (.ref f__law_same) = true) (g__law_same : mg "_law_same" = some (.ref f__law_same)) {f_is_offs : Addr} {fd_is_offs : FuncData} (G_is_offs : FnG P w K mg base (L2.CX P w) 6 f_is_offs fd_is_offs ["thing"] (spV K ⟨mg, w⟩ 1 F_is_offs)) (k_is_offs : PySem.W.keepIn K (.ref f_is_offs) = true) (g_is_offs : mg "is_offs" = some (.ref f_is_offs)) (b__law_draw_2 : BindV K fd__law_draw ["_law_feed_here", "_law_many"] 2 [] [] [.pos 0, .pos 1]) (b__law_feed_1 : BindV K fd__law_feed ["_law_script"] 1 [] [] [.pos 0]) (b__law_fixed_0 : BindV K fd__law_fixed [] 0 [] [] []) (b__law_menu_2 : BindV K fd__law_menu ["_law_feed_here", "_law_many"] 2 [] [] [.pos 0, .pos 1]) (b__law_near_2 : BindV K fd__law_near ["_law_feed_here", "_law_offs_here"] 2 [] [] [.pos 0, .pos 1]) (b__law_offed_1 : BindV K fd__law_offed ["_law_thing"] 1 [] [] [.pos 0]) (b__law_offs_2 : BindV K fd__law_offs ["_law_feed_here", "_law_menu_here"] 2 [] [] [.pos 0, .pos 1]) (b__law_same_2 : BindV K fd__law_same ["_law_told", "_law_wanted"] 2 [] [] [.pos 0, .pos 1]) (b_is_offs_1 : BindV K fd_is_offs ["thing"] 1 [] [] [.pos 0]) (m_range : mg "range" = none) (m_repr : mg "repr" = none) : FnG P w K mg base (L2.CX P w) 25 f_law fd_law ["_law_script"] (spV K ⟨mg, w⟩ 1 F_law_89be) := by
  refine gokV (k := 24) 0 F_ sc_law fun cdv A gd outer s H E hr => ?_
  have hu := hu65 hr
  exact (vss_cons (vs_set (i := 1) sc_law.nd rfl (.inl rfl) (ve_callP (ds := []) (dvs := []) (ss := [.pos 0]) G__law_feed gd (hr.mono (by decide)) (by rfl) g__law_feed k__law_feed b__law_feed_1 (by intro us ws h1 h2; match us, h1, ws, h2 with | [_], _, [], _ => rfl) (fun _ _ => .nil) (passes_call (takes_of rfl rfl rfl rfl) (fun _ _ _ _ h => h)) (va_cons (ve_var 0) va_nil)))
      (vss_cons (vs_set (i := 2) sc_law.nd rfl (.inl rfl) (ve_callZ (ds := []) (dvs := []) (ss := []) G__law_fixed gd (hr.mono (by decide)) (by rfl) g__law_fixed k__law_fixed b__law_fixed_0 (by intro us ws h1 h2; match us, h1, ws, h2 with | [], _, [], _ => rfl) (fun _ _ => .nil) (passes_call (takes_of rfl rfl rfl rfl) (fun _ _ _ _ h => h)) ))
      (vss_cons (vs_for (passes_of rfl) rfl (vi_range1 (by rfl) m_range (va_cons ve_int va_nil)) (vg_name (i := 3) sc_law.nd rfl (.inl rfl)) (vss_kill [3, 4] (vss_cons (vs_set (i := 4) sc_law.nd rfl (.inl rfl) (ve_callP (ds := []) (dvs := []) (ss := [.pos 0, .pos 1]) G__law_offs gd (hr.mono (by decide)) (by rfl) g__law_offs k__law_offs b__law_offs_2 (by intro us ws h1 h2; match us, h1, ws, h2 with | [_, _], _, [], _ => rfl) (fun _ _ => .nil) (passes_call (takes_of rfl rfl rfl rfl) (fun _ _ _ _ h => h)) (va_cons (ve_var 1) (va_cons (ve_callP (ds := []) (dvs := []) (ss := [.pos 0, .pos 1]) G__law_menu gd (hr.mono (by decide)) (by rfl) g__law_menu k__law_menu b__law_menu_2 (by intro us ws h1 h2; match us, h1, ws, h2 with | [_, _], _, [], _ => rfl) (fun _ _ => .nil) (passes_call (takes_of rfl rfl rfl rfl) (fun _ _ _ _ h => h)) (va_cons (ve_var 1) (va_cons (ve_add false ve_int (ve_callP (ds := []) (dvs := []) (ss := [.pos 0, .pos 1]) G__law_draw gd (hr.mono (by decide)) (by rfl) g__law_draw k__law_draw b__law_draw_2 (by intro us ws h1 h2; match us, h1, ws, h2 with | [_, _], _, [], _ => rfl) (fun _ _ => .nil) (passes_call (takes_of rfl rfl rfl rfl) (fun _ _ _ _ h => h)) (va_cons (ve_var 1) (va_cons ve_int va_nil)))) va_nil))) va_nil))))
      (vss_cons (vs_if (OkC.vt oc_isnot (ve_callP (ds := []) (dvs := []) (ss := [.pos 0]) G_is_offs gd (hr.mono (by decide)) (by rfl) g_is_offs k_is_offs b_is_offs_1 (by intro us ws h1 h2; match us, h1, ws, h2 with | [_], _, [], _ => rfl) (fun _ _ => .nil) (passes_call (takes_of rfl rfl rfl rfl) (fun _ _ _ _ h => h)) (va_cons (ve_var 4) va_nil)) ve_bl (nomark _)) (vss_one (vs_ret ve_bl)) vss_nil)
      (vss_one (vs_expr (ve_ml PySem.F.slot_list_extend PySem.F.type_list_extend om_extend (ve_var 2) (va_cons (ve_ifExp (OkC.vt (oc_ne hu) (ve_var 4) (ve_tup va_nil) (nomark _)) (ve_callP (ds := []) (dvs := []) (ss := [.pos 0, .pos 1]) G__law_near gd (hr.mono (by decide)) (by rfl) g__law_near k__law_near b__law_near_2 (by intro us ws h1 h2; match us, h1, ws, h2 with | [_, _], _, [], _ => rfl) (fun _ _ => .nil) (passes_call (takes_of rfl rfl rfl rfl) (fun _ _ _ _ h => h)) (va_cons (ve_var 1) (va_cons (ve_var 4) va_nil))) (ve_lst false (va_cons (ve_var 4) va_nil))) va_nil))))))))
      (vss_cons (vs_set (i := 5) sc_law.nd rfl (.inl rfl) (ve_callB (ob_repr gd hr.units) (by rfl) m_repr (by decide +kernel) (va_cons (ve_var 2) va_nil)))
      (vss_cons (vs_for (passes_of rfl) rfl (vi_seq (ve_var 2)) (vg_name (i := 6) sc_law.nd rfl (.inl rfl)) (vss_kill [6] (vss_one (vs_if (vt_not (vt_val (ve_callP (ds := []) (dvs := []) (ss := [.pos 0, .pos 1]) G__law_same gd (hr.mono (by decide)) (by rfl) g__law_same k__law_same b__law_same_2 (by intro us ws h1 h2; match us, h1, ws, h2 with | [_, _], _, [], _ => rfl) (fun _ _ => .nil) (passes_call (takes_of rfl rfl rfl rfl) (fun _ _ _ _ h => h)) (va_cons (ve_callP (ds := []) (dvs := []) (ss := [.pos 0]) G_is_offs gd (hr.mono (by decide)) (by rfl) g_is_offs k_is_offs b_is_offs_1 (by intro us ws h1 h2; match us, h1, ws, h2 with | [_], _, [], _ => rfl) (fun _ _ => .nil) (passes_call (takes_of rfl rfl rfl rfl) (fun _ _ _ _ h => h)) (va_cons (ve_var 6) va_nil)) (va_cons (ve_callP (ds := []) (dvs := []) (ss := [.pos 0]) G__law_offed gd (hr.mono (by decide)) (by rfl) g__law_offed k__law_offed b__law_offed_1 (by intro us ws h1 h2; match us, h1, ws, h2 with | [_], _, [], _ => rfl) (fun _ _ => .nil) (passes_call (takes_of rfl rfl rfl rfl) (fun _ _ _ _ h => h)) (va_cons (ve_var 6) va_nil)) va_nil))))) (vss_one (vs_ret ve_bl)) vss_nil))))
      (vss_one (vs_ret (OkC.ve (oc_eq hu) (ve_callB (ob_repr gd hr.units) (by rfl) m_repr (by decide +kernel) (va_cons (ve_var 2) va_nil)) (ve_var 5) (nomark _)))))))))
end
end V03

set_option Elab.async false
set_option linter.all false
set_option maxRecDepth 100000
set_option maxHeartbeats 2000000
namespace V03
open PySem PySem.Spec PyProof.Rows L2 TB VL G

theorem all_mk {l : PySem.W.OpenLaw} {w : World} {K : PySem.W.Frag} {h : Heap} {mg : Str → Option Value} {fa : Addr} (X : K.In h) (G : h.Ns mainGlobals mg) (hfa : mg "law" = some (.ref fa))
    {f_is_number : Addr} {od_is_number : Option Addr} {an_is_number : Option Addr} {sl_is_number : Array (Option Value)} {oc_is_number : Value} {kV_is_number : Value} {dc_is_number : Value} {pm_is_number : Value} {cd_is_number : Value} {ct_is_number : Value}
    {f_is_word : Addr} {od_is_word : Option Addr} {an_is_word : Option Addr} {sl_is_word : Array (Option Value)} {oc_is_word : Value} {kV_is_word : Value} {dc_is_word : Value} {pm_is_word : Value} {cd_is_word : Value} {ct_is_word : Value}
    {f_is_count : Addr} {od_is_count : Option Addr} {an_is_count : Option Addr} {sl_is_count : Array (Option Value)} {oc_is_count : Value} {kV_is_count : Value} {dc_is_count : Value} {pm_is_count : Value} {cd_is_count : Value} {ct_is_count : Value}
    {f_is_tuple_of : Addr} {od_is_tuple_of : Option Addr} {an_is_tuple_of : Option Addr} {sl_is_tuple_of : Array (Option Value)} {oc_is_tuple_of : Value} {kV_is_tuple_of : Value} {dc_is_tuple_of : Value} {pm_is_tuple_of : Value} {cd_is_tuple_of : Value} {ct_is_tuple_of : Value}
    {f_are_counts : Addr} {od_are_counts : Option Addr} {an_are_counts : Option Addr} {sl_are_counts : Array (Option Value)} {oc_are_counts : Value} {kV_are_counts : Value} {dc_are_counts : Value} {pm_are_counts : Value} {cd_are_counts : Value} {ct_are_counts : Value}
    {f_rises : Addr} {od_rises : Option Addr} {an_rises : Option Addr} {sl_rises : Array (Option Value)} {oc_rises : Value} {kV_rises : Value} {dc_rises : Value} {pm_rises : Value} {cd_rises : Value} {ct_rises : Value}
    {f_are_rising_words : Addr} {od_are_rising_words : Option Addr} {an_are_rising_words : Option Addr} {sl_are_rising_words : Array (Option Value)} {oc_are_rising_words : Value} {kV_are_rising_words : Value} {dc_are_rising_words : Value} {pm_are_rising_words : Value} {cd_are_rising_words : Value} {ct_are_rising_words : Value}
    {f_is_off : Addr} {od_is_off : Option Addr} {an_is_off : Option Addr} {sl_is_off : Array (Option Value)} {oc_is_off : Value} {kV_is_off : Value} {dc_is_off : Value} {pm_is_off : Value} {cd_is_off : Value} {ct_is_off : Value}
    {f_is_offs : Addr} {od_is_offs : Option Addr} {an_is_offs : Option Addr} {sl_is_offs : Array (Option Value)} {oc_is_offs : Value} {kV_is_offs : Value} {dc_is_offs : Value} {pm_is_offs : Value} {cd_is_offs : Value} {ct_is_offs : Value}
    {f__law_feed : Addr} {od__law_feed : Option Addr} {an__law_feed : Option Addr} {sl__law_feed : Array (Option Value)} {oc__law_feed : Value} {kV__law_feed : Value} {dc__law_feed : Value} {pm__law_feed : Value} {cd__law_feed : Value} {ct__law_feed : Value}
    {f__law_draw : Addr} {od__law_draw : Option Addr} {an__law_draw : Option Addr} {sl__law_draw : Array (Option Value)} {oc__law_draw : Value} {kV__law_draw : Value} {dc__law_draw : Value} {pm__law_draw : Value} {cd__law_draw : Value} {ct__law_draw : Value}
    {f__law_after : Addr} {od__law_after : Option Addr} {an__law_after : Option Addr} {sl__law_after : Array (Option Value)} {oc__law_after : Value} {kV__law_after : Value} {dc__law_after : Value} {pm__law_after : Value} {cd__law_after : Value} {ct__law_after : Value}
    {f__law_word : Addr} {od__law_word : Option Addr} {an__law_word : Option Addr} {sl__law_word : Array (Option Value)} {oc__law_word : Value} {kV__law_word : Value} {dc__law_word : Value} {pm__law_word : Value} {cd__law_word : Value} {ct__law_word : Value}
    {f__law_prices : Addr} {od__law_prices : Option Addr} {an__law_prices : Option Addr} {sl__law_prices : Array (Option Value)} {oc__law_prices : Value} {kV__law_prices : Value} {dc__law_prices : Value} {pm__law_prices : Value} {cd__law_prices : Value} {ct__law_prices : Value}
    {f__law_menu : Addr} {od__law_menu : Option Addr} {an__law_menu : Option Addr} {sl__law_menu : Array (Option Value)} {oc__law_menu : Value} {kV__law_menu : Value} {dc__law_menu : Value} {pm__law_menu : Value} {cd__law_menu : Value} {ct__law_menu : Value}
    {f__law_offs : Addr} {od__law_offs : Option Addr} {an__law_offs : Option Addr} {sl__law_offs : Array (Option Value)} {oc__law_offs : Value} {kV__law_offs : Value} {dc__law_offs : Value} {pm__law_offs : Value} {cd__law_offs : Value} {ct__law_offs : Value}
    {f__law_bend : Addr} {od__law_bend : Option Addr} {an__law_bend : Option Addr} {sl__law_bend : Array (Option Value)} {oc__law_bend : Value} {kV__law_bend : Value} {dc__law_bend : Value} {pm__law_bend : Value} {cd__law_bend : Value} {ct__law_bend : Value}
    {f__law_odd : Addr} {od__law_odd : Option Addr} {an__law_odd : Option Addr} {sl__law_odd : Array (Option Value)} {oc__law_odd : Value} {kV__law_odd : Value} {dc__law_odd : Value} {pm__law_odd : Value} {cd__law_odd : Value} {ct__law_odd : Value}
    {f__law_same : Addr} {od__law_same : Option Addr} {an__law_same : Option Addr} {sl__law_same : Array (Option Value)} {oc__law_same : Value} {kV__law_same : Value} {dc__law_same : Value} {pm__law_same : Value} {cd__law_same : Value} {ct__law_same : Value}
    {f__law_number : Addr} {od__law_number : Option Addr} {an__law_number : Option Addr} {sl__law_number : Array (Option Value)} {oc__law_number : Value} {kV__law_number : Value} {dc__law_number : Value} {pm__law_number : Value} {cd__law_number : Value} {ct__law_number : Value}
    {f__law_worded : Addr} {od__law_worded : Option Addr} {an__law_worded : Option Addr} {sl__law_worded : Array (Option Value)} {oc__law_worded : Value} {kV__law_worded : Value} {dc__law_worded : Value} {pm__law_worded : Value} {cd__law_worded : Value} {ct__law_worded : Value}
    {f__law_offed : Addr} {od__law_offed : Option Addr} {an__law_offed : Option Addr} {sl__law_offed : Array (Option Value)} {oc__law_offed : Value} {kV__law_offed : Value} {dc__law_offed : Value} {pm__law_offed : Value} {cd__law_offed : Value} {ct__law_offed : Value}
    {f__law_fixed : Addr} {od__law_fixed : Option Addr} {an__law_fixed : Option Addr} {sl__law_fixed : Array (Option Value)} {oc__law_fixed : Value} {kV__law_fixed : Value} {dc__law_fixed : Value} {pm__law_fixed : Value} {cd__law_fixed : Value} {ct__law_fixed : Value}
    {f__law_near : Addr} {od__law_near : Option Addr} {an__law_near : Option Addr} {sl__law_near : Array (Option Value)} {oc__law_near : Value} {kV__law_near : Value} {dc__law_near : Value} {pm__law_near : Value} {cd__law_near : Value} {ct__law_near : Value}
    {f_law : Addr} {od_law : Option Addr} {an_law : Option Addr} {sl_law : Array (Option Value)} {oc_law : Value} {kV_law : Value} {dc_law : Value} {pm_law : Value} {cd_law : Value} {ct_law : Value}
    {ct1_LONGEST_WORD : Tok}
    {ct2_WHOLE : Tok}
    (a_is_number : PySem.W.nsIn K mainGlobals "is_number" = some (some (.ref f_is_number)))
    (l_is_number : K.lookup f_is_number = some ⟨oc_is_number, od_is_number, .func (PySem.W.fnOf "is_number" "is_number" (defArgs s_is_number) (defBody s_is_number) (defScope s_is_number) .none kV_is_number dc_is_number pm_is_number an_is_number cd_is_number ct_is_number), sl_is_number⟩)
    (c_is_number : PySem.W.codeIn K cd_is_number "is_number" = true) (k_is_number : PySem.W.keepIn K (.ref f_is_number) = true)
    (a_is_word : PySem.W.nsIn K mainGlobals "is_word" = some (some (.ref f_is_word)))
    (l_is_word : K.lookup f_is_word = some ⟨oc_is_word, od_is_word, .func (PySem.W.fnOf "is_word" "is_word" (defArgs s_is_word) (defBody s_is_word) (defScope s_is_word) .none kV_is_word dc_is_word pm_is_word an_is_word cd_is_word ct_is_word), sl_is_word⟩)
    (c_is_word : PySem.W.codeIn K cd_is_word "is_word" = true) (k_is_word : PySem.W.keepIn K (.ref f_is_word) = true)
    (a_is_count : PySem.W.nsIn K mainGlobals "is_count" = some (some (.ref f_is_count)))
    (l_is_count : K.lookup f_is_count = some ⟨oc_is_count, od_is_count, .func (PySem.W.fnOf "is_count" "is_count" (defArgs s_is_count) (defBody s_is_count) (defScope s_is_count) .none kV_is_count dc_is_count pm_is_count an_is_count cd_is_count ct_is_count), sl_is_count⟩)
    (c_is_count : PySem.W.codeIn K cd_is_count "is_count" = true) (k_is_count : PySem.W.keepIn K (.ref f_is_count) = true)
    (a_is_tuple_of : PySem.W.nsIn K mainGlobals "is_tuple_of" = some (some (.ref f_is_tuple_of)))
    (l_is_tuple_of : K.lookup f_is_tuple_of = some ⟨oc_is_tuple_of, od_is_tuple_of, .func (PySem.W.fnOf "is_tuple_of" "is_tuple_of" (defArgs s_is_tuple_of) (defBody s_is_tuple_of) (defScope s_is_tuple_of) .none kV_is_tuple_of dc_is_tuple_of pm_is_tuple_of an_is_tuple_of cd_is_tuple_of ct_is_tuple_of), sl_is_tuple_of⟩)
    (c_is_tuple_of : PySem.W.codeIn K cd_is_tuple_of "is_tuple_of" = true) (k_is_tuple_of : PySem.W.keepIn K (.ref f_is_tuple_of) = true)
    (a_are_counts : PySem.W.nsIn K mainGlobals "are_counts" = some (some (.ref f_are_counts)))
    (l_are_counts : K.lookup f_are_counts = some ⟨oc_are_counts, od_are_counts, .func (PySem.W.fnOf "are_counts" "are_counts" (defArgs s_are_counts) (defBody s_are_counts) (defScope s_are_counts) .none kV_are_counts dc_are_counts pm_are_counts an_are_counts cd_are_counts ct_are_counts), sl_are_counts⟩)
    (c_are_counts : PySem.W.codeIn K cd_are_counts "are_counts" = true) (k_are_counts : PySem.W.keepIn K (.ref f_are_counts) = true)
    (a_rises : PySem.W.nsIn K mainGlobals "rises" = some (some (.ref f_rises)))
    (l_rises : K.lookup f_rises = some ⟨oc_rises, od_rises, .func (PySem.W.fnOf "rises" "rises" (defArgs s_rises) (defBody s_rises) (defScope s_rises) .none kV_rises dc_rises pm_rises an_rises cd_rises ct_rises), sl_rises⟩)
    (c_rises : PySem.W.codeIn K cd_rises "rises" = true) (k_rises : PySem.W.keepIn K (.ref f_rises) = true)
    (a_are_rising_words : PySem.W.nsIn K mainGlobals "are_rising_words" = some (some (.ref f_are_rising_words)))
    (l_are_rising_words : K.lookup f_are_rising_words = some ⟨oc_are_rising_words, od_are_rising_words, .func (PySem.W.fnOf "are_rising_words" "are_rising_words" (defArgs s_are_rising_words) (defBody s_are_rising_words) (defScope s_are_rising_words) .none kV_are_rising_words dc_are_rising_words pm_are_rising_words an_are_rising_words cd_are_rising_words ct_are_rising_words), sl_are_rising_words⟩)
    (c_are_rising_words : PySem.W.codeIn K cd_are_rising_words "are_rising_words" = true) (k_are_rising_words : PySem.W.keepIn K (.ref f_are_rising_words) = true)
    (a_is_off : PySem.W.nsIn K mainGlobals "is_off" = some (some (.ref f_is_off)))
    (l_is_off : K.lookup f_is_off = some ⟨oc_is_off, od_is_off, .func (PySem.W.fnOf "is_off" "is_off" (defArgs s_is_off) (defBody s_is_off) (defScope s_is_off) .none kV_is_off dc_is_off pm_is_off an_is_off cd_is_off ct_is_off), sl_is_off⟩)
    (c_is_off : PySem.W.codeIn K cd_is_off "is_off" = true) (k_is_off : PySem.W.keepIn K (.ref f_is_off) = true)
    (a_is_offs : PySem.W.nsIn K mainGlobals "is_offs" = some (some (.ref f_is_offs)))
    (l_is_offs : K.lookup f_is_offs = some ⟨oc_is_offs, od_is_offs, .func (PySem.W.fnOf "is_offs" "is_offs" (defArgs s_is_offs) (defBody s_is_offs) (defScope s_is_offs) .none kV_is_offs dc_is_offs pm_is_offs an_is_offs cd_is_offs ct_is_offs), sl_is_offs⟩)
    (c_is_offs : PySem.W.codeIn K cd_is_offs "is_offs" = true) (k_is_offs : PySem.W.keepIn K (.ref f_is_offs) = true)
    (a__law_feed : PySem.W.nsIn K mainGlobals "_law_feed" = some (some (.ref f__law_feed)))
    (l__law_feed : K.lookup f__law_feed = some ⟨oc__law_feed, od__law_feed, .func (PySem.W.fnOf "_law_feed" "_law_feed" (defArgs s__law_feed) (defBody s__law_feed) (defScope s__law_feed) .none kV__law_feed dc__law_feed pm__law_feed an__law_feed cd__law_feed ct__law_feed), sl__law_feed⟩)
    (c__law_feed : PySem.W.codeIn K cd__law_feed "_law_feed" = true) (k__law_feed : PySem.W.keepIn K (.ref f__law_feed) = true)
    (a__law_draw : PySem.W.nsIn K mainGlobals "_law_draw" = some (some (.ref f__law_draw)))
    (l__law_draw : K.lookup f__law_draw = some ⟨oc__law_draw, od__law_draw, .func (PySem.W.fnOf "_law_draw" "_law_draw" (defArgs s__law_draw) (defBody s__law_draw) (defScope s__law_draw) .none kV__law_draw dc__law_draw pm__law_draw an__law_draw cd__law_draw ct__law_draw), sl__law_draw⟩)
    (c__law_draw : PySem.W.codeIn K cd__law_draw "_law_draw" = true) (k__law_draw : PySem.W.keepIn K (.ref f__law_draw) = true)
    (a__law_after : PySem.W.nsIn K mainGlobals "_law_after" = some (some (.ref f__law_after)))
    (l__law_after : K.lookup f__law_after = some ⟨oc__law_after, od__law_after, .func (PySem.W.fnOf "_law_after" "_law_after" (defArgs s__law_after) (defBody s__law_after) (defScope s__law_after) .none kV__law_after dc__law_after pm__law_after an__law_after cd__law_after ct__law_after), sl__law_after⟩)
    (c__law_after : PySem.W.codeIn K cd__law_after "_law_after" = true) (k__law_after : PySem.W.keepIn K (.ref f__law_after) = true)
    (a__law_word : PySem.W.nsIn K mainGlobals "_law_word" = some (some (.ref f__law_word)))
    (l__law_word : K.lookup f__law_word = some ⟨oc__law_word, od__law_word, .func (PySem.W.fnOf "_law_word" "_law_word" (defArgs s__law_word) (defBody s__law_word) (defScope s__law_word) .none kV__law_word dc__law_word pm__law_word an__law_word cd__law_word ct__law_word), sl__law_word⟩)
    (c__law_word : PySem.W.codeIn K cd__law_word "_law_word" = true) (k__law_word : PySem.W.keepIn K (.ref f__law_word) = true)
    (a__law_prices : PySem.W.nsIn K mainGlobals "_law_prices" = some (some (.ref f__law_prices)))
    (l__law_prices : K.lookup f__law_prices = some ⟨oc__law_prices, od__law_prices, .func (PySem.W.fnOf "_law_prices" "_law_prices" (defArgs s__law_prices) (defBody s__law_prices) (defScope s__law_prices) .none kV__law_prices dc__law_prices pm__law_prices an__law_prices cd__law_prices ct__law_prices), sl__law_prices⟩)
    (c__law_prices : PySem.W.codeIn K cd__law_prices "_law_prices" = true) (k__law_prices : PySem.W.keepIn K (.ref f__law_prices) = true)
    (a__law_menu : PySem.W.nsIn K mainGlobals "_law_menu" = some (some (.ref f__law_menu)))
    (l__law_menu : K.lookup f__law_menu = some ⟨oc__law_menu, od__law_menu, .func (PySem.W.fnOf "_law_menu" "_law_menu" (defArgs s__law_menu) (defBody s__law_menu) (defScope s__law_menu) .none kV__law_menu dc__law_menu pm__law_menu an__law_menu cd__law_menu ct__law_menu), sl__law_menu⟩)
    (c__law_menu : PySem.W.codeIn K cd__law_menu "_law_menu" = true) (k__law_menu : PySem.W.keepIn K (.ref f__law_menu) = true)
    (a__law_offs : PySem.W.nsIn K mainGlobals "_law_offs" = some (some (.ref f__law_offs)))
    (l__law_offs : K.lookup f__law_offs = some ⟨oc__law_offs, od__law_offs, .func (PySem.W.fnOf "_law_offs" "_law_offs" (defArgs s__law_offs) (defBody s__law_offs) (defScope s__law_offs) .none kV__law_offs dc__law_offs pm__law_offs an__law_offs cd__law_offs ct__law_offs), sl__law_offs⟩)
    (c__law_offs : PySem.W.codeIn K cd__law_offs "_law_offs" = true) (k__law_offs : PySem.W.keepIn K (.ref f__law_offs) = true)
    (a__law_bend : PySem.W.nsIn K mainGlobals "_law_bend" = some (some (.ref f__law_bend)))
    (l__law_bend : K.lookup f__law_bend = some ⟨oc__law_bend, od__law_bend, .func (PySem.W.fnOf "_law_bend" "_law_bend" (defArgs s__law_bend) (defBody s__law_bend) (defScope s__law_bend) .none kV__law_bend dc__law_bend pm__law_bend an__law_bend cd__law_bend ct__law_bend), sl__law_bend⟩)
    (c__law_bend : PySem.W.codeIn K cd__law_bend "_law_bend" = true) (k__law_bend : PySem.W.keepIn K (.ref f__law_bend) = true)
    (a__law_odd : PySem.W.nsIn K mainGlobals "_law_odd" = some (some (.ref f__law_odd)))
    (l__law_odd : K.lookup f__law_odd = some ⟨oc__law_odd, od__law_odd, .func (PySem.W.fnOf "_law_odd" "_law_odd" (defArgs s__law_odd) (defBody s__law_odd) (defScope s__law_odd) .none kV__law_odd dc__law_odd pm__law_odd an__law_odd cd__law_odd ct__law_odd), sl__law_odd⟩)
    (c__law_odd : PySem.W.codeIn K cd__law_odd "_law_odd" = true) (k__law_odd : PySem.W.keepIn K (.ref f__law_odd) = true)
    (a__law_same : PySem.W.nsIn K mainGlobals "_law_same" = some (some (.ref f__law_same)))
    (l__law_same : K.lookup f__law_same = some ⟨oc__law_same, od__law_same, .func (PySem.W.fnOf "_law_same" "_law_same" (defArgs s__law_same) (defBody s__law_same) (defScope s__law_same) .none kV__law_same dc__law_same pm__law_same an__law_same cd__law_same ct__law_same), sl__law_same⟩)
    (c__law_same : PySem.W.codeIn K cd__law_same "_law_same" = true) (k__law_same : PySem.W.keepIn K (.ref f__law_same) = true)
    (a__law_number : PySem.W.nsIn K mainGlobals "_law_number" = some (some (.ref f__law_number)))
    (l__law_number : K.lookup f__law_number = some ⟨oc__law_number, od__law_number, .func (PySem.W.fnOf "_law_number" "_law_number" (defArgs s__law_number) (defBody s__law_number) (defScope s__law_number) .none kV__law_number dc__law_number pm__law_number an__law_number cd__law_number ct__law_number), sl__law_number⟩)
    (c__law_number : PySem.W.codeIn K cd__law_number "_law_number" = true) (k__law_number : PySem.W.keepIn K (.ref f__law_number) = true)
    (a__law_worded : PySem.W.nsIn K mainGlobals "_law_worded" = some (some (.ref f__law_worded)))
    (l__law_worded : K.lookup f__law_worded = some ⟨oc__law_worded, od__law_worded, .func (PySem.W.fnOf "_law_worded" "_law_worded" (defArgs s__law_worded) (defBody s__law_worded) (defScope s__law_worded) .none kV__law_worded dc__law_worded pm__law_worded an__law_worded cd__law_worded ct__law_worded), sl__law_worded⟩)
    (c__law_worded : PySem.W.codeIn K cd__law_worded "_law_worded" = true) (k__law_worded : PySem.W.keepIn K (.ref f__law_worded) = true)
    (a__law_offed : PySem.W.nsIn K mainGlobals "_law_offed" = some (some (.ref f__law_offed)))
    (l__law_offed : K.lookup f__law_offed = some ⟨oc__law_offed, od__law_offed, .func (PySem.W.fnOf "_law_offed" "_law_offed" (defArgs s__law_offed) (defBody s__law_offed) (defScope s__law_offed) .none kV__law_offed dc__law_offed pm__law_offed an__law_offed cd__law_offed ct__law_offed), sl__law_offed⟩)
    (c__law_offed : PySem.W.codeIn K cd__law_offed "_law_offed" = true) (k__law_offed : PySem.W.keepIn K (.ref f__law_offed) = true)
    (a__law_fixed : PySem.W.nsIn K mainGlobals "_law_fixed" = some (some (.ref f__law_fixed)))
    (l__law_fixed : K.lookup f__law_fixed = some ⟨oc__law_fixed, od__law_fixed, .func (PySem.W.fnOf "_law_fixed" "_law_fixed" (defArgs s__law_fixed) (defBody s__law_fixed) (defScope s__law_fixed) .none kV__law_fixed dc__law_fixed pm__law_fixed an__law_fixed cd__law_fixed ct__law_fixed), sl__law_fixed⟩)
    (c__law_fixed : PySem.W.codeIn K cd__law_fixed "_law_fixed" = true) (k__law_fixed : PySem.W.keepIn K (.ref f__law_fixed) = true)
    (a__law_near : PySem.W.nsIn K mainGlobals "_law_near" = some (some (.ref f__law_near)))
    (l__law_near : K.lookup f__law_near = some ⟨oc__law_near, od__law_near, .func (PySem.W.fnOf "_law_near" "_law_near" (defArgs s__law_near) (defBody s__law_near) (defScope s__law_near) .none kV__law_near dc__law_near pm__law_near an__law_near cd__law_near ct__law_near), sl__law_near⟩)
    (c__law_near : PySem.W.codeIn K cd__law_near "_law_near" = true) (k__law_near : PySem.W.keepIn K (.ref f__law_near) = true)
    (a_law : PySem.W.nsIn K mainGlobals "law" = some (some (.ref f_law)))
    (l_law : K.lookup f_law = some ⟨oc_law, od_law, .func (PySem.W.fnOf "law" "law" (defArgs s_law) (defBody s_law) (defScope s_law) .none kV_law dc_law pm_law an_law cd_law ct_law), sl_law⟩)
    (c_law : PySem.W.codeIn K cd_law "law" = true) (k_law : PySem.W.keepIn K (.ref f_law) = true)
    (z_all : PySem.W.nsIn K mainGlobals "all" = some none)
    (z_bool : PySem.W.nsIn K mainGlobals "bool" = some none)
    (z_int : PySem.W.nsIn K mainGlobals "int" = some none)
    (z_isinstance : PySem.W.nsIn K mainGlobals "isinstance" = some none)
    (z_len : PySem.W.nsIn K mainGlobals "len" = some none)
    (z_list : PySem.W.nsIn K mainGlobals "list" = some none)
    (z_min : PySem.W.nsIn K mainGlobals "min" = some none)
    (z_ord : PySem.W.nsIn K mainGlobals "ord" = some none)
    (z_range : PySem.W.nsIn K mainGlobals "range" = some none)
    (z_repr : PySem.W.nsIn K mainGlobals "repr" = some none)
    (z_set : PySem.W.nsIn K mainGlobals "set" = some none)
    (z_sorted : PySem.W.nsIn K mainGlobals "sorted" = some none)
    (z_str : PySem.W.nsIn K mainGlobals "str" = some none)
    (z_tuple : PySem.W.nsIn K mainGlobals "tuple" = some none)
    (z_zip : PySem.W.nsIn K mainGlobals "zip" = some none)
    (a_LONGEST_WORD : PySem.W.nsIn K mainGlobals "LONGEST_WORD" = some (some (.int 8 ct1_LONGEST_WORD)))
    (a_WHOLE : PySem.W.nsIn K mainGlobals "WHOLE" = some (some (.int 100 ct2_WHOLE))) :
    ∃ fd : FuncData, (∀ (s : Shared) (v : Value), BindsTo s fd ⟨[v], []⟩ [("_law_script", v)]) ∧ ∀ base : Heap, K.In base → base.Ns mainGlobals mg → FnG l.prog w K mg base CX0 25 fa fd ["_law_script"] (spLaw K) := by
  have e := hfa.symm.trans (PySem.W.mg_of X G a_law)
  cases e
  have F_is_number := fun_mk (st := s_is_number) l_is_number c_is_number k_is_number
  have b_is_number_1 := bindV0 (ps := ["thing"]) F_is_number 1 [] [.pos 0] (fun _ _ _ _ _ _ us ws h1 h2 => match us, h1, ws, h2 with | [_], _, [], _ => rfl)
  have g_is_number := PySem.W.mg_of X G a_is_number
  have F_is_word := fun_mk (st := s_is_word) l_is_word c_is_word k_is_word
  have b_is_word_1 := bindV0 (ps := ["thing"]) F_is_word 1 [] [.pos 0] (fun _ _ _ _ _ _ us ws h1 h2 => match us, h1, ws, h2 with | [_], _, [], _ => rfl)
  have g_is_word := PySem.W.mg_of X G a_is_word
  have F_is_count := fun_mk (st := s_is_count) l_is_count c_is_count k_is_count
  have b_is_count_1 := bindV0 (ps := ["thing"]) F_is_count 1 [] [.pos 0] (fun _ _ _ _ _ _ us ws h1 h2 => match us, h1, ws, h2 with | [_], _, [], _ => rfl)
  have g_is_count := PySem.W.mg_of X G a_is_count
  have F_is_tuple_of := fun_mk (st := s_is_tuple_of) l_is_tuple_of c_is_tuple_of k_is_tuple_of
  have b_is_tuple_of_2 := bindV0 (ps := ["thing", "many"]) F_is_tuple_of 2 [] [.pos 0, .pos 1] (fun _ _ _ _ _ _ us ws h1 h2 => match us, h1, ws, h2 with | [_, _], _, [], _ => rfl)
  have g_is_tuple_of := PySem.W.mg_of X G a_is_tuple_of
  have F_are_counts := fun_mk (st := s_are_counts) l_are_counts c_are_counts k_are_counts
  have b_are_counts_2 := bindV0 (ps := ["thing", "many"]) F_are_counts 2 [] [.pos 0, .pos 1] (fun _ _ _ _ _ _ us ws h1 h2 => match us, h1, ws, h2 with | [_, _], _, [], _ => rfl)
  have g_are_counts := PySem.W.mg_of X G a_are_counts
  have F_rises := fun_mk (st := s_rises) l_rises c_rises k_rises
  have b_rises_1 := bindV0 (ps := ["things"]) F_rises 1 [] [.pos 0] (fun _ _ _ _ _ _ us ws h1 h2 => match us, h1, ws, h2 with | [_], _, [], _ => rfl)
  have g_rises := PySem.W.mg_of X G a_rises
  have F_are_rising_words := fun_mk (st := s_are_rising_words) l_are_rising_words c_are_rising_words k_are_rising_words
  have b_are_rising_words_1 := bindV0 (ps := ["thing"]) F_are_rising_words 1 [] [.pos 0] (fun _ _ _ _ _ _ us ws h1 h2 => match us, h1, ws, h2 with | [_], _, [], _ => rfl)
  have g_are_rising_words := PySem.W.mg_of X G a_are_rising_words
  have F_is_off := fun_mk (st := s_is_off) l_is_off c_is_off k_is_off
  have b_is_off_1 := bindV0 (ps := ["thing"]) F_is_off 1 [] [.pos 0] (fun _ _ _ _ _ _ us ws h1 h2 => match us, h1, ws, h2 with | [_], _, [], _ => rfl)
  have g_is_off := PySem.W.mg_of X G a_is_off
  have F_is_offs := fun_mk (st := s_is_offs) l_is_offs c_is_offs k_is_offs
  have b_is_offs_1 := bindV0 (ps := ["thing"]) F_is_offs 1 [] [.pos 0] (fun _ _ _ _ _ _ us ws h1 h2 => match us, h1, ws, h2 with | [_], _, [], _ => rfl)
  have g_is_offs := PySem.W.mg_of X G a_is_offs
  have F__law_feed := fun_mk (st := s__law_feed) l__law_feed c__law_feed k__law_feed
  have b__law_feed_1 := bindV0 (ps := ["_law_script"]) F__law_feed 1 [] [.pos 0] (fun _ _ _ _ _ _ us ws h1 h2 => match us, h1, ws, h2 with | [_], _, [], _ => rfl)
  have g__law_feed := PySem.W.mg_of X G a__law_feed
  have F__law_draw := fun_mk (st := s__law_draw) l__law_draw c__law_draw k__law_draw
  have b__law_draw_2 := bindV0 (ps := ["_law_feed_here", "_law_many"]) F__law_draw 2 [] [.pos 0, .pos 1] (fun _ _ _ _ _ _ us ws h1 h2 => match us, h1, ws, h2 with | [_, _], _, [], _ => rfl)
  have g__law_draw := PySem.W.mg_of X G a__law_draw
  have F__law_after := fun_mk (st := s__law_after) l__law_after c__law_after k__law_after
  have b__law_after_1 := bindV0 (ps := ["_law_word_here"]) F__law_after 1 [] [.pos 0] (fun _ _ _ _ _ _ us ws h1 h2 => match us, h1, ws, h2 with | [_], _, [], _ => rfl)
  have g__law_after := PySem.W.mg_of X G a__law_after
  have F__law_word := fun_mk (st := s__law_word) l__law_word c__law_word k__law_word
  have b__law_word_2 := bindV0 (ps := ["_law_feed_here", "_law_found"]) F__law_word 2 [] [.pos 0, .pos 1] (fun _ _ _ _ _ _ us ws h1 h2 => match us, h1, ws, h2 with | [_, _], _, [], _ => rfl)
  have g__law_word := PySem.W.mg_of X G a__law_word
  have F__law_prices := fun_mk (st := s__law_prices) l__law_prices c__law_prices k__law_prices
  have b__law_prices_1 := bindV0 (ps := ["_law_feed_here"]) F__law_prices 1 [] [.pos 0] (fun _ _ _ _ _ _ us ws h1 h2 => match us, h1, ws, h2 with | [_], _, [], _ => rfl)
  have g__law_prices := PySem.W.mg_of X G a__law_prices
  have F__law_menu := fun_mk (st := s__law_menu) l__law_menu c__law_menu k__law_menu
  have b__law_menu_2 := bindV0 (ps := ["_law_feed_here", "_law_many"]) F__law_menu 2 [] [.pos 0, .pos 1] (fun _ _ _ _ _ _ us ws h1 h2 => match us, h1, ws, h2 with | [_, _], _, [], _ => rfl)
  have g__law_menu := PySem.W.mg_of X G a__law_menu
  have F__law_offs := fun_mk (st := s__law_offs) l__law_offs c__law_offs k__law_offs
  have b__law_offs_2 := bindV0 (ps := ["_law_feed_here", "_law_menu_here"]) F__law_offs 2 [] [.pos 0, .pos 1] (fun _ _ _ _ _ _ us ws h1 h2 => match us, h1, ws, h2 with | [_, _], _, [], _ => rfl)
  have g__law_offs := PySem.W.mg_of X G a__law_offs
  have F__law_bend := fun_mk (st := s__law_bend) l__law_bend c__law_bend k__law_bend
  have b__law_bend_3 := bindV0 (ps := ["_law_feed_here", "_law_thing", "_law_odd_here"]) F__law_bend 3 [] [.pos 0, .pos 1, .pos 2] (fun _ _ _ _ _ _ us ws h1 h2 => match us, h1, ws, h2 with | [_, _, _], _, [], _ => rfl)
  have g__law_bend := PySem.W.mg_of X G a__law_bend
  have F__law_odd := fun_mk (st := s__law_odd) l__law_odd c__law_odd k__law_odd
  have b__law_odd_0 := bindV0 (ps := []) F__law_odd 0 [] [] (fun _ _ _ _ _ _ us ws h1 h2 => match us, h1, ws, h2 with | [], _, [], _ => rfl)
  have g__law_odd := PySem.W.mg_of X G a__law_odd
  have F__law_same := fun_mk (st := s__law_same) l__law_same c__law_same k__law_same
  have b__law_same_2 := bindV0 (ps := ["_law_told", "_law_wanted"]) F__law_same 2 [] [.pos 0, .pos 1] (fun _ _ _ _ _ _ us ws h1 h2 => match us, h1, ws, h2 with | [_, _], _, [], _ => rfl)
  have g__law_same := PySem.W.mg_of X G a__law_same
  have F__law_number := fun_mk (st := s__law_number) l__law_number c__law_number k__law_number
  have b__law_number_1 := bindV0 (ps := ["_law_thing"]) F__law_number 1 [] [.pos 0] (fun _ _ _ _ _ _ us ws h1 h2 => match us, h1, ws, h2 with | [_], _, [], _ => rfl)
  have g__law_number := PySem.W.mg_of X G a__law_number
  have F__law_worded := fun_mk (st := s__law_worded) l__law_worded c__law_worded k__law_worded
  have b__law_worded_1 := bindV0 (ps := ["_law_thing"]) F__law_worded 1 [] [.pos 0] (fun _ _ _ _ _ _ us ws h1 h2 => match us, h1, ws, h2 with | [_], _, [], _ => rfl)
  have g__law_worded := PySem.W.mg_of X G a__law_worded
  have F__law_offed := fun_mk (st := s__law_offed) l__law_offed c__law_offed k__law_offed
  have b__law_offed_1 := bindV0 (ps := ["_law_thing"]) F__law_offed 1 [] [.pos 0] (fun _ _ _ _ _ _ us ws h1 h2 => match us, h1, ws, h2 with | [_], _, [], _ => rfl)
  have g__law_offed := PySem.W.mg_of X G a__law_offed
  have F__law_fixed := fun_mk (st := s__law_fixed) l__law_fixed c__law_fixed k__law_fixed
  have b__law_fixed_0 := bindV0 (ps := []) F__law_fixed 0 [] [] (fun _ _ _ _ _ _ us ws h1 h2 => match us, h1, ws, h2 with | [], _, [], _ => rfl)
  have g__law_fixed := PySem.W.mg_of X G a__law_fixed
  have F__law_near := fun_mk (st := s__law_near) l__law_near c__law_near k__law_near
  have b__law_near_2 := bindV0 (ps := ["_law_feed_here", "_law_offs_here"]) F__law_near 2 [] [.pos 0, .pos 1] (fun _ _ _ _ _ _ us ws h1 h2 => match us, h1, ws, h2 with | [_, _], _, [], _ => rfl)
  have g__law_near := PySem.W.mg_of X G a__law_near
  have F_law := fun_mk (st := s_law) l_law c_law k_law
  have g_law := PySem.W.mg_of X G a_law
  have m_all := PySem.W.mg_none_of X G z_all
  have m_bool := PySem.W.mg_none_of X G z_bool
  have m_int := PySem.W.mg_none_of X G z_int
  have m_isinstance := PySem.W.mg_none_of X G z_isinstance
  have m_len := PySem.W.mg_none_of X G z_len
  have m_list := PySem.W.mg_none_of X G z_list
  have m_min := PySem.W.mg_none_of X G z_min
  have m_ord := PySem.W.mg_none_of X G z_ord
  have m_range := PySem.W.mg_none_of X G z_range
  have m_repr := PySem.W.mg_none_of X G z_repr
  have m_set := PySem.W.mg_none_of X G z_set
  have m_sorted := PySem.W.mg_none_of X G z_sorted
  have m_str := PySem.W.mg_none_of X G z_str
  have m_tuple := PySem.W.mg_none_of X G z_tuple
  have m_zip := PySem.W.mg_none_of X G z_zip
  have mg_LONGEST_WORD := PySem.W.mg_of X G a_LONGEST_WORD
  have mg_WHOLE := PySem.W.mg_of X G a_WHOLE
  refine ⟨(PySem.W.fnOf "law" "law" (defArgs s_law) (defBody s_law) (defScope s_law) .none kV_law dc_law pm_law an_law cd_law ct_law), fun s v => .of_eq rfl, fun base _ _ => ?_⟩
  have G_is_number := ok_is_number (P := l.prog) (w := w) (mg := mg) (base := base) F_is_number m_bool m_int m_isinstance
  have G_is_word := ok_is_word (P := l.prog) (w := w) (mg := mg) (base := base) F_is_word m_all m_isinstance m_len m_str mg_LONGEST_WORD (show RelV (.int 8) _ from ⟨_, rfl⟩) (fun H β => .int _)
  have G_is_count := ok_is_count (P := l.prog) (w := w) (mg := mg) (base := base) F_is_count G_is_number k_is_number g_is_number b_is_number_1
  have G_is_tuple_of := ok_is_tuple_of (P := l.prog) (w := w) (mg := mg) (base := base) F_is_tuple_of m_isinstance m_len m_tuple
  have G_are_counts := ok_are_counts (P := l.prog) (w := w) (mg := mg) (base := base) F_are_counts G_is_count k_is_count g_is_count G_is_tuple_of k_is_tuple_of g_is_tuple_of b_is_count_1 b_is_tuple_of_2 m_all
  have G_rises := ok_rises (P := l.prog) (w := w) (mg := mg) (base := base) F_rises m_all m_zip
  have G_are_rising_words := ok_are_rising_words (P := l.prog) (w := w) (mg := mg) (base := base) F_are_rising_words G_is_word k_is_word g_is_word G_rises k_rises g_rises b_is_word_1 b_rises_1 m_all m_isinstance m_tuple
  have G_is_off := ok_is_off (P := l.prog) (w := w) (mg := mg) (base := base) F_is_off G_are_counts k_are_counts g_are_counts G_are_rising_words k_are_rising_words g_are_rising_words G_is_tuple_of k_is_tuple_of g_is_tuple_of b_are_counts_2 b_are_rising_words_1 b_is_tuple_of_2 mg_WHOLE (show RelV (.int 100) _ from ⟨_, rfl⟩) (fun H β => .int _)
  have G_is_offs := ok_is_offs (P := l.prog) (w := w) (mg := mg) (base := base) F_is_offs G_is_off k_is_off g_is_off b_is_off_1 m_all m_isinstance m_tuple
  have G__law_feed := ok__law_feed (P := l.prog) (w := w) (mg := mg) (base := base) F__law_feed 
  have G__law_draw := ok__law_draw (P := l.prog) (w := w) (mg := mg) (base := base) F__law_draw m_len
  have G__law_after := ok__law_after (P := l.prog) (w := w) (mg := mg) (base := base) F__law_after m_len
  have G__law_word := ok__law_word (P := l.prog) (w := w) (mg := mg) (base := base) F__law_word G__law_after k__law_after g__law_after G__law_draw k__law_draw g__law_draw b__law_after_1 b__law_draw_2 m_len m_range
  have G__law_prices := ok__law_prices (P := l.prog) (w := w) (mg := mg) (base := base) F__law_prices G__law_draw k__law_draw g__law_draw b__law_draw_2 m_range m_tuple
  have G__law_menu := ok__law_menu (P := l.prog) (w := w) (mg := mg) (base := base) F__law_menu G__law_draw k__law_draw g__law_draw G__law_prices k__law_prices g__law_prices G__law_word k__law_word g__law_word b__law_draw_2 b__law_prices_1 b__law_word_2 m_range m_sorted m_tuple
  have G__law_offs := ok__law_offs (P := l.prog) (w := w) (mg := mg) (base := base) F__law_offs G__law_draw k__law_draw g__law_draw G__law_word k__law_word g__law_word b__law_draw_2 b__law_word_2 m_range m_sorted m_tuple
  have G__law_bend := ok__law_bend (P := l.prog) (w := w) (mg := mg) (base := base) F__law_bend k__law_bend g__law_bend G__law_draw k__law_draw g__law_draw b__law_bend_3 b__law_draw_2 m_int m_isinstance m_len m_list m_str m_tuple 20
  have G__law_odd := ok__law_odd (P := l.prog) (w := w) (mg := mg) (base := base) F__law_odd 
  have G__law_same := ok__law_same (P := l.prog) (w := w) (mg := mg) (base := base) F__law_same 
  have G__law_number := ok__law_number (P := l.prog) (w := w) (mg := mg) (base := base) F__law_number m_int m_isinstance
  have G__law_worded := ok__law_worded (P := l.prog) (w := w) (mg := mg) (base := base) F__law_worded m_isinstance m_len m_ord m_str
  have G__law_offed := ok__law_offed (P := l.prog) (w := w) (mg := mg) (base := base) F__law_offed G__law_number k__law_number g__law_number G__law_worded k__law_worded g__law_worded b__law_number_1 b__law_worded_1 m_isinstance m_len m_list m_min m_set m_sorted m_tuple
  have G__law_fixed := ok__law_fixed (P := l.prog) (w := w) (mg := mg) (base := base) F__law_fixed m_list m_tuple
  have G__law_near := ok__law_near (P := l.prog) (w := w) (mg := mg) (base := base) F__law_near G__law_bend k__law_bend g__law_bend G__law_draw k__law_draw g__law_draw G__law_odd k__law_odd g__law_odd b__law_bend_3 b__law_draw_2 b__law_odd_0 m_len m_list
  have G_law := ok_law (P := l.prog) (w := w) (mg := mg) (base := base) F_law G__law_draw k__law_draw g__law_draw G__law_feed k__law_feed g__law_feed G__law_fixed k__law_fixed g__law_fixed G__law_menu k__law_menu g__law_menu G__law_near k__law_near g__law_near G__law_offed k__law_offed g__law_offed G__law_offs k__law_offs g__law_offs G__law_same k__law_same g__law_same G_is_offs k_is_offs g_is_offs b__law_draw_2 b__law_feed_1 b__law_fixed_0 b__law_menu_2 b__law_near_2 b__law_offed_1 b__law_offs_2 b__law_same_2 b_is_offs_1 m_range m_repr
  exact endV law_true G_law
end V03
open PySem PySem.W PyProof.Rows
set_option maxHeartbeats 0 in
theorem PySem.Challenge.cw_tablebills_k03_offs_by_kind_holds : PySem.Challenge.rw_tablebills_k03_offs_by_kind.Holds := by
  w_on; o_law; k_head; (case hw => w_witness2)
  k_fill
  refine TB.walkG (l := PySem.Challenge.rw_tablebills_k03_offs_by_kind) (n := 63) (k := 25) (x := "_law_script") (sp := fun w => VL.spLaw _) rfl (by decide) rfl (fun w h Y => PySem.W.kIn_of Y) ⟨rfl, by decide, by decide⟩ ?F (fun _ _ a ns hl hS => ⟨a, ns, rfl, hS, hl, fun _ => rfl⟩)
  case F =>
    intro w mg fa h KX G hmg
    refine' V03.all_mk (w := w) KX G hmg ?a_is_number ?l_is_number ?c_is_number ?k_is_number ?a_is_word ?l_is_word ?c_is_word ?k_is_word ?a_is_count ?l_is_count ?c_is_count ?k_is_count ?a_is_tuple_of ?l_is_tuple_of ?c_is_tuple_of ?k_is_tuple_of ?a_are_counts ?l_are_counts ?c_are_counts ?k_are_counts ?a_rises ?l_rises ?c_rises ?k_rises ?a_are_rising_words ?l_are_rising_words ?c_are_rising_words ?k_are_rising_words ?a_is_off ?l_is_off ?c_is_off ?k_is_off ?a_is_offs ?l_is_offs ?c_is_offs ?k_is_offs ?a__law_feed ?l__law_feed ?c__law_feed ?k__law_feed ?a__law_draw ?l__law_draw ?c__law_draw ?k__law_draw ?a__law_after ?l__law_after ?c__law_after ?k__law_after ?a__law_word ?l__law_word ?c__law_word ?k__law_word ?a__law_prices ?l__law_prices ?c__law_prices ?k__law_prices ?a__law_menu ?l__law_menu ?c__law_menu ?k__law_menu ?a__law_offs ?l__law_offs ?c__law_offs ?k__law_offs ?a__law_bend ?l__law_bend ?c__law_bend ?k__law_bend ?a__law_odd ?l__law_odd ?c__law_odd ?k__law_odd ?a__law_same ?l__law_same ?c__law_same ?k__law_same ?a__law_number ?l__law_number ?c__law_number ?k__law_number ?a__law_worded ?l__law_worded ?c__law_worded ?k__law_worded ?a__law_offed ?l__law_offed ?c__law_offed ?k__law_offed ?a__law_fixed ?l__law_fixed ?c__law_fixed ?k__law_fixed ?a__law_near ?l__law_near ?c__law_near ?k__law_near ?a_law ?l_law ?c_law ?k_law ?z_all ?z_bool ?z_int ?z_isinstance ?z_len ?z_list ?z_min ?z_ord ?z_range ?z_repr ?z_set ?z_sorted ?z_str ?z_tuple ?z_zip ?a_LONGEST_WORD ?a_WHOLE
    (case a_is_number => k_is); (case l_is_number => k_is); (case c_is_number => k_is); (case k_is_number => k_is); (case a_is_word => k_is); (case l_is_word => k_is); (case c_is_word => k_is); (case k_is_word => k_is); (case a_is_count => k_is); (case l_is_count => k_is); (case c_is_count => k_is); (case k_is_count => k_is); (case a_is_tuple_of => k_is); (case l_is_tuple_of => k_is); (case c_is_tuple_of => k_is); (case k_is_tuple_of => k_is); (case a_are_counts => k_is); (case l_are_counts => k_is); (case c_are_counts => k_is); (case k_are_counts => k_is); (case a_rises => k_is); (case l_rises => k_is); (case c_rises => k_is); (case k_rises => k_is); (case a_are_rising_words => k_is); (case l_are_rising_words => k_is); (case c_are_rising_words => k_is); (case k_are_rising_words => k_is); (case a_is_off => k_is); (case l_is_off => k_is); (case c_is_off => k_is); (case k_is_off => k_is); (case a_is_offs => k_is); (case l_is_offs => k_is); (case c_is_offs => k_is); (case k_is_offs => k_is); (case a__law_feed => k_is); (case l__law_feed => k_is); (case c__law_feed => k_is); (case k__law_feed => k_is); (case a__law_draw => k_is); (case l__law_draw => k_is); (case c__law_draw => k_is); (case k__law_draw => k_is); (case a__law_after => k_is); (case l__law_after => k_is); (case c__law_after => k_is); (case k__law_after => k_is); (case a__law_word => k_is); (case l__law_word => k_is); (case c__law_word => k_is); (case k__law_word => k_is); (case a__law_prices => k_is); (case l__law_prices => k_is); (case c__law_prices => k_is); (case k__law_prices => k_is); (case a__law_menu => k_is); (case l__law_menu => k_is); (case c__law_menu => k_is); (case k__law_menu => k_is); (case a__law_offs => k_is); (case l__law_offs => k_is); (case c__law_offs => k_is); (case k__law_offs => k_is); (case a__law_bend => k_is); (case l__law_bend => k_is); (case c__law_bend => k_is); (case k__law_bend => k_is); (case a__law_odd => k_is); (case l__law_odd => k_is); (case c__law_odd => k_is); (case k__law_odd => k_is); (case a__law_same => k_is); (case l__law_same => k_is); (case c__law_same => k_is); (case k__law_same => k_is); (case a__law_number => k_is); (case l__law_number => k_is); (case c__law_number => k_is); (case k__law_number => k_is); (case a__law_worded => k_is); (case l__law_worded => k_is); (case c__law_worded => k_is); (case k__law_worded => k_is); (case a__law_offed => k_is); (case l__law_offed => k_is); (case c__law_offed => k_is); (case k__law_offed => k_is); (case a__law_fixed => k_is); (case l__law_fixed => k_is); (case c__law_fixed => k_is); (case k__law_fixed => k_is); (case a__law_near => k_is); (case l__law_near => k_is); (case c__law_near => k_is); (case k__law_near => k_is); (case a_law => k_is); (case l_law => k_is); (case c_law => k_is); (case k_law => k_is); (case z_all => k_is); (case z_bool => k_is); (case z_int => k_is); (case z_isinstance => k_is); (case z_len => k_is); (case z_list => k_is); (case z_min => k_is); (case z_ord => k_is); (case z_range => k_is); (case z_repr => k_is); (case z_set => k_is); (case z_sorted => k_is); (case z_str => k_is); (case z_tuple => k_is); (case z_zip => k_is); (case a_LONGEST_WORD => k_is); (case a_WHOLE => k_is)
