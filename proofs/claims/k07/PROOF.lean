import PyProof.Rows.All
import Wide.All
import OpenK.AllK
import Wide.FinOn
import HandS.ForMost
import HandS.Wide
import HandS.Defaults
import HandS.Flow
import HandS.Style
import HandS.IsInst
import PySem.Challenge.RW_tablebills_k07_deals
set_option Elab.async false
set_option linter.all false
set_option maxRecDepth 100000
namespace TB
open PySem PySem.Spec PyProof.Rows L2

/-! A def's promise, where no repr is under way around it. -/
section
variable (P : Program) (w : World) (K : PySem.W.Frag) (mg : Str → Option Value) (base : Heap)
structure FnG (CX : CXT) (k : Nat) (f : Addr) (fd : FuncData) (ps : List Str) (sp : Sp) : Prop where
  len : ∀ xs G R Z, sp xs G R Z → xs.length = ps.length
  run : ∀ (A : Around), A.guards = some [] → Room k A →
    ∀ (outer : List Env) (s : Shared) (H : Hp), Env0 P w K mg base A outer s H →
    ∀ (args : Args) (us : List Value) (vs : List V), BindsTo s fd args (ps.zip us) → Vals vs us →
    ∀ (Q : VK) (E : XK), sp vs H Q E →
      codeAny (model P w) A (Code.call (Value.ref f) args)
        (CR CX outer P w H s Q E) s
end

section
variable {P : Program} {w : World} {K : PySem.W.Frag} {mg : Str → Option Value} {base : Heap} {CX : CXT}
theorem FnG.of {k : Nat} {f : Addr} {fd : FuncData} {ps : List Str} {sp : Sp}
    (F : FnOk P w K mg base CX k f fd ps sp) : FnG P w K mg base CX k f fd ps sp :=
  ⟨F.len, fun A _ hr outer s H e0 args us vs hb r Q E h => F.run A outer s H args us vs Q E hr e0 hb r h⟩

/-- the body's walk gives the promise -/
theorem gfn {k : Nat} {f : Addr} {nm qual : Str} {prm : Arguments} {bd : List Stmt} {sc : Scope} {dV kV doc pm cdv ct oc : Value} {an od : Option Addr}
    {osl : Array (Option Value)} {N : List Str} {ps : List Str} {sp : Sp}
    (lk : K.lookup f = some ⟨oc, od, .func (PySem.W.fnOf nm qual prm bd sc dV kV doc pm an cdv ct), osl⟩)
    (hcd : PySem.W.codeIn K cdv qual = true) (S : FnScope N ps sc) (len : ∀ vs H Q E, sp vs H Q E → vs.length = ps.length)
    (walk : ∀ (A : Around), A.guards = some [] → ∀ (outer : List Env) (s : Shared) (H : Hp) (vs : List V) (Q : VK) (E : XK),
      Room k (A.deeper (envOfC qual sc s.heap.objs.size f cdv)) → sp vs H Q E →
      ∃ t, PSs (cxOf CX P w K mg base N qual sc f cdv A outer s H E) bd t ∧ t ⟨fun _ H' => Q .non H', Q, fun _ _ => False, fun _ _ => False⟩ (start N vs) H) :
    FnG P w K mg base CX (k + 1) f (PySem.W.fnOf nm qual prm bd sc dV kV doc pm an cdv ct) ps sp := by
  constructor
  · exact len
  intro A hg hr outer s H e0 args us vs hb r Q E hsp
  have keeps : ∀ b o, base.get? b = some o → s.heap.get? b = some o := fun b o e => (e0.bs b o e).1
  have KX : K.In s.heap := e0.mod.kin.keeps keeps
  have lim : s.heap.NoLimit := e0.mod.nolimit.keeps keeps
  obtain ⟨t, ht, hq⟩ := walk A hg outer s H vs Q E (hr.deeper _) hsp
  have crec := PySem.W.codeRec_of KX hcd
  refine codeAny_call_function hr.depth (KX _ _ lk) rfl S.co S.gen rfl crec (hb _ _ _ _ ?_)
  refine wpAny_newFunctionEnv_cells S.kind ?_ ?_
  · rintro ⟨n, v⟩ hy
    have q := S.par n (List.of_mem_zip hy).1
    cases q with
    | inl q => exact Or.inl q
    | inr q => exact Or.inr ⟨q, PySem.W.cellsFrom_some _ _ _ (Or.inl q)⟩
  · intro env he s1 x
    cases he
    have I := inv_start (CX := CX) (P := P) (w := w) (mg := mg) (N := N) (qual := qual) (f := f) (cd := cdv) (E := E) S hr.hd e0 (len _ _ _ _ hsp) r x
    refine ⟨lim.keeps x.toInCall.keep, codeAny_func (wpAny_mono (ht.run [] s1 (start N vs) H _ I hq) ?_ (fun e s' hs => hs))⟩
    intro fl s' hs
    match fl, hs with
    | .ret u, ⟨v, _, H', J, rv, q⟩ => exact ⟨v, H', J.os, J.bare, J.base, J.hok, rv, q⟩
    | .next, ⟨_, H', J, q⟩ => exact ⟨V.non, H', J.os, J.bare, J.base, J.hok, rfl, q⟩
    | .brk, ⟨_, _, _, q⟩ => exact q.elim
    | .cont, ⟨_, _, _, q⟩ => exact q.elim

theorem gok {x qual : Str} {st : Stmt} {f : Addr} {fd : FuncData} {N ps : List Str} {k : Nat} {sp : Sp} (F : Fun K x qual st f fd)
    (S : FnScope N ps (defScope st)) (len : ∀ vs H Q E, sp vs H Q E → vs.length = ps.length)
    (walk : ∀ (cdv : Value) (A : Around), A.guards = some [] → ∀ (outer : List Env) (s : Shared) (H : Hp) (vs : List V) (Q : VK) (E : XK),
      Room k (A.deeper (envOfC qual (defScope st) s.heap.objs.size f cdv)) → sp vs H Q E →
      ∃ t, PSs (cxOf CX0 P w K mg base N qual (defScope st) f cdv A outer s H E).nox (defBody st) t ∧
        t ⟨fun _ H' => Q .non H', Q, fun _ _ => False, fun _ _ => False⟩ (start N vs) H) :
    FnG P w K mg base CX0 (k + 1) f fd ps sp := by
  obtain ⟨_, _, _, _, _, _, cdv, _, _, rfl, lk, hcd⟩ := F.ex
  refine gfn lk hcd S len fun A hg outer s H vs Q E hr hsp => ?_
  obtain ⟨t, a, b⟩ := walk cdv A hg outer s H vs Q E hr hsp
  exact ⟨t, a.nox, b⟩
end

section
variable {X : Cx} {CX : CXT} {k : Nat} {f : Addr} {fd : FuncData} {ps : List Str} {sp : Sp} {dvs : List V} {ds : List Value} {E : XK} {x : Str} {p pos : Pos} {e : Expr} {es : List Expr} {t : TA}
/-- f(e, ..) of such a def -/
theorem pe_callG (F : FnG X.prog X.w X.K X.mg X.base CX k f fd ps sp) (gd : X.A.guards = some []) (hr : Room k X.A) (hg : Gl X x) (hm : X.mg x = some (.ref f))
    (hk : PySem.W.keepIn X.K (.ref f) = true) (hb : Binds X.K fd ps ds) (hd : Vals dvs ds) (hx : Passes CX X E) (ha : PA X (e :: es) t)
    (he : starEach (e :: es) X.env = (false, eval e X.env) :: starEach es X.env := by rfl) (hdb : (x == ("__debug__" : Str)) = false := by decide)
    (hpl : (backTo pos (starEach es X.env)).any (·.1) = false := by rfl) : PE X (.Call (.Name x p) (e :: es) [] pos) (tCall sp dvs E t) := by
  constructor
  intro pins s σ H Q I h
  refine wpAny_Call_Name_kw (ld_glob I hg hm (PySem.W.callWith_K (h₀ := X.base) I.ok.mod.kin hk (thn (ha.run pos pins s σ H _ I h) ?_) he hpl) hdb)
  rintro us s1 ⟨vs, H1, I1, r, q⟩
  have r2 := r.append hd
  have hl : (us ++ ds).length = ps.length := r2.length.symm.trans (F.len _ _ _ _ q)
  refine ⟨I1.kIn, wpAny_call (codeAny_mono (F.run X.A gd hr X.stack s1 H1 I1.env0 ⟨us, []⟩ _ _ (hb s1 us I1.kIn hl) r2 Q E q) ?_)⟩
  intro res s' hq
  match res, hq with
  | .error e, hq => exact hx pins σ H1 s1 e s' I1 hq
  | .ok (.ret u), hq => exact I1.after hq
  | .ok .next, hq => exact hq.elim
  | .ok .brk, hq => exact hq.elim
  | .ok .cont, hq => exact hq.elim
end

/-! repr of plain data -/
section
variable {X : Cx}
def rRepr (K : PySem.W.Frag) : List V → Hp → VK → Prop := fun xs H Q => ∃ a d, xs = [.ref a] ∧ Dp K H (.ref a) d ∧ d.showable = true ∧ d.hasDict = false ∧ d.depth ≤ 60 ∧ d.shown.length ≤ sizeLine ∧ Q (.str d.shown) H
theorem call_reprD (gd : X.A.guards = some []) (hu : X.A.units + 64 < cLine) : CallR X (.builtin "repr") (rRepr X.K) := by
  intro pins s σ H args us Q I r h
  obtain ⟨a, d, rfl, hd, hs, hn, hp, hz, q⟩ := h
  cases r with
  | cons r1 r2 =>
    cases r2
    have e := r1
    obtain rfl := show _ = Value.ref a from e
    obtain ⟨as, rd⟩ := Dp.reads I d _ _ hd rfl
    refine repr_of_reads' rd hs (PyData.noDict_hsm hn) gd (by omega) (fun _ _ z => z) (fun h' u tk k => ?_) hz
    exact ⟨.str d.shown, H, I.kept k, ⟨u, rfl⟩, q⟩

/-- xs[i] read, i no less than 0, by values -/
def rGetN (K : PySem.W.Frag) : V → V → Hp → VK → Prop := fun o i H Q => ∃ (p : Addr) (xs : List V) (j : Nat) (v : V), o = .ref p ∧ i = .int (j : Int) ∧ SqL K H p xs ∧ xs[j]? = some v ∧ Q v H
theorem get_list : PGet X (rGetN X.K) := by
  intro pins s σ H o i ov iv Q I ro ri h
  obtain ⟨p, xs, j, z, rfl, rfl, hq, he, q⟩ := h
  cases ro
  obtain ⟨t, rfl⟩ := ri
  obtain ⟨its, rl, pl, hz⟩ := I.list hq
  obtain ⟨v, ev, rv⟩ := rl.get he
  have hl := rl.length
  have hj : j < xs.length := (List.getElem?_eq_some_iff.mp he).1
  have hn := line63
  exact wpAny_getItem_list pl.isList (by omega) (by omega) (by rw [Int.toNat_natCast]; simpa using ev) ⟨z, H, I, rv, q⟩
end

/-! the law's own call, at the top's end -/
section
variable {P : Program} {w : World} {K : PySem.W.Frag} {mg mb : Str → Option Value} {k : Nat} {fa a : Addr} {fd : FuncData} {x : Str} {sp : Sp} {s1 : Shared} {vs : List Value} {ns : List Int}
/-- the abstract heap that tracks the script alone, or nothing -/
theorem lawG0 {H : Hp} (KX : K.In s1.heap) (hns : s1.heap.Ns mainGlobals mg) (hb : s1.heap.Ns builtinsNs mb)
    (hbb : ∀ y : Str, y ≠ "__name__" → mb y = bootBuiltins y) (hlim : s1.heap.NoLimit) (hg : s1.gens = #[])
    (ha : s1.heap.get? a = some { cls := .type "list", data := .seq vs.toArray }) (hr : Room k callerA)
    (F : ∀ base : Heap, K.In base → base.Ns mainGlobals mg → FnG P w K mg base CX0 k fa fd [x] sp)
    (hbind : ∀ (s : Shared) (u : Value), BindsTo s fd ⟨[u], []⟩ [(x, u)])
    (hO : Only H) (hok : HOk P w H s1.heap) (onlyA : ∀ b, H b ≠ none → b = a) (notK : H a ≠ none → K.lookup a = none)
    (hsp : sp [.ref a] H (fun v _ => v = .bl true) fun _ _ _ => False) :
    codeAny (model P w) callerA (.call (.ref fa) ⟨[.ref a], []⟩)
      (fun r s' => r = .ok (.ret (.bool true)) ∧ OldK s1.heap s'.heap ∧ s'.os = s1.os ∧ AllBare s'.gens) s1 := by
  have free : ∀ (b : Addr), (b = a → H b = none) → H b = none := by
    intro b hb
    by_cases e : H b = none
    · exact e
    · exact hb (onlyA b e)
  have nsB : ∀ {b : Addr} {m : Str → Option Value}, s1.heap.Ns b m → (hidT s1.heap H).Ns b m := by
    rintro b m ⟨o, es, ep, e, d, r⟩
    refine ⟨o, es, ep, hidT_get e (free b ?_), d, r⟩
    rintro rfl
    have q := Option.some.inj (e.symm.trans ha)
    rw [q] at d
    exact nomatch d
  have kinB : K.In (hidT s1.heap H) := by
    intro b o e
    refine hidT_get (KX b o e) (free b ?_)
    rintro rfl
    by_cases z : H b = none
    · exact z
    · exact absurd ((notK z).symm.trans e) (fun q => nomatch q)
  obtain ⟨mc, hl1, hl2⟩ := hlim
  have M : Mod K mg (hidT s1.heap H) := ⟨kinB, nsB hns, ⟨mb, nsB hb, hbb⟩, ⟨mc, nsB hl1, hl2⟩⟩
  have e0 : Env0 P w K mg (hidT s1.heap H) callerA [] s1 H :=
    { frames := rfl, mod := M, bs := fun b o e => of_hidT e, bsz := Nat.le_of_eq (hidT_size _ _), funs := trivial,
      frf := fun b hb => (nomatch (show b ∈ ([] : List Addr) from hb)), hok := hok, bare := .of_eq hg }
  have run := (F _ kinB (nsB hns)).run callerA rfl hr [] s1 H e0 ⟨[.ref a], []⟩ [.ref a] [.ref a] (hbind s1 _) (.cons rfl .nil) _ _ hsp
  refine codeAny_mono run ?_
  intro r s' h
  match r, h with
  | .ok (.ret u), ⟨v, H', os, bare, un, hok', rv, q⟩ =>
    have q' : v = V.bl true := q
    subst q'
    have eu : u = Value.bool true := rv
    subst eu
    refine ⟨rfl, OldK.of_keep ?_, os, bare⟩
    intro b o e
    by_cases z : H b = none
    · exact un.keep b o e z (fun q => nomatch (show b ∈ ([] : List Addr) from q)) (fun q => nomatch q)
    · rcases hO b with z1 | ⟨ob, xs, z1⟩
      · exact absurd z1 z
      · have e1 := (hok b _ z1).1
        have e2 := (hok' b _ (un.frzs b ob _ z1)).1
        rw [Option.some.inj (e.symm.trans e1)]
        exact e2

theorem lawG (KX : K.In s1.heap) (hns : s1.heap.Ns mainGlobals mg) (hb : s1.heap.Ns builtinsNs mb)
    (hbb : ∀ y : Str, y ≠ "__name__" → mb y = bootBuiltins y) (hlim : s1.heap.NoLimit) (hg : s1.gens = #[])
    (ha : s1.heap.get? a = some { cls := .type "list", data := .seq vs.toArray }) (hi : IntsAre vs ns) (hl : ns.length ≤ sizeLine) (hr : Room k callerA)
    (F : ∀ base : Heap, K.In base → base.Ns mainGlobals mg → FnG P w K mg base CX0 k fa fd [x] sp)
    (hbind : ∀ (s : Shared) (u : Value), BindsTo s fd ⟨[u], []⟩ [(x, u)])
    (hsp : ∀ H : Hp, SqL K H a (ns.map V.int) → sp [.ref a] H (fun v _ => v = .bl true) fun _ _ _ => False) :
    codeAny (model P w) callerA (.call (.ref fa) ⟨[.ref a], []⟩)
      (fun r s' => r = .ok (.ret (.bool true)) ∧ OldK s1.heap s'.heap ∧ s'.os = s1.os ∧ AllBare s'.gens) s1 := by
  have rv := vals_ints hi
  by_cases hk : K.lookup a = none
  · let ob : Obj := { cls := .type "list", data := .seq vs.toArray }
    let H : Hp := upd (fun _ => none) a (.frz ob (.lst (ns.map V.int)))
    have hA : H a = some (.frz ob (.lst (ns.map V.int))) := upd_same
    have hN : ∀ b, b ≠ a → H b = none := fun b ne => upd_ne ne
    refine lawG0 (H := H) KX hns hb hbb hlim hg ha hr F hbind ?_ ?_ ?_ (fun _ => hk) (hsp H (.inl (.inr ⟨ob, hA⟩)))
    · intro b
      by_cases e : b = a
      · exact .inr ⟨ob, _, e ▸ hA⟩
      · exact .inl (hN b e)
    · intro b u q
      by_cases e : b = a
      · subst e
        cases Option.some.inj (q.symm.trans hA)
        exact ⟨ha, Nat.le_trans (Nat.le_of_eq (List.length_map V.int)) hl, vs, _, rv, ha⟩
      · exact nomatch (hN b e).symm.trans q
    · intro b q
      by_cases e : b = a
      · exact e
      · exact absurd (hN b e) q
  · obtain ⟨o, ho⟩ := Option.ne_none_iff_exists'.mp hk
    have eo := Option.some.inj ((KX a o ho).symm.trans ha)
    subst eo
    refine lawG0 (H := fun _ => none) KX hns hb hbb hlim hg ha hr F hbind (fun _ => .inl rfl) (fun b u q => nomatch q) (fun b q => absurd rfl q) (fun q => absurd rfl q) (hsp _ (.inr ?_))
    exact ⟨_, vs.toArray, _, ho, rfl, rfl, rfl, by rw [List.size_toArray, hi.length]; exact hl, rv⟩
end

theorem walkG {l : PySem.W.OpenLaw} {n k : Nat} {q : Program} {loose : List Str} {XP : (Str → Option Value) → Heap → Prop} {YP : World → Heap → Prop} {d : DefRec} {K : Params → PySem.W.Frag} {sp : World → Sp} {x : Str}
    (hn : l.most = some n) (hn2 : n ≤ sizeLine) (hdf : d.params.defaults = [])
    (hY : ∀ (w : World) (h : Heap), YP w h → (K w.params).In h) (hr : Room k callerA)
    (F : ∀ (w : World) (mg : Str → Option Value) (fa : Addr) (g : Heap), (K w.params).In g → g.Ns mainGlobals mg → mg d.name = some (.ref fa) →
      ∃ fd : FuncData, (∀ (s : Shared) (v : Value), BindsTo s fd ⟨[v], []⟩ [(x, v)]) ∧
        ∀ base : Heap, (K w.params).In base → base.Ns mainGlobals mg → FnG l.prog w (K w.params) mg base CX0 k fa fd [x] (sp w))
    (hsp : ∀ (w : World) (H : Hp) (a : Addr) (ns : List Int), ns.length ≤ n → SqL (K w.params) H a (ns.map V.int) → sp w [.ref a] H (fun v _ => v = .bl true) fun _ _ _ => False) :
    PySem.W.WalkO q loose XP YP l.row.toRowW d [] fun f us => PySem.call f us := by
  refine Att.attach_call hn hdf ?_
  intro w s₀ s₁ mg mb fa o pm cd doc a vs ns G Y ho hd hcd hmg hobj hints hlen hg
  have KX := hY w _ Y
  obtain ⟨fd, bnd, prom⟩ := F w mg fa _ KX G.T.g hmg
  exact lawG KX G.T.g G.T.b G.T.builtins G.T.nolimit hg hobj hints (Nat.le_trans hlen hn2) hr prom bnd (fun H hS => hsp w H a ns hlen hS)
end TB

set_option Elab.async false
set_option linter.all false
set_option maxRecDepth 100000
namespace K07
open PySem PySem.Spec PyProof.Rows L2 TB

/-! ### numbers -/
/-- how many numbers from 0 on below l have the rest j by m (for l no less than 0) -/
def nb (l m j : Int) : Int := (l - j + m - 1) / m
def tab (m : Nat) (f : Int → Int) : List Int := (List.range m).map fun (j : Nat) => f (j : Int)
def part (p : Int) (m : Nat) (b : Int) : List Int := tab m fun j => nb (b + p) m j - nb b m j

theorem div_at {m n q r : Int} (h0 : 0 ≤ r) (h1 : r < m) (e : n = m * q + r) : n / m = q := by
  have hm : 0 < m := by omega
  rw [e, Int.add_comm, Int.add_mul_ediv_left r q (by omega), Int.ediv_eq_zero_of_lt h0 h1]
  omega
theorem nb_step {n m j : Int} (hm : 0 < m) (h0 : 0 ≤ j) (h1 : j < m) : nb (n + 1) m j = nb n m j + if n % m = j then 1 else 0 := by
  have e : n = m * (n / m) + n % m := (Int.mul_ediv_add_emod n m).symm
  have r0 := Int.emod_nonneg n (show m ≠ 0 by omega)
  have r1 := Int.emod_lt_of_pos n hm
  generalize n / m = q at e
  generalize hr : n % m = r at e r0 r1
  unfold nb
  by_cases c : r = j
  · rw [if_pos c]
    rw [div_at (m := m) (q := q + 1) (r := 0) (by omega) (by omega) (by rw [Int.mul_add]; omega),
      div_at (m := m) (q := q) (r := m - 1) (by omega) (by omega) (by omega)]
  · rw [if_neg c]
    by_cases d : j < r
    · rw [div_at (m := m) (q := q + 1) (r := r - j) (by omega) (by omega) (by rw [Int.mul_add]; omega),
        div_at (m := m) (q := q + 1) (r := r - j - 1) (by omega) (by omega) (by rw [Int.mul_add]; omega)]
      omega
    · rw [div_at (m := m) (q := q) (r := r - j + m) (by omega) (by omega) (by omega),
        div_at (m := m) (q := q) (r := r - j + m - 1) (by omega) (by omega) (by omega)]
      omega
theorem nb_far {b p m j : Int} (hm : 0 < m) : nb (b + p) m j = p / m + nb (b + p % m) m j := by
  unfold nb
  have e : p = m * (p / m) + p % m := (Int.mul_ediv_add_emod p m).symm
  have : b + p - j + m - 1 = (b + p % m - j + m - 1) + m * (p / m) := by omega
  rw [this, Int.add_mul_ediv_left _ _ (by omega)]
  omega
theorem tab_len (m : Nat) (f : Int → Int) : (tab m f).length = m := by unfold tab; simp
theorem tab_get {m : Nat} {f : Int → Int} {j : Nat} (h : j < m) : (tab m f)[j]? = some (f j) := by unfold tab; simp [h]
theorem tab_congr {m : Nat} {f g : Int → Int} (h : ∀ j : Int, 0 ≤ j → j < m → f j = g j) : tab m f = tab m g := by
  unfold tab
  refine List.map_congr_left fun j hj => h j (by omega) ?_
  have := List.mem_range.mp hj
  omega
theorem tab_bump {m : Nat} {f : Int → Int} {k : Nat} (h : k < m) : (tab m f).set k (f k + 1) = tab m fun j => f j + if (k : Int) = j then 1 else 0 := by
  apply List.ext_getElem?
  intro i
  by_cases hi : i < m
  · rw [tab_get hi]
    by_cases e : i = k
    · subst e
      rw [List.getElem?_set_self (by rw [tab_len]; exact hi), if_pos rfl]
    · rw [List.getElem?_set_ne (Ne.symm e), tab_get hi, if_neg (by omega)]
      simp
  · rw [List.getElem?_eq_none (by rw [List.length_set, tab_len]; omega), List.getElem?_eq_none (by rw [tab_len]; omega)]
/-- one more penny, at the turn -/
theorem part_bump {m : Nat} (hm : 0 < m) (c : Int) (i b : Int) : ∃ k : Nat, ((b + i) % (m : Int)) = (k : Int) ∧ k < m ∧
    (tab m fun j => c + (nb (b + i) m j - nb b m j)).set k ((c + (nb (b + i) m k - nb b m k)) + 1) = tab m fun j => c + (nb (b + (i + 1)) m j - nb b m j) := by
  have r0 := Int.emod_nonneg (b + i) (show (m : Int) ≠ 0 by omega)
  have r1 := Int.emod_lt_of_pos (b + i) (show (0 : Int) < m by omega)
  refine ⟨((b + i) % (m : Int)).toNat, by omega, by omega, ?_⟩
  rw [tab_bump (f := fun j => c + (nb (b + i) m j - nb b m j)) (by omega)]
  refine tab_congr fun j h0 h1 => ?_
  rw [← Int.add_assoc b i 1, nb_step (n := b + i) (by omega) h0 h1, Int.toNat_of_nonneg r0]
  omega
theorem part_zero (m : Nat) (c b : Int) : (tab m fun j => c + (nb (b + 0) m j - nb b m j)) = tab m fun _ => c :=
  tab_congr fun j _ _ => by rw [Int.add_zero]; omega
theorem part_far {m : Nat} (hm : 0 < m) (p b : Int) : (tab m fun j => p / m + (nb (b + p % m) m j - nb b m j)) = part p m b :=
  tab_congr fun j _ _ => by rw [nb_far (p := p) (by omega)]; omega
theorem part_near (m : Nat) (p b : Int) : (tab m fun j => 0 + (nb (b + p) m j - nb b m j)) = part p m b :=
  tab_congr fun j _ _ => by omega
theorem nb_bound {l m j B : Int} (hm : 0 < m) (h0 : 0 ≤ j) (h1 : j < m) (l0 : 0 ≤ l) (l1 : l ≤ B) : 0 ≤ nb l m j ∧ nb l m j ≤ B + 1 := by
  unfold nb
  constructor
  · exact Int.ediv_nonneg (by omega) (by omega)
  · refine Int.le_trans (Int.ediv_le_ediv (b := B + m) hm (by omega)) ?_
    have e : (B + m) / m = B / m + 1 := by
      rw [show B + m = B + m * 1 by omega, Int.add_mul_ediv_left _ _ (by omega)]
    rw [e]
    have := Int.ediv_le_self (a := B) m (by omega)
    omega
theorem part_bound {p b : Int} {m : Nat} (hm : 0 < m) (p0 : 0 ≤ p) (b0 : 0 ≤ b) (hp : p ≤ 2 ^ 50) (hb : b ≤ 2 ^ 50) : ∀ v ∈ part p m b, v.natAbs < 2 ^ 60 := by
  intro v hv
  unfold part tab at hv
  obtain ⟨j, hj, rfl⟩ := List.mem_map.mp hv
  have := List.mem_range.mp hj
  have a := nb_bound (l := b + p) (m := m) (j := j) (B := 2 ^ 51) (by omega) (by omega) (by omega) (by omega) (by omega)
  have c := nb_bound (l := b) (m := m) (j := j) (B := 2 ^ 51) (by omega) (by omega) (by omega) (by omega) (by omega)
  show (nb (b + p) m j - nb b m j).natAbs < 2 ^ 60
  omega
theorem part_len (p : Int) (m : Nat) (b : Int) : (part p m b).length = m := tab_len _ _

/-! ### what is shown -/
structure Sh (k n : Nat) (d : PyData) : Prop where
  sh : d.showable = true
  nd : d.hasDict = false
  dp : d.depth ≤ k
  ln : d.shown.length ≤ n
theorem sh_int {i : Int} (h : i.natAbs < 2 ^ 100) : Sh 0 1921 (.int i) := by
  have hl : i.natAbs.log2 < 1920 := by
    by_cases h0 : i.natAbs = 0
    · rw [h0]; decide
    · exact (Nat.log2_lt h0).2 (Nat.lt_of_lt_of_le h (Nat.pow_le_pow_right (by decide) (by decide)))
  refine ⟨by simp only [PyData.showable, decide_eq_true_eq]; exact hl, by simp only [PyData.hasDict], by simp [PyData.depth], ?_⟩
  simp only [PyData.shown]
  exact int_text_len_1921 hl
theorem all_len {ds : List PyData} {k n : Nat} (h : ∀ d ∈ ds, Sh k n d) : PyData.showableAll ds = true ∧ PyData.hasDictAll ds = false ∧ PyData.depthAll ds ≤ k ∧ ((PyData.shownAll ds).map (·.length)).sum ≤ ds.length * n ∧ (PyData.shownAll ds).length = ds.length := by
  induction ds with
  | nil => simp [PyData.showableAll, PyData.hasDictAll, PyData.depthAll, PyData.shownAll]
  | cons d ds ih =>
    obtain ⟨a, b, c, e, f⟩ := ih fun x hx => h x (List.mem_cons_of_mem _ hx)
    have g := h d List.mem_cons_self
    refine ⟨by simp only [PyData.showableAll, g.sh, a, Bool.and_self], by simp only [PyData.hasDictAll, g.nd, b, Bool.or_self], ?_, ?_, ?_⟩
    · simp only [PyData.depthAll]
      have := g.dp
      omega
    · simp only [PyData.shownAll, List.map_cons, List.sum_cons, List.length_cons]
      have := g.ln
      rw [Nat.add_mul]
      omega
    · simp only [PyData.shownAll, List.length_cons, f]
theorem sh_tup {ds : List PyData} {k n : Nat} (h : ∀ d ∈ ds, Sh k n d) : Sh (k + 1) (ds.length * n + 2 * ds.length + 3) (.tuple ds) := by
  obtain ⟨a, b, c, e, f⟩ := all_len h
  refine ⟨by simp only [PyData.showable, a], by simp only [PyData.hasDict, b], by simp only [PyData.depth]; omega, ?_⟩
  simp only [PyData.shown]
  refine Nat.le_trans (tupleText_len_le _) ?_
  rw [f]
  omega
theorem sh_lst {ds : List PyData} {k n : Nat} (h : ∀ d ∈ ds, Sh k n d) : Sh (k + 1) (ds.length * n + 2 * ds.length + 3) (.list ds) := by
  obtain ⟨a, b, c, e, f⟩ := all_len h
  refine ⟨by simp only [PyData.showable, a], by simp only [PyData.hasDict, b], by simp only [PyData.depth]; omega, ?_⟩
  simp only [PyData.shown]
  refine Nat.le_trans (listText_len_le _) ?_
  rw [f]
  omega
theorem Sh.mono {k k' n n' : Nat} {d : PyData} (h : Sh k n d) (a : k ≤ k') (b : n ≤ n') : Sh k' n' d :=
  ⟨h.sh, h.nd, Nat.le_trans h.dp a, Nat.le_trans h.ln b⟩
def dInts (ns : List Int) : List PyData := ns.map PyData.int
theorem sh_ints {ns : List Int} (h : ∀ v ∈ ns, v.natAbs < 2 ^ 100) (hl : ns.length ≤ 100) : Sh 1 200000 (.tuple (dInts ns)) := by
  refine (sh_tup (k := 0) (n := 1921) fun d hd => ?_).mono (by omega) ?_
  · obtain ⟨v, hv, rfl⟩ := List.mem_map.mp hd
    exact sh_int (h v hv)
  · unfold dInts
    rw [List.length_map]
    omega
theorem dp_ints {K : PySem.W.Frag} {H : Hp} : ∀ ns : List Int, DpAll K H (ns.map V.int) (dInts ns)
  | [] => DpAll.nil
  | n :: ns => DpAll.cons (Dp.int n) (dp_ints ns)

/-- a comprehension without an if -/
theorem yes {σ : L2.St} {H : Hp} {R : Bool → Hp → Prop} (h : R true H) : tYes σ H R := h

/-! ### heaps -/
theorem same_upd {H : Hp} {p : Addr} {o : HO} (h : H p = none) : Same H (upd H p o) := fun b x e => by
  rw [upd_ne (ne_of_none e h)]
  exact e
theorem Same.tup {K : PySem.W.Frag} {H H' : Hp} {a : Addr} {xs : List V} (e : Same H H') (h : SqT K H a xs) : SqT K H' a xs := by
  rcases h with (h | ⟨o, h⟩) | h
  · exact .inl (.inl (e _ _ h))
  · exact .inl (.inr ⟨o, e _ _ h⟩)
  · exact .inr h
/-- all that was tracked is as it was, but what stands at f -/
def But (f : Addr) (H H' : Hp) : Prop := ∀ b o, b ≠ f → H b = some o → H' b = some o
theorem But.refl (f : Addr) (H : Hp) : But f H H := fun _ _ _ h => h
theorem But.trans {f : Addr} {H H1 H2 : Hp} (a : But f H H1) (b : But f H1 H2) : But f H H2 := fun c o n h => b c o n (a c o n h)
theorem But.same {f : Addr} {H H1 H2 : Hp} (a : But f H H1) (b : Same H1 H2) : But f H H2 := fun c o n h => b c o (a c o n h)
theorem But.of {f : Addr} {H H' : Hp} (a : Same H H') : But f H H' := fun c o _ h => a c o h
theorem But.upd {f : Addr} {H : Hp} {o : HO} : But f H (upd H f o) := fun b x n e => by
  rw [upd_ne n]
  exact e
mutual
theorem Dp.same {K : PySem.W.Frag} {H H' : Hp} (e : Same H H') : ∀ (d : PyData) (v : V), Dp K H v d → Dp K H' v d
  | .none, _, .non => .non
  | .bool _, _, .bl b => .bl b
  | .int _, _, .int i => .int i
  | .str _, _, .str x => .str x
  | .list ds, _, .lst h a => .lst (e.seq h) (DpAll.same e ds _ a)
  | .tuple ds, _, .tup h a => .tup (K07.Same.tup e h) (DpAll.same e ds _ a)
theorem DpAll.same {K : PySem.W.Frag} {H H' : Hp} (e : Same H H') : ∀ (ds : List PyData) (vs : List V), DpAll K H vs ds → DpAll K H' vs ds
  | [], _, .nil => .nil
  | d :: ds, _, .cons h t => .cons (Dp.same e d _ h) (DpAll.same e ds _ t)
end
theorem DpAll.snoc {K : PySem.W.Frag} {H : Hp} {v : V} {d : PyData} (h : Dp K H v d) : ∀ {vs : List V} {ds : List PyData}, DpAll K H vs ds → DpAll K H (vs ++ [v]) (ds ++ [d])
  | _, _, .nil => .cons h .nil
  | _, _, .cons a t => .cons a (DpAll.snoc h t)
theorem DpAll.len {K : PySem.W.Frag} {H : Hp} : ∀ {vs : List V} {ds : List PyData}, DpAll K H vs ds → vs.length = ds.length
  | _, _, .nil => rfl
  | _, _, .cons _ t => congrArg Nat.succ (DpAll.len t)
/-! no list stands in it -/
mutual
def noL : PyData → Bool
  | .list _ => false
  | .tuple xs => noLs xs
  | .dict _ => false
  | _ => true
def noLs : List PyData → Bool
  | [] => true
  | x :: xs => noL x && noLs xs
end
theorem SqT.but {K : PySem.W.Frag} {H H' : Hp} {o a : Addr} {xs zs : List V} (e : But o H H') (ho : H o = some (.lst zs)) (h : SqT K H a xs) : SqT K H' a xs := by
  rcases h with (h | ⟨u, h⟩) | h
  · exact .inl (.inl (e _ _ (ne_of h ho (fun z => nomatch z)) h))
  · exact .inl (.inr ⟨u, e _ _ (ne_of h ho (fun z => nomatch z)) h⟩)
  · exact .inr h
mutual
theorem Dp.but {K : PySem.W.Frag} {H H' : Hp} {o : Addr} {zs : List V} (e : But o H H') (ho : H o = some (.lst zs)) : ∀ (d : PyData) (v : V), noL d = true → Dp K H v d → Dp K H' v d
  | .none, _, _, .non => .non
  | .bool _, _, _, .bl b => .bl b
  | .int _, _, _, .int i => .int i
  | .str _, _, _, .str x => .str x
  | .list ds, _, n, _ => by simp [noL] at n
  | .tuple ds, _, n, .tup h a => .tup (K07.SqT.but e ho h) (DpAll.but e ho ds _ (by simpa only [noL] using n) a)
theorem DpAll.but {K : PySem.W.Frag} {H H' : Hp} {o : Addr} {zs : List V} (e : But o H H') (ho : H o = some (.lst zs)) : ∀ (ds : List PyData) (vs : List V), noLs ds = true → DpAll K H vs ds → DpAll K H' vs ds
  | [], _, _, .nil => .nil
  | d :: ds, _, n, .cons h t => by
    simp only [noLs, Bool.and_eq_true] at n
    exact .cons (Dp.but e ho d _ n.1 h) (DpAll.but e ho ds _ n.2 t)
end
theorem noLs_of {ds : List PyData} (h : ∀ d ∈ ds, noL d = true) : noLs ds = true := by
  induction ds with
  | nil => rfl
  | cons d ds ih => simp only [noLs, h d List.mem_cons_self, ih fun x hx => h x (List.mem_cons_of_mem _ hx), Bool.and_self]
/-- each piece dealt, begun where those ahead end -/
def deals (m : Nat) : List Int → Int → List (List Int)
  | [], _ => []
  | p :: ps, b => part p m b :: deals m ps (b + p)
theorem deals_snoc (m : Nat) (x : Int) : ∀ (ps : List Int) (b : Int), deals m (ps ++ [x]) b = deals m ps b ++ [part x m (b + ps.sum)]
  | [], b => by simp [deals]
  | p :: ps, b => by
    have := deals_snoc m x ps (b + p)
    simp only [List.cons_append, deals, this, List.sum_cons]
    rw [Int.add_assoc]
theorem deals_len (m : Nat) : ∀ (ps : List Int) (b : Int), (deals m ps b).length = ps.length
  | [], _ => rfl
  | _ :: ps, b => congrArg Nat.succ (deals_len m ps _)
def dRow (r : List Int) : PyData := .tuple (dInts r)
theorem noL_rows (rows : List (List Int)) : noLs (rows.map dRow) = true := noLs_of fun d hd => by
  obtain ⟨r, _, rfl⟩ := List.mem_map.mp hd
  show noLs (dInts r) = true
  refine noLs_of fun x hx => ?_
  obtain ⟨i, _, rfl⟩ := List.mem_map.mp hx
  rfl
/-- the list at o has these rows, each a tuple of ints -/
def RowsAt (K : PySem.W.Frag) (H : Hp) (o : Addr) (rows : List (List Int)) : Prop := ∃ vs, H o = some (.lst vs) ∧ DpAll K H vs (rows.map dRow)
theorem RowsAt.same {K : PySem.W.Frag} {H H' : Hp} {o : Addr} {rows : List (List Int)} (e : Same H H') (h : RowsAt K H o rows) : RowsAt K H' o rows := by
  obtain ⟨vs, a, b⟩ := h
  exact ⟨vs, e _ _ a, DpAll.same e _ _ b⟩
/-- a row more -/
theorem rows_more {K : PySem.W.Frag} {H H' : Hp} {o t : Addr} {us : List V} {rows : List (List Int)} {r : List Int} (eo : H o = some (.lst us)) (dv : DpAll K H us (rows.map dRow)) (sm : Same H H') (nt : H t = none) (et : H' t = some (.tup (r.map V.int))) :
    RowsAt K (upd H' o (.lst (us ++ [.ref t]))) o (rows ++ [r]) := by
  have eo' := sm _ _ eo
  refine ⟨_, upd_same, ?_⟩
  rw [List.map_append]
  have d1 := DpAll.but (K := K) (But.upd (f := o) (H := H') (o := .lst (us ++ [.ref t]))) eo' _ _ (noL_rows rows) (DpAll.same sm _ _ dv)
  refine DpAll.snoc (d := dRow r) ?_ d1
  have hto : t ≠ o := fun e => by
    rw [e, eo] at nt
    cases nt
  exact .tup (.inl (.inl (by rw [upd_ne hto]; exact et))) (dp_ints r)
theorem take_more {α : Type} {xs : List α} {i : Nat} {x : α} (h : xs[i]? = some x) : xs.take (i + 1) = xs.take i ++ [x] := by
  rw [List.take_add_one, h]
  rfl
end K07

set_option Elab.async false
set_option linter.all false
set_option maxRecDepth 100000
namespace K07
open PySem PySem.Spec PyProof.Rows L2 TB

/-! ### the text -/
def topS (i : Nat) : Stmt := PySem.Challenge.pw_tablebills_k07_deals.main.body.getD i (.Pass ⟨0, 0, 0, 0⟩)
abbrev sNb : Stmt := topS 1
abbrev sDeal : Stmt := topS 2
abbrev sOn : Stmt := topS 3
abbrev sFeed : Stmt := topS 5
abbrev sDraw : Stmt := topS 6
abbrev sDealt : Stmt := topS 7
abbrev sCounted : Stmt := topS 8
abbrev sPence : Stmt := topS 9
abbrev sRight : Stmt := topS 10
abbrev sLaw : Stmt := topS 11
theorem scNb : FnScope ["limit", "many", "hand"] ["limit", "many", "hand"] (defScope sNb) := ⟨rfl, rfl, rfl, by decide +kernel, rfl, by decide +kernel, by decide +kernel⟩
theorem scDeal : FnScope ["pence", "many", "begun", "ended", "hand"] ["pence", "many", "begun"] (defScope sDeal) := ⟨rfl, rfl, rfl, by decide +kernel, rfl, by decide +kernel, by decide +kernel⟩
theorem scOn : FnScope ["pieces", "many", "told", "begun", "pence"] ["pieces", "many"] (defScope sOn) := ⟨rfl, rfl, rfl, by decide +kernel, rfl, by decide +kernel, by decide +kernel⟩

section
variable {P : Program} {w : World} {K : PySem.W.Frag} {mg : Str → Option Value} {base : Heap}

/-! ### numbers_below -/
def spNb : Sp := fun vs H Q _ => ∃ (l m j : Int), vs = [.int l, .int m, .int j] ∧ 0 < m ∧ m < 1000 ∧ Q (.int (nb l m j)) H
theorem ok_nb {f : Addr} {fd : FuncData} {k : Nat} (F : Fun K "numbers_below" "numbers_below" sNb f fd) : FnOk P w K mg base CX0 (k + 1) f fd ["limit", "many", "hand"] spNb := by
  refine F.ok scNb (fun vs H Q E h => ?_) (fun cdv A outer s H vs Q E hr h => ?_)
  · obtain ⟨l, m, j, rfl, _⟩ := h
    rfl
  · obtain ⟨l, m, j, rfl, h0, h1, q⟩ := h
    refine ⟨_, pss_one (ps_ret (pe_op op_fdiv (pe_op op_sub (pe_op op_add (pe_op op_sub (pv 0) (pv 2)) (pv 1)) pe_int) (pv 1))), ?_⟩
    refine ⟨_, rfl, _, rfl, _, _, rfl, rfl, _, rfl, _, _, rfl, rfl, _, _, rfl, rfl, _, rfl, _, _, rfl, rfl, ⟨h0, by omega⟩, q⟩

/-! ### deal -/
def spDeal : Sp := fun vs H Q _ => ∃ (p b : Int) (m : Nat), vs = [.int p, .int (m : Int), .int b] ∧ 0 < m ∧ m < 1000 ∧
  ∀ H' t, Same H H' → H t = none → H' t = some (.tup ((part p m b).map V.int)) → Q (.ref t) H'
theorem ok_deal {f fN : Addr} {fd fdN : FuncData} {dvs : List V} (F : FunD K "deal" "deal" (defArgs sDeal) (defBody sDeal) (defScope sDeal) dvs [] f fd) (FN : Fun K "numbers_below" "numbers_below" sNb fN fdN) (bN : Binds K fdN ["limit", "many", "hand"] [])
    (gN : mg "numbers_below" = some (.ref fN)) (mt : mg "tuple" = none) (mr : mg "range" = none) : FnOk P w K mg base CX0 3 f fd ["pence", "many", "begun"] spDeal := by
  have GN : FnOk P w K mg base CX0 1 fN fdN ["limit", "many", "hand"] spNb := ok_nb FN
  refine F.ok scDeal (fun vs H Q E h => ?_) (fun cdv A outer s H vs Q E hr h => ?_)
  · obtain ⟨p, b, m, rfl, _⟩ := h
    rfl
  · obtain ⟨p, b, m, rfl, h0, h1, q⟩ := h
    refine ⟨_, pss_cons (ps_set (i := 3) scDeal.nd rfl (.inr rfl) (pe_op op_add (pv 2) (pv 0)))
      (pss_one (ps_ret (pe_callTy call_tuple_of (by rfl) mt (by decide +kernel) (pa_cons
        (pe_lc (own := [("hand", 4)]) (g := gName 4) (tt := tYes) rfl scDeal.nd (pi_range1 (by rfl) mr (pa_cons (pv 1) pa_nil))
          (blkOk_by (N := ["pence", "many", "begun", "ended", "hand"]) (sc := defScope sDeal) (by decide +kernel))
          (fun _ _ _ _ _ => pg_name (i := 4) scDeal.nd rfl (.inl rfl)) (fun _ _ _ _ _ => pts_nil)
          (fun _ _ _ _ _ => pe_op op_sub
            (pe_call GN (hr.mono (by decide)) (by rfl) gN FN.kp bN .nil pass0 (pa_cons (pv 3) (pa_cons (pv 1) (pa_cons (pv 4) pa_nil))))
            (pe_call GN (hr.mono (by decide)) (by rfl) gN FN.kp bN .nil pass0 (pa_cons (pv 2) (pa_cons (pv 1) (pa_cons (pv 4) pa_nil)))))) pa_nil)))), ?_⟩
    refine ⟨_, rfl, _, rfl, b, p, rfl, rfl, ?_⟩
    refine ⟨_, rfl, (m : Int), rfl, by omega, by omega, fun D nD => ?_⟩
    refine lc_range (lo := 0) (n := (m : Int).toNat) (fun i H1 => Same H H1 ∧ H1 D = some (.lst ((tab i fun j => nb (b + p) m j - nb b m j).map V.int))) ⟨same_upd nD, upd_same⟩ (fun i H1 hi hP => ?_) (fun H1 hP => ?_)
    · obtain ⟨sm, eD⟩ := hP
      refine ⟨rfl, yes (iteT ?_)⟩
      refine ⟨_, rfl, _, rfl, _, rfl, b + p, m, 0 + (i : Int), rfl, by omega, by omega, ?_⟩
      refine ⟨_, rfl, _, rfl, _, rfl, b, m, 0 + (i : Int), rfl, by omega, by omega, ?_⟩
      refine ⟨_, _, rfl, rfl, _, eD, ?_, ?_, ?_⟩
      · rw [List.length_map, tab_len]
        exact small1000 (by omega)
      · intro c o e
        rw [upd_ne (ne_of_none e nD)]
        exact sm c o e
      · rw [upd_same]
        unfold tab
        rw [List.range_succ, List.map_append, List.map_append, Int.zero_add]
        rfl
    · obtain ⟨sm, eD⟩ := hP
      rw [Int.toNat_natCast] at eD
      refine ⟨D, _, rfl, .inl ⟨.inl (.inl eD), fun t nt => ?_⟩⟩
      have s2 : Same H1 (upd H1 t (.tup ((part p m b).map V.int))) := same_upd nt
      exact q _ t (sm.trans s2) (sm.free nt) upd_same

/-! ### dealt_on -/
def spOn (K : PySem.W.Frag) : Sp := fun vs H Q _ => ∃ (a : Addr) (ps : List Int) (m : Nat), vs = [.ref a, .int (m : Int)] ∧ SqT K H a (ps.map V.int) ∧ ps.length ≤ 100 ∧ 0 < m ∧ m < 1000 ∧
  ∀ H' o, Same H H' → H o = none → RowsAt K H' o (deals m ps 0) → Q (.ref o) H'
theorem ok_on {f fD : Addr} {fd fdD : FuncData} (F : Fun K "dealt_on" "dealt_on" sOn f fd) (GD : FnOk P w K mg base CX0 3 fD fdD ["pence", "many", "begun"] spDeal) (kD : PySem.W.keepIn K (.ref fD) = true) (bD : Binds K fdD ["pence", "many", "begun"] [])
    (gD : mg "deal" = some (.ref fD)) : FnOk P w K mg base CX0 4 f fd ["pieces", "many"] (spOn K) := by
  refine F.ok scOn (fun vs H Q E h => ?_) (fun cdv A outer s H vs Q E hr h => ?_)
  · obtain ⟨a, ps, m, rfl, _⟩ := h
    rfl
  · obtain ⟨a, ps, m, rfl, hA, hlen, h0, h1, q⟩ := h
    refine ⟨_, pss_cons (ps_set (i := 2) scOn.nd rfl (.inl rfl) (pe_lst pa_nil))
      (pss_cons (ps_set (i := 3) scOn.nd rfl (.inl rfl) pe_int)
      (pss_cons (ps_for PassesOwn.never rfl (pi_tup (pv 0)) (pg_name (i := 4) scOn.nd rfl (.inl rfl))
        (pss_cons (ps_expr (pe_bm PySem.F.plainAttrs_list PySem.F.slot_list_append PySem.F.type_list_append mt_append (pv 2)
          (pa_cons (pe_call GD hr (by rfl) gD kD bD .nil pass0 (pa_cons (pv 4) (pa_cons (pv 1) (pa_cons (pv 3) pa_nil)))) pa_nil)))
        (pss_one (ps_aug (i := 3) scOn.nd rfl (.inl rfl) (pv 4) ip_add))))
      (pss_one (ps_ret (pv 2))))), ?_⟩
    refine ⟨Nat.zero_le _, fun o no => ?_⟩
    have s1 : Same H (upd H o (.lst [])) := same_upd no
    refine ⟨.ref a, rfl, a, rfl, ⟨_, K07.Same.tup s1 hA⟩, ?_⟩
    refine for_tup (xs := ps.map V.int) (fun i σ H1 => ∃ y, σ = [some (.ref a), some (.int m), some (.ref o), some (.int (ps.take i).sum), y] ∧ Same H H1 ∧ RowsAt K H1 o (deals m (ps.take i) 0)) ?_ ?_ ?_ ?_
    · exact ⟨none, rfl, s1, [], upd_same, .nil⟩
    · rintro i σ H1 _ ⟨y, _, sm, _⟩
      exact K07.Same.tup sm hA
    · rintro i x σ H1 hx ⟨y, rfl, sm, us, eo, dv⟩
      obtain ⟨p, hp, rfl⟩ : ∃ p, ps[i]? = some p ∧ x = V.int p := by
        rw [List.getElem?_map] at hx
        cases e : ps[i]? with
        | none => rw [e] at hx; cases hx
        | some p => rw [e] at hx; exact ⟨p, rfl, (Option.some.inj hx).symm⟩
      refine ⟨.ref o, rfl, .inl ⟨rfl, _, .inl (.inl eo)⟩, .int p, rfl, .int m, rfl, .int (ps.take i).sum, rfl, p, (ps.take i).sum, m, rfl, h0, h1, fun H2 t sm2 nt et => ?_⟩
      have eo2 := sm2 _ _ eo
      have ul := DpAll.len dv
      rw [List.length_map, deals_len] at ul
      refine ⟨o, _, _, rfl, rfl, eo2, ?_, ?_⟩
      · rw [ul]
        have := List.length_take_le i ps
        exact small1000 (by have := List.length_take_le' i ps; omega)
      · refine ⟨_, rfl, _, rfl, _, _, rfl, rfl, some (.int p), ?_, ?_, ?_⟩
        · rw [take_more hp, List.sum_append]
          simp
        · intro b z e
          rw [upd_ne (ne_of_none e no)]
          exact sm2 _ _ (sm _ _ e)
        · rw [take_more hp, deals_snoc, Int.zero_add]
          exact rows_more eo dv sm2 nt et
    · rintro σ H1 ⟨y, rfl, sm, hR⟩
      rw [List.length_map, List.take_length] at hR
      exact ⟨.ref o, rfl, q H1 o sm no hR⟩
end
end K07

set_option Elab.async false
set_option linter.all false
set_option maxRecDepth 100000
namespace K07
open PySem PySem.Spec PyProof.Rows L2 TB

theorem scFeed : FnScope ["_law_script"] ["_law_script"] (defScope sFeed) := ⟨rfl, rfl, rfl, by decide +kernel, rfl, by decide +kernel, by decide +kernel⟩
theorem scDraw : FnScope ["_law_feed_here", "_law_many", "_law_told", "_law_cell", "_law_turn", "_law_mixed"] ["_law_feed_here", "_law_many"] (defScope sDraw) := ⟨rfl, rfl, rfl, by decide +kernel, rfl, by decide +kernel, by decide +kernel⟩

/-! ### the feed: the script's numbers, a place, a rest, how many draws -/
structure Feed (H : Hp) (F S : Addr) (T : Int) : Prop where
  ex : ∃ (ns : List Int) (p r t : Int), H F = some (.lst [.ref S, .int p, .int r, .int t]) ∧ S ≠ F ∧ H S = some (.lst (ns.map V.int)) ∧ ns.length ≤ 1000 ∧ 0 ≤ p ∧ 0 ≤ r ∧ 0 ≤ t ∧ t ≤ T
theorem Feed.same {H H' : Hp} {F S : Addr} {T : Int} (e : Same H H') (h : Feed H F S T) : Feed H' F S T := by
  obtain ⟨ns, p, r, t, a, n, b, c⟩ := h.ex
  exact ⟨⟨ns, p, r, t, e _ _ a, n, e _ _ b, c⟩⟩
theorem Feed.there {H : Hp} {F S : Addr} {T : Int} (h : Feed H F S T) : ∃ zs, H F = some (.lst zs) := by
  obtain ⟨ns, p, r, t, a, _⟩ := h.ex
  exact ⟨_, a⟩
/-- a new place is neither the feed nor its numbers -/
theorem Feed.ne {H : Hp} {F S D : Addr} {T : Int} (h : Feed H F S T) (n : H D = none) : D ≠ F ∧ D ≠ S := by
  obtain ⟨ns, p, r, t, a, _, b, _⟩ := h.ex
  exact ⟨(ne_of_none a n).symm, (ne_of_none b n).symm⟩
theorem Feed.upd {H : Hp} {F S D : Addr} {T : Int} {o : HO} (h : Feed H F S T) (n : D ≠ F ∧ D ≠ S) : Feed (upd H D o) F S T := by
  obtain ⟨ns, p, r, t, a, k, b, c⟩ := h.ex
  exact ⟨⟨ns, p, r, t, by rw [upd_ne n.1.symm]; exact a, k, by rw [upd_ne n.2.symm]; exact b, c⟩⟩
theorem Feed.mono {H : Hp} {F S : Addr} {T T' : Int} (h : Feed H F S T) (l : T ≤ T') : Feed H F S T' := by
  obtain ⟨ns, p, r, t, a, n, b, c, d, e, f, g⟩ := h.ex
  exact ⟨⟨ns, p, r, t, a, n, b, c, d, e, f, by omega⟩⟩
theorem But.free {f : Addr} {H H' : Hp} {zs : List V} (e : But f H H') (hf : H' f = some (.lst zs)) {l : Addr} (h : H' l = none) : H l = none := by
  cases q : H l with
  | none => rfl
  | some o =>
    have n : l ≠ f := fun z => by
      rw [z, hf] at h
      cases h
    rw [e l o n q] at h
    cases h

section
variable {P : Program} {w : World} {K : PySem.W.Frag} {mg : Str → Option Value} {base : Heap}
/-! ### _law_feed -/
def spFeed (K : PySem.W.Frag) : Sp := fun vs H Q _ => ∃ (a : Addr) (ns : List Int), vs = [.ref a] ∧ SqL K H a (ns.map V.int) ∧ ns.length ≤ 1000 ∧
  ∀ H' F S, Same H H' → H F = none → Feed H' F S 0 → Q (.ref F) H'
theorem cutV_ints (ns : List Int) (lo hi : Option Int) : ∃ ms : List Int, cutV (ns.map V.int) lo hi = ms.map V.int ∧ ms.length ≤ ns.length := by
  unfold cutV
  refine ⟨(ns.drop (HT.sIx (ns.map V.int).length 0 lo)).take (HT.sIx (ns.map V.int).length (ns.map V.int).length hi - HT.sIx (ns.map V.int).length 0 lo), ?_, ?_⟩
  · rw [List.map_take, List.map_drop]
  · rw [List.length_take, List.length_drop]
    omega
theorem ok_feed {f : Addr} {fd : FuncData} {k : Nat} (F : Fun K "_law_feed" "_law_feed" sFeed f fd) : FnOk P w K mg base CX0 (k + 1) f fd ["_law_script"] (spFeed K) := by
  refine F.ok scFeed (fun vs H Q E h => ?_) (fun cdv A outer s H vs Q E hr h => ?_)
  · obtain ⟨a, ns, rfl, _⟩ := h
    rfl
  · obtain ⟨a, ns, rfl, hS, hl, q⟩ := h
    refine ⟨_, pss_one (ps_ret (pe_lst (pa_cons (pe_slice sl_list (pv 0) po_none (po_some pe_int)) (pa_cons pe_int (pa_cons pe_int (pa_cons pe_int pa_nil)))))), ?_⟩
    obtain ⟨ms, em, hm⟩ := cutV_ints ns none (some 63)
    refine ⟨.ref a, rfl, 63, rfl, a, _, rfl, hS, fun S nS => ⟨by show (4 : Nat) ≤ sizeLine; decide, fun L nL => ?_⟩⟩
    have s1 : Same H (upd H S (.lst (cutV (ns.map V.int) none (some 63)))) := same_upd nS
    have nSL : S ≠ L := fun e => by
      rw [← e, upd_same] at nL
      cases nL
    refine q _ L S (s1.trans (same_upd nL)) (s1.free nL) ⟨⟨ms, 0, 0, 0, upd_same, nSL, ?_, by omega, by omega, by omega, by omega, by omega⟩⟩
    rw [upd_ne nSL, upd_same, em]

/-! ### _law_draw -/
def spDraw : Sp := fun vs H Q _ => ∃ (F S : Addr) (m T : Int), vs = [.ref F, .int m] ∧ 0 < m ∧ m < 2 ^ 50 ∧ Feed H F S T ∧ T < 2 ^ 40 ∧
  ∀ H' v, But F H H' → Feed H' F S (T + 1) → 0 ≤ v → v < m → Q (.int v) H'
theorem eqv_nil : ∀ ns : List Int, PyData.eqv (.list (dInts ns)) (.list []) = decide (ns = [])
  | [] => by simp [dInts, PyData.eqv, PyData.eqvAll]
  | n :: ns => by simp [dInts, PyData.eqv, PyData.eqvAll]
theorem shaped_ints (ns : List Int) : SeqAt.shaped (.list (dInts ns)) = true := by
  have h : ∀ ms : List Int, PyData.canLayAll0 (dInts ms) = true ∧ PyData.depthAll (dInts ms) = 0 := by
    intro ms
    induction ms with
    | nil => exact ⟨rfl, rfl⟩
    | cons m ms ih => exact ⟨by simpa [dInts, PyData.canLayAll0, PyData.canLay0] using ih.1, by simpa [dInts, PyData.depthAll, PyData.depth] using ih.2⟩
  unfold SeqAt.shaped
  simp only [PyData.canLay0, PyData.depth, (h ns).1, (h ns).2]
  decide
theorem ok_draw {f : Addr} {fd : FuncData} {k : Nat} (F : Fun K "_law_draw" "_law_draw" sDraw f fd) (m_len : mg "len" = none) : FnOk P w K mg base CX0 (k + 1) f fd ["_law_feed_here", "_law_many"] spDraw := by
  refine F.ok scDraw (fun vs H Q E h => ?_) (fun cdv A outer s H vs Q E hr h => ?_)
  · obtain ⟨a, S, m, T, rfl, _⟩ := h
    rfl
  · obtain ⟨L, S, m, T, rfl, m0, m1, hF, hT, q⟩ := h
    refine ⟨_, (pss_cons (ps_augS (pv 0) pe_int get_list pe_int ip_add set_list)
      (pss_cons (ps_if (pt_cmpR op_gt (pe_ix ix_list (pv 0) pe_int (fun _ _ => rfl)) pe_int (nomark _)) (pss_cons (ps_set (i := 2) scDraw.nd rfl (.inl rfl) (pe_op op_mod (pe_ix ix_list (pv 0) pe_int (fun _ _ => rfl)) (pv 1)))
      (pss_cons (ps_asg (pe_op op_fdivW (pe_ix ix_list (pv 0) pe_int (fun _ _ => rfl)) (pv 1)) (pg_sub (pv 0) pe_int set_list))
      (pss_one (ps_ret (pv 2))))) pss_nil)
      (pss_cons (ps_set (i := 3) scDraw.nd rfl (.inl rfl) (pe_ifExp (pt_cmpR (op_eqD hr.units) (pe_ix ix_list (pv 0) pe_int (fun _ _ => rfl)) (pe_lst pa_nil) (nomark _)) pe_int (pe_ix ix_list (pe_ix ix_list (pv 0) pe_int (fun _ _ => rfl)) (pe_op op_mod (pe_ix ix_list (pv 0) pe_int (fun _ _ => rfl)) (pe_callB call_len_seq (by rfl) m_len (by decide +kernel) (pa_cons (pe_ix ix_list (pv 0) pe_int (fun _ _ => rfl)) pa_nil))) (fun _ _ => rfl))))
      (pss_cons (ps_augS (pv 0) pe_int get_list pe_int ip_add set_list)
      (pss_cons (ps_if (PW.pt (pw_and (pt_cmpR op_ge (pv 3) (pe_op op_pow pe_int pe_int) (nomark _)) (pw_and1 (pt_cmpR op_le (pe_ix ix_list (pv 0) pe_int (fun _ _ => rfl)) (pe_callB call_len_seq (by rfl) m_len (by decide +kernel) (pa_cons (pe_ix ix_list (pv 0) pe_int (fun _ _ => rfl)) pa_nil)) (nomark _))))) (pss_cons (ps_asg (pe_op op_fdivW (pv 3) (pv 1)) (pg_sub (pv 0) pe_int set_list))
      (pss_one (ps_ret (pe_op op_mod (pv 3) (pv 1))))) pss_nil)
      (pss_cons (ps_set (i := 4) scDraw.nd rfl (.inl rfl) (pe_ix ix_list (pv 0) pe_int (fun _ _ => rfl)))
      (pss_cons (ps_set (i := 5) scDraw.nd rfl (.inl rfl) (pe_op op_mod (pe_op op_add (pe_op op_add (pe_op op_mod (pv 3) pe_int) (pe_op op_mul (pe_op op_mul pe_int (pv 4)) (pv 4))) (pe_op op_mul pe_int (pv 4))) pe_int))
      (pss_cons (ps_set (i := 5) scDraw.nd rfl (.inl rfl) (pe_op op_mod (pe_op op_add (pe_op op_mul (pv 5) (pv 5)) (pe_op op_mul pe_int (pv 4))) pe_int))
      (pss_cons (ps_set (i := 5) scDraw.nd rfl (.inl rfl) (pe_op op_mod (pe_op op_add (pe_op op_mul (pv 5) (pv 5)) (pe_op op_mul pe_int (pv 4))) pe_int))
      (pss_one (ps_ret (pe_op op_mod (pe_op op_fdivW (pe_op op_mod (pe_op op_add (pe_op op_mul (pv 5) (pv 5)) (pv 4)) pe_int) pe_int) (pv 1))))))))))))), ?_⟩
    obtain ⟨ns, p, r, t, eF, nSF, hS, hn, p0, r0, t0, tT⟩ := hF.ex
    -- feed[3] += 1
    refine ⟨.ref L, rfl, L, _, 3, _, rfl, rfl, .inl (.inl eF), rfl, _, _, rfl, rfl, L, _, 3, 3, rfl, rfl, eF, rfl, ?_⟩
    generalize hH1 : upd H L (.lst (List.set [V.ref S, V.int p, V.int r, V.int t] 3 (V.int ((fun i j => i + j) t 1)))) = H1
    have e1 : H1 L = some (.lst [.ref S, .int p, .int r, .int (t + 1)]) := by
      rw [← hH1]
      exact upd_same
    have b1 : But L H H1 := by
      rw [← hH1]
      exact But.upd
    clear hH1
    have hS1 := b1 _ _ nSF hS
    have back : ∀ (H2 : Hp) (p' r' : Int) (v : Int), But L H H2 → H2 S = some (.lst (ns.map V.int)) → H2 L = some (.lst [.ref S, .int p', .int r', .int (t + 1)]) → 0 ≤ p' → 0 ≤ r' → 0 ≤ v → v < m → Q (.int v) H2 :=
      fun H2 p' r' v a hs b c d x y => q H2 v a ⟨⟨ns, p', r', t + 1, b, nSF, hs, hn, c, d, by omega, by omega⟩⟩ x y
    -- if feed[2] > 0
    refine ⟨.ref L, rfl, L, _, 2, _, rfl, rfl, .inl (.inl e1), atI_nat (j := 2) rfl, _, _, rfl, rfl, _, rfl, ite2 (fun c => ?_) (fun c => ?_)⟩
    · refine ⟨.ref L, rfl, L, _, 2, _, rfl, rfl, .inl (.inl e1), atI_nat (j := 2) rfl, _, rfl, r, m, rfl, rfl, m0, ?_⟩
      refine ⟨.ref L, rfl, L, _, 2, _, rfl, rfl, .inl (.inl e1), atI_nat (j := 2) rfl, _, rfl, r, m, rfl, rfl, wide_div (b := 60) m0 (by omega) (by omega) (by omega), ?_⟩
      refine ⟨.ref L, rfl, L, _, 2, 2, rfl, rfl, e1, rfl, ?_⟩
      have b2 : But L H1 (upd H1 L (.lst [.ref S, .int p, .int (r / m), .int (t + 1)])) := But.upd
      refine ⟨_, rfl, ?_⟩
      exact back _ p (r / m) (r % m) (b1.trans b2) (b2 _ _ nSF hS1) upd_same p0 (Int.ediv_nonneg r0 (by omega)) (Int.emod_nonneg _ (by omega)) (Int.emod_lt_of_pos _ m0)
    · -- the cell
      refine ⟨.ref L, rfl, L, _, 0, _, rfl, rfl, .inl (.inl e1), atI_nat (j := 0) rfl, Nat.zero_le _, fun z nz => ?_⟩
      have sz : Same H1 (upd H1 z (.lst [])) := same_upd nz
      generalize hH2 : upd H1 z (.lst []) = H2 at sz
      have ez : H2 z = some (.lst []) := by
        rw [← hH2]
        exact upd_same
      have b2 : But L H H2 := b1.same sz
      have e2 := sz _ _ e1
      have hS2 := sz _ _ hS1
      clear hH2
      refine ⟨.list (dInts ns), .list [], .lst (.inl (.inl hS2)) (dp_ints ns), .lst (.inl (.inl ez)) .nil, shaped_ints ns, rfl, _, rfl, ?_⟩
      rw [eqv_nil]
      refine ite2 (fun c => ?_) (fun c => ?_)
      rotate_left
      have hne : 0 < (ns.map V.int).length := by
        cases ns with
        | nil => exact absurd rfl c
        | cons x xs => simp
      have i0 := Int.emod_nonneg p (show ((ns.map V.int).length : Int) ≠ 0 by omega)
      have i1 := Int.emod_lt_of_pos p (show (0 : Int) < (ns.map V.int).length by omega)
      obtain ⟨j, hj⟩ : ∃ j : Nat, p % ((ns.map V.int).length : Int) = (j : Int) := ⟨_, (Int.toNat_of_nonneg i0).symm⟩
      have hjl : j < ns.length := by
        rw [hj, List.length_map] at i1
        omega
      have gj : (ns.map V.int)[j]? = some (.int ns[j]) := by
        rw [List.getElem?_map, List.getElem?_eq_getElem hjl]
        rfl
      refine ⟨.ref L, rfl, L, _, 0, _, rfl, rfl, .inl (.inl e2), atI_nat (j := 0) rfl, .ref L, rfl, L, _, 1, _, rfl, rfl, .inl (.inl e2), atI_nat (j := 1) rfl, .ref L, rfl, L, _, 0, _, rfl, rfl, .inl (.inl e2), atI_nat (j := 0) rfl, S, _, rfl, .inl (.inl (.inl hS2)), p, _, rfl, rfl, by omega, S, _, _, _, rfl, rfl, .inl (.inl hS2), (by rw [hj]; exact atI_nat gj), ?_⟩
      all_goals
        -- feed[1] += 1
        refine ⟨.ref L, rfl, L, _, 1, _, rfl, rfl, .inl (.inl e2), rfl, _, _, rfl, rfl, L, _, 1, 1, rfl, rfl, e2, rfl, ?_⟩
        generalize hH3 : upd H2 L (.lst (List.set [V.ref S, V.int p, V.int r, V.int (t + 1)] 1 (V.int ((fun i j => i + j) p 1)))) = H3
        have e3 : H3 L = some (.lst [.ref S, .int (p + 1), .int r, .int (t + 1)]) := by
          rw [← hH3]
          exact upd_same
        have b23 : But L H2 H3 := by
          rw [← hH3]
          exact But.upd
        have b3 := b2.trans b23
        have hS3 := b23 _ _ nSF hS2
        clear hH3
        have back3 : ∀ r' v : Int, 0 ≤ r' → 0 ≤ v → v < m → Q (.int v) (upd H3 L (.lst [.ref S, .int (p + 1), .int r', .int (t + 1)])) := fun r' v x y z =>
          have b34 : But L H3 (upd H3 L (.lst [.ref S, .int (p + 1), .int r', .int (t + 1)])) := But.upd
          back _ (p + 1) r' v (b3.trans b34) (b34 _ _ nSF hS3) upd_same (by omega) x y z
        -- if cell >= 10 ** 18 and ..
        refine ⟨_, rfl, _, _, rfl, rfl, ⟨by decide, by decide, by decide⟩, _, _, rfl, rfl, _, rfl, ite2 (fun c1 => ?_) (fun c1 => ?_)⟩
        · refine ⟨.ref L, rfl, L, _, 1, _, rfl, rfl, .inl (.inl e3), atI_nat (j := 1) rfl, .ref L, rfl, L, _, 0, _, rfl, rfl, .inl (.inl e3), atI_nat (j := 0) rfl, S, _, rfl, .inl (.inl (.inl hS3)), _, _, rfl, rfl, _, rfl, ite2 (fun c2 => ?_) (fun c2 => ?_)⟩
          · refine ⟨_, rfl, _, rfl, _, _, rfl, rfl, wide_div (b := 60) m0 (by omega) (by omega) (by omega), .ref L, rfl, L, _, 2, 2, rfl, rfl, e3, rfl, ?_⟩
            refine ⟨_, rfl, _, rfl, _, _, rfl, rfl, m0, ?_⟩
            exact back3 _ _ (Int.ediv_nonneg (Int.le_trans (by decide) (of_decide_eq_true c1)) (by omega)) (Int.emod_nonneg _ (by omega)) (Int.emod_lt_of_pos _ m0)
          · refine ⟨.ref L, rfl, L, _, 3, _, rfl, rfl, .inl (.inl e3), atI_nat (j := 3) rfl, ?_⟩
            refine ⟨_, rfl, _, _, rfl, rfl, (by show (0 : Int) < _; decide), _, rfl, _, _, rfl, rfl, .inl ⟨by decide, by decide⟩, _, rfl, _, _, rfl, rfl, .inr ⟨by omega, by omega⟩, _, _, rfl, rfl, _, rfl, _, _, rfl, rfl, .inl ⟨by decide, by decide⟩, _, _, rfl, rfl, _, _, rfl, rfl, (by show (0 : Int) < _; decide), ?_⟩
            refine ⟨_, rfl, _, rfl, _, _, rfl, rfl, .inl ⟨by omega, by omega⟩, _, rfl, _, _, rfl, rfl, .inl ⟨by decide, by decide⟩, _, _, rfl, rfl, _, _, rfl, rfl, (by show (0 : Int) < _; decide), ?_⟩
            refine ⟨_, rfl, _, rfl, _, _, rfl, rfl, .inl ⟨by omega, by omega⟩, _, rfl, _, _, rfl, rfl, .inl ⟨by decide, by decide⟩, _, _, rfl, rfl, _, _, rfl, rfl, (by show (0 : Int) < _; decide), ?_⟩
            refine ⟨_, rfl, _, rfl, _, _, rfl, rfl, .inl ⟨by omega, by omega⟩, _, rfl, _, _, rfl, rfl, _, _, rfl, rfl, (by show (0 : Int) < _; decide), _, _, rfl, rfl, wide_div (b := 60) (by decide) (by decide) (by omega) (by omega), _, rfl, _, _, rfl, rfl, m0, ?_⟩
            exact back H3 (p + 1) r _ b3 hS3 e3 (by omega) r0 (Int.emod_nonneg _ (by omega)) (Int.emod_lt_of_pos _ m0)
        · refine ⟨.ref L, rfl, L, _, 3, _, rfl, rfl, .inl (.inl e3), atI_nat (j := 3) rfl, ?_⟩
          refine ⟨_, rfl, _, _, rfl, rfl, (by show (0 : Int) < _; decide), _, rfl, _, _, rfl, rfl, .inl ⟨by decide, by decide⟩, _, rfl, _, _, rfl, rfl, .inr ⟨by omega, by omega⟩, _, _, rfl, rfl, _, rfl, _, _, rfl, rfl, .inl ⟨by decide, by decide⟩, _, _, rfl, rfl, _, _, rfl, rfl, (by show (0 : Int) < _; decide), ?_⟩
          refine ⟨_, rfl, _, rfl, _, _, rfl, rfl, .inl ⟨by omega, by omega⟩, _, rfl, _, _, rfl, rfl, .inl ⟨by decide, by decide⟩, _, _, rfl, rfl, _, _, rfl, rfl, (by show (0 : Int) < _; decide), ?_⟩
          refine ⟨_, rfl, _, rfl, _, _, rfl, rfl, .inl ⟨by omega, by omega⟩, _, rfl, _, _, rfl, rfl, .inl ⟨by decide, by decide⟩, _, _, rfl, rfl, _, _, rfl, rfl, (by show (0 : Int) < _; decide), ?_⟩
          refine ⟨_, rfl, _, rfl, _, _, rfl, rfl, .inl ⟨by omega, by omega⟩, _, rfl, _, _, rfl, rfl, _, _, rfl, rfl, (by show (0 : Int) < _; decide), _, _, rfl, rfl, wide_div (b := 60) (by decide) (by decide) (by omega) (by omega), _, rfl, _, _, rfl, rfl, m0, ?_⟩
          exact back H3 (p + 1) r _ b3 hS3 e3 (by omega) r0 (Int.emod_nonneg _ (by omega)) (Int.emod_lt_of_pos _ m0)
end
end K07

set_option Elab.async false
set_option linter.all false
set_option maxRecDepth 100000
namespace K07
open PySem PySem.Spec PyProof.Rows L2 TB

theorem scDealt : FnScope ["_law_pence_here", "_law_many", "_law_begun", "_law_found", "_law_turn", "_law_hand"] ["_law_pence_here", "_law_many", "_law_begun"] (defScope sDealt) := ⟨rfl, rfl, rfl, by decide +kernel, rfl, by decide +kernel, by decide +kernel⟩
theorem scCounted : FnScope ["_law_pence_here", "_law_many", "_law_begun", "_law_found", "_law_number", "_law_hand"] ["_law_pence_here", "_law_many", "_law_begun"] (defScope sCounted) := ⟨rfl, rfl, rfl, by decide +kernel, rfl, by decide +kernel, by decide +kernel⟩
theorem scPence : FnScope ["_law_feed_here", "_law_far"] ["_law_feed_here"] (defScope sPence) := ⟨rfl, rfl, rfl, by decide +kernel, rfl, by decide +kernel, by decide +kernel⟩
theorem ixN_nat {n k : Nat} (h : k < n) : ixN n (k : Int) = some k := by
  unfold ixN
  rw [if_pos (by omega), if_pos (by omega)]
  simp
section
variable {P : Program} {w : World} {K : PySem.W.Frag} {mg : Str → Option Value} {base : Heap}
/-! ### _law_dealt -/
theorem ok_dealt {f : Addr} {fd : FuncData} {k : Nat} (F : Fun K "_law_dealt" "_law_dealt" sDealt f fd) (m_range : mg "range" = none) (m_tuple : mg "tuple" = none) : FnOk P w K mg base CX0 (k + 1) f fd ["_law_pence_here", "_law_many", "_law_begun"] spDeal := by
  refine F.ok scDealt (fun vs H Q E h => ?_) (fun cdv A outer s H vs Q E hr h => ?_)
  · obtain ⟨p, b, m, rfl, _⟩ := h
    rfl
  · obtain ⟨p, b, m, rfl, h0, h1, q⟩ := h
    refine ⟨_, (pss_cons (ps_setLc (i := 3) (own := [("_law_hand", 5)]) (g := gName 5) (tt := tYes) rfl scDealt.nd rfl rfl (sw_true rfl rfl rfl (by decide +kernel)) (pi_range1 (by rfl) m_range (pa_cons (pv 1) pa_nil)) (blkOk_by (own := [("_law_hand", 5)]) (N := ["_law_pence_here", "_law_many", "_law_begun", "_law_found", "_law_turn", "_law_hand"]) (sc := defScope sDealt) (by decide +kernel)) (fun _ _ _ _ _ => (pg_name (i := 5) scDealt.nd rfl (.inl rfl))) (fun _ _ _ _ _ => pts_nil) (fun _ _ _ _ _ => (pe_op op_fdivW (pv 0) (pv 1))))
      (pss_cons (ps_for PassesOwn.never rfl (pi_range1 (by rfl) m_range (pa_cons (pe_op op_mod (pv 0) (pv 1)) pa_nil)) (pg_name (i := 4) scDealt.nd rfl (.inl rfl)) (pss_one (ps_augS (pv 3) (pe_op op_mod (pe_op op_add (pv 2) (pv 4)) (pv 1)) get_list pe_int ip_add set_list)))
      (pss_one (ps_ret (pe_callTy call_tuple_of (by rfl) m_tuple (by decide +kernel) (pa_cons (pv 3) pa_nil)))))), ?_⟩
    refine ⟨_, rfl, (m : Int), rfl, by omega, by omega, fun D nD => ?_⟩
    refine lc_range (lo := 0) (n := (m : Int).toNat) (fun i H1 => Same H H1 ∧ H1 D = some (.lst ((tab i fun _ => p / m).map V.int))) ⟨same_upd nD, upd_same⟩ (fun i H1 hi hP => ?_) (fun H1 hP => ?_)
    · obtain ⟨sm, eD⟩ := hP
      refine ⟨rfl, yes (iteT ?_)⟩
      refine ⟨_, rfl, _, rfl, p, m, rfl, rfl, wide_div (b := 60) (by omega) (by omega) (by omega) (by omega), _, eD, ?_, ?_, ?_⟩
      · rw [List.length_map, tab_len]
        exact small1000 (by omega)
      · intro c o e
        rw [upd_ne (ne_of_none e nD)]
        exact sm c o e
      · rw [upd_same]
        unfold tab
        rw [List.range_succ, List.map_append, List.map_append]
        rfl
    · obtain ⟨sm, eD⟩ := hP
      rw [Int.toNat_natCast, ← part_zero m (p / m) b] at eD
      have r0 := Int.emod_nonneg p (show (m : Int) ≠ 0 by omega)
      have r1 := Int.emod_lt_of_pos p (show (0 : Int) < m by omega)
      refine ⟨_, rfl, _, rfl, _, _, rfl, rfl, by omega, p % m, rfl, by omega, by omega, ?_⟩
      refine for_range (lo := 0) (n := (p % m).toNat) (fun i σ H1 => ∃ y z, σ = [some (.int p), some (.int m), some (.int b), some (.ref D), y, z] ∧ Same H H1 ∧
        H1 D = some (.lst ((tab m fun j => p / m + (nb (b + i) m j - nb b m j)).map V.int))) ⟨_, _, rfl, sm, eD⟩ ?_ ?_
      · rintro i σ H2 hi ⟨y, z, rfl, sm2, eD2⟩
        obtain ⟨k, ek, hk, bump⟩ := part_bump (m := m) (by omega) (p / m) i b
        refine ⟨.ref D, rfl, _, rfl, _, rfl, _, _, rfl, rfl, _, rfl, _, _, rfl, rfl, by omega, ?_⟩
        have e' : V.int ((b + (0 + (i : Int))) % (m : Int)) = V.int (k : Int) := by rw [Int.zero_add, ek]
        have gk : ((tab m fun j => p / m + (nb (b + i) m j - nb b m j)).map V.int)[k]? = some (.int (p / m + (nb (b + i) m k - nb b m k))) := by
          rw [List.getElem?_map, tab_get hk]
          rfl
        refine ⟨D, _, k, _, rfl, e', .inl (.inl eD2), gk, _, _, rfl, rfl, D, _, k, k, rfl, e', eD2, ixN_nat (by rw [List.length_map, tab_len]; exact hk), ?_⟩
        refine ⟨_, _, rfl, ?_, ?_⟩
        · intro c o e
          rw [upd_ne (ne_of_none e nD)]
          exact sm2 c o e
        · rw [upd_same]
          have : ((i + 1 : Nat) : Int) = (i : Int) + 1 := by omega
          rw [this, ← bump, List.map_set]
      · rintro σ H2 ⟨y, z, rfl, sm2, eD2⟩
        rw [Int.toNat_of_nonneg r0, part_far (by omega)] at eD2
        refine ⟨_, rfl, D, _, rfl, .inl ⟨.inl (.inl eD2), fun t nt => ?_⟩⟩
        exact q _ t (sm2.trans (same_upd nt)) (sm2.free nt) upd_same

/-! ### _law_counted -/
def spCounted : Sp := fun vs H Q _ => ∃ (p b : Int) (m : Nat), vs = [.int p, .int (m : Int), .int b] ∧ 0 < m ∧ m < 1000 ∧ 0 ≤ p ∧ p < 1000 ∧ 0 ≤ b ∧ b < 1000 ∧
  ∀ H' t, Same H H' → H t = none → H' t = some (.tup ((part p m b).map V.int)) → Q (.ref t) H'
theorem ok_counted {f : Addr} {fd : FuncData} {k : Nat} (F : Fun K "_law_counted" "_law_counted" sCounted f fd) (m_range : mg "range" = none) (m_tuple : mg "tuple" = none) : FnOk P w K mg base CX0 (k + 1) f fd ["_law_pence_here", "_law_many", "_law_begun"] spCounted := by
  refine F.ok scCounted (fun vs H Q E h => ?_) (fun cdv A outer s H vs Q E hr h => ?_)
  · obtain ⟨p, b, m, rfl, _⟩ := h
    rfl
  · obtain ⟨p, b, m, rfl, h0, h1, p0, p1, b0, b1, q⟩ := h
    refine ⟨_, (pss_cons (ps_setLc (i := 3) (own := [("_law_hand", 5)]) (g := gName 5) (tt := tYes) rfl scCounted.nd rfl rfl (sw_true rfl rfl rfl (by decide +kernel)) (pi_range1 (by rfl) m_range (pa_cons (pv 1) pa_nil)) (blkOk_by (own := [("_law_hand", 5)]) (N := ["_law_pence_here", "_law_many", "_law_begun", "_law_found", "_law_number", "_law_hand"]) (sc := defScope sCounted) (by decide +kernel)) (fun _ _ _ _ _ => (pg_name (i := 5) scCounted.nd rfl (.inl rfl))) (fun _ _ _ _ _ => pts_nil) (fun _ _ _ _ _ => pe_int))
      (pss_cons (ps_for PassesOwn.never rfl (pi_range2 (by rfl) m_range (pa_cons (pv 2) (pa_cons (pe_op op_add (pv 2) (pv 0)) pa_nil))) (pg_name (i := 4) scCounted.nd rfl (.inl rfl)) (pss_one (ps_augS (pv 3) (pe_op op_mod (pv 4) (pv 1)) get_list pe_int ip_add set_list)))
      (pss_one (ps_ret (pe_callTy call_tuple_of (by rfl) m_tuple (by decide +kernel) (pa_cons (pv 3) pa_nil)))))), ?_⟩
    refine ⟨_, rfl, (m : Int), rfl, by omega, by omega, fun D nD => ?_⟩
    refine lc_range (lo := 0) (n := (m : Int).toNat) (fun i H1 => Same H H1 ∧ H1 D = some (.lst ((tab i fun _ => 0).map V.int))) ⟨same_upd nD, upd_same⟩ (fun i H1 hi hP => ?_) (fun H1 hP => ?_)
    · obtain ⟨sm, eD⟩ := hP
      refine ⟨rfl, yes (iteT ?_)⟩
      refine ⟨_, eD, ?_, ?_, ?_⟩
      · rw [List.length_map, tab_len]
        exact small1000 (by omega)
      · intro c o e
        rw [upd_ne (ne_of_none e nD)]
        exact sm c o e
      · rw [upd_same]
        unfold tab
        rw [List.range_succ, List.map_append, List.map_append]
        rfl
    · obtain ⟨sm, eD⟩ := hP
      rw [Int.toNat_natCast, ← part_zero m 0 b] at eD
      refine ⟨_, rfl, _, rfl, _, rfl, _, _, rfl, rfl, b, b + p, rfl, ⟨by omega, by omega, by omega, by omega⟩, ?_⟩
      refine for_range (lo := b) (n := (b + p - b).toNat) (fun i σ H1 => ∃ y z, σ = [some (.int p), some (.int m), some (.int b), some (.ref D), y, z] ∧ Same H H1 ∧
        H1 D = some (.lst ((tab m fun j => 0 + (nb (b + i) m j - nb b m j)).map V.int))) ⟨_, _, rfl, sm, eD⟩ ?_ ?_
      · rintro i σ H2 hi ⟨y, z, rfl, sm2, eD2⟩
        obtain ⟨k, ek, hk, bump⟩ := part_bump (m := m) (by omega) 0 i b
        refine ⟨.ref D, rfl, _, rfl, _, rfl, _, _, rfl, rfl, by omega, ?_⟩
        have e' : V.int ((b + (i : Int)) % (m : Int)) = V.int (k : Int) := by rw [ek]
        have gk : ((tab m fun j => 0 + (nb (b + i) m j - nb b m j)).map V.int)[k]? = some (.int (0 + (nb (b + i) m k - nb b m k))) := by
          rw [List.getElem?_map, tab_get hk]
          rfl
        refine ⟨D, _, k, _, rfl, e', .inl (.inl eD2), gk, _, _, rfl, rfl, D, _, k, k, rfl, e', eD2, ixN_nat (by rw [List.length_map, tab_len]; exact hk), ?_⟩
        refine ⟨_, _, rfl, ?_, ?_⟩
        · intro c o e
          rw [upd_ne (ne_of_none e nD)]
          exact sm2 c o e
        · rw [upd_same]
          have : ((i + 1 : Nat) : Int) = (i : Int) + 1 := by omega
          rw [this, ← bump, List.map_set]
      · rintro σ H2 ⟨y, z, rfl, sm2, eD2⟩
        rw [show (((b + p - b).toNat : Nat) : Int) = p by omega, part_near] at eD2
        refine ⟨_, rfl, D, _, rfl, .inl ⟨.inl (.inl eD2), fun t nt => ?_⟩⟩
        exact q _ t (sm2.trans (same_upd nt)) (sm2.free nt) upd_same

/-! ### _law_pence -/
def spPence : Sp := fun vs H Q _ => ∃ (F S : Addr) (T : Int), vs = [.ref F] ∧ Feed H F S T ∧ T < 2 ^ 39 ∧
  ∀ H' v, But F H H' → Feed H' F S (T + 5) → 0 ≤ v → v ≤ 1000000000000 → Q (.int v) H'
theorem ok_pence {f fR : Addr} {fd fdR : FuncData} (F : Fun K "_law_pence" "_law_pence" sPence f fd) (GR : FnOk P w K mg base CX0 1 fR fdR ["_law_feed_here", "_law_many"] spDraw) (kR : PySem.W.keepIn K (.ref fR) = true)
    (bR : Binds K fdR ["_law_feed_here", "_law_many"] []) (gR : mg "_law_draw" = some (.ref fR)) : FnOk P w K mg base CX0 2 f fd ["_law_feed_here"] spPence := by
  refine F.ok scPence (fun vs H Q E h => ?_) (fun cdv A outer s H vs Q E hr h => ?_)
  · obtain ⟨a, S, T, rfl, _⟩ := h
    rfl
  · obtain ⟨L, S, T, rfl, hF, hT, q⟩ := h
    refine ⟨_, (pss_cons (ps_set (i := 1) scPence.nd rfl (.inl rfl) (pe_op op_sub (pe_op op_pow pe_int pe_int) (pe_call GR (hr.mono (by decide)) (by rfl) gR kR bR .nil pass0 (pa_cons (pv 0) (pa_cons pe_int pa_nil)))))
      (pss_one (ps_ret (pe_ix ix_tup (pe_tup (pa_cons pe_int (pa_cons (pe_call GR (hr.mono (by decide)) (by rfl) gR kR bR .nil pass0 (pa_cons (pv 0) (pa_cons pe_int pa_nil))) (pa_cons (pe_call GR (hr.mono (by decide)) (by rfl) gR kR bR .nil pass0 (pa_cons (pv 0) (pa_cons pe_int pa_nil))) (pa_cons (pe_call GR (hr.mono (by decide)) (by rfl) gR kR bR .nil pass0 (pa_cons (pv 0) (pa_cons (pe_op op_pow pe_int pe_int) pa_nil))) (pa_cons (pv 1) pa_nil)))))) (pe_call GR (hr.mono (by decide)) (by rfl) gR kR bR .nil pass0 (pa_cons (pv 0) (pa_cons pe_int pa_nil))) (fun _ _ => rfl))))), ?_⟩
    refine ⟨_, _, rfl, rfl, ⟨by decide, by decide, by decide⟩, _, rfl, L, S, 30, T, rfl, by decide, by decide, hF, by omega, fun H1 v1 k1 f1 l1 u1 => ?_⟩
    refine ⟨_, _, rfl, rfl, ?_⟩
    refine ⟨_, rfl, L, S, 40, _, rfl, by decide, by decide, f1, by omega, fun H2 v2 k2 f2 l2 u2 => ?_⟩
    refine ⟨_, rfl, L, S, 100000, _, rfl, by decide, by decide, f2, by omega, fun H3 v3 k3 f3 l3 u3 => ?_⟩
    refine ⟨_, rfl, _, _, rfl, rfl, ⟨by decide, by decide, by decide⟩, L, S, 10 ^ 12, _, rfl, by decide, by decide, f3, by omega, fun H4 v4 k4 f4 l4 u4 => ?_⟩
    refine ⟨_, rfl, by show (5 : Nat) ≤ sizeLine; decide, fun tp ntp => ?_⟩
    have s4 : Same H4 (upd H4 tp (.tup [.int 0, .int v2, .int v3, .int v4, .int (10 ^ Int.toNat 12 - v1)])) := same_upd ntp
    refine ⟨_, rfl, L, S, 5, _, rfl, by decide, by decide, f4.same s4, by omega, fun H5 v5 k5 f5 l5 u5 => ?_⟩
    have kk : But L H H5 := (((k1.trans k2).trans k3).trans k4).same s4 |>.trans k5
    have ff : Feed H5 L S (T + 5) := f5.mono (by omega)
    have far : (10 : Int) ^ Int.toNat 12 = 1000000000000 := by decide
    obtain ⟨zs, ez⟩ := f4.there
    have nt : tp ≠ L := fun e => by
      rw [e, ez] at ntp
      cases ntp
    have et : H5 tp = some (.tup [.int 0, .int v2, .int v3, .int v4, .int (10 ^ Int.toNat 12 - v1)]) := k5 _ _ nt upd_same
    have tT : SqT K H5 tp [.int 0, .int v2, .int v3, .int v4, .int (10 ^ Int.toNat 12 - v1)] := .inl (.inl et)
    have c : v5 = 0 ∨ v5 = 1 ∨ v5 = 2 ∨ v5 = 3 ∨ v5 = 4 := by omega
    rcases c with rfl | rfl | rfl | rfl | rfl
    · exact ⟨tp, _, 0, _, rfl, rfl, tT, atI_nat (j := 0) rfl, q H5 _ kk ff (by omega) (by omega)⟩
    · exact ⟨tp, _, 1, _, rfl, rfl, tT, atI_nat (j := 1) rfl, q H5 _ kk ff (by omega) (by omega)⟩
    · exact ⟨tp, _, 2, _, rfl, rfl, tT, atI_nat (j := 2) rfl, q H5 _ kk ff (by omega) (by omega)⟩
    · exact ⟨tp, _, 3, _, rfl, rfl, tT, atI_nat (j := 3) rfl, q H5 _ kk ff (by omega) (by omega)⟩
    · exact ⟨tp, _, 4, _, rfl, rfl, tT, atI_nat (j := 4) rfl, q H5 _ kk ff (by omega) (by omega)⟩
end
end K07

set_option Elab.async false
set_option linter.all false
set_option maxRecDepth 100000
namespace K07
open PySem PySem.Spec PyProof.Rows L2 TB

theorem scRight : FnScope ["_law_feed_here", "_law_pieces", "_law_many", "_law_kept", "_law_wanted", "_law_begun", "_law_pence_here", "_law_told", "_law_k"] ["_law_feed_here"] (defScope sRight) := ⟨rfl, rfl, rfl, by decide +kernel, rfl, by decide +kernel, by decide +kernel⟩
theorem iteS {c A B : Prop} [Decidable c] (hc : c) (h : A) : if decide c = true then A else B := by
  rw [if_pos (decide_eq_true hc)]
  exact h
theorem deals_all {m : Nat} (hm : 0 < m) : ∀ (ps : List Int) (b : Int), (∀ v ∈ ps, 0 ≤ v ∧ v ≤ 1000000000000) → 0 ≤ b → b + 1000000000000 * ps.length ≤ 2 ^ 50 →
    ∀ r ∈ deals m ps b, r.length = m ∧ ∀ v ∈ r, v.natAbs < 2 ^ 60
  | [], _, _, _, _, r, hr => by cases hr
  | p :: ps, b, h, b0, hb, r, hr => by
    have hp := h p List.mem_cons_self
    rw [List.length_cons] at hb
    rcases List.mem_cons.mp hr with rfl | hr
    · exact ⟨part_len _ _ _, part_bound hm hp.1 b0 (by omega) (by omega)⟩
    · exact deals_all hm ps (b + p) (fun v hv => h v (List.mem_cons_of_mem _ hv)) (by omega) (by omega) r hr
theorem sh_rows {rows : List (List Int)} {m : Nat} (hm : m ≤ 100) (hl : rows.length ≤ 60) (h : ∀ r ∈ rows, r.length = m ∧ ∀ v ∈ r, v.natAbs < 2 ^ 60) : Sh 2 sizeLine (.list (rows.map dRow)) := by
  refine (sh_lst (k := 1) (n := 200000) fun d hd => ?_).mono (by omega) ?_
  · obtain ⟨r, hr, rfl⟩ := List.mem_map.mp hd
    obtain ⟨a, b⟩ := h r hr
    exact sh_ints (fun v hv => Nat.lt_of_lt_of_le (b v hv) (by decide)) (by omega)
  · rw [List.length_map, sizeLine_eq]
    omega
section
variable {P : Program} {w : World} {K : PySem.W.Frag} {mg : Str → Option Value} {base : Heap}
/-! ### _law_right -/
def spRight : Sp := fun vs H Q _ => ∃ (F S : Addr) (T : Int), vs = [.ref F] ∧ Feed H F S T ∧ T < 2 ^ 38 ∧
  ∀ H', But F H H' → Feed H' F S (T + 300) → Q (.bl true) H'
theorem ok_right {f fR fP fT fO : Addr} {fd fdR fdP fdT fdO : FuncData} (F : Fun K "_law_right" "_law_right" sRight f fd)
    (GR : FnOk P w K mg base CX0 1 fR fdR ["_law_feed_here", "_law_many"] spDraw) (kR : PySem.W.keepIn K (.ref fR) = true) (bR : Binds K fdR ["_law_feed_here", "_law_many"] []) (gR : mg "_law_draw" = some (.ref fR))
    (GP : FnOk P w K mg base CX0 2 fP fdP ["_law_feed_here"] spPence) (kP : PySem.W.keepIn K (.ref fP) = true) (bP : Binds K fdP ["_law_feed_here"] []) (gP : mg "_law_pence" = some (.ref fP))
    (GT : FnOk P w K mg base CX0 1 fT fdT ["_law_pence_here", "_law_many", "_law_begun"] spDeal) (kT : PySem.W.keepIn K (.ref fT) = true) (bT : Binds K fdT ["_law_pence_here", "_law_many", "_law_begun"] []) (gT : mg "_law_dealt" = some (.ref fT))
    (GO : FnOk P w K mg base CX0 4 fO fdO ["pieces", "many"] (spOn K)) (kO : PySem.W.keepIn K (.ref fO) = true) (bO : Binds K fdO ["pieces", "many"] []) (gO : mg "dealt_on" = some (.ref fO))
    (m_tuple : mg "tuple" = none) (m_range : mg "range" = none) (m_repr : mg "repr" = none) (m_isinstance : mg "isinstance" = none) (m_list : mg "list" = none) :
    FnG P w K mg base CX0 5 f fd ["_law_feed_here"] spRight := by
  refine gok F scRight (fun vs H Q E h => ?_) (fun cdv A gd outer s H vs Q E hr h => ?_)
  · obtain ⟨a, S, T, rfl, _⟩ := h
    rfl
  · obtain ⟨L, S, T, rfl, hF, hT, q⟩ := h
    refine ⟨_, (pss_cons (ps_set (i := 1) scRight.nd rfl (.inl rfl) (pe_callTy call_tuple_of (by rfl) m_tuple (by decide +kernel) (pa_cons (pe_lc (own := [("_law_k", 8)]) (g := gName 8) (tt := tYes) rfl scRight.nd (pi_range1 (by rfl) m_range (pa_cons (pe_call GR (hr.mono (by decide)) (by rfl) gR kR bR .nil pass0 (pa_cons (pv 0) (pa_cons (pe_ix ix_tup (pe_tup (pa_cons pe_int (pa_cons pe_int pa_nil))) (pe_op op_fdivW (pe_call GR (hr.mono (by decide)) (by rfl) gR kR bR .nil pass0 (pa_cons (pv 0) (pa_cons pe_int pa_nil))) pe_int) (fun _ _ => rfl)) pa_nil))) pa_nil)) (blkOk_by (own := [("_law_k", 8)]) (N := ["_law_feed_here", "_law_pieces", "_law_many", "_law_kept", "_law_wanted", "_law_begun", "_law_pence_here", "_law_told", "_law_k"]) (sc := defScope sRight) (by decide +kernel)) (fun _ _ _ _ _ => (pg_name (i := 8) scRight.nd rfl (.inl rfl))) (fun _ _ _ _ _ => pts_nil) (fun _ _ _ _ _ => (pe_call GP (hr.mono (by decide)) (by rfl) gP kP bP .nil pass0 (pa_cons (pv 0) pa_nil)))) pa_nil)))
      (pss_cons (ps_set (i := 2) scRight.nd rfl (.inl rfl) (pe_op op_add pe_int (pe_call GR (hr.mono (by decide)) (by rfl) gR kR bR .nil pass0 (pa_cons (pv 0) (pa_cons pe_int pa_nil)))))
      (pss_cons (ps_par3 (i := 3) (j := 4) (l := 5) (by rfl) scRight.nd rfl rfl rfl (by decide) (by decide) (by decide) rfl rfl rfl (pa_cons (pe_callB (call_reprD gd hr.units) (by rfl) m_repr (by decide +kernel) (pa_cons (pv 1) pa_nil)) (pa_cons (pe_lst pa_nil) (pa_cons pe_int pa_nil))) (by rfl))
      (pss_cons (ps_for PassesOwn.never rfl (pi_tup (pv 1)) (pg_name (i := 6) scRight.nd rfl (.inl rfl)) (pss_cons (ps_expr (pe_bm PySem.F.plainAttrs_list PySem.F.slot_list_append PySem.F.type_list_append mt_append (pv 4) (pa_cons (pe_call GT (hr.mono (by decide)) (by rfl) gT kT bT .nil pass0 (pa_cons (pv 6) (pa_cons (pv 2) (pa_cons (pv 5) pa_nil)))) pa_nil)))
      (pss_one (ps_aug (i := 5) scRight.nd rfl (.inl rfl) (pv 6) ip_add))))
      (pss_cons (ps_set (i := 7) scRight.nd rfl (.inl rfl) (pe_call GO (hr.mono (by decide)) (by rfl) gO kO bO .nil pass0 (pa_cons (pv 1) (pa_cons (pv 2) pa_nil))))
      (pss_one (ps_ret (pe_and (pe_callB call_isi (by rfl) m_isinstance (by decide +kernel) (pa_cons (pv 7) (pa_cons (pe_bltn (v := .ty "list") (u := .type "list") (by rfl) m_list (by decide +kernel) rfl) pa_nil))) (pe_and (pe_cmpR op_eq (pe_callB (call_reprD gd hr.units) (by rfl) m_repr (by decide +kernel) (pa_cons (pv 7) pa_nil)) (pe_callB (call_reprD gd hr.units) (by rfl) m_repr (by decide +kernel) (pa_cons (pv 4) pa_nil)) (nomark _)) (pe_one (pe_cmpR op_eq (pe_callB (call_reprD gd hr.units) (by rfl) m_repr (by decide +kernel) (pa_cons (pv 1) pa_nil)) (pv 3) (nomark _)))))))))))), ?_⟩
    -- how many
    refine ⟨.ref L, rfl, by show (2 : Nat) ≤ sizeLine; decide, fun t1 n1 => ?_⟩
    have s0 : Same H (upd H t1 (.tup [.int 6, .int 41])) := same_upd n1
    refine ⟨_, rfl, L, S, 3, T, rfl, by decide, by decide, hF.same s0, by omega, fun H1 v1 k1 f1 l1 u1 => ?_⟩
    refine ⟨_, _, rfl, rfl, wide_div (b := 60) (by decide) (by decide) (by omega) (by omega), ?_⟩
    have nt1 : t1 ≠ L := fun e => by
      obtain ⟨zs, ez⟩ := hF.there
      rw [e, ez] at n1
      cases n1
    have et1 : SqT K H1 t1 [.int 6, .int 41] := .inl (.inl (k1 _ _ nt1 upd_same))
    obtain ⟨x, hx, x0, x1⟩ : ∃ x : Int, atI [V.int 6, V.int 41] (v1 / 2) = some (.int x) ∧ 0 < x ∧ x ≤ 41 := by
      have c : v1 / 2 = 0 ∨ v1 / 2 = 1 := by omega
      rcases c with c | c
      · rw [c]
        exact ⟨6, rfl, by decide, by decide⟩
      · rw [c]
        exact ⟨41, rfl, by decide, by decide⟩
    refine ⟨t1, _, _, _, rfl, rfl, et1, hx, L, S, x, _, rfl, x0, by omega, f1, by omega, fun H2 n k2 f2 l2 u2 => ?_⟩
    have kk2 : But L H H2 := (But.of s0).trans (k1.trans k2)
    refine ⟨n, rfl, by omega, by omega, fun D nD => ?_⟩
    have nD2 := f2.ne nD
    have nDH : H D = none := by
      obtain ⟨zs, ez⟩ := f2.there
      exact kk2.free ez nD
    -- the pieces
    refine lc_range (lo := 0) (n := n.toNat) (fun i H3 => But L H H3 ∧ Feed H3 L S (T + 2 + 5 * i) ∧ ∃ vs : List Int, vs.length = i ∧ (∀ v ∈ vs, 0 ≤ v ∧ v ≤ 1000000000000) ∧ H3 D = some (.lst (vs.map V.int)))
      ⟨kk2.same (same_upd nD), (f2.same (same_upd nD)).mono (by omega), [], rfl, (fun v hv => by cases hv), upd_same⟩ (fun i H3 hi hP => ?_) (fun H3 hP => ?_)
    · obtain ⟨k3, f3, vs, hl, hv, eD⟩ := hP
      refine ⟨rfl, yes (iteT ?_)⟩
      refine ⟨_, rfl, L, S, _, rfl, f3, by omega, fun H4 v k4 f4 l4 u4 => ?_⟩
      have eD4 := k4 _ _ nD2.1 eD
      refine ⟨_, eD4, ?_, ?_, ?_, vs ++ [v], ?_, ?_, ?_⟩
      · rw [List.length_map]
        exact small1000 (by omega)
      · intro c o nc e
        rw [upd_ne (ne_of_none e nDH)]
        exact (k3.trans k4) c o nc e
      · exact (f4.upd nD2).mono (by omega)
      · rw [List.length_append, hl]
        rfl
      · intro y hy
        rcases List.mem_append.mp hy with z | z
        · exact hv y z
        · rw [List.mem_singleton.mp z]
          exact ⟨l4, u4⟩
      · rw [upd_same, List.map_append]
        rfl
    · obtain ⟨k3, f3, vs, hl, hv, eD⟩ := hP
      have hvl : vs.length ≤ 41 := by omega
      have nD3 := eD
      refine ⟨D, _, rfl, .inl ⟨.inl (.inl eD), fun tp ntp => ?_⟩⟩
      have s4 : Same H3 (upd H3 tp (.tup (vs.map V.int))) := same_upd ntp
      generalize hH4 : upd H3 tp (.tup (vs.map V.int)) = H4 at s4
      have et4 : H4 tp = some (.tup (vs.map V.int)) := by
        rw [← hH4]
        exact upd_same
      clear hH4
      have f4 := f3.same s4
      have ntL := (f3.ne ntp).1
      -- many
      refine ⟨_, rfl, L, S, 12, _, rfl, by decide, by decide, f4, by omega, fun H5 v k5 f5 l5 u5 => ?_⟩
      have et5 := k5 _ _ ntL et4
      refine ⟨_, _, rfl, rfl, ?_⟩
      obtain ⟨m, hm⟩ : ∃ m : Nat, 1 + v = (m : Int) := ⟨(1 + v).toNat, by omega⟩
      have m0 : 0 < m := by omega
      have m1 : m ≤ 12 := by omega
      have kk5 : But L H H5 := (k3.same s4).trans k5
      -- kept, wanted, begun
      have shP : Sh 1 200000 (.tuple (dInts vs)) := sh_ints (fun v hh => by have := hv v hh; omega) (by omega)
      have dpP : ∀ {H' : Hp}, H' tp = some (.tup (vs.map V.int)) → Dp K H' (.ref tp) (.tuple (dInts vs)) := fun e => .tup (.inl (.inl e)) (dp_ints vs)
      have szP : (PyData.tuple (dInts vs)).shown.length ≤ sizeLine := Nat.le_trans shP.ln (by rw [sizeLine_eq]; omega)
      refine ⟨_, rfl, tp, _, rfl, dpP et5, shP.sh, shP.nd, Nat.le_trans shP.dp (by omega), szP, Nat.zero_le _, fun o no => ⟨_, _, _, rfl, ?_⟩⟩
      have s6 : Same H5 (upd H5 o (.lst [])) := same_upd no
      have noH : H o = none := by
        obtain ⟨zs, ez⟩ := f5.there
        exact kk5.free ez no
      have noF := f5.ne no
      -- the loop
      refine ⟨_, rfl, tp, rfl, ⟨_, K07.Same.tup s6 (.inl (.inl et5))⟩, ?_⟩
      refine for_tup (xs := vs.map V.int) (fun i σ H6 => ∃ y, σ = [some (.ref L), some (.ref tp), some (.int (1 + v)), some (.str (PyData.tuple (dInts vs)).shown), some (.ref o), some (.int (vs.take i).sum), y, none, none] ∧
        Same H5 H6 ∧ RowsAt K H6 o (deals m (vs.take i) 0)) ?_ ?_ ?_ ?_
      · exact ⟨none, rfl, s6, [], upd_same, .nil⟩
      · rintro i σ H6 _ ⟨y, _, sm, _⟩
        exact K07.Same.tup sm (.inl (.inl et5))
      · rintro i x' σ H6 hx' ⟨y, rfl, sm, us, eo, dv⟩
        obtain ⟨p, hp, rfl⟩ : ∃ p, vs[i]? = some p ∧ x' = V.int p := by
          rw [List.getElem?_map] at hx'
          cases e : vs[i]? with
          | none => rw [e] at hx'; cases hx'
          | some p => rw [e] at hx'; exact ⟨p, rfl, (Option.some.inj hx').symm⟩
        refine ⟨.ref o, rfl, .inl ⟨rfl, _, .inl (.inl eo)⟩, .int p, rfl, _, rfl, .int (vs.take i).sum, rfl, p, (vs.take i).sum, m, (by rw [hm]; rfl), m0, by omega, fun H7 t sm2 nt et => ?_⟩
        have eo2 := sm2 _ _ eo
        have ul := DpAll.len dv
        rw [List.length_map, deals_len] at ul
        refine ⟨o, _, _, rfl, rfl, eo2, ?_, ?_⟩
        · rw [ul]
          exact small1000 (by have := List.length_take_le' i vs; omega)
        · refine ⟨_, rfl, _, rfl, _, _, rfl, rfl, some (.int p), ?_, ?_, ?_⟩
          · rw [take_more hp, List.sum_append]
            simp
          · intro b z e
            rw [upd_ne (ne_of_none e no)]
            exact sm2 _ _ (sm _ _ e)
          · rw [take_more hp, deals_snoc, Int.zero_add]
            exact rows_more eo dv sm2 nt et
      · rintro σ H6 ⟨y, rfl, sm, hR⟩
        rw [List.length_map, List.take_length] at hR
        -- told
        refine ⟨_, rfl, _, rfl, tp, vs, m, (by rw [hm]; rfl), .inl (.inl (sm _ _ et5)), by omega, m0, by omega, fun H7 o2 sm7 no2 hR2 => ?_⟩
        have hR1 := hR.same sm7
        obtain ⟨vs1, e1, d1⟩ := hR1
        obtain ⟨vs2, e2, d2⟩ := hR2
        have shR : Sh 2 sizeLine (.list ((deals m vs 0).map dRow)) := sh_rows (m := m) (by omega) (by rw [deals_len]; omega) (deals_all m0 vs 0 hv (by omega) (by omega))
        -- isinstance
        refine ⟨_, rfl, .ref o2, .ty "list", .type "list", .type "list", true, rfl, .ty _, .base (.lst e2), kit_ty (by decide +kernel), true, rfl, iteT ?_⟩
        -- repr(told) == repr(wanted)
        refine ⟨_, rfl, o2, _, rfl, .lst (.inl (.inl e2)) d2, shR.sh, shR.nd, Nat.le_trans shR.dp (by omega), shR.ln, _, rfl, o, _, rfl, .lst (.inl (.inl e1)) d1, shR.sh, shR.nd, Nat.le_trans shR.dp (by omega), shR.ln, rfl, _, rfl, iteS rfl ?_⟩
        -- repr(pieces) == kept
        refine ⟨_, rfl, tp, _, rfl, dpP (sm7 _ _ (sm _ _ et5)), shP.sh, shP.nd, Nat.le_trans shP.dp (by omega), szP, _, rfl, rfl, ?_⟩
        show Q (.bl (decide _)) _
        rw [decide_eq_true rfl]
        refine q H7 ((kk5.same sm).same sm7) ((f5.same sm).same sm7 |>.mono (by omega))
end
end K07

set_option Elab.async false
set_option linter.all false
set_option maxRecDepth 100000
namespace K07
open PySem PySem.Spec PyProof.Rows L2 TB

theorem scLaw : FnScope ["_law_script", "_law_feed_here", "_law_many", "_law_begun", "_law_pence_here", "_law_turn"] ["_law_script"] (defScope sLaw) := ⟨rfl, rfl, rfl, by decide +kernel, rfl, by decide +kernel, by decide +kernel⟩
section
variable {P : Program} {w : World} {K : PySem.W.Frag} {mg : Str → Option Value} {base : Heap}
theorem sh_part {p b : Int} {m : Nat} (m0 : 0 < m) (m1 : m ≤ 100) (p0 : 0 ≤ p) (b0 : 0 ≤ b) (hp : p ≤ 2 ^ 50) (hb : b ≤ 2 ^ 50) : Sh 1 sizeLine (dRow (part p m b)) :=
  (sh_ints (fun v hv => Nat.lt_of_lt_of_le (part_bound m0 p0 b0 hp hb v hv) (by decide)) (by rw [part_len]; exact m1)).mono (by omega) (by rw [sizeLine_eq]; omega)
theorem dp_row {H : Hp} {t : Addr} {r : List Int} (e : H t = some (.tup (r.map V.int))) : Dp K H (.ref t) (dRow r) := .tup (.inl (.inl e)) (dp_ints r)
/-! ### the law -/
def spLaw (K : PySem.W.Frag) : Sp := fun vs H Q _ => ∃ (a : Addr) (ns : List Int), vs = [.ref a] ∧ SqL K H a (ns.map V.int) ∧ ns.length ≤ 63 ∧ ∀ H', Q (.bl true) H'
theorem ok_law {f fFd fR fP fT fO fD fC fRt : Addr} {fd fdFd fdR fdP fdT fdO fdD fdC fdRt : FuncData} (F : Fun K "law" "law" sLaw f fd)
    (GFd : FnOk P w K mg base CX0 1 fFd fdFd ["_law_script"] (spFeed K)) (kFd : PySem.W.keepIn K (.ref fFd) = true) (bFd : Binds K fdFd ["_law_script"] []) (gFd : mg "_law_feed" = some (.ref fFd))
    (GR : FnOk P w K mg base CX0 1 fR fdR ["_law_feed_here", "_law_many"] spDraw) (kR : PySem.W.keepIn K (.ref fR) = true) (bR : Binds K fdR ["_law_feed_here", "_law_many"] []) (gR : mg "_law_draw" = some (.ref fR))
    (GP : FnOk P w K mg base CX0 2 fP fdP ["_law_feed_here"] spPence) (kP : PySem.W.keepIn K (.ref fP) = true) (bP : Binds K fdP ["_law_feed_here"] []) (gP : mg "_law_pence" = some (.ref fP))
    (GT : FnOk P w K mg base CX0 1 fT fdT ["_law_pence_here", "_law_many", "_law_begun"] spDeal) (kT : PySem.W.keepIn K (.ref fT) = true) (bT : Binds K fdT ["_law_pence_here", "_law_many", "_law_begun"] []) (gT : mg "_law_dealt" = some (.ref fT))
    (GC : FnOk P w K mg base CX0 1 fC fdC ["_law_pence_here", "_law_many", "_law_begun"] spCounted) (kC : PySem.W.keepIn K (.ref fC) = true) (bC : Binds K fdC ["_law_pence_here", "_law_many", "_law_begun"] []) (gC : mg "_law_counted" = some (.ref fC))
    (GD : FnOk P w K mg base CX0 3 fD fdD ["pence", "many", "begun"] spDeal) (kD : PySem.W.keepIn K (.ref fD) = true) (bD : Binds K fdD ["pence", "many", "begun"] []) (gD : mg "deal" = some (.ref fD))
    (GO : FnOk P w K mg base CX0 4 fO fdO ["pieces", "many"] (spOn K)) (kO : PySem.W.keepIn K (.ref fO) = true) (bO : Binds K fdO ["pieces", "many"] []) (gO : mg "dealt_on" = some (.ref fO))
    (GRt : FnG P w K mg base CX0 5 fRt fdRt ["_law_feed_here"] spRight) (kRt : PySem.W.keepIn K (.ref fRt) = true) (bRt : Binds K fdRt ["_law_feed_here"] []) (gRt : mg "_law_right" = some (.ref fRt))
    (m_range : mg "range" = none) (m_repr : mg "repr" = none) :
    FnG P w K mg base CX0 6 f fd ["_law_script"] (spLaw K) := by
  refine gok F scLaw (fun vs H Q E h => ?_) (fun cdv A gd outer s H vs Q E hr h => ?_)
  · obtain ⟨a, ns, rfl, _⟩ := h
    rfl
  · obtain ⟨a, ns, rfl, hS, hlen, q⟩ := h
    refine ⟨_, (pss_cons (ps_set (i := 1) scLaw.nd rfl (.inl rfl) (pe_call GFd (hr.mono (by decide)) (by rfl) gFd kFd bFd .nil pass0 (pa_cons (pv 0) pa_nil)))
      (pss_cons (ps_for PassesOwn.never rfl (pi_range2 (by rfl) m_range (pa_cons pe_int (pa_cons pe_int pa_nil))) (pg_name (i := 2) scLaw.nd rfl (.inl rfl)) (pss_one (ps_for PassesOwn.never rfl (pi_range1 (by rfl) m_range (pa_cons pe_int pa_nil)) (pg_name (i := 3) scLaw.nd rfl (.inl rfl)) (pss_one (ps_for PassesOwn.never rfl (pi_tup (pe_tup (pa_cons pe_int (pa_cons pe_int (pa_cons pe_int (pa_cons pe_int (pa_cons pe_int (pa_cons pe_int (pa_cons pe_int (pa_cons pe_int pa_nil)))))))))) (pg_name (i := 4) scLaw.nd rfl (.inl rfl)) (pss_one (ps_if (pt_cmpR op_ne (pe_callB (call_reprD gd hr.units) (by rfl) m_repr (by decide +kernel) (pa_cons (pe_call GD (hr.mono (by decide)) (by rfl) gD kD bD .nil pass0 (pa_cons (pv 4) (pa_cons (pv 2) (pa_cons (pv 3) pa_nil)))) pa_nil)) (pe_callB (call_reprD gd hr.units) (by rfl) m_repr (by decide +kernel) (pa_cons (pe_call GC (hr.mono (by decide)) (by rfl) gC kC bC .nil pass0 (pa_cons (pv 4) (pa_cons (pv 2) (pa_cons (pv 3) pa_nil)))) pa_nil)) (nomark _)) (pss_one (ps_ret pe_bl)) pss_nil)))))))
      (pss_cons (ps_for PassesOwn.never rfl (pi_range1 (by rfl) m_range (pa_cons pe_int pa_nil)) (pg_name (i := 5) scLaw.nd rfl (.inl rfl)) (pss_cons (ps_par3 (i := 4) (j := 2) (l := 3) (by rfl) scLaw.nd rfl rfl rfl (by decide) (by decide) (by decide) rfl rfl rfl (pa_cons (pe_call GP (hr.mono (by decide)) (by rfl) gP kP bP .nil pass0 (pa_cons (pv 1) pa_nil)) (pa_cons (pe_op op_add pe_int (pe_call GR (hr.mono (by decide)) (by rfl) gR kR bR .nil pass0 (pa_cons (pv 1) (pa_cons pe_int pa_nil)))) (pa_cons (pe_call GP (hr.mono (by decide)) (by rfl) gP kP bP .nil pass0 (pa_cons (pv 1) pa_nil)) pa_nil))) (by rfl))
      (pss_one (ps_if (pt_cmpR op_ne (pe_callB (call_reprD gd hr.units) (by rfl) m_repr (by decide +kernel) (pa_cons (pe_call GD (hr.mono (by decide)) (by rfl) gD kD bD .nil pass0 (pa_cons (pv 4) (pa_cons (pv 2) (pa_cons (pv 3) pa_nil)))) pa_nil)) (pe_callB (call_reprD gd hr.units) (by rfl) m_repr (by decide +kernel) (pa_cons (pe_call GT (hr.mono (by decide)) (by rfl) gT kT bT .nil pass0 (pa_cons (pv 4) (pa_cons (pv 2) (pa_cons (pv 3) pa_nil)))) pa_nil)) (nomark _)) (pss_one (ps_ret pe_bl)) pss_nil))))
      (pss_one (ps_ret (pe_and (pe_callG GRt gd (hr.mono (by decide)) (by rfl) gRt kRt bRt .nil pass0 (pa_cons (pv 1) pa_nil)) (pe_and (pe_callG GRt gd (hr.mono (by decide)) (by rfl) gRt kRt bRt .nil pass0 (pa_cons (pv 1) pa_nil)) (pe_and (pe_callG GRt gd (hr.mono (by decide)) (by rfl) gRt kRt bRt .nil pass0 (pa_cons (pv 1) pa_nil)) (pe_one (pe_cmpR op_eq (pe_callB (call_reprD gd hr.units) (by rfl) m_repr (by decide +kernel) (pa_cons (pe_call GO (hr.mono (by decide)) (by rfl) gO kO bO .nil pass0 (pa_cons (pe_tup pa_nil) (pa_cons pe_int pa_nil))) pa_nil)) pe_str (nomark _))))))))))), ?_⟩
    refine ⟨_, rfl, a, ns, rfl, hS, by omega, fun H1 L S s1 nL f1 => ?_⟩
    -- few pence, counted
    refine ⟨1, 6, rfl, ⟨by decide, by decide, by decide, by decide⟩, ?_⟩
    refine for_range (lo := 1) (n := (6 - 1 : Int).toNat) (fun i σ H2 => ∃ y2 y3 y4, σ = [some (.ref a), some (.ref L), y2, y3, y4, none] ∧ Same H1 H2) ⟨_, _, _, rfl, Same.refl _⟩ ?_ ?_
    · rintro i σ H2 hi ⟨y2, y3, y4, rfl, s2⟩
      have hi' : i < 5 := hi
      refine ⟨15, rfl, by decide, by decide, ?_⟩
      refine for_range (lo := 0) (n := (15 : Int).toNat) (fun j σ H3 => ∃ y3 y4, σ = [some (.ref a), some (.ref L), some (.int (1 + (i : Int))), y3, y4, none] ∧ Same H1 H3) ⟨_, _, rfl, s2⟩ ?_ ?_
      · rintro j σ H3 hj ⟨y3, y4, rfl, s3⟩
        have hj' : j < 15 := hj
        refine ⟨by show (8 : Nat) ≤ sizeLine; decide, fun tq nq => ?_⟩
        have s4 := s3.trans (same_upd (o := .tup [.int 0, .int 1, .int 2, .int 3, .int 4, .int 5, .int 7, .int 14]) nq)
        refine ⟨tq, rfl, ⟨_, .inl (.inl upd_same)⟩, ?_⟩
        refine for_tup (xs := [V.int 0, V.int 1, V.int 2, V.int 3, V.int 4, V.int 5, V.int 7, V.int 14]) (fun k σ H5 => ∃ y4, σ = [some (.ref a), some (.ref L), some (.int (1 + (i : Int))), some (.int (0 + (j : Int))), y4, none] ∧ Same H1 H5 ∧ H5 tq = some (.tup [.int 0, .int 1, .int 2, .int 3, .int 4, .int 5, .int 7, .int 14])) ⟨_, rfl, s4, upd_same⟩ ?_ ?_ ?_
        · rintro k σ H5 _ ⟨y4, _, _, e⟩
          exact .inl (.inl e)
        · rintro k x σ H5 hx ⟨y4, rfl, s5, e5⟩
          obtain ⟨p, rfl, p0, p1⟩ : ∃ p : Int, x = .int p ∧ 0 ≤ p ∧ p < 1000 := by
            have hm := List.mem_of_getElem? hx
            simp only [List.mem_cons, List.not_mem_nil, or_false] at hm
            rcases hm with e | e | e | e | e | e | e | e <;> exact ⟨_, e, by decide, by decide⟩
          have hmi : (1 + (i : Int)) = ((1 + i : Nat) : Int) := by omega
          have eqs : [V.int p, V.int (1 + (i : Int)), V.int (0 + (j : Int))] = [V.int p, V.int ((1 + i : Nat) : Int), V.int (0 + (j : Int))] := by rw [hmi]
          have sh := sh_part (p := p) (b := 0 + (j : Int)) (m := 1 + i) (by omega) (by omega) p0 (by omega) (by omega) (by omega)
          refine ⟨_, rfl, _, rfl, _, rfl, p, 0 + (j : Int), 1 + i, eqs, by omega, by omega, fun H6 t6 s6 n6 e6 => ?_⟩
          refine ⟨t6, _, rfl, dp_row e6, sh.sh, sh.nd, Nat.le_trans sh.dp (by omega), sh.ln, ?_⟩
          refine ⟨_, rfl, _, rfl, _, rfl, p, 0 + (j : Int), 1 + i, eqs, by omega, by omega, p0, p1, by omega, by omega, fun H7 t7 s7 n7 e7 => ?_⟩
          refine ⟨t7, _, rfl, dp_row e7, sh.sh, sh.nd, Nat.le_trans sh.dp (by omega), sh.ln, rfl, _, rfl, iteNS rfl ?_⟩
          exact ⟨_, rfl, (s5.trans s6).trans s7, s7 _ _ (s6 _ _ e5)⟩
        · rintro σ H5 ⟨y4, rfl, s5, _⟩
          exact ⟨_, _, rfl, s5⟩
      · rintro σ H3 ⟨y3, y4, rfl, s3⟩
        exact ⟨_, _, _, rfl, s3⟩
    · rintro σ H2 ⟨y2, y3, y4, rfl, s2⟩
      -- many pence
      refine ⟨12, rfl, by decide, by decide, ?_⟩
      refine for_range (lo := 0) (n := (12 : Int).toNat) (fun i σ H3 => ∃ y2 y3 y4 y5, σ = [some (.ref a), some (.ref L), y2, y3, y4, y5] ∧ Feed H3 L S (11 * i)) ⟨_, _, _, _, rfl, (f1.same s2).mono (by omega)⟩ ?_ ?_
      · rintro i σ H3 hi ⟨y2, y3, y4, y5, rfl, f3⟩
        have hi' : i < 12 := hi
        refine ⟨_, rfl, L, S, _, rfl, f3, by omega, fun H4 p k4 f4 p0 p1 => ?_⟩
        refine ⟨_, rfl, L, S, 12, _, rfl, by decide, by decide, f4, by omega, fun H5 v k5 f5 l5 u5 => ?_⟩
        refine ⟨_, _, rfl, rfl, _, rfl, L, S, _, rfl, f5, by omega, fun H6 b k6 f6 b0 b1 => ?_⟩
        refine ⟨_, _, _, rfl, ?_⟩
        obtain ⟨m, hm⟩ : ∃ m : Nat, 1 + v = (m : Int) := ⟨(1 + v).toNat, by omega⟩
        have eqs : [V.int p, V.int (1 + v), V.int b] = [V.int p, V.int (m : Int), V.int b] := by rw [hm]
        have sh := sh_part (p := p) (b := b) (m := m) (by omega) (by omega) p0 b0 (by omega) (by omega)
        refine ⟨_, rfl, _, rfl, _, rfl, p, b, m, eqs, by omega, by omega, fun H7 t7 s7 n7 e7 => ?_⟩
        refine ⟨t7, _, rfl, dp_row e7, sh.sh, sh.nd, Nat.le_trans sh.dp (by omega), sh.ln, ?_⟩
        refine ⟨_, rfl, _, rfl, _, rfl, p, b, m, eqs, by omega, by omega, fun H8 t8 s8 n8 e8 => ?_⟩
        refine ⟨t8, _, rfl, dp_row e8, sh.sh, sh.nd, Nat.le_trans sh.dp (by omega), sh.ln, rfl, _, rfl, iteNS rfl ?_⟩
        exact ⟨_, _, _, _, rfl, ((f6.same s7).same s8).mono (by omega)⟩
      · rintro σ H3 ⟨y2, y3, y4, y5, rfl, f3⟩
        -- pieces
        refine ⟨_, rfl, L, S, _, rfl, f3, by decide, fun H4 k4 f4 => ⟨true, rfl, iteT ?_⟩⟩
        refine ⟨_, rfl, L, S, _, rfl, f4, by decide, fun H5 k5 f5 => ⟨true, rfl, iteT ?_⟩⟩
        refine ⟨_, rfl, L, S, _, rfl, f5, by decide, fun H6 k6 f6 => ⟨true, rfl, iteT ?_⟩⟩
        refine ⟨Nat.zero_le _, fun tz nz => ?_⟩
        refine ⟨tz, [], 3, rfl, .inl (.inl upd_same), by decide, by decide, by decide, fun H7 o s7 no hR => ?_⟩
        obtain ⟨vs, e, d⟩ := hR
        refine ⟨o, .list [], rfl, .lst (.inl (.inl e)) d, rfl, rfl, by decide, by decide, rfl, ?_⟩
        show Q (.bl (decide _)) _
        rw [decide_eq_true (show V.str (PyData.list []).shown = V.str "[]" from rfl)]
        exact q _
end
end K07

set_option Elab.async false
set_option linter.all false
set_option maxRecDepth 100000
namespace K07
open PySem PySem.Spec PyProof.Rows L2 TB
theorem all_mk {l : PySem.W.OpenLaw} {w : World} {K : PySem.W.Frag} {h : Heap} {mg : Str → Option Value} {fa : Addr} (X : K.In h) (G : h.Ns mainGlobals mg) (hfa : mg "law" = some (.ref fa))
    {f1 : Addr} {od1 an1 : Option Addr} {sl1 : Array (Option Value)} {oc1 kV1 dc1 pm1 cd1 ct1 : Value}
    {f2 : Addr} {od2 an2 : Option Addr} {sl2 : Array (Option Value)} {oc2 kV2 dc2 pm2 cd2 ct2 : Value} {T2 : Addr} {tc2 : Value} {td2 : Option Addr} {ts2 : Array (Option Value)} {tn2 : Nat} {tk2_0 : Tok}
    {f3 : Addr} {od3 an3 : Option Addr} {sl3 : Array (Option Value)} {oc3 kV3 dc3 pm3 cd3 ct3 : Value}
    {f4 : Addr} {od4 an4 : Option Addr} {sl4 : Array (Option Value)} {oc4 kV4 dc4 pm4 cd4 ct4 : Value}
    {f5 : Addr} {od5 an5 : Option Addr} {sl5 : Array (Option Value)} {oc5 kV5 dc5 pm5 cd5 ct5 : Value}
    {f6 : Addr} {od6 an6 : Option Addr} {sl6 : Array (Option Value)} {oc6 kV6 dc6 pm6 cd6 ct6 : Value}
    {f7 : Addr} {od7 an7 : Option Addr} {sl7 : Array (Option Value)} {oc7 kV7 dc7 pm7 cd7 ct7 : Value}
    {f8 : Addr} {od8 an8 : Option Addr} {sl8 : Array (Option Value)} {oc8 kV8 dc8 pm8 cd8 ct8 : Value}
    {f9 : Addr} {od9 an9 : Option Addr} {sl9 : Array (Option Value)} {oc9 kV9 dc9 pm9 cd9 ct9 : Value}
    {f10 : Addr} {od10 an10 : Option Addr} {sl10 : Array (Option Value)} {oc10 kV10 dc10 pm10 cd10 ct10 : Value}
    (a1 : PySem.W.nsIn K mainGlobals "numbers_below" = some (some (.ref f1)))
    (l1 : K.lookup f1 = some ⟨oc1, od1, .func (PySem.W.fnOf "numbers_below" "numbers_below" (defArgs sNb) (defBody sNb) (defScope sNb) .none kV1 dc1 pm1 an1 cd1 ct1), sl1⟩)
    (c1 : PySem.W.codeIn K cd1 "numbers_below" = true) (k1 : PySem.W.keepIn K (.ref f1) = true)
    (a2 : PySem.W.nsIn K mainGlobals "deal" = some (some (.ref f2)))
    (l2 : K.lookup f2 = some ⟨oc2, od2, .func (PySem.W.fnOf "deal" "deal" (defArgs sDeal) (defBody sDeal) (defScope sDeal) (.ref T2) kV2 dc2 pm2 an2 cd2 ct2), sl2⟩)
    (c2 : PySem.W.codeIn K cd2 "deal" = true) (k2 : PySem.W.keepIn K (.ref f2) = true)
    (t2 : K.lookup T2 = some ⟨tc2, td2, .seq #[.int 0 tk2_0] tn2, ts2⟩)
    (a3 : PySem.W.nsIn K mainGlobals "dealt_on" = some (some (.ref f3)))
    (l3 : K.lookup f3 = some ⟨oc3, od3, .func (PySem.W.fnOf "dealt_on" "dealt_on" (defArgs sOn) (defBody sOn) (defScope sOn) .none kV3 dc3 pm3 an3 cd3 ct3), sl3⟩)
    (c3 : PySem.W.codeIn K cd3 "dealt_on" = true) (k3 : PySem.W.keepIn K (.ref f3) = true)
    (a4 : PySem.W.nsIn K mainGlobals "_law_feed" = some (some (.ref f4)))
    (l4 : K.lookup f4 = some ⟨oc4, od4, .func (PySem.W.fnOf "_law_feed" "_law_feed" (defArgs sFeed) (defBody sFeed) (defScope sFeed) .none kV4 dc4 pm4 an4 cd4 ct4), sl4⟩)
    (c4 : PySem.W.codeIn K cd4 "_law_feed" = true) (k4 : PySem.W.keepIn K (.ref f4) = true)
    (a5 : PySem.W.nsIn K mainGlobals "_law_draw" = some (some (.ref f5)))
    (l5 : K.lookup f5 = some ⟨oc5, od5, .func (PySem.W.fnOf "_law_draw" "_law_draw" (defArgs sDraw) (defBody sDraw) (defScope sDraw) .none kV5 dc5 pm5 an5 cd5 ct5), sl5⟩)
    (c5 : PySem.W.codeIn K cd5 "_law_draw" = true) (k5 : PySem.W.keepIn K (.ref f5) = true)
    (a6 : PySem.W.nsIn K mainGlobals "_law_dealt" = some (some (.ref f6)))
    (l6 : K.lookup f6 = some ⟨oc6, od6, .func (PySem.W.fnOf "_law_dealt" "_law_dealt" (defArgs sDealt) (defBody sDealt) (defScope sDealt) .none kV6 dc6 pm6 an6 cd6 ct6), sl6⟩)
    (c6 : PySem.W.codeIn K cd6 "_law_dealt" = true) (k6 : PySem.W.keepIn K (.ref f6) = true)
    (a7 : PySem.W.nsIn K mainGlobals "_law_counted" = some (some (.ref f7)))
    (l7 : K.lookup f7 = some ⟨oc7, od7, .func (PySem.W.fnOf "_law_counted" "_law_counted" (defArgs sCounted) (defBody sCounted) (defScope sCounted) .none kV7 dc7 pm7 an7 cd7 ct7), sl7⟩)
    (c7 : PySem.W.codeIn K cd7 "_law_counted" = true) (k7 : PySem.W.keepIn K (.ref f7) = true)
    (a8 : PySem.W.nsIn K mainGlobals "_law_pence" = some (some (.ref f8)))
    (l8 : K.lookup f8 = some ⟨oc8, od8, .func (PySem.W.fnOf "_law_pence" "_law_pence" (defArgs sPence) (defBody sPence) (defScope sPence) .none kV8 dc8 pm8 an8 cd8 ct8), sl8⟩)
    (c8 : PySem.W.codeIn K cd8 "_law_pence" = true) (k8 : PySem.W.keepIn K (.ref f8) = true)
    (a9 : PySem.W.nsIn K mainGlobals "_law_right" = some (some (.ref f9)))
    (l9 : K.lookup f9 = some ⟨oc9, od9, .func (PySem.W.fnOf "_law_right" "_law_right" (defArgs sRight) (defBody sRight) (defScope sRight) .none kV9 dc9 pm9 an9 cd9 ct9), sl9⟩)
    (c9 : PySem.W.codeIn K cd9 "_law_right" = true) (k9 : PySem.W.keepIn K (.ref f9) = true)
    (a10 : PySem.W.nsIn K mainGlobals "law" = some (some (.ref f10)))
    (l10 : K.lookup f10 = some ⟨oc10, od10, .func (PySem.W.fnOf "law" "law" (defArgs sLaw) (defBody sLaw) (defScope sLaw) .none kV10 dc10 pm10 an10 cd10 ct10), sl10⟩)
    (c10 : PySem.W.codeIn K cd10 "law" = true) (k10 : PySem.W.keepIn K (.ref f10) = true)
    (z_len : PySem.W.nsIn K mainGlobals "len" = some none)
    (z_range : PySem.W.nsIn K mainGlobals "range" = some none)
    (z_tuple : PySem.W.nsIn K mainGlobals "tuple" = some none)
    (z_repr : PySem.W.nsIn K mainGlobals "repr" = some none)
    (z_isinstance : PySem.W.nsIn K mainGlobals "isinstance" = some none)
    (z_list : PySem.W.nsIn K mainGlobals "list" = some none) :
    ∃ fd : FuncData, (∀ (s : Shared) (v : Value), BindsTo s fd ⟨[v], []⟩ [("_law_script", v)]) ∧ ∀ base : Heap, K.In base → base.Ns mainGlobals mg → FnG l.prog w K mg base CX0 6 fa fd ["_law_script"] (spLaw K) := by
  have e := hfa.symm.trans (PySem.W.mg_of X G a10)
  cases e
  have F1 := fun_mk (st := sNb) l1 c1 k1
  have b1 := F1.binds (ps := ["limit", "many", "hand"]) fun _ _ _ _ _ _ us hl => match us, hl with | [_, _, _], _ => rfl
  have g1 := PySem.W.mg_of X G a1
  have F2 : FunD K "deal" "deal" (defArgs sDeal) (defBody sDeal) (defScope sDeal) [.int 0] [] f2 (PySem.W.fnOf "deal" "deal" (defArgs sDeal) (defBody sDeal) (defScope sDeal) (.ref T2) kV2 dc2 pm2 an2 cd2 ct2) :=
    ⟨⟨oc2, od2, _, _, _, _, _, _, _, sl2, rfl, l2, c2, .inr ⟨fun z => (nomatch z), T2, _, [.int 0 tk2_0], tn2, rfl, t2, rfl, .cons ⟨_, rfl⟩ (.nil)⟩, .inl rfl⟩, k2⟩
  have b2 : Binds K (PySem.W.fnOf "deal" "deal" (defArgs sDeal) (defBody sDeal) (defScope sDeal) (.ref T2) kV2 dc2 pm2 an2 cd2 ct2) ["pence", "many", "begun"] [] := by
    obtain ⟨ds, vd, bd⟩ := F2.binds1 (ps := ["pence", "many", "begun"]) 3 1 (fun z => (nomatch z)) rfl (fun T kV doc pm an cdv ct us its hu hi => match us, hu, its, hi with | [_, _, _], _, [_], _ => ⟨_, rfl, rfl⟩)
    cases vd
    exact bd
  have g2 := PySem.W.mg_of X G a2
  have F3 := fun_mk (st := sOn) l3 c3 k3
  have b3 := F3.binds (ps := ["pieces", "many"]) fun _ _ _ _ _ _ us hl => match us, hl with | [_, _], _ => rfl
  have g3 := PySem.W.mg_of X G a3
  have F4 := fun_mk (st := sFeed) l4 c4 k4
  have b4 := F4.binds (ps := ["_law_script"]) fun _ _ _ _ _ _ us hl => match us, hl with | [_], _ => rfl
  have g4 := PySem.W.mg_of X G a4
  have F5 := fun_mk (st := sDraw) l5 c5 k5
  have b5 := F5.binds (ps := ["_law_feed_here", "_law_many"]) fun _ _ _ _ _ _ us hl => match us, hl with | [_, _], _ => rfl
  have g5 := PySem.W.mg_of X G a5
  have F6 := fun_mk (st := sDealt) l6 c6 k6
  have b6 := F6.binds (ps := ["_law_pence_here", "_law_many", "_law_begun"]) fun _ _ _ _ _ _ us hl => match us, hl with | [_, _, _], _ => rfl
  have g6 := PySem.W.mg_of X G a6
  have F7 := fun_mk (st := sCounted) l7 c7 k7
  have b7 := F7.binds (ps := ["_law_pence_here", "_law_many", "_law_begun"]) fun _ _ _ _ _ _ us hl => match us, hl with | [_, _, _], _ => rfl
  have g7 := PySem.W.mg_of X G a7
  have F8 := fun_mk (st := sPence) l8 c8 k8
  have b8 := F8.binds (ps := ["_law_feed_here"]) fun _ _ _ _ _ _ us hl => match us, hl with | [_], _ => rfl
  have g8 := PySem.W.mg_of X G a8
  have F9 := fun_mk (st := sRight) l9 c9 k9
  have b9 := F9.binds (ps := ["_law_feed_here"]) fun _ _ _ _ _ _ us hl => match us, hl with | [_], _ => rfl
  have g9 := PySem.W.mg_of X G a9
  have F10 := fun_mk (st := sLaw) l10 c10 k10
  have b10 := F10.binds (ps := ["_law_script"]) fun _ _ _ _ _ _ us hl => match us, hl with | [_], _ => rfl
  have g10 := PySem.W.mg_of X G a10
  have m_len := PySem.W.mg_none_of X G z_len
  have m_range := PySem.W.mg_none_of X G z_range
  have m_tuple := PySem.W.mg_none_of X G z_tuple
  have m_repr := PySem.W.mg_none_of X G z_repr
  have m_isinstance := PySem.W.mg_none_of X G z_isinstance
  have m_list := PySem.W.mg_none_of X G z_list
  refine ⟨PySem.W.fnOf "law" "law" (defArgs sLaw) (defBody sLaw) (defScope sLaw) .none kV10 dc10 pm10 an10 cd10 ct10, fun s v => .of_eq rfl, fun base _ _ => ?_⟩
  have GD := ok_deal (P := l.prog) (w := w) (base := base) F2 F1 b1 g1 m_tuple m_range
  have GO := ok_on (P := l.prog) (w := w) (base := base) F3 GD k2 b2 g2
  have GFd := ok_feed (P := l.prog) (w := w) (mg := mg) (base := base) (k := 0) F4
  have GR := ok_draw (P := l.prog) (w := w) (base := base) (k := 0) F5 m_len
  have GT := ok_dealt (P := l.prog) (w := w) (base := base) (k := 0) F6 m_range m_tuple
  have GC := ok_counted (P := l.prog) (w := w) (base := base) (k := 0) F7 m_range m_tuple
  have GP := ok_pence (P := l.prog) (w := w) (base := base) F8 GR k5 b5 g5
  have GRt := ok_right (P := l.prog) (w := w) (base := base) F9 GR k5 b5 g5 GP k8 b8 g8 GT k6 b6 g6 GO k3 b3 g3 m_tuple m_range m_repr m_isinstance m_list
  exact ok_law F10 GFd k4 b4 g4 GR k5 b5 g5 GP k8 b8 g8 GT k6 b6 g6 GC k7 b7 g7 GD k2 b2 g2 GO k3 b3 g3 GRt k9 b9 g9 m_range m_repr
end K07
open PySem PySem.W PyProof.Rows
set_option maxHeartbeats 0 in
theorem PySem.Challenge.cw_tablebills_k07_deals_holds : PySem.Challenge.rw_tablebills_k07_deals.Holds := by
  w_on; o_law; k_head; (case hw => w_witness2)
  k_fill
  refine TB.walkG (l := PySem.Challenge.rw_tablebills_k07_deals) (n := 63) (k := 6) (x := "_law_script") (sp := fun w => K07.spLaw _) rfl (by decide) rfl (fun w h Y => PySem.W.kIn_of Y) ⟨rfl, by decide, by decide⟩ ?F (fun _ _ a ns hl hS => ⟨a, ns, rfl, hS, hl, fun _ => rfl⟩)
  case F =>
    intro w mg fa h KX G hmg
    refine' K07.all_mk KX G hmg ?a1 ?l1 ?c1 ?k1 ?a2 ?l2 ?c2 ?k2 ?t2 ?a3 ?l3 ?c3 ?k3 ?a4 ?l4 ?c4 ?k4 ?a5 ?l5 ?c5 ?k5 ?a6 ?l6 ?c6 ?k6 ?a7 ?l7 ?c7 ?k7 ?a8 ?l8 ?c8 ?k8 ?a9 ?l9 ?c9 ?k9 ?a10 ?l10 ?c10 ?k10 ?z_len ?z_range ?z_tuple ?z_repr ?z_isinstance ?z_list
    (case a1 => k_is); (case l1 => k_is); (case c1 => k_is); (case k1 => k_is); (case a2 => k_is); (case l2 => k_is); (case c2 => k_is); (case k2 => k_is); (case t2 => k_is); (case a3 => k_is); (case l3 => k_is); (case c3 => k_is); (case k3 => k_is); (case a4 => k_is); (case l4 => k_is); (case c4 => k_is); (case k4 => k_is); (case a5 => k_is); (case l5 => k_is); (case c5 => k_is); (case k5 => k_is); (case a6 => k_is); (case l6 => k_is); (case c6 => k_is); (case k6 => k_is); (case a7 => k_is); (case l7 => k_is); (case c7 => k_is); (case k7 => k_is); (case a8 => k_is); (case l8 => k_is); (case c8 => k_is); (case k8 => k_is); (case a9 => k_is); (case l9 => k_is); (case c9 => k_is); (case k9 => k_is); (case a10 => k_is); (case l10 => k_is); (case c10 => k_is); (case k10 => k_is); (case z_len => k_is); (case z_range => k_is); (case z_tuple => k_is); (case z_repr => k_is); (case z_isinstance => k_is); (case z_list => k_is)
