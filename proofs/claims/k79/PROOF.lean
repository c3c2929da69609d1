import PyProof.Rows.All
import Wide.All
import OpenK.AllK
import Wide.FinOn
import HandS.ForMost
import HandS.Wide
import HandS.Defaults
import HandS.Flow
import HandS.Style
import HandS.IsInst
import HandS.MakeKw
import HandS.Exc
import HandS.WordsExc
import HandS.Zip
import HandS.TupAny
import HandS.RaiseMore
import HandS.TupMul
import KE.GoesMore
import HandS.Walk
import KE.GoesEnum
import KE.KExcIs
import HandS.ForExc
import HandS.ExcInit
import HandS.ExcField
import PyProof.Rows.IntBool
import HandS.Text
import HandS.Replace
import HandS.Deep
import HandS.TupLe
import KE.KMinKey
import HandS.SortKw
import PyProof.AutoSeq1
import HandS.WordsDict
import HandS.TryOnly
import HandS.SortInts
import HandS.More
import KE.KDictPairs
import KE.KDictOf
import HandS.Conv
import HandS.SetFor
import HandS.SetTxt0
import HandS.TupSets
import PyProof.Rows.SortShellAny
import HandS.StrMore
import HandS.Strs
import KE.KDictKeyed
import HandS.SortRule
import HandS.DictTup
import PySem.Challenge.RW_tablebills_k79_names_turned
set_option Elab.async false
set_option linter.all false
set_option maxRecDepth 100000
namespace TB
open PySem PySem.Spec PyProof.Rows L2
/-! A def's promise, where no repr is under way around it. -/
section
variable (P : Program) (w : World) (K : PySem.W.Frag) (mg : Str → Option Value) (base : Heap)
structure FnG (CX : CXT) (k : Nat) (f : Addr) (fd : FuncData) (ps : List Str) (sp : Sp) : Prop where
  len : ∀ xs G R Z, sp xs G R Z → xs.length = ps.length
  run : ∀ (A : Around), A.guards = some [] → Room k A →
    ∀ (outer : List Env) (s : Shared) (H : Hp), Env0 P w K mg base A outer s H →
    ∀ (args : Args) (us : List Value) (vs : List V), BindsTo s fd args (ps.zip us) → Vals vs us →
    ∀ (Q : VK) (E : XK), sp vs H Q E →
      codeAny (model P w) A (Code.call (Value.ref f) args)
        (CR CX outer P w H s Q E) s
end
section
variable {P : Program} {w : World} {K : PySem.W.Frag} {mg : Str → Option Value} {base : Heap} {CX : CXT}
theorem FnG.of {k : Nat} {f : Addr} {fd : FuncData} {ps : List Str} {sp : Sp}
    (F : FnOk P w K mg base CX k f fd ps sp) : FnG P w K mg base CX k f fd ps sp :=
  ⟨F.len, fun A _ hr outer s H e0 args us vs hb r Q E h => F.run A outer s H args us vs Q E hr e0 hb r h⟩
/-- the body's walk gives the promise -/
theorem gfn {k : Nat} {f : Addr} {nm qual : Str} {prm : Arguments} {bd : List Stmt} {sc : Scope} {dV kV doc pm cdv ct oc : Value} {an od : Option Addr}
    {osl : Array (Option Value)} {N : List Str} {ps : List Str} {sp : Sp}
    (lk : K.lookup f = some ⟨oc, od, .func (PySem.W.fnOf nm qual prm bd sc dV kV doc pm an cdv ct), osl⟩)
    (hcd : PySem.W.codeIn K cdv qual = true) (S : FnScope N ps sc) (len : ∀ vs H Q E, sp vs H Q E → vs.length = ps.length)
    (walk : ∀ (A : Around), A.guards = some [] → ∀ (outer : List Env) (s : Shared) (H : Hp) (vs : List V) (Q : VK) (E : XK),
      Room k (A.deeper (envOfC qual sc s.heap.objs.size f cdv)) → sp vs H Q E →
      ∃ t, PSs (cxOf CX P w K mg base N qual sc f cdv A outer s H E) bd t ∧ t ⟨fun _ H' => Q .non H', Q, fun _ _ => False, fun _ _ => False⟩ (start N vs) H) :
    FnG P w K mg base CX (k + 1) f (PySem.W.fnOf nm qual prm bd sc dV kV doc pm an cdv ct) ps sp := by
  constructor
  · exact len
  intro A hg hr outer s H e0 args us vs hb r Q E hsp
  have keeps : ∀ b o, base.get? b = some o → s.heap.get? b = some o := fun b o e => (e0.bs b o e).1
  have KX : K.In s.heap := e0.mod.kin.keeps keeps
  have lim : s.heap.NoLimit := e0.mod.nolimit.keeps keeps
  obtain ⟨t, ht, hq⟩ := walk A hg outer s H vs Q E (hr.deeper _) hsp
  have crec := PySem.W.codeRec_of KX hcd
  refine codeAny_call_function hr.depth (KX _ _ lk) rfl S.co S.gen rfl crec (hb _ _ _ _ ?_)
  refine wpAny_newFunctionEnv_cells S.kind ?_ ?_
  · rintro ⟨n, v⟩ hy
    have q := S.par n (List.of_mem_zip hy).1
    cases q with
    | inl q => exact Or.inl q
    | inr q => exact Or.inr ⟨q, PySem.W.cellsFrom_some _ _ _ (Or.inl q)⟩
  · intro env he s1 x
    cases he
    have I := inv_start (CX := CX) (P := P) (w := w) (mg := mg) (N := N) (qual := qual) (f := f) (cd := cdv) (E := E) S hr.hd e0 (len _ _ _ _ hsp) r x
    refine ⟨lim.keeps x.toInCall.keep, codeAny_func (wpAny_mono (ht.run [] s1 (start N vs) H _ I hq) ?_ (fun e s' hs => hs))⟩
    intro fl s' hs
    match fl, hs with
    | .ret u, ⟨v, _, H', J, rv, q⟩ => exact ⟨v, H', J.os, J.bare, J.base, J.hok, rv, q⟩
    | .next, ⟨_, H', J, q⟩ => exact ⟨V.non, H', J.os, J.bare, J.base, J.hok, rfl, q⟩
    | .brk, ⟨_, _, _, q⟩ => exact q.elim
    | .cont, ⟨_, _, _, q⟩ => exact q.elim
end
/-! repr of plain data -/
section
variable {X : Cx}
def rRepr (K : PySem.W.Frag) : List V → Hp → VK → Prop := fun xs H Q => ∃ a d, xs = [.ref a] ∧ Dp K H (.ref a) d ∧ d.showable = true ∧ d.hasDict = false ∧ d.depth ≤ 60 ∧ d.shown.length ≤ sizeLine ∧ Q (.str d.shown) H
theorem call_reprD (gd : X.A.guards = some []) (hu : X.A.units + 64 < cLine) : CallR X (.builtin "repr") (rRepr X.K) := by
  intro pins s σ H args us Q I r h
  obtain ⟨a, d, rfl, hd, hs, hn, hp, hz, q⟩ := h
  cases r with
  | cons r1 r2 =>
    cases r2
    have e := r1
    obtain rfl := show _ = Value.ref a from e
    obtain ⟨as, rd⟩ := Dp.reads I d _ _ hd rfl
    refine repr_of_reads' rd hs (PyData.noDict_hsm hn) gd (by omega) (fun _ _ z => z) (fun h' u tk k => ?_) hz
    exact ⟨.str d.shown, H, I.kept k, ⟨u, rfl⟩, q⟩
end
/-! the law's own call, at the top's end -/
section
variable {P : Program} {w : World} {K : PySem.W.Frag} {mg mb : Str → Option Value} {k : Nat} {fa a : Addr} {fd : FuncData} {x : Str} {sp : Sp} {s1 : Shared} {vs : List Value} {ns : List Int}
/-- the abstract heap that tracks the script alone, or nothing -/
theorem lawG0 {H : Hp} (KX : K.In s1.heap) (hns : s1.heap.Ns mainGlobals mg) (hb : s1.heap.Ns builtinsNs mb)
    (hbb : ∀ y : Str, y ≠ "__name__" → mb y = bootBuiltins y) (hlim : s1.heap.NoLimit) (hg : s1.gens = #[])
    (ha : s1.heap.get? a = some { cls := .type "list", data := .seq vs.toArray }) (hr : Room k callerA)
    (F : ∀ base : Heap, K.In base → base.Ns mainGlobals mg → FnG P w K mg base CX0 k fa fd [x] sp)
    (hbind : ∀ (s : Shared) (u : Value), BindsTo s fd ⟨[u], []⟩ [(x, u)])
    (hO : Only H) (hok : HOk P w H s1.heap) (onlyA : ∀ b, H b ≠ none → b = a) (notK : H a ≠ none → K.lookup a = none)
    (hsp : sp [.ref a] H (fun v _ => v = .bl true) fun _ _ _ => False) :
    codeAny (model P w) callerA (.call (.ref fa) ⟨[.ref a], []⟩)
      (fun r s' => r = .ok (.ret (.bool true)) ∧ OldK s1.heap s'.heap ∧ s'.os = s1.os ∧ AllBare s'.gens) s1 := by
  have free : ∀ (b : Addr), (b = a → H b = none) → H b = none := by
    intro b hb
    by_cases e : H b = none
    · exact e
    · exact hb (onlyA b e)
  have nsB : ∀ {b : Addr} {m : Str → Option Value}, s1.heap.Ns b m → (hidT s1.heap H).Ns b m := by
    rintro b m ⟨o, es, ep, e, d, r⟩
    refine ⟨o, es, ep, hidT_get e (free b ?_), d, r⟩
    rintro rfl
    have q := Option.some.inj (e.symm.trans ha)
    rw [q] at d
    exact nomatch d
  have kinB : K.In (hidT s1.heap H) := by
    intro b o e
    refine hidT_get (KX b o e) (free b ?_)
    rintro rfl
    by_cases z : H b = none
    · exact z
    · exact absurd ((notK z).symm.trans e) (fun q => nomatch q)
  obtain ⟨mc, hl1, hl2⟩ := hlim
  have M : Mod K mg (hidT s1.heap H) := ⟨kinB, nsB hns, ⟨mb, nsB hb, hbb⟩, ⟨mc, nsB hl1, hl2⟩⟩
  have e0 : Env0 P w K mg (hidT s1.heap H) callerA [] s1 H :=
    { frames := rfl, mod := M, bs := fun b o e => of_hidT e, bsz := Nat.le_of_eq (hidT_size _ _), funs := trivial,
      frf := fun b hb => (nomatch (show b ∈ ([] : List Addr) from hb)), hok := hok, bare := .of_eq hg }
  have run := (F _ kinB (nsB hns)).run callerA rfl hr [] s1 H e0 ⟨[.ref a], []⟩ [.ref a] [.ref a] (hbind s1 _) (.cons rfl .nil) _ _ hsp
  refine codeAny_mono run ?_
  intro r s' h
  match r, h with
  | .ok (.ret u), ⟨v, H', os, bare, un, hok', rv, q⟩ =>
    have q' : v = V.bl true := q
    subst q'
    have eu : u = Value.bool true := rv
    subst eu
    refine ⟨rfl, OldK.of_keep ?_, os, bare⟩
    intro b o e
    by_cases z : H b = none
    · exact un.keep b o e z (fun q => nomatch (show b ∈ ([] : List Addr) from q)) (fun q => nomatch q)
    · rcases hO b with z1 | ⟨ob, xs, z1⟩
      · exact absurd z1 z
      · have e1 := (hok b _ z1).1
        have e2 := (hok' b _ (un.frzs b ob _ z1)).1
        rw [Option.some.inj (e.symm.trans e1)]
        exact e2
theorem lawG (KX : K.In s1.heap) (hns : s1.heap.Ns mainGlobals mg) (hb : s1.heap.Ns builtinsNs mb)
    (hbb : ∀ y : Str, y ≠ "__name__" → mb y = bootBuiltins y) (hlim : s1.heap.NoLimit) (hg : s1.gens = #[])
    (ha : s1.heap.get? a = some { cls := .type "list", data := .seq vs.toArray }) (hi : IntsAre vs ns) (hl : ns.length ≤ sizeLine) (hr : Room k callerA)
    (F : ∀ base : Heap, K.In base → base.Ns mainGlobals mg → FnG P w K mg base CX0 k fa fd [x] sp)
    (hbind : ∀ (s : Shared) (u : Value), BindsTo s fd ⟨[u], []⟩ [(x, u)])
    (hsp : ∀ H : Hp, SqL K H a (ns.map V.int) → sp [.ref a] H (fun v _ => v = .bl true) fun _ _ _ => False) :
    codeAny (model P w) callerA (.call (.ref fa) ⟨[.ref a], []⟩)
      (fun r s' => r = .ok (.ret (.bool true)) ∧ OldK s1.heap s'.heap ∧ s'.os = s1.os ∧ AllBare s'.gens) s1 := by
  have rv := vals_ints hi
  by_cases hk : K.lookup a = none
  · let ob : Obj := { cls := .type "list", data := .seq vs.toArray }
    let H : Hp := upd (fun _ => none) a (.frz ob (.lst (ns.map V.int)))
    have hA : H a = some (.frz ob (.lst (ns.map V.int))) := upd_same
    have hN : ∀ b, b ≠ a → H b = none := fun b ne => upd_ne ne
    refine lawG0 (H := H) KX hns hb hbb hlim hg ha hr F hbind ?_ ?_ ?_ (fun _ => hk) (hsp H (.inl (.inr ⟨ob, hA⟩)))
    · intro b
      by_cases e : b = a
      · exact .inr ⟨ob, _, e ▸ hA⟩
      · exact .inl (hN b e)
    · intro b u q
      by_cases e : b = a
      · subst e
        cases Option.some.inj (q.symm.trans hA)
        exact ⟨ha, Nat.le_trans (Nat.le_of_eq (List.length_map V.int)) hl, vs, _, rv, ha⟩
      · exact nomatch (hN b e).symm.trans q
    · intro b q
      by_cases e : b = a
      · exact e
      · exact absurd (hN b e) q
  · obtain ⟨o, ho⟩ := Option.ne_none_iff_exists'.mp hk
    have eo := Option.some.inj ((KX a o ho).symm.trans ha)
    subst eo
    refine lawG0 (H := fun _ => none) KX hns hb hbb hlim hg ha hr F hbind (fun _ => .inl rfl) (fun b u q => nomatch q) (fun b q => absurd rfl q) (fun q => absurd rfl q) (hsp _ (.inr ?_))
    exact ⟨_, vs.toArray, _, ho, rfl, rfl, rfl, by rw [List.size_toArray, hi.length]; exact hl, rv⟩
end
theorem walkG {l : PySem.W.OpenLaw} {n k : Nat} {q : Program} {loose : List Str} {XP : (Str → Option Value) → Heap → Prop} {YP : World → Heap → Prop} {d : DefRec} {K : Params → PySem.W.Frag} {sp : World → Sp} {x : Str}
    (hn : l.most = some n) (hn2 : n ≤ sizeLine) (hdf : d.params.defaults = [])
    (hY : ∀ (w : World) (h : Heap), YP w h → (K w.params).In h) (hr : Room k callerA)
    (F : ∀ (w : World) (mg : Str → Option Value) (fa : Addr) (g : Heap), (K w.params).In g → g.Ns mainGlobals mg → mg d.name = some (.ref fa) →
      ∃ fd : FuncData, (∀ (s : Shared) (v : Value), BindsTo s fd ⟨[v], []⟩ [(x, v)]) ∧
        ∀ base : Heap, (K w.params).In base → base.Ns mainGlobals mg → FnG l.prog w (K w.params) mg base CX0 k fa fd [x] (sp w))
    (hsp : ∀ (w : World) (H : Hp) (a : Addr) (ns : List Int), ns.length ≤ n → SqL (K w.params) H a (ns.map V.int) → sp w [.ref a] H (fun v _ => v = .bl true) fun _ _ _ => False) :
    PySem.W.WalkO q loose XP YP l.row.toRowW d [] fun f us => PySem.call f us := by
  refine Att.attach_call hn hdf ?_
  intro w s₀ s₁ mg mb fa o pm cd doc a vs ns G Y ho hd hcd hmg hobj hints hlen hg
  have KX := hY w _ Y
  obtain ⟨fd, bnd, prom⟩ := F w mg fa _ KX G.T.g hmg
  exact lawG KX G.T.g G.T.b G.T.builtins G.T.nolimit hg hobj hints (Nat.le_trans hlen hn2) hr prom bnd (fun H hS => hsp w H a ns hlen hS)
end TB
set_option Elab.async false
set_option linter.all false
set_option maxRecDepth 100000
namespace TB
open PySem PySem.Spec PyProof.Rows L2
/-! ### what is shown -/
structure Sh (k n : Nat) (d : PyData) : Prop where
  sh : d.showable = true
  nd : d.hasDict = false
  dp : d.depth ≤ k
  ln : d.shown.length ≤ n
theorem Sh.mono {k k' n n' : Nat} {d : PyData} (h : Sh k n d) (a : k ≤ k') (b : n ≤ n') : Sh k' n' d :=
  ⟨h.sh, h.nd, Nat.le_trans h.dp a, Nat.le_trans h.ln b⟩
def dInts (ns : List Int) : List PyData := ns.map PyData.int
/-- a comprehension without an if -/
theorem yes {σ : L2.St} {H : Hp} {R : Bool → Hp → Prop} (h : R true H) : tYes σ H R := h
/-! ### heaps -/
theorem same_upd {H : Hp} {p : Addr} {o : HO} (h : H p = none) : Same H (upd H p o) := fun b x e => by
  rw [upd_ne (ne_of_none e h)]
  exact e
theorem Same.tup {K : PySem.W.Frag} {H H' : Hp} {a : Addr} {xs : List V} (e : Same H H') (h : SqT K H a xs) : SqT K H' a xs := by
  rcases h with (h | ⟨o, h⟩) | h
  · exact .inl (.inl (e _ _ h))
  · exact .inl (.inr ⟨o, e _ _ h⟩)
  · exact .inr h
/-- all that was tracked is as it was, but what stands at f -/
def But (f : Addr) (H H' : Hp) : Prop := ∀ b o, b ≠ f → H b = some o → H' b = some o
theorem But.refl (f : Addr) (H : Hp) : But f H H := fun _ _ _ h => h
theorem But.trans {f : Addr} {H H1 H2 : Hp} (a : But f H H1) (b : But f H1 H2) : But f H H2 := fun c o n h => b c o n (a c o n h)
theorem But.same {f : Addr} {H H1 H2 : Hp} (a : But f H H1) (b : Same H1 H2) : But f H H2 := fun c o n h => b c o (a c o n h)
theorem But.of {f : Addr} {H H' : Hp} (a : Same H H') : But f H H' := fun c o _ h => a c o h
theorem But.upd {f : Addr} {H : Hp} {o : HO} : But f H (upd H f o) := fun b x n e => by
  rw [upd_ne n]
  exact e
mutual
theorem Dp.same {K : PySem.W.Frag} {H H' : Hp} (e : Same H H') : ∀ (d : PyData) (v : V), Dp K H v d → Dp K H' v d
  | .none, _, .non => .non
  | .bool _, _, .bl b => .bl b
  | .int _, _, .int i => .int i
  | .str _, _, .str x => .str x
  | .list ds, _, .lst h a => .lst (e.seq h) (DpAll.same e ds _ a)
  | .tuple ds, _, .tup h a => .tup (TB.Same.tup e h) (DpAll.same e ds _ a)
theorem DpAll.same {K : PySem.W.Frag} {H H' : Hp} (e : Same H H') : ∀ (ds : List PyData) (vs : List V), DpAll K H vs ds → DpAll K H' vs ds
  | [], _, .nil => .nil
  | d :: ds, _, .cons h t => .cons (Dp.same e d _ h) (DpAll.same e ds _ t)
end
theorem DpAll.snoc {K : PySem.W.Frag} {H : Hp} {v : V} {d : PyData} (h : Dp K H v d) : ∀ {vs : List V} {ds : List PyData}, DpAll K H vs ds → DpAll K H (vs ++ [v]) (ds ++ [d])
  | _, _, .nil => .cons h .nil
  | _, _, .cons a t => .cons a (DpAll.snoc h t)
theorem DpAll.len {K : PySem.W.Frag} {H : Hp} : ∀ {vs : List V} {ds : List PyData}, DpAll K H vs ds → vs.length = ds.length
  | _, _, .nil => rfl
  | _, _, .cons _ t => congrArg Nat.succ (DpAll.len t)
theorem DpAll.get {K : PySem.W.Frag} {H : Hp} : ∀ {vs : List V} {ds : List PyData} {i : Nat} {v : V}, DpAll K H vs ds → vs[i]? = some v → ∃ d, ds[i]? = some d ∧ Dp K H v d
  | _, _, _, _, .nil, h => by simp at h
  | _, _, 0, _, .cons a _, h => ⟨_, rfl, by simp at h; subst h; exact a⟩
  | _, _, i + 1, _, .cons _ t, h => by
    obtain ⟨d, e, q⟩ := DpAll.get t (i := i) (by simpa using h)
    exact ⟨d, by simpa using e, q⟩
/-! no list stands in it -/
mutual
def noL : PyData → Bool
  | .list _ => false
  | .tuple xs => noLs xs
  | .dict _ => false
  | _ => true
def noLs : List PyData → Bool
  | [] => true
  | x :: xs => noL x && noLs xs
end
theorem SqT.but {K : PySem.W.Frag} {H H' : Hp} {o a : Addr} {xs zs : List V} (e : But o H H') (ho : H o = some (.lst zs)) (h : SqT K H a xs) : SqT K H' a xs := by
  rcases h with (h | ⟨u, h⟩) | h
  · exact .inl (.inl (e _ _ (ne_of h ho (fun z => nomatch z)) h))
  · exact .inl (.inr ⟨u, e _ _ (ne_of h ho (fun z => nomatch z)) h⟩)
  · exact .inr h
mutual
theorem Dp.but {K : PySem.W.Frag} {H H' : Hp} {o : Addr} {zs : List V} (e : But o H H') (ho : H o = some (.lst zs)) : ∀ (d : PyData) (v : V), noL d = true → Dp K H v d → Dp K H' v d
  | .none, _, _, .non => .non
  | .bool _, _, _, .bl b => .bl b
  | .int _, _, _, .int i => .int i
  | .str _, _, _, .str x => .str x
  | .list ds, _, n, _ => by simp [noL] at n
  | .tuple ds, _, n, .tup h a => .tup (TB.SqT.but e ho h) (DpAll.but e ho ds _ (by simpa only [noL] using n) a)
theorem DpAll.but {K : PySem.W.Frag} {H H' : Hp} {o : Addr} {zs : List V} (e : But o H H') (ho : H o = some (.lst zs)) : ∀ (ds : List PyData) (vs : List V), noLs ds = true → DpAll K H vs ds → DpAll K H' vs ds
  | [], _, _, .nil => .nil
  | d :: ds, _, n, .cons h t => by
    simp only [noLs, Bool.and_eq_true] at n
    exact .cons (Dp.but e ho d _ n.1 h) (DpAll.but e ho ds _ n.2 t)
end
theorem noLs_snoc {ds : List PyData} {d : PyData} (h : noLs ds = true) (n : noL d = true) : noLs (ds ++ [d]) = true := by
  induction ds with
  | nil => simp only [List.nil_append, noLs, n, Bool.and_true]
  | cons x ds ih =>
    simp only [noLs, Bool.and_eq_true] at h
    simp only [List.cons_append, noLs, h.1, ih h.2, Bool.and_self]
/-! ### a list that is being filled: at D, with these data -/
structure Acc (K : PySem.W.Frag) (H : Hp) (D : Addr) (ds : List PyData) : Prop where
  ex : ∃ us, H D = some (.lst us) ∧ DpAll K H us ds
  nl : noLs ds = true
theorem Acc.start {K : PySem.W.Frag} {H : Hp} {D : Addr} : Acc K (upd H D (.lst [])) D [] := ⟨⟨[], upd_same, .nil⟩, rfl⟩
theorem Acc.same {K : PySem.W.Frag} {H H' : Hp} {D : Addr} {ds : List PyData} (h : Acc K H D ds) (e : Same H H') : Acc K H' D ds := by
  obtain ⟨us, a, b⟩ := h.ex
  exact ⟨⟨us, e _ _ a, DpAll.same e _ _ b⟩, h.nl⟩
/-- one more -/
theorem Acc.more {K : PySem.W.Frag} {H : Hp} {D : Addr} {ds : List PyData} {v : V} {d : PyData} (h : Acc K H D ds) (dv : Dp K H v d) (n : noL d = true) (hl : ds.length ≤ 900) :
    ∃ us, H D = some (.lst us) ∧ us.length < sizeLine ∧ Acc K (upd H D (.lst (us ++ [v]))) D (ds ++ [d]) := by
  obtain ⟨us, a, b⟩ := h.ex
  have bu : But D H (upd H D (.lst (us ++ [v]))) := But.upd
  exact ⟨us, a, by rw [DpAll.len b]; exact small1000 (by omega), ⟨us ++ [v], upd_same, DpAll.snoc (Dp.but bu a _ _ n dv) (DpAll.but bu a _ _ h.nl b)⟩, noLs_snoc h.nl n⟩
theorem same_new {H H2 : Hp} {D : Addr} {o : HO} (nD : H D = none) (sm : Same H H2) : Same H (upd H2 D o) := fun c x e => by
  rw [upd_ne (ne_of_none e nD)]
  exact sm c x e
/-- a turn of a comprehension that changes nothing else -/
theorem Acc.turn {K : PySem.W.Frag} {H H1 H2 : Hp} {D : Addr} {ds ds' : List PyData} {v : V} {d : PyData} (nD : H D = none) (sm : Same H H1) (ac : Acc K H1 D ds) (s2 : Same H1 H2) (dv : Dp K H2 v d) (n : noL d = true) (hl : ds.length ≤ 900) (he : ds' = ds ++ [d]) :
    ∃ acc, H2 D = some (.lst acc) ∧ acc.length < sizeLine ∧ (Same H (upd H2 D (.lst (acc ++ [v]))) ∧ Acc K (upd H2 D (.lst (acc ++ [v]))) D ds') := by
  obtain ⟨us, a, b, c⟩ := (ac.same s2).more dv n hl
  exact ⟨us, a, b, same_new nD (sm.trans s2), he ▸ c⟩
/-- the tuple of all that was filled in -/
theorem Acc.tuple {K : PySem.W.Frag} {H : Hp} {D t : Addr} {us : List V} {ds : List PyData} (dv : DpAll K H us ds) (nt : H t = none) : Dp K (upd H t (.tup us)) (.ref t) (.tuple ds) :=
  .tup (.inl (.inl upd_same)) (DpAll.same (same_upd nt) _ _ dv)
/-! ### repr, its text kept shut -/
@[irreducible] def txt (d : PyData) : Str := d.shown
theorem txt_eq (d : PyData) : txt d = d.shown := by
  unfold txt
  rfl
/-! ### a call by names alone -/
end TB
set_option Elab.async false
set_option linter.all false
set_option maxRecDepth 100000
/-! The value layer: what a def does, as a plain function over values; the heap holds what may change alone. -/
namespace VL
open PySem PySem.Spec PyProof.Rows L2 TB
/-- what the module's names hold, and the world -/
structure MG where
  f : Str → Option Value
  w : World
abbrev _root_.L2.Cx.mgw (X : L2.Cx) : MG := ⟨X.mg, X.w⟩
/-- a constant: a value, or what a name of the module holds -/
inductive Cv where
  | v (v : V) | gl (x : Str)
/-- a value: data, or one of the things that may change (by its number), or a constant of the text -/
inductive D where
  | non | bl (b : Bool) | int (i : Int) | str (x : Str)
  | tup (ds : List D) | lst (ds : List D) | ctp (ds : List D) | fzl (ds : List D)
  | ref (i : Nat) | cv (c : Cv)
/-- a thing that may change -/
inductive C where
  | lst (ds : List D)
  | dct (kvs : List (Key × D))
  | dtt (kvs : List (List Key × D))
  | dtf (kvs : List (List Key × D))
  | lck (kvs : List (Key × D))
  | obj (c : Str) (fs : List (Str × D))
abbrev AS := List C
abbrev En := List (Option D)
inductive Out (α : Type) where
  | ok (a : α) (s : AS)
  | exc (c : Str) (fs : List (Str × D)) (s : AS)
  | bad
def Out.bind {α β : Type} (o : Out α) (k : α → AS → Out β) : Out β := match o with
  | .ok a s => k a s
  | .exc c fs s => .exc c fs s
  | .bad => .bad
@[simp] theorem Out.bind_ok {α β : Type} (a : α) (s : AS) (k : α → AS → Out β) : (Out.ok a s).bind k = k a s := rfl
@[simp] theorem Out.bind_exc {α β : Type} (c : Str) (fs : List (Str × D)) (s : AS) (k : α → AS → Out β) : (Out.exc c fs s : Out α).bind k = .exc c fs s := rfl
@[simp] theorem Out.bind_bad {α β : Type} (k : α → AS → Out β) : (Out.bad : Out α).bind k = .bad := rfl
/-- where the numbered things stand; and what is hidden: nothing that is told leans on it -/
structure Bt where
  l : List Addr
  h : List Addr
def Bt.push (β : Bt) (p : Addr) : Bt := ⟨β.l ++ [p], β.h⟩
def Bt.hide (β : Bt) (p : Addr) : Bt := ⟨β.l, p :: β.h⟩
def Bt.out (β : Bt) (a : Addr) : Prop := a ∉ β.l ∧ a ∉ β.h
def WrL (K : PySem.W.Frag) (a : Addr) (xs : List V) : Prop :=
  ∃ (o : Obj) (its : Array Value) (n : Nat), K.lookup a = some o ∧ o.cls = .type "list" ∧ o.dict = none ∧ o.data = .seq its n ∧ its.size ≤ sizeLine ∧ Vals xs its.toList
/-- a tuple whose object is known, without a dict of its own: written in the text, or made so -/
def CtT (K : PySem.W.Frag) (H : Hp) (β : Bt) (a : Addr) (us : List V) : Prop :=
  (∃ (o : Obj) (its : Array Value) (n : Nat), K.lookup a = some o ∧ o.cls = .type "tuple" ∧ o.dict = none ∧ o.data = .seq its n ∧ its.size ≤ sizeLine ∧ Vals us its.toList) ∨ (β.out a ∧ ∃ o, H a = some (.frz o (.tup us)) ∧ o.dict = none)
theorem CtT.sq {K : PySem.W.Frag} {H : Hp} {β : Bt} {a : Addr} {us : List V} (h : CtT K H β a us) : SqT K H a us := by
  rcases h with ⟨o, its, n, h1, h2, _, h3, h4, h5⟩ | ⟨_, o, h, _⟩
  · exact .inr ⟨o, its, n, h1, h2, h3, h4, h5⟩
  · exact .inl (.inr ⟨o, h⟩)
theorem CtT.imp {K : PySem.W.Frag} {H H' : Hp} {β β' : Bt} {a : Addr} {us : List V} (h : CtT K H β a us) (f : ∀ o, H a = some (.frz o (.tup us)) → β.out a → H' a = some (.frz o (.tup us)) ∧ β'.out a) : CtT K H' β' a us := by
  rcases h with h | ⟨h1, o, h2, h3⟩
  · exact .inl h
  · obtain ⟨q1, q2⟩ := f o h2 h1
    exact .inr ⟨q2, o, q1, h3⟩
def RepC (K : PySem.W.Frag) : Cv → V → Prop
  | .v v, u => u = v
  | .gl x, u => ∃ a, u = .ref a ∧ PySem.W.nsIn K mainGlobals x = some (some (.ref a))
mutual
inductive Rep (K : PySem.W.Frag) (H : Hp) (β : Bt) : D → V → Prop
  | non : Rep K H β .non .non
  | bl (b : Bool) : Rep K H β (.bl b) (.bl b)
  | int (i : Int) : Rep K H β (.int i) (.int i)
  | str (x : Str) : Rep K H β (.str x) (.str x)
  | cv {c : Cv} {v : V} : RepC K c v → Rep K H β (.cv c) v
  | ref {i : Nat} {a : Addr} : β.l[i]? = some a → Rep K H β (.ref i) (.ref a)
  | tup {a : Addr} {ds : List D} {us : List V} : β.out a → H a = some (.tup us) → Reps K H β ds us → Rep K H β (.tup ds) (.ref a)
  | ctp {a : Addr} {ds : List D} {us : List V} : CtT K H β a us → Reps K H β ds us → Rep K H β (.ctp ds) (.ref a)
  | lst {a : Addr} {ds : List D} {us : List V} : β.out a → H a = some (.lst us) → Reps K H β ds us → Rep K H β (.lst ds) (.ref a)
  | fzl {a : Addr} {ds : List D} {us : List V} : ((β.out a ∧ Rd H a (.lst us)) ∨ WrL K a us) → Reps K H β ds us → Rep K H β (.fzl ds) (.ref a)
inductive Reps (K : PySem.W.Frag) (H : Hp) (β : Bt) : List D → List V → Prop
  | nil : Reps K H β [] []
  | cons {d : D} {u : V} {ds : List D} {us : List V} : Rep K H β d u → Reps K H β ds us → Reps K H β (d :: ds) (u :: us)
end
/-- what comes behind: the numbered things keep their numbers, all else is as it was -/
structure Ext (β : Bt) (H : Hp) (β' : Bt) (H' : Hp) : Prop where
  pre : ∃ g, β'.l = β.l ++ g
  hid : β'.h = β.h
  kept0 : ∀ a o, H a = some o → a ∉ β.l → H' a = some o ∧ a ∉ β'.l
  frz : ∀ a z u, H a = some (.frz z u) → H' a = some (.frz z u)
theorem Ext.kept {β β' : Bt} {H H' : Hp} (x : Ext β H β' H') (a : Addr) (o : HO) (h : H a = some o) (n : β.out a) : H' a = some o ∧ β'.out a := by
  obtain ⟨h1, h2⟩ := x.kept0 a o h n.1
  exact ⟨h1, h2, by rw [x.hid]; exact n.2⟩
theorem Ext.refl (β : Bt) (H : Hp) : Ext β H β H := ⟨⟨[], by simp⟩, rfl, fun _ _ h n => ⟨h, n⟩, fun _ _ _ h => h⟩
theorem Ext.trans {β β1 β2 : Bt} {H H1 H2 : Hp} (a : Ext β H β1 H1) (b : Ext β1 H1 β2 H2) : Ext β H β2 H2 := by
  obtain ⟨g, e⟩ := a.pre
  obtain ⟨g', e'⟩ := b.pre
  refine ⟨⟨g ++ g', by rw [e', e, List.append_assoc]⟩, b.hid.trans a.hid, fun x o h n => ?_, fun x z u h => b.frz x z u (a.frz x z u h)⟩
  obtain ⟨h1, n1⟩ := a.kept0 x o h n
  exact b.kept0 x o h1 n1
theorem Ext.same {β : Bt} {H H' : Hp} (h : Same H H') : Ext β H β H' := ⟨⟨[], by simp⟩, rfl, fun a o e n => ⟨h a o e, n⟩, fun a z u e => h a _ e⟩
theorem Ext.at {β β' : Bt} {H H' : Hp} (x : Ext β H β' H') {i : Nat} {a : Addr} (h : β.l[i]? = some a) : β'.l[i]? = some a := by
  obtain ⟨g, e⟩ := x.pre
  have hl := (List.getElem?_eq_some_iff.mp h).1
  rw [e, List.getElem?_append_left hl]
  exact h
theorem Ext.rd {β β' : Bt} {H H' : Hp} (x : Ext β H β' H') {a : Addr} {o : HO} (n : β.out a) (h : Rd H a o) : β'.out a ∧ Rd H' a o := by
  rcases h with h | ⟨u, h⟩
  · obtain ⟨h1, n1⟩ := x.kept a _ h n
    exact ⟨n1, .inl h1⟩
  · obtain ⟨h1, n1⟩ := x.kept a _ h n
    exact ⟨n1, .inr ⟨u, h1⟩⟩
/-- .. as far as what is told leans on it -/
structure ExtW (β : Bt) (H : Hp) (β' : Bt) (H' : Hp) : Prop where
  pre : ∃ g, β'.l = β.l ++ g
  kept : ∀ a o, H a = some o → β.out a → H' a = some o ∧ β'.out a
theorem Ext.weak {β β' : Bt} {H H' : Hp} (x : Ext β H β' H') : ExtW β H β' H' := ⟨x.pre, x.kept⟩
theorem ExtW.refl (β : Bt) (H : Hp) : ExtW β H β H := (Ext.refl β H).weak
/-- .. and what is locked stays -/
structure ExtF (β : Bt) (H : Hp) (β' : Bt) (H' : Hp) : Prop extends ExtW β H β' H' where
  frz : ∀ a z u, H a = some (.frz z u) → H' a = some (.frz z u)
theorem Ext.weakF {β β' : Bt} {H H' : Hp} (x : Ext β H β' H') : ExtF β H β' H' := ⟨x.weak, x.frz⟩
theorem ExtF.refl (β : Bt) (H : Hp) : ExtF β H β H := (Ext.refl β H).weakF
theorem ExtW.trans {β β1 β2 : Bt} {H H1 H2 : Hp} (a : ExtW β H β1 H1) (b : ExtW β1 H1 β2 H2) : ExtW β H β2 H2 := by
  obtain ⟨g, e⟩ := a.pre
  obtain ⟨g', e'⟩ := b.pre
  refine ⟨⟨g ++ g', by rw [e', e, List.append_assoc]⟩, fun x o h n => ?_⟩
  obtain ⟨h1, n1⟩ := a.kept x o h n
  exact b.kept x o h1 n1
theorem ExtW.at {β β' : Bt} {H H' : Hp} (x : ExtW β H β' H') {i : Nat} {a : Addr} (h : β.l[i]? = some a) : β'.l[i]? = some a := by
  obtain ⟨g, e⟩ := x.pre
  have hl := (List.getElem?_eq_some_iff.mp h).1
  rw [e, List.getElem?_append_left hl]
  exact h
theorem ExtW.rd {β β' : Bt} {H H' : Hp} (x : ExtW β H β' H') {a : Addr} {o : HO} (n : β.out a) (h : Rd H a o) : β'.out a ∧ Rd H' a o := by
  rcases h with h | ⟨u, h⟩
  · obtain ⟨h1, n1⟩ := x.kept a _ h n
    exact ⟨n1, .inl h1⟩
  · obtain ⟨h1, n1⟩ := x.kept a _ h n
    exact ⟨n1, .inr ⟨u, h1⟩⟩
mutual
theorem Rep.extW {K : PySem.W.Frag} {β β' : Bt} {H H' : Hp} (x : ExtW β H β' H') : ∀ {d : D} {u : V}, Rep K H β d u → Rep K H' β' d u
  | _, _, .non => .non
  | _, _, .bl b => .bl b
  | _, _, .int i => .int i
  | _, _, .str s => .str s
  | _, _, .cv v => .cv v
  | _, _, .ref h => .ref (x.at h)
  | _, _, .tup n h r => .tup (x.kept _ _ h n).2 (x.kept _ _ h n).1 (Reps.extW x r)
  | _, _, .ctp h r => .ctp (h.imp fun o e n => x.kept _ _ e n) (Reps.extW x r)
  | _, _, .lst n h r => .lst (x.kept _ _ h n).2 (x.kept _ _ h n).1 (Reps.extW x r)
  | _, _, .fzl h r => .fzl (h.imp (fun z => x.rd z.1 z.2) id) (Reps.extW x r)
theorem Reps.extW {K : PySem.W.Frag} {β β' : Bt} {H H' : Hp} (x : ExtW β H β' H') : ∀ {ds : List D} {us : List V}, Reps K H β ds us → Reps K H' β' ds us
  | _, _, .nil => .nil
  | _, _, .cons r t => .cons (Rep.extW x r) (Reps.extW x t)
end
mutual
theorem Rep.ext {K : PySem.W.Frag} {β β' : Bt} {H H' : Hp} (x : Ext β H β' H') : ∀ {d : D} {u : V}, Rep K H β d u → Rep K H' β' d u
  | _, _, .non => .non
  | _, _, .bl b => .bl b
  | _, _, .int i => .int i
  | _, _, .str s => .str s
  | _, _, .cv v => .cv v
  | _, _, .ref h => .ref (x.at h)
  | _, _, .tup n h r => .tup (x.kept _ _ h n).2 (x.kept _ _ h n).1 (Reps.ext x r)
  | _, _, .ctp h r => .ctp (h.imp fun o e n => x.kept _ _ e n) (Reps.ext x r)
  | _, _, .lst n h r => .lst (x.kept _ _ h n).2 (x.kept _ _ h n).1 (Reps.ext x r)
  | _, _, .fzl h r => .fzl (h.imp (fun z => x.rd z.1 z.2) id) (Reps.ext x r)
theorem Reps.ext {K : PySem.W.Frag} {β β' : Bt} {H H' : Hp} (x : Ext β H β' H') : ∀ {ds : List D} {us : List V}, Reps K H β ds us → Reps K H' β' ds us
  | _, _, .nil => .nil
  | _, _, .cons r t => .cons (Rep.ext x r) (Reps.ext x t)
end
theorem Reps.length {K : PySem.W.Frag} {H : Hp} {β : Bt} : ∀ {ds : List D} {us : List V}, Reps K H β ds us → us.length = ds.length
  | _, _, .nil => rfl
  | _, _, .cons _ t => congrArg Nat.succ (Reps.length t)
theorem Reps.append {K : PySem.W.Frag} {H : Hp} {β : Bt} : ∀ {ds es : List D} {us ws : List V}, Reps K H β ds us → Reps K H β es ws → Reps K H β (ds ++ es) (us ++ ws)
  | _, _, _, _, .nil, s => s
  | _, _, _, _, .cons r t, s => .cons r (Reps.append t s)
theorem Reps.get {K : PySem.W.Frag} {H : Hp} {β : Bt} : ∀ {ds : List D} {us : List V} {i : Nat} {d : D}, Reps K H β ds us → ds[i]? = some d → ∃ u, us[i]? = some u ∧ Rep K H β d u
  | _, _, _, _, .nil, e => by simp at e
  | _, _, 0, _, .cons r _, e => by simp at e; subst e; exact ⟨_, rfl, r⟩
  | _, _, i + 1, d, .cons _ t, e => by
    obtain ⟨u, h1, h2⟩ := Reps.get (i := i) (d := d) t (by simpa using e)
    exact ⟨u, by simpa using h1, h2⟩
theorem Reps.get' {K : PySem.W.Frag} {H : Hp} {β : Bt} : ∀ {ds : List D} {us : List V} {i : Nat} {u : V}, Reps K H β ds us → us[i]? = some u → ∃ d, ds[i]? = some d ∧ Rep K H β d u
  | _, _, _, _, .nil, e => by simp at e
  | _, _, 0, _, .cons r _, e => by simp at e; subst e; exact ⟨_, rfl, r⟩
  | _, _, i + 1, d, .cons _ t, e => by
    obtain ⟨u, h1, h2⟩ := Reps.get' (i := i) (u := d) t (by simpa using e)
    exact ⟨u, by simpa using h1, h2⟩
theorem Reps.set {K : PySem.W.Frag} {H : Hp} {β : Bt} {d : D} {u : V} (r : Rep K H β d u) : ∀ {ds : List D} {us : List V} (i : Nat), Reps K H β ds us → Reps K H β (ds.set i d) (us.set i u)
  | _, _, _, .nil => .nil
  | _, _, 0, .cons _ t => .cons r t
  | _, _, i + 1, .cons q t => .cons q (Reps.set r i t)
theorem Reps.take {K : PySem.W.Frag} {H : Hp} {β : Bt} : ∀ {ds : List D} {us : List V} (n : Nat), Reps K H β ds us → Reps K H β (ds.take n) (us.take n)
  | _, _, 0, _ => .nil
  | _, _, _ + 1, .nil => .nil
  | _, _, n + 1, .cons r t => .cons r (Reps.take n t)
theorem Reps.drop {K : PySem.W.Frag} {H : Hp} {β : Bt} : ∀ {ds : List D} {us : List V} (n : Nat), Reps K H β ds us → Reps K H β (ds.drop n) (us.drop n)
  | _, _, 0, r => r
  | _, _, _ + 1, .nil => .nil
  | _, _, n + 1, .cons _ t => Reps.drop n t
/-- fields by name -/
def RepF (K : PySem.W.Frag) (H : Hp) (β : Bt) (fs : List (Str × D)) (vs : List (Str × V)) : Prop :=
  fs.map (·.1) = vs.map (·.1) ∧ Reps K H β (fs.map (·.2)) (vs.map (·.2))
theorem RepF.ext {K : PySem.W.Frag} {β β' : Bt} {H H' : Hp} (x : Ext β H β' H') {fs : List (Str × D)} {vs : List (Str × V)} (h : RepF K H β fs vs) : RepF K H' β' fs vs := ⟨h.1, h.2.ext x⟩
def RepK {κ : Type} (K : PySem.W.Frag) (H : Hp) (β : Bt) (fs : List (κ × D)) (vs : List (κ × V)) : Prop :=
  fs.map (·.1) = vs.map (·.1) ∧ Reps K H β (fs.map (·.2)) (vs.map (·.2))
theorem RepK.ext {κ : Type} {K : PySem.W.Frag} {β β' : Bt} {H H' : Hp} (x : Ext β H β' H') {fs : List (κ × D)} {vs : List (κ × V)} (h : RepK K H β fs vs) : RepK K H' β' fs vs := ⟨h.1, h.2.ext x⟩
/-- a dict whose keys are known tuples: an object of its own kind -/
def hashT (w : World) (ks : List Key) : Int := reduceHash (Builtin.Tuple.tupleHashOf (ks.map (keyH w)))
def dF (w : World) (a : Addr) (us : List (List Key × V)) (bs : List Addr) : HO := .ext fun h => us.length ≤ sizeLine ∧ (a == sysModules) = false ∧ ∃ xs : List (List Key × Addr × Value),
  Paired (fun (p : List Key × V) (q : List Key × Addr × Value) => p.1 = q.1 ∧ RelV p.2 q.2.2) us xs ∧ xs.map (·.2.1) = bs ∧ (xs.map (·.1)).Nodup ∧
  ∃ o es ep, h.get? a = some o ∧ o.ExactDict ∧ o.data = .dict es ep ∧ es.toList = xs.map fun x => ⟨hashT w x.1, .ref x.2.1, x.2.2⟩
def kD : Key → D
  | .inl i => .int i
  | .inr x => .str x
/-- the thing numbered stands at a -/
def CellOk (K : PySem.W.Frag) (mg : MG) (H : Hp) (β : Bt) (a : Addr) : C → Prop
  | .lst ds => ∃ us, H a = some (.lst us) ∧ Reps K H β ds us
  | .dct kvs => ∃ us, H a = some (.dK us) ∧ RepK K H β kvs us
  | .dtt kvs => ∃ us, H a = some (.dT us) ∧ RepK K H β kvs us
  | .dtf kvs => ∃ us bs, H a = some (dF mg.w a us bs) ∧ RepK K H β kvs us ∧ Reps K H β (kvs.map fun p => .ctp (p.1.map kD)) (bs.map V.ref)
  | .lck kvs => ∃ z us, H a = some (.frz z (.dK us)) ∧ RepK K H β kvs us
  | .obj c fs => ∃ (Ca dx : Addr) (vs : List (Str × V)), mg.f c = some (.ref Ca) ∧ H a = some (.ins Ca dx vs) ∧ RepF K H β fs vs
structure Sim (K : PySem.W.Frag) (mg : MG) (β : Bt) (st : AS) (H : Hp) : Prop where
  len : β.l.length = st.length
  nd : β.l.Nodup
  hid : ∀ a ∈ β.h, a ∉ β.l ∧ ∃ o, H a = some o
  cell : ∀ (i : Nat) (a : Addr) (c : C), β.l[i]? = some a → st[i]? = some c → CellOk K mg H β a c
theorem CellOk.there {K : PySem.W.Frag} {mg : MG} {H : Hp} {β : Bt} {a : Addr} {c : C} (h : CellOk K mg H β a c) : ∃ o, H a = some o ∧ (∀ us, o ≠ .tup us) ∧ ∀ z, o ≠ .own z := by
  cases c with
  | lst ds => obtain ⟨us, e, _⟩ := h; exact ⟨_, e, fun _ z => (nomatch z), fun _ z => (nomatch z)⟩
  | dct kvs => obtain ⟨us, e, _⟩ := h; exact ⟨_, e, fun _ z => (nomatch z), fun _ z => (nomatch z)⟩
  | dtt kvs => obtain ⟨us, e, _⟩ := h; exact ⟨_, e, fun _ z => (nomatch z), fun _ z => (nomatch z)⟩
  | dtf kvs => obtain ⟨us, bs, e, _⟩ := h; exact ⟨_, e, fun _ z => (by unfold dF at z; cases z), fun _ z => (by unfold dF at z; cases z)⟩
  | lck kvs => obtain ⟨_, us, e, _⟩ := h; exact ⟨_, e, fun _ z => (nomatch z), fun _ z => (nomatch z)⟩
  | obj c fs => obtain ⟨_, _, us, _, e, _⟩ := h; exact ⟨_, e, fun _ z => (nomatch z), fun _ z => (nomatch z)⟩
theorem CellOk.ext {K : PySem.W.Frag} {mg : MG} {H H' : Hp} {β β' : Bt} {a : Addr} {c : C} (x : Ext β H β' H') (e : H' a = H a) (h : CellOk K mg H β a c) : CellOk K mg H' β' a c := by
  cases c with
  | lst ds => obtain ⟨us, q, r⟩ := h; exact ⟨us, e.trans q, r.ext x⟩
  | dct kvs => obtain ⟨us, q, r⟩ := h; exact ⟨us, e.trans q, r.ext x⟩
  | dtt kvs => obtain ⟨us, q, r⟩ := h; exact ⟨us, e.trans q, r.ext x⟩
  | dtf kvs => obtain ⟨us, bs, q, r, t⟩ := h; exact ⟨us, bs, e.trans q, r.ext x, t.ext x⟩
  | lck kvs => obtain ⟨z, us, q, r⟩ := h; exact ⟨z, us, e.trans q, r.ext x⟩
  | obj c fs => obtain ⟨Ca, dx, us, m, q, r⟩ := h; exact ⟨Ca, dx, us, m, e.trans q, r.ext x⟩
section
variable {K : PySem.W.Frag} {mg : MG} {H H' : Hp} {β β' : Bt} {st : AS}
theorem Sim.at (S : Sim K mg β st H) {i : Nat} {c : C} (h : st[i]? = some c) : ∃ a, β.l[i]? = some a ∧ CellOk K mg H β a c := by
  have hl := (List.getElem?_eq_some_iff.mp h).1
  have hb : i < β.l.length := by rw [S.len]; exact hl
  exact ⟨β.l[i], by simp [hb], S.cell i _ c (by simp [hb]) h⟩
theorem Sim.here (S : Sim K mg β st H) {a : Addr} (h : a ∈ β.l) : ∃ o, H a = some o := by
  obtain ⟨i, hi, e⟩ := List.getElem_of_mem h
  have hs : i < st.length := by rw [← S.len]; exact hi
  obtain ⟨o, e2, _⟩ := (S.cell i a st[i] (by simp [hi, e]) (by simp [hs])).there
  exact ⟨o, e2⟩
theorem Sim.fresh (S : Sim K mg β st H) {p : Addr} (h : H p = none) : β.out p := by
  refine ⟨fun z => ?_, fun z => ?_⟩
  · obtain ⟨o, e⟩ := S.here z
    rw [h] at e
    cases e
  · obtain ⟨_, o, e⟩ := S.hid p z
    rw [h] at e
    cases e
/-- nothing that was tracked has changed -/
theorem Sim.same (S : Sim K mg β st H) (x : Same H H') : Sim K mg β st H' := by
  refine ⟨S.len, S.nd, fun a ha => ?_, fun i a c h1 h2 => ?_⟩
  · obtain ⟨n, o, e⟩ := S.hid a ha
    exact ⟨n, o, x _ _ e⟩
  · have q := S.cell i a c h1 h2
    obtain ⟨o, e, _⟩ := q.there
    exact q.ext (Ext.same x) ((x _ _ e).trans e.symm)
theorem ext_push {p : Addr} {o : HO} (hp : H p = none) : Ext β H (β.push p) (upd H p o) :=
  ⟨⟨[p], rfl⟩, rfl, fun a u e n => ⟨by rw [upd_ne (ne_of_none e hp)]; exact e, fun z => by
    rcases List.mem_append.mp z with z | z
    · exact n z
    · rw [List.mem_singleton.mp z, hp] at e
      cases e⟩, fun a z u e => by rw [upd_ne (ne_of_none e hp)]; exact e⟩
theorem ext_put {p : Addr} {o o1 : HO} (hm : p ∈ β.l) (e1 : H p = some o1) (hf : ∀ z u, o1 ≠ .frz z u := by intro _ _ z; cases z) : Ext β H β (upd H p o) := ⟨⟨[], by simp⟩, rfl, fun b u e n => by
  have ne : b ≠ p := by
    rintro rfl
    exact n hm
  exact ⟨(upd_ne ne).trans e, n⟩, fun b z u e => by
  have ne : b ≠ p := by
    rintro rfl
    rw [e1] at e
    exact hf z u (Option.some.inj e)
  exact (upd_ne ne).trans e⟩
/-- one more thing that may change -/
theorem Sim.push (S : Sim K mg β st H) {p : Addr} {o : HO} {c : C} (hp : H p = none) (hc : CellOk K mg (upd H p o) (β.push p) p c) : Sim K mg (β.push p) (st ++ [c]) (upd H p o) := by
  have nb := S.fresh hp
  have x : Ext β H (β.push p) (upd H p o) := ext_push hp
  refine ⟨by simp [Bt.push, S.len], ?_, fun a ha => ?_, fun i a c' h1 h2 => ?_⟩
  · show (β.l ++ [p]).Nodup
    rw [List.nodup_append]
    refine ⟨S.nd, by simp, fun a ha b hb => ?_⟩
    rw [List.mem_singleton.mp hb]
    rintro rfl
    exact nb.1 ha
  · obtain ⟨n, u, e⟩ := S.hid a ha
    have ne : a ≠ p := ne_of_none e hp
    refine ⟨fun z => ?_, u, (upd_ne ne).trans e⟩
    rcases List.mem_append.mp z with z | z
    · exact n z
    · exact ne (List.mem_singleton.mp z)
  · change (β.l ++ [p])[i]? = some a at h1
    by_cases hi : i < st.length
    · rw [List.getElem?_append_left (by rw [S.len]; exact hi)] at h1
      rw [List.getElem?_append_left hi] at h2
      have q := S.cell i a c' h1 h2
      obtain ⟨o', e, _⟩ := q.there
      exact q.ext x (upd_ne (ne_of_none e hp))
    · have h3 : i < (st ++ [c]).length := (List.getElem?_eq_some_iff.mp h2).1
      have e : i = st.length := by simp at h3; omega
      subst e
      rw [List.getElem?_append_right (by omega), Nat.sub_self] at h2
      rw [List.getElem?_append_right (by rw [S.len]; omega), S.len, Nat.sub_self] at h1
      simp at h1 h2
      subst h1
      subst h2
      exact hc
theorem extW_put {p : Addr} {o : HO} (hm : p ∈ β.l) : ExtW β H β (upd H p o) := ⟨⟨[], by simp⟩, fun b u e n => by
  have ne : b ≠ p := by
    rintro rfl
    exact n.1 hm
  exact ⟨(upd_ne ne).trans e, n⟩⟩
theorem CellOk.extW {a : Addr} {c : C} (x : ExtW β H β' H') (e : H' a = H a) (h : CellOk K mg H β a c) : CellOk K mg H' β' a c := by
  cases c with
  | lst ds => obtain ⟨us, q, r⟩ := h; exact ⟨us, e.trans q, r.extW x⟩
  | dct kvs => obtain ⟨us, q, r⟩ := h; exact ⟨us, e.trans q, r.1, r.2.extW x⟩
  | dtt kvs => obtain ⟨us, q, r⟩ := h; exact ⟨us, e.trans q, r.1, r.2.extW x⟩
  | dtf kvs => obtain ⟨us, bs, q, r, t⟩ := h; exact ⟨us, bs, e.trans q, ⟨r.1, r.2.extW x⟩, t.extW x⟩
  | lck kvs => obtain ⟨z, us, q, r⟩ := h; exact ⟨z, us, e.trans q, r.1, r.2.extW x⟩
  | obj c fs => obtain ⟨Ca, dx, us, m, q, r⟩ := h; exact ⟨Ca, dx, us, m, e.trans q, r.1, r.2.extW x⟩
/-- the thing numbered i has changed -/
theorem Sim.put (S : Sim K mg β st H) {i : Nat} {a : Addr} {o : HO} {c : C} (ha : β.l[i]? = some a) (hc : CellOk K mg (upd H a o) β a c) : Sim K mg β (st.set i c) (upd H a o) := by
  have hm : a ∈ β.l := List.mem_of_getElem? ha
  have x : ExtW β H β (upd H a o) := extW_put hm
  refine ⟨by simp [S.len], S.nd, fun b hb => ?_, fun j b c' h1 h2 => ?_⟩
  · obtain ⟨n, u, e⟩ := S.hid b hb
    have ne : b ≠ a := fun z => n (by rw [z]; exact hm)
    exact ⟨n, u, (upd_ne ne).trans e⟩
  · by_cases hj : j = i
    · subst hj
      rw [ha] at h1
      cases h1
      have hl : j < st.length := by
        have := (List.getElem?_eq_some_iff.mp h2).1
        simpa using this
      rw [List.getElem?_set_self hl] at h2
      cases h2
      exact hc
    · rw [List.getElem?_set_ne (Ne.symm hj)] at h2
      have ne : b ≠ a := fun z => by
        subst z
        obtain ⟨l1, e1⟩ := List.getElem?_eq_some_iff.mp h1
        obtain ⟨l2, e2⟩ := List.getElem?_eq_some_iff.mp ha
        exact hj ((List.getElem_inj S.nd).mp (e1.trans e2.symm))
      exact (S.cell j b c' h1 h2).extW x (upd_ne ne)
end
/-! ### slots -/
structure EnvR (K : PySem.W.Frag) (H : Hp) (β : Bt) (env : En) (σ : L2.St) : Prop where
  len : env.length = σ.length
  get : ∀ (i : Nat) (d : D), env[i]? = some (some d) → ∃ u, σ[i]? = some (some u) ∧ Rep K H β d u
section
variable {K : PySem.W.Frag} {H H' : Hp} {β β' : Bt} {env : En} {σ : L2.St}
theorem EnvR.ext (e : EnvR K H β env σ) (x : Ext β H β' H') : EnvR K H' β' env σ := ⟨e.len, fun i d h => by
  obtain ⟨u, h1, h2⟩ := e.get i d h
  exact ⟨u, h1, h2.ext x⟩⟩
theorem EnvR.set (e : EnvR K H β env σ) {d : D} {u : V} (r : Rep K H β d u) (i : Nat) : EnvR K H β (env.set i (some d)) (σ.set i (some u)) := by
  refine ⟨by simp [e.len], fun j c h => ?_⟩
  by_cases hj : j = i
  · subst hj
    have hl : j < env.length := by
      have := (List.getElem?_eq_some_iff.mp h).1
      simpa using this
    rw [List.getElem?_set_self hl] at h
    cases h
    exact ⟨u, by rw [List.getElem?_set_self (by rw [← e.len]; exact hl)], r⟩
  · rw [List.getElem?_set_ne (Ne.symm hj)] at h
    obtain ⟨w, h1, h2⟩ := e.get j c h
    exact ⟨w, by rw [List.getElem?_set_ne (Ne.symm hj)]; exact h1, h2⟩
/-- fewer slots are known -/
theorem EnvR.less {env' : En} (e : EnvR K H β env σ) (hl : env'.length = env.length) (h : ∀ (i : Nat) d, env'[i]? = some (some d) → env[i]? = some (some d)) : EnvR K H β env' σ :=
  ⟨hl.trans e.len, fun i d q => e.get i d (h i d q)⟩
end
/-! ### what is wanted -/
/-- an exception of the text: its class, its fields -/
def XRep (K : PySem.W.Frag) (mg : MG) (H : Hp) (β : Bt) (c : Str) (fs : List (Str × D)) (cls : Value) (d : Option Addr) : Prop :=
  ∃ (Ca dx : Addr) (vs : List (Str × V)), cls = .ref Ca ∧ mg.f c = some (.ref Ca) ∧ d = some dx ∧ β.out dx ∧ H dx = some (.xd vs) ∧ RepF K H β fs vs
def Post {α ρ : Type} (K : PySem.W.Frag) (mg : MG) (R : Hp → Bt → α → ρ → Prop) (E : XK) (β : Bt) (H : Hp) (Q : ρ → Hp → Prop) : Out α → Prop
  | .ok a st => ∀ β' H' u, Ext β H β' H' → Sim K mg β' st H' → R H' β' a u → Q u H'
  | .exc c fs st => ∀ β' H' cls d, Ext β H β' H' → Sim K mg β' st H' → XRep K mg H' β' c fs cls d → E cls d H'
  | .bad => False
abbrev rD (K : PySem.W.Frag) : Hp → Bt → D → V → Prop := fun H β d u => Rep K H β d u
abbrev rDs (K : PySem.W.Frag) : Hp → Bt → List D → List V → Prop := fun H β d u => Reps K H β d u
abbrev rB : Hp → Bt → Bool → Bool → Prop := fun _ _ a b => a = b
section
variable {α ρ : Type} {K : PySem.W.Frag} {mg : MG} {R : Hp → Bt → α → ρ → Prop} {E : XK} {β β' : Bt} {H H' : Hp} {Q Q' : ρ → Hp → Prop}
theorem Post.ext {o : Out α} (x : Ext β H β' H') (h : Post K mg R E β H Q o) : Post K mg R E β' H' Q o := by
  cases o with
  | ok a st => exact fun β2 H2 u x2 s r => h β2 H2 u (x.trans x2) s r
  | exc c fs st => exact fun β2 H2 cls d x2 s r => h β2 H2 cls d (x.trans x2) s r
  | bad => exact h
end
/-- the reading of a plain function -/
def tG {α ρ : Type} (K : PySem.W.Frag) (mg : MG) (R : Hp → Bt → α → ρ → Prop) (E : XK) (f : En → AS → Out α) : L2.St → Hp → (ρ → Hp → Prop) → Prop :=
  fun σ H Q => ∃ (β : Bt) (env : En) (st : AS), EnvR K H β env σ ∧ Sim K mg β st H ∧ Post K mg R E β H Q (f env st)
/-- the first step of two -/
theorem tG_bind {α ρ γ τ : Type} {K : PySem.W.Frag} {mg : MG} {R : Hp → Bt → α → ρ → Prop} {R' : Hp → Bt → γ → τ → Prop} {E : XK} {β : Bt} {H : Hp} {Q : τ → Hp → Prop} {Q' : ρ → Hp → Prop}
    {f : En → AS → Out α} {k : α → AS → Out γ} {env : En} {st : AS} {σ : L2.St} (he : EnvR K H β env σ) (hs : Sim K mg β st H) (h : Post K mg R' E β H Q ((f env st).bind k))
    (hk : ∀ a st1 β1 H1 u, Ext β H β1 H1 → Sim K mg β1 st1 H1 → EnvR K H1 β1 env σ → R H1 β1 a u → Post K mg R' E β1 H1 Q (k a st1) → Q' u H1) : tG K mg R E f σ H Q' := by
  refine ⟨β, env, st, he, hs, ?_⟩
  cases e : f env st with
  | ok a st1 =>
    rw [e] at h
    exact fun β1 H1 u x s r => hk a st1 β1 H1 u x s (he.ext x) r (h.ext x)
  | exc c fs st1 =>
    rw [e] at h
    exact h
  | bad =>
    rw [e] at h
    exact h
abbrev tV (K : PySem.W.Frag) (mg : MG) (E : XK) (f : En → AS → Out D) : TE := tG K mg (rD K) E f
abbrev tVA (K : PySem.W.Frag) (mg : MG) (E : XK) (f : En → AS → Out (List D)) : TA := tG K mg (rDs K) E f
abbrev tVT (K : PySem.W.Frag) (mg : MG) (E : XK) (f : En → AS → Out Bool) : TT := tG K mg rB E f
abbrev VE (X : Cx) (E : XK) (e : Expr) (f : En → AS → Out D) : Prop := PE X e (tV X.K X.mgw E f)
abbrev VT (X : Cx) (E : XK) (e : Expr) (f : En → AS → Out Bool) : Prop := PT X e (tVT X.K X.mgw E f)
abbrev VW (X : Cx) (E : XK) (e : Expr) (f : En → AS → Out Bool) : Prop := PW X e (tVT X.K X.mgw E f)
abbrev VA (X : Cx) (E : XK) (es : List Expr) (f : En → AS → Out (List D)) : Prop := PA X es (tVA X.K X.mgw E f)
theorem weakE {X : Cx} {e : Expr} {t t' : TE} (h : PE X e t) (w : ∀ σ H Q, t' σ H Q → t σ H Q) : PE X e t' := ⟨fun pins s σ H Q I q => h.run pins s σ H Q I (w σ H Q q)⟩
theorem weakT {X : Cx} {e : Expr} {t t' : TT} (h : PT X e t) (w : ∀ σ H Q, t' σ H Q → t σ H Q) : PT X e t' := ⟨fun pins s σ H Q I q => h.run pins s σ H Q I (w σ H Q q)⟩
theorem weakW {X : Cx} {e : Expr} {t t' : TT} (h : PW X e t) (w : ∀ σ H Q, t' σ H Q → t σ H Q) : PW X e t' := ⟨fun wh pins s σ H Q I q => h.run wh pins s σ H Q I (w σ H Q q)⟩
theorem weakA {X : Cx} {es : List Expr} {t t' : TA} (h : PA X es t) (w : ∀ σ H Q, t' σ H Q → t σ H Q) : PA X es t' := ⟨fun pos pins s σ H Q I q => h.run pos pins s σ H Q I (w σ H Q q)⟩
theorem weakS {X : Cx} {st : Stmt} {t t' : TS} (h : PS X st t) (w : ∀ De σ H, t' De σ H → t De σ H) : PS X st t' := ⟨fun pins s σ H De I q => h.run pins s σ H De I (w De σ H q)⟩
theorem weakSs {X : Cx} {st : List Stmt} {t t' : TS} (h : PSs X st t) (w : ∀ De σ H, t' De σ H → t De σ H) : PSs X st t' := ⟨fun pins s σ H De I q => h.run pins s σ H De I (w De σ H q)⟩
end VL
set_option Elab.async false
set_option linter.all false
set_option maxRecDepth 100000
set_option maxHeartbeats 1000000
namespace TB
open PySem PySem.Spec PyProof.Rows L2
/-! ### sum, min, max of a tuple of numbers -/
/-! ### zip of a tuple and a list: one step of any two iterators -/
section
variable {w : World} {prog : Program} {s : Shared} {A : Around}
/-- nextOf i tells x and leaves T, from any state that keeps what s has but at the places off -/
def NextIs (prog : Program) (w : World) (s : Shared) (off : List Addr) (i : Addr) (x : Value) (T : Heap → Prop) : Prop :=
  ∀ (B : Around) (u : Shared) (Q : Value → Shared → Prop) (E : Value → Shared → Prop), (∀ c o, c ∉ off → s.heap.get? c = some o → u.heap.get? c = some o) →
    (∀ g, T g → Heap.SameBut i u.heap g → Q x { u with heap := g }) → wpAny (model prog w) B (Builtin.SmallTypes.nextOf (.ref i)) Q E u
/-- nextOf i stops -/
def NextEnds (prog : Program) (w : World) (s : Shared) (off : List Addr) (i : Addr) : Prop :=
  ∀ (B : Around) (u : Shared) (Q : Value → Shared → Prop) (E : Value → Shared → Prop), B.handled = none → (∀ c o, c ∉ off → s.heap.get? c = some o → u.heap.get? c = some o) →
    (∀ g e, Heap.ExtBut i u.heap g → (∃ o, g.get? e = some o ∧ o.cls = .type "StopIteration") → E (.ref e) { u with heap := g }) → wpAny (model prog w) B (Builtin.SmallTypes.nextOf (.ref i)) Q E u
/-- the five places of a zip are five -/
structure Five (z TI TO i j : Addr) : Prop where
  a : TI ≠ z
  b : TO ≠ z
  c : i ≠ z
  d : j ≠ z
  e : TO ≠ i
  f : TO ≠ j
  g : i ≠ j
theorem zip_step {E : Value → Shared → Prop} {z TI TO i j : Addr} {x y a b : Value} {T1 T2 : Heap → Prop} {Q : Option Value → Shared → Prop} (F : Five z TI TO i j)
    (hz : IsZip s.heap z TI TO .none) (hTI : IsPair s.heap TI (.ref i) (.ref j)) (hTO : IsPair s.heap TO a b)
    (lt : i < s.heap.objs.size ∧ j < s.heap.objs.size)
    (n1 : NextIs prog w s [z] i x T1) (n2 : NextIs prog w s [z, i, TO] j y T2)
    (k1 : ∀ g g' : Heap, T1 g → (∀ o, g.get? i = some o → g'.get? i = some o) → T1 g') (k2 : ∀ g g' : Heap, T2 g → (∀ o, g.get? j = some o → g'.get? j = some o) → T2 g')
    (hQ : ∀ g, IsZip g z TI TO (rawInt s.heap.objs.size) → IsPair g TO x y → T1 g → T2 g → IsPair g s.heap.objs.size x y → g.objs.size = s.heap.objs.size + 1 →
      (∀ c o, c ∉ [z, TO, i, j] → s.heap.get? c = some o → g.get? c = some o) → Q (some (.ref s.heap.objs.size)) { s with heap := g }) :
    wpAny (model prog w) A (pyNext (Value.ref z)) Q E s := by
  have isZ : s.TypeIs (.ref z) "zip" := ⟨_, hz, rfl⟩
  unfold pyNext
  refine wpAny_bind (wpAny_attempt (wpAny_callSpecial?_slot (name := Str.ofString "__next__") isZ PySem.F.slot_zip_next (wpAny_call_entry PySem.F.slot_zip_next isZ PySem.F.entry_zip_next ?_ (PySem.F.args_zip_next_1 _))))
  show wpAny _ _ (field (Value.ref z) 2 >>= _) _ _ _
  apply wpAny_bind
  refine wpAny_field hz rfl (x := .bool false) rfl ?_
  show wpAny _ _ (field (Value.ref z) 3 >>= _) _ _ _
  apply wpAny_bind
  refine wpAny_field hz rfl (x := .ref TI) rfl ?_
  apply wpAny_bind
  refine wpAny_seqItems hTI rfl ?_
  show wpAny _ _ (Builtin.SmallTypes.ownedTupleIsFree (Value.ref z) >>= _) _ _ _
  apply wpAny_bind; unfold Builtin.SmallTypes.ownedTupleIsFree; apply wpAny_bind
  refine wpAny_field hz rfl (x := .none) rfl (wpAny_pure ?_)
  simp only [if_true]
  apply wpAny_bind
  refine wpAny_rule ?_
  apply wpAny_bind
  refine wpAny_field hz rfl (x := .ref TO) rfl ?_
  apply wpAny_bind
  refine wpAny_setField_rec hz (by simp) fun g1 z1 s1 => ?_
  replace z1 : IsZip g1 z TI TO .ellipsis := z1
  apply wpAny_bind
  simp only [List.forIn_cons, List.forIn_nil, List.zipIdx_cons, List.zipIdx_nil]
  iterate 2 apply wpAny_bind
  apply wpAny_onRaise
  show wpAny _ _ (Builtin.SmallTypes.nextOf (.ref i) >>= _) _ _ _
  apply wpAny_bind
  refine n1 _ _ _ _ (fun c o n e => s1.extBut _ _ (by simpa using n) e) fun g2 t2 s2 => wpAny_pure ?_
  have o2 : IsPair g2 TO a b := s2.extBut _ _ F.e (s1.extBut _ _ F.b hTO)
  apply wpAny_bind
  refine wpAny_seqItems o2 rfl ?_
  apply wpAny_bind
  refine wpAny_updateSeq_pair o2 fun g3 o3 s3 => ?_
  replace o3 : IsPair g3 TO x b := o3
  apply wpAny_bind
  refine wpAny_letGo (wpAny_pure ?_)
  iterate 2 apply wpAny_bind
  apply wpAny_onRaise
  show wpAny _ _ (Builtin.SmallTypes.nextOf (.ref j) >>= _) _ _ _
  apply wpAny_bind
  refine n2 _ _ _ _ (fun c o n e => ?_) fun g4 t4 s4 => wpAny_pure ?_
  · have n' : c ≠ z ∧ c ≠ i ∧ c ≠ TO := by simpa using n
    exact s3.extBut _ _ n'.2.2 (s2.extBut _ _ n'.2.1 (s1.extBut _ _ n'.1 e))
  have o4 : IsPair g4 TO x b := s4.extBut _ _ F.f o3
  apply wpAny_bind
  refine wpAny_seqItems o4 rfl ?_
  apply wpAny_bind
  refine wpAny_updateSeq_pair o4 fun g5 o5 s5 => ?_
  replace o5 : IsPair g5 TO x y := o5
  apply wpAny_bind
  refine wpAny_letGo (wpAny_pure (wpAny_pure ?_))
  apply wpAny_bind
  refine wpAny_seqItems o5 rfl ?_
  apply wpAny_bind
  refine wpAny_newTuple ?_
  have size5 : g5.objs.size = s.heap.objs.size := by rw [s5.1, s4.1, s3.1, s2.1, s1.1]
  have z5 : IsZip g5 z TI TO .ellipsis := s5.extBut _ _ F.b.symm (s4.extBut _ _ F.d.symm (s3.extBut _ _ F.b.symm (s2.extBut _ _ F.c.symm z1)))
  have kept5 : ∀ c o, c ∉ [z, TO, i, j] → s.heap.get? c = some o → g5.get? c = some o := fun c o n e => by
    have n' : c ≠ z ∧ c ≠ TO ∧ c ≠ i ∧ c ≠ j := by simpa using n
    exact s5.extBut _ _ n'.2.1 (s4.extBut _ _ n'.2.2.2 (s3.extBut _ _ n'.2.1 (s2.extBut _ _ n'.2.2.1 (s1.extBut _ _ n'.1 e))))
  have u1 : T1 g5 := k1 _ _ t2 fun o e => s5.extBut _ _ F.e.symm (s4.extBut _ _ F.g (s3.extBut _ _ F.e.symm e))
  have u2 : T2 g5 := k2 _ _ t4 fun o e => s5.extBut _ _ F.f.symm e
  have zl : z < g5.objs.size := Heap.lt_size z5
  show wpAny _ _ (Builtin.SmallTypes.ownedTupleHandOut (.ref z) (.ref g5.objs.size) >>= _) _ _ _
  apply wpAny_bind; unfold Builtin.SmallTypes.ownedTupleHandOut
  have z6 : IsZip (g5.push { cls := .type "tuple", data := .seq #[x, y] }) z TI TO .ellipsis := Heap.get?_push_of_some _ z5
  apply wpAny_bind
  refine wpAny_setField_rec z6 (by simp) fun g7 z7 s7 => ?_
  replace z7 : IsZip g7 z TI TO (rawInt g5.objs.size) := z7
  refine wpAny_setField_rec z7 (by simp) fun g8 z8 s8 => ?_
  replace z8 : IsZip g8 z TI TO (rawInt g5.objs.size) := z8
  have up : ∀ c o, c ≠ z → g5.get? c = some o → g8.get? c = some o := fun c o n e => s8.extBut _ _ n (s7.extBut _ _ n (Heap.get?_push_of_some _ e))
  have pair8 : IsPair g8 g5.objs.size x y := s8.extBut _ _ (Nat.ne_of_gt zl) (s7.extBut _ _ (Nat.ne_of_gt zl) (Heap.get?_push_size _ rfl))
  have size8 : g8.objs.size = g5.objs.size + 1 := by rw [s8.1, s7.1, Heap.size_push]
  rw [size5] at z8 pair8 size8
  refine wpAny_pure ⟨_, rfl, wpAny_pure ?_⟩
  show Q (some (.ref g5.objs.size)) _
  rw [size5]
  exact hQ g8 z8 (up _ _ F.b o5) (k1 _ _ u1 fun o e => up _ o F.c e) (k2 _ _ u2 fun o e => up _ o F.d e) pair8 size8 fun c o n e => up c o (by simp at n; exact n.1) (kept5 c o n e)
theorem zip_stop0 {E : Value → Shared → Prop} {z TI TO i j : Addr} {a b : Value} {Q : Fin → Shared → Prop} (hh : A.handled = none) (F : Five z TI TO i j)
    (hz : IsZip s.heap z TI TO .none) (hTI : IsPair s.heap TI (.ref i) (.ref j)) (hTO : IsPair s.heap TO a b)
    (n : NextEnds prog w s [z] i ∨ (∃ (x : Value) (T : Heap → Prop), NextIs prog w s [z] i x T) ∧ NextEnds prog w s [z, i, TO] j)
    (fin : ∀ (g : Heap) (e : Addr), (∃ o, g.get? e = some o ∧ o.cls = .type "StopIteration") → (∀ c o, c ∉ [z, TO, i, j] → s.heap.get? c = some o → g.get? c = some o) → E (.ref e) { s with heap := g }) :
    wpAny (model prog w) A (Builtin.«zip.__next__» ⟨[Value.ref z], []⟩) Q E s := by
  show wpAny _ _ (field (Value.ref z) 2 >>= _) _ _ _
  apply wpAny_bind
  refine wpAny_field hz rfl (x := .bool false) rfl ?_
  show wpAny _ _ (field (Value.ref z) 3 >>= _) _ _ _
  apply wpAny_bind
  refine wpAny_field hz rfl (x := .ref TI) rfl ?_
  apply wpAny_bind
  refine wpAny_seqItems hTI rfl ?_
  show wpAny _ _ (Builtin.SmallTypes.ownedTupleIsFree (Value.ref z) >>= _) _ _ _
  apply wpAny_bind; unfold Builtin.SmallTypes.ownedTupleIsFree; apply wpAny_bind
  refine wpAny_field hz rfl (x := .none) rfl (wpAny_pure ?_)
  simp only [if_true]
  apply wpAny_bind
  refine wpAny_rule ?_
  apply wpAny_bind
  refine wpAny_field hz rfl (x := .ref TO) rfl ?_
  apply wpAny_bind
  refine wpAny_setField_rec hz (by simp) fun g1 z1 s1 => ?_
  replace z1 : IsZip g1 z TI TO .ellipsis := z1
  apply wpAny_bind
  simp only [List.forIn_cons, List.forIn_nil, List.zipIdx_cons, List.zipIdx_nil]
  iterate 2 apply wpAny_bind
  apply wpAny_onRaise
  show wpAny _ _ (Builtin.SmallTypes.nextOf (.ref i) >>= _) _ _ _
  rcases n with n | ⟨⟨x, T, n⟩, n'⟩
  · apply wpAny_bind
    refine n _ _ _ _ hh (fun c o m e => s1.extBut _ _ (by simpa using m) e) fun g2 e s2 he => ?_
    obtain ⟨oe, hoe, hce⟩ := he
    have z2 : IsZip g2 z TI TO .ellipsis := s2 _ _ F.c.symm z1
    have nez : e ≠ z := fun q => by subst q; rw [z2] at hoe; cases hoe; simp at hce
    refine wpAny_setField_rec z2 (by simp) fun g3 _ s3 => ?_
    refine fin g3 e ⟨oe, s3.extBut _ _ nez hoe, hce⟩ fun c o m q => ?_
    have m' : c ≠ z ∧ c ≠ TO ∧ c ≠ i ∧ c ≠ j := by simpa using m
    exact s3.extBut _ _ m'.1 (s2 _ _ m'.2.2.1 (s1.extBut _ _ m'.1 q))
  · apply wpAny_bind
    refine n _ _ _ _ (fun c o m e => s1.extBut _ _ (by simpa using m) e) fun g2 t2 s2 => wpAny_pure ?_
    have o2 : IsPair g2 TO a b := s2.extBut _ _ F.e (s1.extBut _ _ F.b hTO)
    apply wpAny_bind
    refine wpAny_seqItems o2 rfl ?_
    apply wpAny_bind
    refine wpAny_updateSeq_pair o2 fun g3 o3 s3 => ?_
    apply wpAny_bind
    refine wpAny_letGo (wpAny_pure ?_)
    iterate 2 apply wpAny_bind
    apply wpAny_onRaise
    show wpAny _ _ (Builtin.SmallTypes.nextOf (.ref j) >>= _) _ _ _
    apply wpAny_bind
    refine n' _ _ _ _ hh (fun c o m e => ?_) fun g4 e s4 he => ?_
    · have m' : c ≠ z ∧ c ≠ i ∧ c ≠ TO := by simpa using m
      exact s3.extBut _ _ m'.2.2 (s2.extBut _ _ m'.2.1 (s1.extBut _ _ m'.1 e))
    obtain ⟨oe, hoe, hce⟩ := he
    have z4 : IsZip g4 z TI TO .ellipsis := s4 _ _ F.d.symm (s3.extBut _ _ F.b.symm (s2.extBut _ _ F.c.symm z1))
    have nez : e ≠ z := fun q => by subst q; rw [z4] at hoe; cases hoe; simp at hce
    refine wpAny_setField_rec z4 (by simp) fun g5 _ s5 => ?_
    refine fin g5 e ⟨oe, s5.extBut _ _ nez hoe, hce⟩ fun c o m q => ?_
    have m' : c ≠ z ∧ c ≠ TO ∧ c ≠ i ∧ c ≠ j := by simpa using m
    exact s5.extBut _ _ m'.1 (s4 _ _ m'.2.2.2 (s3.extBut _ _ m'.2.1 (s2.extBut _ _ m'.2.2.1 (s1.extBut _ _ m'.1 q))))
theorem zip_stop {E : Value → Shared → Prop} {z TI TO i j : Addr} {a b : Value} {Q : Option Value → Shared → Prop} (hh : A.handled = none) (F : Five z TI TO i j)
    (hz : IsZip s.heap z TI TO .none) (hTI : IsPair s.heap TI (.ref i) (.ref j)) (hTO : IsPair s.heap TO a b)
    (n : NextEnds prog w s [z] i ∨ (∃ (x : Value) (T : Heap → Prop), NextIs prog w s [z] i x T) ∧ NextEnds prog w s [z, i, TO] j)
    (hQ : ∀ g, (∀ c o, c ∉ [z, TO, i, j] → s.heap.get? c = some o → g.get? c = some o) → Q none { s with heap := g }) :
    wpAny (model prog w) A (pyNext (Value.ref z)) Q E s := by
  have isZ : s.TypeIs (.ref z) "zip" := ⟨_, hz, rfl⟩
  unfold pyNext
  refine wpAny_bind (wpAny_attempt (wpAny_callSpecial?_slot (name := Str.ofString "__next__") isZ PySem.F.slot_zip_next (wpAny_call_entry PySem.F.slot_zip_next isZ PySem.F.entry_zip_next ?_ (PySem.F.args_zip_next_1 _))))
  refine zip_stop0 (A := A.in1) hh F hz hTI hTO n fun g e he hk => ?_
  obtain ⟨o, ho, hc⟩ := he
  apply wpAny_bind
  exact wpAny_isInstance (T := "StopIteration") (b := true) ⟨o, ho, hc⟩ isSubtype_stop (wpAny_pure (hQ _ hk))
/-! a tuple's and a list's -/
theorem next_tup {i l : Addr} {k : Nat} {xs : Array Value} {x : Value} {off : List Addr} (hi : s.heap.IsTupleIter i l k) (hl : s.heap.IsTuple l xs) (hx : xs[k]? = some x) (ni : i ∉ off) (nl : l ∉ off) :
    NextIs prog w s off i x (fun g => g.IsTupleIter i l (k + 1)) := fun B u Q E hk h =>
  RZ.nextOf_tuple_item (hi.at fun o e => hk _ o ni e) (hl.at fun o e => hk _ o nl e) hx h
theorem next_lst {i l : Addr} {k : Nat} {xs : Array Value} {x : Value} {off : List Addr} (hi : s.heap.IsListIter i l k) (hl : s.heap.IsList l xs) (hx : xs[k]? = some x) (ni : i ∉ off) (nl : l ∉ off) :
    NextIs prog w s off i x (fun g => g.IsListIter i l (k + 1)) := fun B u Q E hk h =>
  wpAny_nextOf_list_item (hi.at fun o e => hk _ o ni e) (hl.at fun o e => hk _ o nl e) hx h
theorem ends_tup {i l : Addr} {k : Nat} {xs : Array Value} {off : List Addr} (hi : s.heap.IsTupleIter i l k) (hl : s.heap.IsTuple l xs) (hx : xs[k]? = none) (ni : i ∉ off) (nl : l ∉ off) :
    NextEnds prog w s off i := fun B u Q E hh hk h =>
  RZ.nextOf_tuple_end hh (hi.at fun o e => hk _ o ni e) (hl.at fun o e => hk _ o nl e) hx h
theorem ends_lst {i l : Addr} {k : Nat} {xs : Array Value} {off : List Addr} (hi : s.heap.IsListIter i l k) (hl : s.heap.IsList l xs) (hx : xs[k]? = none) (ni : i ∉ off) (nl : l ∉ off) :
    NextEnds prog w s off i := fun B u Q E hh hk h =>
  wpAny_nextOf_list_end hh (hi.at fun o e => hk _ o ni e) (hl.at fun o e => hk _ o nl e) hx h
end
/-! zip(t, xs), t a tuple, xs a list -/
abbrev zTL1 (h : Heap) (a : Addr) : Heap := h.push { cls := .type "tuple_iterator", data := .fields #[.ref a, .int 0 0] }
abbrev zTL2 (h : Heap) (a b : Addr) : Heap := (zTL1 h a).push { cls := .type "list_iterator", data := .fields #[.ref b, .int 0 0] }
abbrev zTL3 (h : Heap) (a b : Addr) : Heap := (zTL2 h a b).push { cls := .type "tuple", data := .seq #[.ref h.objs.size, .ref (zTL1 h a).objs.size] }
abbrev zTL4 (h : Heap) (a b : Addr) : Heap := (zTL3 h a b).push { cls := .type "tuple", data := .seq #[.none, .none] }
abbrev zTL5 (h : Heap) (a b : Addr) : Heap := (zTL4 h a b).push { cls := .type "zip", data := .fields #[.none, .bool false, .bool false, .ref (zTL2 h a b).objs.size, .ref (zTL3 h a b).objs.size] }
theorem zTL_new (a b : Addr) (xs ys : Array Value) :
    Meets (Builtin.«zip.__new__» ⟨[.type "zip", .ref a, .ref b], []⟩) (fun _ R s => s.heap.IsTuple a xs ∧ s.heap.IsList b ys ∧ R (.ok (.ret (.ref (zTL4 s.heap a b).objs.size))) { s with heap := zTL5 s.heap a b }) :=
  .of_wp fun prog w A R st h => by
    obtain ⟨hp, g, d, tk, os⟩ := st
    obtain ⟨ha, hb, h⟩ := h
    have sub := sub_zip
    have iA : Heap.IsTuple (Shared.heap ⟨hp, g, d, tk, os⟩) a xs := ha
    have iB : Heap.IsList (Shared.heap ⟨hp.push { cls := .type "tuple_iterator", data := .fields #[.ref a, .int 0 0] }, g, d, tk, os⟩) b ys := Heap.IsList.push hb _
    wp_walk using wpAny_pyIter_tuple iA, wpAny_pyIter_list iB
    exact ⟨_, rfl, h⟩
section
variable {prog : Program} {w : World} {A : Around} {E : Value → Shared → Prop} {s : Shared}
theorem call_zTL {a b : Addr} {xs ys : Array Value} {Q : Value → Shared → Prop} (ha : s.heap.IsTuple a xs) (hb : s.heap.IsList b ys)
    (h : ∀ (n : Nat) (g : Heap), n = s.heap.objs.size → IsZip g (n + 4) (n + 2) (n + 3) .none → IsPair g (n + 2) (.ref n) (.ref (n + 1)) → IsPair g (n + 3) .none .none → g.IsTupleIter n a 0 → g.IsListIter (n + 1) b 0 →
      (∀ c o, s.heap.get? c = some o → g.get? c = some o) → Q (.ref (n + 4)) { s with heap := g }) :
    wpAny (model prog w) A (call (.type "zip") [.ref a, .ref b]) Q E s := by
  refine callType_new PySem.F.called_zip (by decide) (PySem.F.typeCall_zip_2 _ _) (PySem.F.newCall_zip_2 _ _) (fun o => PySem.F.args_object_init_3 o _ _) PySem.F.entry_zip_new (zTL_new a b xs ys) ⟨ha, hb, ?_⟩
  have e1 : (zTL1 s.heap a).objs.size = s.heap.objs.size + 1 := Heap.size_push ..
  have e2 : (zTL2 s.heap a b).objs.size = s.heap.objs.size + 2 := by rw [Heap.size_push, e1]
  have e3 : (zTL3 s.heap a b).objs.size = s.heap.objs.size + 3 := by rw [Heap.size_push, e2]
  have e4 : (zTL4 s.heap a b).objs.size = s.heap.objs.size + 4 := by rw [Heap.size_push, e3]
  have g5 : (zTL5 s.heap a b).get? (zTL4 s.heap a b).objs.size = some _ := Heap.get?_push_size _ rfl
  have g4 : (zTL5 s.heap a b).get? (zTL3 s.heap a b).objs.size = some _ := Heap.get?_push_of_some _ (Heap.get?_push_size _ rfl)
  have g3 : (zTL5 s.heap a b).get? (zTL2 s.heap a b).objs.size = some _ := Heap.get?_push_of_some _ (Heap.get?_push_of_some _ (Heap.get?_push_size _ rfl))
  have g2 : (zTL5 s.heap a b).get? (zTL1 s.heap a).objs.size = some _ := Heap.get?_push_of_some _ (Heap.get?_push_of_some _ (Heap.get?_push_of_some _ (Heap.get?_push_size _ rfl)))
  have g1 : (zTL5 s.heap a b).get? s.heap.objs.size = some _ := Heap.get?_push_of_some _ (Heap.get?_push_of_some _ (Heap.get?_push_of_some _ (Heap.get?_push_of_some _ (Heap.get?_push_size _ rfl))))
  show _ ∧ _
  rw [e2, e3, e4] at g5
  rw [e1, e2] at g3
  rw [e3] at g4
  rw [e1] at g2
  rw [e4]
  refine ⟨⟨_, g5, rfl⟩, h _ _ rfl g5 g3 g4 ⟨_, g1, rfl, rfl⟩ ⟨_, g2, rfl, rfl⟩ fun c o x => ?_⟩
  iterate 5 apply Heap.get?_push_of_some
  exact x
end
/-- what a turn over zip(t, xs) is -/
def ItTL (K : PySem.W.Frag) (a b : Addr) : It :=
  ⟨fun i H => ∃ (xs ys : List V) (x y : V), SqT K H a xs ∧ SqL K H b ys ∧ xs[i]? = some x ∧ ys[i]? = some y,
    fun i H v H' => ∃ T x y, v = .ref T ∧ H T = none ∧ H' = upd H T (.tup [x, y]) ∧ (∀ xs, SqT K H a xs → xs[i]? = some x) ∧ ∀ ys, SqL K H b ys → ys[i]? = some y,
    fun i H => ∃ xs ys : List V, SqT K H a xs ∧ SqL K H b ys ∧ (xs.length ≤ i ∨ ys.length ≤ i)⟩
theorem turn_TL {P : Program} {w : World} {K : PySem.W.Frag} {elts : List Expr} {kk : Nat} {tpos : Pos} {a b z TI TO i1 i2 : Addr} (V5 : Five z TI TO i1 i2) (nI : TI ≠ TO ∧ TI ≠ i1 ∧ TI ≠ i2) (na : a ∉ [z, TO, i1, i2]) (nb : b ∉ [z, TO, i1, i2]) :
    Turn P w K (.Tuple elts kk tpos) (ItTL K a b) [z, TI, TO, i1, i2] z (fun i h => IsZip h z TI TO .none ∧ IsPair h TI (.ref i1) (.ref i2) ∧ (∃ x y, IsPair h TO x y) ∧ h.IsTupleIter i1 a i ∧ h.IsListIter i2 b i) where
  mem := by simp
  obj := fun i h st c hc => by
    obtain ⟨isz, pI, ⟨x, y, pO⟩, ⟨o1, e1, _, d1⟩, ⟨o2, e2, _, d2⟩⟩ := st
    have five : c = z ∨ c = TI ∨ c = TO ∨ c = i1 ∨ c = i2 := by simpa using hc
    rcases five with rfl | rfl | rfl | rfl | rfl
    · exact ⟨_, isz, fun v q => nomatch q⟩
    · exact ⟨_, pI, fun v q => nomatch q⟩
    · exact ⟨_, pO, fun v q => nomatch q⟩
    · exact ⟨o1, e1, fun v q => by rw [d1] at q; cases q⟩
    · exact ⟨o2, e2, fun v q => by rw [d2] at q; cases q⟩
  keep := fun i h h' st k => by
    obtain ⟨isz, pI, ⟨x, y, pO⟩, h1, h2⟩ := st
    exact ⟨k _ (by simp) _ isz, k _ (by simp) _ pI, ⟨x, y, k _ (by simp) _ pO⟩, h1.at fun o q => k _ (by simp) o q, h2.at fun o q => k _ (by simp) o q⟩
  item := by
    intro X eP eW eK hc i pins s σ H E I hf st hg
    subst eP eW eK
    obtain ⟨isz, pI, ⟨x0, y0, pO⟩, h1, h2⟩ := st
    obtain ⟨xs, ys, x, y, qx, qy, hx, hy⟩ := hg
    obtain ⟨its, rv, p1, _⟩ := I.tuple qx
    obtain ⟨jts, rw_, p2, _⟩ := I.list qy
    obtain ⟨u, at_u, ru⟩ := rv.get hx
    obtain ⟨v, hv, rv2⟩ := rw_.get hy
    have zl : z < s.heap.objs.size := Heap.lt_size isz
    have l1 : i1 < s.heap.objs.size := by obtain ⟨_, e, _⟩ := h1; exact Heap.lt_size e
    have l2 : i2 < s.heap.objs.size := by obtain ⟨_, e, _⟩ := h2; exact Heap.lt_size e
    have na' : a ≠ z ∧ a ≠ TO ∧ a ≠ i1 ∧ a ≠ i2 := by simpa using na
    have nb' : b ≠ z ∧ b ≠ TO ∧ b ≠ i1 ∧ b ≠ i2 := by simpa using nb
    refine zip_step (T1 := fun g => g.IsTupleIter i1 a (i + 1)) (T2 := fun g => g.IsListIter i2 b (i + 1)) V5 isz pI pO ⟨l1, l2⟩ (next_tup h1 p1 (x := u) (by simpa using at_u) (by simpa using V5.c) (by simpa using na'.1))
      (next_lst h2 p2.isList (x := v) (by simpa using hv) (by simpa using ⟨V5.d, V5.g.symm, V5.f.symm⟩) (by simpa using ⟨nb'.1, nb'.2.2.1, nb'.2.1⟩)) (fun g g' t k => t.at k) (fun g g' t k => t.at k) fun g z' TO' t1 t2 hT hsz hk => ?_
    refine ⟨_, rfl, wpAny_letOwnedTupleGo_zip (s := { s with heap := g }) z' fun g2 z2 sb => ?_⟩
    have hT2 : g2.get? s.heap.objs.size = some { cls := .type "tuple", data := .seq #[u, v] } := (sb.2 _ (Nat.ne_of_gt zl)).trans hT
    have new : ObjOk X.prog X.w (upd H s.heap.objs.size (.tup [x, y])) g2 s.heap.objs.size (.tup [x, y]) := ⟨by show 2 ≤ sizeLine; decide, [u, v], .cons ru (.cons rv2 .nil), ⟨_, hT2, rfl, _, rfl⟩⟩
    have I1 : Inv X pins σ (upd H s.heap.objs.size (.tup [x, y])) { s with heap := g2 } := by
      refine I.turnedNew (t' := s.toks) (ch := [z, TI, TO, i1, i2]) (fun c o hb q => ?_) hf (Nat.le_refl _) new
      have n5 : c ≠ z ∧ c ≠ TI ∧ c ≠ TO ∧ c ≠ i1 ∧ c ≠ i2 := by simpa using hb
      exact (sb.2 c n5.1).trans (hk c o (by simpa using ⟨n5.1, n5.2.2.1, n5.2.2.2.1, n5.2.2.2.2⟩) q)
    have up : ∀ c o, c ≠ z → g.get? c = some o → g2.get? c = some o := fun c o n q => (sb.2 c n).trans q
    refine ⟨.ref s.heap.objs.size, _, I1, rfl, ⟨_, x, y, rfl, I.hok.fresh (Nat.le_refl _), rfl, fun l hl => by rw [I.tuple_inj hl qx]; exact hx, fun l hl => by rw [I.list_inj hl qy]; exact hy⟩, ⟨z2, ?_, ⟨u, v, up _ _ V5.b TO'⟩, t1.at fun o q => up _ o V5.c q, t2.at fun o q => up _ o V5.d q⟩, fun c hcm => ?_⟩
    · exact up _ _ V5.a (hk _ _ (by simpa using ⟨V5.a, nI.1, nI.2.1, nI.2.2⟩) pI)
    · have five : c = z ∨ c = TI ∨ c = TO ∨ c = i1 ∨ c = i2 := by simpa using hcm
      have lt : c < s.heap.objs.size := by
        rcases five with rfl | rfl | rfl | rfl | rfl
        · exact zl
        · exact Heap.lt_size pI
        · exact Heap.lt_size pO
        · exact l1
        · exact l2
      rw [upd_ne (Nat.ne_of_lt lt)]
      exact (hf c hcm).1
  done := by
    intro X eP eW eK hc i pins s σ H E I hf st hg
    subst eP eW eK
    obtain ⟨isz, pI, ⟨x0, y0, pO⟩, h1, h2⟩ := st
    obtain ⟨xs, ys, qx, qy, hend⟩ := hg
    obtain ⟨its, rv, p1, _⟩ := I.tuple qx
    obtain ⟨jts, rw_, p2, _⟩ := I.list qy
    have m1 := rv.length
    have m2 := rw_.length
    have na' : a ≠ z ∧ a ≠ TO ∧ a ≠ i1 ∧ a ≠ i2 := by simpa using na
    have nb' : b ≠ z ∧ b ≠ TO ∧ b ≠ i1 ∧ b ≠ i2 := by simpa using nb
    have n : NextEnds X.prog X.w s [z] i1 ∨ (∃ (x : Value) (T : Heap → Prop), NextIs X.prog X.w s [z] i1 x T) ∧ NextEnds X.prog X.w s [z, i1, TO] i2 := by
      by_cases c : xs.length ≤ i
      · exact .inl (ends_tup h1 p1 (by simp; omega) (by simpa using V5.c) (by simpa using na'.1))
      · have c2 : ys.length ≤ i := by omega
        exact .inr ⟨⟨its[i]'(by omega), _, next_tup h1 p1 (by simp) (by simpa using V5.c) (by simpa using na'.1)⟩, ends_lst h2 p2.isList (by simp; omega) (by simpa using ⟨V5.d, V5.g.symm, V5.f.symm⟩) (by simpa using ⟨nb'.1, nb'.2.2.1, nb'.2.1⟩)⟩
    refine zip_stop (I.ok.hd hc) V5 isz pI pO n fun g hk => ⟨rfl, I.turnedL (t' := s.toks) (ch := [z, TI, TO, i1, i2]) (fun c o hb q => ?_) hf⟩
    have n5 : c ≠ z ∧ c ≠ TI ∧ c ≠ TO ∧ c ≠ i1 ∧ c ≠ i2 := by simpa using hb
    exact hk c o (by simpa using ⟨n5.1, n5.2.2.1, n5.2.2.2.1, n5.2.2.2.2⟩) q
  self := fun _ _ _ _ _ st h => wpAny_pyIter_zip st.1 h
theorem five_at (n : Nat) : Five (n + 4) (n + 2) (n + 3) n (n + 1) := by
  constructor
  · show (n + 2 : Nat) ≠ n + 4; omega
  · show (n + 3 : Nat) ≠ n + 4; omega
  · show (n : Nat) ≠ n + 4; omega
  · show (n + 1 : Nat) ≠ n + 4; omega
  · show (n + 3 : Nat) ≠ n; omega
  · show (n + 3 : Nat) ≠ n + 1; omega
  · show (n : Nat) ≠ n + 1; omega
theorem six_at (n : Nat) : (n + 2 : Nat) ≠ n + 3 ∧ (n + 2 : Nat) ≠ n ∧ (n + 2 : Nat) ≠ n + 1 := by omega
theorem five_out {n a : Nat} (h : a < n) : a ∉ [n + 4, n + 3, n, n + 1] := by
  simp
  omega
def iTL (K : PySem.W.Frag) (ta : TA) : TI := fun σ H R => ta σ H fun vs H1 => ∃ a b xs ys, vs = [.ref a, .ref b] ∧ SqT K H1 a xs ∧ SqL K H1 b ys ∧ R (ItTL K a b) H1
theorem pi_zipTL {X : Cx} {e e2 : Expr} {ta : TA} {p pos tpos : Pos} {elts : List Expr} {kk : Nat} (hg : Gl X "zip") (hm : X.mg "zip" = none) (ha : PA X [e, e2] ta)
    (hs : starEach [e, e2] X.env = (false, eval e X.env) :: starEach [e2] X.env := by rfl) (hpl : (backTo pos (starEach [e2] X.env)).any (·.1) = false := by rfl) : PI X (.Tuple elts kk tpos) (.Call (.Name "zip" p) [e, e2] [] pos) (iTL X.K ta) := by
  refine ⟨fun pins s0 σ H R I h => ?_⟩
  refine Call_ (ld_blt I hg hm PyProof.Rows.boot_zip (PyProof.Rows.callWith_type1 (thn (ha.run pos pins s0 σ H _ I h) fun us u ⟨vs, H1, I1, r1, q1⟩ => ?_) hs hpl))
  obtain ⟨a, b, xs, ys, rfl, qx, qy, q⟩ := q1
  cases r1 with
  | cons r rr =>
    cases rr with
    | cons r' rr =>
      cases rr
      cases r
      cases r'
      obtain ⟨its, rv, p1, _⟩ := I1.tuple qx
      obtain ⟨jts, rw_, p2, _⟩ := I1.list qy
      have la : a < u.heap.objs.size := by obtain ⟨o, ho, _⟩ := id p1; exact Heap.lt_size ho
      have lb : b < u.heap.objs.size := p2.lt
      refine call_zTL (xs := its.toArray) p1 p2.isList fun n g hn hz hTI hTO h1 h2 hk => wpAny_pyIter_zip hz ?_
      have I2 : Inv X pins σ H1 { u with heap := g } := I1.kept (t' := u.toks) hk
      have fr : ∀ c, c ∈ [n + 4, n + 2, n + 3, n, n + 1] → FpOk X pins H1 c := fun c hcm => by
        have five : c = n + 4 ∨ c = n + 2 ∨ c = n + 3 ∨ c = n ∨ c = n + 1 := by simpa using hcm
        have le : u.heap.objs.size ≤ c := by rw [← hn]; omega
        exact I1.fpOk le (I1.hok.fresh le)
      refine ⟨n + 4, [n + 4, n + 2, n + 3, n, n + 1], _, _, H1, rfl, I2, turn_TL (z := n + 4) (TI := n + 2) (TO := n + 3) (i1 := n) (i2 := n + 1) (five_at n) (six_at n) (five_out (by rw [hn]; exact la)) (five_out (by rw [hn]; exact lb)), ⟨hz, hTI, ⟨_, _, hTO⟩, h1, h2⟩, fr, q⟩
/-! ### slices and sums of tuples, whichever way they come -/
end TB
set_option Elab.async false
set_option linter.all false
set_option maxRecDepth 100000
namespace TB
open PySem PySem.Spec PyProof.Rows L2 HT
/-! ### t[::-1] of a tuple -/
end TB
set_option Elab.async false
set_option linter.all false
set_option maxRecDepth 100000
set_option maxHeartbeats 1000000
namespace TB
open PySem PySem.Spec PyProof.Rows L2
/-! ### heaps without some places -/
def hid (F : List Addr) (H : Hp) : Hp := fun b => if b ∈ F then none else H b
/-- the places that are hidden are taken -/
def Took (F : List Addr) (H : Hp) : Prop := ∀ f ∈ F, H f ≠ none
theorem Took.out {F : List Addr} {H : Hp} {p : Addr} (t : Took F H) (n : H p = none) : p ∉ F := fun z => t p z n
theorem Took.same {F : List Addr} {H H' : Hp} (t : Took F H) (s : Same H H') : Took F H' := fun f hf z => by
  cases e : H f with
  | none => exact t f hf e
  | some o =>
    rw [s f o e] at z
    cases z
/-! ### slices, sums of tuples, all outside the hidden places -/
/-! ### the data of slices -/
def cutD (ds : List PyData) (lo hi : Option Int) : List PyData := (ds.drop (HT.sIx ds.length 0 lo)).take (HT.sIx ds.length ds.length hi - HT.sIx ds.length 0 lo)
theorem DpAll.drop {K : PySem.W.Frag} {H : Hp} : ∀ {vs : List V} {ds : List PyData} (i : Nat), DpAll K H vs ds → DpAll K H (vs.drop i) (ds.drop i)
  | _, _, 0, h => h
  | _, _, _ + 1, .nil => .nil
  | _, _, i + 1, .cons _ t => DpAll.drop i t
theorem DpAll.take {K : PySem.W.Frag} {H : Hp} : ∀ {vs : List V} {ds : List PyData} (i : Nat), DpAll K H vs ds → DpAll K H (vs.take i) (ds.take i)
  | _, _, 0, _ => by
    rw [List.take_zero, List.take_zero]
    exact .nil
  | _, _, _ + 1, .nil => .nil
  | _, _, i + 1, .cons a t => .cons a (DpAll.take i t)
theorem DpAll.cut {K : PySem.W.Frag} {H : Hp} {vs : List V} {ds : List PyData} {lo hi : Option Int} (h : DpAll K H vs ds) : DpAll K H (cutV vs lo hi) (cutD ds lo hi) := by
  unfold cutV cutD
  rw [DpAll.len h]
  exact DpAll.take _ (DpAll.drop _ h)
/-! ### things of this depth and width -/
def atom : PyData → Prop
  | .none => True
  | .bool _ => True
  | .int _ => True
  | .str z => PyData.strOk z = true
  | _ => False
def Gd (n : Nat) : Nat → PyData → Prop
  | 0, d => atom d
  | k + 1, d => atom d ∨ ∃ ds, (d = .tuple ds ∨ d = .list ds) ∧ ds.length ≤ n ∧ ∀ e ∈ ds, Gd n k e
theorem Gd.atom {n k : Nat} {d : PyData} (h : atom d) : Gd n k d := by
  cases k with
  | zero => exact h
  | succ k => exact .inl h
theorem Gd.mono {n m : Nat} (hn : n ≤ m) : ∀ {k l : Nat} {d : PyData}, k ≤ l → Gd n k d → Gd m l d
  | 0, _, _, _, h => Gd.atom h
  | k + 1, 0, _, h, _ => by omega
  | k + 1, l + 1, _, hk, .inl h => .inl h
  | k + 1, l + 1, _, hk, .inr ⟨ds, e, hl, h⟩ => .inr ⟨ds, e, Nat.le_trans hl hn, fun d hd => Gd.mono hn (Nat.le_of_succ_le_succ hk) (h d hd)⟩
theorem Gd.tup {n k : Nat} {ds : List PyData} (hl : ds.length ≤ n) (h : ∀ e ∈ ds, Gd n k e) : Gd n (k + 1) (.tuple ds) := .inr ⟨ds, .inl rfl, hl, h⟩
theorem Gd.lst {n k : Nat} {ds : List PyData} (hl : ds.length ≤ n) (h : ∀ e ∈ ds, Gd n k e) : Gd n (k + 1) (.list ds) := .inr ⟨ds, .inr rfl, hl, h⟩
theorem Gd.lays {n : Nat} : ∀ {k : Nat} {d : PyData}, Gd n k d → PyData.canLay0 d = true ∧ PyData.depth d ≤ k
  | k, d, h => by
    have at_ : ∀ {d : PyData}, TB.atom d → PyData.canLay0 d = true ∧ PyData.depth d = 0 := by
      intro d h
      cases d with
      | none => exact ⟨rfl, rfl⟩
      | bool b => exact ⟨rfl, rfl⟩
      | int i => exact ⟨rfl, rfl⟩
      | str z => exact ⟨h, rfl⟩
      | list ds => exact absurd h id
      | tuple ds => exact absurd h id
      | dict ds => exact absurd h id
    cases k with
    | zero =>
      obtain ⟨a, b⟩ := at_ h
      exact ⟨a, by omega⟩
    | succ k =>
      rcases h with h | ⟨ds, e, _, h⟩
      · obtain ⟨a, b⟩ := at_ h
        exact ⟨a, by omega⟩
      · have all : ∀ es : List PyData, (∀ e ∈ es, Gd n k e) → PyData.canLayAll0 es = true ∧ PyData.depthAll es ≤ k := by
          intro es
          induction es with
          | nil => exact fun _ => ⟨rfl, Nat.zero_le _⟩
          | cons e es ih =>
            intro he
            obtain ⟨a, b⟩ := ih fun x hx => he x (List.mem_cons_of_mem _ hx)
            obtain ⟨c, d⟩ := Gd.lays (he e List.mem_cons_self)
            refine ⟨by simp only [PyData.canLayAll0, a, c, Bool.and_self], ?_⟩
            simp only [PyData.depthAll]
            omega
        obtain ⟨a, b⟩ := all ds h
        rcases e with rfl | rfl
        · exact ⟨by simp only [PyData.canLay0, a], by simp only [PyData.depth]; omega⟩
        · exact ⟨by simp only [PyData.canLay0, a], by simp only [PyData.depth]; omega⟩
theorem Gd.shaped {n k : Nat} {d : PyData} (h : Gd n k d) (hk : k ≤ 60) : SeqAt.shaped d = true := by
  obtain ⟨a, b⟩ := h.lays
  unfold SeqAt.shaped
  rw [a, decide_eq_true (by omega)]
  rfl
/-! ### a statement, and what is known behind it -/
end TB
set_option Elab.async false
set_option linter.all false
set_option maxRecDepth 100000
/-! The value layer: expressions. -/
namespace VL
open PySem PySem.Spec PyProof.Rows L2 TB
@[simp] def vVar (i : Nat) (env : En) (st : AS) : Out D := match env[i]? with
  | some (some d) => .ok d st
  | _ => .bad
@[simp] def vC (d : D) (_ : En) (st : AS) : Out D := .ok d st
@[simp] def v1 {α : Type} (g : D → AS → Out α) (fa : En → AS → Out D) (env : En) (st : AS) : Out α := (fa env st).bind g
@[simp] def v2 {α : Type} (g : D → D → AS → Out α) (fa fb : En → AS → Out D) (env : En) (st : AS) : Out α := (fa env st).bind fun a st => (fb env st).bind fun b st => g a b st
@[simp] def vNil (_ : En) (st : AS) : Out (List D) := .ok [] st
@[simp] def vCons (fa : En → AS → Out D) (fr : En → AS → Out (List D)) (env : En) (st : AS) : Out (List D) := (fa env st).bind fun a st => (fr env st).bind fun r st => .ok (a :: r) st
@[simp] def vA {α : Type} (g : List D → AS → Out α) (fa : En → AS → Out (List D)) (env : En) (st : AS) : Out α := (fa env st).bind g
section
variable {X : Cx} {E : XK}
/-- another wish about what is raised, where nothing is -/
theorem ve_var (i : Nat) {x : Str} {pos : Pos} (hN : X.N[i]? = some x := by rfl) (hv : Vis X.env.scope x := by first | exact Or.inl rfl | exact Or.inr (Or.inl rfl) | exact Or.inr (Or.inr rfl)) (hd : (x == ("__debug__" : Str)) = false := by decide)
    (hcd : (x == ("__classdict__" : Str)) = false := by decide) : VE X E (.Name x pos) (vVar i) := by
  refine weakE (pe_var hN hv hd hcd) fun σ H Q ⟨β, env, st, he, hs, h⟩ => ?_
  unfold vVar at h
  split at h
  · rename_i d e
    obtain ⟨u, h1, h2⟩ := he.get i d e
    exact ⟨u, h1, h β H u (Ext.refl _ _) hs h2⟩
  · exact h.elim
theorem ve_c {e : Expr} {v : V} {d : D} (h : PE X e (tC v)) (r : ∀ H β, Rep X.K H β d v) : VE X E e (vC d) :=
  weakE h fun σ H Q ⟨β, env, st, he, hs, h⟩ => h β H v (Ext.refl _ _) hs (r H β)
theorem ve_int {i j pos} : VE X E (.Constant (.int i) j pos) (vC (.int i)) := ve_c pe_int fun _ _ => .int i
theorem ve_bl {b j pos} : VE X E (.Constant (.bool b) j pos) (vC (.bl b)) := ve_c pe_bl fun _ _ => .bl b
theorem ve_non {j pos} : VE X E (.Constant .none j pos) (vC .non) := ve_c pe_non fun _ _ => .non
theorem ve_str {x j pos} : VE X E (.Constant (.str x) j pos) (vC (.str x)) := ve_c pe_str fun _ _ => .str x
theorem va_nil : VA X E [] vNil := weakA pa_nil fun σ H Q ⟨β, env, st, he, hs, h⟩ => h β H [] (Ext.refl _ _) hs .nil
theorem va_cons {e : Expr} {es : List Expr} {fa : En → AS → Out D} {fr : En → AS → Out (List D)} (ha : VE X E e fa) (hr : VA X E es fr) (hs : starEach (e :: es) X.env = (false, eval e X.env) :: starEach es X.env := by rfl) : VA X E (e :: es) (vCons fa fr) := by
  refine weakA (pa_cons ha hr hs) fun σ H Q ⟨β, env, st, he, hs, h⟩ => ?_
  refine tG_bind he hs h fun a st1 β1 H1 u x1 s1 e1 r1 h1 => ?_
  refine tG_bind e1 s1 h1 fun as st2 β2 H2 us x2 s2 e2 r2 h2 => ?_
  exact h2 β2 H2 _ (Ext.refl _ _) s2 (.cons (r1.ext x2) r2)
/-! rules by values -/
def Ok1 (K : PySem.W.Frag) (mg : MG) (E : XK) (r : V → Hp → VK → Prop) (g : D → AS → Out D) : Prop :=
  ∀ β H st x u Q, Sim K mg β st H → Rep K H β x u → Post K mg (rD K) E β H Q (g x st) → r u H Q
def Ok2 (K : PySem.W.Frag) (mg : MG) (E : XK) (r : R2) (g : D → D → AS → Out D) : Prop :=
  ∀ β H st x y u v Q, Sim K mg β st H → Rep K H β x u → Rep K H β y v → Post K mg (rD K) E β H Q (g x y st) → r u v H Q
def OkA (K : PySem.W.Frag) (mg : MG) (E : XK) (r : List V → Hp → VK → Prop) (g : List D → AS → Out D) : Prop :=
  ∀ β H st xs us Q, Sim K mg β st H → Reps K H β xs us → Post K mg (rD K) E β H Q (g xs st) → r us H Q
variable {a b : Expr} {fa fb : En → AS → Out D} {pos : Pos}
theorem use2 {r : R2} {g : D → D → AS → Out D} (hg : Ok2 X.K X.mgw E r g) {σ : L2.St} {H : Hp} {Q : VK} (h : tV X.K X.mgw E (v2 g fa fb) σ H Q) : tOp r (tV X.K X.mgw E fa) (tV X.K X.mgw E fb) σ H Q := by
  obtain ⟨β, env, st, he, hs, h⟩ := h
  refine tG_bind he hs h fun x st1 β1 H1 u x1 s1 e1 r1 h1 => ?_
  refine tG_bind e1 s1 h1 fun y st2 β2 H2 v x2 s2 e2 r2 h2 => ?_
  exact hg β2 H2 st2 x y u v Q s2 (r1.ext x2) r2 h2
theorem ve_op {op : Operator} {r : R2} {g : D → D → AS → Out D} (ho : OpR X (binaryOp op) r) (hg : Ok2 X.K X.mgw E r g) (ha : VE X E a fa) (hb : VE X E b fb) : VE X E (.BinOp a op b pos) (v2 g fa fb) :=
  weakE (pe_op ho ha hb) fun _ _ _ h => use2 hg h
theorem ve_cmp {op : CmpOp} {r : R2} {g : D → D → AS → Out D} (ho : OpR X (compareOp op) r) (hg : Ok2 X.K X.mgw E r g) (ha : VE X E a fa) (hb : VE X E b fb) (hm : behindInMarks op b = false) : VE X E (.Compare a [op] [b] pos) (v2 g fa fb) :=
  weakE (pe_cmpR ho ha hb hm) fun _ _ _ h => use2 hg h
theorem ve_ix {r : R2} {g : D → D → AS → Out D} (hr : IxR X r) (hg : Ok2 X.K X.mgw E r g) (ha : VE X E a fa) (hb : VE X E b fb) (hs : PlainIx b) : VE X E (.Subscript a b pos) (v2 g fa fb) :=
  weakE (pe_ix hr ha hb hs) fun _ _ _ h => use2 hg h
theorem ve_un {op : UnaryOp} {r : V → Hp → VK → Prop} {g : D → AS → Out D} (ho : UnR X (unaryOp op) r) (hg : Ok1 X.K X.mgw E r g) (ha : VE X E a fa) : VE X E (.UnaryOp op a pos) (v1 g fa) := by
  refine weakE (pe_un ho ha) fun σ H Q ⟨β, env, st, he, hs, h⟩ => ?_
  refine tG_bind he hs h fun x st1 β1 H1 u x1 s1 e1 r1 h1 => ?_
  exact hg β1 H1 st1 x u Q s1 r1 h1
/-! tests -/
@[simp] def asB (d : D) (st : AS) : Out Bool := match d with
  | .bl b => .ok b st
  | _ => .bad
@[simp] def vB (fa : En → AS → Out D) : En → AS → Out Bool := v1 asB fa
theorem postB {K : PySem.W.Frag} {mg : MG} {β : Bt} {H : Hp} {Q : Bool → Hp → Prop} {d : D} {u : V} {st : AS} (s : Sim K mg β st H) (r : Rep K H β d u)
    (h : Post K mg rB E β H Q (asB d st)) : ∃ k, u = .bl k ∧ Q k H := by
  cases r with
  | bl b => exact ⟨b, rfl, h β H b (Ext.refl _ _) s rfl⟩
  | _ => exact h.elim
theorem vt_cmp {op : CmpOp} {r : R2} {g : D → D → AS → Out D} (ho : OpR X (compareOp op) r) (hg : Ok2 X.K X.mgw E r g) (ha : VE X E a fa) (hb : VE X E b fb) (hm : behindInMarks op b = false) : VT X E (.Compare a [op] [b] pos) (vB (v2 g fa fb)) := by
  refine weakT (pt_cmpR ho ha hb hm) fun σ H Q h => ?_
  obtain ⟨β, env, st, he, hs, h⟩ := h
  have h' : tV X.K X.mgw E (v2 g fa fb) σ H fun x H' => ∃ k, x = .bl k ∧ Q k H' := tG_bind he hs h fun x st1 β1 H1 u x1 s1 e1 r1 h1 => postB s1 r1 h1
  exact use2 hg h'
/-- an expression as a test, by its truth -/
@[simp] def listOf (st : AS) : D → Option (List D)
  | .lst ds => some ds
  | .fzl ds => some ds
  | .ref i => match st[i]? with
    | some (.lst ds) => some ds
    | _ => none
  | _ => none
@[simp] def truD (d : D) (st : AS) : Out Bool := match d with
  | .non => .ok false st
  | .bl b => .ok b st
  | .int i => .ok (i != 0) st
  | .str x => if x.length ≤ sizeLine then .ok ((x.length : Int) != 0) st else .bad
  | .tup ds => .ok (!ds.isEmpty) st
  | .ctp ds => .ok (!ds.isEmpty) st
  | .lst ds => .ok (!ds.isEmpty) st
  | .fzl ds => .ok (!ds.isEmpty) st
  | .ref i => match st[i]? with
    | some (.lst ds) => .ok (!ds.isEmpty) st
    | some (.dct kvs) => .ok (!kvs.isEmpty) st
    | some (.lck kvs) => .bad
    | _ => .bad
  | .cv _ => .bad
end
section
variable {K : PySem.W.Frag} {mg : MG} {E : XK} {β : Bt} {H : Hp} {st : AS}
theorem SqL.fz {a : Addr} {us : List V} (h : (β.out a ∧ Rd H a (.lst us)) ∨ WrL K a us) : SqL K H a us := h.imp (·.2) id
/-- a list to be read -/
theorem Sim.lists (S : Sim K mg β st H) {d : D} {u : V} {ds : List D} (r : Rep K H β d u) (h : listOf st d = some ds) : ∃ a us, u = .ref a ∧ SqL K H a us ∧ Reps K H β ds us := by
  cases r with
  | lst n e q =>
    cases h
    exact ⟨_, _, rfl, .inl (.inl e), q⟩
  | fzl e q =>
    cases h
    exact ⟨_, _, rfl, SqL.fz e, q⟩
  | ref e =>
    rename_i i a
    unfold listOf at h
    dsimp only at h
    split at h
    · rename_i ds' e2
      cases h
      obtain ⟨us, e3, q⟩ := S.cell i a _ e e2
      exact ⟨a, us, rfl, .inl (.inl e3), q⟩
    · cases h
  | _ => cases h
theorem Reps.isEmpty {ds : List D} {us : List V} (r : Reps K H β ds us) : us.isEmpty = ds.isEmpty := by
  cases r <;> rfl
theorem truD_ok (S : Sim K mg β st H) {d : D} {u : V} {Q : Bool → Hp → Prop} (r : Rep K H β d u) (h : Post K mg rB E β H Q (truD d st)) : ∃ k, TruV K u H k ∧ Q k H := by
  have go : ∀ k, truD d st = .ok k st → Q k H := fun k e => by
    rw [e] at h
    exact h β H k (Ext.refl _ _) S rfl
  cases r with
  | non => exact ⟨false, rfl, go _ rfl⟩
  | bl b => exact ⟨b, rfl, go _ rfl⟩
  | int i => exact ⟨_, rfl, go _ rfl⟩
  | str x =>
    by_cases hl : x.length ≤ sizeLine
    · exact ⟨_, ⟨hl, rfl⟩, go _ (if_pos hl)⟩
    · rw [show truD (.str x) st = .bad from if_neg hl] at h
      exact h.elim
  | tup n e q => exact ⟨_, .inr (.inl ⟨_, .inl (.inl e), by rw [q.isEmpty]⟩), go _ rfl⟩
  | ctp e q => exact ⟨_, .inr (.inl ⟨_, e.sq, by rw [q.isEmpty]⟩), go _ rfl⟩
  | lst n e q => exact ⟨_, .inl ⟨_, .inl (.inl e), by rw [q.isEmpty]⟩, go _ rfl⟩
  | fzl e q => exact ⟨_, .inl ⟨_, SqL.fz e, by rw [q.isEmpty]⟩, go _ rfl⟩
  | cv v => exact h.elim
  | ref e =>
    rename_i i a
    cases q : st[i]? with
    | none =>
      simp only [truD, q] at h
      exact h.elim
    | some c =>
      cases c with
      | lst ds =>
        obtain ⟨us, e3, r3⟩ := S.cell i a _ e q
        exact ⟨_, .inl ⟨_, .inl (.inl e3), by rw [r3.isEmpty]⟩, go _ (by simp only [truD, q])⟩
      | dct kvs =>
        obtain ⟨us, e3, r3⟩ := S.cell i a _ e q
        refine ⟨!us.isEmpty, ?_, go _ ?_⟩
        · exact .inr (.inr ⟨us, e3, rfl⟩)
        · simp only [truD, q]
          have : us.isEmpty = kvs.isEmpty := by
            have h1 := congrArg List.length r3.1
            simp only [List.length_map] at h1
            cases us <;> cases kvs <;> simp_all
          rw [this]
      | dtt kvs =>
        simp only [truD, q] at h
        exact h.elim
      | dtf kvs =>
        simp only [truD, q] at h
        exact h.elim
      | lck kvs =>
        simp only [truD, q] at h
        exact h.elim
      | obj c fs =>
        simp only [truD, q] at h
        exact h.elim
end
end VL
set_option Elab.async false
set_option linter.all false
set_option maxRecDepth 100000
set_option maxHeartbeats 1000000
namespace TB
open PySem PySem.Spec PyProof.Rows L2
/-! ### enumerate(t), t a tuple -/
section
variable {K : PySem.W.Frag} {a b : Addr} {xs ys : List V}
theorem walk_zT {n : Nat} (hn : n = min xs.length ys.length) : Walk (RZ.ItzT K a b) n (fun H => SqT K H a xs ∧ SqT K H b ys) (YPair (fun i => xs[i]?) (fun i => ys[i]?)) := by
  refine ⟨fun i H hi q => ?_, fun H q => ?_, fun i H x H' hi q y => ?_⟩
  · have h1 : i < xs.length := by omega
    have h2 : i < ys.length := by omega
    exact ⟨xs, ys, xs[i], ys[i], q.1, q.2, by simp [h1], by simp [h2]⟩
  · exact ⟨xs, ys, q.1, q.2, by omega⟩
  · obtain ⟨T, u, v, h1, h2, h3, h4, h5⟩ := y
    exact ⟨T, u, v, h1, h2, h3, h4 xs q.1, h5 ys q.2⟩
theorem walk_TL {n : Nat} (hn : n = min xs.length ys.length) : Walk (ItTL K a b) n (fun H => SqT K H a xs ∧ SqL K H b ys) (YPair (fun i => xs[i]?) (fun i => ys[i]?)) := by
  refine ⟨fun i H hi q => ?_, fun H q => ?_, fun i H x H' hi q y => ?_⟩
  · have h1 : i < xs.length := by omega
    have h2 : i < ys.length := by omega
    exact ⟨xs, ys, xs[i], ys[i], q.1, q.2, by simp [h1], by simp [h2]⟩
  · exact ⟨xs, ys, q.1, q.2, by omega⟩
  · obtain ⟨T, u, v, h1, h2, h3, h4, h5⟩ := y
    exact ⟨T, u, v, h1, h2, h3, h4 xs q.1, h5 ys q.2⟩
end
end TB
set_option Elab.async false
set_option linter.all false
set_option maxRecDepth 100000
set_option maxHeartbeats 1000000
namespace TB
open PySem PySem.Spec PyProof.Rows L2
/-! ### zip(t, u, v), three tuples -/
end TB
set_option Elab.async false
set_option linter.all false
set_option maxRecDepth 100000
set_option maxHeartbeats 1000000
namespace TB
open PySem PySem.Spec PyProof.Rows L2
/-! ### isinstance of a caught error that has fields -/
end TB
set_option Elab.async false
set_option linter.all false
set_option maxRecDepth 100000
set_option maxHeartbeats 1000000
namespace TB
open PySem PySem.Spec PyProof.Rows L2
/-! ### numbers and truths in sums -/
theorem gives_neg_bool (a : Bool) : Gives (Builtin.«int.__neg__» ⟨[.bool a], []⟩) (.int (-(if a = true then (1 : Int) else 0))) :=
  .of_wp fun M A E s Q h => by
    obtain ⟨hp, g, d, tk, os⟩ := s
    wp_walk
    exact ⟨_, rfl, h⟩
theorem neg_bool {prog : Program} {w : World} {A : Around} {E : Value → Shared → Prop} {s : Shared} {a : Bool} {Q : Value → Shared → Prop} (h : Q (.int (-(if a = true then (1 : Int) else 0)) s.toks) { s with toks := s.toks + 1 }) :
    wpAny (model prog w) A (unaryOp .USub (.bool a)) Q E s :=
  unaryOp_gives (op := .USub) (typeIs_bool' s a) rfl F.slot_bool_neg F.entry_int_neg (F.args_int_neg_1 _) (gives_neg_bool a) h
/-- the number that stands behind a number or a truth -/
inductive Nm : V → Int → Prop
  | int (i : Int) : Nm (.int i) i
  | bl (b : Bool) : Nm (.bl b) (if b = true then 1 else 0)
def rAddN : R2 := fun x y H Q => ∃ i j, Nm x i ∧ y = .int j ∧ Q (.int (i + j)) H
def rSubN : R2 := fun x y H Q => ∃ i j, Nm x i ∧ y = .int j ∧ Q (.int (i - j)) H
def rNegN : V → Hp → VK → Prop := fun x H Q => ∃ i, Nm x i ∧ Q (.int (-i)) H
section
variable {X : Cx}
theorem op_addN : OpR X (binaryOp .Add) rAddN := by
  intro pins s σ H x y v u Q I rx ry h
  obtain ⟨i, j, n, rfl, q⟩ := h
  cases n with
  | int i => exact op_add pins s σ H _ _ v u Q I rx ry ⟨i, j, rfl, rfl, q⟩
  | bl b =>
    obtain ⟨t, rfl⟩ := ry
    cases (show v = Value.bool b from rx)
    exact PySem.IntBool.add_bool_int ⟨.int _, H, I.tok _, ⟨_, rfl⟩, q⟩
theorem op_subN : OpR X (binaryOp .Sub) rSubN := by
  intro pins s σ H x y v u Q I rx ry h
  obtain ⟨i, j, n, rfl, q⟩ := h
  cases n with
  | int i => exact op_sub pins s σ H _ _ v u Q I rx ry ⟨i, j, rfl, rfl, q⟩
  | bl b =>
    obtain ⟨t, rfl⟩ := ry
    cases (show v = Value.bool b from rx)
    exact PySem.IntBool.sub_bool_int ⟨.int _, H, I.tok _, ⟨_, rfl⟩, q⟩
theorem un_negN : UnR X (unaryOp .USub) rNegN := by
  intro pins s σ H x v Q I rx h
  obtain ⟨i, n, q⟩ := h
  cases n with
  | int i => exact un_neg pins s σ H _ v Q I rx ⟨i, rfl, q⟩
  | bl b =>
    cases (show v = Value.bool b from rx)
    exact neg_bool ⟨.int _, H, I.tok _, ⟨_, rfl⟩, q⟩
end
end TB
set_option Elab.async false
set_option linter.all false
set_option maxRecDepth 100000
/-! The value layer: and, or, not; displays; operators; comparisons; subscripts; slices. -/
namespace VL
open PySem PySem.Spec PyProof.Rows L2 TB
section
variable {K : PySem.W.Frag} {mg : MG} {E : XK} {β : Bt} {H : Hp} {st : AS} {Q : VK}
/-- the answer is d, the heap as it was -/
theorem Post.here {α ρ : Type} {R : Hp → Bt → α → ρ → Prop} {Q : ρ → Hp → Prop} {d : α} {u : ρ} (h : Post K mg R E β H Q (.ok d st)) (S : Sim K mg β st H) (r : R H β d u) : Q u H := h β H u (Ext.refl _ _) S r
theorem new_tup {ds : List D} {us : List V} (h : Post K mg (rD K) E β H Q (.ok (.tup ds) st)) (S : Sim K mg β st H) (r : Reps K H β ds us) : ∀ p, H p = none → Q (.ref p) (upd H p (.tup us)) := fun p hp =>
  h β _ (.ref p) (Ext.same (same_upd hp)) (S.same (same_upd hp)) (.tup (S.fresh hp) upd_same (r.ext (Ext.same (same_upd hp))))
/-- a new list: a value, or a thing that may change -/
def mk (c : Bool) (ds : List D) (st : AS) : Out D := match c with
  | true => .ok (.ref st.length) (st ++ [.lst ds])
  | false => .ok (.lst ds) st
@[simp] theorem mk_f (ds : List D) (st : AS) : mk false ds st = .ok (.lst ds) st := rfl
@[simp] theorem mk_t (ds : List D) (st : AS) : mk true ds st = .ok (.ref st.length) (st ++ [.lst ds]) := rfl
theorem new_lst {c : Bool} {ds : List D} {us : List V} (h : Post K mg (rD K) E β H Q (mk c ds st)) (S : Sim K mg β st H) (r : Reps K H β ds us) : ∀ p, H p = none → Q (.ref p) (upd H p (.lst us)) := fun p hp => by
  cases c with
  | false => exact h β _ (.ref p) (Ext.same (same_upd hp)) (S.same (same_upd hp)) (.lst (S.fresh hp) upd_same (r.ext (Ext.same (same_upd hp))))
  | true =>
    have x : Ext β H (β.push p) (upd H p (.lst us)) := ext_push hp
    have S' := S.push (o := .lst us) (c := .lst ds) hp ⟨us, upd_same, r.ext x⟩
    exact h _ _ (.ref p) x S' (.ref (by rw [← S.len]; simp [Bt.push]))
end
section
variable {X : Cx} {E : XK} {a b c : Expr} {fa fb fc : En → AS → Out D} {ga gb : En → AS → Out Bool} {pos : Pos} {rest : List Expr}
@[simp] def vAnd (f g : En → AS → Out Bool) (env : En) (st : AS) : Out Bool := (f env st).bind fun x st => if x = true then g env st else .ok false st
@[simp] def vOr (f g : En → AS → Out Bool) (env : En) (st : AS) : Out Bool := (f env st).bind fun x st => if x = true then .ok true st else g env st
@[simp] def vNot (f : En → AS → Out Bool) (env : En) (st : AS) : Out Bool := (f env st).bind fun x st => .ok (!x) st
@[simp] def vAndV (f g : En → AS → Out D) (env : En) (st : AS) : Out D := (f env st).bind fun x st => (asB x st).bind fun x st => if x = true then g env st else .ok (.bl false) st
@[simp] def vOrV (f g : En → AS → Out D) (env : En) (st : AS) : Out D := (f env st).bind fun x st => (asB x st).bind fun x st => if x = true then .ok (.bl true) st else g env st
@[simp] def vNotV (f : En → AS → Out D) (env : En) (st : AS) : Out D := (f env st).bind fun x st => (asB x st).bind fun x st => .ok (.bl (!x)) st
@[simp] def vIfE (t : En → AS → Out Bool) (f g : En → AS → Out D) (env : En) (st : AS) : Out D := (t env st).bind fun x st => if x = true then f env st else g env st
theorem vw_and1 (ha : VT X E a ga) : VW X E (.BoolOp .And [a] pos) ga := pw_and1 ha
theorem vw_or1 (ha : VT X E a ga) : VW X E (.BoolOp .Or [a] pos) ga := pw_or1 ha
theorem vw_and (ha : VT X E a ga) (hb : VW X E (.BoolOp .And (b :: rest) pos) gb) : VW X E (.BoolOp .And (a :: b :: rest) pos) (vAnd ga gb) := by
  refine weakW (pw_and ha hb) fun σ H Q ⟨β, env, st, he, hs, h⟩ => ?_
  refine tG_bind he hs h fun x st1 β1 H1 u x1 s1 e1 r1 h1 => ?_
  obtain rfl : x = u := r1
  cases x with
  | true => exact ⟨β1, env, st1, e1, s1, h1⟩
  | false => exact h1.here s1 rfl
theorem vw_or (ha : VT X E a ga) (hb : VW X E (.BoolOp .Or (b :: rest) pos) gb) : VW X E (.BoolOp .Or (a :: b :: rest) pos) (vOr ga gb) := by
  refine weakW (pw_or ha hb) fun σ H Q ⟨β, env, st, he, hs, h⟩ => ?_
  refine tG_bind he hs h fun x st1 β1 H1 u x1 s1 e1 r1 h1 => ?_
  obtain rfl : x = u := r1
  cases x with
  | true => exact h1.here s1 rfl
  | false => exact ⟨β1, env, st1, e1, s1, h1⟩
theorem vt_not (ha : VT X E a ga) : VT X E (.UnaryOp .Not a pos) (vNot ga) := by
  refine weakT (pt_not ha) fun σ H Q ⟨β, env, st, he, hs, h⟩ => ?_
  refine tG_bind he hs h fun x st1 β1 H1 u x1 s1 e1 r1 h1 => ?_
  obtain rfl : x = u := r1
  exact h1.here s1 rfl
theorem vt_val {e : Expr} (h : VE X E e fa) (he : ∀ whole, isTrue e X.env whole = (do let v ← whole; standAt e.pos; holding [v] (truthy v)) := by intro _; rfl) : VT X E e (v1 truD fa) := by
  refine weakT (pt_truth h (he)) fun σ H Q ⟨β, env, st, he, hs, h⟩ => ?_
  exact tG_bind he hs h fun x st1 β1 H1 u x1 s1 e1 r1 h1 => truD_ok s1 r1 h1
theorem ve_one {op} (h : VE X E a fa) : VE X E (.BoolOp op [a] pos) fa := pe_one h
theorem asB_ok {K : PySem.W.Frag} {mg : MG} {β : Bt} {H : Hp} {Q : VK} {d : D} {u : V} {st : AS} {k : Bool → AS → Out D} (r : Rep K H β d u) (h : Post K mg (rD K) E β H Q ((asB d st).bind k)) :
    ∃ c, u = .bl c ∧ Post K mg (rD K) E β H Q (k c st) := by
  cases r with
  | bl b => exact ⟨b, rfl, h⟩
  | _ => exact h.elim
theorem ve_and (ha : VE X E a fa) (hb : VE X E (.BoolOp .And (b :: rest) pos) fb) : VE X E (.BoolOp .And (a :: b :: rest) pos) (vAndV fa fb) := by
  refine weakE (pe_and ha hb) fun σ H Q ⟨β, env, st, he, hs, h⟩ => ?_
  refine tG_bind he hs h fun x st1 β1 H1 u x1 s1 e1 r1 h1 => ?_
  obtain ⟨c, rfl, h2⟩ := asB_ok r1 h1
  cases c with
  | true => exact ⟨true, rfl, β1, env, st1, e1, s1, h2⟩
  | false => exact ⟨false, rfl, h2.here s1 (.bl false)⟩
theorem ve_ifExp (hc : VT X E c ga) (ha : VE X E a fa) (hb : VE X E b fb) : VE X E (.IfExp c a b pos) (vIfE ga fa fb) := by
  refine weakE (pe_ifExp hc ha hb) fun σ H Q ⟨β, env, st, he, hs, h⟩ => ?_
  refine tG_bind he hs h fun x st1 β1 H1 u x1 s1 e1 r1 h1 => ?_
  obtain rfl : x = u := r1
  cases x with
  | true => exact ⟨β1, env, st1, e1, s1, h1⟩
  | false => exact ⟨β1, env, st1, e1, s1, h1⟩
/-! ### displays -/
@[simp] def gTup (ds : List D) (st : AS) : Out D := if ds.length ≤ sizeLine then .ok (.tup ds) st else .bad
@[simp] def gLst (c : Bool) (ds : List D) (st : AS) : Out D := if ds.length ≤ sizeLine then mk c ds st else .bad
theorem Post.ite {α ρ : Type} {K : PySem.W.Frag} {mg : MG} {R : Hp → Bt → α → ρ → Prop} {β : Bt} {H : Hp} {Q : ρ → Hp → Prop} {p : Prop} [Decidable p] {o : Out α} (h : Post K mg R E β H Q (if p then o else .bad)) : p ∧ Post K mg R E β H Q o := by
  by_cases hp : p
  · rw [if_pos hp] at h
    exact ⟨hp, h⟩
  · rw [if_neg hp] at h
    exact h.elim
variable {es : List Expr} {fs : En → AS → Out (List D)}
theorem ve_tup {x1} (h : VA X E es fs) : VE X E (.Tuple es x1 pos) (vA gTup fs) := by
  refine weakE (pe_tup h) fun σ H Q ⟨β, env, st, he, hs, h⟩ => ?_
  refine tG_bind he hs h fun ds st1 β1 H1 us x1 s1 e1 r1 h1 => ?_
  obtain ⟨hl, h2⟩ := h1.ite
  exact ⟨by rw [r1.length]; exact hl, new_tup h2 s1 r1⟩
theorem ve_lst (c : Bool) (h : VA X E es fs) : VE X E (.List es pos) (vA (gLst c) fs) := by
  refine weakE (pe_lst h) fun σ H Q ⟨β, env, st, he, hs, h⟩ => ?_
  refine tG_bind he hs h fun ds st1 β1 H1 us x1 s1 e1 r1 h1 => ?_
  obtain ⟨hl, h2⟩ := h1.ite
  exact ⟨by rw [r1.length]; exact hl, new_lst h2 s1 r1⟩
/-! ### operators -/
@[simp] def listW (st : AS) : D → Option (List D)
  | .lst ds => some ds
  | .ref i => match st[i]? with
    | some (.lst ds) => some ds
    | _ => none
  | _ => none
theorem Sim.listsW {K : PySem.W.Frag} {mg : MG} {β : Bt} {H : Hp} {st : AS} (S : Sim K mg β st H) {d : D} {u : V} {ds : List D} (r : Rep K H β d u) (h : listW st d = some ds) : ∃ a us, u = .ref a ∧ H a = some (.lst us) ∧ Reps K H β ds us := by
  cases r with
  | lst n e q =>
    cases h
    exact ⟨_, _, rfl, e, q⟩
  | ref e =>
    rename_i i a
    unfold listW at h
    dsimp only at h
    split at h
    · rename_i ds' e2
      cases h
      obtain ⟨us, e3, q⟩ := S.cell i a _ e e2
      exact ⟨a, us, rfl, e3, q⟩
    · cases h
  | _ => cases h
@[simp] def addL (c : Bool) (x y : D) (st : AS) : Out D := match listW st x, listW st y with
  | some a, some b => if a.length + b.length ≤ sizeLine then mk c (a ++ b) st else .bad
  | _, _ => .bad
@[simp] def addD (c : Bool) (x y : D) (st : AS) : Out D := match x with
  | .int a => (match y with | .int b => .ok (.int (a + b)) st | _ => .bad)
  | .bl a => (match y with | .int b => .ok (.int ((if a = true then (1 : Int) else 0) + b)) st | _ => .bad)
  | .str a => (match y with | .str b => if a.length + b.length ≤ sizeLine then .ok (.str (a ++ b)) st else .bad | _ => .bad)
  | .tup a => (match y with | .tup b => if a.length + b.length ≤ sizeLine then .ok (.tup (a ++ b)) st else .bad | _ => .bad)
  | _ => addL c x y st
theorem add_lists {K : PySem.W.Frag} {mg : MG} {β : Bt} {H : Hp} {st : AS} {Q : VK} {x y : D} {u v : V} {c : Bool} (S : Sim K mg β st H) (rx : Rep K H β x u) (ry : Rep K H β y v)
    (h : Post K mg (rD K) E β H Q (addL c x y st)) : rCat u v H Q := by
  unfold addL at h
  split at h
  · rename_i a b ea eb
    obtain ⟨l1, us, rfl, e1, r1⟩ := S.listsW rx ea
    obtain ⟨l2, ws, rfl, e2, r2⟩ := S.listsW ry eb
    obtain ⟨hl, h2⟩ := h.ite
    exact ⟨l1, l2, us, ws, rfl, rfl, e1, e2, by rw [r1.length, r2.length]; exact hl, new_lst h2 S (r1.append r2)⟩
  · exact h.elim
theorem ve_add (c : Bool) (ha : VE X E a fa) (hb : VE X E b fb) : VE X E (.BinOp a .Add b pos) (v2 (addD c) fa fb) := by
  refine ve_op (op_addN.or (op_add_str.or (op_catA.or op_cat))) (fun β H st x y u v Q S rx ry h => ?_) ha hb
  unfold addD at h
  cases rx with
  | int i =>
    cases ry with
    | int j => exact .inl ⟨i, j, .int i, rfl, h.here S (.int _)⟩
    | _ => exact h.elim
  | bl a =>
    cases ry with
    | int j => exact .inl ⟨_, j, .bl a, rfl, h.here S (.int _)⟩
    | _ => exact h.elim
  | str i =>
    cases ry with
    | str j =>
      obtain ⟨hl, h2⟩ := h.ite
      exact .inr (.inl ⟨i, j, rfl, rfl, hl, h2.here S (.str _)⟩)
    | _ => exact h.elim
  | tup n1 e1 r1 =>
    cases ry with
    | tup n2 e2 r2 =>
      obtain ⟨hl, h2⟩ := h.ite
      refine .inr (.inr (.inl ⟨_, _, _, _, rfl, rfl, .inl (.inl e1), .inl (.inl e2), by rw [r1.length, r2.length]; exact hl, fun z => ?_, fun _ z => ?_, fun _ _ => new_tup h2 S (r1.append r2)⟩))
      · subst z
        cases r1
        exact h2.here S (.tup n2 e2 r2)
      · subst z
        cases r2
        refine h2.here S ?_
        rw [List.append_nil]
        exact .tup n1 e1 r1
    | _ => exact h.elim
  | ctp e r => exact .inr (.inr (.inr (add_lists S (.ctp e r) ry h)))
  | non => exact .inr (.inr (.inr (add_lists S .non ry h)))
  | cv b => exact .inr (.inr (.inr (add_lists S (.cv b) ry h)))
  | lst n e r => exact .inr (.inr (.inr (add_lists S (.lst n e r) ry h)))
  | fzl e r => exact .inr (.inr (.inr (add_lists S (.fzl e r) ry h)))
  | ref e => exact .inr (.inr (.inr (add_lists S (.ref e) ry h)))
@[simp] def iiD (f : Int → Int → D) (x y : D) (st : AS) : Out D := match x, y with
  | .int a, .int b => .ok (f a b) st
  | _, _ => .bad
@[simp] def subD (x y : D) (st : AS) : Out D := match x with
  | .bl a => (match y with | .int b => .ok (.int ((if a = true then (1 : Int) else 0) - b)) st | _ => .bad)
  | .int a => (match y with | .int b => .ok (.int (a - b)) st | _ => .bad)
  | _ => .bad
theorem ve_sub (ha : VE X E a fa) (hb : VE X E b fb) : VE X E (.BinOp a .Sub b pos) (v2 subD fa fb) :=
  ve_op op_subN (fun β H st x y u v Q S rx ry h => by
    unfold subD at h
    cases rx with
    | int i =>
      cases ry with
      | int j => exact ⟨i, j, .int i, rfl, h.here S (.int _)⟩
      | _ => exact h.elim
    | bl a =>
      cases ry with
      | int j => exact ⟨_, j, .bl a, rfl, h.here S (.int _)⟩
      | _ => exact h.elim
    | _ => exact h.elim) ha hb
def MulOk (i j : Int) : Prop := CMul i j ∨ CMulW i j
instance : ∀ a b, Decidable (CMul a b) := fun a b => inferInstanceAs (Decidable (_ ∨ _))
instance : ∀ a b, Decidable (CMulW a b) := fun a b => inferInstanceAs (Decidable (_ < _))
instance : ∀ a b, Decidable (MulOk a b) := fun a b => inferInstanceAs (Decidable (_ ∨ _))
@[simp] def mulL (c : Bool) (x y : D) (st : AS) : Out D := match listW st x with
  | some a => (match y with | .int k => if -(2 ^ 63) ≤ k ∧ k < 2 ^ 63 ∧ a.length * k.toNat ≤ sizeLine then mk c (List.replicate k.toNat a).flatten st else .bad | _ => .bad)
  | _ => .bad
instance : ∀ (a : Str) (n : Int), Decidable (PySem.MulOk a n) := fun a n => inferInstanceAs (Decidable (_ ∧ _))
/-- a text times a number -/
theorem op_mulS : OpR X (binaryOp .Mult) (fun x y H Q => ∃ z n, x = .str z ∧ y = .int n ∧ PySem.MulOk z n ∧ Q (.str (Txt.mul z n)) H) := by
  intro pins s σ H x y v u Q I rx ry h
  obtain ⟨z, n, rfl, rfl, hz, q⟩ := h
  obtain ⟨t, rfl⟩ := rx
  obtain ⟨t', rfl⟩ := ry
  exact PySem.SB.mul hz fun t' k => ⟨.str (Txt.mul z n), H, I.tok _, ⟨_, rfl⟩, q⟩
@[simp] def mulD (c : Bool) (x y : D) (st : AS) : Out D := match x with
  | .int a => (match y with | .int b => if MulOk a b then .ok (.int (a * b)) st else .bad | _ => .bad)
  | .tup a => (match y with | .int k => if a ≠ [] ∧ 2 ≤ k ∧ k ≤ 1000 ∧ a.length ≤ 1000 then .ok (.tup (List.replicate k.toNat a).flatten) st else .bad | _ => .bad)
  | .str a => (match y with | .int k => if PySem.MulOk a k then .ok (.str (Txt.mul a k)) st else .bad | _ => .bad)
  | _ => mulL c x y st
theorem Reps.rep {K : PySem.W.Frag} {β : Bt} {H : Hp} {ds : List D} {us : List V} (r : Reps K H β ds us) : ∀ k : Nat, Reps K H β (List.replicate k ds).flatten (List.replicate k us).flatten
  | 0 => .nil
  | k + 1 => by
    rw [List.replicate_succ, List.replicate_succ, List.flatten_cons, List.flatten_cons]
    exact r.append (Reps.rep r k)
theorem ne_nil {K : PySem.W.Frag} {β : Bt} {H : Hp} {ds : List D} {us : List V} (r : Reps K H β ds us) (h : ds ≠ []) : us ≠ [] := by
  cases r with
  | nil => exact absurd rfl h
  | cons _ _ => exact fun z => nomatch z
theorem ve_mul (c : Bool) (ha : VE X E a fa) (hb : VE X E b fb) : VE X E (.BinOp a .Mult b pos) (v2 (mulD c) fa fb) := by
  refine ve_op (op_mul.or (op_mulW.or (op_repT.or (op_rep.or op_mulS)))) (fun β H st x y u v Q S rx ry h => ?_) ha hb
  have lists : ∀ {x : D} {u : V}, Rep X.K H β x u → Post X.K X.mgw (rD X.K) E β H Q (mulL c x y st) → rRep u v H Q := by
    intro x u rx h
    unfold mulL at h
    split at h
    · rename_i a ea
      obtain ⟨l1, us, rfl, e1, r1⟩ := S.listsW rx ea
      cases ry with
      | int k =>
        obtain ⟨⟨h1, h2, h3⟩, h⟩ := h.ite
        exact ⟨l1, k, us, rfl, rfl, e1, h1, h2, by rw [r1.length]; exact h3, new_lst h S (r1.rep _)⟩
      | _ => exact h.elim
    · exact h.elim
  unfold mulD at h
  cases rx with
  | int i =>
    cases ry with
    | int j =>
      obtain ⟨hl, h2⟩ := h.ite
      rcases hl with hl | hl
      · exact .inl ⟨i, j, rfl, rfl, hl, h2.here S (.int _)⟩
      · exact .inr (.inl ⟨i, j, rfl, rfl, hl, h2.here S (.int _)⟩)
    | _ => exact h.elim
  | ctp e r => exact .inr (.inr (.inr (.inl (lists (.ctp e r) h))))
  | tup n1 e1 r1 =>
    cases ry with
    | int k =>
      obtain ⟨⟨h0, h1, h2, h3⟩, h⟩ := h.ite
      exact .inr (.inr (.inl ⟨_, k, _, rfl, rfl, .inl (.inl e1), ne_nil r1 h0, h1, h2, by rw [r1.length]; exact h3, new_tup h S (r1.rep _)⟩))
    | _ => exact h.elim
  | non => exact .inr (.inr (.inr (.inl (lists .non h))))
  | str z =>
    cases ry with
    | int k =>
      obtain ⟨hl, h⟩ := h.ite
      exact .inr (.inr (.inr (.inr ⟨z, k, rfl, rfl, hl, h.here S (.str _)⟩)))
    | _ => exact h.elim
  | bl b => exact .inr (.inr (.inr (.inl (lists (.bl b) h))))
  | cv b => exact .inr (.inr (.inr (.inl (lists (.cv b) h))))
  | lst n e r => exact .inr (.inr (.inr (.inl (lists (.lst n e r) h))))
  | fzl e r => exact .inr (.inr (.inr (.inl (lists (.fzl e r) h))))
  | ref e => exact .inr (.inr (.inr (.inl (lists (.ref e) h))))
@[simp] def iicD (p : Int → Int → Prop) [∀ a b, Decidable (p a b)] (f : Int → Int → D) (x y : D) (st : AS) : Out D := match x, y with
  | .int a, .int b => if p a b then .ok (f a b) st else .bad
  | _, _ => .bad
theorem iic_ok {p : Int → Int → Prop} [∀ a b, Decidable (p a b)] {K : PySem.W.Frag} {mg : MG} {β : Bt} {H : Hp} {st : AS} {Q : VK} {x y : D} {u v : V} {f : Int → Int → D} (rx : Rep K H β x u) (ry : Rep K H β y v) (h : Post K mg (rD K) E β H Q (iicD p f x y st)) :
    ∃ i j, u = .int i ∧ v = .int j ∧ p i j ∧ Post K mg (rD K) E β H Q (.ok (f i j) st) := by
  cases rx with
  | int i =>
    cases ry with
    | int j => exact ⟨i, j, rfl, rfl, h.ite⟩
    | _ => exact h.elim
  | _ => exact h.elim
instance : ∀ a b, Decidable (CDivW a b) := fun a b => inferInstanceAs (Decidable (_ ∧ _))
instance : ∀ a b, Decidable (CPow a b) := fun a b => inferInstanceAs (Decidable (_ ∧ _))
@[simp] def fdivD (x y : D) (st : AS) : Out D := iicD CDivW (fun a b => .int (a / b)) x y st
@[simp] def modD (x y : D) (st : AS) : Out D := iicD (fun _ b => 0 < b) (fun a b => .int (a % b)) x y st
@[simp] def powD (x y : D) (st : AS) : Out D := iicD CPow (fun a b => .int (a ^ b.toNat)) x y st
theorem ve_fdiv (ha : VE X E a fa) (hb : VE X E b fb) : VE X E (.BinOp a .FloorDiv b pos) (v2 fdivD fa fb) :=
  ve_op op_fdivW (fun β H st x y u v Q S rx ry h => by
    obtain ⟨i, j, rfl, rfl, hp, h⟩ := iic_ok rx ry h
    exact ⟨i, j, rfl, rfl, hp, h.here S (.int _)⟩) ha hb
theorem ve_mod (ha : VE X E a fa) (hb : VE X E b fb) : VE X E (.BinOp a .Mod b pos) (v2 modD fa fb) :=
  ve_op op_mod (fun β H st x y u v Q S rx ry h => by
    obtain ⟨i, j, rfl, rfl, hp, h⟩ := iic_ok rx ry h
    exact ⟨i, j, rfl, rfl, hp, h.here S (.int _)⟩) ha hb
theorem ve_pow (ha : VE X E a fa) (hb : VE X E b fb) : VE X E (.BinOp a .Pow b pos) (v2 powD fa fb) :=
  ve_op op_pow (fun β H st x y u v Q S rx ry h => by
    obtain ⟨i, j, rfl, rfl, hp, h⟩ := iic_ok rx ry h
    exact ⟨i, j, rfl, rfl, hp, h.here S (.int _)⟩) ha hb
@[simp] def negD (x : D) (st : AS) : Out D := match x with
  | .int a => .ok (.int (-a)) st
  | .bl a => .ok (.int (-(if a = true then (1 : Int) else 0))) st
  | _ => .bad
theorem ve_neg (ha : VE X E a fa) : VE X E (.UnaryOp .USub a pos) (v1 negD fa) :=
  ve_un un_negN (fun β H st x u Q S r h => by
    cases r with
    | int i => exact ⟨i, .int i, h.here S (.int _)⟩
    | bl b => exact ⟨_, .bl b, h.here S (.int _)⟩
    | _ => exact h.elim) ha
end
end VL
set_option Elab.async false
set_option linter.all false
set_option maxRecDepth 100000
/-! The value layer: comparisons, subscripts, slices. -/
namespace VL
open PySem PySem.Spec PyProof.Rows L2 TB
mutual
def D.pure : D → Bool
  | .tup ds => D.pures ds
  | .ctp ds => D.pures ds
  | .lst ds => D.pures ds
  | .fzl _ => false
  | .ref _ => false
  | .cv _ => false
  | _ => true
def D.pures : List D → Bool
  | [] => true
  | d :: ds => d.pure && D.pures ds
end
mutual
def D.py : D → PyData
  | .non => .none
  | .bl b => .bool b
  | .int i => .int i
  | .str x => .str x
  | .tup ds => .tuple (D.pys ds)
  | .ctp ds => .tuple (D.pys ds)
  | .lst ds => .list (D.pys ds)
  | .fzl _ => .none
  | .ref _ => .none
  | .cv _ => .none
def D.pys : List D → List PyData
  | [] => []
  | d :: ds => d.py :: D.pys ds
end
theorem D.pures_eq : ∀ ds : List D, D.pures ds = ds.all D.pure
  | [] => rfl
  | d :: ds => by rw [D.pures, D.pures_eq ds, List.all_cons]
theorem D.pys_eq : ∀ ds : List D, D.pys ds = ds.map D.py
  | [] => rfl
  | d :: ds => by rw [D.pys, D.pys_eq ds, List.map_cons]
mutual
theorem Rep.dp {K : PySem.W.Frag} {H : Hp} {β : Bt} : ∀ {d : D} {u : V}, Rep K H β d u → d.pure = true → Dp K H u d.py
  | _, _, .non, _ => by rw [D.py]; exact .non
  | _, _, .bl b, _ => by rw [D.py]; exact .bl b
  | _, _, .int i, _ => by rw [D.py]; exact .int i
  | _, _, .str x, _ => by rw [D.py]; exact .str x
  | _, _, .cv v, h => by rw [D.pure] at h; cases h
  | _, _, .ref e, h => by rw [D.pure] at h; cases h
  | _, _, .tup n e r, h => by
    rw [D.pure] at h
    rw [D.py]
    exact .tup (.inl (.inl e)) (Reps.dps r h)
  | _, _, .ctp e r, h => by
    rw [D.pure] at h
    rw [D.py]
    exact .tup e.sq (Reps.dps r h)
  | _, _, .lst n e r, h => by
    rw [D.pure] at h
    rw [D.py]
    exact .lst (.inl (.inl e)) (Reps.dps r h)
  | _, _, .fzl e r, h => by rw [D.pure] at h; cases h
theorem Reps.dps {K : PySem.W.Frag} {H : Hp} {β : Bt} : ∀ {ds : List D} {us : List V}, Reps K H β ds us → D.pures ds = true → DpAll K H us (D.pys ds)
  | _, _, .nil, _ => by rw [D.pys]; exact .nil
  | _, _, .cons r t, h => by
    rw [D.pures, Bool.and_eq_true] at h
    rw [D.pys]
    exact .cons (Rep.dp r h.1) (Reps.dps t h.2)
end
/-- plain data that == and repr may look at -/
def D.fit (d : D) : Bool := d.pure && SeqAt.shaped d.py
/-- a list that may change, by what it holds -/
@[simp] def valD (st : AS) (d : D) : D := match d with
  | .ref i => (match st[i]? with
    | some (.lst ds) => .lst ds
    | _ => .ref i)
  | _ => d
section
variable {K : PySem.W.Frag} {mg : MG} {E : XK} {β : Bt} {H : Hp} {st : AS} {Q : VK}
theorem Sim.dp (S : Sim K mg β st H) {d : D} {u : V} (r : Rep K H β d u) (h : (valD st d).pure = true) : Dp K H u (valD st d).py := by
  cases r with
  | ref e =>
    rename_i i a
    unfold valD at h ⊢
    dsimp only at h ⊢
    split at h
    · rename_i ds e2
      obtain ⟨us, e3, q⟩ := S.cell i a _ e e2
      rw [D.pure] at h
      rw [D.py]
      exact .lst (.inl (.inl e3)) (q.dps h)
    · rw [D.pure] at h
      cases h
  | non => exact Rep.dp (β := β) .non h
  | bl b => exact Rep.dp (β := β) (.bl b) h
  | int i => exact Rep.dp (β := β) (.int i) h
  | str x => exact Rep.dp (β := β) (.str x) h
  | cv q => exact Rep.dp (β := β) (.cv q) h
  | tup n e r => exact Rep.dp (.tup n e r) h
  | ctp e r => exact Rep.dp (.ctp e r) h
  | lst n e r => exact Rep.dp (.lst n e r) h
  | fzl e r => exact Rep.dp (.fzl e r) h
end
def scalD : D → Bool
  | .non => true
  | .bl _ => true
  | .int _ => true
  | .str _ => true
  | _ => false
def eqvD (x y : D) : Bool := PyData.eqv x.py y.py
def eqD (neg : Bool) (x y : D) (st : AS) : Out D :=
  if (scalD x && scalD y) = true then .ok (.bl (xor neg (eqvD x y))) st
  else if ((valD st x).fit && (valD st y).fit) = true then .ok (.bl (xor neg (eqvD (valD st x) (valD st y)))) st else .bad
section
variable {X : Cx} {E : XK} {a b c : Expr} {fa fb fc : En → AS → Out D} {pos : Pos}
theorem fit_dp {K : PySem.W.Frag} {mg : MG} {β : Bt} {H : Hp} {st : AS} (S : Sim K mg β st H) {d : D} {u : V} (r : Rep K H β d u) (h : (valD st d).fit = true) : Dp K H u (valD st d).py ∧ SeqAt.shaped (valD st d).py = true := by
  unfold D.fit at h
  rw [Bool.and_eq_true] at h
  exact ⟨S.dp r h.1, h.2⟩
theorem eq_ok {K : PySem.W.Frag} {mg : MG} {β : Bt} {H : Hp} {st : AS} {Q : VK} {x y : D} {u v : V} (S : Sim K mg β st H) (rx : Rep K H β x u) (ry : Rep K H β y v) (h : Post K mg (rD K) E β H Q (eqD false x y st)) : rEq u v H Q ∨ rEqD K u v H Q := by
  unfold eqD at h
  split at h
  · rename_i e
    have q := h.here S (.bl _)
    rw [Bool.and_eq_true] at e
    cases rx <;> first | (cases e.1; done) | (cases ry <;> first | (cases e.2; done) | (refine Or.inl ⟨rfl, ?_⟩; simpa [eqvD, D.py, PyData.eqv, Bool.beq_eq_decide_eq] using q) | (refine Or.inr ⟨.bool _, .int _, .bl _, .int _, rfl, rfl, ?_⟩; simpa [eqvD, D.py] using q) | (refine Or.inr ⟨.int _, .bool _, .int _, .bl _, rfl, rfl, ?_⟩; simpa [eqvD, D.py] using q))
  · obtain ⟨e, h⟩ := h.ite
    rw [Bool.and_eq_true] at e
    obtain ⟨d1, s1⟩ := fit_dp S rx e.1
    obtain ⟨d2, s2⟩ := fit_dp S ry e.2
    refine .inr ⟨_, _, d1, d2, s1, s2, ?_⟩
    have q := h.here S (.bl _)
    simpa [eqvD] using q
theorem ne_ok {K : PySem.W.Frag} {mg : MG} {β : Bt} {H : Hp} {st : AS} {Q : VK} {x y : D} {u v : V} (S : Sim K mg β st H) (rx : Rep K H β x u) (ry : Rep K H β y v) (h : Post K mg (rD K) E β H Q (eqD true x y st)) : rNe u v H Q ∨ rNeD K u v H Q := by
  unfold eqD at h
  split at h
  · rename_i e
    have q := h.here S (.bl _)
    rw [Bool.and_eq_true] at e
    cases rx <;> first | (cases e.1; done) | (cases ry <;> first | (cases e.2; done) | (refine Or.inl ⟨rfl, ?_⟩; simpa [eqvD, D.py, PyData.eqv, Bool.beq_eq_decide_eq] using q) | (refine Or.inr ⟨.bool _, .int _, .bl _, .int _, rfl, rfl, ?_⟩; simpa [eqvD, D.py] using q) | (refine Or.inr ⟨.int _, .bool _, .int _, .bl _, rfl, rfl, ?_⟩; simpa [eqvD, D.py] using q))
  · obtain ⟨e, h⟩ := h.ite
    rw [Bool.and_eq_true] at e
    obtain ⟨d1, s1⟩ := fit_dp S rx e.1
    obtain ⟨d2, s2⟩ := fit_dp S ry e.2
    refine .inr ⟨_, _, d1, d2, s1, s2, ?_⟩
    have q := h.here S (.bl _)
    simpa [eqvD] using q
variable (hu : X.A.units + 65 < cLine)
include hu
end
/-! ### order: ints, texts, tuples of ints -/
def intsOf : List D → Option (List Int)
  | [] => some []
  | .int i :: ds => (intsOf ds).map (i :: ·)
  | _ :: _ => none
theorem intsOf_eq : ∀ {ds : List D} {ns : List Int}, intsOf ds = some ns → ds = ns.map D.int
  | [], ns, h => by
    rw [intsOf] at h
    cases h
    rfl
  | .int i :: ds, ns, h => by
    rw [intsOf] at h
    cases e : intsOf ds with
    | none => rw [e] at h; cases h
    | some ms =>
      rw [e] at h
      cases h
      rw [intsOf_eq e]
      rfl
  | .non :: _, _, h => by simp [intsOf] at h
  | .bl _ :: _, _, h => by simp [intsOf] at h
  | .str _ :: _, _, h => by simp [intsOf] at h
  | .tup _ :: _, _, h => by simp [intsOf] at h
  | .ctp _ :: _, _, h => by simp [intsOf] at h
  | .lst _ :: _, _, h => by simp [intsOf] at h
  | .fzl _ :: _, _, h => by simp [intsOf] at h
  | .ref _ :: _, _, h => by simp [intsOf] at h
  | .cv _ :: _, _, h => by simp [intsOf] at h
theorem Reps.ints {K : PySem.W.Frag} {H : Hp} {β : Bt} : ∀ {ns : List Int} {us : List V}, Reps K H β (ns.map D.int) us → us = ns.map V.int
  | [], _, .nil => rfl
  | n :: ns, _, .cons r t => by
    cases r
    rw [Reps.ints t]
    rfl
theorem reps_ints {K : PySem.W.Frag} {H : Hp} {β : Bt} : ∀ ns : List Int, Reps K H β (ns.map D.int) (ns.map V.int)
  | [] => .nil
  | n :: ns => .cons (.int n) (reps_ints ns)
def ltStr (a b : Str) : Bool := decide (a.cps.toList < b.cps.toList)
def leT (ns ms : List Int) : Bool := Ob.lexAt (fun j => decide (ns.getD j 0 = ms.getD j 0)) (fun j => decide (ns.getD j 0 ≤ ms.getD j 0)) (decide (ns.length ≤ ms.length)) 0 (min ns.length ms.length)
@[simp] def ordD (fi : Int → Int → Bool) (fs : Str → Str → Bool) (ft : List Int → List Int → Option Bool) (x y : D) (st : AS) : Out D := match x, y with
  | .int a, .int b => .ok (.bl (fi a b)) st
  | .str a, .str b => .ok (.bl (fs a b)) st
  | .tup a, .tup b => (match intsOf a, intsOf b with
    | some n, some m => (match ft n m with | some k => .ok (.bl k) st | none => .bad)
    | _, _ => .bad)
  | _, _ => .bad
@[simp] def ltD (x y : D) (st : AS) : Out D := ordD (fun a b => decide (a < b)) ltStr (fun n m => some (HT.lexLt n m)) x y st
@[simp] def leD (x y : D) (st : AS) : Out D := ordD (fun a b => decide (a ≤ b)) (fun a b => !ltStr b a) (fun n m => some (leT n m)) x y st
@[simp] def gtD (x y : D) (st : AS) : Out D := ordD (fun a b => decide (b < a)) (fun a b => ltStr b a) (fun _ _ => none) x y st
@[simp] def geD (x y : D) (st : AS) : Out D := ordD (fun a b => decide (b ≤ a)) (fun a b => !ltStr a b) (fun _ _ => none) x y st
theorem ord_ok {K : PySem.W.Frag} {mg : MG} {E : XK} {β : Bt} {H : Hp} {st : AS} {Q : VK} {x y : D} {u v : V} {fi : Int → Int → Bool} {fs : Str → Str → Bool} {ft : List Int → List Int → Option Bool} (S : Sim K mg β st H) (rx : Rep K H β x u) (ry : Rep K H β y v) (h : Post K mg (rD K) E β H Q (ordD fi fs ft x y st)) :
    (∃ i j, u = .int i ∧ v = .int j ∧ Q (.bl (fi i j)) H) ∨ (∃ i j, u = .str i ∧ v = .str j ∧ Q (.bl (fs i j)) H) ∨ ∃ a b ns ms k, u = .ref a ∧ v = .ref b ∧ SqT K H a (ns.map V.int) ∧ SqT K H b (ms.map V.int) ∧ ft ns ms = some k ∧ Q (.bl k) H := by
  cases rx with
  | int i =>
    cases ry with
    | int j => exact .inl ⟨i, j, rfl, rfl, h.here S (.bl _)⟩
    | _ => exact h.elim
  | str i =>
    cases ry with
    | str j => exact .inr (.inl ⟨i, j, rfl, rfl, h.here S (.bl _)⟩)
    | _ => exact h.elim
  | tup n1 e1 r1 =>
    cases ry with
    | tup n2 e2 r2 =>
      unfold ordD at h
      dsimp only at h
      split at h
      · rename_i n m en em
        split at h
        · rename_i k ek
          have z1 := intsOf_eq en
          have z2 := intsOf_eq em
          subst z1
          subst z2
          have w1 := r1.ints
          have w2 := r2.ints
          subst w1
          subst w2
          exact .inr (.inr ⟨_, _, n, m, k, rfl, rfl, .inl (.inl e1), .inl (.inl e2), ek, h.here S (.bl _)⟩)
        · exact h.elim
      · exact h.elim
    | _ => exact h.elim
  | _ => exact h.elim
section
variable {X : Cx} {E : XK} {a b c : Expr} {fa fb fc : En → AS → Out D} {pos : Pos}
def OkC (X : Cx) (E : XK) (op : CmpOp) (g : D → D → AS → Out D) : Prop := ∃ r, OpR X (compareOp op) r ∧ Ok2 X.K X.mgw E r g
theorem OkC.ve {op : CmpOp} {g : D → D → AS → Out D} (h : OkC X E op g) (ha : VE X E a fa) (hb : VE X E b fb) (hm : behindInMarks op b = false) : VE X E (.Compare a [op] [b] pos) (v2 g fa fb) := by
  obtain ⟨r, h1, h2⟩ := h
  exact ve_cmp h1 h2 ha hb hm
theorem OkC.vt {op : CmpOp} {g : D → D → AS → Out D} (h : OkC X E op g) (ha : VE X E a fa) (hb : VE X E b fb) (hm : behindInMarks op b = false) : VT X E (.Compare a [op] [b] pos) (vB (v2 g fa fb)) := by
  obtain ⟨r, h1, h2⟩ := h
  exact vt_cmp h1 h2 ha hb hm
theorem oc_lt (hu : X.A.units + 65 < cLine) : OkC X E .Lt ltD := ⟨_, op_lt.or (op_lt_str.or (op_ltT (Nat.lt_of_le_of_lt (by omega) hu))), fun β H st x y u v Q S rx ry h => by
  rcases ord_ok S rx ry h with ⟨i, j, rfl, rfl, q⟩ | ⟨i, j, rfl, rfl, q⟩ | ⟨p, q', ns, ms, k, rfl, rfl, h1, h2, e, q⟩
  · exact .inl ⟨i, j, rfl, rfl, q⟩
  · exact .inr (.inl ⟨i, j, rfl, rfl, q⟩)
  · cases e
    exact .inr (.inr ⟨p, q', ns, ms, rfl, rfl, h1, h2, q⟩)⟩
theorem oc_gt : OkC X E .Gt gtD := ⟨_, op_gt.or op_gt_str, fun β H st x y u v Q S rx ry h => by
  rcases ord_ok S rx ry h with ⟨i, j, rfl, rfl, q⟩ | ⟨i, j, rfl, rfl, q⟩ | ⟨p, q', ns, ms, k, rfl, rfl, h1, h2, e, q⟩
  · exact .inl ⟨i, j, rfl, rfl, q⟩
  · exact .inr ⟨i, j, rfl, rfl, q⟩
  · cases e⟩
theorem oc_ge : OkC X E .GtE geD := ⟨_, op_ge.or op_ge_str, fun β H st x y u v Q S rx ry h => by
  rcases ord_ok S rx ry h with ⟨i, j, rfl, rfl, q⟩ | ⟨i, j, rfl, rfl, q⟩ | ⟨p, q', ns, ms, k, rfl, rfl, h1, h2, e, q⟩
  · exact .inl ⟨i, j, rfl, rfl, q⟩
  · exact .inr ⟨i, j, rfl, rfl, q⟩
  · cases e⟩
theorem oc_eq (hu : X.A.units + 65 < cLine) : OkC X E .Eq (eqD false) := ⟨_, op_eq.or (op_eqD (Nat.lt_of_le_of_lt (by omega) hu)), fun _ _ _ _ _ _ _ _ S rx ry h => eq_ok S rx ry h⟩
theorem oc_ne (hu : X.A.units + 65 < cLine) : OkC X E .NotEq (eqD true) := ⟨_, op_ne.or (op_neD (Nat.lt_of_le_of_lt (by omega) hu)), fun _ _ _ _ _ _ _ _ S rx ry h => ne_ok S rx ry h⟩
/-- is None, is True, is not .. -/
@[simp] def isND (neg : Bool) (x y : D) (st : AS) : Out D := match y with
  | .non => (match x with
    | .cv _ => .bad
    | .non => .ok (.bl (!neg)) st
    | _ => .ok (.bl neg) st)
  | .bl b => (match x with
    | .cv _ => .bad
    | .bl a => .ok (.bl (xor neg (decide (a = b)))) st
    | _ => .ok (.bl neg) st)
  | _ => .bad
def notTy : V → Bool
  | .non => true
  | .bl _ => true
  | .int _ => true
  | .str _ => true
  | .ref _ => true
  | _ => false
def rIsT (neg : Bool) : R2 := fun x y H Q => ∃ b : Bool, y = .bl b ∧ notTy x = true ∧ Q (.bl (xor neg (decide (x = .bl b)))) H
theorem op_isT : OpR X (compareOp .Is) (rIsT false) := by
  intro pins s σ H x y v u Q I rx ry h
  obtain ⟨b, rfl, hx, q⟩ := h
  cases (show u = Value.bool b from ry)
  cases x with
  | bl a => exact op_isBl pins s σ H _ _ v _ Q I rx (show RelV (.bl b) (.bool b) from rfl) ⟨a, b, rfl, rfl, by simpa using q⟩
  | non =>
    cases (show v = Value.none from rx)
    exact wpAny_is_other rfl (fun z => nomatch z) ⟨.bl false, H, I, rfl, by simpa using q⟩
  | int i =>
    obtain ⟨t, rfl⟩ := rx
    exact wpAny_is_other rfl (fun z => nomatch z) ⟨.bl false, H, I, rfl, by simpa using q⟩
  | str i =>
    obtain ⟨t, rfl⟩ := rx
    exact wpAny_is_other rfl (fun z => nomatch z) ⟨.bl false, H, I, rfl, by simpa using q⟩
  | ref a =>
    cases (show v = Value.ref a from rx)
    exact wpAny_is_other rfl (fun z => nomatch z) ⟨.bl false, H, I, rfl, by simpa using q⟩
  | _ => cases hx
theorem isN_val {K : PySem.W.Frag} {mg : MG} {β : Bt} {H : Hp} {st : AS} {Q : VK} {x y : D} {u v : V} {neg : Bool} (S : Sim K mg β st H) (rx : Rep K H β x u) (ry : Rep K H β y v) (h : Post K mg (rD K) E β H Q (isND neg x y st)) :
    (v = .non ∧ Q (.bl (xor neg (decide (u = .non)))) H) ∨ rIsT neg u v H Q := by
  unfold isND at h
  cases ry with
  | non =>
    refine .inl ⟨rfl, ?_⟩
    cases rx with
    | cv => exact h.elim
    | non => have q := h.here S (.bl _); cases neg <;> simpa using q
    | _ => have q := h.here S (.bl _); cases neg <;> simpa using q
  | bl b =>
    refine .inr ⟨b, rfl, ?_, ?_⟩
    · cases rx <;> first | rfl | exact h.elim
    · cases rx with
      | cv => exact h.elim
      | bl a => have q := h.here S (.bl _); simpa using q
      | _ => have q := h.here S (.bl _); cases neg <;> simpa using q
  | _ => exact h.elim
theorem oc_is : OkC X E .Is (isND false) := ⟨_, op_isN.or op_isT, fun β H st x y u v Q S rx ry h => by
  rcases isN_val S rx ry h with ⟨rfl, q⟩ | q
  · exact .inl ⟨rfl, by simpa using q⟩
  · exact .inr q⟩
/-- a op b op' c -/
@[simp] def vChain (g g' : D → D → AS → Out D) (fa fb fc : En → AS → Out D) (env : En) (st : AS) : Out D := (fa env st).bind fun x st => (fb env st).bind fun y st => (g x y st).bind fun z st => (asB z st).bind fun k st =>
  if k = true then (fc env st).bind fun w st => g' y w st else .ok (.bl false) st
end
end VL
set_option Elab.async false
set_option linter.all false
set_option maxRecDepth 100000
set_option maxHeartbeats 2000000
namespace TB
open PySem PySem.Spec PyProof.Rows L2
end TB
set_option Elab.async false
set_option linter.all false
set_option maxRecDepth 100000
set_option maxHeartbeats 2000000
namespace TB
open PySem PySem.Spec PyProof.Rows L2 PySem.AutoSeq1
/-! ### a list made longer by a tuple's things -/
end TB
set_option Elab.async false
set_option linter.all false
set_option maxRecDepth 100000
/-! The value layer: in; subscripts, slices; built-in functions; methods of lists. -/
namespace VL
open PySem PySem.Spec PyProof.Rows L2 TB
/-- what a list or a tuple holds -/
@[simp] def seqOf (st : AS) (d : D) : Option (List D) := match d with
  | .tup ds => some ds
  | .ctp ds => some ds
  | _ => listOf st d
section
variable {K : PySem.W.Frag} {mg : MG} {E : XK} {β : Bt} {H : Hp} {st : AS} {Q : VK}
theorem Sim.seqs (S : Sim K mg β st H) {d : D} {u : V} {ds : List D} (r : Rep K H β d u) (h : seqOf st d = some ds) : ∃ a us, u = .ref a ∧ (SqL K H a us ∨ SqT K H a us) ∧ Reps K H β ds us := by
  cases r with
  | tup n e q =>
    cases h
    exact ⟨_, _, rfl, .inr (.inl (.inl e)), q⟩
  | ctp e q =>
    cases h
    exact ⟨_, _, rfl, .inr e.sq, q⟩
  | non => cases h
  | bl b => cases h
  | int b => cases h
  | str b => cases h
  | cv => cases h
  | lst n e q =>
    obtain ⟨a, us, e1, e2, e3⟩ := S.lists (.lst n e q) h
    exact ⟨a, us, e1, .inl e2, e3⟩
  | fzl e q =>
    obtain ⟨a, us, e1, e2, e3⟩ := S.lists (.fzl e q) h
    exact ⟨a, us, e1, .inl e2, e3⟩
  | ref e =>
    obtain ⟨a, us, e1, e2, e3⟩ := S.lists (.ref e) h
    exact ⟨a, us, e1, .inl e2, e3⟩
theorem Rep.flat {d : D} {u : V} (r : Rep K H β d u) (h : scalD d = true) : flatV u = true := by
  cases r <;> first | rfl | cases h
theorem Rep.eqV {x y : D} {u v : V} (rx : Rep K H β x u) (ry : Rep K H β y v) (hx : scalD x = true) (hy : scalD y = true) : eqV u v = eqvD x y := by
  cases rx <;> first | (cases hx; done) | (cases ry <;> first | (cases hy; done) | simp [L2.eqV, eqvD, D.py, PyData.eqv])
theorem Reps.flat : ∀ {ds : List D} {us : List V}, Reps K H β ds us → ds.all scalD = true → us.all flatV = true
  | _, _, .nil, _ => rfl
  | _, _, .cons r t, h => by
    rw [List.all_cons, Bool.and_eq_true] at h
    rw [List.all_cons, r.flat h.1, t.flat h.2]
    rfl
theorem Reps.inV {x : D} {u : V} (rx : Rep K H β x u) (hx : scalD x = true) : ∀ {ds : List D} {us : List V}, Reps K H β ds us → ds.all scalD = true → L2.inV u us = ds.any fun d => eqvD d x
  | _, _, .nil, _ => rfl
  | _, _, .cons r t, h => by
    rw [List.all_cons, Bool.and_eq_true] at h
    have := Reps.inV rx hx t h.2
    unfold L2.inV at this ⊢
    rw [List.any_cons, List.any_cons, this, r.eqV rx h.1 hx]
end
def inD (neg : Bool) (x y : D) (st : AS) : Out D := match seqOf st y with
  | some ds => if (scalD x && ds.all scalD) = true then .ok (.bl (xor neg (ds.any fun d => eqvD d x))) st
    else if ((valD st x).fit && (D.lst ds).fit && (listOf st y).isSome && (valD st y).pure) = true then .ok (.bl (xor neg (ds.any fun d => eqvD d (valD st x)))) st else .bad
  | none => match y with
    | .ref i => (match st[i]? with
      | some (.dct kvs) => (match x with
        | .int k => .ok (.bl (xor neg (kvs.any fun kv => decide (kv.1 = Sum.inl k)))) st
        | .str k => .ok (.bl (xor neg (kvs.any fun kv => decide (kv.1 = Sum.inr k)))) st
        | _ => .bad)
      | some (.lck kvs) => (match x with
        | .int k => .ok (.bl (xor neg (kvs.any fun kv => decide (kv.1 = Sum.inl k)))) st
        | .str k => .ok (.bl (xor neg (kvs.any fun kv => decide (kv.1 = Sum.inr k)))) st
        | _ => .bad)
      | _ => .bad)
    | _ => .bad
theorem any_py (x : D) : ∀ ds : List D, ((D.pys ds).any fun z => PyData.eqv z x.py) = ds.any fun d => eqvD d x
  | [] => rfl
  | d :: ds => by rw [D.pys, List.any_cons, List.any_cons, any_py x ds]; rfl
theorem vals_lookup {κ : Type} [DecidableEq κ] {K : PySem.W.Frag} {H : Hp} {β : Bt} (k : κ) : ∀ {kvs : List (κ × D)} {us : List (κ × V)}, RepK K H β kvs us →
    (∀ d, (kvs.find? fun kv => decide (kv.1 = k)).map (·.2) = some d → ∃ u, valV us k = some u ∧ Rep K H β d u) ∧ ((kvs.find? fun kv => decide (kv.1 = k)) = none → valV us k = none)
  | [], us, h => by
    have : us = [] := by
      have h1 := congrArg List.length h.1
      simp only [List.map_nil, List.length_nil, List.length_map] at h1
      exact List.length_eq_zero_iff.mp h1.symm
    subst this
    exact And.intro (fun d e => nomatch e) (fun _ => rfl)
  | kv :: kvs, us, h => by
    cases us with
    | nil => exact absurd (congrArg List.length h.1) (by simp)
    | cons w us =>
      obtain ⟨h1, h2⟩ := h
      simp only [List.map_cons, List.cons.injEq] at h1
      cases h2 with
      | cons r t =>
        have ih := vals_lookup k (kvs := kvs) (us := us) ⟨h1.2, t⟩
        by_cases e : kv.1 = k
        · refine ⟨fun d q => ?_, fun q => ?_⟩
          · rw [List.find?_cons_of_pos (by simpa using e)] at q
            cases q
            exact ⟨w.2, valV_pos (h1.1 ▸ e), r⟩
          · rw [List.find?_cons_of_pos (by simpa using e)] at q
            cases q
        · have e' : ¬ w.1 = k := fun z => e (h1.1.trans z)
          refine ⟨fun d q => ?_, fun q => ?_⟩
          · rw [List.find?_cons_of_neg (by simpa using e)] at q
            rw [valV_neg e']
            exact ih.1 d q
          · rw [List.find?_cons_of_neg (by simpa using e)] at q
            rw [valV_neg e']
            exact ih.2 q
theorem RepK.any {κ : Type} [DecidableEq κ] {K : PySem.W.Frag} {H : Hp} {β : Bt} {kvs : List (κ × D)} {us : List (κ × V)} (h : RepK K H β kvs us) (k : κ) : (valV us k).isSome = kvs.any fun kv => decide (kv.1 = k) := by
  obtain ⟨h1, h2⟩ := vals_lookup k h
  cases e : kvs.find? fun kv => decide (kv.1 = k) with
  | none =>
    rw [h2 e]
    have : (kvs.any fun kv => decide (kv.1 = k)) = false := by
      rw [List.find?_eq_none] at e
      rw [List.any_eq_false]
      exact e
    rw [this]
    rfl
  | some kv =>
    obtain ⟨u, e1, _⟩ := h1 kv.2 (by rw [e]; rfl)
    rw [e1]
    have m := List.mem_of_find?_eq_some e
    have p := List.find?_some e
    exact (List.any_eq_true.mpr ⟨kv, m, p⟩).symm
section
variable {X : Cx} {E : XK} {a b c : Expr} {fa fb fc : En → AS → Out D} {pos : Pos}
def rDIn (neg : Bool) : R2 := fun x y H Q => ∃ a o, y = .ref a ∧ DGet H a x o ∧ Q (.bl (xor neg o.isSome)) H
theorem op_dIn (hu : X.A.units + 1 < cLine) : OpR X (compareOp .In) (rDIn false) := by
  intro pins s σ H x y v u Q I rx ry h
  obtain ⟨a, o, rfl, g, q⟩ := h
  cases ry
  exact d_in hu I g rx fun s' I' => ⟨.bl _, H, I', rfl, by simpa using q⟩
theorem in_ok {K : PySem.W.Frag} {mg : MG} {β : Bt} {H : Hp} {st : AS} {Q : VK} {x y : D} {u v : V} {neg : Bool} (S : Sim K mg β st H) (rx : Rep K H β x u) (ry : Rep K H β y v) (h : Post K mg (rD K) E β H Q (inD neg x y st)) :
    rIn K neg u v H Q ∨ (∃ d ds, Dp K H u d ∧ Dp K H v (.list ds) ∧ SeqAt.shaped d = true ∧ SeqAt.shaped (.list ds) = true ∧ Q (.bl (xor neg (ds.any fun z => PyData.eqv z d))) H) ∨ rDIn neg u v H Q := by
  unfold inD at h
  split at h
  · rename_i ds e
    split at h
    · rename_i ef
      rw [Bool.and_eq_true] at ef
      obtain ⟨p, us, rfl, hq, r⟩ := S.seqs ry e
      refine .inl ⟨p, us, rfl, hq, rx.flat ef.1, r.flat ef.2, ?_⟩
      rw [Reps.inV rx ef.1 r ef.2]
      have q := h.here S (.bl _)
      cases neg <;> simpa using q
    · obtain ⟨ef, h⟩ := h.ite
      simp only [Bool.and_eq_true] at ef
      obtain ⟨⟨⟨e1, e2⟩, e3⟩, e4⟩ := ef
      obtain ⟨d1, s1⟩ := fit_dp S rx e1
      obtain ⟨ds', e5⟩ := Option.isSome_iff_exists.mp e3
      have e6 : ds' = ds := by
        cases y with
        | tup _ => cases e3
        | ctp _ => cases e3
        | _ => exact Option.some.inj (e5.symm.trans e)
      subst e6
      have v1 : valD st y = .lst ds' := by
        cases y with
        | lst ds =>
          cases e5
          rfl
        | fzl ds =>
          unfold valD at e4
          simp only [D.pure] at e4
          cases e4
        | ref i =>
          unfold listOf at e5
          unfold valD
          dsimp only at e5 ⊢
          split at e5
          · rename_i z
            cases e5
            first
              | rw [z]
              | rfl
          · cases e5
        | _ => cases e5
      have d2 := S.dp ry e4
      rw [v1] at d2
      rw [D.py] at d2
      refine .inr (.inl ⟨_, _, d1, d2, s1, ?_, ?_⟩)
      · unfold D.fit at e2
        rw [Bool.and_eq_true, D.py] at e2
        exact e2.2
      · rw [any_py]
        exact h.here S (.bl _)
  · cases ry with
    | ref er =>
      rename_i i p en
      dsimp only at h
      split at h
      · rename_i kvs ec
        obtain ⟨us, eu, r⟩ := S.cell i p _ er ec
        cases rx with
        | int k => exact .inr (.inr ⟨p, _, rfl, DGet.k (k := .inl k) eu, by rw [r.any]; exact h.here S (.bl _)⟩)
        | str k => exact .inr (.inr ⟨p, _, rfl, DGet.k (k := .inr k) eu, by rw [r.any]; exact h.here S (.bl _)⟩)
        | _ => exact h.elim
      · rename_i kvs ec
        obtain ⟨z, us, eu, r⟩ := S.cell i p _ er ec
        cases rx with
        | int k => exact .inr (.inr ⟨p, _, rfl, .inl ⟨us, .inl k, .inr ⟨z, eu⟩, rfl, rfl⟩, by rw [r.any]; exact h.here S (.bl _)⟩)
        | str k => exact .inr (.inr ⟨p, _, rfl, .inl ⟨us, .inr k, .inr ⟨z, eu⟩, rfl, rfl⟩, by rw [r.any]; exact h.here S (.bl _)⟩)
        | _ => exact h.elim
      · exact h.elim
    | _ => exact h.elim
theorem oc_in (hu : X.A.units + 65 < cLine) : OkC X E .In (inD false) := ⟨_, op_in_seq.or ((op_inD hu).or (op_dIn (Nat.lt_of_le_of_lt (by omega) hu))), fun β H st x y u v Q S rx ry h => by
  rcases in_ok S rx ry h with q | ⟨d, ds, h1, h2, h3, h4, q⟩ | q
  · exact .inl q
  · exact .inr (.inl ⟨d, ds, h1, h2, h3, h4, by simpa using q⟩)
  · exact .inr (.inr q)⟩
/-! ### subscripts -/
theorem Reps.atI {K : PySem.W.Frag} {H : Hp} {β : Bt} {ds : List D} {us : List V} {i : Int} {d : D} (r : Reps K H β ds us) (h : atI ds i = some d) : ∃ u, L2.atI us i = some u ∧ Rep K H β d u := by
  unfold L2.atI at h ⊢
  rw [r.length]
  cases e : ixN ds.length i with
  | none => rw [e] at h; cases h
  | some j =>
    rw [e] at h
    exact r.get h
@[simp] def valK {κ : Type} [DecidableEq κ] (kvs : List (κ × D)) (k : κ) : Option D := (kvs.find? fun kv => decide (kv.1 = k)).map (·.2)
/-- the key that a value is -/
@[simp] def keyD : D → Option Key
  | .int i => some (.inl i)
  | .str x => some (.inr x)
  | _ => none
@[simp] def keysD : List D → Option (List Key)
  | [] => some []
  | d :: ds => match keyD d, keysD ds with
    | some k, some ks => some (k :: ks)
    | _, _ => none
@[simp] def toOut {α : Type} (o : Option α) (st : AS) : Out α := match o with
  | some a => .ok a st
  | none => .bad
@[simp] def ixD (x y : D) (st : AS) : Out D := match seqOf st x with
  | some ds => (match y with
    | .int i => toOut (atI ds i) st
    | _ => .bad)
  | none => match x with
    | .str z => (match y with
      | .int i => if z.length ≤ sizeLine then toOut ((atI z.cps.toList i).map fun c => .str ⟨#[c]⟩) st else .bad
      | _ => .bad)
    | .ref i => (match st[i]? with
      | some (.dct kvs) => (match keyD y with
        | some k => toOut (valK kvs k) st
        | none => .bad)
      | some (.dtt kvs) => (match y with
        | .tup ks => (match keysD ks with
          | some k => toOut (valK kvs k) st
          | none => .bad)
        | _ => .bad)
      | some (.lck kvs) => (match keyD y with
        | some k => toOut (valK kvs k) st
        | none => .bad)
      | _ => .bad)
    | _ => .bad
theorem Post.opt {K : PySem.W.Frag} {mg : MG} {α ρ : Type} {R : Hp → Bt → α → ρ → Prop} {β : Bt} {H : Hp} {Q : ρ → Hp → Prop} {o : Option α} {st : AS} (h : Post K mg R E β H Q (toOut o st)) : ∃ d, o = some d ∧ Post K mg R E β H Q (.ok d st) := by
  cases o with
  | none => exact h.elim
  | some d => exact ⟨d, rfl, h⟩
theorem Rep.key {K : PySem.W.Frag} {H : Hp} {β : Bt} {d : D} {u : V} {k : Key} (r : Rep K H β d u) (h : keyD d = some k) : u = kV k := by
  cases r <;> first | (cases h; done) | (cases h; rfl)
theorem Reps.keys {K : PySem.W.Frag} {H : Hp} {β : Bt} : ∀ {ds : List D} {us : List V} {ks : List Key}, Reps K H β ds us → keysD ds = some ks → us = ks.map kV
  | _, _, _, .nil, h => by
    cases h
    rfl
  | _, _, ks, .cons r t, h => by
    rw [keysD] at h
    split at h
    · rename_i k ks' e1 e2
      cases h
      rw [r.key e1, Reps.keys t e2]
      rfl
    · cases h
def rDIx : R2 := fun x y H Q => ∃ a v, x = .ref a ∧ DGet H a y (some v) ∧ Q v H
theorem valK_ok {κ : Type} [DecidableEq κ] {K : PySem.W.Frag} {H : Hp} {β : Bt} {kvs : List (κ × D)} {us : List (κ × V)} {k : κ} {d : D} (r : RepK K H β kvs us) (h : valK kvs k = some d) : ∃ u, valV us k = some u ∧ Rep K H β d u := (vals_lookup k r).1 d h
theorem ix_ok {K : PySem.W.Frag} {mg : MG} {β : Bt} {H : Hp} {st : AS} {Q : VK} {x y : D} {u v : V} (S : Sim K mg β st H) (rx : Rep K H β x u) (ry : Rep K H β y v) (h : Post K mg (rD K) E β H Q (ixD x y st)) : rIx K u v H Q ∨ rDIx u v H Q := by
  unfold ixD at h
  split at h
  · rename_i ds e
    obtain ⟨p, us, rfl, hq, r⟩ := S.seqs rx e
    cases ry with
    | int i =>
      obtain ⟨d, ed, h⟩ := h.opt
      obtain ⟨w, ew, rw'⟩ := r.atI ed
      rcases hq with hq | hq
      · exact .inl (.inl ⟨p, us, i, w, rfl, rfl, hq, ew, h.here S rw'⟩)
      · exact .inl (.inr (.inl ⟨p, us, i, w, rfl, rfl, hq, ew, h.here S rw'⟩))
    | _ => exact h.elim
  · cases rx with
    | str z =>
      dsimp only at h
      cases ry with
      | int i =>
        obtain ⟨hl, h⟩ := h.ite
        obtain ⟨d, ed, h⟩ := h.opt
        cases e : atI z.cps.toList i with
        | none => rw [e] at ed; cases ed
        | some c =>
          rw [e] at ed
          cases ed
          exact .inl (.inr (.inr ⟨z, i, c, rfl, rfl, hl, e, h.here S (.str _)⟩))
      | _ => exact h.elim
    | ref er =>
      rename_i i p en
      dsimp only at h
      split at h
      · rename_i kvs ec
        obtain ⟨us, eu, r⟩ := S.cell i p _ er ec
        split at h
        · rename_i k ek
          obtain ⟨d, ed, h⟩ := h.opt
          obtain ⟨w, ew, rw'⟩ := valK_ok r ed
          rw [ry.key ek]
          exact .inr ⟨p, w, rfl, by rw [← ew]; exact DGet.k eu, h.here S rw'⟩
        · exact h.elim
      · rename_i kvs ec
        obtain ⟨us, eu, r⟩ := S.cell i p _ er ec
        cases ry with
        | tup n2 e2 r2 =>
          dsimp only at h
          split at h
          · rename_i k ek
            obtain ⟨d, ed, h⟩ := h.opt
            obtain ⟨w, ew, rw'⟩ := valK_ok r ed
            have z := r2.keys ek
            subst z
            exact .inr ⟨p, w, rfl, by rw [← ew]; exact DGet.t eu e2, h.here S rw'⟩
          · exact h.elim
        | _ => exact h.elim
      · rename_i kvs ec
        obtain ⟨z, us, eu, r⟩ := S.cell i p _ er ec
        split at h
        · rename_i k ek
          obtain ⟨d, ed, h⟩ := h.opt
          obtain ⟨w, ew, rw'⟩ := valK_ok r ed
          rw [ry.key ek]
          exact .inr ⟨p, w, rfl, .inl ⟨us, k, .inr ⟨z, eu⟩, rfl, ew.symm⟩, h.here S rw'⟩
        · exact h.elim
      · exact h.elim
    | _ => exact h.elim
theorem ix_dictR (hu : X.A.units + 1 < cLine) : IxR X rDIx := by
  intro va sl pins s σ H x y v u Q I rx ry h hsl
  obtain ⟨p, w', rfl, g, q⟩ := h
  obtain rfl : v = Value.ref p := rx
  have ty := dict_typeIs I g
  have item : wpAny (model X.prog X.w) X.A (getItem (.ref p) u) (EP X pins σ Q) X.xe s := d_getItem hu I g ry fun w2 s' I' r => ⟨w', H, I', r, q⟩
  have last : wpAny (model X.prog X.w) X.A (subscripted sl false (.ref p) u) (fun r t => wpAny (model X.prog X.w) X.A (letTemporaryGo va (.ref p) r >>= fun _ => pure r) (EP X pins σ Q) X.xe t) X.xe s := by
    rw [hsl]
    refine wpAny_operating (thn item ?_)
    intro r t ht
    exact wpAny_bind (wpAny_letTemporaryGo (wpAny_pure ht))
  unfold subscriptTail
  apply wpAny_bind
  rw [getitemInPython_of_ne ty.not_modules]
  apply wpAny_bind
  refine wpAny_specialOf ty PySem.F.slot_dict_getitem.lookup ?_
  first
    | exact wpAny_pure (wpAny_bind last)
    | exact wpAny_bind (wpAny_pure (wpAny_bind last))
    | exact wpAny_bind last
theorem ve_sub_ix (hu : X.A.units + 65 < cLine) (ha : VE X E a fa) (hb : VE X E b fb) (hs : PlainIx b) : VE X E (.Subscript a b pos) (v2 ixD fa fb) :=
  ve_ix (ix_seq.or (ix_dictR (Nat.lt_of_le_of_lt (by omega) hu))) (fun _ _ _ _ _ _ _ _ S rx ry h => ix_ok S rx ry h) ha hb hs
/-! ### slices -/
abbrev rO : Hp → Bt → Option Int → Option Int → Prop := fun _ _ a b => a = b
abbrev VO (X : Cx) (E : XK) (e : Option Expr) (f : En → AS → Out (Option Int)) : Prop := PO X e (tG X.K X.mgw rO E f)
@[simp] def vNoPart (_ : En) (st : AS) : Out (Option Int) := .ok none st
@[simp] def asI (d : D) (st : AS) : Out (Option Int) := match d with
  | .int i => .ok (some i) st
  | _ => .bad
theorem weakO {e : Option Expr} {t t' : TO} (h : PO X e t) (w : ∀ σ H Q, t' σ H Q → t σ H Q) : PO X e t' := ⟨fun pins s σ H Q I q => h.run pins s σ H Q I (w σ H Q q)⟩
theorem vo_none : VO X E none vNoPart := weakO po_none fun σ H Q ⟨β, env, st, he, hs, h⟩ => h.here hs rfl
theorem vo_some (ha : VE X E a fa) : VO X E (some a) (v1 asI fa) := weakO (po_some ha) fun σ H Q ⟨β, env, st, he, hs, h⟩ => by
  refine tG_bind he hs h fun x st1 β1 H1 u x1 s1 e1 r1 h1 => ?_
  cases r1 with
  | int i => exact ⟨i, rfl, h1.here s1 rfl⟩
  | _ => exact h1.elim
def cut {α : Type} (xs : List α) (lo hi : Option Int) : List α := (xs.drop (HT.sIx xs.length 0 lo)).take (HT.sIx xs.length xs.length hi - HT.sIx xs.length 0 lo)
theorem cut_whole {α : Type} {xs : List α} {lo hi : Option Int} (h1 : HT.sIx xs.length 0 lo = 0) (h2 : HT.sIx xs.length xs.length hi = xs.length) : VL.cut xs lo hi = xs := by
  unfold VL.cut
  rw [h1, h2, List.drop_zero, Nat.sub_zero, List.take_length]
@[simp] def slD (c : Bool) (x : D) (lo hi : Option Int) (st : AS) : Out D := match x with
  | .tup ds => .ok (.tup (cut ds lo hi)) st
  | .str z => if z.length ≤ sizeLine then .ok (.str (cutS z lo hi)) st else .bad
  | _ => match listOf st x with
    | some ds => mk c (cut ds lo hi) st
    | none => .bad
@[simp] def vSl (g : D → Option Int → Option Int → AS → Out D) (fa : En → AS → Out D) (fl fh : En → AS → Out (Option Int)) (env : En) (st : AS) : Out D := (fa env st).bind fun x st => (fl env st).bind fun l st => (fh env st).bind fun h st => g x l h st
theorem Reps.cut {K : PySem.W.Frag} {H : Hp} {β : Bt} {ds : List D} {us : List V} (r : Reps K H β ds us) (lo hi : Option Int) : Reps K H β (VL.cut ds lo hi) (cutV us lo hi) := by
  unfold VL.cut cutV
  rw [r.length]
  exact (r.drop _).take _
theorem sl_ok {K : PySem.W.Frag} {mg : MG} {β : Bt} {H : Hp} {st : AS} {Q : VK} {x : D} {u : V} {lo hi : Option Int} {c : Bool} (S : Sim K mg β st H) (rx : Rep K H β x u) (h : Post K mg (rD K) E β H Q (slD c x lo hi st)) : rSlA K u lo hi H Q ∨ rSlL K u lo hi H Q ∨ rSlS u lo hi H Q := by
  unfold slD at h
  have lists : ∀ {x : D} {u : V}, Rep K H β x u → Post K mg (rD K) E β H Q (match listOf st x with | some ds => mk c (VL.cut ds lo hi) st | none => .bad) → rSlL K u lo hi H Q := by
    intro x u rx h
    split at h
    · rename_i ds e
      obtain ⟨p, us, rfl, hq, r⟩ := S.lists rx e
      exact ⟨p, us, rfl, hq, new_lst h S (r.cut lo hi)⟩
    · exact h.elim
  cases rx with
  | tup n e r =>
    refine .inl ⟨_, _, rfl, .inl (.inl e), fun z => ?_, fun _ => new_tup h S (r.cut lo hi)⟩
    have q := h.here (u := V.ref _) S (show Rep K H β (.tup (VL.cut _ lo hi)) (.ref _) from by
      rw [cut_whole (by rw [← r.length]; exact z.1) (by rw [← r.length]; exact z.2)]
      exact .tup n e r)
    exact q
  | str z =>
    obtain ⟨hl, h⟩ := h.ite
    exact .inr (.inr ⟨z, rfl, hl, h.here S (.str _)⟩)
  | non => exact .inr (.inl (lists .non h))
  | bl b => exact .inr (.inl (lists (.bl b) h))
  | int b => exact .inr (.inl (lists (.int b) h))
  | cv q => exact .inr (.inl (lists (.cv q) h))
  | ctp e r => exact .inr (.inl (lists (.ctp e r) h))
  | lst n e r => exact .inr (.inl (lists (.lst n e r) h))
  | fzl e r => exact .inr (.inl (lists (.fzl e r) h))
  | ref e => exact .inr (.inl (lists (.ref e) h))
theorem ve_slice (k : Bool) {lo hi : Option Expr} {fl fh : En → AS → Out (Option Int)} {p2 : Pos} (ha : VE X E a fa) (hl : VO X E lo fl) (hh : VO X E hi fh) : VE X E (.Subscript a (.Slice lo hi none p2) pos) (vSl (slD k) fa fl fh) := by
  refine weakE (pe_slice (sl_tupA.or (sl_list.or sl_str)) ha hl hh) fun σ H Q ⟨β, env, st, he, hs, h⟩ => ?_
  refine tG_bind he hs h fun x st1 β1 H1 u x1 s1 e1 r1 h1 => ?_
  refine tG_bind e1 s1 h1 fun l st2 β2 H2 l' x2 s2 e2 r2 h2 => ?_
  refine tG_bind e2 s2 h2 fun l st3 β3 H3 l2' x3 s3 e3 r3 h3 => ?_
  cases r2
  cases r3
  exact sl_ok s3 ((r1.ext x2).ext x3) h3
/-- x[::-1] -/
@[simp] def revD (x : D) (st : AS) : Out D := match x with
  | .tup ds => .ok (.tup ds.reverse) st
  | _ => .bad
@[simp] def revLD (c : Bool) (x : D) (st : AS) : Out D := match listOf st x with
  | some ds => mk c ds.reverse st
  | none => .bad
/-! ### built-in functions -/
variable {es : List Expr} {e : Expr} {fs : En → AS → Out (List D)} {x : Str} {p : Pos}
theorem useA {r : List V → Hp → VK → Prop} {g : List D → AS → Out D} (hg : OkA X.K X.mgw E r g) {σ : L2.St} {H : Hp} {Q : VK} (h : tV X.K X.mgw E (vA g fs) σ H Q) : tCB r (tVA X.K X.mgw E fs) σ H Q := by
  obtain ⟨β, env, st, he, hs, h⟩ := h
  exact tG_bind he hs h fun ds st1 β1 H1 us x1 s1 e1 r1 h1 => hg β1 H1 st1 ds us Q s1 r1 h1
/-- a built-in function with what it does -/
def OkB (X : Cx) (E : XK) (f : Value) (g : List D → AS → Out D) : Prop := ∃ r, CallR X f r ∧ OkA X.K X.mgw E r g
theorem ve_callB {id : String} {g : List D → AS → Out D} (hc : OkB X E (.builtin id) g) (hg : Gl X x) (hm : X.mg x = none) (hv : bootBuiltins x = some (.builtin id)) (ha : VA X E (e :: es) fs) (hn : x ≠ "__name__" := by decide) (hdb : (x == ("__debug__" : Str)) = false := by decide)
    (he : starEach (e :: es) X.env = (false, eval e X.env) :: starEach es X.env := by rfl) (hpl : (backTo pos (starEach es X.env)).any (·.1) = false := by rfl) : VE X E (.Call (.Name x p) (e :: es) [] pos) (vA g fs) := by
  obtain ⟨r, h1, h2⟩ := hc
  exact weakE (pe_callB h1 hg hm hv ha hn hdb he hpl) fun _ _ _ h => useA h2 h
theorem ve_callTy {T : String} {g : List D → AS → Out D} (hc : OkB X E (.type T) g) (hg : Gl X x) (hm : X.mg x = none) (hv : bootBuiltins x = some (.type T)) (ha : VA X E (e :: es) fs) (hn : x ≠ "__name__" := by decide) (hdb : (x == ("__debug__" : Str)) = false := by decide)
    (he : starEach (e :: es) X.env = (false, eval e X.env) :: starEach es X.env := by rfl) (hpl : (backTo pos (starEach es X.env)).any (·.1) = false := by rfl) : VE X E (.Call (.Name x p) (e :: es) [] pos) (vA g fs) := by
  obtain ⟨r, h1, h2⟩ := hc
  exact weakE (pe_callTy h1 hg hm hv ha hn hdb he hpl) fun _ _ _ h => useA h2 h
/-- of one thing -/
@[simp] def g1 (g : D → AS → Out D) (xs : List D) (st : AS) : Out D := match xs with
  | [x] => g x st
  | _ => .bad
theorem g1_ok {K : PySem.W.Frag} {mg : MG} {β : Bt} {H : Hp} {st : AS} {Q : VK} {xs : List D} {us : List V} {g : D → AS → Out D} (r : Reps K H β xs us) (h : Post K mg (rD K) E β H Q (g1 g xs st)) : ∃ x u, us = [u] ∧ Rep K H β x u ∧ Post K mg (rD K) E β H Q (g x st) := by
  cases r with
  | nil => exact h.elim
  | cons a t =>
    cases t with
    | nil => exact ⟨_, _, rfl, a, h⟩
    | cons _ _ => exact h.elim
@[simp] def lenD (x : D) (st : AS) : Out D := match seqOf st x with
  | some ds => .ok (.int ds.length) st
  | none => match x with
    | .str z => if z.length ≤ sizeLine then .ok (.int z.length) st else .bad
    | .ref i => (match st[i]? with
      | some (.dct kvs) => .ok (.int kvs.length) st
      | _ => .bad)
    | _ => .bad
theorem RepK.length {κ : Type} {K : PySem.W.Frag} {H : Hp} {β : Bt} {kvs : List (κ × D)} {us : List (κ × V)} (h : RepK K H β kvs us) : us.length = kvs.length := by
  have := congrArg List.length h.1
  simpa using this.symm
theorem ob_len : OkB X E (.builtin "len") (g1 lenD) := ⟨_, call_len.or call_lenD, fun β H st xs us Q S r h => by
  obtain ⟨x, u, rfl, rx, h⟩ := g1_ok r h
  unfold lenD at h
  split at h
  · rename_i ds e
    obtain ⟨p, us, rfl, hq, r⟩ := S.seqs rx e
    refine .inl ⟨_, us.length, rfl, ?_, by rw [r.length]; exact h.here S (.int _)⟩
    rcases hq with hq | hq
    · exact .inl ⟨us, hq, rfl⟩
    · exact .inr ⟨us, hq, rfl⟩
  · cases rx with
    | str z =>
      obtain ⟨hl, h⟩ := h.ite
      exact .inl ⟨_, _, rfl, ⟨hl, rfl⟩, h.here S (.int _)⟩
    | ref er =>
      rename_i i p en
      dsimp only at h
      split at h
      · rename_i kvs ec
        obtain ⟨us, eu, r⟩ := S.cell i p _ er ec
        exact .inr ⟨p, us, rfl, eu, by rw [r.length]; exact h.here S (.int _)⟩
      · exact h.elim
    | _ => exact h.elim⟩
/-- tuple(list or tuple), list(list or tuple) -/
@[simp] def tupD (x : D) (st : AS) : Out D := match x with
  | .tup ds => .ok (.tup ds) st
  | _ => match listOf st x with
    | some ds => .ok (.tup ds) st
    | none => .bad
theorem ob_tuple : OkB X E (.type "tuple") (g1 tupD) := ⟨_, call_tuple_of, fun β H st xs us Q S r h => by
  obtain ⟨x, u, rfl, rx, h⟩ := g1_ok r h
  clear r
  have lists : ∀ {x : D} {u : V}, Rep X.K H β x u → Post X.K X.mgw (rD X.K) E β H Q (match listOf st x with | some ds => .ok (.tup ds) st | none => .bad) → ∃ p ys, [u] = [V.ref p] ∧ ((SqL X.K H p ys ∧ ∀ l, H l = none → Q (.ref l) (upd H l (.tup ys))) ∨ (SqT X.K H p ys ∧ Q (.ref p) H)) := by
    intro x u rx h
    split at h
    · rename_i ds e
      obtain ⟨p, us, rfl, hq, r⟩ := S.lists rx e
      exact ⟨p, us, rfl, .inl ⟨hq, new_tup h S r⟩⟩
    · exact h.elim
  unfold tupD at h
  cases rx with
  | tup n e r => exact ⟨_, _, rfl, .inr ⟨.inl (.inl e), h.here S (.tup n e r)⟩⟩
  | non => exact lists .non h
  | bl b => exact lists (.bl b) h
  | int b => exact lists (.int b) h
  | str b => exact lists (.str b) h
  | cv q => exact lists (.cv q) h
  | ctp e r => exact lists (.ctp e r) h
  | lst n e r => exact lists (.lst n e r) h
  | fzl e r => exact lists (.fzl e r) h
  | ref e => exact lists (.ref e) h⟩
@[simp] def lstD (c : Bool) (x : D) (st : AS) : Out D := match seqOf st x with
  | some ds => mk c ds st
  | none => .bad
theorem ob_list (c : Bool) : OkB X E (.type "list") (g1 (lstD c)) := ⟨_, call_list_of, fun β H st xs us Q S r h => by
  obtain ⟨x, u, rfl, rx, h⟩ := g1_ok r h
  unfold lstD at h
  split at h
  · rename_i ds e
    obtain ⟨p, us, rfl, hq, r⟩ := S.seqs rx e
    exact ⟨p, us, rfl, hq, new_lst h S r⟩
  · exact h.elim⟩
/-- sums, greatest, least of ints -/
@[simp] def onInts (g : List Int → AS → Out D) (x : D) (st : AS) : Out D := match seqOf st x with
  | some ds => (match intsOf ds with
    | some ns => g ns st
    | none => .bad)
  | none => .bad
@[simp] def sumD (x : D) (st : AS) : Out D := onInts (fun ns st => .ok (.int ns.sum) st) x st
def maxI : List Int → Int
  | [] => 0
  | [n] => n
  | n :: m :: ns => max n (maxI (m :: ns))
def minI : List Int → Int
  | [] => 0
  | [n] => n
  | n :: m :: ns => min n (minI (m :: ns))
@[simp] def maxD (xs : List D) (st : AS) : Out D := match xs with
  | [] => .bad
  | x :: r => (match r with
    | [] => onInts (fun ns st => if ns = [] then .bad else .ok (.int (maxI ns)) st) x st
    | y :: q => (match q with
      | [] => iiD (fun a b => .int (max a b)) x y st
      | _ :: _ => .bad))
@[simp] def minD (xs : List D) (st : AS) : Out D := match xs with
  | [] => .bad
  | x :: r => (match r with
    | [] => onInts (fun ns st => if ns = [] then .bad else .ok (.int (minI ns)) st) x st
    | y :: q => (match q with
      | [] => iiD (fun a b => .int (min a b)) x y st
      | _ :: _ => .bad))
@[simp] def absD (x : D) (st : AS) : Out D := match x with
  | .int i => .ok (.int i.natAbs) st
  | _ => .bad
def blsOf : List D → Option (List Bool)
  | [] => some []
  | .bl i :: ds => (blsOf ds).map (i :: ·)
  | _ :: _ => none
@[simp] def onBls (g : List Bool → Bool) (x : D) (st : AS) : Out D := match listOf st x with
  | some ds => (match blsOf ds with
    | some bs => .ok (.bl (g bs)) st
    | none => .bad)
  | none => .bad
end
end VL
set_option Elab.async false
set_option linter.all false
set_option maxRecDepth 100000
/-! The value layer: isinstance, repr, str; methods of lists; targets and statements. -/
namespace VL
open PySem PySem.Spec PyProof.Rows L2 TB
/-! ### isinstance of a built-in class -/
@[simp] def tyD (st : AS) (d : D) : Option String := match d with
  | .non => some "NoneType"
  | .bl _ => some "bool"
  | .int _ => some "int"
  | .str _ => some "str"
  | .tup _ => some "tuple"
  | .ctp _ => some "tuple"
  | .lst _ => some "list"
  | .fzl _ => some "list"
  | .ref i => (match st[i]? with
    | some (.lst _) => some "list"
    | some (.dct _) => some "dict"
    | some (.dtt _) => some "dict"
    | _ => none)
  | .cv _ => none
def isT (a b : String) : Bool := decide (a = b) || (decide (a = "bool") && decide (b = "int"))
theorem kit_all : ∀ a ∈ ["NoneType", "bool", "int", "str", "tuple", "list", "dict"], ∀ b ∈ ["int", "bool", "str", "tuple", "list", "dict"], kitB a b = some (isT a b) := by decide +kernel
theorem tyD_in {st : AS} {d : D} {n : String} (h : tyD st d = some n) : n ∈ ["NoneType", "bool", "int", "str", "tuple", "list", "dict"] := by
  unfold tyD at h
  repeat' split at h
  all_goals first | (cases h; done) | (cases h; simp)
theorem wr_lst {K : PySem.W.Frag} {H : Hp} {a : Addr} {us : List V} (h : SqL K H a us) : TyX K H (.ref a) (.type "list") := by
  rcases h with (h | ⟨o, h⟩) | ⟨o, its, n, h1, h2, _⟩
  · exact .base (.lst h)
  · exact .base (.frz h)
  · exact .kList h1 h2
theorem tyD_ok {K : PySem.W.Frag} {mg : MG} {β : Bt} {H : Hp} {st : AS} {d : D} {u : V} {n : String} (S : Sim K mg β st H) (r : Rep K H β d u) (h : tyD st d = some n) : TyX K H u (.type n) := by
  unfold tyD at h
  cases r with
  | non => cases h; exact .base .non
  | bl b => cases h; exact .base (.bl b)
  | int b => cases h; exact .base (.int b)
  | str b => cases h; exact .base (.str b)
  | cv => cases h
  | tup n e r => cases h; exact .base (.tup e)
  | ctp e r =>
    cases h
    rcases e with ⟨o, _, _, h1, h2, _⟩ | ⟨_, o, e, _⟩
    · exact .kTuple h1 h2
    · exact .fTuple e
  | lst n e r => cases h; exact .base (.lst e)
  | fzl e r => cases h; exact wr_lst (SqL.fz e)
  | ref e =>
    rename_i i a
    dsimp only at h
    split at h
    · rename_i ds e2
      cases h
      obtain ⟨us, e3, _⟩ := S.cell i a _ e e2
      exact .base (.lst e3)
    · rename_i ds e2
      cases h
      obtain ⟨us, e3, _⟩ := S.cell i a _ e e2
      exact .base (.dK e3)
    · rename_i ds e2
      cases h
      obtain ⟨us, e3, _⟩ := S.cell i a _ e e2
      exact .base (.dT e3)
    · cases h
@[simp] def isiD (xs : List D) (st : AS) : Out D := match xs with
  | [x, .cv (.v (.ty T))] => (match tyD st x with
    | some n => if T ∈ ["int", "bool", "str", "tuple", "list", "dict"] then .ok (.bl (isT n T)) st else .bad
    | none => .bad)
  | _ => .bad
section
variable {X : Cx} {E : XK} {a b c : Expr} {fa fb fc : En → AS → Out D} {pos : Pos}
theorem ve_ty {x : Str} {n : String} {p : Pos} (hg : Gl X x) (hm : X.mg x = none) (hv : bootBuiltins x = some (.type n)) (hn : x ≠ "__name__" := by decide) (hd : (x == ("__debug__" : Str)) = false := by decide) : VE X E (.Name x p) (vC (.cv (.v (.ty n)))) :=
  ve_c (pe_bltn hg hm hv (show RelV (.ty n) (.type n) from rfl) hn hd) fun _ _ => .cv rfl
theorem ob_isi : OkB X E (.builtin "isinstance") isiD := ⟨_, call_isi, fun β H st xs us Q S r h => by
  unfold isiD at h
  split at h
  · rename_i x T
    cases r with
    | cons r1 r2 =>
      cases r2 with
      | cons r2 r3 =>
        cases r3
        cases r2 with
        | cv q =>
        cases (show _ = _ from q)
        split at h
        · rename_i n en
          obtain ⟨hT, h⟩ := h.ite
          exact ⟨_, _, _, _, _, rfl, .ty T, tyD_ok S r1 en, kit_ty (kit_all n (tyD_in en) T hT), h.here S (.bl _)⟩
        · exact h.elim
  · exact h.elim⟩
/-! ### repr, str -/
def Shw (p : PyData) : Prop := p.showable = true ∧ p.depth ≤ 60 ∧ p.shown.length ≤ sizeLine
instance (p : PyData) : Decidable (Shw p) := inferInstanceAs (Decidable (_ ∧ _))
theorem Shw.of {k n : Nat} {p : PyData} (h : Sh k n p) (hk : k ≤ 60) (hn : n ≤ sizeLine) : Shw p := ⟨h.sh, Nat.le_trans h.dp hk, Nat.le_trans h.ln hn⟩
mutual
theorem D.noDict : ∀ d : D, d.py.hasDict = false
  | .non => by simp only [D.py, PyData.hasDict]
  | .bl _ => by simp only [D.py, PyData.hasDict]
  | .int _ => by simp only [D.py, PyData.hasDict]
  | .str _ => by simp only [D.py, PyData.hasDict]
  | .tup ds => by simp only [D.py, PyData.hasDict, D.noDicts ds]
  | .ctp ds => by simp only [D.py, PyData.hasDict, D.noDicts ds]
  | .lst ds => by simp only [D.py, PyData.hasDict, D.noDicts ds]
  | .fzl _ => by simp only [D.py, PyData.hasDict]
  | .ref _ => by simp only [D.py, PyData.hasDict]
  | .cv _ => by simp only [D.py, PyData.hasDict]
theorem D.noDicts : ∀ ds : List D, PyData.hasDictAll (D.pys ds) = false
  | [] => by simp only [D.pys, PyData.hasDictAll]
  | d :: ds => by simp only [D.pys, PyData.hasDictAll, D.noDict d, D.noDicts ds, Bool.or_self]
end
@[simp] def reprD (x : D) (st : AS) : Out D := if (valD st x).pure = true ∧ Shw (valD st x).py then .ok (.str (txt (valD st x).py)) st else .bad
def rRep (K : PySem.W.Frag) : List V → Hp → VK → Prop := fun xs H Q => ∃ x d, xs = [x] ∧ Dp K H x d ∧ d.hasDict = false ∧ Shw d ∧ Q (.str (txt d)) H
theorem call_rep (gd : X.A.guards = some []) (hu : X.A.units + 64 < cLine) : CallR X (.builtin "repr") (rRep X.K) := by
  intro pins s σ H args us Q I r h
  obtain ⟨x, d, rfl, hd, hn, ⟨h1, h2, h3⟩, q⟩ := h
  rw [txt_eq] at q
  cases hd with
  | non =>
    obtain ⟨u, rfl, r1⟩ := vals1 r
    cases (show u = Value.none from r1)
    exact PySem.P.repr_of_none ⟨.str "None", H, I.tok _, ⟨_, rfl⟩, q⟩
  | bl b =>
    obtain ⟨u, rfl, r1⟩ := vals1 r
    cases (show u = Value.bool b from r1)
    exact PySem.P.repr_of_bool ⟨.str (if b then "True" else "False"), H, I.tok _, ⟨_, rfl⟩, q⟩
  | int i =>
    obtain ⟨u, rfl, r1⟩ := vals1 r
    obtain ⟨t, rfl⟩ := r1
    exact PySem.P.repr_of_int (by simpa [PyData.showable] using h1) ⟨.str _, H, I.tok _, ⟨_, rfl⟩, q⟩
  | str z =>
    obtain ⟨u, rfl, r1⟩ := vals1 r
    obtain ⟨t, rfl⟩ := r1
    exact PySem.P.repr_of_str ⟨.str _, H, I.tok _, ⟨_, rfl⟩, q⟩ h3
  | lst e a => exact call_reprD gd hu pins s σ H _ us Q I r ⟨_, _, rfl, .lst e a, h1, hn, h2, h3, q⟩
  | tup e a => exact call_reprD gd hu pins s σ H _ us Q I r ⟨_, _, rfl, .tup e a, h1, hn, h2, h3, q⟩
theorem ob_repr (gd : X.A.guards = some []) (hu : X.A.units + 64 < cLine) : OkB X E (.builtin "repr") (g1 reprD) := ⟨_, call_rep gd hu, fun β H st xs us Q S r h => by
  obtain ⟨x, u, rfl, rx, h⟩ := g1_ok r h
  obtain ⟨⟨hp, hs⟩, h⟩ := h.ite
  exact ⟨u, _, rfl, S.dp rx hp, D.noDict _, hs, h.here S (.str _)⟩⟩
@[simp] def strD (x : D) (st : AS) : Out D := match x with
  | .int i => if i.natAbs.log2 < 1920 then .ok (.str (toString i)) st else .bad
  | _ => .bad
/-! ### methods of lists -/
variable {o e : Expr} {es : List Expr} {fo : En → AS → Out D} {fs : En → AS → Out (List D)} {name : Str} {apos cpos : Pos} {id : String}
@[simp] def vML (g : D → List D → AS → Out D) (fo : En → AS → Out D) (fs : En → AS → Out (List D)) (env : En) (st : AS) : Out D := (fo env st).bind fun x st => if (listOf st x).isSome = true then (fs env st).bind fun xs st => g x xs st else .bad
def OkM (X : Cx) (E : XK) (id : String) (g : D → List D → AS → Out D) : Prop := ∃ r, MtR X id r ∧ ∀ β H st x xs u us Q, Sim X.K X.mgw β st H → Rep X.K H β x u → Reps X.K H β xs us → Post X.K X.mgw (rD X.K) E β H Q (g x xs st) → r u us H Q
theorem Sim.isList {K : PySem.W.Frag} {mg : MG} {β : Bt} {H : Hp} {st : AS} (S : Sim K mg β st H) {d : D} {u : V} (r : Rep K H β d u) (h : (listOf st d).isSome = true) : tyV K "list" u H := by
  obtain ⟨ds, e⟩ := Option.isSome_iff_exists.mp h
  obtain ⟨a, us, rfl, hq, _⟩ := S.lists r e
  exact .inl ⟨rfl, us, hq⟩
theorem ve_ml {g : D → List D → AS → Out D} (slot : Slot "list" name id) (hty : typeOf (.builtin id) = pure (.type "method_descriptor")) (hm : OkM X E id g) (ho : VE X E o fo) (ha : VA X E (e :: es) fs)
    (hbase : attributeBase o name X.env (eval o X.env) = eval o X.env := by rfl)
    (hfew : ((backTo cpos (starEach (e :: es) X.env)).all (fun x => !x.1) && (backToKw cpos (keywordEach [] X.env)).all (fun x => x.1.isSome)
      && decide ((e :: es).length + ([] : List Keyword).length + (if ([] : List Keyword).isEmpty then 0 else 1) < 30)) = true := by rfl)
    (hline : (apos.endLine == cpos.line) = true := by rfl) (hs : starEach (e :: es) X.env = (false, eval e X.env) :: starEach es X.env := by rfl) (hplain : (backTo cpos (starEach es X.env)).any (·.1) = false := by rfl) :
    VE X E (.Call (.Attribute o name apos) (e :: es) [] cpos) (vML g fo fs) := by
  obtain ⟨r, h1, h2⟩ := hm
  refine weakE (pe_bm PySem.F.plainAttrs_list slot hty h1 ho ha hbase hfew hline hs hplain) fun σ H Q ⟨β, env, st, he, hS, h⟩ => ?_
  refine tG_bind he hS h fun x st1 β1 H1 u x1 s1 e1 r1 h3 => ?_
  obtain ⟨hl, h3⟩ := h3.ite
  refine ⟨s1.isList r1 hl, ?_⟩
  exact tG_bind e1 s1 h3 fun xs st2 β2 H2 us x2 s2 e2 r2 h4 => h2 β2 H2 st2 x xs u us Q s2 (r1.ext x2) r2 h4
@[simp] def vML0 (g : D → List D → AS → Out D) (fo : En → AS → Out D) (env : En) (st : AS) : Out D := (fo env st).bind fun x st => if (listOf st x).isSome = true then g x [] st else .bad
/-- a list that may change is put anew -/
@[simp] def putL (x : D) (st : AS) (k : List D → Option (D × List D)) : Out D := match x with
  | .ref i => (match st[i]? with
    | some (.lst ds) => (match k ds with
      | some (r, ds') => .ok r (st.set i (.lst ds'))
      | none => .bad)
    | _ => .bad)
  | _ => .bad
theorem putL_ok {K : PySem.W.Frag} {mg : MG} {β : Bt} {H : Hp} {st : AS} {Q : VK} {x : D} {u : V} {k : List D → Option (D × List D)} (S : Sim K mg β st H) (rx : Rep K H β x u) (h : Post K mg (rD K) E β H Q (putL x st k)) :
    ∃ p us ds r ds', u = .ref p ∧ H p = some (.lst us) ∧ Reps K H β ds us ∧ k ds = some (r, ds') ∧ ∀ us' v, (Rep K H β r v) → Reps K H β ds' us' → Q v (upd H p (.lst us')) := by
  unfold putL at h
  cases rx with
  | ref e =>
    rename_i i p
    dsimp only at h
    split at h
    · rename_i ds e2
      split at h
      · rename_i r ds' ek
        obtain ⟨us, e3, q⟩ := S.cell i p _ e e2
        refine ⟨p, us, ds, r, ds', rfl, e3, q, ek, fun us' v rv q' => ?_⟩
        have hm : p ∈ β.l := List.mem_of_getElem? e
        have x : Ext β H β (upd H p (.lst us')) := ext_put hm e3
        have S' := S.put (o := .lst us') (c := .lst ds') e ⟨us', upd_same, q'.ext x⟩
        exact h β _ v x S' (rv.ext x)
      · exact h.elim
    · exact h.elim
  | _ => exact h.elim
@[simp] def appD (x : D) (xs : List D) (st : AS) : Out D := match xs with
  | [y] => putL x st fun ds => if ds.length < sizeLine then some (.non, ds ++ [y]) else none
  | _ => .bad
theorem one_ok {K : PySem.W.Frag} {H : Hp} {β : Bt} {y : D} {us : List V} (r : Reps K H β [y] us) : ∃ v, us = [v] ∧ Rep K H β y v := by
  cases r with
  | cons a t => cases t; exact ⟨_, rfl, a⟩
theorem om_append : OkM X E "list.append" appD := ⟨_, mt_append, fun β H st x xs u us Q S rx rs h => by
  unfold appD at h
  split at h
  · rename_i y
    obtain ⟨v, rfl, rv⟩ := one_ok rs
    obtain ⟨p, ws, ds, r, ds', rfl, e, q, ek, hq⟩ := putL_ok S rx h
    split at ek
    · rename_i hl
      cases ek
      exact ⟨p, ws, v, rfl, rfl, e, by rw [q.length]; exact hl, hq _ _ .non (q.append (.cons rv .nil))⟩
    · cases ek
  · exact h.elim⟩
@[simp] def extD (x : D) (xs : List D) (st : AS) : Out D := match xs with
  | [y] => (match (match y with | .tup ds => some ds | _ => listW st y) with
    | some zs => putL x st fun ds => if ds.length + zs.length ≤ sizeLine then some (.non, ds ++ zs) else none
    | none => .bad)
  | _ => .bad
@[simp] def popD (x : D) (xs : List D) (st : AS) : Out D := match xs with
  | [] => putL x st fun ds => match ds[ds.length - 1]? with
    | some d => some (d, ds.dropLast)
    | none => none
  | _ => .bad
theorem Reps.dropLast {K : PySem.W.Frag} {H : Hp} {β : Bt} {ds : List D} {us : List V} (r : Reps K H β ds us) : Reps K H β ds.dropLast us.dropLast := by
  rw [List.dropLast_eq_take, List.dropLast_eq_take, r.length]
  exact r.take _
end
end VL
set_option Elab.async false
set_option linter.all false
set_option maxRecDepth 100000
set_option maxHeartbeats 2000000
namespace TB
open PySem PySem.Spec PyProof.Rows L2
/-! ### zip(xs, t), xs a list, t a tuple -/
abbrev zLT1 (h : Heap) (a : Addr) : Heap := h.push { cls := .type "list_iterator", data := .fields #[.ref a, .int 0 0] }
abbrev zLT2 (h : Heap) (a b : Addr) : Heap := (zLT1 h a).push { cls := .type "tuple_iterator", data := .fields #[.ref b, .int 0 0] }
abbrev zLT3 (h : Heap) (a b : Addr) : Heap := (zLT2 h a b).push { cls := .type "tuple", data := .seq #[.ref h.objs.size, .ref (zLT1 h a).objs.size] }
abbrev zLT4 (h : Heap) (a b : Addr) : Heap := (zLT3 h a b).push { cls := .type "tuple", data := .seq #[.none, .none] }
abbrev zLT5 (h : Heap) (a b : Addr) : Heap := (zLT4 h a b).push { cls := .type "zip", data := .fields #[.none, .bool false, .bool false, .ref (zLT2 h a b).objs.size, .ref (zLT3 h a b).objs.size] }
theorem zLT_new (a b : Addr) (xs ys : Array Value) :
    Meets (Builtin.«zip.__new__» ⟨[.type "zip", .ref a, .ref b], []⟩) (fun _ R s => s.heap.IsList a xs ∧ s.heap.IsTuple b ys ∧ R (.ok (.ret (.ref (zLT4 s.heap a b).objs.size))) { s with heap := zLT5 s.heap a b }) :=
  .of_wp fun prog w A R st h => by
    obtain ⟨hp, g, d, tk, os⟩ := st
    obtain ⟨ha, hb, h⟩ := h
    have sub := sub_zip
    have iA : Heap.IsList (Shared.heap ⟨hp, g, d, tk, os⟩) a xs := ha
    have iB : Heap.IsTuple (Shared.heap ⟨hp.push { cls := .type "list_iterator", data := .fields #[.ref a, .int 0 0] }, g, d, tk, os⟩) b ys := hb.push _
    wp_walk using wpAny_pyIter_list iA, wpAny_pyIter_tuple iB
    exact ⟨_, rfl, h⟩
section
variable {prog : Program} {w : World} {A : Around} {E : Value → Shared → Prop} {s : Shared}
theorem call_zLT {a b : Addr} {xs ys : Array Value} {Q : Value → Shared → Prop} (ha : s.heap.IsList a xs) (hb : s.heap.IsTuple b ys)
    (h : ∀ (n : Nat) (g : Heap), n = s.heap.objs.size → IsZip g (n + 4) (n + 2) (n + 3) .none → IsPair g (n + 2) (.ref n) (.ref (n + 1)) → IsPair g (n + 3) .none .none → g.IsListIter n a 0 → g.IsTupleIter (n + 1) b 0 →
      (∀ c o, s.heap.get? c = some o → g.get? c = some o) → Q (.ref (n + 4)) { s with heap := g }) :
    wpAny (model prog w) A (call (.type "zip") [.ref a, .ref b]) Q E s := by
  refine callType_new PySem.F.called_zip (by decide) (PySem.F.typeCall_zip_2 _ _) (PySem.F.newCall_zip_2 _ _) (fun o => PySem.F.args_object_init_3 o _ _) PySem.F.entry_zip_new (zLT_new a b xs ys) ⟨ha, hb, ?_⟩
  have e1 : (zLT1 s.heap a).objs.size = s.heap.objs.size + 1 := Heap.size_push ..
  have e2 : (zLT2 s.heap a b).objs.size = s.heap.objs.size + 2 := by rw [Heap.size_push, e1]
  have e3 : (zLT3 s.heap a b).objs.size = s.heap.objs.size + 3 := by rw [Heap.size_push, e2]
  have e4 : (zLT4 s.heap a b).objs.size = s.heap.objs.size + 4 := by rw [Heap.size_push, e3]
  have g5 : (zLT5 s.heap a b).get? (zLT4 s.heap a b).objs.size = some _ := Heap.get?_push_size _ rfl
  have g4 : (zLT5 s.heap a b).get? (zLT3 s.heap a b).objs.size = some _ := Heap.get?_push_of_some _ (Heap.get?_push_size _ rfl)
  have g3 : (zLT5 s.heap a b).get? (zLT2 s.heap a b).objs.size = some _ := Heap.get?_push_of_some _ (Heap.get?_push_of_some _ (Heap.get?_push_size _ rfl))
  have g2 : (zLT5 s.heap a b).get? (zLT1 s.heap a).objs.size = some _ := Heap.get?_push_of_some _ (Heap.get?_push_of_some _ (Heap.get?_push_of_some _ (Heap.get?_push_size _ rfl)))
  have g1 : (zLT5 s.heap a b).get? s.heap.objs.size = some _ := Heap.get?_push_of_some _ (Heap.get?_push_of_some _ (Heap.get?_push_of_some _ (Heap.get?_push_of_some _ (Heap.get?_push_size _ rfl))))
  show _ ∧ _
  rw [e2, e3, e4] at g5
  rw [e1, e2] at g3
  rw [e3] at g4
  rw [e1] at g2
  rw [e4]
  refine ⟨⟨_, g5, rfl⟩, h _ _ rfl g5 g3 g4 ⟨_, g1, rfl, rfl⟩ ⟨_, g2, rfl, rfl⟩ fun c o x => ?_⟩
  iterate 5 apply Heap.get?_push_of_some
  exact x
end
/-- what a turn over zip(t, xs) is -/
def ItLT (K : PySem.W.Frag) (a b : Addr) : It :=
  ⟨fun i H => ∃ (xs ys : List V) (x y : V), SqL K H a xs ∧ SqT K H b ys ∧ xs[i]? = some x ∧ ys[i]? = some y,
    fun i H v H' => ∃ T x y, v = .ref T ∧ H T = none ∧ H' = upd H T (.tup [x, y]) ∧ (∀ xs, SqL K H a xs → xs[i]? = some x) ∧ ∀ ys, SqT K H b ys → ys[i]? = some y,
    fun i H => ∃ xs ys : List V, SqL K H a xs ∧ SqT K H b ys ∧ (xs.length ≤ i ∨ ys.length ≤ i)⟩
theorem turn_LT {P : Program} {w : World} {K : PySem.W.Frag} {elts : List Expr} {kk : Nat} {tpos : Pos} {a b z TI TO i1 i2 : Addr} (V5 : Five z TI TO i1 i2) (nI : TI ≠ TO ∧ TI ≠ i1 ∧ TI ≠ i2) (na : a ∉ [z, TO, i1, i2]) (nb : b ∉ [z, TO, i1, i2]) :
    Turn P w K (.Tuple elts kk tpos) (ItLT K a b) [z, TI, TO, i1, i2] z (fun i h => IsZip h z TI TO .none ∧ IsPair h TI (.ref i1) (.ref i2) ∧ (∃ x y, IsPair h TO x y) ∧ h.IsListIter i1 a i ∧ h.IsTupleIter i2 b i) where
  mem := by simp
  obj := fun i h st c hc => by
    obtain ⟨isz, pI, ⟨x, y, pO⟩, ⟨o1, e1, _, d1⟩, ⟨o2, e2, _, d2⟩⟩ := st
    have five : c = z ∨ c = TI ∨ c = TO ∨ c = i1 ∨ c = i2 := by simpa using hc
    rcases five with rfl | rfl | rfl | rfl | rfl
    · exact ⟨_, isz, fun v q => nomatch q⟩
    · exact ⟨_, pI, fun v q => nomatch q⟩
    · exact ⟨_, pO, fun v q => nomatch q⟩
    · exact ⟨o1, e1, fun v q => by rw [d1] at q; cases q⟩
    · exact ⟨o2, e2, fun v q => by rw [d2] at q; cases q⟩
  keep := fun i h h' st k => by
    obtain ⟨isz, pI, ⟨x, y, pO⟩, h1, h2⟩ := st
    exact ⟨k _ (by simp) _ isz, k _ (by simp) _ pI, ⟨x, y, k _ (by simp) _ pO⟩, h1.at fun o q => k _ (by simp) o q, h2.at fun o q => k _ (by simp) o q⟩
  item := by
    intro X eP eW eK hc i pins s σ H E I hf st hg
    subst eP eW eK
    obtain ⟨isz, pI, ⟨x0, y0, pO⟩, h1, h2⟩ := st
    obtain ⟨xs, ys, x, y, qx, qy, hx, hy⟩ := hg
    obtain ⟨its, rv, p1, _⟩ := I.list qx
    obtain ⟨jts, rw_, p2, _⟩ := I.tuple qy
    obtain ⟨u, at_u, ru⟩ := rv.get hx
    obtain ⟨v, hv, rv2⟩ := rw_.get hy
    have zl : z < s.heap.objs.size := Heap.lt_size isz
    have l1 : i1 < s.heap.objs.size := by obtain ⟨_, e, _⟩ := h1; exact Heap.lt_size e
    have l2 : i2 < s.heap.objs.size := by obtain ⟨_, e, _⟩ := h2; exact Heap.lt_size e
    have na' : a ≠ z ∧ a ≠ TO ∧ a ≠ i1 ∧ a ≠ i2 := by simpa using na
    have nb' : b ≠ z ∧ b ≠ TO ∧ b ≠ i1 ∧ b ≠ i2 := by simpa using nb
    refine zip_step (T1 := fun g => g.IsListIter i1 a (i + 1)) (T2 := fun g => g.IsTupleIter i2 b (i + 1)) V5 isz pI pO ⟨l1, l2⟩ (next_lst h1 p1.isList (x := u) (by simpa using at_u) (by simpa using V5.c) (by simpa using na'.1))
      (next_tup h2 p2 (x := v) (by simpa using hv) (by simpa using ⟨V5.d, V5.g.symm, V5.f.symm⟩) (by simpa using ⟨nb'.1, nb'.2.2.1, nb'.2.1⟩)) (fun g g' t k => t.at k) (fun g g' t k => t.at k) fun g z' TO' t1 t2 hT hsz hk => ?_
    refine ⟨_, rfl, wpAny_letOwnedTupleGo_zip (s := { s with heap := g }) z' fun g2 z2 sb => ?_⟩
    have hT2 : g2.get? s.heap.objs.size = some { cls := .type "tuple", data := .seq #[u, v] } := (sb.2 _ (Nat.ne_of_gt zl)).trans hT
    have new : ObjOk X.prog X.w (upd H s.heap.objs.size (.tup [x, y])) g2 s.heap.objs.size (.tup [x, y]) := ⟨by show 2 ≤ sizeLine; decide, [u, v], .cons ru (.cons rv2 .nil), ⟨_, hT2, rfl, _, rfl⟩⟩
    have I1 : Inv X pins σ (upd H s.heap.objs.size (.tup [x, y])) { s with heap := g2 } := by
      refine I.turnedNew (t' := s.toks) (ch := [z, TI, TO, i1, i2]) (fun c o hb q => ?_) hf (Nat.le_refl _) new
      have n5 : c ≠ z ∧ c ≠ TI ∧ c ≠ TO ∧ c ≠ i1 ∧ c ≠ i2 := by simpa using hb
      exact (sb.2 c n5.1).trans (hk c o (by simpa using ⟨n5.1, n5.2.2.1, n5.2.2.2.1, n5.2.2.2.2⟩) q)
    have up : ∀ c o, c ≠ z → g.get? c = some o → g2.get? c = some o := fun c o n q => (sb.2 c n).trans q
    refine ⟨.ref s.heap.objs.size, _, I1, rfl, ⟨_, x, y, rfl, I.hok.fresh (Nat.le_refl _), rfl, fun l hl => by rw [I.list_inj hl qx]; exact hx, fun l hl => by rw [I.tuple_inj hl qy]; exact hy⟩, ⟨z2, ?_, ⟨u, v, up _ _ V5.b TO'⟩, t1.at fun o q => up _ o V5.c q, t2.at fun o q => up _ o V5.d q⟩, fun c hcm => ?_⟩
    · exact up _ _ V5.a (hk _ _ (by simpa using ⟨V5.a, nI.1, nI.2.1, nI.2.2⟩) pI)
    · have five : c = z ∨ c = TI ∨ c = TO ∨ c = i1 ∨ c = i2 := by simpa using hcm
      have lt : c < s.heap.objs.size := by
        rcases five with rfl | rfl | rfl | rfl | rfl
        · exact zl
        · exact Heap.lt_size pI
        · exact Heap.lt_size pO
        · exact l1
        · exact l2
      rw [upd_ne (Nat.ne_of_lt lt)]
      exact (hf c hcm).1
  done := by
    intro X eP eW eK hc i pins s σ H E I hf st hg
    subst eP eW eK
    obtain ⟨isz, pI, ⟨x0, y0, pO⟩, h1, h2⟩ := st
    obtain ⟨xs, ys, qx, qy, hend⟩ := hg
    obtain ⟨its, rv, p1, _⟩ := I.list qx
    obtain ⟨jts, rw_, p2, _⟩ := I.tuple qy
    have m1 := rv.length
    have m2 := rw_.length
    have na' : a ≠ z ∧ a ≠ TO ∧ a ≠ i1 ∧ a ≠ i2 := by simpa using na
    have nb' : b ≠ z ∧ b ≠ TO ∧ b ≠ i1 ∧ b ≠ i2 := by simpa using nb
    have n : NextEnds X.prog X.w s [z] i1 ∨ (∃ (x : Value) (T : Heap → Prop), NextIs X.prog X.w s [z] i1 x T) ∧ NextEnds X.prog X.w s [z, i1, TO] i2 := by
      by_cases c : xs.length ≤ i
      · exact .inl (ends_lst h1 p1.isList (by simp; omega) (by simpa using V5.c) (by simpa using na'.1))
      · have c2 : ys.length ≤ i := by omega
        exact .inr ⟨⟨its[i]'(by omega), _, next_lst h1 p1.isList (by simp) (by simpa using V5.c) (by simpa using na'.1)⟩, ends_tup h2 p2 (by simp; omega) (by simpa using ⟨V5.d, V5.g.symm, V5.f.symm⟩) (by simpa using ⟨nb'.1, nb'.2.2.1, nb'.2.1⟩)⟩
    refine zip_stop (I.ok.hd hc) V5 isz pI pO n fun g hk => ⟨rfl, I.turnedL (t' := s.toks) (ch := [z, TI, TO, i1, i2]) (fun c o hb q => ?_) hf⟩
    have n5 : c ≠ z ∧ c ≠ TI ∧ c ≠ TO ∧ c ≠ i1 ∧ c ≠ i2 := by simpa using hb
    exact hk c o (by simpa using ⟨n5.1, n5.2.2.1, n5.2.2.2.1, n5.2.2.2.2⟩) q
  self := fun _ _ _ _ _ st h => wpAny_pyIter_zip st.1 h
def iLT (K : PySem.W.Frag) (ta : TA) : TI := fun σ H R => ta σ H fun vs H1 => ∃ a b xs ys, vs = [.ref a, .ref b] ∧ SqL K H1 a xs ∧ SqT K H1 b ys ∧ R (ItLT K a b) H1
theorem pi_zipLT {X : Cx} {e e2 : Expr} {ta : TA} {p pos tpos : Pos} {elts : List Expr} {kk : Nat} (hg : Gl X "zip") (hm : X.mg "zip" = none) (ha : PA X [e, e2] ta)
    (hs : starEach [e, e2] X.env = (false, eval e X.env) :: starEach [e2] X.env := by rfl) (hpl : (backTo pos (starEach [e2] X.env)).any (·.1) = false := by rfl) : PI X (.Tuple elts kk tpos) (.Call (.Name "zip" p) [e, e2] [] pos) (iLT X.K ta) := by
  refine ⟨fun pins s0 σ H R I h => ?_⟩
  refine Call_ (ld_blt I hg hm PyProof.Rows.boot_zip (PyProof.Rows.callWith_type1 (thn (ha.run pos pins s0 σ H _ I h) fun us u ⟨vs, H1, I1, r1, q1⟩ => ?_) hs hpl))
  obtain ⟨a, b, xs, ys, rfl, qx, qy, q⟩ := q1
  cases r1 with
  | cons r rr =>
    cases rr with
    | cons r' rr =>
      cases rr
      cases r
      cases r'
      obtain ⟨its, rv, p1, _⟩ := I1.list qx
      obtain ⟨jts, rw_, p2, _⟩ := I1.tuple qy
      have la : a < u.heap.objs.size := p1.lt
      have lb : b < u.heap.objs.size := by obtain ⟨o, ho, _⟩ := id p2; exact Heap.lt_size ho
      refine call_zLT (xs := its.toArray) p1.isList p2 fun n g hn hz hTI hTO h1 h2 hk => wpAny_pyIter_zip hz ?_
      have I2 : Inv X pins σ H1 { u with heap := g } := I1.kept (t' := u.toks) hk
      have fr : ∀ c, c ∈ [n + 4, n + 2, n + 3, n, n + 1] → FpOk X pins H1 c := fun c hcm => by
        have five : c = n + 4 ∨ c = n + 2 ∨ c = n + 3 ∨ c = n ∨ c = n + 1 := by simpa using hcm
        have le : u.heap.objs.size ≤ c := by rw [← hn]; omega
        exact I1.fpOk le (I1.hok.fresh le)
      refine ⟨n + 4, [n + 4, n + 2, n + 3, n, n + 1], _, _, H1, rfl, I2, turn_LT (z := n + 4) (TI := n + 2) (TO := n + 3) (i1 := n) (i2 := n + 1) (five_at n) (six_at n) (five_out (by rw [hn]; exact la)) (five_out (by rw [hn]; exact lb)), ⟨hz, hTI, ⟨_, _, hTO⟩, h1, h2⟩, fr, q⟩
section
variable {K : PySem.W.Frag} {a b : Addr} {xs ys : List V}
theorem walk_LT {n : Nat} (hn : n = min xs.length ys.length) : Walk (ItLT K a b) n (fun H => SqL K H a xs ∧ SqT K H b ys) (YPair (fun i => xs[i]?) (fun i => ys[i]?)) := by
  refine ⟨fun i H hi q => ?_, fun H q => ?_, fun i H x H' hi q y => ?_⟩
  · have b1 : i < xs.length := by omega
    have b2 : i < ys.length := by omega
    exact ⟨xs, ys, xs[i], ys[i], q.1, q.2, by simp [b1], by simp [b2]⟩
  · exact ⟨xs, ys, q.1, q.2, by omega⟩
  · obtain ⟨T, u, v, c1, c2, c3, c4, c5⟩ := y
    exact ⟨T, u, v, c1, c2, c3, c4 xs q.1, c5 ys q.2⟩
end
end TB
set_option Elab.async false
set_option linter.all false
set_option maxRecDepth 100000
/-! The value layer: targets, statements, loops, comprehensions. -/
namespace VL
open PySem PySem.Spec PyProof.Rows L2 TB
/-! ### targets -/
abbrev rE (K : PySem.W.Frag) (σ : L2.St) (ws : List Nat) : Hp → Bt → En → L2.St → Prop := fun H β env σ2 => EnvR K H β env σ2 ∧ σ2.length = σ.length ∧ ∀ j, j ∉ ws → σ2[j]? = σ[j]?
def tVG (K : PySem.W.Frag) (mg : MG) (E : XK) (ws : List Nat) (g : D → En → AS → Out En) : TG := fun v σ H Q => ∃ (β : Bt) (env : En) (st : AS) (d : D), EnvR K H β env σ ∧ Sim K mg β st H ∧ Rep K H β d v ∧ Post K mg (rE K σ ws) E β H Q (g d env st)
def tVGs (K : PySem.W.Frag) (mg : MG) (E : XK) (ws : List Nat) (g : List D → En → AS → Out En) : TGs := fun vs σ H Q => ∃ (β : Bt) (env : En) (st : AS) (ds : List D), EnvR K H β env σ ∧ Sim K mg β st H ∧ Reps K H β ds vs ∧ Post K mg (rE K σ ws) E β H Q (g ds env st)
/-- a target; the slots that it fills -/
abbrev VG (X : Cx) (E : XK) (tg : Expr) (ws : List Nat) (g : D → En → AS → Out En) : Prop := PG X tg (tVG X.K X.mgw E ws g)
abbrev VGs (X : Cx) (E : XK) (tgs : List Expr) (ws : List Nat) (g : List D → En → AS → Out En) : Prop := PGs X tgs (tVGs X.K X.mgw E ws g)
theorem weakG {X : Cx} {e : Expr} {t t' : TG} (h : PG X e t) (w : ∀ v σ H Q, t' v σ H Q → t v σ H Q) : PG X e t' := ⟨fun pins s σ H v u Q I r q => h.run pins s σ H v u Q I r (w v σ H Q q)⟩
theorem weakGs {X : Cx} {e : List Expr} {t t' : TGs} (h : PGs X e t) (w : ∀ v σ H Q, t' v σ H Q → t v σ H Q) : PGs X e t' := ⟨fun pins s σ H v u Q I r q => h.run pins s σ H v u Q I r (w v σ H Q q)⟩
@[simp] def kName (i : Nat) (d : D) (env : En) (st : AS) : Out En := .ok (env.set i (some d)) st
@[simp] def kNil (ds : List D) (env : En) (st : AS) : Out En := match ds with
  | [] => .ok env st
  | _ :: _ => .bad
@[simp] def kCons (g : D → En → AS → Out En) (gs : List D → En → AS → Out En) (ds : List D) (env : En) (st : AS) : Out En := match ds with
  | [] => .bad
  | d :: r => (g d env st).bind fun env st => gs r env st
@[simp] def kTup (n : Nat) (gs : List D → En → AS → Out En) (d : D) (env : En) (st : AS) : Out En := match d with
  | .tup ds => if ds.length = n then gs ds env st else .bad
  | .ctp ds => if ds.length = n then gs ds env st else .bad
  | _ => .bad
section
variable {X : Cx} {E : XK} {e : Expr} {es : List Expr} {g : D → En → AS → Out En} {gs : List D → En → AS → Out En} {pos : Pos}
theorem vg_name {i : Nat} {x : Str} (hN : X.N.Nodup) (hi : X.N[i]? = some x) (hx : Loc X.env.scope x) (hf : X.fn x = true ∨ X.env.scope.names.lookup x = some .local := by first | exact .inl rfl | exact .inr rfl | assumption) : VG X E (.Name x pos) [i] (kName i) :=
  weakG (pg_name hN hi hx hf) fun v σ H Q ⟨β, env, st, d, he, hs, r, h⟩ => h.here hs ⟨he.set r i, by simp, fun j hj => List.getElem?_set_ne (fun z => hj (by simp [z]))⟩
theorem vgs_nil : VGs X E [] [] kNil := weakGs pgs_nil fun vs σ H Q ⟨β, env, st, ds, he, hs, r, h⟩ => by
  cases r with
  | nil => exact ⟨rfl, h.here hs ⟨he, rfl, fun _ _ => rfl⟩⟩
  | cons _ _ => exact h.elim
theorem post_step {K : PySem.W.Frag} {mg : MG} {α ρ γ τ : Type} {R : Hp → Bt → α → ρ → Prop} {R' : Hp → Bt → γ → τ → Prop} {β : Bt} {H : Hp} {Q : τ → Hp → Prop} {Q' : ρ → Hp → Prop} {o : Out α} {k : α → AS → Out γ} (h : Post K mg R' E β H Q (o.bind k))
    (hk : ∀ a st1 β1 H1 u, Ext β H β1 H1 → Sim K mg β1 st1 H1 → R H1 β1 a u → Post K mg R' E β1 H1 Q (k a st1) → Q' u H1) : Post K mg R E β H Q' o := by
  cases o with
  | ok a st => exact fun β1 H1 u x s r => hk a st β1 H1 u x s r (Post.ext x h)
  | exc c fs st => exact h
  | bad => exact h
theorem vgs_cons {w1 w2 : List Nat} (h1 : VG X E e w1 g) (h2 : VGs X E es w2 gs) (hs : (assignEach (e :: es) X.env).map (·.2) = assign e X.env :: (assignEach es X.env).map (·.2) := by rfl) : VGs X E (e :: es) (w1 ++ w2) (kCons g gs) :=
  weakGs (pgs_cons h1 h2 hs) fun vs σ H Q ⟨β, env, st, ds, he, hS, r, h⟩ => by
    cases r with
    | nil => exact h.elim
    | cons r t =>
      refine ⟨_, _, rfl, β, env, st, _, he, hS, r, ?_⟩
      refine post_step h fun env1 st1 β1 H1 σ1 x s e1 h1 => ⟨β1, env1, st1, _, e1.1, s, t.ext x, ?_⟩
      cases o : gs _ env1 st1 with
      | bad => rw [o] at h1; exact h1
      | exc c fs st2 => rw [o] at h1; exact h1
      | ok env2 st2 =>
        rw [o] at h1
        exact fun β2 H2 σ2 x2 s2 e2 => h1 β2 H2 σ2 x2 s2 ⟨e2.1, e2.2.1.trans e1.2.1, fun j hj => (e2.2.2 j fun z => hj (List.mem_append_right _ z)).trans (e1.2.2 j fun z => hj (List.mem_append_left _ z))⟩
theorem vg_tup {k n : Nat} {ws : List Nat} (hc : X.calm = true) (h : VGs X E es ws gs) (hn : (assignEach es X.env).length = n := by rfl) (hst : (assignEach es X.env).findIdx? (·.1) = none := by rfl) : VG X E (.Tuple es k pos) ws (kTup n gs) :=
  weakG (pg_tup hc h hn hst) fun v σ H Q ⟨β, env, st, d, he, hs, r, h⟩ => by
    unfold kTup at h
    cases r with
    | tup nm e r =>
      obtain ⟨hl, h⟩ := h.ite
      exact ⟨_, _, rfl, .inl (.inl e), by rw [r.length]; exact hl, β, env, st, _, he, hs, r, h⟩
    | ctp e r =>
      obtain ⟨hl, h⟩ := h.ite
      exact ⟨_, _, rfl, e.sq, by rw [r.length]; exact hl, β, env, st, _, he, hs, r, h⟩
    | _ => exact h.elim
/-- a list unpacked -/
@[simp] def kLst (n : Nat) (gs : List D → En → AS → Out En) (d : D) (env : En) (st : AS) : Out En := match listOf st d with
  | some ds => if ds.length = n then gs ds env st else .bad
  | none => .bad
/-! a[i] = v -/
def putKD {κ : Type} [DecidableEq κ] (kvs : List (κ × D)) (k : κ) (d : D) : List (κ × D) :=
  if (kvs.any fun kv => decide (kv.1 = k)) = true then kvs.map fun kv => if kv.1 = k then (kv.1, d) else kv else kvs ++ [(k, d)]
@[simp] def setD (o i v : D) (st : AS) : Out Unit := match o with
  | .ref n => (match st[n]? with
    | some (.lst ds) => (match i with
      | .int k => (match ixN ds.length k with
        | some j => .ok () (st.set n (.lst (ds.set j v)))
        | none => .bad)
      | _ => .bad)
    | some (.dct kvs) => (match keyD i with
      | some k => if kvs.length < sizeLine then .ok () (st.set n (.dct (putKD kvs k v))) else .bad
      | none => .bad)
    | some (.dtt kvs) => (match i with
      | .tup ks => (match keysD ks with
        | some k => if kvs.length < sizeLine then .ok () (st.set n (.dtt (putKD kvs k v))) else .bad
        | none => .bad)
      | _ => .bad)
    | _ => .bad)
  | _ => .bad
def rSetD : TSet := fun o i v H Q => ∃ a H', o = .ref a ∧ DPut H a i v H' ∧ Q H'
theorem set_dict (hu : X.A.units + 1 < cLine) : PSet X rSetD := by
  intro pins s σ H o i v ov iv u Q I ro ri rv h
  obtain ⟨a, H', rfl, g, q⟩ := h
  obtain rfl : ov = Value.ref a := ro
  exact d_setItem hu I g ri rv fun s' I' => ⟨H', I', q⟩
theorem psetOr {t t' : TSet} (h : PSet X t) (h' : PSet X t') : PSet X (fun o i v H Q => t o i v H Q ∨ t' o i v H Q) := by
  intro pins s σ H o i v ov iv u Q I ro ri rv q
  rcases q with q | q
  · exact h pins s σ H o i v ov iv u Q I ro ri rv q
  · exact h' pins s σ H o i v ov iv u Q I ro ri rv q
theorem RepK.put {κ : Type} [DecidableEq κ] {K : PySem.W.Frag} {H : Hp} {β : Bt} {kvs : List (κ × D)} {us : List (κ × V)} (h : RepK K H β kvs us) {d : D} {u : V} (r : Rep K H β d u) (k : κ) : RepK K H β (putKD kvs k d) (putK us k u) := by
  have ha : (us.any fun kv => decide (kv.1 = k)) = kvs.any fun kv => decide (kv.1 = k) := by
    rw [valV_any]
    exact h.any k
  unfold putKD putK
  rw [ha]
  split
  · have go : ∀ {kvs : List (κ × D)} {us : List (κ × V)}, RepK K H β kvs us → RepK K H β (kvs.map fun kv => if kv.1 = k then (kv.1, d) else kv) (us.map fun kv => if kv.1 = k then (kv.1, u) else kv) := by
      intro kvs
      induction kvs with
      | nil =>
        intro us h
        have : us = [] := List.length_eq_zero_iff.mp h.length
        subst this
        exact h
      | cons kv kvs ih =>
        intro us h
        cases us with
        | nil => exact absurd h.length (by simp)
        | cons w us =>
          obtain ⟨h1, h2⟩ := h
          simp only [List.map_cons, List.cons.injEq] at h1
          cases h2 with
          | cons r1 t =>
            obtain ⟨i1, i2⟩ := ih (us := us) ⟨h1.2, t⟩
            simp only [List.map_cons]
            by_cases e : kv.1 = k
            · have e' : w.1 = k := h1.1.symm.trans e
              rw [if_pos e, if_pos e']
              exact ⟨by simp only [List.map_cons, i1, h1.1], .cons r i2⟩
            · have e' : ¬ w.1 = k := fun z => e (h1.1.trans z)
              rw [if_neg e, if_neg e']
              exact ⟨by simp only [List.map_cons, i1, h1.1], .cons r1 i2⟩
    exact go h
  · refine ⟨?_, ?_⟩
    · rw [List.map_append, List.map_append, h.1]
      rfl
    · rw [List.map_append, List.map_append]
      exact h.2.append (.cons r .nil)
theorem set_ok {K : PySem.W.Frag} {mg : MG} {β : Bt} {H : Hp} {st : AS} {o i v : D} {uo ui uv : V} {Q : Hp → Prop} (S : Sim K mg β st H) (ro : Rep K H β o uo) (ri : Rep K H β i ui) (rv : Rep K H β v uv)
    (h : Post (ρ := Unit) K mg (fun _ _ _ _ => True) E β H (fun _ H' => Q H') (setD o i v st)) : rSetL uo ui uv H Q ∨ rSetD uo ui uv H Q := by
  unfold setD at h
  cases ro with
  | ref er =>
    rename_i n p
    have hm : p ∈ β.l := List.mem_of_getElem? er
    dsimp only at h
    split at h
    · rename_i ds e2
      cases ri with
      | int k =>
        dsimp only at h
        split at h
        · rename_i j ej
          obtain ⟨us, e3, q⟩ := S.cell n p _ er e2
          refine .inl ⟨p, us, k, j, rfl, rfl, e3, by rw [q.length]; exact ej, ?_⟩
          have x : Ext β H β (upd H p (.lst (us.set j uv))) := ext_put hm e3
          have S' := S.put (o := .lst (us.set j uv)) (c := .lst (ds.set j v)) er ⟨_, upd_same, (Reps.set rv j q).ext x⟩
          exact h β _ () x S' trivial
        · exact h.elim
      | _ => exact h.elim
    · rename_i kvs e2
      split at h
      · rename_i k ek
        obtain ⟨hl, h⟩ := h.ite
        obtain ⟨us, e3, q⟩ := S.cell n p _ er e2
        rw [ri.key ek]
        refine .inr ⟨p, _, rfl, DPut.k e3 (by rw [q.length]; exact hl), ?_⟩
        have x : Ext β H β (upd H p (.dK (putK us k uv))) := ext_put hm e3
        have S' := S.put (o := .dK (putK us k uv)) (c := .dct (putKD kvs k v)) er ⟨_, upd_same, (q.put rv k).ext x⟩
        exact h β _ () x S' trivial
      · exact h.elim
    · rename_i kvs e2
      cases ri with
      | tup n2 e4 r4 =>
        dsimp only at h
        split at h
        · rename_i k ek
          obtain ⟨hl, h⟩ := h.ite
          obtain ⟨us, e3, q⟩ := S.cell n p _ er e2
          have z := r4.keys ek
          subst z
          refine .inr ⟨p, _, rfl, DPut.t e3 e4 (by rw [q.length]; exact hl), ?_⟩
          have x : Ext β H β (upd H p (.dT (putK us k uv))) := ext_put hm e3
          have S' := S.put (o := .dT (putK us k uv)) (c := .dtt (putKD kvs k v)) er ⟨_, upd_same, (q.put rv k).ext x⟩
          exact h β _ () x S' trivial
        · exact h.elim
      | _ => exact h.elim
    · exact h.elim
  | _ => exact h.elim
@[simp] def kSub (fo fi : En → AS → Out D) (d : D) (env : En) (st : AS) : Out En := (fo env st).bind fun o st => (fi env st).bind fun i st => (setD o i d st).bind fun _ st => .ok env st
theorem vg_sub (hu : X.A.units + 65 < cLine) {o i : Expr} {fo fi : En → AS → Out D} (ho : VE X E o fo) (hi : VE X E i fi)
    (ha : ∀ v, assign (.Subscript o i pos) X.env v = (do
      let ov ← holding [v] (eval o X.env)
      let iv ← holding [v, ov] (eval i X.env)
      standAt pos
      holding [v, ov, iv] (setItem ov iv v)
      release [v, ov, iv] []) := by intro _; rfl) : VG X E (.Subscript o i pos) [] (kSub fo fi) :=
  weakG (pg_sub ho hi (psetOr set_list (set_dict (Nat.lt_of_le_of_lt (by omega) hu))) ha) fun v σ H Q ⟨β, env, st, d, he, hs, r, h⟩ => by
    refine tG_bind he hs h fun x st1 β1 H1 u x1 s1 e1 r1 h1 => ?_
    refine tG_bind e1 s1 h1 fun y st2 β2 H2 w x2 s2 e2 r2 h2 => ?_
    refine set_ok (E := E) s2 (r1.ext x2) r2 ((r.ext x1).ext x2) ?_
    refine post_step (R := fun _ _ _ _ => True) h2 fun _ st3 β3 H3 _ x3 s3 _ h3 => h3.here s3 ⟨e2.ext x3, rfl, fun _ _ => rfl⟩
end
/-! ### statements -/
inductive Fl where
  | nx (env : En) (s : AS) | rt (d : D) (s : AS) | bk (env : En) (s : AS) | ct (env : En) (s : AS)
  | exc (c : Str) (fs : List (Str × D)) (s : AS) | bad
def PostS (K : PySem.W.Frag) (mg : MG) (E : XK) (β : Bt) (H : Hp) (De : Ends) : Fl → Prop
  | .nx env st => ∀ β' H' σ', Ext β H β' H' → Sim K mg β' st H' → EnvR K H' β' env σ' → De.nx σ' H'
  | .bk env st => ∀ β' H' σ', Ext β H β' H' → Sim K mg β' st H' → EnvR K H' β' env σ' → De.bk σ' H'
  | .ct env st => ∀ β' H' σ', Ext β H β' H' → Sim K mg β' st H' → EnvR K H' β' env σ' → De.ct σ' H'
  | .rt d st => ∀ β' H' u, Ext β H β' H' → Sim K mg β' st H' → Rep K H' β' d u → De.rt u H'
  | .exc c fs st => ∀ β' H' cls d, Ext β H β' H' → Sim K mg β' st H' → XRep K mg H' β' c fs cls d → E cls d H'
  | .bad => False
def tVS (K : PySem.W.Frag) (mg : MG) (E : XK) (f : En → AS → Fl) : TS := fun De σ H => ∃ (β : Bt) (env : En) (st : AS), EnvR K H β env σ ∧ Sim K mg β st H ∧ PostS K mg E β H De (f env st)
abbrev VS (X : Cx) (E : XK) (s : Stmt) (f : En → AS → Fl) : Prop := PS X s (tVS X.K X.mgw E f)
abbrev VSs (X : Cx) (E : XK) (s : List Stmt) (f : En → AS → Fl) : Prop := PSs X s (tVS X.K X.mgw E f)
def Out.fl {α : Type} (o : Out α) (k : α → AS → Fl) : Fl := match o with
  | .ok a s => k a s
  | .exc c fs s => .exc c fs s
  | .bad => .bad
@[simp] theorem Out.fl_ok {α : Type} (a : α) (s : AS) (k : α → AS → Fl) : (Out.ok a s).fl k = k a s := rfl
@[simp] theorem Out.fl_exc {α : Type} (c : Str) (fs : List (Str × D)) (s : AS) (k : α → AS → Fl) : (Out.exc c fs s : Out α).fl k = .exc c fs s := rfl
@[simp] theorem Out.fl_bad {α : Type} (k : α → AS → Fl) : (Out.bad : Out α).fl k = .bad := rfl
section
variable {K : PySem.W.Frag} {mg : MG} {E : XK} {β β' : Bt} {H H' : Hp} {De : Ends}
theorem PostS.ext {f : Fl} (x : Ext β H β' H') (h : PostS K mg E β H De f) : PostS K mg E β' H' De f := by
  cases f with
  | nx env st => exact fun β2 H2 u x2 s r => h β2 H2 u (x.trans x2) s r
  | rt d st => exact fun β2 H2 u x2 s r => h β2 H2 u (x.trans x2) s r
  | bk env st => exact fun β2 H2 u x2 s r => h β2 H2 u (x.trans x2) s r
  | ct env st => exact fun β2 H2 u x2 s r => h β2 H2 u (x.trans x2) s r
  | exc c fs st => exact fun β2 H2 cls d x2 s r => h β2 H2 cls d (x.trans x2) s r
  | bad => exact h
theorem fl_post {α ρ : Type} {R : Hp → Bt → α → ρ → Prop} {Q' : ρ → Hp → Prop} {o : Out α} {k : α → AS → Fl} (h : PostS K mg E β H De (o.fl k))
    (hk : ∀ a st1 β1 H1 u, Ext β H β1 H1 → Sim K mg β1 st1 H1 → R H1 β1 a u → PostS K mg E β1 H1 De (k a st1) → Q' u H1) : Post K mg R E β H Q' o := by
  cases o with
  | ok a st => exact fun β1 H1 u x s r => hk a st β1 H1 u x s r (PostS.ext x h)
  | exc c fs st => exact h
  | bad => exact h
theorem fl_bind {α ρ : Type} {R : Hp → Bt → α → ρ → Prop} {Q' : ρ → Hp → Prop} {f : En → AS → Out α} {k : α → AS → Fl} {env : En} {st : AS} {σ : L2.St} (he : EnvR K H β env σ) (hs : Sim K mg β st H) (h : PostS K mg E β H De ((f env st).fl k))
    (hk : ∀ a st1 β1 H1 u, Ext β H β1 H1 → Sim K mg β1 st1 H1 → EnvR K H1 β1 env σ → R H1 β1 a u → PostS K mg E β1 H1 De (k a st1) → Q' u H1) : tG K mg R E f σ H Q' :=
  ⟨β, env, st, he, hs, fl_post h fun a st1 β1 H1 u x s r q => hk a st1 β1 H1 u x s (he.ext x) r q⟩
end
@[simp] def sNext (env : En) (st : AS) : Fl := .nx env st
def Fl.seq (o : Fl) (g : En → AS → Fl) : Fl := match o with
  | .nx env st => g env st
  | .rt d st => .rt d st
  | .bk env st => .bk env st
  | .ct env st => .ct env st
  | .exc c fs st => .exc c fs st
  | .bad => .bad
@[simp] theorem Fl.seq_nx (env : En) (st : AS) (g : En → AS → Fl) : (Fl.nx env st).seq g = g env st := rfl
@[simp] theorem Fl.seq_rt (d : D) (st : AS) (g : En → AS → Fl) : (Fl.rt d st).seq g = .rt d st := rfl
@[simp] theorem Fl.seq_bk (env : En) (st : AS) (g : En → AS → Fl) : (Fl.bk env st).seq g = .bk env st := rfl
@[simp] theorem Fl.seq_ct (env : En) (st : AS) (g : En → AS → Fl) : (Fl.ct env st).seq g = .ct env st := rfl
@[simp] theorem Fl.seq_exc (c : Str) (fs : List (Str × D)) (st : AS) (g : En → AS → Fl) : (Fl.exc c fs st).seq g = .exc c fs st := rfl
@[simp] theorem Fl.seq_bad (g : En → AS → Fl) : (Fl.bad).seq g = .bad := rfl
@[simp] def sSeq (f g : En → AS → Fl) (env : En) (st : AS) : Fl := (f env st).seq g
@[simp] def sBreak (env : En) (st : AS) : Fl := .bk env st
@[simp] def sCont (env : En) (st : AS) : Fl := .ct env st
@[simp] def sBad : En → AS → Fl := fun _ _ => .bad
@[simp] def sExpr (f : En → AS → Out D) (env : En) (st : AS) : Fl := (f env st).fl fun _ st => .nx env st
@[simp] def sRet (f : En → AS → Out D) (env : En) (st : AS) : Fl := (f env st).fl fun d st => .rt d st
@[simp] def sIf (c : En → AS → Out Bool) (f g : En → AS → Fl) (env : En) (st : AS) : Fl := (c env st).fl fun b st => if b = true then f env st else g env st
@[simp] def sSet (i : Nat) (f : En → AS → Out D) (env : En) (st : AS) : Fl := (f env st).fl fun d st => .nx (env.set i (some d)) st
@[simp] def sAsg (f : En → AS → Out D) (g : D → En → AS → Out En) (env : En) (st : AS) : Fl := (f env st).fl fun d st => (g d env st).fl fun env st => .nx env st
@[simp] def sPar (i j : Nat) (f : En → AS → Out (List D)) (env : En) (st : AS) : Fl := (f env st).fl fun ds st => match ds with
  | [a, b] => .nx ((env.set i (some a)).set j (some b)) st
  | _ => .bad
@[simp] def sPar3 (i j l : Nat) (f : En → AS → Out (List D)) (env : En) (st : AS) : Fl := (f env st).fl fun ds st => match ds with
  | [a, b, c] => .nx (((env.set i (some a)).set j (some b)).set l (some c)) st
  | _ => .bad
section
variable {X : Cx} {E : XK} {s : Stmt} {ss : List Stmt} {f g : En → AS → Fl} {e : Expr} {fe : En → AS → Out D} {pos : Pos}
theorem vss_nil : VSs X E [] sNext := weakSs pss_nil fun De σ H ⟨β, env, st, he, hs, h⟩ => h β H σ (Ext.refl _ _) hs he
theorem vss_one (h : VS X E s f) : VSs X E [s] f := pss_one h
theorem vss_cons (h1 : VS X E s f) (h2 : VSs X E ss g) : VSs X E (s :: ss) (sSeq f g) := by
  refine weakSs (pss_cons h1 h2) fun De σ H ⟨β, env, st, he, hs, h⟩ => ⟨β, env, st, he, hs, ?_⟩
  unfold sSeq Fl.seq at h
  cases e : f env st with
  | nx env1 st1 =>
    rw [e] at h
    exact fun β1 H1 σ1 x s1 e1 => ⟨β1, env1, st1, e1, s1, PostS.ext x h⟩
  | rt d st1 => rw [e] at h; exact h
  | bk d st1 => rw [e] at h; exact h
  | ct d st1 => rw [e] at h; exact h
  | exc c fs st1 => rw [e] at h; exact h
  | bad => rw [e] at h; exact h
theorem vs_expr (he : VE X E e fe) (hs : swapsWith e none pos.line X.env = pure false := by rfl) : VS X E (.Expr e pos) (sExpr fe) :=
  weakS (ps_expr he hs) fun De σ H ⟨β, env, st, he, hs, h⟩ => fl_bind he hs h fun a st1 β1 H1 u x s1 e1 r1 h1 => h1 β1 H1 σ (Ext.refl _ _) s1 e1
theorem vs_ret (he : VE X E e fe) : VS X E (.Return (some e) pos) (sRet fe) :=
  weakS (ps_ret he) fun De σ H ⟨β, env, st, he, hs, h⟩ => fl_bind he hs h fun a st1 β1 H1 u x s1 e1 r1 h1 => h1 β1 H1 u (Ext.refl _ _) s1 r1
theorem vs_if {c : Expr} {a b : List Stmt} {fc : En → AS → Out Bool} (hc : VT X E c fc) (ha : VSs X E a f) (hb : VSs X E b g) : VS X E (.If c a b pos) (sIf fc f g) :=
  weakS (ps_if hc ha hb) fun De σ H ⟨β, env, st, he, hs, h⟩ => fl_bind he hs h fun k st1 β1 H1 u x s1 e1 r1 h1 => by
    obtain rfl : k = u := r1
    cases k with
    | true => exact ⟨β1, env, st1, e1, s1, h1⟩
    | false => exact ⟨β1, env, st1, e1, s1, h1⟩
theorem vs_set {i : Nat} {x : Str} {pos' : Pos} (hN : X.N.Nodup) (hi : X.N[i]? = some x) (hx : Loc X.env.scope x) (he : VE X E e fe) (hs : swapsWith e (some (.Name x pos')) pos.line X.env = pure false := by rfl) (hf : X.fn x = true ∨ X.env.scope.names.lookup x = some .local := by first | exact .inl rfl | exact .inr rfl | assumption) :
    VS X E (.Assign [.Name x pos'] e pos) (sSet i fe) :=
  weakS (ps_set hN hi hx he hs hf) fun De σ H ⟨β, env, st, he, hs, h⟩ => fl_bind he hs h fun a st1 β1 H1 u x s1 e1 r1 h1 => h1 β1 H1 _ (Ext.refl _ _) s1 (e1.set r1 i)
theorem vs_asg {tg : Expr} {gt : D → En → AS → Out En} {ws : List Nat} (he : VE X E e fe) (hg : VG X E tg ws gt) (hs : swapsWithSole [tg] e pos.line X.env = pure false := by rfl) (hw : swappedStores [tg] e X.env = pure none := by rfl)
    (h1 : (assignEach [tg] X.env).map (·.2) = [assign tg X.env] := by rfl) : VS X E (.Assign [tg] e pos) (sAsg fe gt) :=
  weakS (ps_asg he hg hs hw h1) fun De σ H ⟨β, env, st, he, hs, h⟩ => fl_bind he hs h fun a st1 β1 H1 u x s1 e1 r1 h1 =>
    ⟨β1, env, st1, a, e1, s1, r1, fl_post h1 fun env2 st2 β2 H2 σ2 x2 s2 e2 h2 => h2 β2 H2 σ2 (Ext.refl _ _) s2 e2.1⟩
end
end VL
set_option Elab.async false
set_option linter.all false
set_option maxRecDepth 100000
/-! The value layer: loops and comprehensions. -/
namespace VL
open PySem PySem.Spec PyProof.Rows L2 TB
section
variable {X : Cx} {E : XK} {s : Stmt} {ss : List Stmt} {f g : En → AS → Fl} {e : Expr} {fe : En → AS → Out D} {pos : Pos}
theorem vs_par {i j : Nat} {x y : Str} {a b : Expr} {fs : En → AS → Out (List D)} {px py pt : Pos} {kt k2 pt2} (hc : X.calm = true) (hN : X.N.Nodup) (hi : X.N[i]? = some x) (hj : X.N[j]? = some y) (hij : i ≠ j)
    (hx : X.env.scope.names.lookup x = some .local) (hy : X.env.scope.names.lookup y = some .local) (ha : VA X E [a, b] fs)
    (hw : swappedStores [.Tuple [.Name x px, .Name y py] kt pt] (.Tuple [a, b] k2 pt2) X.env = pure (some [x, y]))
    (hs : swapsWithSole [.Tuple [.Name x px, .Name y py] kt pt] (.Tuple [a, b] k2 pt2) pos.line X.env = pure false := by rfl) :
    VS X E (.Assign [.Tuple [.Name x px, .Name y py] kt pt] (.Tuple [a, b] k2 pt2) pos) (sPar i j fs) :=
  weakS (ps_par hc hN hi hj hij hx hy ha hw hs) fun De σ H ⟨β, env, st, he, hs, h⟩ => fl_bind he hs h fun ds st1 β1 H1 us x s1 e1 r1 h1 => by
    cases r1 with
    | nil => exact h1.elim
    | cons a t =>
      cases t with
      | nil => exact h1.elim
      | cons b t =>
        cases t with
        | nil => exact ⟨_, _, rfl, h1 β1 H1 _ (Ext.refl _ _) s1 ((e1.set a i).set b j)⟩
        | cons _ _ => exact h1.elim
/-! x += e -/
@[simp] def sAug (i : Nat) (op : D → D → AS → Out D) (fe : En → AS → Out D) (env : En) (st : AS) : Fl := (vVar i env st).fl fun x st => (fe env st).fl fun y st => (op x y st).fl fun z st => .nx (env.set i (some z)) st
end
/-! ### what is walked -/
abbrev Gd := List (Nat × C)
/-- the things that are walked stand as they stood -/
def Gd.ok (gs : Gd) (st : AS) : Prop := ∀ p ∈ gs, st[p.1]? = some p.2
structure WalkD (K : PySem.W.Frag) (mg : MG) (β : Bt) (H : Hp) (J : It) (items : List D) (gs : Gd) : Prop where
  go : ∀ i β' H' st, ExtF β H β' H' → Sim K mg β' st H' → gs.ok st → i < items.length → J.go i H'
  stop : ∀ β' H' st, ExtF β H β' H' → Sim K mg β' st H' → gs.ok st → J.stop items.length H'
  yld : ∀ i β' H' st x H2, ExtF β H β' H' → Sim K mg β' st H' → gs.ok st → i < items.length → J.yld i H' x H2 → Same H' H2 ∧ ∃ d, items[i]? = some d ∧ Rep K H2 β' d x
abbrev rI (K : PySem.W.Frag) (mg : MG) : Hp → Bt → (List D × Gd) → It → Prop := fun H β p J => WalkD K mg β H J p.1 p.2
abbrev VI (X : Cx) (E : XK) (tg iter : Expr) (f : En → AS → Out (List D × Gd)) : Prop := PI X tg iter (tG X.K X.mgw (rI X.K X.mgw) E f)
theorem weakI {X : Cx} {tg e : Expr} {t t' : TI} (h : PI X tg e t) (w : ∀ σ H Q, t' σ H Q → t σ H Q) : PI X tg e t' := ⟨fun pins s σ H Q I q => h.run pins s σ H Q I (w σ H Q q)⟩
theorem orI {X : Cx} {tg e : Expr} {t t' : TI} (h : PI X tg e t) (h' : PI X tg e t') : PI X tg e (fun σ H Q => t σ H Q ∨ t' σ H Q) := ⟨fun pins s σ H Q I q => q.elim (h.run pins s σ H Q I) (h'.run pins s σ H Q I)⟩
section
variable {K : PySem.W.Frag} {mg : MG} {β β' : Bt} {H H' : Hp} {st : AS}
/-- a plain walk over values that stand for the data ds -/
theorem walk_at {J : It} {G : List V → Hp → Prop} {ds : List D} {gs : Gd} (hW : ∀ us : List V, us.length = ds.length → Walk J ds.length (G us) (YAt us))
    (hG : ∀ β' H' st, ExtF β H β' H' → Sim K mg β' st H' → gs.ok st → ∃ us, G us H' ∧ Reps K H' β' ds us) : WalkD K mg β H J ds gs := by
  refine ⟨fun i β' H' st x S g hi => ?_, fun β' H' st x S g => ?_, fun i β' H' st v H2 x S g hi y => ?_⟩
  · obtain ⟨us, q, r⟩ := hG β' H' st x S g
    exact (hW us r.length).goes i H' hi q
  · obtain ⟨us, q, r⟩ := hG β' H' st x S g
    exact (hW us r.length).stops H' q
  · obtain ⟨us, q, r⟩ := hG β' H' st x S g
    obtain ⟨rfl, e⟩ := (hW us r.length).yields i H' v H2 hi q y
    obtain ⟨d, e2, r2⟩ := r.get' e
    exact ⟨Same.refl _, d, e2, r2⟩
theorem zip_at {ds es : List D} {i : Nat} {d e : D} (h1 : ds[i]? = some d) (h2 : es[i]? = some e) : ((ds.zip es).map fun p => D.tup [p.1, p.2])[i]? = some (.tup [d, e]) := by
  rw [List.getElem?_map, List.getElem?_zip_eq_some (z := (d, e)) |>.mpr ⟨h1, h2⟩]
  rfl
/-- pairs -/
theorem walk_pair {J : It} {G : List V → List V → Hp → Prop} {ds es : List D} {gs : Gd} {n : Nat} (hn : n = min ds.length es.length)
    (hW : ∀ us ws : List V, us.length = ds.length → ws.length = es.length → Walk J n (G us ws) (YPair (fun i => us[i]?) (fun i => ws[i]?)))
    (hG : ∀ β' H' st, ExtF β H β' H' → Sim K mg β' st H' → gs.ok st → ∃ us ws, G us ws H' ∧ Reps K H' β' ds us ∧ Reps K H' β' es ws) :
    WalkD K mg β H J ((ds.zip es).map fun p => .tup [p.1, p.2]) gs := by
  have hl : ((ds.zip es).map fun p => D.tup [p.1, p.2]).length = n := by rw [List.length_map, List.length_zip]; exact hn.symm
  refine ⟨fun i β' H' st x S g hi => ?_, fun β' H' st x S g => ?_, fun i β' H' st v H2 x S g hi y => ?_⟩
  · obtain ⟨us, ws, q, r, r'⟩ := hG β' H' st x S g
    exact (hW us ws r.length r'.length).goes i H' (by omega) q
  · obtain ⟨us, ws, q, r, r'⟩ := hG β' H' st x S g
    rw [hl]
    exact (hW us ws r.length r'.length).stops H' q
  · obtain ⟨us, ws, q, r, r'⟩ := hG β' H' st x S g
    obtain ⟨T, a, b, rfl, nT, rfl, ea, eb⟩ := (hW us ws r.length r'.length).yields i H' v H2 (by omega) q y
    obtain ⟨d1, f1, r1⟩ := r.get' ea
    obtain ⟨d2, f2, r2⟩ := r'.get' eb
    have sm : Same H' (upd H' T (.tup [a, b])) := same_upd nT
    exact ⟨sm, .tup [d1, d2], zip_at f1 f2, .tup (S.fresh nT) upd_same (.cons (r1.ext (Ext.same sm)) (.cons (r2.ext (Ext.same sm)) .nil))⟩
theorem gd_nil {gs : Gd} (h : gs = []) {st : AS} : gs.ok st := by
  subst h
  exact fun p hp => nomatch hp
theorem walk_strD {z : Str} : WalkD K mg β H (Its z) (z.cps.toList.map fun c => .str ⟨#[c]⟩) [] := by
  have hl : (z.cps.toList.map fun c => D.str ⟨#[c]⟩).length = z.cps.size := by simp
  refine ⟨fun i β' H' st x S g hi => (walk_str (z := z)).goes i H' (by omega) trivial, fun β' H' st x S g => by rw [hl]; exact (walk_str (z := z)).stops H' trivial, fun i β' H' st v H2 x S g hi y => ?_⟩
  obtain ⟨rfl, c, ec, rfl⟩ := (walk_str (z := z)).yields i H' v H2 (by omega) trivial y
  refine ⟨Same.refl _, .str ⟨#[c]⟩, ?_, .str _⟩
  rw [List.getElem?_map, Array.getElem?_toList, ec]
  rfl
/-- the list that d is, later too -/
def gdOf (d : D) (ds : List D) : Gd := match d with
  | .ref i => [(i, .lst ds)]
  | _ => []
def isTupD : D → Bool
  | .tup _ => true
  | .ctp _ => true
  | _ => false
def SqB (t : Bool) (K : PySem.W.Frag) (H : Hp) (a : Addr) (us : List V) : Prop := match t with
  | true => SqT K H a us
  | false => SqL K H a us
theorem later {d : D} {u : V} {ds : List D} (S : Sim K mg β st H) (r : Rep K H β d u) (h : seqOf st d = some ds) :
    ∃ a, u = .ref a ∧ ∀ β' H' st', ExtF β H β' H' → Sim K mg β' st' H' → (gdOf d ds).ok st' → ∃ us', SqB (isTupD d) K H' a us' ∧ Reps K H' β' ds us' := by
  cases r with
  | tup n e q =>
    cases h
    exact ⟨_, rfl, fun β' H' st' x _ _ => ⟨_, .inl (.inl (x.kept _ _ e n).1), q.extW x.toExtW⟩⟩
  | ctp e q =>
    cases h
    exact ⟨_, rfl, fun β' H' st' x _ _ => ⟨_, (e.imp fun o z n => x.kept _ _ z n).sq, q.extW x.toExtW⟩⟩
  | lst n e q =>
    cases h
    exact ⟨_, rfl, fun β' H' st' x _ _ => ⟨_, .inl (.inl (x.kept _ _ e n).1), q.extW x.toExtW⟩⟩
  | fzl e q =>
    cases h
    exact ⟨_, rfl, fun β' H' st' x _ _ => ⟨_, SqL.fz (e.imp (fun z => x.rd z.1 z.2) id), q.extW x.toExtW⟩⟩
  | ref e =>
    rename_i i a
    refine ⟨a, rfl, fun β' H' st' x S' g => ?_⟩
    have e2 := g (i, .lst ds) (by simp [gdOf])
    obtain ⟨us, e3, q⟩ := S'.cell i a _ (x.at e) e2
    exact ⟨us, .inl (.inl e3), q⟩
  | non => cases h
  | bl b => cases h
  | int b => cases h
  | str b => cases h
  | cv => cases h
end
section
variable {X : Cx} {E : XK} {tg e e2 : Expr} {es : List Expr} {fe : En → AS → Out D} {fs : En → AS → Out (List D)} {pos p : Pos}
@[simp] def itD (d : D) (st : AS) : Out (List D × Gd) := match seqOf st d with
  | some ds => .ok (ds, gdOf d ds) st
  | none => match d with
    | .str z => .ok (z.cps.toList.map fun c => .str ⟨#[c]⟩, []) st
    | _ => .bad
theorem vi_seq (he : VE X E e fe) : VI X E tg e (v1 itD fe) := by
  refine weakI (orI (pi_list he) (orI (pi_tup he) (pi_str he))) fun σ H Q h => ?_
  obtain ⟨β, env, st, hE, hS, h⟩ := h
  cases ev : fe env st with
  | bad =>
    unfold v1 at h
    rw [ev] at h
    exact h.elim
  | exc c fs st1 =>
    unfold v1 at h
    rw [ev] at h
    refine .inl ⟨β, env, st, hE, hS, ?_⟩
    rw [ev]
    exact h
  | ok d st1 =>
    unfold v1 at h
    rw [ev] at h
    change Post X.K X.mgw (rI X.K X.mgw) E β H Q (itD d st1) at h
    unfold itD at h
    split at h
    · rename_i ds eq
      by_cases ht : isTupD d = true
      · refine .inr (.inl ⟨β, env, st, hE, hS, ?_⟩)
        rw [ev]
        intro β1 H1 u x1 s1 r1
        obtain ⟨a, rfl, hl⟩ := later s1 r1 eq
        rw [ht] at hl
        have hg : ∀ st', (gdOf d ds).ok st' := fun st' => gd_nil (by cases d <;> first | rfl | cases ht)
        refine ⟨a, rfl, ?_, h β1 H1 (Itt X.K a) x1 s1 ?_⟩
        · obtain ⟨us, q, _⟩ := hl β1 H1 st1 (ExtF.refl _ _) s1 (hg st1)
          exact ⟨us, q⟩
        · exact walk_at (G := fun us H => SqT X.K H a us) (fun us hu => hu ▸ walk_tup) hl
      · refine .inl ⟨β, env, st, hE, hS, ?_⟩
        rw [ev]
        intro β1 H1 u x1 s1 r1
        obtain ⟨a, rfl, hl⟩ := later s1 r1 eq
        rw [Bool.not_eq_true] at ht
        rw [ht] at hl
        have hg : (gdOf d ds).ok st1 := by
          cases d with
          | ref i =>
            intro p hp
            cases List.mem_singleton.mp hp
            unfold seqOf listOf at eq
            dsimp only at eq
            split at eq
            · rename_i z
              cases eq
              exact z
            · cases eq
          | _ => exact gd_nil rfl
        refine ⟨a, rfl, ?_, h β1 H1 (Itl X.K a) x1 s1 ?_⟩
        · obtain ⟨us, q, _⟩ := hl β1 H1 st1 (ExtF.refl _ _) s1 hg
          exact ⟨us, q⟩
        · exact walk_at (G := fun us H => SqL X.K H a us) (fun us hu => hu ▸ walk_list) hl
    · split at h
      · rename_i z _
        refine .inr (.inr ⟨β, env, st, hE, hS, ?_⟩)
        rw [ev]
        intro β1 H1 u x1 s1 r1
        cases r1 with
        | str z =>
          exact ⟨z, rfl, h β1 H1 (Its z) x1 s1 walk_strD⟩
      · exact h.elim
/-- range -/
def rngL (lo : Int) (n : Nat) : List D := (List.range n).map fun k => .int (lo + (k : Nat))
def rng1 (xs : List D) (st : AS) : Out (List D × Gd) := match xs with
  | [.int j] => if -(2 ^ 62) ≤ j ∧ j < 2 ^ 62 then .ok (rngL 0 j.toNat, []) st else .bad
  | _ => .bad
theorem walk_rng {K : PySem.W.Frag} {mg : MG} {β : Bt} {H : Hp} {lo : Int} {n : Nat} : WalkD K mg β H (Itr lo n) (rngL lo n) [] := by
  have hl : (rngL lo n).length = n := by simp [rngL]
  refine ⟨fun i β' H' st x S g hi => (walk_range (lo := lo) (n := n)).goes i H' (by omega) trivial, fun β' H' st x S g => by rw [hl]; exact (walk_range (lo := lo) (n := n)).stops H' trivial, fun i β' H' st v H2 x S g hi y => ?_⟩
  obtain ⟨rfl, rfl⟩ := (walk_range (lo := lo) (n := n)).yields i H' v H2 (by omega) trivial y
  refine ⟨Same.refl _, .int (lo + (i : Nat)), ?_, .int _⟩
  unfold rngL
  rw [List.getElem?_map, List.getElem?_range (by omega)]
  rfl
theorem vi_range1 {a : Expr} (hg : Gl X "range") (hm : X.mg "range" = none) (ha : VA X E [a] fs) (hs : starEach [a] X.env = [(false, eval a X.env)] := by rfl) : VI X E tg (.Call (.Name "range" p) [a] [] pos) (vA rng1 fs) :=
  weakI (pi_range1 hg hm ha hs) fun σ H Q ⟨β, env, st, he, hs, h⟩ => tG_bind he hs h fun ds st1 β1 H1 us x1 s1 e1 r1 h1 => by
    unfold rng1 at h1
    split at h1
    · rename_i j
      obtain ⟨v, rfl, rv⟩ := one_ok r1
      cases rv
      obtain ⟨⟨b1, b2⟩, h1⟩ := h1.ite
      exact ⟨j, rfl, b1, b2, h1.here s1 walk_rng⟩
    · exact h1.elim
theorem two_ok {K : PySem.W.Frag} {H : Hp} {β : Bt} {x y : D} {us : List V} (r : Reps K H β [x, y] us) : ∃ u v, us = [u, v] ∧ Rep K H β x u ∧ Rep K H β y v := by
  cases r with
  | cons a t =>
    obtain ⟨v, rfl, rv⟩ := one_ok t
    exact ⟨_, v, rfl, a, rv⟩
/-- the walk is over what was evaluated, or an error comes -/
theorem pickA {f : List D → AS → Out (List D × Gd)} {σ : L2.St} {H : Hp} {Q : It → Hp → Prop} (h : tG X.K X.mgw (rI X.K X.mgw) E (vA f fs) σ H Q) :
    (∃ β env st ds st1, EnvR X.K H β env σ ∧ Sim X.K X.mgw β st H ∧ fs env st = .ok ds st1 ∧ Post X.K X.mgw (rI X.K X.mgw) E β H Q (f ds st1)) ∨ ∀ R, tVA X.K X.mgw E fs σ H R := by
  obtain ⟨β, env, st, hE, hS, h⟩ := h
  unfold vA at h
  cases ev : fs env st with
  | bad => rw [ev] at h; exact h.elim
  | exc c xs st1 =>
    rw [ev] at h
    exact .inr fun R => ⟨β, env, st, hE, hS, by rw [ev]; exact h⟩
  | ok ds st1 =>
    rw [ev] at h
    exact .inl ⟨β, env, st, ds, st1, hE, hS, ev, h⟩
theorem goA {σ : L2.St} {H : Hp} {R : List V → Hp → Prop} {β : Bt} {env : En} {st st1 : AS} {ds : List D} (hE : EnvR X.K H β env σ) (hS : Sim X.K X.mgw β st H) (ev : fs env st = .ok ds st1)
    (h : ∀ β1 H1 us, Ext β H β1 H1 → Sim X.K X.mgw β1 st1 H1 → Reps X.K H1 β1 ds us → R us H1) : tVA X.K X.mgw E fs σ H R := ⟨β, env, st, hE, hS, by rw [ev]; exact h⟩
theorem gd_now {st : AS} {d : D} {ds : List D} (h : seqOf st d = some ds) : (gdOf d ds).ok st := by
  cases d with
  | ref i =>
    intro p hp
    cases List.mem_singleton.mp hp
    unfold seqOf listOf at h
    dsimp only at h
    split at h
    · rename_i z
      cases h
      exact z
    · cases h
  | _ => exact gd_nil rfl
theorem gd_app {a b : Gd} {st : AS} : Gd.ok (a ++ b) st ↔ a.ok st ∧ b.ok st :=
  ⟨fun h => ⟨fun p hp => h p (List.mem_append_left _ hp), fun p hp => h p (List.mem_append_right _ hp)⟩, fun h p hp => (List.mem_append.mp hp).elim (h.1 p) (h.2 p)⟩
@[simp] def enumD (xs : List D) (st : AS) : Out (List D × Gd) := match xs with
  | [d] => (match seqOf st d with
    | some ds => .ok (ds.zipIdx.map fun p => .tup [.int (p.2 : Nat), p.1], gdOf d ds) st
    | none => .bad)
  | _ => .bad
@[simp] def zipD (xs : List D) (st : AS) : Out (List D × Gd) := match xs with
  | [d, e] => (match seqOf st d, seqOf st e with
    | some ds, some es => .ok ((ds.zip es).map fun p => .tup [p.1, p.2], gdOf d ds ++ gdOf e es) st
    | _, _ => .bad)
  | _ => .bad
theorem vi_zip {tpos : Pos} {elts : List Expr} {kk : Nat} (hg : Gl X "zip") (hm : X.mg "zip" = none) (ha : VA X E [e, e2] fs) (hs : starEach [e, e2] X.env = (false, eval e X.env) :: starEach [e2] X.env := by rfl) (hpl : (backTo pos (starEach [e2] X.env)).any (·.1) = false := by rfl) :
    VI X E (.Tuple elts kk tpos) (.Call (.Name "zip" p) [e, e2] [] pos) (vA zipD fs) := by
  refine weakI (orI (RZ.pi_zipA hg hm ha hs hpl) (orI (pi_zipTL hg hm ha hs hpl) (pi_zipLT hg hm ha hs hpl))) fun σ H Q h => ?_
  rcases pickA h with ⟨β, env, st, ds, st1, hE, hS, ev, h⟩ | h
  · unfold zipD at h
    split at h
    · rename_i d e'
      split at h
      · rename_i xs ys ed ee
        have both : ∀ {β1 : Bt} {H1 : Hp} {us : List V}, Sim X.K X.mgw β1 st1 H1 → Reps X.K H1 β1 [d, e'] us → ∃ a b, us = [.ref a, .ref b] ∧
            (∀ β' H' st', ExtF β1 H1 β' H' → Sim X.K X.mgw β' st' H' → Gd.ok (gdOf d xs ++ gdOf e' ys) st' → ∃ us' ws', (SqB (isTupD d) X.K H' a us' ∧ SqB (isTupD e') X.K H' b ws') ∧ Reps X.K H' β' xs us' ∧ Reps X.K H' β' ys ws') ∧ (∃ us' ws', SqB (isTupD d) X.K H1 a us' ∧ SqB (isTupD e') X.K H1 b ws') := by
          intro β1 H1 us s1 r1
          obtain ⟨u, v, rfl, ru, rv⟩ := two_ok r1
          obtain ⟨a, rfl, hl⟩ := later s1 ru ed
          obtain ⟨b, rfl, hl'⟩ := later s1 rv ee
          refine ⟨a, b, rfl, fun β' H' st' x' s' g => ?_, ?_⟩
          · obtain ⟨us', q, r⟩ := hl β' H' st' x' s' (gd_app.mp g).1
            obtain ⟨ws', q', r'⟩ := hl' β' H' st' x' s' (gd_app.mp g).2
            exact ⟨us', ws', ⟨q, q'⟩, r, r'⟩
          · obtain ⟨us', q, _⟩ := hl β1 H1 st1 (ExtF.refl _ _) s1 (gd_now ed)
            obtain ⟨ws', q', _⟩ := hl' β1 H1 st1 (ExtF.refl _ _) s1 (gd_now ee)
            exact ⟨us', ws', q, q'⟩
        cases td : isTupD d with
        | true =>
          cases te : isTupD e' with
          | true =>
            refine .inl (goA hE hS ev fun β1 H1 us x1 s1 r1 => ?_)
            obtain ⟨a, b, rfl, hl, us', ws', q, q'⟩ := both s1 r1
            rw [td, te] at hl
            rw [td] at q
            rw [te] at q'
            exact ⟨a, b, us', ws', rfl, .inr ⟨q, q', h β1 H1 _ x1 s1 (walk_pair (G := fun us ws H => SqT X.K H a us ∧ SqT X.K H b ws) rfl (fun us ws hu hw => walk_zT (by rw [hu, hw])) hl)⟩⟩
          | false =>
            refine .inr (.inl (goA hE hS ev fun β1 H1 us x1 s1 r1 => ?_))
            obtain ⟨a, b, rfl, hl, us', ws', q, q'⟩ := both s1 r1
            rw [td, te] at hl
            rw [td] at q
            rw [te] at q'
            exact ⟨a, b, us', ws', rfl, q, q', h β1 H1 _ x1 s1 (walk_pair (G := fun us ws H => SqT X.K H a us ∧ SqL X.K H b ws) rfl (fun us ws hu hw => walk_TL (by rw [hu, hw])) hl)⟩
        | false =>
          cases te : isTupD e' with
          | true =>
            refine .inr (.inr (goA hE hS ev fun β1 H1 us x1 s1 r1 => ?_))
            obtain ⟨a, b, rfl, hl, us', ws', q, q'⟩ := both s1 r1
            rw [td, te] at hl
            rw [td] at q
            rw [te] at q'
            exact ⟨a, b, us', ws', rfl, q, q', h β1 H1 _ x1 s1 (walk_pair (G := fun us ws H => SqL X.K H a us ∧ SqT X.K H b ws) rfl (fun us ws hu hw => walk_LT (by rw [hu, hw])) hl)⟩
          | false =>
            refine .inl (goA hE hS ev fun β1 H1 us x1 s1 r1 => ?_)
            obtain ⟨a, b, rfl, hl, us', ws', q, q'⟩ := both s1 r1
            rw [td, te] at hl
            rw [td] at q
            rw [te] at q'
            exact ⟨a, b, us', ws', rfl, .inl ⟨q, q', h β1 H1 _ x1 s1 (walk_pair (G := fun us ws H => SqL X.K H a us ∧ SqL X.K H b ws) rfl (fun us ws hu hw => walk_zip (by rw [hu, hw])) hl)⟩⟩
      · exact h.elim
    · exact h.elim
  · exact .inl (h _)
end
/-! ### for, while -/
@[simp] theorem gd_ok_nil (st : AS) : Gd.ok [] st = True := eq_true (gd_nil rfl)
/-- a turn of a loop's body, then the rest -/
def Fl.turn (o : Fl) (k : En → AS → Fl) : Fl := match o with
  | .nx env st => k env st
  | .ct env st => k env st
  | .bk env st => .nx env st
  | .rt d st => .rt d st
  | .exc c fs st => .exc c fs st
  | .bad => .bad
@[simp] theorem Fl.turn_nx (env : En) (st : AS) (g : En → AS → Fl) : (Fl.nx env st).turn g = g env st := rfl
@[simp] theorem Fl.turn_rt (d : D) (st : AS) (g : En → AS → Fl) : (Fl.rt d st).turn g = .rt d st := rfl
@[simp] theorem Fl.turn_bk (env : En) (st : AS) (g : En → AS → Fl) : (Fl.bk env st).turn g = .nx env st := rfl
@[simp] theorem Fl.turn_ct (env : En) (st : AS) (g : En → AS → Fl) : (Fl.ct env st).turn g = g env st := rfl
@[simp] theorem Fl.turn_exc (c : Str) (fs : List (Str × D)) (st : AS) (g : En → AS → Fl) : (Fl.exc c fs st).turn g = .exc c fs st := rfl
@[simp] theorem Fl.turn_bad (g : En → AS → Fl) : (Fl.bad).turn g = .bad := rfl
noncomputable instance (gs : Gd) (st : AS) : Decidable (Gd.ok gs st) := Classical.propDecidable _
noncomputable def forL (g : D → En → AS → Out En) (body : En → AS → Fl) (gs : Gd) : List D → En → AS → Fl
  | [], env, st => if gs.ok st then .nx env st else .bad
  | d :: ds, env, st => if gs.ok st then (g d env st).fl fun env st => (body env st).turn (forL g body gs ds)
    else .bad
@[simp] noncomputable def sFor (fi : En → AS → Out (List D × Gd)) (g : D → En → AS → Out En) (body : En → AS → Fl) (env : En) (st : AS) : Fl := (fi env st).fl fun p st => forL g body p.2 p.1 env st
theorem PostS.ite {K : PySem.W.Frag} {mg : MG} {E : XK} {β : Bt} {H : Hp} {De : Ends} {p : Prop} [Decidable p] {o : Fl} (h : PostS K mg E β H De (if p then o else .bad)) : p ∧ PostS K mg E β H De o := by
  by_cases hp : p
  · rw [if_pos hp] at h
    exact ⟨hp, h⟩
  · rw [if_neg hp] at h
    exact h.elim
section
variable {X : Cx} {E : XK} {tg it : Expr} {body : List Stmt} {fi : En → AS → Out (List D × Gd)} {g : D → En → AS → Out En} {fb : En → AS → Fl} {pos : Pos}
theorem vs_for {ws : List Nat} (hp : PassesOwn (model X.prog X.w) X.A X.env X.xe) (hc : X.calm = true) (hi : VI X E tg it fi) (hg : VG X E tg ws g) (hb : VSs X E body fb)
    (hs : ∀ x, foldedSetIterable it X.env x = pure x := by intro _; rfl) : VS X E (.For tg it body [] pos) (sFor fi g fb) := by
  refine weakS (ps_for hp hc hi hg hb hs) fun De σ H ⟨β, env, st, he, hs, h⟩ => ?_
  refine fl_bind he hs h fun pr st1 β1 H1 J x1 s1 e1 w h1 => ?_
  obtain ⟨items, gs⟩ := pr
  refine ⟨fun i m σ H => m = items.length - i ∧ i ≤ items.length ∧ ∃ β' env st, EnvR X.K H β' env σ ∧ Sim X.K X.mgw β' st H ∧ Ext β1 H1 β' H ∧ PostS X.K X.mgw E β' H De (forL g fb gs (items.drop i) env st), ⟨_, rfl, Nat.zero_le _, β1, env, st1, e1, s1, Ext.refl _ _, h1⟩, ?_⟩
  rintro i m σ H ⟨rfl, hi, β2, env, st, he, hs, x, h⟩
  by_cases hlt : i < items.length
  · have ed : items.drop i = items[i] :: items.drop (i + 1) := List.drop_eq_getElem_cons hlt
    rw [ed, forL] at h
    obtain ⟨gk, h⟩ := h.ite
    refine .inr ⟨w.go i β2 H st x.weakF hs gk hlt, fun σ' H' => ∃ β' env st, EnvR X.K H' β' env σ' ∧ Sim X.K X.mgw β' st H' ∧ Ext β1 H1 β' H' ∧ PostS X.K X.mgw E β' H' De (forL g fb gs (items.drop (i + 1)) env st), ?_, fun v H' y => ?_⟩
    · rintro σ' H' ⟨β', env', st', a, b, c, d⟩
      exact ⟨items.length - (i + 1), by omega, rfl, hlt, β', env', st', a, b, c, d⟩
    · obtain ⟨sm, d, e2, r⟩ := w.yld i β2 H st v H' x.weakF hs gk hlt y
      have e3 : d = items[i] := by
        rw [List.getElem?_eq_getElem hlt] at e2
        exact (Option.some.inj e2).symm
      have x2 : Ext β2 H β2 H' := Ext.same sm
      rw [← e3] at h
      refine ⟨β2, env, st, d, he.ext x2, hs.same sm, r, fl_post (PostS.ext x2 h) fun env1 st2 β3 H3 σ3 x3 s3 e3 h3 => ?_⟩
      refine ⟨β3, env1, st2, e3.1, s3, ?_⟩
      cases o : fb env1 st2 with
      | nx env2 st3 =>
        simp only [o, Fl.turn] at h3
        exact fun β4 H4 σ4 x4 s4 e4 => ⟨β4, env2, st3, e4, s4, ((x.trans x2).trans x3).trans x4, PostS.ext x4 h3⟩
      | ct env2 st3 =>
        simp only [o, Fl.turn] at h3
        exact fun β4 H4 σ4 x4 s4 e4 => ⟨β4, env2, st3, e4, s4, ((x.trans x2).trans x3).trans x4, PostS.ext x4 h3⟩
      | bk env2 st3 => simp only [o, Fl.turn] at h3; exact h3
      | rt d2 st3 => simp only [o, Fl.turn] at h3; exact h3
      | exc c fs st3 => simp only [o, Fl.turn] at h3; exact h3
      | bad => simp only [o, Fl.turn] at h3; exact h3
  · have e : i = items.length := by omega
    subst e
    rw [List.drop_length, forL] at h
    obtain ⟨gk, h⟩ := h.ite
    exact .inl ⟨w.stop β2 H st x.weakF hs gk, h β2 H σ (Ext.refl _ _) hs he⟩
/-! while, by as much breath as is wanted -/
end
/-! ### comprehensions -/
/-- an error within counts as no answer -/
def Out.ne {α : Type} (o : Out α) : Out α := match o with
  | .ok a s => .ok a s
  | _ => .bad
@[simp] theorem Out.ne_ok {α : Type} (a : α) (s : AS) : (Out.ok a s).ne = .ok a s := rfl
noncomputable def compL (g : D → En → AS → Out En) (t : En → AS → Out Bool) (f : En → AS → Out D) (env : En) (gs : Gd) : List D → AS → Out (List D)
  | [], st => if gs.ok st then .ok [] st else .bad
  | d :: ds, st => if gs.ok st then (g d env st).ne.bind fun env1 st => (t env1 st).ne.bind fun b st =>
      if b = true then (f env1 st).ne.bind fun y st => (compL g t f env gs ds st).bind fun ys st => .ok (y :: ys) st else compL g t f env gs ds st
    else .bad
@[simp] def wipeD (env : En) : List Nat → En
  | [] => env
  | v :: vs => (wipeD env vs).set v none
@[simp] noncomputable def vLc (c : Bool) (vs : List Nat) (fi : En → AS → Out (List D × Gd)) (g : D → En → AS → Out En) (t : En → AS → Out Bool) (f : En → AS → Out D) (env : En) (st : AS) : Out D := (fi env st).bind fun p st =>
  if p.1.length ≤ sizeLine then (compL g t f (wipeD env vs) p.2 p.1 st).bind fun ys st => mk c ys st else .bad
section
variable {K : PySem.W.Frag} {mg : MG} {β β' : Bt} {H H' : Hp} {st : AS} {p : Addr}
mutual
theorem Rep.hide {o : HO} (hp : H p = none) : ∀ {d : D} {u : V}, Rep K H β d u → Rep K (upd H p o) (β.hide p) d u
  | _, _, .non => .non
  | _, _, .bl b => .bl b
  | _, _, .int i => .int i
  | _, _, .str s => .str s
  | _, _, .cv v => .cv v
  | _, _, .ref h => .ref h
  | _, _, .tup n h r => .tup ⟨n.1, fun z => (List.mem_cons.mp z).elim (ne_of_none h hp) n.2⟩ ((upd_ne (ne_of_none h hp)).trans h) (Reps.hide hp r)
  | _, _, .ctp h r => .ctp (h.imp fun o h n => ⟨(upd_ne (ne_of_none h hp)).trans h, n.1, fun z => (List.mem_cons.mp z).elim (ne_of_none h hp) n.2⟩) (Reps.hide hp r)
  | _, _, .lst n h r => .lst ⟨n.1, fun z => (List.mem_cons.mp z).elim (ne_of_none h hp) n.2⟩ ((upd_ne (ne_of_none h hp)).trans h) (Reps.hide hp r)
  | _, _, .fzl h r => .fzl (h.imp (fun z => by
      obtain ⟨n, z⟩ := z
      rcases z with h | ⟨w, h⟩
      · exact ⟨⟨n.1, fun z => (List.mem_cons.mp z).elim (ne_of_none h hp) n.2⟩, .inl ((upd_ne (ne_of_none h hp)).trans h)⟩
      · exact ⟨⟨n.1, fun z => (List.mem_cons.mp z).elim (ne_of_none h hp) n.2⟩, .inr ⟨w, (upd_ne (ne_of_none h hp)).trans h⟩⟩) id) (Reps.hide hp r)
theorem Reps.hide {o : HO} (hp : H p = none) : ∀ {ds : List D} {us : List V}, Reps K H β ds us → Reps K (upd H p o) (β.hide p) ds us
  | _, _, .nil => .nil
  | _, _, .cons r t => .cons (Rep.hide hp r) (Reps.hide hp t)
end
mutual
/-- what is hidden may change -/
theorem Rep.hid {o : HO} (hp : p ∈ β.h) : ∀ {d : D} {u : V}, Rep K H β d u → Rep K (upd H p o) β d u
  | _, _, .non => .non
  | _, _, .bl b => .bl b
  | _, _, .int i => .int i
  | _, _, .str s => .str s
  | _, _, .cv v => .cv v
  | _, _, .ref h => .ref h
  | _, _, .tup n h r => .tup n ((upd_ne (fun z => n.2 (by rw [z]; exact hp))).trans h) (Reps.hid hp r)
  | _, _, .ctp h r => .ctp (h.imp fun o h n => ⟨(upd_ne (fun z => n.2 (by rw [z]; exact hp))).trans h, n⟩) (Reps.hid hp r)
  | _, _, .lst n h r => .lst n ((upd_ne (fun z => n.2 (by rw [z]; exact hp))).trans h) (Reps.hid hp r)
  | _, _, .fzl h r => .fzl (h.imp (fun z => by
      obtain ⟨n, z⟩ := z
      rcases z with h | ⟨w, h⟩
      · exact ⟨n, .inl ((upd_ne (fun z => n.2 (by rw [z]; exact hp))).trans h)⟩
      · exact ⟨n, .inr ⟨w, (upd_ne (fun z => n.2 (by rw [z]; exact hp))).trans h⟩⟩) id) (Reps.hid hp r)
theorem Reps.hid {o : HO} (hp : p ∈ β.h) : ∀ {ds : List D} {us : List V}, Reps K H β ds us → Reps K (upd H p o) β ds us
  | _, _, .nil => .nil
  | _, _, .cons r t => .cons (Rep.hid hp r) (Reps.hid hp t)
end
mutual
/-- fewer things hidden, more things numbered -/
theorem Rep.weak (hl : ∀ (i : Nat) a, β.l[i]? = some a → β'.l[i]? = some a) (ho : ∀ a o, H a = some o → β.out a → β'.out a) : ∀ {d : D} {u : V}, Rep K H β d u → Rep K H β' d u
  | _, _, .non => .non
  | _, _, .bl b => .bl b
  | _, _, .int i => .int i
  | _, _, .str s => .str s
  | _, _, .cv v => .cv v
  | _, _, .ref h => .ref (hl _ _ h)
  | _, _, .tup n h r => .tup (ho _ _ h n) h (Reps.weak hl ho r)
  | _, _, .ctp h r => .ctp (h.imp fun o h n => ⟨h, ho _ _ h n⟩) (Reps.weak hl ho r)
  | _, _, .lst n h r => .lst (ho _ _ h n) h (Reps.weak hl ho r)
  | _, _, .fzl h r => .fzl (h.imp (fun z => by
      obtain ⟨n, z⟩ := z
      rcases z with h | ⟨w, h⟩
      · exact ⟨ho _ _ h n, .inl h⟩
      · exact ⟨ho _ _ h n, .inr ⟨w, h⟩⟩) id) (Reps.weak hl ho r)
theorem Reps.weak (hl : ∀ (i : Nat) a, β.l[i]? = some a → β'.l[i]? = some a) (ho : ∀ a o, H a = some o → β.out a → β'.out a) : ∀ {ds : List D} {us : List V}, Reps K H β ds us → Reps K H β' ds us
  | _, _, .nil => .nil
  | _, _, .cons r t => .cons (Rep.weak hl ho r) (Reps.weak hl ho t)
end
theorem CellOk.map {H' : Hp} {β' : Bt} {a : Addr} {c : C} (f : ∀ {ds us}, Reps K H β ds us → Reps K H' β' ds us) (e : H' a = H a) (h : CellOk K mg H β a c) : CellOk K mg H' β' a c := by
  cases c with
  | lst ds => obtain ⟨us, q, r⟩ := h; exact ⟨us, e.trans q, f r⟩
  | dct kvs => obtain ⟨us, q, r⟩ := h; exact ⟨us, e.trans q, r.1, f r.2⟩
  | dtt kvs => obtain ⟨us, q, r⟩ := h; exact ⟨us, e.trans q, r.1, f r.2⟩
  | dtf kvs => obtain ⟨us, bs, q, r, t⟩ := h; exact ⟨us, bs, e.trans q, ⟨r.1, f r.2⟩, f t⟩
  | lck kvs => obtain ⟨z, us, q, r⟩ := h; exact ⟨z, us, e.trans q, r.1, f r.2⟩
  | obj c fs => obtain ⟨Ca, dx, us, m, q, r⟩ := h; exact ⟨Ca, dx, us, m, e.trans q, r.1, f r.2⟩
theorem Sim.hide {o : HO} (S : Sim K mg β st H) (hp : H p = none) : Sim K mg (β.hide p) st (upd H p o) := by
  refine ⟨S.len, S.nd, fun a ha => ?_, fun i a c h1 h2 => ?_⟩
  · rcases List.mem_cons.mp ha with z | z
    · subst z
      exact ⟨(S.fresh hp).1, o, upd_same⟩
    · obtain ⟨n, u, e⟩ := S.hid a z
      exact ⟨n, u, (upd_ne (ne_of_none e hp)).trans e⟩
  · have q := S.cell i a c h1 h2
    obtain ⟨u, e, _⟩ := q.there
    exact q.map (fun r => Reps.hide hp r) (upd_ne (ne_of_none e hp))
theorem Sim.hidden {o : HO} (S : Sim K mg β st H) (hp : p ∈ β.h) : Sim K mg β st (upd H p o) := by
  refine ⟨S.len, S.nd, fun a ha => ?_, fun i a c h1 h2 => ?_⟩
  · obtain ⟨n, u, e⟩ := S.hid a ha
    by_cases z : a = p
    · subst z
      exact ⟨n, o, upd_same⟩
    · exact ⟨n, u, (upd_ne z).trans e⟩
  · have ne : a ≠ p := fun z => (S.hid p hp).1 (by rw [← z]; exact List.mem_of_getElem? h1)
    exact (S.cell i a c h1 h2).map (fun r => Reps.hid hp r) (upd_ne ne)
theorem Bt.hide_out {a : Addr} (h : (β.hide p).out a) : β.out a := ⟨h.1, fun z => h.2 (List.mem_cons_of_mem _ z)⟩
theorem Sim.unhide (S : Sim K mg (β.hide p) st H) : Sim K mg β st H :=
  ⟨S.len, S.nd, fun a ha => S.hid a (List.mem_cons_of_mem _ ha), fun i a c h1 h2 => CellOk.map (β := β.hide p) (β' := β) (fun r => Reps.weak (β := β.hide p) (β' := β) (fun _ _ z => z) (fun _ _ _ z => Bt.hide_out (β := β) z) r) rfl (S.cell i a c h1 h2)⟩
end
theorem wipe_eq {σ σ' : L2.St} {vs : List Nat} (hl : σ'.length = σ.length) (h : ∀ j, j ∉ vs → σ'[j]? = σ[j]?) : wipe σ' vs = wipe σ vs := by
  have at_ : ∀ (σ : L2.St) (vs : List Nat) (j : Nat), j ∈ vs → j < σ.length → (wipe σ vs)[j]? = some none := by
    intro σ vs
    induction vs with
    | nil => intro j hj; cases hj
    | cons v vs ih =>
      intro j hj hlt
      unfold wipe
      by_cases z : v = j
      · subst z
        exact List.getElem?_set_self (by rw [wipe_length]; exact hlt)
      · rw [List.getElem?_set_ne z]
        exact ih j ((List.mem_cons.mp hj).elim (fun w => absurd w.symm z) id) hlt
  apply List.ext_getElem?
  intro j
  by_cases hj : j ∈ vs
  · by_cases hlt : j < σ.length
    · rw [at_ σ vs j hj hlt, at_ σ' vs j hj (by omega)]
    · rw [List.getElem?_eq_none (by rw [wipe_length]; omega), List.getElem?_eq_none (by rw [wipe_length]; omega)]
  · rw [wipe_out hj, wipe_out hj, h j hj]
theorem EnvR.wipe {K : PySem.W.Frag} {H : Hp} {β : Bt} {env : En} {σ : L2.St} (e : EnvR K H β env σ) : ∀ vs : List Nat, EnvR K H β (wipeD env vs) (L2.wipe σ vs)
  | [] => e
  | v :: vs => by
    have ih := EnvR.wipe e vs
    refine ⟨by unfold wipeD L2.wipe; rw [List.length_set, List.length_set, ih.len], fun i d h => ?_⟩
    unfold wipeD at h
    unfold L2.wipe
    by_cases z : v = i
    · subst z
      by_cases hlt : v < (wipeD env vs).length
      · rw [List.getElem?_set_self hlt] at h
        cases h
      · rw [List.getElem?_eq_none (by simpa using hlt)] at h
        cases h
    · rw [List.getElem?_set_ne z] at h ⊢
      exact ih.get i d h
end VL
set_option Elab.async false
set_option linter.all false
set_option maxRecDepth 100000
/-! The value layer: comprehensions, defs, calls. -/
namespace VL
open PySem PySem.Spec PyProof.Rows L2 TB
theorem post_ne {α ρ γ τ : Type} {K : PySem.W.Frag} {mg : MG} {E : XK} {R : Hp → Bt → α → ρ → Prop} {R' : Hp → Bt → γ → τ → Prop} {β0 β : Bt} {H0 H : Hp} {Q : τ → Hp → Prop} {Q' : ρ → Hp → Prop} {o : Out α} {k : α → AS → Out γ}
    (h : Post K mg R' E β0 H0 Q (o.ne.bind k)) (hk : ∀ a st1 β1 H1 u, Ext β H β1 H1 → Sim K mg β1 st1 H1 → R H1 β1 a u → Post K mg R' E β0 H0 Q (k a st1) → Q' u H1) : Post K mg R E0 β H Q' o := by
  cases o with
  | ok a st => exact fun β1 H1 u x s r => hk a st β1 H1 u x s r h
  | exc c fs st => exact h.elim
  | bad => exact h.elim
section
variable {X : Cx} {E : XK} {tg it elt : Expr} {ifs : List Expr} {fi : En → AS → Out (List D × Gd)} {g : D → En → AS → Out En} {t : En → AS → Out Bool} {f : En → AS → Out D} {pos : Pos} {ws vs : List Nat}
theorem use_lc (c : Bool) (hw : ∀ j ∈ ws, j ∈ vs) {σ : L2.St} {H : Hp} {Q : VK} (h : tV X.K X.mgw E (vLc c vs fi g t f) σ H Q) :
    tLc (tG X.K X.mgw (rI X.K X.mgw) E fi) (tVG X.K X.mgw E0 ws g) (tVT X.K X.mgw E0 t) (tV X.K X.mgw E0 f) vs σ H Q := by
  obtain ⟨β, env, st, he, hs, h⟩ := h
  refine tG_bind he hs h fun pr st1 β1 H1 J x1 s1 e1 w h1 Da nD => ?_
  obtain ⟨items, gs⟩ := pr
  obtain ⟨hsz, h1⟩ := h1.ite
  have hsz : items.length ≤ sizeLine := hsz
  refine ⟨fun i m H => m = items.length - i ∧ i ≤ items.length ∧ ∃ β' st acc ys, Ext (β1.hide Da) (upd H1 Da (.lst [])) (β'.hide Da) (upd H Da (.lst [])) ∧ Sim X.K X.mgw (β'.hide Da) st H ∧ EnvR X.K H (β'.hide Da) env σ ∧ H Da = some (.lst acc) ∧ Reps X.K H (β'.hide Da) ys acc ∧ ys.length ≤ i ∧
    Post X.K X.mgw (rD X.K) E β1 H1 Q ((compL g t f (wipeD env vs) gs (items.drop i) st).bind fun zs st => mk c (ys ++ zs) st),
    ⟨_, rfl, Nat.zero_le _, β1, st1, [], [], by rw [upd_upd]; exact Ext.refl _ _, s1.hide nD, ⟨e1.len, fun i d q => ?_⟩, upd_same, .nil, Nat.le_refl _, h1⟩, ?_⟩
  · obtain ⟨u, h1, h2⟩ := e1.get i d q
    exact ⟨u, h1, h2.hide nD⟩
  rintro i m H ⟨rfl, hi, β2, st2, acc, ys, x, s2, e2, hD, rys, hly, hq⟩
  -- how the heap has come from the start, as far as anybody knows
  have xw : ExtF β1 H1 (β2.hide Da) H := by
    obtain ⟨gx, eg⟩ := x.pre
    refine ⟨⟨⟨gx, eg⟩, fun a o ha na => ?_⟩, fun a z u e => ?_⟩
    · have ne : a ≠ Da := ne_of_none ha nD
      obtain ⟨q1, q2⟩ := x.kept a o ((upd_ne ne).trans ha) ⟨na.1, fun z => (List.mem_cons.mp z).elim ne na.2⟩
      exact ⟨(upd_ne ne).symm.trans q1, q2⟩
    · have ne : a ≠ Da := ne_of_none e nD
      exact (upd_ne ne).symm.trans (x.frz a z u ((upd_ne ne).trans e))
  have xs : Ext β1 H1 β2 H := by
    obtain ⟨gx, eg⟩ := x.pre
    refine ⟨⟨gx, eg⟩, List.cons.inj x.hid |>.2, fun a o ha na => ?_, fun a z u e => ?_⟩
    · have ne : a ≠ Da := ne_of_none ha nD
      obtain ⟨q1, q2⟩ := x.kept0 a o ((upd_ne ne).trans ha) na
      exact ⟨(upd_ne ne).symm.trans q1, q2⟩
    · have ne : a ≠ Da := ne_of_none e nD
      exact (upd_ne ne).symm.trans (x.frz a z u ((upd_ne ne).trans e))
  by_cases hlt : i < items.length
  · have ed : items.drop i = items[i] :: items.drop (i + 1) := List.drop_eq_getElem_cons hlt
    rw [ed, compL] at hq
    by_cases gk : gs.ok st2
    · rw [if_pos gk] at hq
      refine .inr ⟨w.go i (β2.hide Da) H st2 xw s2 gk hlt, fun H' => ∃ (β' : Bt) (st : AS) (acc : List V) (ys : List D), Ext (β1.hide Da) (upd H1 Da (.lst [])) (β'.hide Da) (upd H' Da (.lst [])) ∧ Sim X.K X.mgw (β'.hide Da) st H' ∧ EnvR X.K H' (β'.hide Da) env σ ∧ H' Da = some (.lst acc) ∧ Reps X.K H' (β'.hide Da) ys acc ∧ ys.length ≤ i + 1 ∧
        Post X.K X.mgw (rD X.K) E β1 H1 Q ((compL g t f (wipeD env vs) gs (items.drop (i + 1)) st).bind fun zs st => mk c (ys ++ zs) st), ?_, fun v H' y => ?_⟩
      · rintro H' z
        exact ⟨items.length - (i + 1), by omega, rfl, hlt, z⟩
      · obtain ⟨sm, d, e3, r⟩ := w.yld i (β2.hide Da) H st2 v H' xw s2 gk hlt y
        have e4 : d = items[i] := by
          rw [List.getElem?_eq_getElem hlt] at e3
          exact (Option.some.inj e3).symm
        rw [← e4] at hq
        have x2 : Ext (β2.hide Da) H (β2.hide Da) H' := Ext.same sm
        have a2 : EnvR X.K H' (β2.hide Da) env σ := e2.ext x2
        -- a step within keeps Da and what is known
        have keep : ∀ {β3 : Bt} {H3 : Hp}, Ext (β2.hide Da) H β3 H3 → ∃ β3' : Bt, β3 = β3'.hide Da ∧ H3 Da = some (.lst acc) ∧ Ext (β1.hide Da) (upd H1 Da (.lst [])) (β3'.hide Da) (upd H3 Da (.lst [])) := by
          intro β3 H3 x3
          have hh := x3.hid
          obtain ⟨l3, h3⟩ := β3
          change h3 = Da :: β2.h at hh
          subst hh
          have nl : Da ∉ (β2.hide Da).l := (s2.hid Da List.mem_cons_self).1
          obtain ⟨q1, q2⟩ := x3.kept0 Da _ hD nl
          refine ⟨⟨l3, β2.h⟩, rfl, q1, x.trans ⟨x3.pre, rfl, fun a o ha na => ?_, fun a w u e => ?_⟩⟩
          · by_cases z : a = Da
            · subst z
              rw [upd_same] at ha ⊢
              exact ⟨ha, q2⟩
            · rw [upd_ne z] at ha ⊢
              exact x3.kept0 a o ha na
          · by_cases z : a = Da
            · subst z
              rw [upd_same] at e
              cases e
            · rw [upd_ne z] at e ⊢
              exact x3.frz a w u e
        refine ⟨β2.hide Da, wipeD env vs, st2, d, a2.wipe vs, s2.same sm, r, ?_⟩
        have hq2 : Post X.K X.mgw (rD X.K) E β1 H1 Q ((g d (wipeD env vs) st2).ne.bind fun env1 st => (((t env1 st).ne.bind fun b st => if b = true then (f env1 st).ne.bind fun y st => (compL g t f (wipeD env vs) gs (items.drop (i + 1)) st).bind fun ys st => .ok (y :: ys) st else compL g t f (wipeD env vs) gs (items.drop (i + 1)) st)).bind fun zs st => mk c (ys ++ zs) st) := by
          cases o : g d (wipeD env vs) st2 with
          | ok a s => rw [o] at hq; exact hq
          | exc x y z => rw [o] at hq; exact hq
          | bad => rw [o] at hq; exact hq
        refine post_ne hq2 fun env1 st3 β3 H3 σ3 x3 s3 e3 h3 => ⟨?_, ?_⟩
        · have w1 : L2.wipe σ3 vs = L2.wipe (L2.wipe σ vs) vs := wipe_eq e3.2.1 fun j hj => e3.2.2 j fun z => hj (hw j z)
          have w2 : L2.wipe (L2.wipe σ vs) vs = L2.wipe σ vs := wipe_eq (wipe_length σ vs) fun j hj => wipe_out hj
          exact w1.trans w2
        · refine ⟨β3, env1, st3, e3.1, s3, ?_⟩
          have h3' : Post X.K X.mgw (rD X.K) E β1 H1 Q ((t env1 st3).ne.bind fun b st => (if b = true then (f env1 st).ne.bind fun y st => (compL g t f (wipeD env vs) gs (items.drop (i + 1)) st).bind fun ys st => .ok (y :: ys) st else compL g t f (wipeD env vs) gs (items.drop (i + 1)) st).bind fun zs st => mk c (ys ++ zs) st) := by
            cases o : t env1 st3 with
            | ok a s => rw [o] at h3; exact h3
            | exc x y z => rw [o] at h3; exact h3
            | bad => rw [o] at h3; exact h3
          refine post_ne h3' fun b st4 β4 H4 b' x4 s4 r4 h4 => ?_
          obtain rfl : b = b' := r4
          cases b with
          | false =>
            obtain ⟨β4', rfl, q1, q2⟩ := keep ((x2.trans x3).trans x4)
            have xx := (x2.trans x3).trans x4
            exact ⟨β4', st4, acc, ys, q2, s4, e2.ext xx, q1, rys.ext xx, by omega, h4⟩
          | true =>
            have h4' : Post X.K X.mgw (rD X.K) E β1 H1 Q ((f env1 st4).ne.bind fun y st => (compL g t f (wipeD env vs) gs (items.drop (i + 1)) st).bind fun zs st => mk c (ys ++ (y :: zs)) st) := by
              cases o : f env1 st4 with
              | ok a s =>
                simp only [if_true, o, Out.ne_ok, Out.bind_ok] at h4 ⊢
                cases o2 : compL g t f (wipeD env vs) gs (items.drop (i + 1)) s with
                | ok a2 s2 => rw [o2] at h4; exact h4
                | exc x y z => rw [o2] at h4; exact h4
                | bad => rw [o2] at h4; exact h4
              | exc x y z => simp only [if_true, o] at h4; exact h4
              | bad => simp only [if_true, o] at h4; exact h4
            refine ⟨β4, env1, st4, e3.1.ext x4, s4, post_ne h4' fun yv st5 β5 H5 yu x5 s5 r5 h5 => ?_⟩
            have xx := ((x2.trans x3).trans x4).trans x5
            obtain ⟨β5', rfl, q1, q2⟩ := keep xx
            have hm : Da ∈ (β5'.hide Da).h := List.mem_cons_self
            refine ⟨acc, q1, by rw [rys.length]; omega, β5', st5, acc ++ [yu], ys ++ [yv], by rw [upd_upd]; exact q2, s5.hidden hm, ⟨e2.len, fun i d q => ?_⟩, upd_same, ?_, by rw [List.length_append, List.length_singleton]; omega, ?_⟩
            · obtain ⟨u, h1, h2⟩ := e2.get i d q
              exact ⟨u, h1, Rep.hid hm (h2.ext xx)⟩
            · exact Reps.hid hm ((rys.ext xx).append (.cons r5 .nil))
            · simpa using h5
    · rw [if_neg gk] at hq
      exact hq.elim
  · have e : i = items.length := by omega
    subst e
    rw [List.drop_length, compL] at hq
    by_cases gk : gs.ok st2
    · rw [if_pos gk] at hq
      refine .inl ⟨w.stop (β2.hide Da) H st2 xw s2 gk, ?_⟩
      have hq : Post X.K X.mgw (rD X.K) E β1 H1 Q (mk c ys st2) := by simpa using hq
      have su := s2.unhide
      have nl : Da ∉ β2.l := (s2.hid Da List.mem_cons_self).1
      have nb : β1.out Da := s1.fresh nD
      have nh : Da ∉ β2.h := by
        have := List.cons.inj x.hid |>.2
        rw [this]
        exact nb.2
      have ru : Reps X.K H β2 ys acc := Reps.weak (β := β2.hide Da) (β' := β2) (fun _ _ z => z) (fun _ _ _ z => Bt.hide_out (β := β2) z) rys
      cases c with
      | false => exact hq β2 H (.ref Da) xs su (.lst ⟨nl, nh⟩ hD ru)
      | true =>
        have hl : ∀ (i : Nat) a, (β2.hide Da).l[i]? = some a → (β2.push Da).l[i]? = some a := fun i a z => by
          have hlt := (List.getElem?_eq_some_iff.mp z).1
          have hlt : i < β2.l.length := hlt
          exact (List.getElem?_append_left hlt).trans z
        have ho : ∀ a o, H a = some o → (β2.hide Da).out a → (β2.push Da).out a := fun a o _ n => ⟨fun z => (List.mem_append.mp z).elim n.1 fun z => n.2 (by rw [List.mem_singleton.mp z]; exact List.mem_cons_self), fun z => n.2 (List.mem_cons_of_mem _ z)⟩
        have S' : Sim X.K X.mgw (β2.push Da) (st2 ++ [.lst ys]) H := by
          refine ⟨by simp [Bt.push, su.len], ?_, fun a ha => ?_, fun j a c' h1 h2 => ?_⟩
          · show (β2.l ++ [Da]).Nodup
            rw [List.nodup_append]
            refine ⟨su.nd, by simp, fun a ha b hb => ?_⟩
            rw [List.mem_singleton.mp hb]
            rintro rfl
            exact nl ha
          · obtain ⟨n, u, e⟩ := su.hid a ha
            refine ⟨fun z => ?_, u, e⟩
            rcases List.mem_append.mp z with z | z
            · exact n z
            · rw [List.mem_singleton.mp z] at ha
              exact nh ha
          · change (β2.l ++ [Da])[j]? = some a at h1
            by_cases hj : j < st2.length
            · rw [List.getElem?_append_left (by rw [su.len]; exact hj)] at h1
              rw [List.getElem?_append_left hj] at h2
              exact CellOk.map (β := β2.hide Da) (fun r => Reps.weak hl ho r) rfl (s2.cell j a c' h1 h2)
            · have h3 : j < (st2 ++ [C.lst ys]).length := (List.getElem?_eq_some_iff.mp h2).1
              have e : j = st2.length := by simp at h3; omega
              subst e
              rw [List.getElem?_append_right (by omega), Nat.sub_self] at h2
              rw [List.getElem?_append_right (by rw [su.len]; omega), su.len, Nat.sub_self] at h1
              simp at h1 h2
              subst h1
              subst h2
              exact ⟨acc, hD, Reps.weak hl ho rys⟩
        refine hq (β2.push Da) H (.ref Da) ?_ S' (.ref (by rw [← su.len]; simp [Bt.push]))
        obtain ⟨gx, eg⟩ := xs.pre
        refine ⟨⟨gx ++ [Da], ?_⟩, xs.hid, fun a o ha na => ?_, xs.frz⟩
        · show β2.l ++ [Da] = β1.l ++ (gx ++ [Da])
          rw [eg, List.append_assoc]
        · obtain ⟨q1, q2⟩ := xs.kept0 a o ha na
          refine ⟨q1, fun z => ?_⟩
          rcases List.mem_append.mp z with z | z
          · exact q2 z
          · rw [List.mem_singleton.mp z, nD] at ha
            cases ha
    · rw [if_neg gk] at hq
      exact hq.elim
theorem ve_lc (k : Bool) {scope : Scope} {own : List (Str × Nat)} (hw : ∀ j ∈ ws, j ∈ own.map (·.2)) (hc : X.calm = true) (hN : X.N.Nodup) (hi : VI X E tg it fi) (ok : BlkOk X.N X.env.scope scope own)
    (hg : ∀ (s : Shared) (H : Hp) (C : Addr) (cl : List (Str × Addr)) (fp : List Addr), VG (X.blk s H scope (compEnvC scope cl C X.env) fp) E0 tg ws g) (ht : ∀ (s : Shared) (H : Hp) (C : Addr) (cl : List (Str × Addr)) (fp : List Addr), PTs (X.blk s H scope (compEnvC scope cl C X.env) fp) ifs (tVT X.K X.mgw E0 t))
    (he : ∀ (s : Shared) (H : Hp) (C : Addr) (cl : List (Str × Addr)) (fp : List Addr), VE (X.blk s H scope (compEnvC scope cl C X.env) fp) E0 elt f) (hs : ∀ x, foldedSetIterable it X.env x = pure x := by intro _; rfl) :
    VE X E (.ListComp elt [⟨tg, it, ifs, 0⟩] scope pos) (vLc k (own.map (·.2)) fi g t f) :=
  weakE (pe_lc hc hN hi ok hg ht he hs) fun σ H Q h => use_lc k hw h
theorem vs_setLc (k : Bool) {i : Nat} {y : Str} {py spos : Pos} {scope : Scope} {own : List (Str × Nat)} (hw : ∀ j ∈ ws, j ∈ own.map (·.2)) (hc : X.calm = true) (hN : X.N.Nodup) (hy : X.N[i]? = some y) (hyl : X.env.scope.names.lookup y = some .local)
    (hsw : swapsWith (.ListComp elt [⟨tg, it, ifs, 0⟩] scope pos) (some (.Name y py)) spos.line X.env = pure true) (hi : VI X E tg it fi) (ok : BlkOk X.N X.env.scope scope own)
    (hg : ∀ (s : Shared) (H : Hp) (C : Addr) (cl : List (Str × Addr)) (fp : List Addr), VG (X.blk s H scope (compEnvC scope cl C X.env) fp) E0 tg ws g) (ht : ∀ (s : Shared) (H : Hp) (C : Addr) (cl : List (Str × Addr)) (fp : List Addr), PTs (X.blk s H scope (compEnvC scope cl C X.env) fp) ifs (tVT X.K X.mgw E0 t))
    (he : ∀ (s : Shared) (H : Hp) (C : Addr) (cl : List (Str × Addr)) (fp : List Addr), VE (X.blk s H scope (compEnvC scope cl C X.env) fp) E0 elt f) (hs : ∀ x, foldedSetIterable it X.env x = pure x := by intro _; rfl) :
    VS X E (.Assign [.Name y py] (.ListComp elt [⟨tg, it, ifs, 0⟩] scope pos) spos) (sSet i (vLc k (own.map (·.2)) fi g t f)) :=
  weakS (ps_setLc (g := tVG X.K X.mgw E0 ws g) (te := tV X.K X.mgw E0 f) hc hN hy hyl hsw hi ok hg ht he hs) fun De σ H ⟨β, env, st, he, hs, h⟩ => by
    refine use_lc (E := E) (g := g) (t := t) (f := f) k hw ?_
    exact fl_bind he hs h fun a st1 β1 H1 u x s1 e1 r1 h1 => h1 β1 H1 _ (Ext.refl _ _) s1 (e1.set r1 i)
@[simp] def tYesV (_ : En) (st : AS) : Out Bool := .ok true st
theorem vts_nil : PTs X [] (tVT X.K X.mgw E tYesV) := ⟨fun pins s σ H Q I h => (pts_nil (X := X)).run pins s σ H Q I (by
  obtain ⟨β, env, st, he, hs, h⟩ := h
  exact h.here hs rfl)⟩
theorem vts_one {c : Expr} (h : VT X E c t) : PTs X [c] (tVT X.K X.mgw E t) := pts_one h
end
/-! ### defs -/
mutual
def D.low (n : Nat) : D → Bool
  | .tup ds => D.lows n ds
  | .lst ds => D.lows n ds
  | .ctp ds => D.lows n ds
  | .fzl ds => D.lows n ds
  | .ref i => decide (i < n)
  | _ => true
def D.lows (n : Nat) : List D → Bool
  | [] => true
  | d :: ds => d.low n && D.lows n ds
end
def C.low (n : Nat) : C → Bool
  | .lst ds => D.lows n ds
  | .dct kvs => D.lows n (kvs.map (·.2))
  | .dtt kvs => D.lows n (kvs.map (·.2))
  | .dtf kvs => D.lows n (kvs.map (·.2))
  | .lck kvs => D.lows n (kvs.map (·.2))
  | .obj _ fs => D.lows n (fs.map (·.2))
theorem kDs_low (n : Nat) : ∀ ks : List Key, D.lows n (ks.map kD) = true
  | [] => by rw [List.map_nil, D.lows]
  | k :: ks => by
    rw [List.map_cons, D.lows, kDs_low n ks, Bool.and_true]
    cases k <;> simp [kD, D.low]
theorem keys_low (n : Nat) : ∀ kvs : List (List Key × D), D.lows n (kvs.map fun p => .ctp (p.1.map kD)) = true
  | [] => by rw [List.map_nil, D.lows]
  | p :: kvs => by
    rw [List.map_cons, D.lows, keys_low n kvs, D.low, kDs_low]
    rfl
section
variable {K : PySem.W.Frag} {mg : MG} {β β' : Bt} {H H' : Hp} {st st' : AS}
mutual
theorem Rep.low : ∀ {d : D} {u : V}, Rep K H β d u → d.low β.l.length = true
  | _, _, .non => by simp [D.low]
  | _, _, .bl b => by simp [D.low]
  | _, _, .int i => by simp [D.low]
  | _, _, .str s => by simp [D.low]
  | _, _, .cv v => by simp [D.low]
  | _, _, .ref h => by
    have := (List.getElem?_eq_some_iff.mp h).1
    simpa [D.low] using this
  | _, _, .tup n h r => by rw [D.low]; exact Reps.low r
  | _, _, .ctp h r => by rw [D.low]; exact Reps.low r
  | _, _, .lst n h r => by rw [D.low]; exact Reps.low r
  | _, _, .fzl h r => by rw [D.low]; exact Reps.low r
theorem Reps.low : ∀ {ds : List D} {us : List V}, Reps K H β ds us → D.lows β.l.length ds = true
  | _, _, .nil => by rw [D.lows]
  | _, _, .cons r t => by rw [D.lows, Rep.low r, Reps.low t]; rfl
end
mutual
/-- the younger things are dropped -/
theorem Rep.drop {n : Nat} (hl : ∀ (i : Nat) a, i < n → β'.l[i]? = some a → β.l[i]? = some a) (ho : ∀ a, β'.out a → β.out a) : ∀ {d : D} {u : V}, Rep K H β' d u → d.low n = true → Rep K H β d u
  | _, _, .non, _ => .non
  | _, _, .bl b, _ => .bl b
  | _, _, .int i, _ => .int i
  | _, _, .str s, _ => .str s
  | _, _, .cv v, _ => .cv v
  | _, _, .ref h, b => .ref (hl _ _ (by simpa [D.low] using b) h)
  | _, _, .tup n h r, b => .tup (ho _ n) h (Reps.dropped hl ho r (by rw [D.low] at b; exact b))
  | _, _, .ctp h r, b => .ctp (h.imp fun o h n => ⟨h, ho _ n⟩) (Reps.dropped hl ho r (by rw [D.low] at b; exact b))
  | _, _, .lst n h r, b => .lst (ho _ n) h (Reps.dropped hl ho r (by rw [D.low] at b; exact b))
  | _, _, .fzl h r, b => .fzl (h.imp (fun z => ⟨ho _ z.1, z.2⟩) id) (Reps.dropped hl ho r (by rw [D.low] at b; exact b))
theorem Reps.dropped {n : Nat} (hl : ∀ (i : Nat) a, i < n → β'.l[i]? = some a → β.l[i]? = some a) (ho : ∀ a, β'.out a → β.out a) : ∀ {ds : List D} {us : List V}, Reps K H β' ds us → D.lows n ds = true → Reps K H β ds us
  | _, _, .nil, _ => .nil
  | _, _, .cons r t, b => by
    rw [D.lows, Bool.and_eq_true] at b
    exact .cons (Rep.drop hl ho r b.1) (Reps.dropped hl ho t b.2)
end
/-- the younger lists, by what they hold -/
def frzD (st : AS) (n : Nat) : Nat → D → D
  | 0, d => d
  | k + 1, d => match d with
    | .ref i => if n ≤ i then (match st[i]? with
      | some (.lst ds) => .lst (ds.map (frzD st n k))
      | _ => .ref i) else .ref i
    | .tup ds => .tup (ds.map (frzD st n k))
    | .lst ds => .lst (ds.map (frzD st n k))
    | d => d
def OkOver (st st' : AS) : Prop := ∀ (i : Nat) (c : C), i < st.length → st'[i]? = some c → st[i]? = some c ∨ c.low st.length = true
noncomputable instance (st st' : AS) : Decidable (OkOver st st') := Classical.propDecidable _
/-- what a def tells: the younger things go, if nothing leans on them -/
noncomputable def ret (frz : Nat) (st : AS) (d : D) (st' : AS) : Out D :=
  if st'.length = st.length then .ok d st'
  else if (frzD st' st.length frz d).low st.length = true ∧ OkOver st st' then .ok (frzD st' st.length frz d) (st'.take st.length)
  else .ok d st'
theorem frz_ok {n : Nat} (S : Sim K mg β' st' H) (hl : ∀ (i : Nat) a, i < n → β'.l[i]? = some a → β.l[i]? = some a) (hn : ∀ a ∈ β.l, ∃ i, i < n ∧ β'.l[i]? = some a) (hh : β.h = β'.h) : ∀ (k : Nat) (d : D) (u : V), Rep K H β' d u → (frzD st' n k d).low n = true → Rep K H β (frzD st' n k d) u := by
  have ho : ∀ a, β'.out a → β.out a := fun a z => ⟨fun m => by
    obtain ⟨i, _, e⟩ := hn a m
    exact z.1 (List.mem_of_getElem? e), by rw [hh]; exact z.2⟩
  intro k
  induction k with
  | zero => exact fun d u r b => r.drop hl ho b
  | succ k ih =>
    have all : ∀ {ds : List D} {us : List V}, Reps K H β' ds us → D.lows n (ds.map (frzD st' n k)) = true → Reps K H β (ds.map (frzD st' n k)) us := by
      intro ds
      induction ds with
      | nil => intro us r _; cases r; exact .nil
      | cons d ds ihd =>
        intro us r b
        rw [List.map_cons, D.lows, Bool.and_eq_true] at b
        cases r with
        | cons r t => exact .cons (ih _ _ r b.1) (ihd t b.2)
    intro d u r b
    cases r with
    | non => exact .non
    | bl _ => exact .bl _
    | int _ => exact .int _
    | str _ => exact .str _
    | cv q => exact .cv q
    | ctp h r => exact Rep.drop (β' := β') hl ho (.ctp h r) b
    | fzl h r => exact Rep.drop (β' := β') hl ho (.fzl h r) b
    | tup nm h r =>
      change D.lows n _ = true at b
      exact .tup (ho _ nm) h (all r b)
    | lst nm h r =>
      change D.lows n _ = true at b
      exact .lst (ho _ nm) h (all r b)
    | ref h =>
      rename_i i a
      unfold frzD at b ⊢
      dsimp only at b ⊢
      by_cases hi : n ≤ i
      · rw [if_pos hi] at b ⊢
        split at b
        · rename_i ds e
          obtain ⟨us, e3, q⟩ := S.cell i a _ h e
          change D.lows n _ = true at b
          refine .lst ⟨fun m => ?_, ?_⟩ e3 (all q b)
          · obtain ⟨j, hj, ej⟩ := hn a m
            obtain ⟨l1, e1⟩ := List.getElem?_eq_some_iff.mp h
            obtain ⟨l2, e2⟩ := List.getElem?_eq_some_iff.mp ej
            have : i = j := (List.getElem_inj S.nd).mp (e1.trans e2.symm)
            omega
          · rw [hh]
            exact fun m => (S.hid a m).1 (List.mem_of_getElem? h)
        · have : i < n := by simpa [D.low] using b
          omega
      · rw [if_neg hi] at b ⊢
        exact .ref (hl i a (by omega) h)
theorem ret_ok {E : XK} {Q : VK} {frz : Nat} {d : D} {u : V} (S : Sim K mg β st H) (S' : Sim K mg β' st' H') (x : Ext β H β' H') (r : Rep K H' β' d u) (h : Post K mg (rD K) E β H Q (ret frz st d st')) : Q u H' := by
  unfold ret at h
  split at h
  · exact h β' H' u x S' r
  · split at h
    · rename_i hb
      obtain ⟨gx, eg⟩ := x.pre
      have hlen : β.l.length = st.length := S.len
      have hl : ∀ (i : Nat) a, i < st.length → β'.l[i]? = some a → β.l[i]? = some a := fun i a hi e => by
        rw [eg, List.getElem?_append_left (by omega)] at e
        exact e
      have hn : ∀ a ∈ β.l, ∃ i, i < st.length ∧ β'.l[i]? = some a := fun a m => by
        obtain ⟨i, hi, e⟩ := List.getElem_of_mem m
        exact ⟨i, by omega, by rw [eg, List.getElem?_append_left hi]; simp [hi, e]⟩
      have ho : ∀ a, β'.out a → β.out a := fun a z => ⟨fun m => z.1 (by rw [eg]; exact List.mem_append_left _ m), by rw [← x.hid]; exact z.2⟩
      have hle : st.length ≤ st'.length := by
        have := S'.len
        rw [eg, List.length_append] at this
        omega
      refine h β H' u ⟨⟨[], by simp⟩, rfl, fun a o ha na => ⟨(x.kept0 a o ha na).1, na⟩, x.frz⟩ ?_ (frz_ok S' hl hn x.hid.symm _ d u r hb.1)
      refine ⟨by rw [List.length_take]; omega, S.nd, fun a ha => ?_, fun i a c h1 h2 => ?_⟩
      · obtain ⟨n, o, e⟩ := S.hid a ha
        exact ⟨n, o, (x.kept0 a o e n).1⟩
      · have hi : i < st.length := by
          have := (List.getElem?_eq_some_iff.mp h1).1
          omega
        rw [List.getElem?_take_of_lt hi] at h2
        have q := S'.cell i a c (x.at h1) h2
        have bl : c.low st.length = true := by
          rcases hb.2 i c hi h2 with z | z
          · have q0 := S.cell i a c h1 z
            rw [← hlen]
            cases c with
            | lst ds => obtain ⟨_, _, r⟩ := q0; exact r.low
            | dct ds => obtain ⟨_, _, r⟩ := q0; exact r.2.low
            | dtt ds => obtain ⟨_, _, r⟩ := q0; exact r.2.low
            | dtf ds => obtain ⟨_, _, _, r, _⟩ := q0; exact r.2.low
            | lck ds => obtain ⟨_, _, _, r⟩ := q0; exact r.2.low
            | obj n fs => obtain ⟨_, _, _, _, _, r⟩ := q0; exact r.2.low
          · exact z
        cases c with
        | lst ds => obtain ⟨us, e, r⟩ := q; exact ⟨us, e, r.dropped hl ho bl⟩
        | dct ds => obtain ⟨us, e, r⟩ := q; exact ⟨us, e, r.1, r.2.dropped hl ho bl⟩
        | dtt ds => obtain ⟨us, e, r⟩ := q; exact ⟨us, e, r.1, r.2.dropped hl ho bl⟩
        | dtf ds => obtain ⟨us, bs, e, r, t⟩ := q; exact ⟨us, bs, e, ⟨r.1, r.2.dropped hl ho bl⟩, t.dropped hl ho (keys_low _ _)⟩
        | lck ds => obtain ⟨z, us, e, r⟩ := q; exact ⟨z, us, e, r.1, r.2.dropped hl ho bl⟩
        | obj n fs => obtain ⟨Ca, dx, us, m, e, r⟩ := q; exact ⟨Ca, dx, us, m, e, r.1, r.2.dropped hl ho bl⟩
    · exact h β' H' u x S' r
end
/-- the def as a plain function: N slots -/
noncomputable def Fl.fin (frz : Nat) (st : AS) (o : Fl) : Out D := match o with
  | .rt d st' => ret frz st d st'
  | .nx _ st' => ret frz st .non st'
  | .exc c fs st' => .exc c fs st'
  | _ => .bad
@[simp] theorem Fl.fin_rt (frz : Nat) (st st' : AS) (d : D) : (Fl.rt d st').fin frz st = ret frz st d st' := rfl
@[simp] theorem Fl.fin_nx (frz : Nat) (st st' : AS) (env : En) : (Fl.nx env st').fin frz st = ret frz st .non st' := rfl
@[simp] theorem Fl.fin_exc (frz : Nat) (st st' : AS) (c : Str) (fs : List (Str × D)) : (Fl.exc c fs st').fin frz st = .exc c fs st' := rfl
@[simp] theorem Fl.fin_bad (frz : Nat) (st : AS) : (Fl.bad).fin frz st = .bad := rfl
@[simp] theorem ret_same (frz : Nat) (st : AS) (d : D) : ret frz st d st = .ok d st := by
  unfold ret
  rw [if_pos rfl]
@[simp] theorem ret_set (frz : Nat) (st : AS) (d : D) (i : Nat) (c : C) : ret frz st d (st.set i c) = .ok d (st.set i c) := by
  unfold ret
  rw [if_pos (by simp)]
theorem ret_len {frz : Nat} {st st' : AS} {d : D} (h : st'.length = st.length) : ret frz st d st' = .ok d st' := by
  unfold ret
  rw [if_pos h]
@[simp] noncomputable def vFn (N : Nat) (frz : Nat) (body : En → AS → Fl) (ds : List D) (st : AS) : Out D := (body (ds.map some ++ List.replicate (N - ds.length) none) st).fin frz st
def spV (K : PySem.W.Frag) (mg : MG) (n : Nat) (F : List D → AS → Out D) : Sp := fun vs H Q E => ∃ (β : Bt) (ds : List D) (st : AS), vs.length = n ∧ Reps K H β ds vs ∧ Sim K mg β st H ∧ Post K mg (rD K) E β H Q (F ds st)
section
variable {P : Program} {w : World} {K : PySem.W.Frag} {mg : Str → Option Value} {base : Heap}
theorem start_env {H : Hp} {β : Bt} {ds : List D} {vs : List V} {N : List Str} (r : Reps K H β ds vs) : EnvR K H β (ds.map some ++ List.replicate (N.length - ds.length) none) (L2.start N vs) := by
  unfold L2.start
  rw [r.length]
  refine ⟨by simp [r.length], fun i d h => ?_⟩
  by_cases hi : i < ds.length
  · rw [List.getElem?_append_left (by simpa using hi), List.getElem?_map] at h
    rw [List.getElem?_append_left (by simpa [r.length] using hi), List.getElem?_map]
    cases e : ds[i]? with
    | none => rw [e] at h; cases h
    | some d' =>
      rw [e] at h
      cases h
      obtain ⟨u, e1, r1⟩ := r.get e
      exact ⟨u, by rw [e1]; rfl, r1⟩
  · rw [List.getElem?_append_right (by simpa using hi)] at h
    have := List.mem_of_getElem? h
    rw [List.mem_replicate] at this
    cases this.2
/-- THE RULE of a def -/
theorem gokV {x qual : Str} {sd : Stmt} {f : Addr} {fd : FuncData} {N ps : List Str} {k : Nat} {body : En → AS → Fl} (frz : Nat) (F : Fun K x qual sd f fd) (S : FnScope N ps (defScope sd))
    (walk : ∀ (cdv : Value) (A : Around), A.guards = some [] → ∀ (outer : List Env) (s : Shared) (H : Hp) (E : XK), Room k (A.deeper (envOfC qual (defScope sd) s.heap.objs.size f cdv)) →
      VSs (cxOf (L2.CX P w) P w K mg base N qual (defScope sd) f cdv A outer s H E) E (defBody sd) body) :
    FnG P w K mg base (L2.CX P w) (k + 1) f fd ps (spV K ⟨mg, w⟩ ps.length (vFn N.length frz body)) := by
  obtain ⟨_, _, _, _, _, _, cdv, _, _, rfl, lk, hcd⟩ := F.ex
  refine gfn lk hcd S (fun vs H Q E h => ?_) fun A hg outer s H vs Q E hr hsp => ?_
  · obtain ⟨_, _, _, e, _⟩ := h
    exact e
  · obtain ⟨β, ds, st, hl, r, hS, hp⟩ := hsp
    refine ⟨_, walk cdv A hg outer s H E hr, β, _, st, start_env r, hS, ?_⟩
    unfold vFn Fl.fin at hp
    cases o : body (ds.map some ++ List.replicate (N.length - ds.length) none) st with
    | rt d st' =>
      rw [o] at hp
      exact fun β' H' u x S' r' => ret_ok hS S' x r' hp
    | nx env st' =>
      rw [o] at hp
      exact fun β' H' σ' x S' _ => ret_ok hS S' x .non hp
    | exc c fs st' => rw [o] at hp; exact hp
    | bk env st' => rw [o] at hp; exact hp.elim
    | ct env st' => rw [o] at hp; exact hp.elim
    | bad => rw [o] at hp; exact hp.elim
end
end VL
set_option Elab.async false
set_option linter.all false
set_option maxRecDepth 100000
/-! The value layer: how arguments come to parameters; calls by places and by names; the end. -/
namespace VL
open PySem PySem.Spec PyProof.Rows L2 TB
/-- where a parameter's value comes from: a place, a name, a default -/
inductive Src where
  | pos (i : Nat) | kw (j : Nat) | dfl (j : Nat)
@[simp] def pick {α : Type} (us ws ds : List α) : Src → Option α
  | .pos i => us[i]?
  | .kw j => ws[j]?
  | .dfl j => ds[j]?
@[simp] def asm {α : Type} (us ws ds : List α) : List Src → List α
  | [] => []
  | s :: r => match pick us ws ds s with
    | some a => a :: asm us ws ds r
    | none => []
theorem Vals.asm {us ws ds : List V} {us' ws' ds' : List Value} (h1 : Vals us us') (h2 : Vals ws ws') (h3 : Vals ds ds') : ∀ ss : List Src, Vals (asm us ws ds ss) (asm us' ws' ds' ss)
  | [] => .nil
  | s :: r => by
    have ih := Vals.asm h1 h2 h3 r
    have one : ∀ {xs : List V} {ys : List Value} (i : Nat), Vals xs ys → (∃ x y, xs[i]? = some x ∧ ys[i]? = some y ∧ RelV x y) ∨ (xs[i]? = none ∧ ys[i]? = none) := by
      intro xs ys i h
      cases e : xs[i]? with
      | none => exact .inr ⟨rfl, h.none_of e⟩
      | some x =>
        obtain ⟨y, e2, r⟩ := h.get e
        exact .inl ⟨x, y, rfl, e2, r⟩
    unfold VL.asm
    have go : (∃ x y, pick us ws ds s = some x ∧ pick us' ws' ds' s = some y ∧ RelV x y) ∨ (pick us ws ds s = none ∧ pick us' ws' ds' s = none) := by
      cases s with
      | pos i => exact one i h1
      | kw i => exact one i h2
      | dfl i => exact one i h3
    rcases go with ⟨x, y, e1, e2, r⟩ | ⟨e1, e2⟩
    · rw [e1, e2]
      exact .cons r ih
    · rw [e1, e2]
      exact .nil
theorem Reps.asm {K : PySem.W.Frag} {H : Hp} {β : Bt} {us ws ds : List D} {us' ws' ds' : List V} (h1 : Reps K H β us us') (h2 : Reps K H β ws ws') (h3 : Reps K H β ds ds') : ∀ ss : List Src, Reps K H β (asm us ws ds ss) (asm us' ws' ds' ss)
  | [] => .nil
  | s :: r => by
    have ih := Reps.asm h1 h2 h3 r
    have one : ∀ {xs : List D} {ys : List V} (i : Nat), Reps K H β xs ys → (∃ x y, xs[i]? = some x ∧ ys[i]? = some y ∧ Rep K H β x y) ∨ (xs[i]? = none ∧ ys[i]? = none) := by
      intro xs ys i h
      cases e : xs[i]? with
      | none =>
        refine .inr ⟨rfl, ?_⟩
        rw [List.getElem?_eq_none_iff] at e ⊢
        rw [h.length]
        exact e
      | some x =>
        obtain ⟨y, e2, r⟩ := h.get e
        exact .inl ⟨x, y, rfl, e2, r⟩
    unfold VL.asm
    have go : (∃ x y, pick us ws ds s = some x ∧ pick us' ws' ds' s = some y ∧ Rep K H β x y) ∨ (pick us ws ds s = none ∧ pick us' ws' ds' s = none) := by
      cases s with
      | pos i => exact one i h1
      | kw i => exact one i h2
      | dfl i => exact one i h3
    rcases go with ⟨x, y, e1, e2, r⟩ | ⟨e1, e2⟩
    · rw [e1, e2]
      exact .cons r ih
    · rw [e1, e2]
      exact .nil
/-- n values by places, the others by the names ks, the rest by the defaults -/
def BindV (K : PySem.W.Frag) (fd : FuncData) (ps : List Str) (n : Nat) (ks : List Str) (ds : List V) (ss : List Src) : Prop :=
  ∀ (s : Shared) (us ws : List Value), K.In s.heap → us.length = n → ws.length = ks.length → ∃ ds' : List Value, Vals ds ds' ∧ BindsTo s fd ⟨us, ks.zip ws⟩ (ps.zip (asm us ws ds' ss))
theorem bindV0 {K : PySem.W.Frag} {x qual : Str} {st : Stmt} {f : Addr} {fd : FuncData} {ps : List Str} (F : Fun K x qual st f fd) (n : Nat) (ks : List Str) (ss : List Src)
    (h : ∀ (kV doc pm : Value) (an : Option Addr) (cdv ct : Value) (us ws : List Value), us.length = n → ws.length = ks.length → bindArgs (PySem.W.fnOf x qual (defArgs st) (defBody st) (defScope st) .none kV doc pm an cdv ct) ⟨us, ks.zip ws⟩ = pure (ps.zip (asm us ws [] ss))) : BindV K fd ps n ks [] ss := by
  obtain ⟨oc, od, kV, doc, pm, an, cdv, ct, osl, rfl, lk, hcd⟩ := F.ex
  exact fun s us ws X l1 l2 => ⟨[], .nil, .of_eq (h kV doc pm an cdv ct us ws l1 l2)⟩
theorem bindVD {K : PySem.W.Frag} {x qual : Str} {params : Arguments} {body : List Stmt} {scope : Scope} {dvs : List V} {f : Addr} {fd : FuncData} {ps : List Str} (F : FunD K x qual params body scope dvs [] f fd) (hd : dvs ≠ []) (n : Nat) (ks : List Str) (ss : List Src)
    (h : ∀ (T : Addr) (kV doc pm : Value) (an : Option Addr) (cdv ct : Value) (us ws its : List Value), us.length = n → ws.length = ks.length → its.length = dvs.length →
      ∃ k, bindArgs (PySem.W.fnOf x qual params body scope (.ref T) kV doc pm an cdv ct) ⟨us, ks.zip ws⟩ = seqItems? (.ref T) >>= k ∧ k (some its.toArray) = pure (ps.zip (asm us ws its ss))) : BindV K fd ps n ks dvs ss := by
  obtain ⟨oc, od, dV, kV, doc, pm, an, cdv, ct, osl, rfl, lk, hcd, hD, hK⟩ := F.ex
  rcases hD with ⟨e, _⟩ | ⟨_, T, o, its, m, rfl, lT, oT, rT⟩
  · exact absurd e hd
  · intro s us ws X l1 l2
    obtain ⟨k, e1, e2⟩ := h T kV doc pm an cdv ct us ws its l1 l2 rT.length.symm
    refine ⟨its, rT, BindsTo.of_looks fun M => ?_⟩
    rw [e1]
    exact looks_items X lT oT (.of_pure e2)
section
variable {X : Cx} {E : XK} {k n m : Nat} {f : Addr} {fd : FuncData} {ps ks : List Str} {F : List D → AS → Out D} {dvs : List V} {ds : List D} {ss : List Src} {x : Str} {p pos : Pos} {e : Expr} {es : List Expr} {kws : List Keyword} {fs fk : En → AS → Out (List D)}
abbrev VK' (X : Cx) (E : XK) (kws : List Keyword) (f : En → AS → Out (List D)) : Prop := PK X kws (tVA X.K X.mgw E f)
theorem weakK {t t' : TA} (h : PK X kws t) (w : ∀ σ H Q, t' σ H Q → t σ H Q) : PK X kws t' := ⟨fun pos pins s σ H Q I q => h.run pos pins s σ H Q I (w σ H Q q)⟩
theorem vk_nil : VK' X E [] vNil := weakK pk_nil fun σ H Q ⟨β, env, st, he, hs, h⟩ => h.here hs .nil
theorem vk_cons {nm : Option Str} {kpos : Pos} {fe : En → AS → Out D} (ha : VE X E e fe) (hr : VK' X E kws fk) : VK' X E (⟨nm, e, kpos⟩ :: kws) (vCons fe fk) := by
  refine weakK (pk_cons ha hr) fun σ H Q ⟨β, env, st, he, hs, h⟩ => ?_
  refine tG_bind he hs h fun a st1 β1 H1 u x1 s1 e1 r1 h1 => ?_
  refine tG_bind e1 s1 h1 fun as st2 β2 H2 us x2 s2 e2 r2 h2 => ?_
  exact h2 β2 H2 _ (Ext.refl _ _) s2 (.cons (r1.ext x2) r2)
theorem run_V {pins : List (Addr × Obj)} {σ : L2.St} {H : Hp} {s : Shared} {Q : VK} {us ws : List Value} {vs zs : List V} {sp : Sp} (G : FnG X.prog X.w X.K X.mg X.base (L2.CX X.prog X.w) k f fd ps sp) (gd : X.A.guards = some []) (hr : Room k X.A) (hb : BindV X.K fd ps n ks dvs ss) (hx : Passes (L2.CX X.prog X.w) X E)
    (I : Inv X pins σ H s) (r : Vals vs us) (rz : Vals zs ws) (l1 : vs.length = n) (l2 : zs.length = ks.length) (h : sp (asm vs zs dvs ss) H Q E) : wpAny (model X.prog X.w) X.A (call (.ref f) us (ks.zip ws)) (EP X pins σ Q) X.xe s := by
  obtain ⟨ds', rd, hb⟩ := hb s us ws I.kIn (r.length.symm.trans l1) (rz.length.symm.trans l2)
  refine wpAny_call (codeAny_mono (G.run X.A gd hr X.stack s H I.env0 ⟨us, ks.zip ws⟩ _ _ hb (Vals.asm r rz rd ss) Q E h) ?_)
  intro res s' hq
  match res, hq with
  | .error e, hq => exact hx pins σ H s e s' I hq
  | .ok (.ret u), hq => exact I.after hq
  | .ok .next, hq => exact hq.elim
  | .ok .brk, hq => exact hq.elim
  | .ok .cont, hq => exact hq.elim
@[simp] def vCallA (n m : Nat) (ds : List D) (ss : List Src) (F : List D → AS → Out D) (fs fk : En → AS → Out (List D)) (env : En) (st : AS) : Out D := (fs env st).bind fun xs st => (fk env st).bind fun zs st => if xs.length = n ∧ zs.length = m then F (asm xs zs ds ss) st else .bad
theorem use_V {σ : L2.St} {H : Hp} {Q : VK} {N : Nat} (hN : ∀ us ws : List V, us.length = n → ws.length = m → (asm us ws dvs ss).length = N) (hd : ∀ H β, Reps X.K H β ds dvs) (h : tV X.K X.mgw E (vCallA n m ds ss F fs fk) σ H Q) :
    tVA X.K X.mgw E fs σ H fun vs H1 => tVA X.K X.mgw E fk σ H1 fun zs H2 => vs.length = n ∧ zs.length = m ∧ spV X.K X.mgw N F (asm vs zs dvs ss) H2 Q E := by
  obtain ⟨β, env, st, hE, hS, h⟩ := h
  refine tG_bind hE hS h fun xs st1 β1 H1 us x1 s1 e1 r1 h1 => ?_
  refine tG_bind e1 s1 h1 fun zs st2 β2 H2 ws x2 s2 e2 r2 h2 => ?_
  obtain ⟨⟨l1, l2⟩, h2⟩ := h2.ite
  have l1' : us.length = n := r1.length.trans l1
  have l2' : ws.length = m := r2.length.trans l2
  exact ⟨l1', l2', β2, _, st2, hN us ws l1' l2', Reps.asm (r1.ext x2) r2 (hd H2 β2) ss, s2, h2⟩
/-- f(e, ..) -/
theorem ve_callP {N : Nat} (G : FnG X.prog X.w X.K X.mg X.base (L2.CX X.prog X.w) k f fd ps (spV X.K X.mgw N F)) (gd : X.A.guards = some []) (hr : Room k X.A) (hg : Gl X x) (hm : X.mg x = some (.ref f)) (hk : PySem.W.keepIn X.K (.ref f) = true)
    (hb : BindV X.K fd ps n [] dvs ss) (hN : ∀ us ws : List V, us.length = n → ws.length = 0 → (asm us ws dvs ss).length = N) (hd : ∀ H β, Reps X.K H β ds dvs) (hx : Passes (L2.CX X.prog X.w) X E) (ha : VA X E (e :: es) fs)
    (he : starEach (e :: es) X.env = (false, eval e X.env) :: starEach es X.env := by rfl) (hdb : (x == ("__debug__" : Str)) = false := by decide) (hpl : (backTo pos (starEach es X.env)).any (·.1) = false := by rfl) :
    VE X E (.Call (.Name x p) (e :: es) [] pos) (vCallA n 0 ds ss F fs vNil) := by
  constructor
  intro pins s σ H Q I h
  have h := use_V (E := E) hN hd h
  refine wpAny_Call_Name_kw (ld_glob I hg hm (PySem.W.callWith_K (h₀ := X.base) I.ok.mod.kin hk (thn (ha.run pos pins s σ H _ I h) ?_) he hpl) hdb)
  rintro us s1 ⟨vs, H1, I1, r, q⟩
  obtain ⟨zs, H2, I2, rz, q2⟩ : ∃ zs H2, Inv X pins σ H2 s1 ∧ Vals zs ([] : List Value) ∧ (vs.length = n ∧ zs.length = 0 ∧ spV X.K X.mgw N F (asm vs zs dvs ss) H2 Q E) := by
    obtain ⟨β, env, st, hE, hS, q⟩ := q
    exact ⟨[], H1, I1, .nil, q.here hS .nil⟩
  exact ⟨I2.kIn, run_V G gd hr hb hx I2 r rz q2.1 q2.2.1 q2.2.2⟩
/-- f(e, .., k = v, ..) -/
theorem ve_callK {N : Nat} (G : FnG X.prog X.w X.K X.mg X.base (L2.CX X.prog X.w) k f fd ps (spV X.K X.mgw N F)) (gd : X.A.guards = some []) (hr : Room k X.A) (hg : Gl X x) (hm : X.mg x = some (.ref f)) (hk : PySem.W.keepIn X.K (.ref f) = true)
    (hb : BindV X.K fd ps n ks dvs ss) (hN : ∀ us ws : List V, us.length = n → ws.length = ks.length → (asm us ws dvs ss).length = N) (hd : ∀ H β, Reps X.K H β ds dvs) (hx : Passes (L2.CX X.prog X.w) X E) (ha : VA X E (e :: es) fs) (hkw : VK' X E kws fk)
    (hml : ks.length = m) (hall : (backToKw pos (keywordEach kws X.env)).all (·.1.isSome) = true := by rfl) (hks : (backToKw pos (keywordEach kws X.env)).filterMap (·.1) = ks := by rfl)
    (hdb : (x == ("__debug__" : Str)) = false := by decide) (he : starEach (e :: es) X.env = (false, eval e X.env) :: starEach es X.env := by rfl)
    (hpl : ((backTo pos (starEach (e :: es) X.env)).any (·.1) || (backToKw pos (keywordEach kws X.env)).any (·.1.isNone)) = false := by rfl) :
    VE X E (.Call (.Name x p) (e :: es) kws pos) (vCallA n m ds ss F fs fk) := by
  subst hml
  constructor
  intro pins s σ H Q I h
  have h := use_V (E := E) hN hd h
  refine wpAny_Call_Name_kw (ld_glob I hg hm ?_ hdb)
  refine PySem.W.callWith_KW (h₀ := X.base) I.ok.mod.kin hk hall (thn (ha.run pos pins s σ H _ I h) ?_) hpl he
  rintro us s1 ⟨vs, H1, I1, r, q⟩
  refine thn (hkw.run pos pins s1 σ H1 _ I1 q) ?_
  rintro ws s2 ⟨zs, H2, I2, rz, l1, l2, q2⟩
  rw [hks]
  exact ⟨I2.kIn, run_V G gd hr hb hx I2 r rz l1 l2 q2⟩
/-- f(k = v, ..) -/
theorem ve_callK0 {N : Nat} (G : FnG X.prog X.w X.K X.mg X.base (L2.CX X.prog X.w) k f fd ps (spV X.K X.mgw N F)) (gd : X.A.guards = some []) (hr : Room k X.A) (hg : Gl X x) (hm : X.mg x = some (.ref f)) (hk : PySem.W.keepIn X.K (.ref f) = true)
    (hb : BindV X.K fd ps 0 ks dvs ss) (hN : ∀ us ws : List V, us.length = 0 → ws.length = ks.length → (asm us ws dvs ss).length = N) (hd : ∀ H β, Reps X.K H β ds dvs) (hx : Passes (L2.CX X.prog X.w) X E) (hkw : VK' X E kws fk)
    (hml : ks.length = m) (hks : (backToKw pos (keywordEach kws X.env)).filterMap (·.1) = ks := by rfl) (hall : (backToKw pos (keywordEach kws X.env)).all (·.1.isSome) = true := by rfl)
    (hpl : ((backTo pos (starEach [] X.env)).any (·.1) || (backToKw pos (keywordEach kws X.env)).any (·.1.isNone)) = false := by rfl) (hdb : (x == ("__debug__" : Str)) = false := by decide) :
    VE X E (.Call (.Name x p) [] kws pos) (vCallA 0 m ds ss F vNil fk) := by
  subst hml
  constructor
  intro pins s σ H Q I h
  obtain ⟨β, env, st, hE, hS, h⟩ := use_V (E := E) hN hd h
  have h := h.here hS .nil
  refine wpAny_Call_Name_kw (ld_glob I hg hm (PySem.W.callWith_KW0 (h₀ := X.base) I.ok.mod.kin hk hall (thn (hkw.run pos pins s σ H _ I h) ?_) hpl) hdb)
  rintro ws s2 ⟨zs, H2, I2, rz, l1, l2, q2⟩
  rw [hks]
  exact ⟨I2.kIn, run_V (us := []) (vs := []) G gd hr hb hx I2 .nil rz l1 l2 q2⟩
end
theorem hu65 {k : Nat} {A : Around} (hr : Room k A) : A.units + 65 < cLine := by
  have := hr.un
  omega
/-! ### a def with defaults -/
section
variable {P : Program} {w : World} {K : PySem.W.Frag} {mg : Str → Option Value} {base : Heap}
theorem gokVD {x qual : Str} {sd : Stmt} {f : Addr} {fd : FuncData} {dvs : List V} {kws : List (Str × V)} {N ps : List Str} {k : Nat} {body : En → AS → Fl} (frz : Nat) (F : FunD K x qual (defArgs sd) (defBody sd) (defScope sd) dvs kws f fd) (S : FnScope N ps (defScope sd))
    (walk : ∀ (cdv : Value) (A : Around), A.guards = some [] → ∀ (outer : List Env) (s : Shared) (H : Hp) (E : XK), Room k (A.deeper (envOfC qual (defScope sd) s.heap.objs.size f cdv)) →
      VSs (cxOf (L2.CX P w) P w K mg base N qual (defScope sd) f cdv A outer s H E) E (defBody sd) body) :
    FnG P w K mg base (L2.CX P w) (k + 1) f fd ps (spV K ⟨mg, w⟩ ps.length (vFn N.length frz body)) := by
  obtain ⟨oc, od, dV, kV, doc, pm, an, cdv, ct, osl, rfl, lk, hcd, _, _⟩ := F.ex
  refine gfn lk hcd S (fun vs H Q E h => ?_) fun A hg outer s H vs Q E hr hsp => ?_
  · obtain ⟨_, _, _, e, _⟩ := h
    exact e
  · obtain ⟨β, ds, st, hl, r, hS, hp⟩ := hsp
    refine ⟨_, walk cdv A hg outer s H E hr, β, _, st, start_env r, hS, ?_⟩
    unfold vFn Fl.fin at hp
    cases o : body (ds.map some ++ List.replicate (N.length - ds.length) none) st with
    | rt d st' =>
      rw [o] at hp
      exact fun β' H' u x S' r' => ret_ok hS S' x r' hp
    | nx env st' =>
      rw [o] at hp
      exact fun β' H' σ' x S' _ => ret_ok hS S' x .non hp
    | exc c fs st' => rw [o] at hp; exact hp
    | bk env st' => rw [o] at hp; exact hp.elim
    | ct env st' => rw [o] at hp; exact hp.elim
    | bad => rw [o] at hp; exact hp.elim
/-! ### the end -/
def spLaw (K : PySem.W.Frag) : Sp := fun vs H Q _ => ∃ (a : Addr) (ns : List Int), vs = [.ref a] ∧ SqL K H a (ns.map V.int) ∧ ns.length ≤ 63 ∧ ∀ H', Q (.bl true) H'
theorem endV {k : Nat} {f : Addr} {fd : FuncData} {F : List D → AS → Out D} {x : Str} (law : ∀ ns : List Int, ns.length ≤ 63 → ∃ st, F [.fzl (ns.map D.int)] [] = .ok (.bl true) st) (G : FnG P w K mg base (L2.CX P w) k f fd [x] (spV K ⟨mg, w⟩ 1 F)) : FnG P w K mg base CX0 k f fd [x] (spLaw K) := by
  refine ⟨fun xs H R Z h => ?_, fun A hg hr outer s H e0 args us vs hb r Q E h => ?_⟩
  · obtain ⟨_, _, rfl, _⟩ := h
    rfl
  · obtain ⟨a, ns, rfl, hq, hl, q⟩ := h
    obtain ⟨st, ev⟩ := law ns hl
    have sp : spV K ⟨mg, w⟩ 1 F [.ref a] H Q E0 := by
      refine ⟨⟨[], []⟩, [.fzl (ns.map D.int)], [], rfl, .cons (.fzl (hq.imp (fun z => ⟨⟨by simp, by simp⟩, z⟩) id) (reps_ints ns)) .nil, ⟨rfl, List.nodup_nil, (fun a ha => nomatch ha), (fun i a c h1 => nomatch h1)⟩, ?_⟩
      rw [ev]
      intro β' H' u _ _ r
      cases r
      exact q H'
    refine codeAny_mono (G.run A hg hr outer s H e0 args us _ hb r Q E0 sp) ?_
    intro res s' hq
    match res, hq with
    | .error e, hq =>
      obtain ⟨_, _, _, _, _, _, _, _, _, _, _, _, z⟩ := hq
      exact z.elim
    | .ok (.ret u), hq => exact hq
    | .ok .next, hq => exact hq.elim
    | .ok .brk, hq => exact hq.elim
    | .ok .cont, hq => exact hq.elim
end
end VL
set_option Elab.async false
set_option linter.all false
set_option maxRecDepth 100000
/-! The value layer: more methods, sorted, texts. -/
namespace VL
open PySem PySem.Spec PyProof.Rows L2 TB
section
variable {X : Cx} {E : XK} {o e : Expr} {es : List Expr} {fo fe : En → AS → Out D} {fs : En → AS → Out (List D)} {pos : Pos}
/-! ### lists -/
@[simp] def popAtD (x : D) (xs : List D) (st : AS) : Out D := match xs with
  | [.int i] => if -(2 ^ 63) ≤ i ∧ i < 2 ^ 63 then putL x st fun ds => (match ixN ds.length i with
    | some k => (match ds[k]? with
      | some d => some (d, ds.eraseIdx k)
      | none => none)
    | none => none) else .bad
  | _ => .bad
theorem Reps.erase {K : PySem.W.Frag} {H : Hp} {β : Bt} : ∀ {ds : List D} {us : List V} (i : Nat), Reps K H β ds us → Reps K H β (ds.eraseIdx i) (us.eraseIdx i)
  | _, _, _, .nil => .nil
  | _, _, 0, .cons _ t => t
  | _, _, i + 1, .cons q t => .cons q (Reps.erase i t)
theorem om_popAt : OkM X E "list.pop" popAtD := ⟨_, (show MtR X "list.pop" rPopAt from mt_popAt), fun β H st x xs u us Q S rx rs h => by
  unfold popAtD at h
  split at h
  · rename_i i
    obtain ⟨v, rfl, rv⟩ := one_ok rs
    cases rv
    obtain ⟨⟨b1, b2⟩, h⟩ := h.ite
    obtain ⟨p, ws, ds, r, ds', rfl, e, q, ek, hq⟩ := putL_ok S rx h
    split at ek
    · rename_i k ek2
      split at ek
      · rename_i d ed
        cases ek
        obtain ⟨v, ev, rv⟩ := q.get ed
        exact ⟨p, ws, i, k, v, rfl, rfl, e, b1, b2, by rw [q.length]; exact (ixN_seq ek2).1, ev, hq _ _ rv (q.erase k)⟩
      · cases ek
    · cases ek
  · exact h.elim⟩
@[simp] def insD (x : D) (xs : List D) (st : AS) : Out D := match xs with
  | [.int i, y] => if 0 ≤ i ∧ i < 2 ^ 63 then putL x st fun ds => if ds.length < sizeLine then some (.non, ds.take i.toNat ++ [y] ++ ds.drop i.toNat) else none else .bad
  | _ => .bad
/-- the first place of a thing -/
@[simp] def idxD (x : D) (xs : List D) (st : AS) : Out D := match xs with
  | [y] => (match listOf st x with
    | some ds => if (scalD y && ds.all scalD) = true then (match ds.findIdx? (fun d => eqvD d y) with
      | some j => .ok (.int (j : Nat)) st
      | none => .bad) else .bad
    | none => .bad)
  | _ => .bad
/-! ### sorted: ints, texts -/
def sortI (ns : List Int) : List Int := ns.mergeSort fun a b => decide (a ≤ b)
theorem sortI_perm (ns : List Int) : (sortI ns).Perm ns := List.mergeSort_perm _ _
theorem sortI_pw (ns : List Int) : (sortI ns).Pairwise (· ≤ ·) := by
  have h := List.pairwise_mergeSort (le := fun a b : Int => decide (a ≤ b)) (fun a b c h1 h2 => by simp at *; omega) (fun a b => by simp; omega) ns
  exact h.imp fun z => by simpa using z
theorem sortI_eq {ns ms : List Int} (h1 : ms.Perm ns) (h2 : ms.Pairwise (· ≤ ·)) : ms = sortI ns :=
  List.Perm.eq_of_pairwise (fun a b _ _ x y => Int.le_antisymm x y) h2 (sortI_pw ns) (h1.trans (sortI_perm ns).symm)
def leStr (a b : Str) : Bool := !ltStr b a
def sortS (xs : List Str) : List Str := xs.mergeSort leStr
theorem str_ext {a b : Str} (h : a.cps.toList = b.cps.toList) : a = b := by
  cases a; cases b
  simp only [Str.mk.injEq]
  exact Array.toList_inj.mp h
theorem leStr_iff {a b : Str} : leStr a b = true ↔ ¬ b.cps.toList < a.cps.toList := by simp [leStr, ltStr]
theorem leStr_trans (a b c : Str) (h1 : leStr a b = true) (h2 : leStr b c = true) : leStr a c = true := by
  rw [leStr_iff] at *
  intro h
  rcases Nat.lt_or_ge 0 1 with _ | z
  · have t1 : a.cps.toList ≤ b.cps.toList := List.not_lt.mp h1
    have t2 : b.cps.toList ≤ c.cps.toList := List.not_lt.mp h2
    exact (List.not_lt.mpr (List.le_trans t1 t2)) h
  · omega
theorem leStr_total (a b : Str) : (leStr a b || leStr b a) = true := by
  rw [Bool.or_eq_true, leStr_iff, leStr_iff]
  rcases List.le_total a.cps.toList b.cps.toList with h | h
  · exact .inl (List.not_lt.mpr h)
  · exact .inr (List.not_lt.mpr h)
theorem leStr_anti {a b : Str} (h1 : leStr a b = true) (h2 : leStr b a = true) : a = b := by
  rw [leStr_iff] at *
  exact str_ext (List.le_antisymm (List.not_lt.mp h1) (List.not_lt.mp h2))
theorem sortS_perm (xs : List Str) : (sortS xs).Perm xs := List.mergeSort_perm _ _
theorem sortS_pw (xs : List Str) : (sortS xs).Pairwise (fun a b => leStr a b = true) := List.pairwise_mergeSort leStr_trans leStr_total xs
theorem rising_pw : ∀ {x : Str} {r : List Str}, risingS x r = true → (x :: r).Pairwise (fun a b => leStr a b = true)
  | x, [], _ => List.pairwise_singleton _ _
  | x, y :: r, h => by
    rw [risingS, Bool.and_eq_true] at h
    have ih := rising_pw h.2
    have hxy : leStr x y = true := by
      rw [leStr_iff]
      have h1 := h.1
      rw [ltCps_eq] at h1
      simpa using h1
    refine List.pairwise_cons.mpr ⟨fun z hz => ?_, ih⟩
    rcases List.mem_cons.mp hz with e | e
    · rw [e]; exact hxy
    · exact leStr_trans x y z hxy ((List.pairwise_cons.mp ih).1 z e)
theorem sortS_eq {xs ys : List Str} (h1 : ys.Perm xs) (h2 : sortedS ys = true) : ys = sortS xs := by
  have pw : ys.Pairwise (fun a b => leStr a b = true) := by
    cases ys with
    | nil => exact List.Pairwise.nil
    | cons x r => exact rising_pw h2
  exact List.Perm.eq_of_pairwise (fun a b _ _ x y => leStr_anti x y) pw (sortS_pw xs) (h1.trans (sortS_perm xs).symm)
@[simp] def strsOf : List D → Option (List Str)
  | [] => some []
  | .str i :: ds => (strsOf ds).map (i :: ·)
  | _ :: _ => none
theorem strsOf_map : ∀ ns : List Str, strsOf (ns.map D.str) = some ns
  | [] => rfl
  | n :: ns => by rw [List.map_cons, strsOf, strsOf_map ns]; rfl
theorem Reps.strs {K : PySem.W.Frag} {H : Hp} {β : Bt} : ∀ {ds : List D} {xs : List Str} {us : List V}, strsOf ds = some xs → Reps K H β ds us → us = xs.map V.str
  | [], _, _, e, .nil => by
    cases e
    rfl
  | d :: ds, bs, _, e, .cons r t => by
    cases d with
    | str b =>
      rw [strsOf] at e
      cases e2 : strsOf ds with
      | none => rw [e2] at e; cases e
      | some cs =>
        rw [e2] at e
        cases e
        cases r
        rw [Reps.strs e2 t]
        rfl
    | _ => simp [strsOf] at e
theorem reps_strs {K : PySem.W.Frag} {H : Hp} {β : Bt} : ∀ ns : List Str, Reps K H β (ns.map D.str) (ns.map V.str)
  | [] => .nil
  | n :: ns => .cons (.str n) (reps_strs ns)
@[simp] def sortD (c : Bool) (x : D) (st : AS) : Out D := match listOf st x with
  | some ds => (match intsOf ds with
    | some ns => mk c ((sortI ns).map D.int) st
    | none => (match strsOf ds with
      | some xs => if xs.length < 64 then mk c ((sortS xs).map D.str) st else .bad
      | none => .bad))
  | none => .bad
theorem ob_sorted (c : Bool) : OkB X E (.builtin "sorted") (g1 (sortD c)) := ⟨_, cr_sortedI.or cr_sortedS, fun β H st xs us Q S r h => by
  obtain ⟨x, u, rfl, rx, h⟩ := g1_ok r h
  unfold sortD at h
  split at h
  · rename_i ds e
    obtain ⟨p, us, rfl, hq, r⟩ := S.lists rx e
    split at h
    · rename_i ns en
      have z := intsOf_eq en
      subst z
      have w := r.ints
      subst w
      exact .inl ⟨p, ns, rfl, hq, fun ns' p' h1 h2 hp => by rw [sortI_eq h1 h2]; exact new_lst h S (reps_ints _) p' hp⟩
    · split at h
      · rename_i zs en
        obtain ⟨hl, h⟩ := h.ite
        have w := r.strs en
        subst w
        exact .inr ⟨p, zs, rfl, hq, hl, fun ys p' h1 h2 hp => by rw [sortS_eq h1 h2]; exact new_lst h S (reps_strs _) p' hp⟩
      · exact h.elim
  · exact h.elim⟩
/-! ### texts -/
@[simp] def vMS (g : D → List D → AS → Out D) (fo : En → AS → Out D) (fs : En → AS → Out (List D)) (env : En) (st : AS) : Out D := (fo env st).bind fun x st => (match x with
  | .str _ => (fs env st).bind fun xs st => g x xs st
  | _ => .bad)
@[simp] def joinD (x : D) (xs : List D) (st : AS) : Out D := match x with
  | .str a => (match xs with
    | [y] => (match seqOf st y with
      | some ds => (match strsOf ds with
        | some ys => if (ys.map (·.length)).sum + ys.length * a.length ≤ 16777216 then .ok (.str (Txt.join a ys)) st else .bad
        | none => .bad)
      | none => .bad)
    | _ => .bad)
  | _ => .bad
@[simp] def findD (x : D) (xs : List D) (st : AS) : Out D := match x, xs with
  | .str a, [.str b] => .ok (.int (Txt.find a b)) st
  | _, _ => .bad
@[simp] def sidxD (x : D) (xs : List D) (st : AS) : Out D := match x, xs with
  | .str a, [.str b] => (match Builtin.Str.occurrences a b 0 a.length 1 with
    | i :: _ => .ok (.int (i : Nat)) st
    | [] => .bad)
  | _, _ => .bad
/-- int(x) -/
@[simp] def intD (x : D) (st : AS) : Out D := match x with
  | .int i => .ok (.int i) st
  | .bl b => .ok (.int (if b = true then 1 else 0)) st
  | _ => .bad
theorem ob_int : OkB X E (.type "int") (g1 intD) := ⟨_, call_int1, fun β H st xs us Q S r h => by
  obtain ⟨x, u, rfl, rx, h⟩ := g1_ok r h
  cases rx with
  | int i => exact .inl ⟨i, rfl, h.here S (.int _)⟩
  | bl b => exact .inr ⟨b, rfl, h.here S (.int _)⟩
  | _ => exact h.elim⟩
/-! ### a[i] op= e of a list -/
@[simp] def sAugS (fo fi : En → AS → Out D) (op : D → D → AS → Out D) (fe : En → AS → Out D) (env : En) (st : AS) : Fl := (fo env st).fl fun o st => (fi env st).fl fun i st => (match i with
  | .int k => (match listOf st o with
    | some ds => (match (if 0 ≤ k then ds[k.toNat]? else none) with
      | some x => (fe env st).fl fun y st => (op x y st).fl fun z st => (setD o i z st).fl fun _ st => .nx env st
      | none => .bad)
    | none => .bad)
  | _ => .bad)
end
end VL
set_option Elab.async false
set_option linter.all false
set_option maxRecDepth 100000
/-! The value layer: dicts. -/
namespace VL
open PySem PySem.Spec PyProof.Rows L2 TB
section
variable {K : PySem.W.Frag} {mg : MG} {E : XK} {β β' β2 : Bt} {H H' H2 : Hp} {st : AS} {p : Addr} {o0 o : HO}
theorem Reps.made {ds : List D} {us : List V} (r : Reps K H2 (β2.hide p) ds us) : Reps K (upd H2 p o) (β2.push p) ds us := by
  have r1 : Reps K (upd H2 p o) (β2.hide p) ds us := Reps.hid (β := β2.hide p) List.mem_cons_self r
  refine Reps.weak (β := β2.hide p) (β' := β2.push p) (fun i a z => ?_) (fun a u _ n => ⟨fun z => (List.mem_append.mp z).elim n.1 fun z => n.2 (by rw [List.mem_singleton.mp z]; exact List.mem_cons_self), fun z => n.2 (List.mem_cons_of_mem _ z)⟩) r1
  have hlt : i < β2.l.length := (List.getElem?_eq_some_iff.mp z).1
  exact (List.getElem?_append_left hlt).trans z
theorem Sim.made {c : C} (S2 : Sim K mg (β2.hide p) st H2) (n1 : p ∉ β2.l) (n2 : p ∉ β2.h) (hc : CellOk K mg (upd H2 p o) (β2.push p) p c) : Sim K mg (β2.push p) (st ++ [c]) (upd H2 p o) := by
  have hl : β2.l.length = st.length := S2.len
  refine ⟨by simp [Bt.push, hl], ?_, fun a ha => ?_, fun j a c' h1 h2 => ?_⟩
  · show (β2.l ++ [p]).Nodup
    rw [List.nodup_append]
    refine ⟨S2.nd, by simp, fun a ha b hb => ?_⟩
    rw [List.mem_singleton.mp hb]
    rintro rfl
    exact n1 ha
  · obtain ⟨n, u, e⟩ := S2.hid a (List.mem_cons_of_mem _ ha)
    have ne : a ≠ p := fun z => n2 (by rw [← z]; exact ha)
    refine ⟨fun z => ?_, u, (upd_ne ne).trans e⟩
    rcases List.mem_append.mp z with z | z
    · exact n z
    · exact ne (List.mem_singleton.mp z)
  · change (β2.l ++ [p])[j]? = some a at h1
    by_cases hj : j < st.length
    · rw [List.getElem?_append_left (by rw [hl]; exact hj)] at h1
      rw [List.getElem?_append_left hj] at h2
      have ne : a ≠ p := fun z => n1 (by rw [← z]; exact List.mem_of_getElem? h1)
      exact CellOk.map (β := β2.hide p) (fun r => Reps.made r) (upd_ne ne) (S2.cell j a c' h1 h2)
    · have h3 : j < (st ++ [c]).length := (List.getElem?_eq_some_iff.mp h2).1
      have e : j = st.length := by simp at h3; omega
      subst e
      rw [List.getElem?_append_right (by omega), Nat.sub_self] at h2
      rw [List.getElem?_append_right (by rw [hl]; omega), hl, Nat.sub_self] at h1
      simp at h1 h2
      subst h1
      subst h2
      exact hc
theorem Ext.made (x : Ext β H β2 H2) (hp : H p = none) (n1 : p ∉ β2.l) : Ext β H (β2.push p) (upd H2 p o) := by
  obtain ⟨g, eg⟩ := x.pre
  refine ⟨⟨g ++ [p], by show β2.l ++ [p] = _; rw [eg, List.append_assoc]⟩, x.hid, fun a u ha na => ?_, fun a z u e => (upd_ne (ne_of_none e hp)).trans (x.frz a z u e)⟩
  have ne : a ≠ p := ne_of_none ha hp
  obtain ⟨q1, q2⟩ := x.kept0 a u ha na
  refine ⟨(upd_ne ne).trans q1, fun z => ?_⟩
  rcases List.mem_append.mp z with z | z
  · exact q2 z
  · exact ne (List.mem_singleton.mp z)
theorem XRep.unhide {c : Str} {fs : List (Str × D)} {cls : Value} {d : Option Addr} (h : XRep K mg H (β.hide p) c fs cls d) : XRep K mg H β c fs cls d := by
  obtain ⟨Ca, dx, vs, h1, h2, h3, h4, h5, h6, h7⟩ := h
  exact ⟨Ca, dx, vs, h1, h2, h3, Bt.hide_out h4, h5, h6, Reps.weak (β := β.hide p) (β' := β) (fun _ _ z => z) (fun _ _ _ z => Bt.hide_out (β := β) z) h7⟩
end
/-! ### displays -/
def mergeKD {κ : Type} [DecidableEq κ] (kvs more : List (κ × D)) : List (κ × D) := more.foldl (fun acc kv => putKD acc kv.1 kv.2) kvs
@[simp] theorem mergeKD_nil {κ : Type} [DecidableEq κ] (kvs : List (κ × D)) : mergeKD kvs [] = kvs := rfl
@[simp] theorem mergeKD_cons {κ : Type} [DecidableEq κ] (kvs : List (κ × D)) (p : κ × D) (r : List (κ × D)) : mergeKD kvs (p :: r) = mergeKD (putKD kvs p.1 p.2) r := rfl
theorem RepK.nil {κ : Type} {K : PySem.W.Frag} {H : Hp} {β : Bt} : RepK (κ := κ) K H β [] [] := ⟨rfl, .nil⟩
theorem RepK.cons {κ : Type} {K : PySem.W.Frag} {H : Hp} {β : Bt} {p : κ × D} {q : κ × V} {ps : List (κ × D)} {qs : List (κ × V)} (h : RepK K H β (p :: ps) (q :: qs)) : p.1 = q.1 ∧ Rep K H β p.2 q.2 ∧ RepK K H β ps qs := by
  obtain ⟨h1, h2⟩ := h
  simp only [List.map_cons, List.cons.injEq] at h1
  cases h2 with
  | cons r t => exact ⟨h1.1, r, h1.2, t⟩
theorem RepK.merge {K : PySem.W.Frag} {H : Hp} {β : Bt} : ∀ {more : List (Key × D)} {rs : List (Key × V)} {kvs : List (Key × D)} {us : List (Key × V)}, RepK K H β more rs → RepK K H β kvs us → RepK K H β (mergeKD kvs more) (mergeK us rs)
  | [], [], _, _, _, h => h
  | [], _ :: _, _, _, h, _ => absurd h.length (by simp)
  | _ :: _, [], _, _, h, _ => absurd h.length (by simp)
  | p :: r, q :: s, kvs, us, h, h' => by
    obtain ⟨e, r1, t⟩ := h.cons
    rw [mergeKD_cons]
    show RepK K H β _ (mergeK (putK us q.1 q.2) s)
    refine RepK.merge t ?_
    rw [← e]
    exact h'.put r1 p.1
/-- keys of pairs -/
@[simp] def keysP : List (D × D) → Option (List (Key × D))
  | [] => some []
  | p :: r => match keyD p.1, keysP r with
    | some k, some ks => some ((k, p.2) :: ks)
    | _, _ => none
abbrev FE := En → AS → Out D
@[simp] def vPs : List (FE × FE) → En → AS → Out (List (D × D))
  | [] => fun _ st => .ok [] st
  | p :: r => fun env st => (p.1 env st).bind fun x st => (p.2 env st).bind fun y st => (vPs r env st).bind fun ps st => .ok ((x, y) :: ps) st
@[simp] def gDisp (ps : List (D × D)) (st : AS) : Out D := match keysP ps with
  | some kvs => if kvs.length ≤ 15 then .ok (.ref st.length) (st ++ [.dct (mergeKD [] kvs)]) else .bad
  | none => .bad
@[simp] def vDisp (prs : List (FE × FE)) (env : En) (st : AS) : Out D := (vPs prs env st).bind gDisp
section
variable {X : Cx} {E : XK} {pos : Pos}
theorem EnvR.hide {K : PySem.W.Frag} {H : Hp} {β : Bt} {env : En} {σ : L2.St} {p : Addr} {o : HO} (e : EnvR K H β env σ) (hp : H p = none) : EnvR K (upd H p o) (β.hide p) env σ := ⟨e.len, fun i d q => by
  obtain ⟨u, h1, h2⟩ := e.get i d q
  exact ⟨u, h1, h2.hide hp⟩⟩
@[simp] def vDNew (_ : En) (st : AS) : Out D := .ok (.ref st.length) (st ++ [.dct []])
@[simp] def vDNewT (_ : En) (st : AS) : Out D := .ok (.ref st.length) (st ++ [.dtt []])
theorem ve_dnew : VE X E (.Dict [] [] pos) vDNew := weakE pe_dnewK fun σ H Q ⟨β, env, st, he, hs, h⟩ p hp =>
  h (β.push p) _ (.ref p) (ext_push hp) (hs.push hp ⟨[], upd_same, rfl, .nil⟩) (.ref (by rw [← hs.len]; simp [Bt.push]))
/-! ### methods of dicts -/
@[simp] def isDict (st : AS) (d : D) : Bool := match d with
  | .ref i => (match st[i]? with
    | some (.dct _) => true
    | some (.dtt _) => true
    | _ => false)
  | _ => false
variable {o e : Expr} {es : List Expr} {fo fe : FE} {fs : En → AS → Out (List D)} {name : Str} {apos cpos : Pos} {id : String}
@[simp] def vMD (g : D → List D → AS → Out D) (fo : FE) (fs : En → AS → Out (List D)) (env : En) (st : AS) : Out D := (fo env st).bind fun x st => if isDict st x = true then (fs env st).bind fun xs st => g x xs st else .bad
@[simp] def vMD0 (g : D → List D → AS → Out D) (fo : FE) (env : En) (st : AS) : Out D := (fo env st).bind fun x st => if isDict st x = true then g x [] st else .bad
theorem Sim.isDict {K : PySem.W.Frag} {mg : MG} {β : Bt} {H : Hp} {st : AS} (S : Sim K mg β st H) {d : D} {u : V} (r : Rep K H β d u) (h : VL.isDict st d = true) : tyV K "dict" u H := by
  cases r with
  | ref e =>
    rename_i i a
    unfold VL.isDict at h
    dsimp only at h
    split at h
    · rename_i kvs e2
      obtain ⟨us, e3, _⟩ := S.cell i a _ e e2
      exact .inr (.inr (.inl ⟨rfl, .inl ⟨us, e3⟩⟩))
    · rename_i kvs e2
      obtain ⟨us, e3, _⟩ := S.cell i a _ e e2
      exact .inr (.inr (.inl ⟨rfl, .inr ⟨us, e3⟩⟩))
    · cases h
  | _ => cases h
theorem ve_md {g : D → List D → AS → Out D} (slot : Slot "dict" name id) (hty : typeOf (.builtin id) = pure (.type "method_descriptor")) (hm : OkM X E id g) (ho : VE X E o fo) (ha : VA X E (e :: es) fs)
    (hbase : attributeBase o name X.env (eval o X.env) = eval o X.env := by rfl)
    (hfew : ((backTo cpos (starEach (e :: es) X.env)).all (fun x => !x.1) && (backToKw cpos (keywordEach [] X.env)).all (fun x => x.1.isSome)
      && decide ((e :: es).length + ([] : List Keyword).length + (if ([] : List Keyword).isEmpty then 0 else 1) < 30)) = true := by rfl)
    (hline : (apos.endLine == cpos.line) = true := by rfl) (hs : starEach (e :: es) X.env = (false, eval e X.env) :: starEach es X.env := by rfl) (hplain : (backTo cpos (starEach es X.env)).any (·.1) = false := by rfl) :
    VE X E (.Call (.Attribute o name apos) (e :: es) [] cpos) (vMD g fo fs) := by
  obtain ⟨r, h1, h2⟩ := hm
  refine weakE (pe_bm PySem.F.plainAttrs_dict slot hty h1 ho ha hbase hfew hline hs hplain) fun σ H Q ⟨β, env, st, he, hS, h⟩ => ?_
  refine tG_bind he hS h fun x st1 β1 H1 u x1 s1 e1 r1 h3 => ?_
  obtain ⟨hl, h3⟩ := h3.ite
  refine ⟨s1.isDict r1 hl, ?_⟩
  exact tG_bind e1 s1 h3 fun xs st2 β2 H2 us x2 s2 e2 r2 h4 => h2 β2 H2 st2 x xs u us Q s2 (r1.ext x2) r2 h4
/-! d.get -/
def rGet2 : V → List V → Hp → VK → Prop := fun x xs H Q => ∃ a y z r, x = .ref a ∧ xs = [y, z] ∧ DGet H a y r ∧ Q (r.getD z) H
theorem mt_get2 (hu : X.A.units + 1 < cLine) : MtR X "dict.get" rGet2 := by
  intro pins s σ H x xs v us Q I rx r h
  obtain ⟨a, y, z, o, rfl, rfl, g, q⟩ := h
  obtain rfl : v = Value.ref a := rx
  cases r with
  | cons ru t =>
    obtain ⟨w, rfl, rw'⟩ := vals1 t
    exact d_get2 hu I g ru rw' fun w s' I' r' => ⟨_, H, I', r', q⟩
/-- what a dict has at a key; none: no dict, no key -/
@[simp] def lookD (st : AS) (x y : D) : Option (Option D) := match x with
  | .ref i => (match st[i]? with
    | some (.dct kvs) => (match keyD y with
      | some k => some (valK kvs k)
      | none => none)
    | some (.dtt kvs) => (match y with
      | .tup ks => (match keysD ks with
        | some k => some (valK kvs k)
        | none => none)
      | _ => none)
    | _ => none)
  | _ => none
@[simp] def getD1 (x : D) (xs : List D) (st : AS) : Out D := match xs with
  | [y] => (match lookD st x y with
    | some r => .ok (r.getD .non) st
    | none => .bad)
  | _ => .bad
@[simp] def getD2 (x : D) (xs : List D) (st : AS) : Out D := match xs with
  | [y, z] => (match lookD st x y with
    | some r => .ok (r.getD z) st
    | none => .bad)
  | _ => .bad
theorem look_ok {K : PySem.W.Frag} {mg : MG} {β : Bt} {H : Hp} {st : AS} {x y : D} {u v : V} {r : Option D} (S : Sim K mg β st H) (rx : Rep K H β x u) (ry : Rep K H β y v) (h : lookD st x y = some r) :
    ∃ a r', u = .ref a ∧ DGet H a v r' ∧ ∀ z z', Rep K H β z z' → Rep K H β (r.getD z) (r'.getD z') := by
  have fin : ∀ {κ : Type} [DecidableEq κ] {kvs : List (κ × D)} {us : List (κ × V)} (k : κ), RepK K H β kvs us → ∀ z z', Rep K H β z z' → Rep K H β ((valK kvs k).getD z) ((valV us k).getD z') := by
    intro κ _ kvs us k q z z' rz
    obtain ⟨h1, h2⟩ := vals_lookup k q
    unfold valK
    cases e : kvs.find? fun kv => decide (kv.1 = k) with
    | none =>
      rw [h2 e]
      exact rz
    | some kv =>
      obtain ⟨w, e1, rw'⟩ := h1 kv.2 (by rw [e]; rfl)
      rw [e1]
      exact rw'
  cases rx with
  | ref er =>
    rename_i i a
    unfold lookD at h
    dsimp only at h
    split at h
    · rename_i kvs ec
      obtain ⟨us, eu, q⟩ := S.cell i a _ er ec
      split at h
      · rename_i k ek
        cases h
        rw [ry.key ek]
        exact ⟨a, _, rfl, DGet.k eu, fin k q⟩
      · cases h
    · rename_i kvs ec
      obtain ⟨us, eu, q⟩ := S.cell i a _ er ec
      cases ry with
      | tup n2 e2 r2 =>
        dsimp only at h
        split at h
        · rename_i k ek
          cases h
          have z := r2.keys ek
          subst z
          exact ⟨a, _, rfl, DGet.t eu e2, fin k q⟩
        · cases h
      | _ => cases h
    · cases h
  | _ => cases h
theorem om_get2 (hu : X.A.units + 65 < cLine) : OkM X E "dict.get" getD2 := ⟨_, mt_get2 (Nat.lt_of_le_of_lt (by omega) hu), fun β H st x xs u us Q S rx rs h => by
  unfold getD2 at h
  split at h
  · rename_i y z
    obtain ⟨v, w, rfl, rv, rw'⟩ := two_ok rs
    split at h
    · rename_i r er
      obtain ⟨a, r', rfl, g, hr⟩ := look_ok S rx rv er
      exact ⟨a, v, w, r', rfl, rfl, g, h.here S (hr _ _ rw')⟩
    · exact h.elim
  · exact h.elim⟩
/-! d.update(dict) -/
@[simp] def updD (x : D) (xs : List D) (st : AS) : Out D := match x, xs with
  | .ref i, [.ref j] => if i ≠ j then (match st[i]?, st[j]? with
    | some (.dct ks), some (.dct ls) => if ks.length + ls.length ≤ sizeLine then .ok .non (st.set i (.dct (mergeKD ks ls))) else .bad
    | _, _ => .bad) else .bad
  | _, _ => .bad
end
end VL
set_option Elab.async false
set_option linter.all false
set_option maxRecDepth 100000
/-! The value layer: walks of dicts; dict(..), list(d). -/
namespace VL
open PySem PySem.Spec PyProof.Rows L2 TB
@[simp] def keyV : Key → D
  | .inl i => .int i
  | .inr x => .str x
/-- what is walked: keys, values, pairs -/
inductive Wk where
  | keys | vals | items
@[simp] def wkD (w : Wk) (kvs : List (Key × D)) : List D := match w with
  | .keys => kvs.map fun kv => keyV kv.1
  | .vals => kvs.map (·.2)
  | .items => kvs.map fun kv => .tup [keyV kv.1, kv.2]
@[simp] def itK (w : Wk) (d : D) (st : AS) : Out (List D × Gd) := match d with
  | .ref i => (match st[i]? with
    | some (.lck kvs) => .ok (wkD w kvs, [(i, .lck kvs)]) st
    | _ => .bad)
  | _ => .bad
theorem RepK.at {κ : Type} {K : PySem.W.Frag} {H : Hp} {β : Bt} : ∀ {kvs : List (κ × D)} {us : List (κ × V)} {i : Nat} {k : κ} {v : V}, RepK K H β kvs us → us[i]? = some (k, v) → ∃ d, kvs[i]? = some (k, d) ∧ Rep K H β d v
  | [], us, i, k, v, h, e => by
    have : us = [] := List.length_eq_zero_iff.mp h.length
    subst this
    simp at e
  | p :: kvs, [], i, k, v, h, e => by simp at e
  | p :: kvs, q :: us, 0, k, v, h, e => by
    obtain ⟨e1, r, _⟩ := h.cons
    simp at e
    subst e
    exact ⟨p.2, congrArg some (Prod.ext e1 rfl), r⟩
  | p :: kvs, q :: us, i + 1, k, v, h, e => by
    obtain ⟨_, _, t⟩ := h.cons
    obtain ⟨d, h1, h2⟩ := RepK.at (i := i) t (by simpa using e)
    exact ⟨d, by simpa using h1, h2⟩
theorem RepK.extW {κ : Type} {K : PySem.W.Frag} {β β' : Bt} {H H' : Hp} (x : ExtW β H β' H') {fs : List (κ × D)} {vs : List (κ × V)} (h : RepK K H β fs vs) : RepK K H' β' fs vs := ⟨h.1, h.2.extW x⟩
/-! ### the lock -/
@[simp] def unlS (i : Nat) (st : AS) : Option AS := match st[i]? with
  | some (.lck kvs) => some (st.set i (.dct kvs))
  | _ => none
def Fl.unl (i : Nat) (o : Fl) : Fl := match o with
  | .nx env st => (match unlS i st with
    | some st' => .nx env st'
    | none => .bad)
  | .rt d st => (match unlS i st with
    | some st' => .rt d st'
    | none => .bad)
  | .bk env st => (match unlS i st with
    | some st' => .bk env st'
    | none => .bad)
  | .ct env st => (match unlS i st with
    | some st' => .ct env st'
    | none => .bad)
  | .exc c fs st => .exc c fs st
  | .bad => .bad
def Out.unl {α : Type} (i : Nat) (o : Out α) : Out α := match o with
  | .ok a st => (match unlS i st with
    | some st' => .ok a st'
    | none => .bad)
  | .exc c fs st => .exc c fs st
  | .bad => .bad
@[simp] def sLock (fe : FE) (f : En → AS → Fl) (env : En) (st : AS) : Fl := match fe env st with
  | .ok (.ref i) _ => (match st[i]? with
    | some (.dct kvs) => (f env (st.set i (.lck kvs))).unl i
    | some (.lck _) => f env st
    | _ => .bad)
  | _ => .bad
@[simp] def vLock {α : Type} (fe : FE) (f : En → AS → Out α) (env : En) (st : AS) : Out α := match fe env st with
  | .ok (.ref i) _ => (match st[i]? with
    | some (.dct kvs) => (f env (st.set i (.lck kvs))).unl i
    | some (.lck _) => f env st
    | _ => .bad)
  | _ => .bad
section
variable {K : PySem.W.Frag} {mg : MG} {E : XK} {β β' : Bt} {H H' : Hp} {st : AS} {a : Addr} {i : Nat} {us : List (Key × V)} {kvs : List (Key × D)} {od : Obj}
theorem EnvR.extW {env : En} {σ : L2.St} (e : EnvR K H β env σ) (x : ExtW β H β' H') : EnvR K H' β' env σ := ⟨e.len, fun i d h => by
  obtain ⟨u, h1, h2⟩ := e.get i d h
  exact ⟨u, h1, h2.extW x⟩⟩
end
section
variable {X : Cx} {E : XK} {s : Stmt} {e : Expr} {fe f : FE} {fs : En → AS → Fl}
/-! ### list(d) -/
@[simp] def dctOf (st : AS) (d : D) : Option (List (Key × D)) := match d with
  | .ref i => (match st[i]? with
    | some (.dct kvs) => some kvs
    | some (.lck kvs) => some kvs
    | _ => none)
  | _ => none
@[simp] def lstKD (c : Bool) (x : D) (st : AS) : Out D := match dctOf st x with
  | some kvs => mk c (kvs.map fun kv => keyV kv.1) st
  | none => lstD c x st
end
end VL
set_option Elab.async false
set_option linter.all false
set_option maxRecDepth 100000
/-! The value layer: sets of ints and texts, as far as sorted(set(..)) and len(set(..)) want them. -/
namespace VL
open PySem PySem.Spec PyProof.Rows L2 TB
def kOf (e : Int × Value) : Key := match e.2 with
  | .int k _ => .inl k
  | .str x _ => .inr x
  | _ => .inl 0
def GdK (wd : World) (e : Int × Value) : Prop := keyIs (kOf e) e.2 = true ∧ e.1 = keyH wd (kOf e)
/-- the set at a has the members mem, each once, n of them -/
def SetM (wd : World) (hp : Heap) (a : Addr) (mem : Key → Bool) (n : Nat) : Prop :=
  ∃ ob es ep tb, hp.get? a = some ob ∧ ob.ExactSet ∧ ob.data = .set es ep tb ∧ (∀ e ∈ es.toList, GdK wd e) ∧ (es.toList.map kOf).Nodup ∧ (∀ k, mem k = true ↔ k ∈ es.toList.map kOf) ∧
    es.size < scanBound ∧ tb.fits es.size = true ∧ es.size = n ∧ Ris tb.place.toList ∧ (wd.params.followText "set-order" = true ∨ tb.led = true)
def inK (ks : List Key) (k : Key) : Bool := ks.any fun z => decide (z = k)
theorem inK_iff {ks : List Key} {k : Key} : inK ks k = true ↔ k ∈ ks := by
  unfold inK
  rw [List.any_eq_true]
  exact ⟨fun ⟨z, h, e⟩ => by rw [← of_decide_eq_true e]; exact h, fun h => ⟨k, h, decide_eq_true rfl⟩⟩
theorem kOf_is {k : Key} {v : Value} {h : Int} (e : keyIs k v = true) : kOf (h, v) = k := by
  rcases keyIs_shape e with ⟨i, t, rfl, rfl⟩ | ⟨x, t, rfl, rfl⟩ <;> rfl
theorem key_scans {k : Key} {v : Value} (e : keyIs k v = true) : v.scannable = true := by
  rcases keyIs_shape e with ⟨i, t, rfl, rfl⟩ | ⟨x, t, rfl, rfl⟩ <;> rfl
section
variable {pg : Program} {wd : World} {hp hp' : Heap} {a : Addr} {mem : Key → Bool} {n : Nat}
theorem SetM.moved (m : SetM wd hp a mem n) (k : ∀ o, hp.get? a = some o → hp'.get? a = some o) : SetM wd hp' a mem n :=
  let ⟨ob, es, ep, tb, h1, h2⟩ := m
  ⟨ob, es, ep, tb, k ob h1, h2⟩
theorem SetM.by {mem' : Key → Bool} (m : SetM wd hp a mem n) (e : ∀ k, mem' k = mem k) : SetM wd hp a mem' n := (funext e : mem' = mem) ▸ m
theorem gd_elems {es : List (Int × Value)} (g : ∀ e ∈ es, GdK wd e) : ElemsOf (mixKind pg wd) es := fun e he => ⟨⟨kOf e, (g e he).1, (g e he).2⟩, key_scans (g e he).1⟩
theorem gd_is {e : Int × Value} (g : GdK wd e) (k : Key) : (mixKind pg wd).is k e.2 = true ↔ kOf e = k := by
  constructor
  · intro z
    exact (mixKind pg wd).inj e.2 _ _ g.1 z
  · rintro rfl
    exact g.1
theorem gd_in {es : List (Int × Value)} (g : ∀ e ∈ es, GdK wd e) (k : Key) : k ∈ es.map kOf ↔ ∃ e ∈ es, (mixKind pg wd).is k e.2 = true := by
  refine List.mem_map.trans ⟨fun ⟨e, he, z⟩ => ⟨e, he, (gd_is (g e he) k).mpr z⟩, fun ⟨e, he, z⟩ => ⟨e, he, (gd_is (g e he) k).mp z⟩⟩
end
section
variable {pg : Program} {wd : World} {Ar : Around} {Ex : Value → Shared → Prop} {sh : Shared} {a : Addr} {mem : Key → Bool} {n : Nat}
/-- the new table is stored, and laid anew where it is too full -/
theorem setM_tail {gv : Bool → Sem Unit} (hgv : ∀ (b : Bool) (s1 : Shared) (R' : Unit → Shared → Prop), R' () s1 → wpAny (model pg wd) Ar (gv b) R' Ex s1)
    {ob : Obj} {es : Array (Int × Value)} {ep : Nat} {tb : SetTable} (hob : sh.heap.get? a = some ob) (hexs : ob.ExactSet) (hdt : ob.data = .set es ep tb)
    {e1 : Array (Int × Value)} {t1 : SetTable} {mem' : Key → Bool} (gd : ∀ e ∈ e1.toList, GdK wd e) (ndp : (e1.toList.map kOf).Nodup) (hme : ∀ k, mem' k = true ↔ k ∈ e1.toList.map kOf)
    (hbd : e1.size < scanBound) (hfi : t1.fits e1.size = true) (hri : Ris t1.place.toList) (hle : wd.params.followText "set-order" = true ∨ t1.led = true) {dm : Bool} {R : Option Bool → Shared → Prop}
    (fin : ∀ hp', Heap.SameBut a sh.heap hp' → SetM wd hp' a mem' e1.size → R (some true) { sh with heap := hp' }) :
    wpAny (model pg wd) Ar (do
        storeSet a e1 t1
        if (!dm && t1.tooFull) = true then do
            gv (relayAll t1 e1 (SetTable.grown e1.size)).2.2
            storeSet a (relayAll t1 e1 (SetTable.grown e1.size)).1 (relayAll t1 e1 (SetTable.grown e1.size)).2.1
            pure (some true)
          else pure (some true)) R Ex sh := by
  have at1 := store_at (es' := e1) (t' := t1) hob hdt
  have same1 := Heap.SameBut.update sh.heap a (Obj.putSet e1 t1)
  refine wpAny_bind (wpAny_storeSet_of hob hdt ?_ (fits_of_scanBound hbd))
  split
  · have q1 := relayAll_perm t1 e1 (SetTable.grown e1.size)
    have q2 := relayAll_fits t1 e1 (SetTable.grown e1.size)
    have q3 := relayAll_ris t1 e1 (SetTable.grown e1.size)
    have q4 := relayAll_led t1 e1 (SetTable.grown e1.size)
    revert q1 q2 q3 q4
    generalize relayAll t1 e1 (SetTable.grown e1.size) = laid
    obtain ⟨e2, t2, gw⟩ := laid
    intro q1 q2 q3 q4
    dsimp only at q1 q2 q3 q4 ⊢
    have z2 : e2.size = e1.size := by
      have := q1.length_eq
      simpa using this
    have b2 : e2.size < scanBound := z2 ▸ hbd
    refine wpAny_bind (hgv _ _ _ (wpAny_bind (wpAny_storeSet_of at1 rfl ?_ (fits_of_scanBound b2))))
    have at2 := store_at (es' := e2) (t' := t2) at1 rfl
    refine wpAny_pure (fin _ (same1.trans (Heap.SameBut.update _ a _)) ⟨_, e2, _, t2, at2, hexs, rfl, fun e he => gd e (q1.mem_iff.mp he), (q1.map kOf).nodup_iff.mpr ndp, fun k => (hme k).trans (q1.map kOf).mem_iff.symm, b2, q2, z2, q3, ?_⟩)
    exact hle.imp id fun z => q4.trans z
  · exact wpAny_pure (fin _ same1 ⟨_, e1, _, t1, at1, hexs, rfl, gd, ndp, hme, hbd, hfi, rfl, hri, hle⟩)
theorem setM_put {k : Key} {v : Value} {Q : Bool → Shared → Prop} (hk : keyIs k v = true) (m : SetM wd sh.heap a mem n) (room : n + 1 < scanBound)
    (fin : ∀ hp', Heap.SameBut a sh.heap hp' → SetM wd hp' a (fun j => mem j || decide (j = k)) (if mem k = true then n else n + 1) → Q (!mem k) { sh with heap := hp' }) :
    wpAny (model pg wd) Ar (setAddHashed a v ((mixKind pg wd).hash k)) Q Ex sh := by
  obtain ⟨ob, es, ep, tb, hob, hexs, hdt, gd, ndp, hme, hbd, hfi, hn, hri, hle⟩ := m
  have hv : (mixKind pg wd).is k v = true := hk
  have scn : v.scannable = true := key_scans hk
  have els : ElemsOf (mixKind pg wd) es.toList := gd_elems gd
  unfold setAddHashed setAddHashedIn
  refine wpAny_holding (wpAny_bind (wpAny_setState_of hob hdt hfi ?_))
  dsimp only
  rw [byScan_of scn hbd els]
  simp only [↓reduceIte]
  unfold setAddByScan
  refine wpAny_bind (wpAny_bind (wpAny_rule (wpAny_bind (wpAny_setScan_of hv hob hdt hfi els ?_))))
  cases hix : List.findIdx? (fun e => (mixKind pg wd).is k e.2) es.toList with
  | some j =>
    dsimp only
    obtain ⟨hj, pj, _⟩ := List.findIdx?_eq_some_iff_getElem.mp hix
    have yes : mem k = true := (hme k).mpr ((gd_in (pg := pg) gd k).mpr ⟨es.toList[j], List.getElem_mem hj, pj⟩)
    refine wpAny_pure (wpAny_pure ?_)
    have q := fin sh.heap (Heap.SameBut.refl a sh.heap) ⟨ob, es, ep, tb, hob, hexs, hdt, gd, ndp, fun i => by
      rw [Bool.or_eq_true, decide_eq_true_eq]
      refine ⟨fun z => (hme i).mp (z.elim id fun e => e.symm ▸ yes), fun z => .inl ((hme i).mpr z)⟩, hbd, hfi, by rw [if_pos yes]; exact hn, hri, hle⟩
    rw [yes] at q
    exact q
  | none =>
    dsimp only
    have nk : k ∉ es.toList.map kOf := fun z => by
      obtain ⟨e, he, q⟩ := (gd_in (pg := pg) gd k).mp z
      have := List.findIdx?_eq_none_iff.mp hix e he
      simp [q] at this
    have no : mem k = false := by
      by_cases z : mem k = true
      · exact absurd ((hme k).mp z) nk
      · simpa using z
    have q1 := layNew_perm tb es ((mixKind pg wd).hash k) v
    have q2 := layNew_fits tb es ((mixKind pg wd).hash k) v
    have q3 := layNew_ris tb es ((mixKind pg wd).hash k) v hri
    have q4 := layNew_led tb es ((mixKind pg wd).hash k) v
    revert q1 q2 q3 q4
    generalize layNew tb es ((mixKind pg wd).hash k) v = laid
    obtain ⟨e1, t1, dm, gw⟩ := laid
    intro q1 q2 q3 q4
    dsimp only at q1 q2 q3 q4 ⊢
    rw [Array.toList_push] at q1
    have pc : e1.toList.Perm ((keyH wd k, v) :: es.toList) := q1.trans (List.perm_append_singleton _ _)
    have pk : (e1.toList.map kOf).Perm (k :: es.toList.map kOf) := by
      have := pc.map kOf
      rwa [List.map_cons, kOf_is hk] at this
    have gd1 : ∀ e ∈ e1.toList, GdK wd e := fun e he => (List.mem_cons.mp (pc.mem_iff.mp he)).elim (fun z => by
      subst z
      refine ⟨?_, ?_⟩
      · rw [kOf_is hk]; exact hk
      · rw [kOf_is hk]) (gd e)
    have nd1 : (e1.toList.map kOf).Nodup := pk.nodup_iff.mpr (List.nodup_cons.mpr ⟨nk, ndp⟩)
    have me1 : ∀ i, (mem i || decide (i = k)) = true ↔ i ∈ e1.toList.map kOf := fun i => by
      rw [pk.mem_iff, List.mem_cons, Bool.or_eq_true, decide_eq_true_eq, hme i, or_comm]
    have z1 : e1.size = n + 1 := by
      have := pc.length_eq
      simp at this
      omega
    have b1 : e1.size < scanBound := z1 ▸ room
    have l1 : wd.params.followText "set-order" = true ∨ t1.led = true := hle.imp id fun z => q4.trans z
    have go : ∀ hp', Heap.SameBut a sh.heap hp' → SetM wd hp' a (fun j => mem j || decide (j = k)) e1.size → Q true { sh with heap := hp' } := fun hp' sb r => by
      have q := fin hp' sb
      rw [no] at q
      rw [z1] at r
      exact q r
    have gives : ∀ (b : Bool) {s1 : Shared} {R' : Unit → Shared → Prop}, R' () s1 → wpAny (model pg wd) Ar (match b with | true => rule "set.scan.the-table-gave-way" | false => pure ()) R' Ex s1 :=
      fun b s1 R' q => by cases b with | true => exact wpAny_rule q | false => exact wpAny_pure q
    refine wpAny_bind (gives _ ?_)
    split
    · refine wpAny_bind ?_
      rw [hashByValue_scannable 8 scn]
      refine wpAny_pure (setM_tail (fun b s1 R' q => by cases b <;> first | exact wpAny_pure q | exact wpAny_rule q) hob hexs hdt gd1 nd1 me1 b1 ?_ ?_ ?_ ?_)
      · first | (split <;> first | exact q2 | exact SetTable.fits_plain_off q2) | exact q2
      · first | (split <;> exact q3) | exact q3
      · first | (split <;> exact l1) | exact l1
      · intro hp' sb r
        exact wpAny_pure (go hp' sb r)
    · refine wpAny_bind (wpAny_pure ?_)
      simp only [↓reduceIte]
      exact setM_tail (fun b s1 R' q => by cases b <;> first | exact wpAny_pure q | exact wpAny_rule q) hob hexs hdt gd1 nd1 me1 b1 q2 q3 l1 fun hp' sb r => wpAny_pure (go hp' sb r)
/-- the loop of set(..) -/
theorem setM_loop {it : Addr} {fp wr : List Addr} {G : Array GenState → Array GenState → Prop} {m : Nat} {Pv : Nat → Value → Prop} {St : Nat → Shared → Prop} {R : Result → Shared → Prop}
    (W : WalksS pg wd Ar.in1 it fp wr G m Pv St) (S : Addr) (nS : S ∉ fp) (ks : List Key) (hm : m = ks.length) (hb : ks.length + 1 < scanBound) (hval : ∀ i v, Pv i v → ∃ k, ks[i]? = some k ∧ keyIs k v = true) :
    ∀ (j i : Nat) (sh : Shared), m - i = j → i ≤ m → St i sh → (∃ c, c ≤ i ∧ SetM wd sh.heap S (fun k => inK (ks.take i) k) c) →
      (∀ s' c, Moved (S :: wr) G sh s' → c ≤ m → SetM wd s'.heap S (fun k => inK ks k) c → R (.ok (.ret .none)) s') → codeAny (model pg wd) Ar (.builtin "set.update.loop" ⟨[.ref S, .ref it], []⟩) R sh := by
  have nW : S ∉ wr := fun z => nS (W.sub _ z)
  have more : ∀ b ∈ wr, b ∈ S :: wr := fun b hb => List.mem_cons_of_mem _ hb
  intro j
  induction j with
  | zero =>
    rintro i sh hj hi hst ⟨c, hc, sm⟩ hR
    obtain rfl : i = m := by omega
    refine codeAny_builtin F.entry_set_update_loop ?_
    rw [Around.under_plainId F.plain_set_update_loop _]
    show wpAny _ Ar.in1 (pyNext (.ref it) >>= _) _ _ sh
    refine wpAny_bind (W.done sh _ _ hst fun s' mv => ?_)
    show wpAny _ Ar.in1 (PySem.ret Value.none) _ _ s'
    rw [List.take_of_length_le (by omega)] at sm
    exact wpAny_pure (hR s' c (mv.mono more) hc (sm.moved fun o e => mv.heap S o nW e))
  | succ j ih =>
    rintro i sh hj hi hst ⟨c, hc, sm⟩ hR
    have lt : i < m := by omega
    refine codeAny_builtin F.entry_set_update_loop ?_
    rw [Around.under_plainId F.plain_set_update_loop _]
    show wpAny _ Ar.in1 (pyNext (.ref it) >>= _) _ _ sh
    refine wpAny_bind (W.item i sh _ _ lt hst fun v s' hP hst' mv => ?_)
    obtain ⟨k, ek, hk⟩ := hval i v hP
    have sm' : SetM wd s'.heap S (fun k => inK (ks.take i) k) c := sm.moved fun o e => mv.heap S o nW e
    show wpAny _ Ar.in1 (holding [v] (setAdd S v) >>= _) _ _ s'
    refine wpAny_bind (wpAny_holding ?_)
    unfold setAdd
    refine wpAny_holding (wpAny_bind ((mixKind pg wd).pyHash (k := k) hk ?_))
    refine setM_put (sh := { s' with toks := s'.toks + 1 }) hk sm' (by omega) fun hp' sb sm2 => ?_
    have sm3 : SetM wd hp' S (fun z => inK (ks.take (i + 1)) z) (if inK (ks.take i) k = true then c else c + 1) := sm2.by fun z => by
      rw [List.take_add_one, ek]
      unfold inK
      rw [List.any_append]
      simp [eq_comm]
    have c3 : (if inK (ks.take i) k = true then c else c + 1) ≤ i + 1 := by split <;> omega
    refine wpAny_pure ⟨plainId_quiet F.plain_set_update_loop _, ih (i + 1) _ (by omega) lt (W.frame _ s' _ _ hst' (Nat.le_succ _) fun b hb o e => ?_) ⟨_, c3, sm3⟩ fun s2 c2 mv2 hc2 sm4 => ?_⟩
    · exact (sb.2 b fun z : b = S => nS (z ▸ hb)).trans e
    · refine hR s2 c2 (Moved.trans W.gtrans ((mv.mono more).then_heap (Nat.le_succ _) fun b o hb e => ?_) mv2) hc2 sm4
      exact (sb.2 b fun z : b = S => hb (z ▸ List.mem_cons_self)).trans e
end
abbrev newS (wd : World) : Obj := { cls := .type "set", dict := none, data := .set #[] 0 (.fresh 0 0 (!wd.params.followText "set-order")) }
theorem setM_void {wd : World} {hp : Heap} {a : Addr} {ks : List Key} (ho : hp.get? a = some (newS wd)) : SetM wd hp a (fun k => inK (ks.take 0) k) 0 := by
  refine ⟨_, #[], 0, _, ho, ⟨rfl, rfl, rfl⟩, rfl, (fun e he => by simp at he), by simp, fun k => by simp [inK], by decide, rfl, rfl, List.Pairwise.nil, ?_⟩
  cases z : wd.params.followText "set-order" with
  | true => exact .inl rfl
  | false => exact .inr rfl
section
variable {pg : Program} {wd : World} {Ar : Around} {Ex : Value → Shared → Prop} {sh : Shared}
set_option maxHeartbeats 3200000 in
theorem call_setM_tuple {l : Addr} {its : Array Value} (ks : List Key) {Q : Value → Shared → Prop} (hh : Ar.handled = none) (hl : sh.heap.IsTuple l its) (hz : its.size = ks.length) (hval : ∀ (i : Nat) (v : Value), its[i]? = some v → ∃ k, ks[i]? = some k ∧ keyIs k v = true) (hb : ks.length + 1 < scanBound)
    (h : ∀ (hp' : Heap) (tk c : Nat), SetM wd hp' sh.heap.objs.size (inK ks) c → c ≤ ks.length → (∀ b o, sh.heap.get? b = some o → hp'.get? b = some o) → Q (.ref sh.heap.objs.size) { sh with heap := hp', toks := tk }) :
    wpAny (model pg wd) Ar (call (.type "set") [.ref l]) Q Ex sh := by
  obtain ⟨c, tl, hmro⟩ := F.called_set.mro
  have hmade := F.called_set.made
  have hsub := F.called_set.sub
  have h1 := F.called_set.notType
  have h2 := F.called_set.canCreate
  have hct := F.typeCall_set_1 (.ref l)
  refine wpAny_call (codeAny_of_tree ?_)
  show wpAny _ _ (callAny (.type "set") _) _ _ _
  refine wpAny_pure ⟨Code.quiet_builtin _ (by decide +kernel), codeAny_builtin F.entry_type_call ?_⟩
  rw [Around.under_plain (weight_type_call_type "set" [.ref l] []) rfl]
  repeat (any_goals (first | assumption | wp_step))
  refine codeAny_mono (code_set_led1 (.ref l) (E := Ex) (Q₁ := fun obj s1 => obj = .ref sh.heap.objs.size ∧ s1 = { sh with heap := sh.heap.push (newS wd) }) ⟨rfl, rfl⟩) fun r s1 hr => ?_
  match r, hr with
  | .error e, hr => exact hr
  | .ok .next, hr => exact hr.elim
  | .ok .brk, hr => exact hr.elim
  | .ok .cont, hr => exact hr.elim
  | .ok (.ret obj), hr =>
    obtain ⟨rfl, rfl⟩ := hr
    have hS : (sh.heap.push (newS wd)).get? sh.heap.objs.size = some (newS wd) := Heap.get?_push_size _ rfl
    have hT : Shared.TypeIs { sh with heap := sh.heap.push (newS wd) } (.ref sh.heap.objs.size) "set" := ⟨_, hS, rfl⟩
    have hli := F.called_set.init.lookup
    have hbi := F.called_set.init.bind (.ref sh.heap.objs.size)
    repeat (any_goals (first | assumption | wp_step))
    refine codeAny_mono (codeAny_call_builtin (R := wants (fun r s2 => r = .none ∧ ∃ hp' tk c, s2 = { sh with heap := hp', toks := tk } ∧ SetM wd hp' sh.heap.objs.size (inK ks) c ∧ c ≤ ks.length ∧ ∀ b o, sh.heap.get? b = some o → hp'.get? b = some o) Ex) F.called_set.init.plain F.entry_set_init (check_set_init_1 hT ?_)) fun r2 s2 hr2 => ?_
    · obtain ⟨ol, hol, hcl, nl, hdl⟩ := hl
      obtain ⟨ocls, odict, odata, oslots⟩ := ol
      simp only at hcl hdl
      subst hcl
      subst hdl
      have hol' : (sh.heap.push (newS wd)).get? l = some { cls := .type "tuple", dict := odict, data := .seq its nl, slots := oslots } := Heap.get?_push_of_some _ hol
      have hsls := F.sub_tuple_set
      have hslf := F.sub_tuple_frozenset
      have hne : (Value.type "tuple" == Value.type "dict") = false := by decide
      have hl1 : (sh.heap.push (newS wd)).IsTuple l its := ⟨_, hol', rfl, nl, rfl⟩
      unfold Builtin.«set.__init__» noKeywords Builtin.Frozenset.updateFrom
      generalize hPI : pyIter = PI
      wp_walk
      subst hPI
      refine wpAny_pyIter_tuple hl1 (wpAny_bind (wpAny_runValue ?_))
      have low : l < sh.heap.objs.size := Heap.lt_size hol
      have hh3 : Ar.in1.in1.in1.handled = none := by simp [hh]
      have hz1 : (sh.heap.push (newS wd)).objs.size = sh.heap.objs.size + 1 := Heap.size_push ..
      have nI : l ≠ (sh.heap.push (newS wd)).objs.size := by rw [hz1]; exact Nat.ne_of_lt (Nat.lt_succ_of_lt low)
      have nS : sh.heap.objs.size ∉ [(sh.heap.push (newS wd)).objs.size, l] := by
        simp only [List.mem_cons, List.not_mem_nil, or_false, not_or]
        exact ⟨by rw [hz1]; exact Nat.ne_of_lt (Nat.lt_succ_self _), Nat.ne_of_gt low⟩
      refine setM_loop ((Walks.tuple hh3 _ l nI its).toS) sh.heap.objs.size nS ks hz hb hval (its.size - 0) 0 _ (by omega) (Nat.zero_le _) ⟨⟨_, Heap.get?_push_size _ rfl, rfl, rfl⟩, (hl1.push _)⟩ ?first ?last
      case first => exact ⟨0, Nat.le_refl 0, setM_void (Heap.get?_push_of_some _ hS)⟩
      case last =>
        intro s3 c3 mv hc3 sm
        obtain ⟨hp', g2, d2, tk2, os2⟩ := s3
        have eg : g2 = sh.gens := mv.gens
        have ed : d2 = sh.drawn := mv.drawn
        have eo : os2 = sh.os := mv.os
        subst eg
        subst ed
        subst eo
        show wpAny _ _ _ _ _ _
        refine wpAny_pure ?_
        show wpAny _ _ (PySem.ret Value.none) _ _ _
        refine wpAny_pure ⟨rfl, hp', tk2, c3, rfl, sm, by omega, fun b o e => ?_⟩
        have lb : b < sh.heap.objs.size := Heap.lt_size e
        refine mv.heap b o (fun z => ?_) (Heap.get?_push_of_some _ (Heap.get?_push_of_some _ e))
        simp only [List.mem_cons, List.not_mem_nil, or_false] at z
        exact z.elim (Nat.ne_of_lt lb) fun z => Nat.ne_of_lt (Nat.lt_succ_of_lt lb) (z.trans hz1)
    · match r2, hr2 with
      | .error e, hr2 => exact hr2
      | .ok .next, hr2 => exact hr2.elim
      | .ok .brk, hr2 => exact hr2.elim
      | .ok .cont, hr2 => exact hr2.elim
      | .ok (.ret r), hr2 =>
        obtain ⟨rfl, hp', tk, c2, rfl, sm, hc2, hk2⟩ := hr2
        repeat (any_goals (first | assumption | wp_step))
        exact h _ _ _ sm hc2 hk2
set_option maxHeartbeats 3200000 in
theorem call_setM_list {l : Addr} {its : Array Value} (ks : List Key) {Q : Value → Shared → Prop} (hh : Ar.handled = none) (hl : sh.heap.IsList l its) (hz : its.size = ks.length) (hval : ∀ (i : Nat) (v : Value), its[i]? = some v → ∃ k, ks[i]? = some k ∧ keyIs k v = true) (hb : ks.length + 1 < scanBound)
    (h : ∀ (hp' : Heap) (tk c : Nat), SetM wd hp' sh.heap.objs.size (inK ks) c → c ≤ ks.length → (∀ b o, sh.heap.get? b = some o → hp'.get? b = some o) → Q (.ref sh.heap.objs.size) { sh with heap := hp', toks := tk }) :
    wpAny (model pg wd) Ar (call (.type "set") [.ref l]) Q Ex sh := by
  obtain ⟨c, tl, hmro⟩ := F.called_set.mro
  have hmade := F.called_set.made
  have hsub := F.called_set.sub
  have h1 := F.called_set.notType
  have h2 := F.called_set.canCreate
  have hct := F.typeCall_set_1 (.ref l)
  refine wpAny_call (codeAny_of_tree ?_)
  show wpAny _ _ (callAny (.type "set") _) _ _ _
  refine wpAny_pure ⟨Code.quiet_builtin _ (by decide +kernel), codeAny_builtin F.entry_type_call ?_⟩
  rw [Around.under_plain (weight_type_call_type "set" [.ref l] []) rfl]
  repeat (any_goals (first | assumption | wp_step))
  refine codeAny_mono (code_set_led1 (.ref l) (E := Ex) (Q₁ := fun obj s1 => obj = .ref sh.heap.objs.size ∧ s1 = { sh with heap := sh.heap.push (newS wd) }) ⟨rfl, rfl⟩) fun r s1 hr => ?_
  match r, hr with
  | .error e, hr => exact hr
  | .ok .next, hr => exact hr.elim
  | .ok .brk, hr => exact hr.elim
  | .ok .cont, hr => exact hr.elim
  | .ok (.ret obj), hr =>
    obtain ⟨rfl, rfl⟩ := hr
    have hS : (sh.heap.push (newS wd)).get? sh.heap.objs.size = some (newS wd) := Heap.get?_push_size _ rfl
    have hT : Shared.TypeIs { sh with heap := sh.heap.push (newS wd) } (.ref sh.heap.objs.size) "set" := ⟨_, hS, rfl⟩
    have hli := F.called_set.init.lookup
    have hbi := F.called_set.init.bind (.ref sh.heap.objs.size)
    repeat (any_goals (first | assumption | wp_step))
    refine codeAny_mono (codeAny_call_builtin (R := wants (fun r s2 => r = .none ∧ ∃ hp' tk c, s2 = { sh with heap := hp', toks := tk } ∧ SetM wd hp' sh.heap.objs.size (inK ks) c ∧ c ≤ ks.length ∧ ∀ b o, sh.heap.get? b = some o → hp'.get? b = some o) Ex) F.called_set.init.plain F.entry_set_init (check_set_init_1 hT ?_)) fun r2 s2 hr2 => ?_
    · obtain ⟨ol, hol, hcl, nl, hdl⟩ := hl
      obtain ⟨ocls, odict, odata, oslots⟩ := ol
      simp only at hcl hdl
      subst hcl
      subst hdl
      have hol' : (sh.heap.push (newS wd)).get? l = some { cls := .type "list", dict := odict, data := .seq its nl, slots := oslots } := Heap.get?_push_of_some _ hol
      have hsls := F.sub_list_set
      have hslf := F.sub_list_frozenset
      have hne : (Value.type "list" == Value.type "dict") = false := by decide
      have hl1 : (sh.heap.push (newS wd)).IsList l its := ⟨_, hol', rfl, nl, rfl⟩
      unfold Builtin.«set.__init__» noKeywords Builtin.Frozenset.updateFrom
      generalize hPI : pyIter = PI
      wp_walk
      subst hPI
      refine wpAny_pyIter_list hl1 (wpAny_bind (wpAny_runValue ?_))
      have low : l < sh.heap.objs.size := Heap.lt_size hol
      have hh3 : Ar.in1.in1.in1.handled = none := by simp [hh]
      have hz1 : (sh.heap.push (newS wd)).objs.size = sh.heap.objs.size + 1 := Heap.size_push ..
      have nI : l ≠ (sh.heap.push (newS wd)).objs.size := by rw [hz1]; exact Nat.ne_of_lt (Nat.lt_succ_of_lt low)
      have nS : sh.heap.objs.size ∉ [(sh.heap.push (newS wd)).objs.size, l] := by
        simp only [List.mem_cons, List.not_mem_nil, or_false, not_or]
        exact ⟨by rw [hz1]; exact Nat.ne_of_lt (Nat.lt_succ_self _), Nat.ne_of_gt low⟩
      refine setM_loop ((Walks.list hh3 _ l nI its).toS) sh.heap.objs.size nS ks hz hb hval (its.size - 0) 0 _ (by omega) (Nat.zero_le _) ⟨⟨_, Heap.get?_push_size _ rfl, rfl, rfl⟩, (hl1.push _)⟩ ?first ?last
      case first => exact ⟨0, Nat.le_refl 0, setM_void (Heap.get?_push_of_some _ hS)⟩
      case last =>
        intro s3 c3 mv hc3 sm
        obtain ⟨hp', g2, d2, tk2, os2⟩ := s3
        have eg : g2 = sh.gens := mv.gens
        have ed : d2 = sh.drawn := mv.drawn
        have eo : os2 = sh.os := mv.os
        subst eg
        subst ed
        subst eo
        show wpAny _ _ _ _ _ _
        refine wpAny_pure ?_
        show wpAny _ _ (PySem.ret Value.none) _ _ _
        refine wpAny_pure ⟨rfl, hp', tk2, c3, rfl, sm, by omega, fun b o e => ?_⟩
        have lb : b < sh.heap.objs.size := Heap.lt_size e
        refine mv.heap b o (fun z => ?_) (Heap.get?_push_of_some _ (Heap.get?_push_of_some _ e))
        simp only [List.mem_cons, List.not_mem_nil, or_false] at z
        exact z.elim (Nat.ne_of_lt lb) fun z => Nat.ne_of_lt (Nat.lt_succ_of_lt lb) (z.trans hz1)
    · match r2, hr2 with
      | .error e, hr2 => exact hr2
      | .ok .next, hr2 => exact hr2.elim
      | .ok .brk, hr2 => exact hr2.elim
      | .ok .cont, hr2 => exact hr2.elim
      | .ok (.ret r), hr2 =>
        obtain ⟨rfl, hp', tk, c2, rfl, sm, hc2, hk2⟩ := hr2
        repeat (any_goals (first | assumption | wp_step))
        exact h _ _ _ sm hc2 hk2
end
end VL
set_option Elab.async false
set_option linter.all false
set_option maxRecDepth 100000
/-! The value layer: sorted(set(..)), len(set(..)). -/
namespace VL
open PySem PySem.Spec PyProof.Rows L2 TB
/-- each once, the last of like ones -/
def ddup {α : Type} [DecidableEq α] : List α → List α
  | [] => []
  | x :: r => if (r.any fun z => decide (z = x)) = true then ddup r else x :: ddup r
theorem ddup_any {α : Type} [DecidableEq α] {x : α} {r : List α} : (r.any fun z => decide (z = x)) = true ↔ x ∈ r := by
  rw [List.any_eq_true]
  exact ⟨fun ⟨z, h, e⟩ => by rw [← of_decide_eq_true e]; exact h, fun h => ⟨x, h, decide_eq_true rfl⟩⟩
theorem mem_ddup {α : Type} [DecidableEq α] {y : α} : ∀ {l : List α}, y ∈ ddup l ↔ y ∈ l
  | [] => Iff.rfl
  | x :: r => by
    rw [ddup]
    split
    · rename_i h
      rw [mem_ddup, List.mem_cons]
      exact ⟨.inr, fun z => z.elim (fun e => by rw [e]; exact ddup_any.mp h) id⟩
    · rw [List.mem_cons, List.mem_cons, mem_ddup]
theorem nodup_ddup {α : Type} [DecidableEq α] : ∀ l : List α, (ddup l).Nodup
  | [] => List.Pairwise.nil
  | x :: r => by
    rw [ddup]
    split
    · exact nodup_ddup r
    · rename_i h
      exact List.nodup_cons.mpr ⟨fun z => h (ddup_any.mpr (mem_ddup.mp z)), nodup_ddup r⟩
theorem ddup_len {α : Type} [DecidableEq α] : ∀ l : List α, (ddup l).length ≤ l.length
  | [] => Nat.le_refl _
  | x :: r => by
    rw [ddup]
    have := ddup_len r
    split
    · exact Nat.le_succ_of_le this
    · exact Nat.succ_le_succ this
theorem perm_of_mem {α : Type} : ∀ {l m : List α}, l.Nodup → m.Nodup → (∀ x, x ∈ l ↔ x ∈ m) → l.Perm m
  | [], m, _, _, h => by
    cases m with
    | nil => exact .refl _
    | cons x r => exact absurd ((h x).mpr List.mem_cons_self) (fun z => nomatch z)
  | x :: l, m, h1, h2, h => by
    obtain ⟨s, t, rfl⟩ := List.append_of_mem ((h x).mp List.mem_cons_self)
    have p := List.perm_middle (a := x) (l₁ := s) (l₂ := t)
    have n2 := p.nodup_iff.mp h2
    obtain ⟨n3, n4⟩ := List.nodup_cons.mp n2
    obtain ⟨n5, n6⟩ := List.nodup_cons.mp h1
    refine ((perm_of_mem n6 n4 fun y => ?_).cons x).trans p.symm
    have hy := h y
    rw [p.mem_iff, List.mem_cons, List.mem_cons] at hy
    by_cases e : y = x
    · subst e
      exact ⟨fun z => absurd z n5, fun z => absurd z n3⟩
    · exact ⟨fun z => (hy.mp (.inr z)).elim (fun w => absurd w e) id, fun z => (hy.mpr (.inr z)).elim (fun w => absurd w e) id⟩
theorem sortI_set {ns ms : List Int} (h1 : ms.Nodup) (h2 : ∀ k, k ∈ ms ↔ k ∈ ns) (h3 : ms.Pairwise (· ≤ ·)) : ms = sortI (ddup ns) := sortI_eq (perm_of_mem h1 (nodup_ddup ns) fun k => (h2 k).trans mem_ddup.symm) h3
theorem sortS_set {ns ms : List Str} (h1 : ms.Nodup) (h2 : ∀ k, k ∈ ms ↔ k ∈ ns) (h3 : sortedS ms = true) : ms = sortS (ddup ns) := sortS_eq (perm_of_mem h1 (nodup_ddup ns) fun k => (h2 k).trans mem_ddup.symm) h3
theorem strs_from : ∀ (l : List Value), (∀ v ∈ l, ∃ x tk, v = Value.str x tk) → ∃ xs : List Str, StrsAre l xs ∧ l.map (fun v => kOf (0, v)) = xs.map Sum.inr
  | [], _ => ⟨[], .nil, rfl⟩
  | v :: l, h => by
    obtain ⟨x, tk, rfl⟩ := h v List.mem_cons_self
    obtain ⟨xs, h1, h2⟩ := strs_from l fun u hu => h u (List.mem_cons_of_mem _ hu)
    exact ⟨x :: xs, .cons x tk h1, by rw [List.map_cons, List.map_cons, h2]; rfl⟩
theorem ints_from : ∀ (l : List Value), (∀ v ∈ l, ∃ x tk, v = Value.int x tk) → ∃ xs : List Int, IntsAre l xs ∧ l.map (fun v => kOf (0, v)) = xs.map Sum.inl
  | [], _ => ⟨[], .nil, rfl⟩
  | v :: l, h => by
    obtain ⟨x, tk, rfl⟩ := h v List.mem_cons_self
    obtain ⟨xs, h1, h2⟩ := ints_from l fun u hu => h u (List.mem_cons_of_mem _ hu)
    exact ⟨x :: xs, .cons x tk h1, by rw [List.map_cons, List.map_cons, h2]; rfl⟩
section
variable {pg : Program} {wd : World} {Ar : Around} {Ex : Value → Shared → Prop} {sh : Shared} {a : Addr} {mem : Key → Bool} {n : Nat}
/-- sorted(the set), by a sort of the list of its members -/
theorem sorted_setM {Q : Value → Shared → Prop} {outOk : Array Value → Prop} (m : SetM wd sh.heap a mem n) (hh : Ar.handled = none)
    (sort : ∀ (vs : List Value) (s1 : Shared) (ks : List Key), s1.heap.get? (s1.heap.objs.size - 1) = some (seqObj "list" vs.toArray 0) → 1 ≤ s1.heap.objs.size → vs.map (fun v => kOf (0, v)) = ks → (∀ v ∈ vs, ∃ k, keyIs k v = true) → ks.Nodup → (∀ k, k ∈ ks ↔ mem k = true) → vs.length = n →
      ∀ P : PySem.Fin → Shared → Prop, (∀ out, outOk out → P (.done (.ret .none)) { s1 with heap := sortedHeap s1.heap (s1.heap.objs.size - 1) vs out }) → wpAny (model pg wd) Ar.in1.in1 (Builtin.«list.sort» ⟨[.ref (s1.heap.objs.size - 1)], []⟩) P Ex s1)
    (fin : ∀ s' p (out : Array Value) (c : Nat), (∀ b o, sh.heap.get? b = some o → s'.heap.get? b = some o) → s'.gens = sh.gens → s'.os = sh.os → sh.heap.objs.size ≤ p → s'.heap.get? p = some (seqObj "list" out c) → outOk out → Q (.ref p) s') :
    wpAny (model pg wd) Ar (call (.builtin "sorted") [.ref a]) Q Ex sh := by
  obtain ⟨ob, es, ep, tb, hob, hexs, hdt, gd, ndp, hme, hbd, hfi, hn, hri, hle⟩ := m
  refine Calls.call_function_entry kind_sorted plain_sorted entry_sorted (args_sorted1 _) ?_
  unfold Builtin.«sorted»
  refine wpAny_bind (m := checkCount "sorted" 1 1 _) (wpAny_pure (wpAny_bind (collect_set (A := Ar.in1) hh ⟨ob, hob, hexs.1, hdt⟩ hfi hbd hri hle fun s1 vs k1 z1 g1 o1 pm => ?_)))
  have lv : vs.length = n := by
    have := pm.length_eq
    simp at this
    omega
  have pk : (vs.map fun v => kOf (0, v)).Perm (es.toList.map kOf) := by
    have q := pm.map fun v => kOf (0, v)
    rw [List.map_map] at q
    exact q
  refine wpAny_bind (wpAny_newList ?_ (by rw [lv, ← hn]; exact fits_of_scanBound hbd))
  have at1 : (s1.heap.push (seqObj "list" vs.toArray 0)).get? s1.heap.objs.size = some (seqObj "list" vs.toArray 0) := Heap.get?_push_size _ rfl
  have sz : (s1.heap.push (seqObj "list" vs.toArray 0)).objs.size = s1.heap.objs.size + 1 := size_push' _ _
  have sz' : (s1.heap.push (seqObj "list" vs.toArray 0)).objs.size - 1 = s1.heap.objs.size := by rw [sz]; rfl
  have run := sort vs { s1 with heap := s1.heap.push (seqObj "list" vs.toArray 0) } _ (by show (s1.heap.push _).get? ((s1.heap.push _).objs.size - 1) = _; rw [sz']; exact at1) (by show 1 ≤ (s1.heap.push _).objs.size; rw [sz]; exact Nat.le_add_left _ _) rfl (fun v hv => by
    obtain ⟨e, he, q⟩ := List.mem_map.mp (pm.mem_iff.mp hv)
    exact ⟨kOf e, by rw [← q]; exact (gd e he).1⟩) (pk.nodup_iff.mpr ndp) (fun k => (pk.mem_iff).trans (hme k).symm) lv
  dsimp only at run
  rw [sz'] at run
  refine wpAny_bind (wpAny_holding (wpAny_call_entry slot_list_sort ⟨_, at1, rfl⟩ entry_list_sort (run _ fun out ho => ⟨_, rfl, ?_⟩) (args_list_sort _)))
  obtain ⟨c, hc⟩ := sortedHeap_at (vs := vs) (out := out) at1
  refine wpAny_pure ⟨_, rfl, fin _ s1.heap.objs.size out c (fun b u e => ?_) g1 o1 z1 hc ho⟩
  have q := k1 b u e
  have lt := Heap.lt_size q
  show (sortedHeap (s1.heap.push (seqObj "list" vs.toArray 0)) s1.heap.objs.size vs out).get? b = some u
  rw [sortedHeap_old (Nat.ne_of_lt lt) (by rw [sz]; exact Nat.lt_succ_of_lt lt)]
  exact Heap.get?_push_of_some _ q
end
end VL
namespace VL
open PySem PySem.Spec PyProof.Rows L2 TB
@[simp] def srtSetD (c : Bool) (x : D) (st : AS) : Out D := match seqOf st x with
  | some ds => (match intsOf ds with
    | some ns => if ns.length ≤ 1000 then mk c ((sortI (ddup ns)).map D.int) st else .bad
    | none => (match strsOf ds with
      | some xs => if xs.length ≤ 1000 then mk c ((sortS (ddup xs)).map D.str) st else .bad
      | none => .bad))
  | none => .bad
@[simp] def lenSetD (x : D) (st : AS) : Out D := match seqOf st x with
  | some ds => (match intsOf ds with
    | some ns => if ns.length ≤ 1000 then .ok (.int (ddup ns).length) st else .bad
    | none => (match strsOf ds with
      | some xs => if xs.length ≤ 1000 then .ok (.int (ddup xs).length) st else .bad
      | none => .bad))
  | none => .bad
/-- what set(..) may be of: keys -/
@[simp] def keysOfD (ds : List D) : Option (List Key) := match intsOf ds with
  | some ns => some (ns.map Sum.inl)
  | none => (strsOf ds).map (·.map Sum.inr)
theorem vals_keys : ∀ {ks : List Key} {us : List Value}, Vals (ks.map kV) us → ∀ (i : Nat) (v : Value), us[i]? = some v → ∃ k, ks[i]? = some k ∧ keyIs k v = true
  | [], _, r, i, v, e => by
    cases r
    simp at e
  | k :: ks, _, r, i, v, e => by
    cases r with
    | cons r1 r2 =>
      cases i with
      | zero =>
        simp at e
        subst e
        refine ⟨k, rfl, ?_⟩
        cases k with
        | inl j => obtain ⟨t, rfl⟩ := r1; exact keyIs_int j t
        | inr x => obtain ⟨t, rfl⟩ := r1; exact keyIs_str x t
      | succ i =>
        obtain ⟨k', h1, h2⟩ := vals_keys r2 i v (by simpa using e)
        exact ⟨k', by simpa using h1, h2⟩
theorem keys_vals {K : PySem.W.Frag} {H : Hp} {β : Bt} {ds : List D} {us : List V} {ks : List Key} (r : Reps K H β ds us) (h : keysOfD ds = some ks) : us = ks.map kV := by
  unfold keysOfD at h
  split at h
  · rename_i ns en
    cases h
    have z := intsOf_eq en
    subst z
    rw [r.ints, List.map_map]
    rfl
  · cases es : strsOf ds with
    | none => rw [es] at h; cases h
    | some xs =>
      rw [es] at h
      cases h
      rw [r.strs es, List.map_map]
      rfl
section
variable {X : Cx} {E : XK} {a : Expr} {fa : FE} {p p2 q pos : Pos}
/-- set(x) and what is asked of it -/
theorem set_then {id : String} {pins : List (Addr × Obj)} {σ : L2.St} {H : Hp} {s : Shared} {Q : Value → Shared → Prop} {c : Expr} {T : Value → Shared → Prop} {x : Str} (hc : X.calm = true) (hg : Gl X x) (hm : X.mg x = none) (hbt : bootBuiltins x = some (.builtin id)) (hg2 : Gl X "set") (hm2 : X.mg "set" = none) (na : starEach [a] X.env = (false, eval a X.env) :: starEach [] X.env) (hn : x ≠ "__name__") (hdb : (x == ("__debug__" : Str)) = false)
    (I : Inv X pins σ H s) (run : wpAny (model X.prog X.w) X.A (eval a X.env) (fun v s1 => ∃ l H1 ks, v = .ref l ∧ Inv X pins σ H1 s1 ∧ (SqL X.K H1 l (ks.map kV) ∨ SqT X.K H1 l (ks.map kV)) ∧ ks.length ≤ 1000 ∧
      ∀ (hp' : Heap) (tk c : Nat), SetM X.w hp' s1.heap.objs.size (inK ks) c → c ≤ ks.length → (∀ b o, s1.heap.get? b = some o → hp'.get? b = some o) → wpAny (model X.prog X.w) X.A (call (.builtin id) [.ref s1.heap.objs.size]) Q X.xe { s1 with heap := hp', toks := tk }) X.xe s) :
    wpAny (model X.prog X.w) X.A (eval (.Call (.Name x p) [.Call (.Name "set" p2) [a] [] q] [] pos) X.env) Q X.xe s := by
  refine Call_ (ld_blt I hg hm hbt ?_ hn hdb)
  refine PyProof.Rows.callWith_builtin1 (PyProof.Rows.args_cons ?_ rfl) rfl rfl
  refine Call_ (ld_blt I hg2 hm2 PyProof.Rows.boot_set ?_)
  refine PyProof.Rows.callWith_type1 (PyProof.Rows.args_cons (thn run fun v s1 z => PyProof.Rows.args_nil ?_) na) na rfl
  obtain ⟨l, H1, ks, rfl, I1, hq, h1, fin⟩ := z
  have hb : ks.length + 1 < scanBound := Nat.lt_of_le_of_lt (Nat.succ_le_succ h1) (by decide)
  rcases hq with hq | hq
  · obtain ⟨its, r, pl, hz⟩ := I1.list hq
    have hl : its.toArray.size = ks.length := by rw [List.size_toArray, ← r.length, List.length_map]
    refine call_setM_list ks (I1.ok.hd hc) pl.isList hl (fun i v e => vals_keys r i v (by simpa using e)) hb fun hp' tk c sm hk k => ?_
    exact PyProof.Rows.args_nil (fin hp' tk c sm hk k)
  · obtain ⟨its, r, pl, hz⟩ := I1.tuple hq
    have hl : its.toArray.size = ks.length := by rw [List.size_toArray, ← r.length, List.length_map]
    refine call_setM_tuple ks (I1.ok.hd hc) pl hl (fun i v e => vals_keys r i v (by simpa using e)) hb fun hp' tk c sm hk k => ?_
    exact PyProof.Rows.args_nil (fin hp' tk c sm hk k)
theorem use_keys {K : PySem.W.Frag} {mg : MG} {β : Bt} {H : Hp} {st : AS} {d : D} {u : V} {ds : List D} {ks : List Key} (S : Sim K mg β st H) (r : Rep K H β d u) (h : seqOf st d = some ds) (hk : keysOfD ds = some ks) : ∃ l, u = .ref l ∧ (SqL K H l (ks.map kV) ∨ SqT K H l (ks.map kV)) := by
  obtain ⟨l, us, rfl, hq, rs⟩ := S.seqs r h
  rw [keys_vals rs hk] at hq
  exact ⟨l, rfl, hq⟩
theorem inl_of {ks : List Key} {xs : List Int} {vs : List Value} (h : vs.map (fun v => kOf (0, v)) = ks) (he : ∀ v ∈ vs, ∃ k, keyIs k v = true) (hm : ∀ k ∈ ks, k ∈ xs.map Sum.inl) : ∀ v ∈ vs, ∃ x tk, v = Value.int x tk := fun v hv => by
  obtain ⟨k, hk⟩ := he v hv
  have e : kOf (0, v) ∈ ks := by rw [← h]; exact List.mem_map_of_mem hv
  obtain ⟨x, _, ex⟩ := List.mem_map.mp (hm _ e)
  rw [kOf_is hk] at ex
  subst ex
  rcases keyIs_shape hk with ⟨i, t, _, rfl⟩ | ⟨y, t, z, _⟩
  · exact ⟨i, t, rfl⟩
  · cases z
theorem inr_of {ks : List Key} {xs : List Str} {vs : List Value} (h : vs.map (fun v => kOf (0, v)) = ks) (he : ∀ v ∈ vs, ∃ k, keyIs k v = true) (hm : ∀ k ∈ ks, k ∈ xs.map Sum.inr) : ∀ v ∈ vs, ∃ x tk, v = Value.str x tk := fun v hv => by
  obtain ⟨k, hk⟩ := he v hv
  have e : kOf (0, v) ∈ ks := by rw [← h]; exact List.mem_map_of_mem hv
  obtain ⟨x, _, ex⟩ := List.mem_map.mp (hm _ e)
  rw [kOf_is hk] at ex
  subst ex
  rcases keyIs_shape hk with ⟨i, t, z, _⟩ | ⟨y, t, _, rfl⟩
  · cases z
  · exact ⟨y, t, rfl⟩
theorem Inv.grown {pins : List (Addr × Obj)} {σ : L2.St} {H : Hp} {s s' : Shared} {p : Addr} {xs : List V} {out : Array Value} {c : Nat} (I : Inv X pins σ H s) (k : ∀ b o, s.heap.get? b = some o → s'.heap.get? b = some o) (g : s'.gens = s.gens) (o : s'.os = s.os) (hp : s.heap.objs.size ≤ p) (hg : s'.heap.get? p = some (seqObj "list" out c)) (hl : xs.length ≤ sizeLine) (r : Vals xs out.toList) :
    H p = none ∧ Inv X pins σ (upd H p (.lst xs)) s' := by
  have hn : H p = none := I.hok.fresh hp
  refine ⟨hn, ?_⟩
  have J : Inv X pins σ (upd H p (.lst xs)) { s with heap := s'.heap, gens := s'.gens, drawn := s'.drawn, toks := s'.toks } := I.call (ch := []) (Un.laid k hp hn) (I.hok.laid k hp ⟨hl, out.toList, c, r, hg⟩) (by rw [g]; exact I.bare) (fun _ z => nomatch z)
  have e : s' = { s with heap := s'.heap, gens := s'.gens, drawn := s'.drawn, toks := s'.toks } := by
    obtain ⟨_, _, _, _, _⟩ := s'
    obtain ⟨_, _, _, _, _⟩ := s
    cases o
    rfl
  rw [e]
  exact J
theorem ve_sortedSet (k : Bool) (hc : X.calm = true) (hg : Gl X "sorted") (hm : X.mg "sorted" = none) (hg2 : Gl X "set") (hm2 : X.mg "set" = none) (ha : VE X E a fa) (na : starEach [a] X.env = (false, eval a X.env) :: starEach [] X.env := by rfl) :
    VE X E (.Call (.Name "sorted" p) [.Call (.Name "set" p2) [a] [] q] [] pos) (v1 (srtSetD k) fa) := by
  refine ⟨fun pins s σ H Q I h => ?_⟩
  refine set_then (id := "sorted") (c := a) (T := fun _ _ => True) hc hg hm boot_sorted hg2 hm2 na (by decide) (by decide) I ?_
  obtain ⟨β, env, st, hE, hS, h⟩ := h
  have h2 : tV X.K X.mgw E fa σ H fun u H1 => ∃ d st1 β1, Ext β H β1 H1 ∧ Sim X.K X.mgw β1 st1 H1 ∧ Rep X.K H1 β1 d u ∧ Post X.K X.mgw (rD X.K) E β1 H1 Q (srtSetD k d st1) := tG_bind hE hS h fun d st1 β1 H1 u x1 s1 e1 r1 h1 => ⟨d, st1, β1, x1, s1, r1, h1⟩
  refine thn (ha.run pins s σ H _ I h2) fun v s1 ⟨u, H1, I1, rv, d, st1, β1, x1, S1, r1, h1⟩ => ?_
  unfold srtSetD at h1
  split at h1
  · rename_i ds ed
    split at h1
    · rename_i ns en
      obtain ⟨hl, h1⟩ := h1.ite
      have hk : keysOfD ds = some (ns.map Sum.inl) := by unfold keysOfD; rw [en]
      obtain ⟨l, rfl, hq⟩ := use_keys S1 r1 ed hk
      cases rv
      refine ⟨l, H1, _, rfl, I1, hq, by rw [List.length_map]; exact hl, fun hp' tk c sm hcl kp => ?_⟩
      have I2 : Inv X pins σ H1 { s1 with heap := hp', toks := tk } := I1.kept kp
      have mm : ∀ k, inK (ns.map Sum.inl) k = true ↔ k ∈ ns.map Sum.inl := fun k => inK_iff
      refine sorted_setM (outOk := fun out => ∃ ms, IntsAre out.toList ms ∧ ms = sortI (ddup ns)) sm (I2.ok.hd hc) (fun vs sb ks h1 h2 h3 h4 h5 h6 h7 P hP => ?_) fun s' pp out cc kk g o hpp hgt hout => ?_
      · obtain ⟨xs, hi, hx⟩ := ints_from vs (inl_of (xs := ns) h3 h4 fun k hk => (mm k).mp ((h6 k).mp hk))
        refine list_sort_treeAny h1 hi (by rw [h7]; exact Nat.le_trans hcl (Nat.le_trans (by rw [List.length_map]; exact hl) (by rw [sizeLine_eq]; decide))) fun out ms a1 a2 a3 => hP out ⟨ms, a1, sortI_set ?_ ?_ a3⟩
        · refine a2.nodup_iff.mpr ?_
          rw [← h3, hx] at h5
          exact List.Pairwise.of_map _ (fun _ _ hne e => hne (congrArg _ e)) h5
        · intro z
          rw [a2.mem_iff]
          have q1 := h6 (.inl z)
          rw [← h3, hx, mm] at q1
          simpa using q1
      · obtain ⟨ms, hi, rfl⟩ := hout
        have hz : ((sortI (ddup ns)).map V.int).length ≤ sizeLine := by
          rw [List.length_map, (sortI_perm _).length_eq]
          refine Nat.le_trans (ddup_len ns) (Nat.le_trans hl (by rw [sizeLine_eq]; decide))
        obtain ⟨hn, J⟩ := Inv.grown I2 kk g o hpp hgt hz (vals_of_ints hi)
        exact ⟨.ref pp, _, J, rfl, new_lst h1 S1 (reps_ints _) pp hn⟩
    · split at h1
      · rename_i en _ xs es
        obtain ⟨hl, h1⟩ := h1.ite
        have hk : keysOfD ds = some (xs.map Sum.inr) := by unfold keysOfD; rw [en, es]; rfl
        obtain ⟨l, rfl, hq⟩ := use_keys S1 r1 ed hk
        cases rv
        refine ⟨l, H1, _, rfl, I1, hq, by rw [List.length_map]; exact hl, fun hp' tk c sm hcl kp => ?_⟩
        have I2 : Inv X pins σ H1 { s1 with heap := hp', toks := tk } := I1.kept kp
        have mm : ∀ k, inK (xs.map Sum.inr) k = true ↔ k ∈ xs.map Sum.inr := fun k => inK_iff
        refine sorted_setM (outOk := fun out => ∃ ms, StrsAre out.toList ms ∧ ms = sortS (ddup xs)) sm (I2.ok.hd hc) (fun vs sb ks h1 h2 h3 h4 h5 h6 h7 P hP => ?_) fun s' pp out cc kk g o hpp hgt hout => ?_
        · obtain ⟨zs, hi, hx⟩ := strs_from vs (inr_of (xs := xs) h3 h4 fun k hk => (mm k).mp ((h6 k).mp hk))
          refine list_sort_treeKAny PyProof.Rows.strKind_oneLt h1 hi.keysOf (fun v1 v2 rest e => keyKind_strs (by rw [← e]; exact hi)) (by rw [h7]; exact Nat.le_trans hcl (Nat.le_trans (by rw [List.length_map]; exact hl) (by rw [sizeLine_eq]; decide))) fun st' b1 b2 => ?_
          obtain ⟨ms, a1, a2, a3⟩ := sorted_out_str hi b1 b2
          refine hP _ ⟨ms, a1, sortS_set ?_ ?_ a3⟩
          · refine a2.nodup_iff.mpr ?_
            rw [← h3, hx] at h5
            exact List.Pairwise.of_map _ (fun _ _ hne e => hne (congrArg _ e)) h5
          · intro z
            rw [a2.mem_iff]
            have q1 := h6 (.inr z)
            rw [← h3, hx, mm] at q1
            simpa using q1
        · obtain ⟨ms, hi, rfl⟩ := hout
          have hz : ((sortS (ddup xs)).map V.str).length ≤ sizeLine := by
            rw [List.length_map, (sortS_perm _).length_eq]
            refine Nat.le_trans (ddup_len xs) (Nat.le_trans hl (by rw [sizeLine_eq]; decide))
          obtain ⟨hn, J⟩ := Inv.grown I2 kk g o hpp hgt hz (vals_of_strs hi)
          exact ⟨.ref pp, _, J, rfl, new_lst h1 S1 (reps_strs _) pp hn⟩
      · exact h1.elim
  · exact h1.elim
end
end VL
set_option Elab.async false
set_option linter.all false
set_option maxRecDepth 100000
/-! The value layer: the module's dicts; calls of a def that a name holds; instances. -/
namespace VL
open PySem PySem.Spec PyProof.Rows L2 TB
/-! ### a dict of the module, with texts as keys -/
inductive Ents (K : PySem.W.Frag) : List DictEntry → List (Str × D) → Prop
  | nil : Ents K [] []
  | cons {e : DictEntry} {es : List DictEntry} {x : Str} {t : Tok} {v : V} {d : D} {ks : List (Str × D)} : e.key = .str x t → RelV v e.val → (∀ H β, Rep K H β d v) → Ents K es ks → Ents K (e :: es) ((x, d) :: ks)
@[simp] def lookS (kvs : List (Str × D)) (z : Str) : Option D := (kvs.find? fun p => decide (p.1 = z)).map (·.2)
theorem isStr_iff {x z : Str} {t : Tok} : (Value.str x t).isStr z = decide (x = z) := by
  by_cases e : x = z
  · subst e
    simp [Value.isStr]
  · simp [Value.isStr, e]
theorem Ents.find {K : PySem.W.Frag} (z : Str) : ∀ {es : List DictEntry} {ks : List (Str × D)}, Ents K es ks → es.any (·.refKey) = false ∧
    ((∃ d e v, lookS ks z = some d ∧ es.find? (·.key.isStr z) = some e ∧ RelV v e.val ∧ ∀ H β, Rep K H β d v) ∨ (lookS ks z = none ∧ es.find? (·.key.isStr z) = none))
  | _, _, .nil => ⟨rfl, .inr ⟨rfl, rfl⟩⟩
  | _, _, .cons (e := e) (x := x) (t := t) (v := v) (d := d) hk hv hr r => by
    obtain ⟨h1, h2⟩ := Ents.find z r
    refine ⟨?_, ?_⟩
    · rw [List.any_cons, h1]
      unfold DictEntry.refKey
      rw [hk]
      rfl
    · by_cases ez : x = z
      · refine .inl ⟨d, e, v, ?_, ?_, hv, hr⟩
        · simp [ez]
        · rw [List.find?_cons_of_pos (by rw [hk, isStr_iff]; exact decide_eq_true ez)]
      · have n1 : ∀ ks : List (Str × D), lookS ((x, d) :: ks) z = lookS ks z := fun ks => by simp [ez]
        have n2 : ¬ (e.key.isStr z = true) := by
          rw [hk, isStr_iff]
          simpa using ez
        rw [n1, List.find?_cons_of_neg (p := fun q : DictEntry => q.key.isStr z) n2]
        exact h2
/-- the module's name c holds a dict of these -/
structure CD (K : PySem.W.Frag) (w : World) (mg : Str → Option Value) (c : Str) (kvs : List (Str × D)) : Prop where
  ex : ∃ (d : Addr) (es : Array DictEntry) (n : Nat), mg c = some (.ref d) ∧ KDict K w d es n ∧ Ents K es.toList kvs
theorem CD.look {K : PySem.W.Frag} {w : World} {d : Addr} {es : Array DictEntry} {n : Nat} {kvs : List (Str × D)} (D : KDict K w d es n) (h : Ents K es.toList kvs) (z : Str) :
    (∃ dv u v, lookS kvs z = some dv ∧ PySem.W.nsIn K d z = some (some u) ∧ RelV v u ∧ ∀ H β, Rep K H β dv v) ∨ (lookS kvs z = none ∧ PySem.W.nsIn K d z = some none) := by
  obtain ⟨h1, h2⟩ := h.find z
  rcases h2 with ⟨dv, e, v, e1, e2, e3, e4⟩ | ⟨e1, e2⟩
  · refine .inl ⟨dv, e.val, v, e1, ?_, e3, e4⟩
    unfold PySem.W.nsIn
    rw [D.at_]
    dsimp only
    rw [e2]
  · refine .inr ⟨e1, ?_⟩
    unfold PySem.W.nsIn
    rw [D.at_]
    dsimp only
    rw [e2, h1]
    rfl
section
variable {X : Cx} {E : XK} {a b e : Expr} {fa fb : FE} {pos p : Pos} {c : Str} {kvs : List (Str × D)}
@[simp] def cixD (kvs : List (Str × D)) (y : D) (st : AS) : Out D := match y with
  | .str z => toOut (lookS kvs z) st
  | _ => .bad
@[simp] def cinD (neg : Bool) (kvs : List (Str × D)) (y : D) (st : AS) : Out D := match y with
  | .str z => .ok (.bl (xor neg (lookS kvs z).isSome)) st
  | _ => .bad
theorem ve_cix (C : CD X.K X.w X.mg c kvs) (hg : Gl X c) (hb : VE X E b fb) (hs : PlainIx b) (hd : (c == ("__debug__" : Str)) = false := by decide) : VE X E (.Subscript (.Name c p) b pos) (v1 (cixD kvs) fb) := by
  obtain ⟨d, es, n, hm, D, hE⟩ := C.ex
  refine weakE (pe_ix ix_kdict (pe_glob hg hm (show RelV (.ref d) (.ref d) from rfl) hd) hb hs) fun σ H Q ⟨β, env, st, he, hS, h⟩ => ?_
  refine tG_bind he hS h fun y st1 β1 H1 u x1 s1 e1 r1 h1 => ?_
  cases r1 with
  | str z =>
    obtain ⟨dv, ed, h1⟩ := h1.opt
    rcases CD.look D hE z with ⟨dv', u, v, q1, q2, q3, q4⟩ | ⟨q1, _⟩
    · rw [q1] at ed
      cases ed
      exact ⟨d, z, v, rfl, rfl, ⟨es, n, u, D.at_, D.lit, q2, q3⟩, h1.here s1 (q4 _ _)⟩
    · rw [q1] at ed
      cases ed
  | _ => exact h1.elim
theorem cin_use {neg : Bool} (f : Bool → Bool) (hf : ∀ b, xor neg b = f b) {d : Addr} {es : Array DictEntry} {n : Nat} (D : KDict X.K X.w d es n) (hE : Ents X.K es.toList kvs) {σ : L2.St} {H : Hp} {Q : VK} (h : tV X.K X.mgw E (v1 (cinD neg kvs) fa) σ H Q) :
    tV X.K X.mgw E fa σ H fun x H1 => ∃ (z : Str) (r : Option Value), x = .str z ∧ V.ref d = .ref d ∧ PySem.W.nsIn X.K d z = some r ∧ Q (.bl (f r.isSome)) H1 := by
  obtain ⟨β, env, st, he, hS, h⟩ := h
  refine tG_bind he hS h fun y st1 β1 H1 u x1 s1 e1 r1 h1 => ?_
  cases r1 with
  | str z =>
    have q := h1.here s1 (.bl _)
    rcases CD.look D hE z with ⟨dv', u, v, q1, q2, q3, q4⟩ | ⟨q1, q2⟩
    · rw [q1, hf] at q
      exact ⟨z, some u, rfl, rfl, q2, q⟩
    · rw [q1, hf] at q
      exact ⟨z, none, rfl, rfl, q2, q⟩
  | _ => exact h1.elim
theorem vt_cin (C : CD X.K X.w X.mg c kvs) (hg : Gl X c) (ha : VE X E a fa) (hd : (c == ("__debug__" : Str)) = false := by decide) (hm2 : behindInMarks .In (.Name c p) = false := by rfl) : VT X E (.Compare a [.In] [.Name c p] pos) (vB (v1 (cinD false kvs) fa)) := by
  obtain ⟨d, es, n, hm, D, hE⟩ := C.ex
  refine weakT (pt_cmpR (op_in_kd D) ha (pe_glob hg hm (show RelV (.ref d) (.ref d) from rfl) hd) hm2) fun σ H Q ⟨β, env, st, he, hs, h⟩ => ?_
  have h' : tV X.K X.mgw E (v1 (cinD false kvs) fa) σ H fun x H' => ∃ k, x = .bl k ∧ Q k H' := tG_bind he hs h fun x st1 β1 H1 u x1 s1 e1 r1 h1 => postB s1 r1 h1
  exact cin_use (fun b => b) (fun b => by cases b <;> rfl) D hE h'
/-! ### a name of the module as a value; a call of what a name holds -/
/-- the defs that may be meant, by their names -/
inductive Tbl (X : Cx) (k n : Nat) : List (Str × (List D → AS → Out D)) → Prop
  | nil : Tbl X k n []
  | cons {x : Str} {F : List D → AS → Out D} {r : List (Str × (List D → AS → Out D))} {f : Addr} {fd : FuncData} {ps : List Str} : PySem.W.nsIn X.K mainGlobals x = some (some (.ref f)) → PySem.W.keepIn X.K (.ref f) = true →
      FnG X.prog X.w X.K X.mg X.base (L2.CX X.prog X.w) k f fd ps (spV X.K X.mgw n F) → BindV X.K fd ps n [] [] ((List.range n).map .pos) → Tbl X k n r → Tbl X k n ((x, F) :: r)
@[simp] def lookF (T : List (Str × (List D → AS → Out D))) (x : Str) : Option (List D → AS → Out D) := (T.find? fun p => decide (p.1 = x)).map (·.2)
theorem Tbl.find {k n : Nat} {x : Str} {F : List D → AS → Out D} {f : Addr} (hx : PySem.W.nsIn X.K mainGlobals x = some (some (.ref f))) : ∀ {T : List (Str × (List D → AS → Out D))}, Tbl X k n T → lookF T x = some F → ∃ fd ps, PySem.W.keepIn X.K (.ref f) = true ∧ FnG X.prog X.w X.K X.mg X.base (L2.CX X.prog X.w) k f fd ps (spV X.K X.mgw n F) ∧ BindV X.K fd ps n [] [] ((List.range n).map .pos)
  | _, .nil, h => by cases h
  | _, .cons (x := y) (F := G) hy hk hF hb r, h => by
    by_cases e : y = x
    · subst e
      simp at h
      subst h
      rw [hy] at hx
      cases hx
      exact ⟨_, _, hk, hF, hb⟩
    · refine Tbl.find hx r ?_
      simpa [e] using h
@[simp] def vCallV (i n : Nat) (T : List (Str × (List D → AS → Out D))) (fs : En → AS → Out (List D)) (env : En) (st : AS) : Out D := match env[i]? with
  | some (some (.cv (.gl x))) => (match lookF T x with
    | some F => (fs env st).bind fun xs st => if xs.length = n then F xs st else .bad
    | none => .bad)
  | _ => .bad
/-! ### instances -/
@[simp] def memS (cs : List Str) (c : Str) : Bool := cs.any fun z => decide (z = c)
/-- e.f: of an instance of one of the classes cs -/
@[simp] def fldD (cs : List Str) (f : Str) (x : D) (st : AS) : Out D := match x with
  | .ref i => (match st[i]? with
    | some (.obj c fs) => if memS cs c = true then toOut (lookS fs f) st else .bad
    | _ => .bad)
  | _ => .bad
@[simp] def putFD (f : Str) (d : D) : List (Str × D) → List (Str × D)
  | [] => [(f, d)]
  | p :: r => if p.1 = f then (p.1, d) :: r else p :: putFD f d r
theorem RepF.put {K : PySem.W.Frag} {H : Hp} {β : Bt} {f : Str} {d : D} {u : V} (rd : Rep K H β d u) : ∀ {fs : List (Str × D)} {vs : List (Str × V)}, RepF K H β fs vs → RepF K H β (putFD f d fs) (putF f u vs)
  | [], [], _ => ⟨rfl, .cons rd .nil⟩
  | [], _ :: _, h => absurd (congrArg List.length h.1) (by simp)
  | _ :: _, [], h => absurd (congrArg List.length h.1) (by simp)
  | p :: fs, (g, v) :: vs, h => by
    obtain ⟨h1, h2⟩ := h
    simp only [List.map_cons, List.cons.injEq] at h1
    cases h2 with
    | cons r t =>
      obtain ⟨i1, i2⟩ := RepF.put rd (fs := fs) (vs := vs) ⟨h1.2, t⟩
      unfold putFD putF
      by_cases e : p.1 = f
      · have e' : g = f := h1.1.symm.trans e
        rw [if_pos e, if_pos e']
        exact ⟨by simp only [List.map_cons, h1.1, h1.2], .cons rd t⟩
      · have e' : ¬ g = f := fun z => e (h1.1.trans z)
        rw [if_neg e, if_neg e']
        exact ⟨by simp only [List.map_cons, h1.1, i1], .cons r i2⟩
theorem RepF.length {K : PySem.W.Frag} {H : Hp} {β : Bt} {fs : List (Str × D)} {vs : List (Str × V)} (h : RepF K H β fs vs) : vs.length = fs.length := by
  have := congrArg List.length h.1
  simpa using this.symm
/-- o.f = e -/
@[simp] def setF (cs : List Str) (f : Str) (x y : D) (st : AS) : Out Unit := match x with
  | .ref i => (match st[i]? with
    | some (.obj c fs) => if memS cs c = true ∧ fs.length < 1000 then .ok () (st.set i (.obj c (putFD f y fs))) else .bad
    | _ => .bad)
  | _ => .bad
@[simp] def sFldV (cs : List Str) (f : Str) (fo fe : FE) (env : En) (st : AS) : Fl := (fe env st).fl fun y st => (fo env st).fl fun x st => (setF cs f x y st).fl fun _ st => .nx env st
/-- o.f += e, o.f -= e: ints -/
@[simp] def clsOf (cs : List Str) (f : Str) (x : D) (st : AS) : Option (Str × D) := match x with
  | .ref i => (match st[i]? with
    | some (.obj c fs) => if memS cs c = true then (lookS fs f).map fun d => (c, d) else none
    | _ => none)
  | _ => none
@[simp] def sFldAugV (cs : List Str) (f : Str) (op : Int → Int → Int) (fo fe : FE) (env : En) (st : AS) : Fl := (fo env st).fl fun x st => match clsOf cs f x st with
  | some cd => (fe env st).fl fun b st => (iiD (fun i j => .int (op i j)) cd.2 b st).fl fun y st => (setF [cd.1] f x y st).fl fun _ st => .nx env st
  | none => .bad
/-- C(e, ..): the instance, then its __init__ -/
@[simp] def vMake (c : Str) (n : Nat) (ds : List D) (ss : List Src) (F : List D → AS → Out D) (fs : En → AS → Out (List D)) (env : En) (st : AS) : Out D := (fs env st).bind fun xs st => if xs.length = n then
  (F (asm (.ref st.length :: xs) [] ds ss) (st ++ [.obj c []])).bind fun r st' => (match r with
    | .non => .ok (.ref st.length) st'
    | _ => .bad) else .bad
end
end VL
set_option Elab.async false
set_option linter.all false
set_option maxRecDepth 100000
/-! The value layer: sorted(d), max and min with default. -/
namespace VL
open PySem PySem.Spec PyProof.Rows L2 TB
def intKeys : List (Key × D) → Option (List Int)
  | [] => some []
  | (.inl i, _) :: r => (intKeys r).map (i :: ·)
  | (.inr _, _) :: _ => none
def strKeys : List (Key × D) → Option (List Str)
  | [] => some []
  | (.inr i, _) :: r => (strKeys r).map (i :: ·)
  | (.inl _, _) :: _ => none
section
variable {X : Cx} {E : XK} {e : Expr} {es : List Expr} {fe : FE} {fs : En → AS → Out (List D)} {pos p : Pos}
@[simp] def sortKD (c : Bool) (x : D) (st : AS) : Out D := match dctOf st x with
  | some kvs => (match intKeys kvs with
    | some ns => if ns.length < 64 then mk c ((sortI ns).map D.int) st else .bad
    | none => (match strKeys kvs with
      | some xs => if xs.length < 64 then mk c ((sortS xs).map D.str) st else .bad
      | none => .bad))
  | none => .bad
/-! max(xs, default = d) -/
@[simp] def dfD (g : List Int → Int) (xs : List D) (d : D) (st : AS) : Out D := match xs with
  | [x] => (match listOf st x with
    | some ds => (match intsOf ds with
      | some ns => if ns = [] then .ok d st else .ok (.int (g ns)) st
      | none => .bad)
    | none => .bad)
  | _ => .bad
@[simp] def vMaxDf (fs : En → AS → Out (List D)) (fd : FE) (env : En) (st : AS) : Out D := (fs env st).bind fun xs st => (fd env st).bind fun d st => dfD maxI xs d st
@[simp] def vMinDf (fs : En → AS → Out (List D)) (fd : FE) (env : En) (st : AS) : Out D := (fs env st).bind fun xs st => (fd env st).bind fun d st => dfD minI xs d st
variable {d : Expr} {fd : FE} {kpos : Pos}
/-! ord -/
@[simp] def ordCD (x : D) (st : AS) : Out D := match x with
  | .str z => if z.length = 1 then .ok (.int (z.cps.getD 0 0 : Nat)) st else .bad
  | _ => .bad
/-! f() -/
end
end VL
set_option Elab.async false
set_option linter.all false
set_option maxRecDepth 100000
/-! Tools for the plain functions: what is told in the end, loops, comprehensions. -/
namespace VL
open PySem
/-- it comes to a good end, with Q -/
def Out.sat {α : Type} (o : Out α) (Q : α → AS → Prop) : Prop := ∃ a st, o = .ok a st ∧ Q a st
@[simp] theorem Out.sat_ok {α : Type} {a : α} {st : AS} {Q : α → AS → Prop} : (Out.ok a st).sat Q ↔ Q a st := ⟨fun ⟨_, _, e, q⟩ => by cases e; exact q, fun q => ⟨a, st, rfl, q⟩⟩
@[simp] theorem Out.sat_bad {α : Type} {Q : α → AS → Prop} : (Out.bad : Out α).sat Q ↔ False := ⟨fun ⟨_, _, e, _⟩ => (nomatch e), fun h => h.elim⟩
@[simp] theorem Out.sat_exc {α : Type} {c : Str} {fs : List (Str × D)} {st : AS} {Q : α → AS → Prop} : (Out.exc c fs st : Out α).sat Q ↔ False := ⟨fun ⟨_, _, e, _⟩ => (nomatch e), fun h => h.elim⟩
theorem Out.sat.mono {α : Type} {o : Out α} {Q R : α → AS → Prop} (h : o.sat Q) (f : ∀ a st, Q a st → R a st) : o.sat R := by
  obtain ⟨a, st, e, q⟩ := h
  exact ⟨a, st, e, f a st q⟩
/-- statements: they go on, return, break or continue, with Q -/
inductive Fk where
  | nx (env : En) | rt (d : D) | bk (env : En) | ct (env : En)
def Fl.sat (o : Fl) (Q : Fk → AS → Prop) : Prop := match o with
  | .nx env st => Q (.nx env) st
  | .rt d st => Q (.rt d) st
  | .bk env st => Q (.bk env) st
  | .ct env st => Q (.ct env) st
  | .exc _ _ _ => False
  | .bad => False
@[simp] theorem Fl.sat_nx {env : En} {st : AS} {Q : Fk → AS → Prop} : (Fl.nx env st).sat Q ↔ Q (.nx env) st := Iff.rfl
@[simp] theorem Fl.sat_rt {d : D} {st : AS} {Q : Fk → AS → Prop} : (Fl.rt d st).sat Q ↔ Q (.rt d) st := Iff.rfl
@[simp] theorem Fl.sat_bk {env : En} {st : AS} {Q : Fk → AS → Prop} : (Fl.bk env st).sat Q ↔ Q (.bk env) st := Iff.rfl
@[simp] theorem Fl.sat_ct {env : En} {st : AS} {Q : Fk → AS → Prop} : (Fl.ct env st).sat Q ↔ Q (.ct env) st := Iff.rfl
@[simp] theorem Fl.sat_bad {Q : Fk → AS → Prop} : (Fl.bad).sat Q ↔ False := Iff.rfl
theorem Fl.sat.mono {o : Fl} {Q R : Fk → AS → Prop} (h : o.sat Q) (f : ∀ k st, Q k st → R k st) : o.sat R := by
  cases o with
  | nx env st => exact f _ _ h
  | rt d st => exact f _ _ h
  | bk env st => exact f _ _ h
  | ct env st => exact f _ _ h
  | exc _ _ _ => exact h
  | bad => exact h
/-! ### loops -/
/-! ### comprehensions -/
theorem gd_nilOk {st : AS} : Gd.ok [] st := fun _ h => nomatch h
/-! ### frames -/
/-- but for cell i all that stood stands -/
structure But1 (i : Nat) (st st' : AS) : Prop where
  len : st.length ≤ st'.length
  at_ : ∀ j, j < st.length → j ≠ i → st'[j]? = st[j]?
theorem But1.refl (i : Nat) (st : AS) : But1 i st st := ⟨Nat.le_refl _, fun _ _ _ => rfl⟩
theorem But1.trans {i : Nat} {a b c : AS} (h : But1 i a b) (k : But1 i b c) : But1 i a c := ⟨Nat.le_trans h.len k.len, fun j hj hn => (k.at_ j (Nat.lt_of_lt_of_le hj h.len) hn).trans (h.at_ j hj hn)⟩
theorem But1.set (i : Nat) (st : AS) (c : C) : But1 i st (st.set i c) := ⟨by simp, fun j hj hn => by rw [List.getElem?_set_ne (Ne.symm hn)]⟩
theorem But1.push (i : Nat) (st : AS) (c : C) : But1 i st (st ++ [c]) := ⟨by simp, fun j hj hn => by rw [List.getElem?_append_left hj]⟩
end VL
set_option Elab.async false
set_option linter.all false
set_option maxRecDepth 100000
/-! Tools for the plain functions: slices. -/
namespace VL
open PySem
theorem sIx_pos (n d : Nat) (k : Int) (hk : 0 ≤ k) : HT.sIx n d (some k) = min k.toNat n := by
  show (if k < 0 then _ else _) = _
  rw [if_neg (by omega)]
theorem sIx_no (n d : Nat) : HT.sIx n d none = d := rfl
theorem cut_from {α : Type} (xs : List α) (k : Int) (hk : 0 ≤ k) : VL.cut xs (some k) none = xs.drop k.toNat := by
  unfold VL.cut
  rw [sIx_pos _ _ k hk, sIx_no]
  by_cases h : k.toNat ≤ xs.length
  · rw [Nat.min_eq_left h, List.take_of_length_le (by simp)]
  · rw [Nat.min_eq_right (by omega), List.drop_eq_nil_of_le (by omega), List.drop_eq_nil_of_le (by omega)]
    simp
theorem cut_to {α : Type} (xs : List α) (k : Int) (hk : 0 ≤ k) : VL.cut xs none (some k) = xs.take k.toNat := by
  unfold VL.cut
  rw [sIx_pos _ _ k hk, sIx_no, List.drop_zero, Nat.sub_zero]
  by_cases h : k.toNat ≤ xs.length
  · rw [Nat.min_eq_left h]
  · rw [Nat.min_eq_right (by omega), List.take_length, List.take_of_length_le (by omega)]
theorem ixN_pos {n : Nat} {i : Int} (h : 0 ≤ i) (h2 : i < n) : L2.ixN n i = some i.toNat := by
  unfold L2.ixN
  rw [if_pos h, if_pos h2]
theorem atI_pos {α : Type} {xs : List α} {i : Int} (h : 0 ≤ i) (h2 : i < xs.length) : L2.atI xs i = xs[i.toNat]? := by
  unfold L2.atI
  rw [ixN_pos h h2]
  rfl
theorem atI_last {α : Type} {xs : List α} (h : xs ≠ []) : L2.atI xs (-1) = xs.getLast? := by
  have hp := List.length_pos_iff.mpr h
  unfold L2.atI L2.ixN
  rw [if_neg (by omega), if_pos (by omega), List.getLast?_eq_getElem?]
  show xs[(-1 + (xs.length : Int)).toNat]? = _
  congr 1
  omega
end VL
set_option Elab.async false
set_option linter.all false
set_option maxRecDepth 100000
/-! The value layer: slots that nobody reads any more. -/
namespace VL
open PySem PySem.Spec PyProof.Rows L2 TB
/-- these slots are forgotten -/
@[simp] def killE : List Nat → En → En
  | [], env => env
  | i :: r, env => killE r (env.set i none)
def Fl.kill (ks : List Nat) : Fl → Fl
  | .nx env st => .nx (killE ks env) st
  | .bk env st => .bk (killE ks env) st
  | .ct env st => .ct (killE ks env) st
  | .rt d st => .rt d st
  | .exc c fs st => .exc c fs st
  | .bad => .bad
@[simp] theorem Fl.kill_nx (ks : List Nat) (env : En) (st : AS) : (Fl.nx env st).kill ks = .nx (killE ks env) st := rfl
@[simp] theorem Fl.kill_bk (ks : List Nat) (env : En) (st : AS) : (Fl.bk env st).kill ks = .bk (killE ks env) st := rfl
@[simp] theorem Fl.kill_ct (ks : List Nat) (env : En) (st : AS) : (Fl.ct env st).kill ks = .ct (killE ks env) st := rfl
@[simp] theorem Fl.kill_rt (ks : List Nat) (d : D) (st : AS) : (Fl.rt d st).kill ks = .rt d st := rfl
@[simp] theorem Fl.kill_exc (ks : List Nat) (c : Str) (fs : List (Str × D)) (st : AS) : (Fl.exc c fs st).kill ks = .exc c fs st := rfl
@[simp] theorem Fl.kill_bad (ks : List Nat) : (Fl.bad).kill ks = .bad := rfl
@[simp] def sKill (ks : List Nat) (f : En → AS → Fl) (env : En) (st : AS) : Fl := (f env st).kill ks
section
variable {K : PySem.W.Frag} {H : Hp} {β : Bt} {env : En} {σ : L2.St}
theorem EnvR.kill (e : EnvR K H β env σ) : ∀ ks : List Nat, EnvR K H β (killE ks env) σ := by
  intro ks
  induction ks generalizing env with
  | nil => exact e
  | cons i r ih =>
    refine ih (e.less (by simp) fun j d h => ?_)
    by_cases hj : j = i
    · subst hj
      have hl : j < env.length := by
        have := (List.getElem?_eq_some_iff.mp h).1
        simpa using this
      rw [List.getElem?_set_self hl] at h
      cases h
    · rw [List.getElem?_set_ne (Ne.symm hj)] at h
      exact h
end
section
variable {X : Cx} {E : XK} {s : Stmt} {ss : List Stmt} {f : En → AS → Fl}
theorem kill_post {K : PySem.W.Frag} {mg : MG} {β : Bt} {H : Hp} {De : Ends} (ks : List Nat) {o : Fl} (h : PostS K mg E β H De (o.kill ks)) : PostS K mg E β H De o := by
  cases o with
  | nx env st => exact fun β' H' σ' x S e => h β' H' σ' x S (e.kill ks)
  | bk env st => exact fun β' H' σ' x S e => h β' H' σ' x S (e.kill ks)
  | ct env st => exact fun β' H' σ' x S e => h β' H' σ' x S (e.kill ks)
  | rt d st => exact h
  | exc c fs st => exact h
  | bad => exact h
theorem vss_kill (ks : List Nat) (h : VSs X E ss f) : VSs X E ss (sKill ks f) :=
  weakSs h fun De σ H ⟨β, env, st, he, hs, h⟩ => ⟨β, env, st, he, hs, kill_post ks h⟩
end
end VL
set_option Elab.async false
set_option linter.all false
set_option maxRecDepth 100000
/-! The value layer: known tuples (made so; their index), dicts with such keys. -/
namespace VL
open PySem PySem.Spec PyProof.Rows L2 TB
section
variable {X : Cx} {E : XK} {o e : Expr} {es : List Expr} {fo fe : FE} {fs : En → AS → Out (List D)} {name : Str} {apos cpos pos : Pos} {id T : String}
/-! ### tuple(xs), the object known -/
def rTupF (K : PySem.W.Frag) : List V → Hp → VK → Prop := fun xs H Q => ∃ p ys, xs = [.ref p] ∧ SqL K H p ys ∧ ∀ l ob, H l = none → ob.dict = none → Q (.ref l) (upd H l (.frz ob (.tup ys)))
theorem call_tupF : CallR X (.type "tuple") (rTupF X.K) := by
  intro pins s σ H xs us Q I r h
  obtain ⟨p, ys, rfl, hq, q⟩ := h
  obtain ⟨u, rfl, rx⟩ := vals1 r
  cases rx
  obtain ⟨its, r', pl, hz⟩ := I.list hq
  have hlen := r'.length
  refine call_tuple_list pl.isList (fun h' kp => ?_) (by rw [List.size_toArray]; omega)
  have J : Inv X pins σ H { s with heap := h' } := I.kept (t' := s.toks) kp
  have J2 := J.laid (a := h'.objs.size) (o := .frz ({ cls := .type "tuple", data := .seq its.toArray } : Obj) (.tup ys)) (t' := s.toks) (h' := h'.push { cls := .type "tuple", data := .seq its.toArray })
    (fun b o z => Heap.get?_push_of_some _ z) (Nat.le_refl _) ⟨Heap.get?_push_size _ rfl, hz, its, r', IsTup.new _ _⟩
  exact ⟨.ref h'.objs.size, _, J2, rfl, q _ _ (J.hok.fresh (Nat.le_refl _)) rfl⟩
@[simp] def tupFD (x : D) (st : AS) : Out D := match listOf st x with
  | some ds => .ok (.ctp ds) st
  | none => .bad
theorem ob_tupF : OkB X E (.type "tuple") (g1 tupFD) := ⟨_, call_tupF, fun β H st xs us Q S r h => by
  obtain ⟨x, u, rfl, rx, h⟩ := g1_ok r h
  unfold tupFD at h
  split at h
  · rename_i ds e
    obtain ⟨p, us, rfl, hq, r⟩ := S.lists rx e
    refine ⟨p, us, rfl, hq, fun l ob hl hd => ?_⟩
    have sm : Same H (upd H l (.frz ob (.tup us))) := same_upd hl
    exact h β _ _ (Ext.same sm) (S.same sm) (.ctp (.inr ⟨S.fresh hl, ob, upd_same, hd⟩) (r.ext (Ext.same sm)))
  · exact h.elim⟩
/-! ### a method of a thing of a known kind -/
end
end VL
namespace VL
open PySem PySem.Spec PyProof.Rows L2 TB
section
variable {X : Cx} {E : XK} {o e e2 : Expr} {es : List Expr} {fo fe fi : FE} {fs : En → AS → Out (List D)} {name : Str} {apos cpos pos : Pos} {id T : String}
/-! ### t.index(x) of a known tuple of texts -/
@[simp] def tixD (x : D) (xs : List D) (st : AS) : Out D := match x, xs with
  | .ctp ds, [.str z] => (match strsOf ds with
    | some ys => if z ∈ ys then .ok (.int (ys.idxOf z : Nat)) st else .bad
    | none => .bad)
  | _, _ => .bad
def isCtp : D → Bool
  | .ctp _ => true
  | _ => false
@[simp] def vMT (g : D → List D → AS → Out D) (fo : FE) (fs : En → AS → Out (List D)) (env : En) (st : AS) : Out D := (fo env st).bind fun x st => if isCtp x = true then (fs env st).bind fun xs st => g x xs st else .bad
end
end VL
set_option Elab.async false
set_option linter.all false
set_option maxRecDepth 100000
/-! The value layer: dicts whose keys are known tuples. -/
namespace VL
open PySem PySem.Spec PyProof.Rows L2 TB
abbrev KF : List (List Key × V) → List (List Key × Addr × Value) → Prop := Paired fun p q => p.1 = q.1 ∧ RelV p.2 q.2.2
theorem KF.at {us : List (List Key × V)} {xs : List (List Key × Addr × Value)} (r : KF us xs) (k : List Key) : RelO (valV us k) ((atKey xs k).map (·.2)) := by
  induction r with
  | nil => exact True.intro
  | @cons p q ps qs h t ih =>
    by_cases e : p.1 = k
    · have b : atKey (q :: qs) k = some q.2 := by simp [atKey, List.find?_cons, h.1.symm.trans e]
      rw [valV_pos e, b]
      exact h.2
    · have e' : ¬ q.1 = k := fun z => e (h.1.trans z)
      have b : atKey (q :: qs) k = atKey qs k := by simp [atKey, List.find?_cons, e']
      rw [valV_neg e, b]
      exact ih
theorem KF.swap {us : List (List Key × V)} {xs : List (List Key × Addr × Value)} (r : KF us xs) (k : List Key) {y : V} {u : Value} (ry : RelV y u) : KF (us.map fun kv => if kv.1 = k then (kv.1, y) else kv) (xs.map (putAt k u)) := by
  induction r with
  | nil => exact .nil
  | @cons p q ps qs h t ih =>
    simp only [List.map_cons]
    refine .cons ?_ ih
    unfold putAt
    by_cases e : p.1 = k
    · rw [if_pos e, if_pos (h.1.symm.trans e)]
      exact ⟨h.1, ry⟩
    · rw [if_neg e, if_neg (fun z => e (h.1.trans z))]
      exact h
theorem KF.isSome {us : List (List Key × V)} {xs : List (List Key × Addr × Value)} (r : KF us xs) (k : List Key) : (us.any fun kv => decide (kv.1 = k)) = (atKey xs k).isSome := by
  rw [valV_any, (r.at k).isSome_eq, Option.isSome_map]
theorem KF.put {us : List (List Key × V)} {xs : List (List Key × Addr × Value)} (r : KF us xs) (k : List Key) {b : Addr} {y : V} {u : Value} (ry : RelV y u) : KF (putK us k y) (storedH xs k b u) := by
  unfold putK storedH
  rw [r.isSome k]
  by_cases q : (atKey xs k).isSome = true
  · rw [if_pos q, if_pos q]
    exact r.swap k ry
  · rw [if_neg q, if_neg q]
    exact Paired.snoc r ⟨rfl, ry⟩
section
variable {X : Cx} {pins : List (Addr × Obj)} {σ : L2.St} {H : Hp} {s : Shared} {a b : Addr} {us : List (List Key × V)} {bs : List Addr} {ks : List Key}
theorem key_sq (I : Inv X pins σ H s) (h : SqT X.K H b (ks.map kV)) : (tupleKind (mixKind X.prog X.w)).is s.heap ks b := by
  obtain ⟨its, r, ⟨o, h1, h2, n, h3⟩, _⟩ := I.tuple h
  exact ⟨o, its.toArray, n, h1, h2, h3, by simpa using items_are r⟩
/-- the dict at a: what it holds, where its keys stand -/
structure DFat (X : Cx) (H : Hp) (a : Addr) (us : List (List Key × V)) (bs : List Addr) : Prop where
  e : H a = some (dF X.w a us bs)
  keys : Paired (fun (p : List Key × V) b => SqT X.K H b (p.1.map kV)) us bs
theorem DFat.get (F : DFat X H a us bs) (I : Inv X pins σ H s) : us.length ≤ sizeLine ∧ (a == sysModules) = false ∧ ∃ xs, KF us xs ∧ xs.map (·.2.1) = bs ∧ s.heap.DictOfH (tupleKind (mixKind X.prog X.w)) a xs := by
  have ok : ObjOk X.prog X.w H s.heap a (dF X.w a us bs) := I.hok a _ F.e
  unfold dF at ok
  obtain ⟨⟨h1, h2, xs, h3, h4, h5, o, es, ep, h6, h7, h8, h9⟩, _⟩ := ok
  refine ⟨h1, h2, xs, h3, h4, o, es, ep, h6, h7, h8, h9, fun x hx => ?_, h5⟩
  have go : ∀ {us : List (List Key × V)} {xs : List (List Key × Addr × Value)} {bs : List Addr}, KF us xs → xs.map (·.2.1) = bs → Paired (fun (p : List Key × V) b => SqT X.K H b (p.1.map kV)) us bs → ∀ x ∈ xs, (tupleKind (mixKind X.prog X.w)).is s.heap x.1 x.2.1 := by
    intro us xs bs r
    induction r generalizing bs with
    | nil => intro _ _ x hx; cases hx
    | @cons p q ps qs h t ih =>
      intro e k x hx
      subst e
      cases k with
      | cons k1 k2 =>
        rcases List.mem_cons.mp hx with z | z
        · subst z
          rw [← h.1]
          exact key_sq I k1
        · exact ih rfl k2 x z
  exact go h3 h4 F.keys x hx
end
section
variable {X : Cx} {E : XK} {o e : Expr} {es : List Expr} {fo fe fi : FE} {fs : En → AS → Out (List D)} {apos cpos pos : Pos}
/-! {} -/
@[simp] def vDNewF (_ : En) (st : AS) : Out D := .ok (.ref st.length) (st ++ [.dtf []])
/-- what a cell of this kind has at a key -/
@[simp] def cellF (st : AS) (x : D) : Option (List (List Key × D)) := match x with
  | .ref i => (match st[i]? with
    | some (.dtf kvs) => some kvs
    | _ => none)
  | _ => none
@[simp] def keyF (y : D) : Option (List Key) := match y with
  | .ctp ks => keysD ks
  | _ => none
/-! d.get(k, x) -/
@[simp] def vGetF (fo : FE) (fs : En → AS → Out (List D)) (env : En) (st : AS) : Out D := (fo env st).bind fun x st => match cellF st x with
  | some _ => (fs env st).bind fun xs st => (match xs with
    | [y, z] => (match cellF st x, keyF y with
      | some kvs, some k => .ok ((valK kvs k).getD z) st
      | _, _ => .bad)
    | _ => .bad)
  | none => .bad
/-! d[k] -/
@[simp] def ixF (x y : D) (st : AS) : Out D := match cellF st x, keyF y with
  | some kvs, some k => toOut (valK kvs k) st
  | _, _ => .bad
/-! d[k] = v -/
@[simp] def putF' (o i v : D) (st : AS) : Out Unit := match o with
  | .ref n => (match cellF st o, keyF i with
    | some kvs, some k => if kvs.length < sizeLine then .ok () (st.set n (.dtf (putKD kvs k v))) else .bad
    | _, _ => .bad)
  | _ => .bad
@[simp] def kSubF (fo fi : En → AS → Out D) (d : D) (env : En) (st : AS) : Out En := (fo env st).bind fun o st => (fi env st).bind fun i st => (putF' o i d st).bind fun _ st => .ok env st
end
end VL
set_option Elab.async false
set_option linter.all false
set_option maxRecDepth 100000
set_option maxHeartbeats 1000000
namespace TB
open PySem PySem.Spec PyProof.Rows L2
/-! ### zip(t, u, l), two tuples and a list -/
end TB
set_option Elab.async false
set_option linter.all false
set_option maxRecDepth 100000
/-! The value layer: odds and ends for the texts written by program. -/
namespace VL
open PySem PySem.Spec PyProof.Rows L2 TB
theorem _root_.TB.FnG.up {P : Program} {w : World} {K : PySem.W.Frag} {mg : Str → Option Value} {base : Heap} {CX : CXT} {k k' : Nat} {f : Addr} {fd : FuncData} {ps : List Str} {sp : Sp} (F : FnG P w K mg base CX k f fd ps sp) (h : k ≤ k') : FnG P w K mg base CX k' f fd ps sp :=
  ⟨F.len, fun A hg hr => F.run A hg (hr.mono h)⟩
/-! ### zip of three: two tuples, and a tuple or a list -/
section
variable {K : PySem.W.Frag} {mg : MG} {β β' : Bt} {H H' : Hp} {st : AS}
abbrev tri (ds es fs : List D) : List D := (ds.zip (es.zip fs)).map fun p => .tup [p.1, p.2.1, p.2.2]
end
section
variable {X : Cx} {E : XK} {e e2 e3 : Expr} {fs : En → AS → Out (List D)} {pos p : Pos}
@[simp] def zip3D (xs : List D) (st : AS) : Out (List D × Gd) := match xs with
  | [d, e, f] => if isTupD d = true ∧ isTupD e = true then (match seqOf st d, seqOf st e, seqOf st f with
    | some ds, some es, some fs => .ok (tri ds es fs, gdOf d ds ++ (gdOf e es ++ gdOf f fs)) st
    | _, _, _ => .bad) else .bad
  | _ => .bad
end
end VL
set_option Elab.async false
set_option linter.all false
set_option maxRecDepth 100000
set_option maxHeartbeats 1000000
/-! Plain functions over typed things: dicts as lists of pairs; comprehensions and loops over lists of typed things. -/
namespace G
open PySem VL
section
variable {κ α β : Type} [DecidableEq κ]
def has (l : List (κ × α)) (k : κ) : Bool := l.any fun p => decide (p.1 = k)
def look (l : List (κ × α)) (k : κ) : Option α := (l.find? fun p => decide (p.1 = k)).map (·.2)
def put (l : List (κ × α)) (k : κ) (v : α) : List (κ × α) := if has l k = true then l.map fun p => if p.1 = k then (p.1, v) else p else l ++ [(k, v)]
theorem look_cons (p : κ × α) (l : List (κ × α)) (k : κ) : look (p :: l) k = if p.1 = k then some p.2 else look l k := by
  unfold look
  by_cases h : p.1 = k <;> simp [List.find?_cons, h]
@[simp] theorem look_nil (k : κ) : look ([] : List (κ × α)) k = none := rfl
@[simp] theorem has_nil (k : κ) : has ([] : List (κ × α)) k = false := rfl
theorem has_cons (p : κ × α) (l : List (κ × α)) (k : κ) : has (p :: l) k = (decide (p.1 = k) || has l k) := rfl
theorem has_look (l : List (κ × α)) (k : κ) : has l k = (look l k).isSome := by
  induction l with
  | nil => rfl
  | cons p l ih =>
    rw [has_cons, look_cons, ih]
    by_cases h : p.1 = k <;> simp [h]
theorem look_rep (l : List (κ × α)) (k : κ) (v : α) (j : κ) : look (l.map fun p => if p.1 = k then (p.1, v) else p) j = if j = k then (look l k).map fun _ => v else look l j := by
  induction l with
  | nil => by_cases h : j = k <;> simp [h]
  | cons p l ih =>
    rw [List.map_cons, look_cons, ih, look_cons, look_cons]
    by_cases hp : p.1 = k
    · by_cases hj : j = k
      · simp [hp, hj]
      · have : ¬ k = j := Ne.symm hj
        simp [hp, hj, this]
    · by_cases hj : j = k
      · simp [hp, hj]
      · simp [hp, hj]
theorem look_app (l : List (κ × α)) (k : κ) (v : α) (j : κ) : look (l ++ [(k, v)]) j = (look l j).or (if k = j then some v else none) := by
  induction l with
  | nil => simp [look_cons]
  | cons p l ih =>
    rw [List.cons_append, look_cons, ih, look_cons]
    by_cases hp : p.1 = j <;> simp [hp]
theorem look_put (l : List (κ × α)) (k : κ) (v : α) (j : κ) : look (put l k v) j = if j = k then some v else look l j := by
  unfold put
  rw [has_look]
  cases h : look l k with
  | none =>
    rw [if_neg (by simp), look_app]
    by_cases hj : j = k
    · subst hj
      simp [h]
    · have : ¬ k = j := Ne.symm hj
      simp [hj, this]
  | some u =>
    rw [if_pos (by simp), look_rep, h]
    rfl
theorem look_mem {l : List (κ × α)} {k : κ} {v : α} (h : look l k = some v) : (k, v) ∈ l := by
  induction l with
  | nil => cases h
  | cons p l ih =>
    rw [look_cons] at h
    by_cases hp : p.1 = k
    · rw [if_pos hp] at h
      cases h
      subst hp
      exact List.mem_cons_self
    · rw [if_neg hp] at h
      exact List.mem_cons_of_mem _ (ih h)
theorem put_keys (l : List (κ × α)) (k : κ) (v : α) : (put l k v).map (·.1) = if has l k = true then l.map (·.1) else l.map (·.1) ++ [k] := by
  unfold put
  split
  · rw [List.map_map]
    apply List.map_congr_left
    intro p _
    show (if p.1 = k then (p.1, v) else p).1 = p.1
    split <;> rfl
  · rw [List.map_append]
    rfl
theorem mem_keys {l : List (κ × α)} {k : κ} : has l k = true ↔ k ∈ l.map (·.1) := by
  unfold has
  rw [List.any_eq_true, List.mem_map]
  exact ⟨fun ⟨p, h1, h2⟩ => ⟨p, h1, of_decide_eq_true h2⟩, fun ⟨p, h1, h2⟩ => ⟨p, h1, decide_eq_true h2⟩⟩
theorem put_nodup {l : List (κ × α)} (h : (l.map (·.1)).Nodup) (k : κ) (v : α) : ((put l k v).map (·.1)).Nodup := by
  rw [put_keys]
  split
  · exact h
  · rename_i hk
    rw [List.nodup_append]
    refine ⟨h, by simp, fun a ha b hb => ?_⟩
    rw [List.mem_singleton.mp hb]
    rintro rfl
    exact hk (mem_keys.mpr ha)
end
/-! the same, told by values -/
section
variable {κ κ' α : Type} [DecidableEq κ] [DecidableEq κ'] (f : κ → κ') (g : α → D) (hf : ∀ a b, f a = f b → a = b)
def enK (l : List (κ × α)) : List (κ' × D) := l.map fun p => (f p.1, g p.2)
@[simp] theorem enK_nil : enK f g ([] : List (κ × α)) = [] := rfl
include hf
theorem enK_find (l : List (κ × α)) (k : κ) : (enK f g l).find? (fun kv => decide (kv.1 = f k)) = (l.find? fun p => decide (p.1 = k)).map fun p => (f p.1, g p.2) := by
  induction l with
  | nil => rfl
  | cons p l ih =>
    unfold enK at ih ⊢
    rw [List.map_cons, List.find?_cons, List.find?_cons, ih]
    by_cases h : p.1 = k
    · simp [h]
    · have : ¬ f p.1 = f k := fun z => h (hf _ _ z)
      simp [h, this]
theorem valK_enK (l : List (κ × α)) (k : κ) : valK (enK f g l) (f k) = (look l k).map g := by
  unfold valK look
  rw [enK_find f g hf, Option.map_map, Option.map_map]
  rfl
end
theorem inr_inj (a b : Str) (h : (Sum.inr a : L2.Key) = Sum.inr b) : a = b := Sum.inr.inj h
/-! comprehensions that change nothing -/
theorem comp_en {α : Type} {g : D → En → AS → Out En} {t : En → AS → Out Bool} {f : En → AS → Out D} {env : En} {gs : Gd} {st : AS} (e : α → D) (p : α → Bool) (h : α → D) (hg : gs.ok st) : ∀ (xs : List α),
    (∀ x ∈ xs, ∃ env1, g (e x) env st = .ok env1 st ∧ t env1 st = .ok (p x) st ∧ (p x = true → f env1 st = .ok (h x) st)) → compL g t f env gs (xs.map e) st = .ok ((xs.filter p).map h) st
  | [], _ => by rw [List.map_nil, compL, if_pos hg]; rfl
  | x :: xs, hx => by
    obtain ⟨env1, e1, e2, e3⟩ := hx x List.mem_cons_self
    have ih := comp_en e p h hg xs fun y hy => hx y (List.mem_cons_of_mem _ hy)
    rw [List.map_cons, compL, if_pos hg, e1]
    simp only [Out.ne_ok, Out.bind_ok, e2]
    cases z : p x with
    | false => simp [ih, z]
    | true => simp [ih, z, e3 z]
/-- without a condition -/
theorem comp_all {α : Type} {g : D → En → AS → Out En} {t : En → AS → Out Bool} {f : En → AS → Out D} {env : En} {gs : Gd} {st : AS} (e : α → D) (h : α → D) (hg : gs.ok st) (xs : List α)
    (hx : ∀ x ∈ xs, ∃ env1, g (e x) env st = .ok env1 st ∧ t env1 st = .ok true st ∧ f env1 st = .ok (h x) st) : compL g t f env gs (xs.map e) st = .ok (xs.map h) st := by
  have := comp_en (g := g) (t := t) (f := f) (env := env) e (fun _ => true) h hg xs fun x m => by
    obtain ⟨env1, e1, e2, e3⟩ := hx x m
    exact ⟨env1, e1, e2, fun _ => e3⟩
  rw [this, List.filter_eq_self.mpr (fun _ _ => rfl)]
/-! loops: a fold -/
theorem ok_nil {st : AS} : Gd.ok [] st := fun _ h => nomatch h
end G
set_option Elab.async false
set_option linter.all false
set_option maxRecDepth 100000
set_option maxHeartbeats 1000000
/-! Plain functions: what simp should know of equality, order, membership. -/
namespace G
open PySem VL
theorem eqv_ii (a b : Int) : eqvD (.int a) (.int b) = decide (a = b) := by
  simp [eqvD, D.py, PyData.eqv]
  by_cases h : a = b <;> simp [h]
theorem eqv_ss (a b : Str) : eqvD (.str a) (.str b) = decide (a = b) := by
  simp [eqvD, D.py, PyData.eqv]
  by_cases h : a = b <;> simp [h]
@[simp] theorem eq_ii (n : Bool) (a b : Int) (st : AS) : eqD n (.int a) (.int b) st = .ok (.bl (xor n (decide (a = b)))) st := by simp [eqD, scalD, eqv_ii]
@[simp] theorem eq_ss (n : Bool) (a b : Str) (st : AS) : eqD n (.str a) (.str b) st = .ok (.bl (xor n (decide (a = b)))) st := by simp [eqD, scalD, eqv_ss]
theorem eqv_ns (b : Str) : eqvD .non (.str b) = false := by simp [eqvD, D.py, PyData.eqv]
theorem eqv_sn (b : Str) : eqvD (.str b) .non = false := by simp [eqvD, D.py, PyData.eqv]
@[simp] theorem eq_ns (n : Bool) (b : Str) (st : AS) : eqD n .non (.str b) st = .ok (.bl n) st := by simp [eqD, scalD, eqv_ns]
@[simp] theorem eq_sn (n : Bool) (b : Str) (st : AS) : eqD n (.str b) .non st = .ok (.bl n) st := by simp [eqD, scalD, eqv_sn]
theorem all_str : ∀ xs : List Str, (xs.map D.str).all scalD = true
  | [] => rfl
  | x :: xs => by rw [List.map_cons, List.all_cons, all_str xs]; rfl
theorem any_str (x : Str) : ∀ xs : List Str, ((xs.map D.str).any fun d => eqvD d (.str x)) = decide (x ∈ xs)
  | [] => by simp
  | y :: ys => by
    rw [List.map_cons, List.any_cons, any_str x ys, eqv_ss]
    by_cases h : y = x
    · simp [h]
    · have h' : ¬ x = y := Ne.symm h
      simp [h, h']
/-- x in xs, texts -/
@[simp] theorem in_tup (n : Bool) (x : Str) (xs : List Str) (st : AS) : inD n (.str x) (.tup (xs.map D.str)) st = .ok (.bl (xor n (decide (x ∈ xs)))) st := by
  have h1 := all_str xs
  have h2 := any_str x xs
  simp only [inD, seqOf, scalD, h1, h2, Bool.and_self, if_true]
@[simp] theorem in_ctp (n : Bool) (x : Str) (xs : List Str) (st : AS) : inD n (.str x) (.ctp (xs.map D.str)) st = .ok (.bl (xor n (decide (x ∈ xs)))) st := by
  have h1 := all_str xs
  have h2 := any_str x xs
  simp only [inD, seqOf, scalD, h1, h2, Bool.and_self, if_true]
@[simp] theorem in_lst (n : Bool) (x : Str) (xs : List Str) (st : AS) : inD n (.str x) (.lst (xs.map D.str)) st = .ok (.bl (xor n (decide (x ∈ xs)))) st := by
  have h1 := all_str xs
  have h2 := any_str x xs
  simp only [inD, seqOf, VL.listOf, scalD, h1, h2, Bool.and_self, if_true]
@[simp] theorem ints_of : ∀ ns : List Int, intsOf (ns.map D.int) = some ns
  | [] => rfl
  | n :: ns => by rw [List.map_cons, intsOf, ints_of ns]; rfl
@[simp] theorem strs_of : ∀ ns : List Str, strsOf (ns.map D.str) = some ns := strsOf_map
@[simp] theorem sum_lst (ns : List Int) (st : AS) : sumD (.lst (ns.map D.int)) st = .ok (.int ns.sum) st := by simp [sumD, onInts, ints_of]
@[simp] theorem bls_of : ∀ ns : List Bool, blsOf (ns.map D.bl) = some ns
  | [] => rfl
  | n :: ns => by rw [List.map_cons, blsOf, bls_of ns]; rfl
@[simp] theorem all_lst (ns : List Bool) (st : AS) : onBls (fun bs => bs.all id) (.lst (ns.map D.bl)) st = .ok (.bl (ns.all id)) st := by simp [onBls, bls_of]
@[simp] theorem any_lst (ns : List Bool) (st : AS) : onBls (fun bs => bs.any id) (.lst (ns.map D.bl)) st = .ok (.bl (ns.any id)) st := by simp [onBls, bls_of]
theorem log_lt {m : Int} (h0 : 0 < m) (h : m < 4611686018427387904) : m.natAbs.log2 < 9000 := by
  have h1 : m.natAbs ≠ 0 := by omega
  have h2 : m.natAbs < 2 ^ 62 := by
    have : (2 : Nat) ^ 62 = 4611686018427387904 := by decide
    omega
  have h3 : m.natAbs.log2 < 62 := (Nat.log2_lt h1).mpr h2
  omega
@[simp] theorem atI_0 {α : Type} (a : α) (l : List α) : L2.atI (a :: l) 0 = some a := by rw [atI_pos (by decide) (by simp only [List.length_cons]; omega)]; rfl
@[simp] theorem atI_1 {α : Type} (a b : α) (l : List α) : L2.atI (a :: b :: l) 1 = some b := by rw [atI_pos (by decide) (by simp only [List.length_cons]; omega)]; rfl
@[simp] theorem atI_2 {α : Type} (a b c : α) (l : List α) : L2.atI (a :: b :: c :: l) 2 = some c := by rw [atI_pos (by decide) (by simp only [List.length_cons]; omega)]; rfl
@[simp] theorem atI_3 {α : Type} (a b c d : α) (l : List α) : L2.atI (a :: b :: c :: d :: l) 3 = some d := by rw [atI_pos (by decide) (by simp only [List.length_cons]; omega)]; rfl
@[simp] theorem atI_4 {α : Type} (a b c d e : α) (l : List α) : L2.atI (a :: b :: c :: d :: e :: l) 4 = some e := by rw [atI_pos (by decide) (by simp only [List.length_cons]; omega)]; rfl
@[simp] theorem gdOf_tup (ds es : List D) : gdOf (.tup ds) es = [] := rfl
@[simp] theorem gdOf_ctp (ds es : List D) : gdOf (.ctp ds) es = [] := rfl
@[simp] theorem gdOf_lst (ds es : List D) : gdOf (.lst ds) es = [] := rfl
@[simp] theorem gdOf_fzl (ds es : List D) : gdOf (.fzl ds) es = [] := rfl
@[simp] theorem gdOf_ref (i : Nat) (es : List D) : gdOf (.ref i) es = [(i, .lst es)] := rfl
theorem rng1_ok {j : Int} {st : AS} (h0 : -1000000000 ≤ j) (h : j ≤ 1000000000) : rng1 [.int j] st = .ok ((List.range j.toNat).map fun (k : Nat) => D.int (k : Int), []) st := by
  unfold rng1
  dsimp only
  rw [if_pos ⟨by omega, by omega⟩]
  simp [rngL]
end G
set_option Elab.async false
set_option linter.all false
set_option maxRecDepth 100000
set_option maxHeartbeats 1000000
/-! What is wanted of the rest, step by step: plain functions run by simp, the head alone. -/
namespace VL
open PySem
abbrev XQ := Str → List (Str × D) → AS → Prop
abbrev noX : XQ := fun _ _ _ => False
/-- marks: simp does not look into what a type leans on -/
inductive Mk2 {α : Type} (Q : α → AS → Prop) (X : XQ) : Type | mk
inductive Mk5 (N : En → AS → Prop) (R : D → AS → Prop) (B T : En → AS → Prop) (X : XQ) : Type | mk
/-- what simp leaves alone -/
inductive MkP (p : Prop) : Type | mk
abbrev Hold (p : Prop) (_ : MkP p := .mk) : Prop := p
def Out.wp {α : Type} (o : Out α) (Q : α → AS → Prop) (X : XQ) (_ : Mk2 Q X := .mk) : Prop := match o with
  | .ok a s => Q a s
  | .exc c fs s => X c fs s
  | .bad => False
def Fl.wp (o : Fl) (N : En → AS → Prop) (R : D → AS → Prop) (B T : En → AS → Prop) (X : XQ) (_ : Mk5 N R B T X := .mk) : Prop := match o with
  | .nx e s => N e s
  | .rt d s => R d s
  | .bk e s => B e s
  | .ct e s => T e s
  | .exc c fs s => X c fs s
  | .bad => False
section
variable {α β : Type} {Q : α → AS → Prop} {X : XQ} {N B T : En → AS → Prop} {R : D → AS → Prop} {env : En} {st : AS}
@[simp] theorem wp_ok {a : α} : (Out.ok a st).wp Q X = Q a st := rfl
@[simp] theorem wp_exc {c : Str} {fs : List (Str × D)} : (Out.exc c fs st : Out α).wp Q X = X c fs st := rfl
@[simp] theorem wp_bad : (Out.bad : Out α).wp Q X = False := rfl
@[simp] theorem wp_nx : (Fl.nx env st).wp N R B T X = N env st := rfl
@[simp] theorem wp_rt {d : D} : (Fl.rt d st).wp N R B T X = R d st := rfl
@[simp] theorem wp_bk : (Fl.bk env st).wp N R B T X = B env st := rfl
@[simp] theorem wp_ct : (Fl.ct env st).wp N R B T X = T env st := rfl
@[simp] theorem wp_fexc {c : Str} {fs : List (Str × D)} : (Fl.exc c fs st).wp N R B T X = X c fs st := rfl
@[simp] theorem wp_fbad : (Fl.bad).wp N R B T X = False := rfl
theorem wp_bind {o : Out β} {k : β → AS → Out α} : (o.bind k).wp Q X = o.wp (fun b s => (k b s).wp Q X) X := by cases o <;> rfl
theorem wp_ext {o : Out α} {Q' : α → AS → Prop} (h : ∀ a s, Q a s = Q' a s) : o.wp Q X = o.wp Q' X := by
  cases o with
  | ok a s => exact h a s
  | exc _ _ _ => rfl
  | bad => rfl
theorem wp_fl {o : Out β} {k : β → AS → Fl} : (o.fl k).wp N R B T X = o.wp (fun b s => (k b s).wp N R B T X) X := by cases o <;> rfl
theorem wp_ne {o : Out α} : o.ne.wp Q X = o.wp Q noX := by cases o <;> rfl
theorem wp_fseq {o : Fl} {g : En → AS → Fl} : (o.seq g).wp N R B T X = o.wp (fun e s => (g e s).wp N R B T X) R B T X := by cases o <;> rfl
theorem wp_turn {o : Fl} {g : En → AS → Fl} : (o.turn g).wp N R B T X = o.wp (fun e s => (g e s).wp N R B T X) R N (fun e s => (g e s).wp N R B T X) X := by cases o <;> rfl
theorem wp_kill {o : Fl} {ks : List Nat} : (o.kill ks).wp N R B T X = o.wp (fun e s => N (killE ks e) s) R (fun e s => B (killE ks e) s) (fun e s => T (killE ks e) s) X := by cases o <;> rfl
theorem wp_fin {o : Fl} {frz : Nat} {st0 : AS} {Q : D → AS → Prop} : (o.fin frz st0).wp Q X = o.wp (fun _ s => (ret frz st0 .non s).wp Q X) (fun d s => (ret frz st0 d s).wp Q X) (fun _ _ => False) (fun _ _ => False) X := by cases o <;> rfl
theorem wp_ite {p : Prop} [Decidable p] {a b : Out α} : (if p then a else b).wp Q X = ((p → a.wp Q X) ∧ (¬ p → b.wp Q X)) := by
  by_cases h : p <;> simp [h]
theorem wp_fite {p : Prop} [Decidable p] {a b : Fl} : (if p then a else b).wp N R B T X = ((p → a.wp N R B T X) ∧ (¬ p → b.wp N R B T X)) := by
  by_cases h : p <;> simp [h]
theorem Out.wp.mono {o : Out α} {Q' : α → AS → Prop} {X' : XQ} (h : o.wp Q X) (f : ∀ a s, Q a s → Q' a s) (g : ∀ c fs s, X c fs s → X' c fs s) : o.wp Q' X' := by
  cases o with
  | ok a s => exact f _ _ h
  | exc c fs s => exact g _ _ _ h
  | bad => exact h
theorem Out.wp.imp {o : Out α} {Q' : α → AS → Prop} (h : o.wp Q X) (f : ∀ a s, Q a s → Q' a s) : o.wp Q' X := h.mono f fun _ _ _ h => h
theorem Fl.wp.imp {o : Fl} {N' B' T' : En → AS → Prop} {R' : D → AS → Prop} (h : o.wp N R B T X) (hN : ∀ e s, N e s → N' e s) (hR : ∀ d s, R d s → R' d s) (hB : ∀ e s, B e s → B' e s) (hT : ∀ e s, T e s → T' e s) : o.wp N' R' B' T' X := by
  cases o with
  | nx e s => exact hN _ _ h
  | rt e s => exact hR _ _ h
  | bk e s => exact hB _ _ h
  | ct e s => exact hT _ _ h
  | exc c fs s => exact h
  | bad => exact h
/-- what is known of it is an equation -/
theorem Out.wp.eq {o : Out α} (h : o.wp Q noX) : ∃ a s, o = .ok a s ∧ Q a s := by
  cases o with
  | ok a s => exact ⟨a, s, rfl, h⟩
  | exc c fs s => exact h.elim
  | bad => exact h.elim
theorem wp_of {o : Out α} {a : α} {s : AS} (e : o = .ok a s) (h : Q a s) : o.wp Q X := by rw [e]; exact h
theorem Fl.wp.eq {o : Fl} (h : o.wp N (fun _ _ => False) (fun _ _ => False) (fun _ _ => False) noX) : ∃ e s, o = .nx e s ∧ N e s := by
  cases o with
  | nx e s => exact ⟨e, s, rfl, h⟩
  | _ => exact h.elim
theorem wp_cut {o : Out α} (Q' : α → AS → Prop) (h : o.wp Q' X) (g : ∀ a s, Q' a s → Q a s) : o.wp Q X := h.imp g
/-! the combinators -/
variable {f g : En → AS → Out D} {c t : En → AS → Out Bool} {p q : En → AS → Fl} {fs fk : En → AS → Out (List D)}
theorem wp_v1 {g : D → AS → Out α} : (v1 g f env st).wp Q X = (f env st).wp (fun a s => (g a s).wp Q X) X := wp_bind
theorem wp_v2 {h : D → D → AS → Out α} : (v2 h f g env st).wp Q X = (f env st).wp (fun a s => (g env s).wp (fun b s => (h a b s).wp Q X) X) X := by
  exact wp_bind.trans (wp_ext fun a s => wp_bind)
theorem wp_vB {Q : Bool → AS → Prop} : (vB f env st).wp Q X = (f env st).wp (fun a s => (asB a s).wp Q X) X := wp_bind
theorem wp_vNil {Q : List D → AS → Prop} : (vNil env st).wp Q X = Q [] st := rfl
theorem wp_vCons {Q : List D → AS → Prop} : (vCons f fs env st).wp Q X = (f env st).wp (fun a s => (fs env s).wp (fun r s => Q (a :: r) s) X) X := by
  exact wp_bind.trans (wp_ext fun a s => wp_bind)
theorem wp_vA {h : List D → AS → Out α} : (vA h fs env st).wp Q X = (fs env st).wp (fun a s => (h a s).wp Q X) X := wp_bind
theorem wp_vAnd {Q : Bool → AS → Prop} : (vAnd c t env st).wp Q X = (c env st).wp (fun b s => (if b = true then t env s else .ok false s).wp Q X) X := wp_bind
theorem wp_vOr {Q : Bool → AS → Prop} : (vOr c t env st).wp Q X = (c env st).wp (fun b s => (if b = true then .ok true s else t env s).wp Q X) X := wp_bind
theorem wp_vNot {Q : Bool → AS → Prop} : (vNot c env st).wp Q X = (c env st).wp (fun b s => Q (!b) s) X := wp_bind
theorem wp_vIfE {Q : D → AS → Prop} : (vIfE c f g env st).wp Q X = (c env st).wp (fun b s => (if b = true then f env s else g env s).wp Q X) X := wp_bind
theorem wp_vSl {Q : D → AS → Prop} {h : D → Option Int → Option Int → AS → Out D} {fl fh : En → AS → Out (Option Int)} : (vSl h f fl fh env st).wp Q X = (f env st).wp (fun x s => (fl env s).wp (fun l s => (fh env s).wp (fun z s => (h x l z s).wp Q X) X) X) X := by
  exact wp_bind.trans (wp_ext fun a s => wp_bind.trans (wp_ext fun b s => wp_bind))
theorem wp_vML {Q : D → AS → Prop} {h : D → List D → AS → Out D} : (vML h f fs env st).wp Q X = (f env st).wp (fun x s => (if (listOf s x).isSome = true then (fs env s).bind fun xs s => h x xs s else .bad).wp Q X) X := wp_bind
theorem wp_vMD {Q : D → AS → Prop} {h : D → List D → AS → Out D} : (vMD h f fs env st).wp Q X = (f env st).wp (fun x s => (if isDict s x = true then (fs env s).bind fun xs s => h x xs s else .bad).wp Q X) X := wp_bind
theorem wp_vCallA {Q : D → AS → Prop} {n m : Nat} {ds : List D} {ss : List Src} {F : List D → AS → Out D} : (vCallA n m ds ss F fs fk env st).wp Q X = (fs env st).wp (fun xs s => (fk env s).wp (fun zs s => (if xs.length = n ∧ zs.length = m then F (asm xs zs ds ss) s else .bad).wp Q X) X) X := by
  exact wp_bind.trans (wp_ext fun a s => wp_bind)
theorem wp_vLc {Q : D → AS → Prop} {k : Bool} {vs : List Nat} {fi : En → AS → Out (List D × Gd)} {h : D → En → AS → Out En} : (vLc k vs fi h t f env st).wp Q X = (fi env st).wp (fun p s => (if p.1.length ≤ sizeLine then (compL h t f (wipeD env vs) p.2 p.1 s).bind fun ys s => mk k ys s else .bad).wp Q X) X := wp_bind
theorem wp_vDisp {Q : D → AS → Prop} {prs : List (FE × FE)} : (vDisp prs env st).wp Q X = (vPs prs env st).wp (fun ps s => (gDisp ps s).wp Q X) X := wp_bind
theorem wp_vPs0 {Q : List (D × D) → AS → Prop} : (vPs [] env st).wp Q X = Q [] st := rfl
theorem wp_vPs1 {Q : List (D × D) → AS → Prop} {pr : FE × FE} {r : List (FE × FE)} : (vPs (pr :: r) env st).wp Q X = (pr.1 env st).wp (fun x s => (pr.2 env s).wp (fun y s => (vPs r env s).wp (fun ps s => Q ((x, y) :: ps) s) X) X) X := by
  show ((pr.1 env st).bind fun x s => (pr.2 env s).bind fun y s => (vPs r env s).bind fun ps s => Out.ok ((x, y) :: ps) s).wp Q X = _
  exact wp_bind.trans (wp_ext fun a s => wp_bind.trans (wp_ext fun b s => wp_bind))
theorem wp_kSub {Q : En → AS → Prop} {d : D} : (kSub f g d env st).wp Q X = (f env st).wp (fun o s => (g env s).wp (fun i s => (setD o i d s).wp (fun _ s => Q env s) X) X) X := by
  exact wp_bind.trans (wp_ext fun a s => wp_bind.trans (wp_ext fun b s => wp_bind))
theorem wp_kName {Q : En → AS → Prop} {d : D} {i : Nat} : (kName i d env st).wp Q X = Q (env.set i (some d)) st := rfl
theorem wp_seq : (sSeq p q env st).wp N R B T X = (p env st).wp (fun e s => (q e s).wp N R B T X) R B T X := wp_fseq
theorem wp_next : (sNext env st).wp N R B T X = N env st := rfl
theorem wp_sBreak : (sBreak env st).wp N R B T X = B env st := rfl
theorem wp_sCont : (sCont env st).wp N R B T X = T env st := rfl
theorem wp_expr : (sExpr f env st).wp N R B T X = (f env st).wp (fun _ s => N env s) X := wp_fl
theorem wp_ret : (sRet f env st).wp N R B T X = (f env st).wp (fun d s => R d s) X := wp_fl
theorem wp_if : (sIf c p q env st).wp N R B T X = (c env st).wp (fun b s => (if b = true then p env s else q env s).wp N R B T X) X := wp_fl
theorem wp_set {i : Nat} : (sSet i f env st).wp N R B T X = (f env st).wp (fun d s => N (env.set i (some d)) s) X := wp_fl
theorem wp_asg {h : D → En → AS → Out En} : (sAsg f h env st).wp N R B T X = (f env st).wp (fun d s => (h d env s).wp (fun e s => N e s) X) X := by
  exact wp_fl.trans (wp_ext fun a s => wp_fl)
theorem wp_par {i j : Nat} : (sPar i j fs env st).wp N R B T X = (fs env st).wp (fun ds s => (match ds with | [a, b] => Fl.nx ((env.set i (some a)).set j (some b)) s | _ => .bad).wp N R B T X) X := wp_fl
theorem wp_par3 {i j l : Nat} : (sPar3 i j l fs env st).wp N R B T X = (fs env st).wp (fun ds s => (match ds with | [a, b, c] => Fl.nx (((env.set i (some a)).set j (some b)).set l (some c)) s | _ => .bad).wp N R B T X) X := wp_fl
theorem wp_skill {ks : List Nat} : (sKill ks p env st).wp N R B T X = (p env st).wp (fun e s => N (killE ks e) s) R (fun e s => B (killE ks e) s) (fun e s => T (killE ks e) s) X := wp_kill
theorem wp_sfor {fi : En → AS → Out (List D × Gd)} {h : D → En → AS → Out En} : (sFor fi h p env st).wp N R B T X = (fi env st).wp (fun q s => (forL h p q.2 q.1 env s).wp N R B T X) X := wp_fl
theorem wp_vFn {Q : D → AS → Prop} {n frz : Nat} {ds : List D} : (vFn n frz p ds st).wp Q X = (p (ds.map some ++ List.replicate (n - ds.length) none) st).wp (fun _ s => (ret frz st .non s).wp Q X) (fun d s => (ret frz st d s).wp Q X) (fun _ _ => False) (fun _ _ => False) X := wp_fin
/-! loops -/
theorem wp_for {h : D → En → AS → Out En} {gs : Gd} (P : List D → En → AS → Prop) : ∀ (ds : List D) (env : En) (st : AS), P ds env st → (∀ ds env st, P ds env st → gs.ok st) →
    (∀ d ds env st, P (d :: ds) env st → (h d env st).wp (fun e s => (p e s).wp (fun e s => P ds e s) R (fun e s => N e s) (fun e s => P ds e s) X) X) →
    (∀ env st, P [] env st → N env st) → (forL h p gs ds env st).wp N R B T X
  | [], env, st, h0, hg, _, hf => by
    rw [forL, if_pos (hg _ _ _ h0)]
    exact hf env st h0
  | d :: ds, env, st, h0, hg, hs, hf => by
    rw [forL, if_pos (hg _ _ _ h0), wp_fl]
    refine (hs d ds env st h0).imp fun e s h1 => ?_
    rw [wp_turn]
    exact h1.imp (fun e s h => wp_for P ds e s h hg hs hf) (fun _ _ h => h) (fun _ _ h => h) (fun e s h => wp_for P ds e s h hg hs hf)
theorem wp_comp {h : D → En → AS → Out En} {gs : Gd} {Q : List D → AS → Prop} (P : List D → List D → AS → Prop) : ∀ (ds acc : List D) (st : AS), P ds acc st → (∀ ds acc st, P ds acc st → gs.ok st) →
    (∀ d ds acc st, P (d :: ds) acc st → (h d env st).wp (fun e s => (t e s).wp (fun b s => (b = true → (f e s).wp (fun y s => P ds (acc ++ [y]) s) noX) ∧ (b = false → P ds acc s)) noX) noX) →
    (∀ acc st, P [] acc st → Q acc st) → (compL h t f env gs ds st).wp (fun ys s => Q (acc ++ ys) s) X
  | [], acc, st, h0, hg, _, hf => by
    rw [compL, if_pos (hg _ _ _ h0)]
    simpa using hf acc st h0
  | d :: ds, acc, st, h0, hg, hs, hf => by
    rw [compL, if_pos (hg _ _ _ h0), wp_bind, wp_ne]
    refine (hs d ds acc st h0).mono (fun e s h1 => ?_) (fun _ _ _ h => h.elim)
    rw [wp_bind, wp_ne]
    refine h1.mono (fun b s h2 => ?_) (fun _ _ _ h => h.elim)
    cases b with
    | false => exact wp_comp P ds acc s (h2.2 rfl) hg hs hf
    | true =>
      rw [if_pos rfl, wp_bind, wp_ne]
      refine (h2.1 rfl).mono (fun y s h3 => ?_) (fun _ _ _ h => h.elim)
      rw [wp_bind]
      refine (wp_comp (Q := Q) P ds (acc ++ [y]) s h3 hg hs hf).imp fun ys s h4 => ?_
      simpa using h4
end
theorem wp_for0 {h : D → En → AS → Out En} {p : En → AS → Fl} {N B T : En → AS → Prop} {R : D → AS → Prop} {X : XQ} {ds : List D} {env : En} {st : AS} (P : List D → En → AS → Prop) (h0 : P ds env st)
    (hs : ∀ d ds env st, P (d :: ds) env st → (h d env st).wp (fun e s => (p e s).wp (fun e s => P ds e s) R (fun e s => N e s) (fun e s => P ds e s) X) X)
    (hf : ∀ env st, P [] env st → N env st) : (forL h p [] ds env st).wp N R B T X := wp_for P ds env st h0 (fun _ _ _ _ => gd_nilOk) hs hf
theorem wp_comp0 {h : D → En → AS → Out En} {t : En → AS → Out Bool} {f : En → AS → Out D} {env : En} {X : XQ} {Q : List D → AS → Prop} {ds : List D} {st : AS} (P : List D → List D → AS → Prop) (h0 : P ds [] st)
    (hs : ∀ d ds acc st, P (d :: ds) acc st → (h d env st).wp (fun e s => (t e s).wp (fun b s => (b = true → (f e s).wp (fun y s => P ds (acc ++ [y]) s) noX) ∧ (b = false → P ds acc s)) noX) noX)
    (hf : ∀ acc st, P [] acc st → Q acc st) : (compL h t f env [] ds st).wp Q X := by
  have := wp_comp (X := X) (Q := Q) P ds [] st h0 (fun _ _ _ _ => gd_nilOk) hs hf
  simp only [List.nil_append] at this
  exact this
/-! a range that is walked -/
def rgL (n j : Nat) : List D := ((List.range n).drop j).map fun (k : Nat) => D.int (k : Int)
theorem rgL_at {n j : Nat} {d : D} {ds : List D} (h : d :: ds = rgL n j) : j < n ∧ d = .int j ∧ ds = rgL n (j + 1) := by
  by_cases hj : j < n
  · have e : (List.range n).drop j = j :: (List.range n).drop (j + 1) := by
      rw [List.drop_eq_getElem_cons (by rw [List.length_range]; exact hj)]
      simp
    unfold rgL at h ⊢
    rw [e, List.map_cons] at h
    injection h with h1 h2
    exact ⟨hj, h1, h2⟩
  · unfold rgL at h
    rw [List.drop_eq_nil_of_le (by rw [List.length_range]; omega)] at h
    cases h
theorem rgL_0 {n : Nat} : (List.range n).map (fun (k : Nat) => D.int (k : Int)) = rgL n 0 := rfl
theorem rgL_end {n j : Nat} (h : [] = rgL n j) : n ≤ j := by
  by_cases hj : j < n
  · have : (rgL n j).length = n - j := by simp [rgL]
    rw [← h] at this
    simp at this
    omega
  · omega
/-! cells behind a part that is not looked at -/
section
variable {st X : AS} {L k : Nat} {c : C}
theorem tl_get (ln : st.length = L) : (st ++ X)[L + k]? = X[k]? := by
  rw [List.getElem?_append_right (by omega), ← ln]; congr 1; omega
theorem tl_get0 (ln : st.length = L) : (st ++ X)[L]? = X[0]? := tl_get (k := 0) ln
theorem tl_set (ln : st.length = L) : (st ++ X).set (L + k) c = st ++ X.set k c := by
  rw [List.set_append_right _ _ (by omega)]; congr 2; omega
theorem tl_set0 (ln : st.length = L) : (st ++ X).set L c = st ++ X.set 0 c := tl_set (k := 0) ln
theorem le_line {n : Nat} (h : n ≤ 16000000) : (n ≤ sizeLine) = True := eq_true (by rw [sizeLine_eq]; omega)
theorem lt_line {n : Nat} (h : n < 16000000) : (n < sizeLine) = True := eq_true (by rw [sizeLine_eq]; omega)
end
end VL
set_option Elab.async false
set_option linter.all false
set_option maxRecDepth 100000
set_option maxHeartbeats 2000000
namespace G
open PySem VL
abbrev d_PLACES : List (Str × D) := [("sit", D.ctp [.str "seat", .str "table"]), ("move", D.ctp [.str "seat", .str "table"]), ("join", D.ctp [.str "table", .str "other"]), ("go", D.ctp [.str "seat"]), ("ask", D.ctp [.str "dish", .str "item", .str "course", .str "seats"]), ("change", D.ctp [.str "dish", .str "item"]), ("fire", D.ctp [.str "table", .str "course"]), ("rush", D.ctp [.str "table", .str "course"]), ("serve", D.ctp [.str "dish"]), ("back", D.ctp [.str "dish"]), ("strike", D.ctp [.str "dish"]), ("pay", D.ctp [.str "seat", .str "pence"]), ("take", D.ctp [.str "seat", .str "other", .str "pence"]), ("even", D.ctp [.str "party"])]
abbrev d_LEAST_SEATS : List (Str × D) := [("seats", D.int 1), ("party", D.int 2)]
end G
set_option Elab.async false
set_option linter.all false
set_option maxRecDepth 100000
set_option maxHeartbeats 2000000
namespace G
open PySem VL
end G
set_option Elab.async false
set_option linter.all false
set_option maxRecDepth 100000
set_option maxHeartbeats 2000000
namespace G
open PySem VL
end G
set_option Elab.async false
set_option linter.all false
set_option maxRecDepth 100000
set_option maxHeartbeats 2000000
namespace G
open PySem VL
end G
set_option Elab.async false
set_option linter.all false
set_option maxRecDepth 100000
set_option maxHeartbeats 1000000
/-! What a dish costs; pence dealt. -/
namespace G
open PySem VL
abbrev Menu := List (Str × Int × List (Int × Int))
abbrev Offs := List (List Str × Int × Int × Int)
def ePr (p : Int × Int) : D := .tup [.int p.1, .int p.2]
def eRow (r : Str × Int × List (Int × Int)) : D := .tup [.str r.1, .int r.2.1, .tup (r.2.2.map ePr)]
def eMenu (m : Menu) : D := .tup (m.map eRow)
def eOff (o : List Str × Int × Int × Int) : D := .tup [.tup (o.1.map D.str), .int o.2.1, .int o.2.2.1, .int o.2.2.2]
def eOffs (o : Offs) : D := .tup (o.map eOff)
def rowOf (m : Menu) (item : Str) := m.find? fun r => decide (r.1 = item)
def pct (o : Offs) (item : Str) (minute : Int) : Int :=
  let ns := (o.filter fun x => decide (item ∈ x.1) && (decide (x.2.1 ≤ minute) && decide (minute < x.2.2.1))).map fun x => x.2.2.2
  if ns = [] then 0 else maxI ns
def lastP (r : Str × Int × List (Int × Int)) (minute : Int) : Option Int := ((r.2.2.filter fun p => decide (p.1 ≤ minute)).map (·.2)).getLast?
def costT (m : Menu) (o : Offs) (item : Str) (minute : Int) : Int := (((rowOf m item).bind fun r => lastP r minute).getD 0 * (100 - pct o item minute) + 100 - 1) / 100
/-- a house that can be reckoned with -/
structure OkMenu (m : Menu) : Prop where
  len : ∀ r ∈ m, r.2.2.length ≤ 1000000
  zero : ∀ r ∈ m, ∃ p, p ∈ r.2.2 ∧ p.1 = 0
structure OkOffs (o : Offs) : Prop where
  len : o.length ≤ 1000000
  pc : ∀ x ∈ o, 0 ≤ x.2.2.2 ∧ x.2.2.2 ≤ 100
end G
set_option Elab.async false
set_option linter.all false
set_option maxRecDepth 100000
set_option maxHeartbeats 1000000
namespace G
open PySem VL
/-! deal -/
def below (limit many hand : Int) : Int := (limit - hand + many - 1) / many
def dealT (pence : Int) (many : Nat) (begun : Int) : List Int := (List.range many).map fun (h : Nat) => below (begun + pence) many h - below begun many h
end G
set_option Elab.async false
set_option linter.all false
set_option maxRecDepth 100000
set_option maxHeartbeats 2000000
namespace G
open PySem VL
noncomputable def B__law_draw_ed7e : En → AS → Fl :=
    (sSeq (sAugS (vVar 0) (vC (.int 3)) (iiD fun a b => .int (a + b)) (vC (.int 1)))
    (sSeq (sIf (vB (v2 gtD (v2 ixD (vVar 0) (vC (.int 2))) (vC (.int 0)))) (sSeq (sSet 2 (v2 modD (v2 ixD (vVar 0) (vC (.int 2))) (vVar 1)))
    (sSeq (sAsg (v2 fdivD (v2 ixD (vVar 0) (vC (.int 2))) (vVar 1)) (kSub (vVar 0) (vC (.int 2))))
    (sRet (vVar 2)))) sNext)
    (sSeq (sSet 3 (vIfE (vB (v2 (eqD false) (v2 ixD (vVar 0) (vC (.int 0))) (vA (gLst false) vNil))) (vC (.int 7)) (v2 ixD (v2 ixD (vVar 0) (vC (.int 0))) (v2 modD (v2 ixD (vVar 0) (vC (.int 1))) (vA (g1 lenD) (vCons (v2 ixD (vVar 0) (vC (.int 0))) vNil))))))
    (sSeq (sAugS (vVar 0) (vC (.int 1)) (iiD fun a b => .int (a + b)) (vC (.int 1)))
    (sSeq (sIf (vAnd (vB (v2 geD (vVar 3) (v2 powD (vC (.int 10)) (vC (.int 18))))) (vB (v2 leD (v2 ixD (vVar 0) (vC (.int 1))) (vA (g1 lenD) (vCons (v2 ixD (vVar 0) (vC (.int 0))) vNil))))) (sSeq (sAsg (v2 fdivD (vVar 3) (vVar 1)) (kSub (vVar 0) (vC (.int 2))))
    (sRet (v2 modD (vVar 3) (vVar 1)))) sNext)
    (sSeq (sSet 4 (v2 ixD (vVar 0) (vC (.int 3))))
    (sSeq (sSet 5 (v2 modD (v2 (addD false) (v2 (addD false) (v2 modD (vVar 3) (vC (.int 2147483629))) (v2 (mulD false) (v2 (mulD false) (vC (.int 69621)) (vVar 4)) (vVar 4))) (v2 (mulD false) (vC (.int 7)) (vVar 4))) (vC (.int 2147483629))))
    (sSeq (sSet 5 (v2 modD (v2 (addD false) (v2 (mulD false) (vVar 5) (vVar 5)) (v2 (mulD false) (vC (.int 48271)) (vVar 4))) (vC (.int 2147483647))))
    (sSeq (sSet 5 (v2 modD (v2 (addD false) (v2 (mulD false) (vVar 5) (vVar 5)) (v2 (mulD false) (vC (.int 16807)) (vVar 4))) (vC (.int 2147483587))))
    (sRet (v2 modD (v2 fdivD (v2 modD (v2 (addD false) (v2 (mulD false) (vVar 5) (vVar 5)) (vVar 4)) (vC (.int 2147483629))) (vC (.int 131))) (vVar 1))))))))))))
noncomputable def F__law_draw_ed7e : List D → AS → Out D := vFn 6 0 B__law_draw_ed7e
end G
set_option Elab.async false
set_option linter.all false
set_option maxRecDepth 100000
set_option maxHeartbeats 2000000
namespace Kd
open PySem VL G
abbrev feedC (ns : List Int) (a b c : Int) : C := .lst [.lst (ns.map D.int), .int a, .int b, .int c]
theorem scal_lst (ds : List D) : scalD (.lst ds) = false := rfl
theorem pures_ints : ∀ ns : List Int, D.pures (ns.map D.int) = true
  | [] => by simp [D.pures]
  | n :: ns => by simp [D.pures, D.pure, pures_ints ns]
theorem pys_ints : ∀ ns : List Int, PyData.canLayAll0 (D.pys (ns.map D.int)) = true ∧ PyData.depthAll (D.pys (ns.map D.int)) = 0
  | [] => by simp [D.pys, PyData.canLayAll0, PyData.depthAll]
  | n :: ns => by simp [D.pys, D.py, PyData.canLayAll0, PyData.canLay0, PyData.depthAll, PyData.depth, pys_ints ns]
theorem fit_ints (ns : List Int) : (D.lst (ns.map D.int)).fit = true := by
  unfold D.fit
  rw [Bool.and_eq_true]
  refine ⟨by rw [D.pure]; exact pures_ints ns, ?_⟩
  rw [D.py]
  unfold SeqAt.shaped
  simp [PyData.canLay0, PyData.depth, pys_ints ns]
theorem eqv_nil (ns : List Int) : eqvD (.lst (ns.map D.int)) (.lst []) = decide (ns = []) := by
  unfold eqvD
  rw [D.py, D.py]
  cases ns with
  | nil => simp [D.pys, PyData.eqv, PyData.eqvAll]
  | cons n r => simp [D.pys, PyData.eqv, PyData.eqvAll]
theorem fit_nil : (D.lst []).fit = true := fit_ints []
def mix (z t : Int) : Int :=
  (((((z % 2147483629 + 69621 * t * t + 7 * t) % 2147483629 * ((z % 2147483629 + 69621 * t * t + 7 * t) % 2147483629) + 48271 * t) % 2147483647 * (((z % 2147483629 + 69621 * t * t + 7 * t) % 2147483629 * ((z % 2147483629 + 69621 * t * t + 7 * t) % 2147483629) + 48271 * t) % 2147483647) + 16807 * t) % 2147483587 * ((((z % 2147483629 + 69621 * t * t + 7 * t) % 2147483629 * ((z % 2147483629 + 69621 * t * t + 7 * t) % 2147483629) + 48271 * t) % 2147483647 * (((z % 2147483629 + 69621 * t * t + 7 * t) % 2147483629 * ((z % 2147483629 + 69621 * t * t + 7 * t) % 2147483629) + 48271 * t) % 2147483647) + 16807 * t) % 2147483587) + t) % 2147483629) / 131
theorem draw_eq {i : Nat} {ns : List Int} {a b c m : Int} {st : AS} (h : st[i]? = some (feedC ns a b c)) (hm : 0 < m) (hm2 : m < 2 ^ 62) (ha : 0 ≤ a) (hc : 0 ≤ c) (hcT : c < 2 ^ 60) :
    ∃ r a' b', F__law_draw_ed7e [.ref i, .int m] st = .ok (.int r) (st.set i (feedC ns a' b' (c + 1))) ∧ 0 ≤ r ∧ r < m ∧ 0 ≤ a' := by
  have hl : i < st.length := (List.getElem?_eq_some_iff.mp h).1
  have g : ∀ x : C, (st.set i x)[i]? = some x := fun x => List.getElem?_set_self hl
  have lg : m.natAbs.log2 < 9000 := Nat.lt_of_le_of_lt (Nat.log2_lt (show m.natAbs ≠ 0 by omega) |>.mpr (show m.natAbs < 2 ^ 62 by omega) |> Nat.le_of_lt) (by decide)
  by_cases hb : b > 0
  · refine ⟨b % m, a, b / m, ?_, Int.emod_nonneg _ (by omega), Int.emod_lt_of_pos _ hm, ha⟩
    have hd : L2.CDivW b m := ⟨hm, lg⟩
    simp [F__law_draw_ed7e, B__law_draw_ed7e, h, g, hb, hm, hd, L2.ixN, L2.atI]
  · have hb' : ¬ 0 < b := hb
    have t1 : (-18446744073709551616 : Int) < c + 1 ∧ c + 1 < 18446744073709551616 := by omega
    have mo : ∀ x y : Int, 0 ≤ x → x < 2 ^ 62 → VL.MulOk x y := fun x y h1 h2 => .inl (.inl ⟨by omega, by omega⟩)
    have mo2 : ∀ x : Int, VL.MulOk x (c + 1) := fun x => .inl (.inr ⟨by omega, by omega⟩)
    have md : ∀ x : Int, 0 ≤ x % 2147483629 ∧ x % 2147483629 < 2 ^ 62 := fun x => ⟨Int.emod_nonneg _ (by decide), by have := Int.emod_lt_of_pos x (show (0 : Int) < 2147483629 by decide); omega⟩
    have md2 : ∀ x : Int, 0 ≤ x % 2147483647 ∧ x % 2147483647 < 2 ^ 62 := fun x => ⟨Int.emod_nonneg _ (by decide), by have := Int.emod_lt_of_pos x (show (0 : Int) < 2147483647 by decide); omega⟩
    have md3 : ∀ x : Int, 0 ≤ x % 2147483587 ∧ x % 2147483587 < 2 ^ 62 := fun x => ⟨Int.emod_nonneg _ (by decide), by have := Int.emod_lt_of_pos x (show (0 : Int) < 2147483587 by decide); omega⟩
    have pw : L2.CPow 10 18 := ⟨by decide, by decide, by decide⟩
    have dv : ∀ x : Int, L2.CDivW x 131 := fun x => ⟨by decide, by decide⟩
    have dm : ∀ x : Int, L2.CDivW x m := fun x => ⟨hm, lg⟩
    have a1 : ∀ x : Int, VL.MulOk (x % 2147483629) (x % 2147483629) := fun x => mo _ _ (md x).1 (md x).2
    have a2 : ∀ x : Int, VL.MulOk (x % 2147483647) (x % 2147483647) := fun x => mo _ _ (md2 x).1 (md2 x).2
    have a3 : ∀ x : Int, VL.MulOk (x % 2147483587) (x % 2147483587) := fun x => mo _ _ (md3 x).1 (md3 x).2
    by_cases e : ns = []
    · subst e
      have := fit_nil
      refine ⟨mix 7 (c + 1) % m, a + 1, b, ?_, Int.emod_nonneg _ (by omega), Int.emod_lt_of_pos _ hm, by omega⟩
      simp [F__law_draw_ed7e, B__law_draw_ed7e, h, g, hb', hm, L2.ixN, L2.atI, eqD, scal_lst, this, eqvD, D.py, D.pys, PyData.eqv, PyData.eqvAll, pw, mo2, a1, a2, a3, dv, mix, feedC]
    · have hp : 0 < ns.length := List.length_pos_iff.mpr e
      have h1 := Int.emod_nonneg a (show (ns.length : Int) ≠ 0 by omega)
      have h2 := Int.emod_lt_of_pos a (show (0 : Int) < ns.length by omega)
      have hp' : (0 : Int) < ns.length := by omega
      have hlt : (a % ns.length).toNat < ns.length := by omega
      by_cases q1 : (1000000000000000000 : Int) ≤ ns[(a % ns.length).toNat]
      · by_cases q2 : a + 1 ≤ ns.length
        · refine ⟨ns[(a % ns.length).toNat] % m, a + 1, ns[(a % ns.length).toNat] / m, ?_, Int.emod_nonneg _ (by omega), Int.emod_lt_of_pos _ hm, by omega⟩
          simp [F__law_draw_ed7e, B__law_draw_ed7e, h, g, hb', hm, L2.ixN, L2.atI, eqD, scal_lst, fit_ints ns, fit_nil, eqv_nil ns, e, hp, hp', h1, h2, pw, mo2, a1, a2, a3, dv, dm, q1, q2, feedC]
        · refine ⟨mix ns[(a % ns.length).toNat] (c + 1) % m, a + 1, b, ?_, Int.emod_nonneg _ (by omega), Int.emod_lt_of_pos _ hm, by omega⟩
          simp [F__law_draw_ed7e, B__law_draw_ed7e, h, g, hb', hm, L2.ixN, L2.atI, eqD, scal_lst, fit_ints ns, fit_nil, eqv_nil ns, e, hp, hp', h1, h2, pw, mo2, a1, a2, a3, dv, dm, q1, q2, mix, feedC]
      · refine ⟨mix ns[(a % ns.length).toNat] (c + 1) % m, a + 1, b, ?_, Int.emod_nonneg _ (by omega), Int.emod_lt_of_pos _ hm, by omega⟩
        simp [F__law_draw_ed7e, B__law_draw_ed7e, h, g, hb', hm, L2.ixN, L2.atI, eqD, scal_lst, fit_ints ns, fit_nil, eqv_nil ns, e, hp, hp', h1, h2, pw, mo2, a1, a2, a3, dv, dm, q1, mix, feedC]
end Kd
set_option Elab.async false
set_option linter.all false
set_option maxRecDepth 100000
set_option maxHeartbeats 2000000
namespace Kd
open PySem VL G
def letter (c : Nat) : Bool := decide (97 ≤ c) && decide (c ≤ 122)
def wordS (x : Str) : Bool := decide (1 ≤ x.length) && (decide (x.length ≤ 8) && x.cps.toList.all letter)
theorem bls_map {α : Type} (f : α → Bool) : ∀ l : List α, blsOf (l.map fun c => D.bl (f c)) = some (l.map f)
  | [] => rfl
  | x :: l => by rw [List.map_cons, blsOf, bls_map f l]; rfl
end Kd
set_option Elab.async false
set_option linter.all false
set_option maxRecDepth 100000
set_option maxHeartbeats 1000000
namespace TB
open PySem PySem.Spec PyProof.Rows L2
/-! ### how large a thing is, and what stands at its ends -/
def asc (z : Str) : Prop := ∀ c ∈ z.cps.toList, c < 128
mutual
def sz : PyData → Nat
  | .tuple xs => 1 + szs xs
  | .list xs => 1 + szs xs
  | _ => 1
def szs : List PyData → Nat
  | [] => 0
  | x :: xs => sz x + szs xs
end
mutual
def Ats (j : Nat) : PyData → Prop
  | .none => True
  | .bool _ => True
  | .int i => i.natAbs < 2 ^ (700 + j)
  | .str z => asc z ∧ z.length ≤ 20 + j
  | .tuple xs => AtsL j xs
  | .list xs => AtsL j xs
  | .dict _ => False
def AtsL (j : Nat) : List PyData → Prop
  | [] => True
  | x :: xs => Ats j x ∧ AtsL j xs
end
theorem atsL_iff {j : Nat} : ∀ {ds : List PyData}, AtsL j ds ↔ ∀ d ∈ ds, Ats j d
  | [] => ⟨fun _ d h => (by cases h), fun _ => by simp [AtsL]⟩
  | d :: ds => by
    simp only [AtsL, List.mem_cons, forall_eq_or_imp]
    rw [atsL_iff (ds := ds)]
theorem Ats.tup {j : Nat} {ds : List PyData} : Ats j (.tuple ds) ↔ ∀ d ∈ ds, Ats j d := by
  simp only [Ats]
  exact atsL_iff
theorem Ats.lst {j : Nat} {ds : List PyData} : Ats j (.list ds) ↔ ∀ d ∈ ds, Ats j d := by
  simp only [Ats]
  exact atsL_iff
mutual
theorem Ats.mono {i j : Nat} (h : i ≤ j) : ∀ (d : PyData), Ats i d → Ats j d
  | .none, _ => by simp [Ats]
  | .bool _, _ => by simp [Ats]
  | .int n, a => by
    simp only [Ats] at a ⊢
    exact Nat.lt_of_lt_of_le a (Nat.pow_le_pow_right (by decide) (by omega))
  | .str z, a => by
    simp only [Ats] at a ⊢
    exact ⟨a.1, by omega⟩
  | .tuple xs, a => by
    simp only [Ats] at a ⊢
    exact AtsL.mono h xs a
  | .list xs, a => by
    simp only [Ats] at a ⊢
    exact AtsL.mono h xs a
  | .dict _, a => by simp [Ats] at a
theorem AtsL.mono {i j : Nat} (h : i ≤ j) : ∀ (ds : List PyData), AtsL i ds → AtsL j ds
  | [], _ => by simp [AtsL]
  | d :: ds, a => by
    simp only [AtsL] at a ⊢
    exact ⟨Ats.mono h d a.1, AtsL.mono h ds a.2⟩
end
theorem sz_pos (d : PyData) : 1 ≤ sz d := by
  cases d <;> simp [sz]
theorem szs_mem : ∀ {ds : List PyData} {d : PyData}, d ∈ ds → sz d ≤ szs ds
  | x :: ds, d, h => by
    simp only [szs]
    rcases List.mem_cons.mp h with rfl | h
    · omega
    · have := szs_mem h
      omega
theorem szs_len : ∀ (ds : List PyData), ds.length ≤ szs ds
  | [] => Nat.le_refl _
  | x :: ds => by
    have := szs_len ds
    have := sz_pos x
    simp only [szs, List.length_cons]
    omega
theorem sz_tup (ds : List PyData) : sz (.tuple ds) = 1 + szs ds := by simp [sz]
theorem sz_lst (ds : List PyData) : sz (.list ds) = 1 + szs ds := by simp [sz]
theorem dep_tup (ds : List PyData) : PyData.depth (.tuple ds) = PyData.depthAll ds + 1 := by simp only [PyData.depth]
theorem dep_lst (ds : List PyData) : PyData.depth (.list ds) = PyData.depthAll ds + 1 := by simp only [PyData.depth]
theorem dep_all {k : Nat} : ∀ {ds : List PyData}, PyData.depthAll ds ≤ k ↔ ∀ d ∈ ds, PyData.depth d ≤ k
  | [] => ⟨fun _ d h => (by cases h), fun _ => by simp [PyData.depthAll]⟩
  | x :: ds => by
    simp only [PyData.depthAll, List.mem_cons, forall_eq_or_imp]
    rw [← dep_all (ds := ds)]
    omega
theorem sh_big {i : Int} (h : i.natAbs < 2 ^ 1900) : Sh 0 1921 (.int i) := by
  have hl : i.natAbs.log2 < 1920 := by
    by_cases h0 : i.natAbs = 0
    · rw [h0]; decide
    · exact (Nat.log2_lt h0).2 (Nat.lt_of_lt_of_le h (Nat.pow_le_pow_right (by decide) (by decide)))
  refine ⟨by simp only [PyData.showable, decide_eq_true_eq]; exact hl, by simp only [PyData.hasDict], by simp [PyData.depth], ?_⟩
  simp only [PyData.shown]
  exact int_text_len_1921 hl
theorem sh_txt {z : Str} (a : asc z) : Sh 0 (10 * z.length + 2) (.str z) := by
  refine ⟨rfl, rfl, by simp [PyData.depth], ?_⟩
  simp only [PyData.shown]
  exact StrLaws.reprText_len z fun c hc => Nat.lt_of_lt_of_le (a c hc) (by decide)
mutual
theorem ats_sh {j : Nat} (hj : j ≤ 100) : ∀ d : PyData, Ats j d → d.showable = true ∧ d.hasDict = false ∧ d.shown.length + 10 ≤ 2000 * sz d ∧ PyData.canLay0 d = true
  | .none, _ => by
    refine ⟨rfl, rfl, ?_, rfl⟩
    simp only [sz]
    decide
  | .bool b, _ => by
    refine ⟨rfl, rfl, ?_, rfl⟩
    simp only [sz]
    cases b <;> decide
  | .int i, a => by
    simp only [Ats] at a
    have s := sh_big (Nat.lt_of_lt_of_le a (Nat.pow_le_pow_right (show 0 < 2 by decide) (show 700 + j ≤ 1900 by omega)))
    refine ⟨s.sh, s.nd, ?_, rfl⟩
    have := s.ln
    simp only [sz]
    omega
  | .str z, a => by
    simp only [Ats] at a
    have s := sh_txt a.1
    refine ⟨s.sh, s.nd, ?_, ?_⟩
    · have := s.ln
      simp only [sz]
      omega
    · show PyData.strOk z = true
      unfold PyData.strOk
      simp only [Array.all_eq_true, Bool.and_eq_true]
      first
        | (intro i hi
           have := a.1 z.cps[i] (by simp)
           simp
           omega)
        | (have h := a.1
           simp
           omega)
  | .tuple xs, a => by
    simp only [Ats] at a
    obtain ⟨p, q, r, s, t⟩ := ats_shs hj xs a
    refine ⟨by simp only [PyData.showable, p], by simp only [PyData.hasDict, q], ?_, by simp only [PyData.canLay0, t]⟩
    simp only [PyData.shown, sz]
    have := tupleText_len_le (PyData.shownAll xs)
    rw [s] at this
    omega
  | .list xs, a => by
    simp only [Ats] at a
    obtain ⟨p, q, r, s, t⟩ := ats_shs hj xs a
    refine ⟨by simp only [PyData.showable, p], by simp only [PyData.hasDict, q], ?_, by simp only [PyData.canLay0, t]⟩
    simp only [PyData.shown, sz]
    have := listText_len_le (PyData.shownAll xs)
    rw [s] at this
    omega
  | .dict _, a => by simp [Ats] at a
theorem ats_shs {j : Nat} (hj : j ≤ 100) : ∀ ds : List PyData, AtsL j ds → PyData.showableAll ds = true ∧ PyData.hasDictAll ds = false ∧ ((PyData.shownAll ds).map (·.length)).sum + 10 * ds.length ≤ 2000 * szs ds ∧ (PyData.shownAll ds).length = ds.length ∧ PyData.canLayAll0 ds = true
  | [], _ => by simp [PyData.showableAll, PyData.hasDictAll, PyData.shownAll, szs, PyData.canLayAll0]
  | d :: ds, a => by
    simp only [AtsL] at a
    obtain ⟨p, q, r, s⟩ := ats_sh hj d a.1
    obtain ⟨p', q', r', s', t'⟩ := ats_shs hj ds a.2
    refine ⟨by simp only [PyData.showableAll, p, p', Bool.and_self], by simp only [PyData.hasDictAll, q, q', Bool.or_self], ?_, by simp only [PyData.shownAll, List.length_cons, s'], by simp only [PyData.canLayAll0, s, t', Bool.and_self]⟩
    simp only [PyData.shownAll, List.map_cons, List.sum_cons, szs, List.length_cons]
    omega
end
/-- of this size, this depth, with such ends -/
structure Fit (m k j : Nat) (d : PyData) : Prop where
  sz : sz d ≤ m
  dp : PyData.depth d ≤ k
  at_ : Ats j d
theorem Fit.mono {m m' k k' j j' : Nat} {d : PyData} (h : Fit m k j d) (a : m ≤ m') (b : k ≤ k') (c : j ≤ j') : Fit m' k' j' d := ⟨Nat.le_trans h.sz a, Nat.le_trans h.dp b, Ats.mono c d h.at_⟩
theorem Fit.sh {m k j : Nat} {d : PyData} (h : Fit m k j d) (hj : j ≤ 100) : Sh k (2000 * m) d := by
  obtain ⟨a, b, c, _⟩ := ats_sh hj d h.at_
  have := h.sz
  exact ⟨a, b, h.dp, by omega⟩
theorem Fit.shaped {m k j : Nat} {d : PyData} (h : Fit m k j d) (hj : j ≤ 100) (hk : k ≤ 60) : SeqAt.shaped d = true := by
  obtain ⟨_, _, _, a⟩ := ats_sh hj d h.at_
  have := h.dp
  unfold SeqAt.shaped
  rw [a, decide_eq_true (by omega)]
  rfl
theorem Fit.mem {m k j : Nat} {ds : List PyData} {d : PyData} (h : Fit m (k + 1) j (.tuple ds)) (hm : d ∈ ds) : Fit m k j d := by
  refine ⟨?_, ?_, Ats.tup.mp h.at_ d hm⟩
  · have := h.sz
    rw [sz_tup] at this
    have := szs_mem hm
    omega
  · have := h.dp
    rw [dep_tup] at this
    exact dep_all.mp (show PyData.depthAll ds ≤ k by omega) d hm
theorem fit_tup {m k j : Nat} {ds : List PyData} (hs : szs ds ≤ m) (h : ∀ d ∈ ds, PyData.depth d ≤ k ∧ Ats j d) : Fit (m + 1) (k + 1) j (.tuple ds) :=
  ⟨by rw [sz_tup]; omega, by rw [dep_tup]; have := dep_all.mpr fun d hd => (h d hd).1; omega, Ats.tup.mpr fun d hd => (h d hd).2⟩
theorem fit_lst {m k j : Nat} {ds : List PyData} (hs : szs ds ≤ m) (h : ∀ d ∈ ds, PyData.depth d ≤ k ∧ Ats j d) : Fit (m + 1) (k + 1) j (.list ds) :=
  ⟨by rw [sz_lst]; omega, by rw [dep_lst]; have := dep_all.mpr fun d hd => (h d hd).1; omega, Ats.lst.mpr fun d hd => (h d hd).2⟩
theorem dep_ints (ns : List Int) : ∀ d ∈ dInts ns, PyData.depth d = 0 := fun d hd => by
  obtain ⟨i, _, rfl⟩ := List.mem_map.mp hd
  simp [PyData.depth]
theorem szs_ints : ∀ ns : List Int, szs (dInts ns) = ns.length
  | [] => rfl
  | n :: ns => by
    show sz (.int n) + szs (dInts ns) = _
    rw [szs_ints ns]
    simp [sz]
    omega
theorem fit_ints {ns : List Int} {m j : Nat} (hl : ns.length ≤ m) (h : ∀ n ∈ ns, n.natAbs < 2 ^ (700 + j)) : Fit (m + 1) 1 j (.tuple (dInts ns)) :=
  fit_tup (by rw [szs_ints]; exact hl) fun d hd => ⟨by rw [dep_ints ns d hd]; exact Nat.le_refl _, by
    obtain ⟨i, hi, rfl⟩ := List.mem_map.mp hd
    simp only [Ats]
    exact h i hi⟩
end TB
set_option Elab.async false
set_option linter.all false
set_option maxRecDepth 100000
set_option maxHeartbeats 2000000
namespace Kd
open PySem VL G
theorem bls_of (f : D → Bool) (ds : List D) : blsOf (ds.map fun d => D.bl (f d)) = some (ds.map f) := bls_map f ds
end Kd
set_option Elab.async false
set_option linter.all false
set_option maxRecDepth 100000
set_option maxHeartbeats 2000000
namespace Kd
open PySem VL G
mutual
/-- plain: made of ints, texts, truths, None, tuples and lists -/
def pln : D → Bool
  | .tup ds => plns ds
  | .lst ds => plns ds
  | .non => true
  | .bl _ => true
  | .int _ => true
  | .str _ => true
  | _ => false
def plns : List D → Bool
  | [] => true
  | d :: ds => pln d && plns ds
end
theorem plns_eq : ∀ ds : List D, plns ds = ds.all pln
  | [] => by simp [plns]
  | d :: ds => by simp [plns, plns_eq ds]
mutual
theorem pln_pure : ∀ {d : D}, pln d = true → d.pure = true
  | .tup ds, h => by rw [pln] at h; rw [D.pure]; exact plns_pure h
  | .lst ds, h => by rw [pln] at h; rw [D.pure]; exact plns_pure h
  | .non, _ => by simp [D.pure]
  | .bl _, _ => by simp [D.pure]
  | .int _, _ => by simp [D.pure]
  | .str _, _ => by simp [D.pure]
  | .ctp _, h => by simp [pln] at h
  | .fzl _, h => by simp [pln] at h
  | .ref _, h => by simp [pln] at h
  | .cv _, h => by simp [pln] at h
theorem plns_pure : ∀ {ds : List D}, plns ds = true → D.pures ds = true
  | [], _ => by simp [D.pures]
  | d :: ds, h => by
    rw [plns, Bool.and_eq_true] at h
    rw [D.pures, pln_pure h.1, plns_pure h.2]
    rfl
end
def strD : D → Bool
  | .str _ => true
  | _ => false
end Kd
set_option Elab.async false
set_option linter.all false
set_option maxRecDepth 100000
set_option maxHeartbeats 2000000
namespace Kd
open PySem VL TB G
/-- what is small enough to be looked at -/
structure Ok (m k j : Nat) (d : D) : Prop where
  p : pln d = true
  f : Fit m k j d.py
theorem ats_str {j : Nat} {x : Str} (h : Ats j (.str x)) : asc x ∧ x.length ≤ 20 + j := by
  simpa [Ats] using h
end Kd
set_option Elab.async false
set_option linter.all false
set_option maxRecDepth 100000
set_option maxHeartbeats 2000000
namespace Kd
open PySem VL TB G
end Kd
set_option Elab.async false
set_option linter.all false
set_option maxRecDepth 100000
set_option maxHeartbeats 2000000
namespace Kd
open PySem VL TB G
theorem pys_map (ds : List D) : D.pys ds = ds.map D.py := D.pys_eq ds
theorem Ok.mem {m k j : Nat} {ds : List D} (h : Ok m (k + 1) j (.tup ds)) : ∀ x ∈ ds, Ok m k j x := fun x hx => by
  have hp := h.p
  rw [pln, plns_eq, List.all_eq_true] at hp
  have hf := h.f
  rw [D.py, pys_map] at hf
  exact ⟨hp x hx, hf.mem (List.mem_map_of_mem hx)⟩
theorem Ok.fit {m k j : Nat} {d : D} (h : Ok m k j d) (hj : j ≤ 100) (hk : k ≤ 60) : d.fit = true := by
  unfold D.fit
  rw [pln_pure h.p, h.f.shaped hj hk]
  rfl
end Kd
set_option Elab.async false
set_option linter.all false
set_option maxRecDepth 100000
set_option maxHeartbeats 2000000
namespace G
open PySem VL
end G
set_option Elab.async false
set_option linter.all false
set_option maxRecDepth 100000
set_option maxHeartbeats 2000000
namespace Kd
open PySem VL TB G
theorem eqv_lst_nil (ds : List D) : eqvD (.lst ds) (.lst []) = decide (ds = []) := by
  unfold eqvD
  rw [D.py, D.py]
  cases ds with
  | nil => simp [D.pys, PyData.eqv, PyData.eqvAll]
  | cons n r => simp [D.pys, PyData.eqv, PyData.eqvAll]
end Kd
set_option Elab.async false
set_option linter.all false
set_option maxRecDepth 100000
set_option maxHeartbeats 2000000
namespace Kd
open PySem VL TB G
end Kd
set_option linter.all false
set_option maxRecDepth 100000
namespace K02
/-! ### words by the codes of their letters, and the word behind a word -/
def Lt (c : Nat) : Prop := 97 ≤ c ∧ c ≤ 122
/-- the next word of as many letters, written backwards -/
def incR : List Nat → List Nat
  | [] => []
  | [c] => [if c = 122 then 97 else c + 1]
  | c :: d :: r => if c = 122 then 97 :: incR (d :: r) else (c + 1) :: d :: r
def aft (cs : List Nat) : List Nat := if cs.length < 8 then cs ++ [97] else (incR cs.reverse).reverse
/-- a word -/
structure Wd (cs : List Nat) : Prop where
  n0 : 0 < cs.length
  n1 : cs.length ≤ 8
  lt : ∀ c ∈ cs, Lt c
def it (cs : List Nat) : Nat → List Nat
  | 0 => cs
  | k + 1 => aft (it cs k)
end K02
set_option Elab.async false
set_option linter.all false
set_option maxRecDepth 100000
set_option maxHeartbeats 2000000
/-! Tools: what a def tells of pure things; the feed; draws. -/
namespace Kd
open PySem VL TB G
mutual
theorem pure_low (n : Nat) : ∀ {d : D}, d.pure = true → d.low n = true
  | .tup ds, h => by rw [D.pure] at h; rw [D.low]; exact pures_low n h
  | .ctp ds, h => by rw [D.pure] at h; rw [D.low]; exact pures_low n h
  | .lst ds, h => by rw [D.pure] at h; rw [D.low]; exact pures_low n h
  | .fzl _, h => by simp [D.pure] at h
  | .ref _, h => by simp [D.pure] at h
  | .cv _, h => by simp [D.pure] at h
  | .non, _ => by simp [D.low]
  | .bl _, _ => by simp [D.low]
  | .int _, _ => by simp [D.low]
  | .str _, _ => by simp [D.low]
theorem pures_low (n : Nat) : ∀ {ds : List D}, D.pures ds = true → D.lows n ds = true
  | [], _ => by rw [D.lows]
  | d :: ds, h => by
    rw [D.pures, Bool.and_eq_true] at h
    rw [D.lows, pure_low n h.1, pures_low n h.2]
    rfl
end
theorem map_same {α : Type} {f : α → α} : ∀ {l : List α}, (∀ x ∈ l, f x = x) → l.map f = l
  | [], _ => rfl
  | x :: l, h => by rw [List.map_cons, h x List.mem_cons_self, map_same fun y hy => h y (List.mem_cons_of_mem _ hy)]
theorem pure_frz (st : AS) (n : Nat) : ∀ (k : Nat) (d : D), d.pure = true → frzD st n k d = d
  | 0, d, _ => rfl
  | k + 1, d, h => by
    cases d with
    | tup ds =>
      rw [D.pure, D.pures_eq, List.all_eq_true] at h
      show D.tup (ds.map (frzD st n k)) = _
      rw [map_same fun x hx => pure_frz st n k x (h x hx)]
    | lst ds =>
      rw [D.pure, D.pures_eq, List.all_eq_true] at h
      show D.lst (ds.map (frzD st n k)) = _
      rw [map_same fun x hx => pure_frz st n k x (h x hx)]
    | ref i => simp [D.pure] at h
    | _ => rfl
/-- a younger list that holds pure things -/
theorem frz_ref {frz : Nat} {st st' : AS} {j : Nat} {ds : List D} (hj : st.length ≤ j) (h : st'[j]? = some (.lst ds)) (hp : D.pures ds = true) : frzD st' st.length (frz + 1) (.ref j) = .lst ds := by
  show (if st.length ≤ j then _ else _) = _
  rw [if_pos hj, h]
  show D.lst (ds.map (frzD st' st.length frz)) = _
  rw [D.pures_eq, List.all_eq_true] at hp
  rw [map_same fun x hx => pure_frz _ _ _ x (hp x hx)]
/-- the feed -/
structure Fd (i : Nat) (ns : List Int) (n : Nat) (st : AS) : Prop where
  h : ∃ a b c, st[i]? = some (feedC ns a b c) ∧ 0 ≤ a ∧ 0 ≤ c ∧ c ≤ n
theorem Fd.mono {i : Nat} {ns : List Int} {n m : Nat} {st : AS} (h : Fd i ns n st) (hm : n ≤ m) : Fd i ns m st := by
  obtain ⟨a, b, c, h1, h2, h3, h4⟩ := h.h
  exact ⟨a, b, c, h1, h2, h3, by omega⟩
theorem Fd.lt {i : Nat} {ns : List Int} {n : Nat} {st : AS} (h : Fd i ns n st) : i < st.length := by
  obtain ⟨a, b, c, h1, _⟩ := h.h
  exact (List.getElem?_eq_some_iff.mp h1).1
theorem Fd.to {i : Nat} {ns : List Int} {n : Nat} {st st' : AS} (h : Fd i ns n st) (e : st'[i]? = st[i]?) : Fd i ns n st' := by
  obtain ⟨a, b, c, h1, h2, h3, h4⟩ := h.h
  exact ⟨a, b, c, by rw [e]; exact h1, h2, h3, h4⟩
theorem Fd.push {i : Nat} {ns : List Int} {n : Nat} {st : AS} (h : Fd i ns n st) (c : C) : Fd i ns n (st ++ [c]) := h.to (List.getElem?_append_left h.lt)
theorem Fd.put {i j : Nat} {ns : List Int} {n : Nat} {st : AS} (h : Fd i ns n st) (c : C) (hj : j ≠ i) : Fd i ns n (st.set j c) := h.to (List.getElem?_set_ne hj)
/-- a step that changes the feed alone -/
structure Dr (i : Nat) (ns : List Int) (n : Nat) (st st' : AS) : Prop where
  fd : Fd i ns n st'
  len : st'.length = st.length
  at_ : ∀ j, j ≠ i → st'[j]? = st[j]?
theorem Dr.refl {i : Nat} {ns : List Int} {n : Nat} {st : AS} (h : Fd i ns n st) : Dr i ns n st st := ⟨h, rfl, fun _ _ => rfl⟩
theorem Dr.trans {i : Nat} {ns : List Int} {n m : Nat} {a b c : AS} (h : Dr i ns n a b) (k : Dr i ns m b c) : Dr i ns m a c := ⟨k.fd, k.len.trans h.len, fun j hj => (k.at_ j hj).trans (h.at_ j hj)⟩
theorem draw_ok {i : Nat} {ns : List Int} {n : Nat} {st : AS} {m : Int} (h : Fd i ns n st) (hn : n < 1000000000000) (h0 : 0 < m) (h1 : m < 4611686018427387904) :
    ∃ r st1, F__law_draw_ed7e [.ref i, .int m] st = .ok (.int r) st1 ∧ 0 ≤ r ∧ r < m ∧ Dr i ns (n + 1) st st1 := by
  obtain ⟨a, b, c, e, ha, hc, hcn⟩ := h.h
  have p60 : (2 : Int) ^ 60 = 1152921504606846976 := by decide
  have p62 : (2 : Int) ^ 62 = 4611686018427387904 := by decide
  obtain ⟨r, a', b', q, r0, r1, ha'⟩ := draw_eq (m := m) e h0 (by omega) ha hc (by omega)
  have hl : i < st.length := (List.getElem?_eq_some_iff.mp e).1
  exact ⟨r, _, q, r0, r1, ⟨⟨a', b', c + 1, List.getElem?_set_self hl, ha', by omega, by omega⟩, by simp, fun j hj => List.getElem?_set_ne (Ne.symm hj)⟩⟩
theorem atI_in {α : Type} {xs : List α} {i : Int} (h : 0 ≤ i) (h2 : i < xs.length) : ∃ x, L2.atI xs i = some x ∧ x ∈ xs := by
  rw [atI_pos h h2]
  have hl : i.toNat < xs.length := by omega
  exact ⟨xs[i.toNat], List.getElem?_eq_getElem hl, List.getElem_mem hl⟩
/-! sizes -/
theorem szs_sub : ∀ {a b : List PyData}, a.Sublist b → szs a ≤ szs b := by
  intro a b h
  induction h with
  | slnil => exact Nat.le_refl _
  | cons x _ ih => simp only [szs]; omega
  | cons_cons x _ ih => simp only [szs]; omega
theorem Ok.lst {m k j : Nat} {ds es : List D} (h : Ok m (k + 1) j (.tup ds)) (hs : es.Sublist ds) : Ok m (k + 1) j (.lst es) := by
  have hp := h.p
  rw [pln, plns_eq, List.all_eq_true] at hp
  have hf := h.f
  rw [D.py, pys_map] at hf
  have h1 := hf.sz
  rw [sz_tup] at h1
  refine ⟨?_, ?_⟩
  · rw [pln, plns_eq, List.all_eq_true]
    exact fun x hx => hp x (hs.subset hx)
  · rw [D.py, pys_map]
    have hss := szs_sub (hs.map D.py)
    have h2 := hf.dp
    rw [dep_tup] at h2
    have h3 := dep_all.mp (show PyData.depthAll (ds.map D.py) ≤ k by omega)
    have h4 := Ats.tup.mp hf.at_
    obtain ⟨m', rfl⟩ : ∃ m', m = m' + 1 := ⟨m - 1, by omega⟩
    refine fit_lst (by omega) fun d hd => ?_
    have hm : d ∈ ds.map D.py := (hs.map D.py).subset hd
    exact ⟨h3 d hm, h4 d hm⟩
end Kd
set_option Elab.async false
set_option linter.all false
set_option maxRecDepth 100000
/-! The value layer: written tuples whose object is known. -/
namespace VL
open PySem PySem.Spec PyProof.Rows L2 TB
section
variable {X : Cx} {E : XK} {es : List Expr} {fs : En → AS → Out (List D)} {t : TA} {pos : Pos}
def tTupF (t : TA) : TE := fun σ H Q => t σ H fun xs H1 => xs.length ≤ sizeLine ∧ ∀ l ob, H1 l = none → ob.dict = none → Q (.ref l) (upd H1 l (.frz ob (.tup xs)))
theorem pe_tupF {x1} (h : PA X es t) : PE X (.Tuple es x1 pos) (tTupF t) := by
  refine ⟨fun pins s σ H Q I hq => ?_⟩
  refine wpAny_Tuple_spliced (thn (h.run pos pins s σ H _ I hq) fun us s1 ⟨xs, H1, I1, r, z, q⟩ => ⟨by rw [← r.length]; exact z, ?_⟩)
  have hf : H1 s1.heap.objs.size = none := I1.hok.fresh (Nat.le_refl _)
  refine ⟨.ref s1.heap.objs.size, upd H1 s1.heap.objs.size (.frz ({ cls := .type "tuple", data := .seq us.toArray } : Obj) (.tup xs)), I1.laid (t' := s1.toks) (fun b u e => Heap.get?_push_of_some _ e) (Nat.le_refl _) ?_, rfl, q _ _ hf rfl⟩
  exact ⟨Heap.get?_push_size _ rfl, z, us, r, IsTup.new _ _⟩
@[simp] def gTupF (ds : List D) (st : AS) : Out D := if ds.length ≤ sizeLine then .ok (.ctp ds) st else .bad
theorem ve_tupF {x1} (h : VA X E es fs) : VE X E (.Tuple es x1 pos) (vA gTupF fs) := by
  refine weakE (pe_tupF h) fun σ H Q ⟨β, env, st, he, hs, h⟩ => ?_
  refine tG_bind he hs h fun ds st1 β1 H1 us x1 s1 e1 r1 h1 => ?_
  obtain ⟨hl, h2⟩ := h1.ite
  refine ⟨by rw [r1.length]; exact hl, fun l ob hn hd => ?_⟩
  have sm : Same H1 (upd H1 l (.frz ob (.tup us))) := same_upd hn
  exact h2 β1 _ _ (Ext.same sm) (s1.same sm) (.ctp (.inr ⟨s1.fresh hn, ob, upd_same, hd⟩) (r1.ext (Ext.same sm)))
end
end VL
set_option Elab.async false
set_option linter.all false
set_option maxRecDepth 100000
/-! The value layer: dict(pairs), the pairs a known tuple, the keys tuples. -/
namespace VL
open PySem PySem.Spec PyProof.Rows L2 TB
section
variable {X : Cx} {E : XK} {pins : List (Addr × Obj)} {σ : L2.St} {H : Hp} {s : Shared}
def KnT (K : PySem.W.Frag) (H : Hp) (a : Addr) (us : List V) : Prop :=
  (∃ (o : Obj) (its : Array Value) (n : Nat), K.lookup a = some o ∧ o.cls = .type "tuple" ∧ o.dict = none ∧ o.data = .seq its n ∧ its.size ≤ sizeLine ∧ Vals us its.toList) ∨ ∃ o, H a = some (.frz o (.tup us)) ∧ o.dict = none
theorem KnT.get {a : Addr} {us : List V} (I : Inv X pins σ H s) (h : KnT X.K H a us) : ∃ its : List Value, Vals us its ∧ PlainSeq "tuple" s.heap a its.toArray ∧ us.length ≤ sizeLine := by
  rcases h with ⟨ob, its, n, h1, h2, h3, h4, h5, h6⟩ | ⟨ob, h1, h3⟩
  · have z := I.kIn a ob h1
    refine ⟨its.toList, h6, ⟨ob, n, z, h2, h3, by simpa using h4⟩, ?_⟩
    have e := h6.length
    simp at e
    omega
  · obtain ⟨z, hz, its, r, ob', z2, hc, n, hd⟩ := (show ObjOk X.prog X.w H s.heap a (.frz ob (.tup us)) from I.hok a _ h1)
    rw [z] at z2
    cases z2
    exact ⟨its, r, ⟨ob, n, z, hc, h3, hd⟩, hz⟩
/-! the D side -/
end
end VL
set_option Elab.async false
set_option linter.all false
set_option maxRecDepth 100000
/-! The value layer: sorted of pairs, sorted(d.items()). -/
namespace VL
open PySem PySem.Spec PyProof.Rows L2 TB
def ltKy : Key → Key → Bool
  | .inl i, .inl j => decide (i < j)
  | .inr x, .inr y => decide (x.cps.toList < y.cps.toList)
  | .inl _, .inr _ => true
  | .inr _, .inl _ => false
abbrev KK := Key × Key
def lexK (p q : KK) : Bool := if p.1 = q.1 then ltKy p.2 q.2 else ltKy p.1 q.1
def leP (p q : KK) : Bool := !lexK q p
def sortP (ps : List KK) : List KK := ps.mergeSort leP
/-! ### the machine's sort of pairs -/
def sameK : Key → Key → Bool
  | .inl _, .inl _ => true
  | .inr _, .inr _ => true
  | _, _ => false
def Typed (ps : List KK) : Prop := ∀ p ∈ ps, ∀ q ∈ ps, sameK p.1 q.1 = true ∧ sameK p.2 q.2 = true
instance (ps : List KK) : Decidable (Typed ps) := by unfold Typed; infer_instance
theorem Typed.of {ps qs : List KK} (t : Typed ps) (h : ∀ q ∈ qs, q ∈ ps) : Typed qs := fun p hp q hq => t p (h p hp) q (h q hq)
def KP (h : Heap) (v : Value) (p : KK) : Prop := ∃ a o x y n, v = .ref a ∧ h.get? a = some o ∧ o.cls = .type "tuple" ∧ o.data = .seq #[x, y] n ∧ keyIs p.1 x = true ∧ keyIs p.2 y = true
theorem KP.fn {h : Heap} {v : Value} {p q : KK} (a : KP h v p) (b : KP h v q) : p = q := by
  obtain ⟨a, o, x, y, n, rfl, h1, h2, h3, h4, h5⟩ := a
  obtain ⟨b, o', x', y', n', e, g1, g2, g3, g4, g5⟩ := b
  cases e
  rw [h1] at g1
  cases g1
  rw [h3] at g3
  cases g3
  refine Prod.ext ?_ ?_
  · rw [← kOf_is (h := 0) h4, ← kOf_is (h := 0) g4]
  · rw [← kOf_is (h := 0) h5, ← kOf_is (h := 0) g5]
theorem KP.keeps {h h' : Heap} {v : Value} {p : KK} {a : Addr} (k : KP h v p) (hc : ∀ o, h.get? a = some o → o.cls ≠ .type "tuple") (hk : ∀ b o, b ≠ a → h.get? b = some o → h'.get? b = some o) : KP h' v p := by
  obtain ⟨b, o, x, y, n, rfl, h1, h2, h3, h4, h5⟩ := k
  exact ⟨b, o, x, y, n, rfl, hk b o (fun e => hc o (e ▸ h1) h2) h1, h2, h3, h4, h5⟩
/-! ### sorted(d.items()) -/
section
variable {X : Cx}
theorem rel_key {k : Key} {v : Value} (r : RelV (kV k) v) : keyIs k v = true := by
  obtain ⟨k', e, h⟩ := vals_keys (ks := [k]) (us := [v]) (.cons r .nil) 0 v rfl
  simp at e
  rw [e]; exact h
end
@[simp] def valKeys : List (Key × D) → Option (List KK)
  | [] => some []
  | (k, .int i) :: r => (valKeys r).map ((k, .inl i) :: ·)
  | (k, .str x) :: r => (valKeys r).map ((k, .inr x) :: ·)
  | _ :: _ => none
def pairD (p : KK) : D := .tup [keyV p.1, keyV p.2]
@[simp] def pairOf : D → Option KK
  | .tup [.int i, .int j] => some (.inl i, .inl j)
  | .tup [.int i, .str y] => some (.inl i, .inr y)
  | .tup [.str x, .int j] => some (.inr x, .inl j)
  | .tup [.str x, .str y] => some (.inr x, .inr y)
  | _ => none
@[simp] def pairsK : List D → Option (List KK)
  | [] => some []
  | d :: r => (match pairOf d with
    | some p => (pairsK r).map (p :: ·)
    | none => none)
@[simp] def sortPD (c : Bool) (x : D) (st : AS) : Out D := match listOf st x with
  | some ds => (match pairsK ds with
    | some ps => if Typed ps then mk c ((sortP ps).map pairD) st else .bad
    | none => .bad)
  | none => .bad
@[simp] def srtItD (x : D) (st : AS) : Out D := match x with
  | .ref i => (match st[i]? with
    | some (.dct kvs) => (match valKeys kvs with
      | some ps => if Typed ps then .ok (.lst ((sortP ps).map pairD)) st else .bad
      | none => .bad)
    | _ => .bad)
  | _ => .bad
end VL
set_option Elab.async false
set_option linter.all false
set_option maxRecDepth 100000
set_option maxHeartbeats 2000000
namespace G
open PySem VL
end G
set_option Elab.async false
set_option linter.all false
set_option maxRecDepth 100000
set_option maxHeartbeats 2000000
/-! A walk, typed: names, deeds, books, dishes; the cells of the program's walk. -/
namespace W9
open PySem VL G Kd
theorem ofs_inj (a b : String) : (Str.ofString a = Str.ofString b) = (a = b) := by
  apply propext
  constructor
  · intro h
    rw [Str.ofString_eq_toList, Str.ofString_eq_toList] at h
    have h2 := (Str.mk.injEq _ _).mp h
    have h3 : a.toList.map Char.toNat = b.toList.map Char.toNat := List.toArray_inj h2
    have h4 : a.toList = b.toList := List.map_inj_right (f := Char.toNat) (fun x y e => by
      apply Char.ext
      apply UInt32.toNat_inj.mp
      exact e) |>.mp h3
    exact String.toList_inj.mp h4
  · rintro rfl
    rfl
abbrev Nm := Int × Int
def eNm (n : Nm) : D := .tup [.int n.1, .int n.2]
def eSe (ss : List Str) : D := .ctp (ss.map D.str)
inductive Dd where
  | sit (s t : Str) | move (s t : Str) | join (t o : Str) | go (s : Str)
  | ask (n : Int) (i : Str) (c : Int) (ss : List Str) | change (n : Int) (i : Str)
  | fire (t : Str) (c : Int) | rush (t : Str) (c : Int) | serve (n : Int) | back (n : Int) | strike (n : Int)
  | pay (s : Str) (p : Int) | take (s o : Str) (p : Int) | even (ss : List Str)
def eDd : Dd → D
  | .sit s t => .tup [.str "sit", .str s, .str t]
  | .move s t => .tup [.str "move", .str s, .str t]
  | .join t o => .tup [.str "join", .str t, .str o]
  | .go s => .tup [.str "go", .str s]
  | .ask n i c ss => .tup [.str "ask", .int n, .str i, .int c, eSe ss]
  | .change n i => .tup [.str "change", .int n, .str i]
  | .fire t c => .tup [.str "fire", .str t, .int c]
  | .rush t c => .tup [.str "rush", .str t, .int c]
  | .serve n => .tup [.str "serve", .int n]
  | .back n => .tup [.str "back", .int n]
  | .strike n => .tup [.str "strike", .int n]
  | .pay s p => .tup [.str "pay", .str s, .int p]
  | .take s o p => .tup [.str "take", .str s, .str o, .int p]
  | .even ss => .tup [.str "even", eSe ss]
abbrev Pg := Nm × Dd
def ePg (p : Pg) : D := .tup [eNm p.1, eDd p.2]
structure Dish where
  course : Int
  seats : List Str
  item : Str
  cost : Int
  state : Str
  past : List (Nm × Str)
structure Fi where
  nm : Nm
  word : Str
  table : Str
  course : Int
  some_ : List Int
  bars : List Int
structure Wk where
  menu : Menu
  offs : Offs
  tables : List (Str × Str)
  dishes : List (Int × Nat × Dish)
  entries : List (Nm × Str × Str × Int)
  evens : Int
  firings : List Fi
  reasons : List (Nm × Str)
def eEn (e : Nm × Str × Str × Int) : D := .tup [eNm e.1, .str e.2.1, .str e.2.2.1, .int e.2.2.2]
def ePa (e : Nm × Str) : D := .tup [eNm e.1, .str e.2]
def eFi (f : Fi) : D := .tup [eNm f.nm, .str f.word, .str f.table, .int f.course, .tup (f.some_.map D.int), .tup (f.bars.map D.int)]
abbrev eTab (t : List (Str × Str)) : List (L2.Key × D) := enK (κ' := L2.Key) Sum.inr D.str t
abbrev eDis (ds : List (Int × Nat × Dish)) : List (L2.Key × D) := enK (κ' := L2.Key) Sum.inl (fun p : Nat × Dish => D.ref p.1) ds
def cDish (p : Nat) (d : Dish) : C := .obj "Dish" [("course", .int d.course), ("seats", eSe d.seats), ("item", .str d.item), ("cost", .int d.cost), ("state", .str d.state), ("past", .ref (p + 1))]
def cWalk (b : Nat) (w : Wk) : C := .obj "Walk" [("menu", eMenu w.menu), ("offs", eOffs w.offs), ("tables", .ref (b + 1)), ("dishes", .ref (b + 2)), ("entries", .ref (b + 3)), ("evens", .int w.evens), ("firings", .ref (b + 4)), ("reasons", .ref (b + 5))]
/-- the cells tell this walk; lk: whether the dishes are being walked -/
structure Rw (lk : List (L2.Key × D) → C) (st : AS) (b : Nat) (w : Wk) : Prop where
  wk : st[b]? = some (cWalk b w)
  tb : st[b + 1]? = some (.dct (eTab w.tables))
  di : st[b + 2]? = some (lk (eDis w.dishes))
  en : st[b + 3]? = some (.lst (w.entries.map eEn))
  fi : st[b + 4]? = some (.lst (w.firings.map eFi))
  re : st[b + 5]? = some (.lst (w.reasons.map ePa))
  ds : ∀ d ∈ w.dishes, st[d.2.1]? = some (cDish d.2.1 d.2.2) ∧ st[d.2.1 + 1]? = some (.lst (d.2.2.past.map ePa))
  po : ∀ d ∈ w.dishes, b + 6 ≤ d.2.1
  pd : w.dishes.Pairwise fun x y => x.2.1 + 2 ≤ y.2.1
  dn : (w.dishes.map (·.1)).Nodup
/-- how much there is at most -/
structure Few (w : Wk) : Prop where
  ta : w.tables.length ≤ 1000
  di : w.dishes.length ≤ 60
  en : w.entries.length ≤ 100000
  fi : w.firings.length ≤ 1000
  re : w.reasons.length ≤ 1000
  se : ∀ d ∈ w.dishes, d.2.2.seats.length ≤ 100 ∧ 0 < d.2.2.seats.length
  pa : ∀ d ∈ w.dishes, d.2.2.past.length ≤ 100000 ∧ d.2.2.past ≠ []
  me : w.menu.length ≤ 1000
  evn : 0 ≤ w.evens
/-- where a seat sits -/
def tabT (w : Wk) (s : Str) : Str := (look w.tables s).getD (Str.ofString "")
def sitsT (w : Wk) (s : Str) : Bool := !decide (tabT w s = Str.ofString "")
end W9
set_option Elab.async false
set_option linter.all false
set_option maxRecDepth 100000
set_option maxHeartbeats 2000000
/-! What is asked of a walk. -/
namespace W9
open PySem VL G Kd
section
variable {lk : List (L2.Key × D) → C} {st : AS} {b : Nat} {w : Wk}
/-- the table of a dish of these seats -/
def tableT (w : Wk) (ss : List Str) : Option Str := ((ss.filter (sitsT w)).map (tabT w)).head?
theorem sits_look {s : Str} (hs : sitsT w s = true) : look w.tables s = some (tabT w s) := by
  unfold sitsT tabT at hs
  unfold tabT
  cases e : look w.tables s with
  | none => rw [e] at hs; simp at hs
  | some t => rfl
def dishT (w : Wk) (n : Int) : Option Dish := (look w.dishes n).map (·.2)
def atT (w : Wk) (t : Str) (n : Int) : Bool := match dishT w n with
  | some d => decide (tableT w d.seats = some t)
  | none => false
def dishesAtT (w : Wk) (t : Str) : List Int := (sortI (w.dishes.map (·.1))).filter (atT w t)
def pickT (w : Wk) (q : Dish → Bool) (n : Int) : Bool := match dishT w n with
  | some d => q d
  | none => false
def askedT (w : Wk) (t : Str) (c : Int) : List Int := (dishesAtT w t).filter (pickT w fun d => decide (d.course = c) && decide (d.state = Str.ofString "asked"))
def hasItem (w : Wk) (i : Str) : Bool := decide (i ∈ w.menu.map (·.1))
end
/-! frames -/
theorem Rw.to {lk : List (L2.Key × D) → C} {st st' : AS} {b : Nat} {w : Wk} (h : Rw lk st b w) (e : ∀ i, b ≤ i → i < st.length → st'[i]? = st[i]?) : Rw lk st' b w := by
  have at' : ∀ {i : Nat} {c : C}, b ≤ i → st[i]? = some c → st'[i]? = some c := fun {i c} hi hc => by
    rw [e i hi (List.getElem?_eq_some_iff.mp hc).1]
    exact hc
  exact ⟨at' (by omega) h.wk, at' (by omega) h.tb, at' (by omega) h.di, at' (by omega) h.en, at' (by omega) h.fi, at' (by omega) h.re, fun d hd => ⟨at' (by have := h.po d hd; omega) (h.ds d hd).1, at' (by have := h.po d hd; omega) (h.ds d hd).2⟩, h.po, h.pd, h.dn⟩
theorem Rw.lt {lk : List (L2.Key × D) → C} {st : AS} {b : Nat} {w : Wk} (h : Rw lk st b w) : b + 5 < st.length := (List.getElem?_eq_some_iff.mp h.re).1
end W9
set_option Elab.async false
set_option linter.all false
set_option maxRecDepth 100000
set_option maxHeartbeats 2000000
/-! What a seat has to pay, by the program. -/
namespace W9
open PySem VL G Kd
/-- where each dish begins in its run -/
def begStep (s : List (Int × Int) × List (List Str × Int)) (d : Int × Nat × Dish) : List (Int × Int) × List (List Str × Int) :=
  let x := (look s.2 d.2.2.seats).getD 0
  (put s.1 d.1 x, put s.2 d.2.2.seats (x + d.2.2.cost))
def begT (w : Wk) : List (Int × Int) × List (List Str × Int) := w.dishes.foldl begStep ([], [])
theorem look_self {ds : List (Int × Nat × Dish)} (nd : (ds.map (·.1)).Nodup) : ∀ d ∈ ds, look ds d.1 = some d.2 := by
  induction ds with
  | nil => intro d hd; cases hd
  | cons x ds ih =>
    intro d hd
    rw [List.map_cons, List.nodup_cons] at nd
    rw [look_cons]
    rcases List.mem_cons.mp hd with rfl | hd
    · rw [if_pos rfl]
    · rw [if_neg (fun (z : x.1 = d.1) => nd.1 (by rw [z]; exact List.mem_map_of_mem hd))]
      exact ih nd.2 d hd
def shareT (d : Dish) (beg : Int) (seat : Str) : Int := (dealT d.cost d.seats.length beg).getD (d.seats.idxOf seat) 0
def livT (s : Str) : Bool := decide (s = Str.ofString "asked") || (decide (s = Str.ofString "fired") || decide (s = Str.ofString "served"))
abbrev Rww := Nm × Str × Int
def eRw (r : Rww) : D := .tup [eNm r.1, .str r.2.1, .int r.2.2]
def rowT (beg : List (Int × Int)) (seat : Str) (d : Int × Nat × Dish) : List Rww := if (livT d.2.2.state && decide (seat ∈ d.2.2.seats)) = true then [((d.2.2.past.head?.map (·.1)).getD (0, 0), Str.ofString "dish", shareT d.2.2 ((look beg d.1).getD 0) seat)] else []
def accT (w : Wk) (seat : Str) : List Rww := ((w.entries.filter fun e => decide (e.2.2.1 = seat)).map fun e => (e.1, e.2.1, e.2.2.2)) ++ (w.dishes.map (rowT (begT w).1 seat)).flatten
theorem rows_pure : ∀ rows : List Rww, D.pures (rows.map eRw) = true
  | [] => by simp [D.pures]
  | r :: rows => by simp [D.pures, D.pure, eRw, eNm, rows_pure rows]
def toPayT (w : Wk) (seat : Str) : Int := ((accT w seat).map (·.2.2)).sum
end W9
set_option Elab.async false
set_option linter.all false
set_option maxRecDepth 100000
set_option maxHeartbeats 2000000
/-! Deeds that are done, by the program: those that leave the dishes. -/
namespace W9
open PySem VL G Kd
/-- another table of seats -/
theorem Rw.tabs {lk : List (L2.Key × D) → C} {st : AS} {b : Nat} {w : Wk} (h : Rw lk st b w) (t : List (Str × Str)) : Rw lk (st.set (b + 1) (.dct (eTab t))) b { w with tables := t } := by
  have hl := h.lt
  have ne : ∀ {i : Nat}, i ≠ b + 1 → (st.set (b + 1) (.dct (eTab t)))[i]? = st[i]? := fun {i} hi => List.getElem?_set_ne (Ne.symm hi)
  refine ⟨(ne (by omega)).trans h.wk, List.getElem?_set_self (by omega), (ne (by omega)).trans h.di, (ne (by omega)).trans h.en, (ne (by omega)).trans h.fi, (ne (by omega)).trans h.re, fun d hd => ?_, h.po, h.pd, h.dn⟩
  have := h.po d hd
  exact ⟨(ne (by omega)).trans (h.ds d hd).1, (ne (by omega)).trans (h.ds d hd).2⟩
/-- what a deed leaves: cells below the walk stay; it gets no shorter -/
structure Af (b : Nat) (st st' : AS) : Prop where
  len : st.length ≤ st'.length
  low : ∀ i, i < b → st'[i]? = st[i]?
theorem Af.refl (b : Nat) (st : AS) : Af b st st := ⟨Nat.le_refl _, fun _ _ => rfl⟩
theorem Af.trans {b : Nat} {x y z : AS} (h : Af b x y) (k : Af b y z) : Af b x z := ⟨Nat.le_trans h.len k.len, fun i hi => (k.low i hi).trans (h.low i hi)⟩
theorem Af.set {b : Nat} (st : AS) {i : Nat} (hi : b ≤ i) (c : C) : Af b st (st.set i c) := ⟨by simp, fun j hj => List.getElem?_set_ne (by omega)⟩
def putTab (w : Wk) (s t : Str) : Wk := { w with tables := put w.tables s t }
end W9
set_option Elab.async false
set_option linter.all false
set_option maxRecDepth 100000
set_option maxHeartbeats 2000000
/-! Deeds that are done, by the program: those of dishes. -/
namespace W9
open PySem VL G Kd
def putDish (w : Wk) (n : Int) (p : Nat) (d : Dish) : Wk := { w with dishes := put w.dishes n (p, d) }
theorem put_mem {κ α : Type} [DecidableEq κ] {l : List (κ × α)} {k : κ} {v : α} (hk : has l k = true) {x : κ × α} (h : x ∈ put l k v) : x = (k, v) ∨ (x ∈ l ∧ x.1 ≠ k) := by
  unfold put at h
  rw [if_pos hk] at h
  obtain ⟨y, hy, e⟩ := List.mem_map.mp h
  by_cases z : y.1 = k
  · rw [if_pos z] at e
    left
    rw [← e, z]
  · rw [if_neg z] at e
    right
    rw [← e]
    exact ⟨hy, z⟩
theorem has_of {κ α : Type} [DecidableEq κ] {l : List (κ × α)} {k : κ} {v : α} (h : look l k = some v) : has l k = true := by
  rw [has_look, h]
  rfl
theorem pos_far {w : Wk} (pd : w.dishes.Pairwise fun x y => x.2.1 + 2 ≤ y.2.1) {x y : Int × Nat × Dish} (hx : x ∈ w.dishes) (hy : y ∈ w.dishes) (ne : x.1 ≠ y.1) : x.2.1 + 2 ≤ y.2.1 ∨ y.2.1 + 2 ≤ x.2.1 := by
  generalize w.dishes = l at *
  induction l with
  | nil => cases hx
  | cons z l ih =>
    obtain ⟨h1, h2⟩ := List.pairwise_cons.mp pd
    rcases List.mem_cons.mp hx with ex | hx'
    · rcases List.mem_cons.mp hy with ey | hy'
      · exact absurd (by rw [ex, ey]) ne
      · exact .inl (by rw [ex]; exact h1 y hy')
    · rcases List.mem_cons.mp hy with ey | hy'
      · exact .inr (by rw [ey]; exact h1 x hx')
      · exact ih h2 hx' hy'
theorem dis_put {ds : List (Int × Nat × Dish)} {n : Int} {p : Nat} {d d' : Dish} (nd : (ds.map (·.1)).Nodup) (h : look ds n = some (p, d)) : eDis (put ds n (p, d')) = eDis ds := by
  unfold put
  rw [if_pos (has_of h)]
  show enK _ _ _ = enK _ _ _
  unfold enK
  rw [List.map_map]
  apply List.map_congr_left
  rintro ⟨m, q, e⟩ hm
  show (_, _) = (_, _)
  by_cases z : m = n
  · subst z
    have := look_self nd _ hm
    simp only at this
    rw [h] at this
    cases this
    simp
  · simp [z]
theorem Rw.upd {lk : List (L2.Key × D) → C} {st st' : AS} {b : Nat} {w : Wk} (h : Rw lk st b w) {n : Int} {p : Nat} {d d' : Dish} (e : look w.dishes n = some (p, d)) (h1 : st'[p]? = some (cDish p d')) (h2 : st'[p + 1]? = some (.lst (d'.past.map ePa))) (h3 : ∀ i, b ≤ i → i ≠ p → i ≠ p + 1 → st'[i]? = st[i]?) : Rw lk st' b (putDish w n p d') := by
  have hm := look_mem e
  have hp := h.po _ hm
  simp only at hp
  have hk := has_of e
  refine ⟨(h3 b (by omega) (by omega) (by omega)).trans h.wk, (h3 (b + 1) (by omega) (by omega) (by omega)).trans h.tb, ?_, (h3 (b + 3) (by omega) (by omega) (by omega)).trans h.en, (h3 (b + 4) (by omega) (by omega) (by omega)).trans h.fi, (h3 (b + 5) (by omega) (by omega) (by omega)).trans h.re, fun x hx => ?_, fun x hx => ?_, ?_, ?_⟩
  · show st'[b + 2]? = some (lk (eDis (put w.dishes n (p, d'))))
    rw [dis_put h.dn e]
    exact (h3 (b + 2) (by omega) (by omega) (by omega)).trans h.di
  · rcases put_mem hk hx with rfl | ⟨hx, ne⟩
    · exact ⟨h1, h2⟩
    · have far := pos_far h.pd hx hm ne
      have px := h.po _ hx
      simp only at far
      have := h.ds _ hx
      exact ⟨(h3 _ (by omega) (by omega) (by omega)).trans this.1, (h3 _ (by omega) (by omega) (by omega)).trans this.2⟩
  · rcases put_mem hk hx with rfl | ⟨hx, ne⟩
    · exact hp
    · exact h.po _ hx
  · show (put w.dishes n (p, d')).Pairwise _
    unfold put
    rw [if_pos hk, List.pairwise_map]
    have fx : ∀ x ∈ w.dishes, (if x.1 = n then (x.1, (p, d')) else x).2.1 = x.2.1 := fun x hx => by
      by_cases z : x.1 = n
      · rw [if_pos z]
        have := look_self h.dn _ hx
        rw [z, e] at this
        cases x
        cases this
        rfl
      · rw [if_neg z]
    exact List.Pairwise.imp_of_mem (fun {x y} hx hy r => by rw [fx x hx, fx y hy]; exact r) h.pd
  · exact put_nodup h.dn n _
theorem Few.upd {w : Wk} (f : Few w) {n : Int} {p : Nat} {d d' : Dish} (e : look w.dishes n = some (p, d)) (hs : d'.seats = d.seats) (hp : d'.past.length ≤ 100000 ∧ d'.past ≠ []) : Few (putDish w n p d') := by
  have hk := has_of e
  have hl : (put w.dishes n (p, d')).length = w.dishes.length := by
    unfold put
    rw [if_pos hk, List.length_map]
  refine ⟨f.ta, by show (put _ _ _).length ≤ _; rw [hl]; exact f.di, f.en, f.fi, f.re, fun x hx => ?_, fun x hx => ?_, f.me, f.evn⟩
  · rcases put_mem hk hx with rfl | ⟨hx, _⟩
    · show d'.seats.length ≤ 100 ∧ 0 < d'.seats.length
      rw [hs]
      exact f.se _ (look_mem e)
    · exact f.se _ hx
  · rcases put_mem hk hx with rfl | ⟨hx, _⟩
    · exact hp
    · exact f.pa _ hx
def turnD (d : Dish) (s : Str) (nm : Nm) : Dish := { d with state := s, past := d.past ++ [(nm, s)] }
def turnT (w : Wk) (n : Int) (s : Str) (nm : Nm) : Wk := match look w.dishes n with
  | some (p, d) => putDish w n p (turnD d s nm)
  | none => w
theorem Few.turn {w : Wk} (f : Few w) {n : Int} {p : Nat} {d : Dish} (e : look w.dishes n = some (p, d)) (s : Str) (nm : Nm) (hl : d.past.length ≤ 90000) : Few (putDish w n p (turnD d s nm)) :=
  f.upd e rfl ⟨by show (d.past ++ _).length ≤ _; rw [List.length_append]; show _ + 1 ≤ _; omega, by show d.past ++ _ ≠ []; simp⟩
/-- serve, back, strike -/
inductive Tn where | serve | back | strike
def Tn.dd (t : Tn) (n : Int) : Dd := match t with | .serve => .serve n | .back => .back n | .strike => .strike n
def Tn.pre : Tn → List Str
  | .serve => ["fired"]
  | .back => ["served"]
  | .strike => ["asked", "fired"]
end W9
set_option Elab.async false
set_option linter.all false
set_option maxRecDepth 100000
set_option maxHeartbeats 2000000
/-! Change, fire. -/
namespace W9
open PySem VL G Kd
/-! fire -/
end W9
set_option Elab.async false
set_option linter.all false
set_option maxRecDepth 100000
set_option maxHeartbeats 2000000
/-! Ask, even. -/
namespace W9
open PySem VL G Kd
end W9
set_option Elab.async false
set_option linter.all false
set_option maxRecDepth 100000
set_option maxHeartbeats 2000000
/-! Even; the whole walk. -/
namespace W9
open PySem VL G Kd
def e3 (x : Str × Int × Int) : D := .tup [.str x.1, .int x.2.1, .int x.2.2]
end W9
set_option Elab.async false
set_option linter.all false
set_option maxRecDepth 100000
set_option maxHeartbeats 4000000
/-! The whole walk of the program. -/
namespace W9
open PySem VL G Kd
/-- a deed that can be told -/
def Vd : Dd → Prop
  | .ask _ _ _ ss => ss ≠ [] ∧ ss.length ≤ 100
  | .even ss => 0 < ss.length ∧ ss.length ≤ 100
  | _ => True
end W9
set_option Elab.async false
set_option linter.all false
set_option maxRecDepth 100000
set_option maxHeartbeats 4000000
/-! The whole walk of the program: bounds, the loop. -/
namespace W9
open PySem VL G Kd
/-- what is known of each dish -/
def DK (K : Nat) (d : Dish) : Prop := (d.past.length ≤ K ∧ d.past ≠ []) ∧ (d.seats.length ≤ 100 ∧ 0 < d.seats.length)
theorem DK.mono {K K' : Nat} {d : Dish} (h : DK K d) (hk : K ≤ K') : DK K' d := ⟨⟨Nat.le_trans h.1.1 hk, h.1.2⟩, h.2⟩
end W9
set_option Elab.async false
set_option linter.all false
set_option maxRecDepth 100000
set_option maxHeartbeats 2000000
namespace G
open PySem VL
noncomputable def B__law_feed_7fb9 : En → AS → Fl :=
    (sRet (vDisp [((vC (.str "cells")), (vA (g1 (lstD false)) (vCons (vSl (slD false) (vVar 0) vNoPart (v1 asI (vC (.int 63)))) vNil))), ((vC (.str "at")), (vC (.int 0))), ((vC (.str "left")), (vC (.int 0))), ((vC (.str "turn")), (vC (.int 0)))]))
noncomputable def F__law_feed_7fb9 : List D → AS → Out D := vFn 1 0 B__law_feed_7fb9
end G
set_option Elab.async false
set_option linter.all false
set_option maxRecDepth 100000
set_option maxHeartbeats 2000000
namespace G
open PySem VL
end G
set_option Elab.async false
set_option linter.all false
set_option maxRecDepth 100000
set_option maxHeartbeats 4000000
/-! The law's own walk: where, rows. -/
namespace W9
open PySem VL G Kd
structure Dn where
  nm : Nm
  dd : Dd
  fd : List Int
  mv : List (Str × Int)
def eMv (p : Str × Int) : D := .tup [.str p.1, .int p.2]
def isFire : Dd → Bool
  | .fire _ _ => true
  | .rush _ _ => true
  | _ => false
def enc (i : Dn) : List D := if isFire i.dd = true then i.fd.map D.int else i.mv.map eMv
def So (st : AS) (so : D) (L : List D) : Prop := so = .lst L ∨ ∃ k, so = .ref k ∧ st[k]? = some (.lst L)
def itR (st : AS) (X : D) (i : Dn) : Prop := ∃ so, X = .tup [eNm i.nm, eDd i.dd, so] ∧ So st so (enc i)
/-- a thing that tells the pages done -/
def DnR (st : AS) (dn : D) (is : List Dn) : Prop := ∃ zs : List (D × Dn), (dn = .lst (zs.map (·.1)) ∨ ∃ j, dn = .ref j ∧ st[j]? = some (.lst (zs.map (·.1)))) ∧ zs.map (·.2) = is ∧ ∀ z ∈ zs, itR st z.1 z.2
theorem So.low {st st' : AS} {so : D} {L : List D} (h : So st so L) (e : ∀ i, i < st.length → st'[i]? = st[i]?) : So st' so L := by
  rcases h with h | ⟨k, h1, h2⟩
  · exact .inl h
  · exact .inr ⟨k, h1, by rw [e k (List.getElem?_eq_some_iff.mp h2).1]; exact h2⟩
theorem DnR.low {st st' : AS} {dn : D} {is : List Dn} (h : DnR st dn is) (e : ∀ i, i < st.length → st'[i]? = st[i]?) : DnR st' dn is := by
  obtain ⟨zs, h1, h2, h3⟩ := h
  refine ⟨zs, ?_, h2, fun z hz => ?_⟩
  · rcases h1 with h | ⟨j, h, k⟩
    · exact .inl h
    · exact .inr ⟨j, h, by rw [e j (List.getElem?_eq_some_iff.mp k).1]; exact k⟩
  · obtain ⟨so, a, b⟩ := h3 z hz
    exact ⟨so, a, b.low e⟩
def whStep (s : Str) (t : Str) (i : Dn) : Str := match i.dd with
  | .sit a u => if a = s then u else t
  | .move a u => if a = s then u else t
  | .go a => if a = s then Str.ofString "" else t
  | .join u o => if o = t then u else t
  | _ => t
def whereT (is : List Dn) (s : Str) : Str := is.foldl (whStep s) (Str.ofString "")
/-! rows -/
structure RowT where
  item : Str
  course : Int
  seats : List Str
  state : Str
  min : Int
def eRT (r : RowT) : List D := [.str r.item, .int r.course, eSe r.seats, .str r.state, .int r.min]
abbrev Rows := List (Int × Nat × RowT)
abbrev eRows (rs : Rows) : List (L2.Key × D) := enK (κ' := L2.Key) Sum.inl (fun p : Nat × RowT => D.ref p.1) rs
structure RsR (st0 st : AS) (j : Nat) (rs : Rows) : Prop where
  jl : j = st0.length
  di : st[j]? = some (.dct (eRows rs))
  ro : ∀ r ∈ rs, st[r.2.1]? = some (.lst (eRT r.2.2))
  po : ∀ r ∈ rs, j < r.2.1
  ne : rs.Pairwise fun x y => x.2.1 ≠ y.2.1
  dn : (rs.map (·.1)).Nodup
  low : ∀ i, i < st0.length → st[i]? = st0[i]?
def rowsStep (rs : List (Int × RowT)) (i : Dn) : List (Int × RowT) := match i.dd with
  | .ask n it c ss => put rs n ⟨it, c, ss, Str.ofString "asked", i.nm.1⟩
  | .change n it => match look rs n with
    | some r => put rs n { r with item := it, min := i.nm.1 }
    | none => rs
  | .fire _ _ => i.fd.foldl (fun rs n => match look rs n with | some r => put rs n { r with state := Str.ofString "fired" } | none => rs) rs
  | .rush _ _ => i.fd.foldl (fun rs n => match look rs n with | some r => put rs n { r with state := Str.ofString "fired" } | none => rs) rs
  | .serve n => match look rs n with | some r => put rs n { r with state := Str.ofString "served" } | none => rs
  | .back n => match look rs n with | some r => put rs n { r with state := Str.ofString "back" } | none => rs
  | .strike n => match look rs n with | some r => put rs n { r with state := Str.ofString "struck" } | none => rs
  | _ => rs
def rowsT (is : List Dn) : List (Int × RowT) := is.foldl rowsStep []
/-- the rows without their places -/
def bare (rs : Rows) : List (Int × RowT) := rs.map fun r => (r.1, r.2.2)
/-- what may be told of a page done: the dishes that it speaks of are there -/
def FitD (rs : List (Int × RowT)) (i : Dn) : Prop := match i.dd with
  | .ask n _ _ _ => has rs n = false
  | .change n _ => has rs n = true
  | .fire _ _ => ∀ n ∈ i.fd, has rs n = true
  | .rush _ _ => ∀ n ∈ i.fd, has rs n = true
  | .serve n => has rs n = true
  | .back n => has rs n = true
  | .strike n => has rs n = true
  | _ => True
end W9
set_option Elab.async false
set_option linter.all false
set_option maxRecDepth 100000
set_option maxHeartbeats 4000000
/-! The law's rows. -/
namespace W9
open PySem VL G Kd
section
variable {st0 st : AS} {j : Nat} {rs : Rows}
theorem RsR.jlt (h : RsR st0 st j rs) : j < st.length := (List.getElem?_eq_some_iff.mp h.di).1
/-- a new row -/
theorem RsR.new (h : RsR st0 st j rs) {n : Int} (k : has rs n = false) (r : RowT) : RsR st0 ((st ++ [C.lst (eRT r)]).set j (.dct (eRows (rs ++ [(n, st.length, r)])))) j (rs ++ [(n, st.length, r)]) := by
  have jl := h.jlt
  have hj := h.jl
  have up : ∀ {i : Nat} {c : C}, i ≠ j → st[i]? = some c → ((st ++ [C.lst (eRT r)]).set j (.dct (eRows (rs ++ [(n, st.length, r)]))))[i]? = some c := fun {i c} hi e => by
    rw [List.getElem?_set_ne (Ne.symm hi), List.getElem?_append_left (List.getElem?_eq_some_iff.mp e).1]
    exact e
  refine ⟨h.jl, List.getElem?_set_self (by simp; omega), fun x hx => ?_, fun x hx => ?_, ?_, ?_, fun i hi => ?_⟩
  · rcases List.mem_append.mp hx with hx | hx
    · exact up (by have := h.po x hx; omega) (h.ro x hx)
    · rw [List.mem_singleton.mp hx]
      rw [List.getElem?_set_ne (by show j ≠ st.length; omega)]
      simp
  · rcases List.mem_append.mp hx with hx | hx
    · exact h.po x hx
    · rw [List.mem_singleton.mp hx]; exact jl
  · refine List.pairwise_append.mpr ⟨h.ne, List.pairwise_singleton _ _, fun x hx y hy => ?_⟩
    rw [List.mem_singleton.mp hy]
    have := (List.getElem?_eq_some_iff.mp (h.ro x hx)).1
    show x.2.1 ≠ st.length
    omega
  · rw [List.map_append, List.nodup_append]
    refine ⟨h.dn, by simp, fun a ha x hx => ?_⟩
    rw [List.mem_singleton.mp hx]
    rintro rfl
    have := mem_keys.mpr ha
    rw [k] at this
    cases this
  · rw [List.getElem?_set_ne (by omega), List.getElem?_append_left (by omega)]
    exact h.low i hi
end
end W9
set_option Elab.async false
set_option linter.all false
set_option maxRecDepth 100000
set_option maxHeartbeats 4000000
/-! The law's rows: the loop. -/
namespace W9
open PySem VL G Kd
end W9
set_option Elab.async false
set_option linter.all false
set_option maxRecDepth 100000
set_option maxHeartbeats 2000000
namespace G
open PySem VL
end G
set_option Elab.async false
set_option linter.all false
set_option maxRecDepth 100000
set_option maxHeartbeats 2000000
namespace Kd
open PySem VL TB G
theorem eqv_lst_nil2 (ds : List D) : eqvD (.lst ds) (.lst []) = ds.isEmpty := by
  rw [eqv_lst_nil]
  cases ds <;> simp
/-- ds != [] -/
theorem ne_nil {m k j : Nat} {ds : List D} (st : AS) (h : Ok m k j (.lst ds)) (hj : j ≤ 100) (hk : k ≤ 60) : eqD true (.lst ds) (.lst []) st = .ok (.bl (!ds.isEmpty)) st := by
  have h1 := h.fit hj hk
  simp [eqD, scalD, h1, fit_nil, eqv_lst_nil2]
theorem Ok.str {m k j : Nat} {x : Str} (h : Ok m k j (.str x)) (hj : j ≤ 100) : asc x ∧ x.length ≤ sizeLine := by
  have := h.f.at_
  rw [D.py] at this
  obtain ⟨h1, h2⟩ := ats_str this
  exact ⟨h1, by rw [sizeLine_eq]; omega⟩
theorem Ok.len {m k j : Nat} {ds : List D} (h : Ok m k j (.tup ds)) : ds.length + 1 ≤ m := by
  have hf := h.f
  rw [D.py, pys_map] at hf
  have h1 := hf.sz
  rw [sz_tup] at h1
  have h2 := szs_len (ds.map D.py)
  rw [List.length_map] at h2
  omega
theorem szs_strs : ∀ xs : List Str, szs ((xs.map D.str).map D.py) = xs.length
  | [] => by simp [szs]
  | x :: xs => by
    have := szs_strs xs
    simp only [List.map_cons, szs, List.length_cons, this, D.py, sz]
    omega
theorem pures_strs : ∀ xs : List Str, D.pures (xs.map D.str) = true
  | [] => by simp [D.pures]
  | x :: xs => by simp [D.pures, D.pure, pures_strs xs]
theorem fit_strs {j : Nat} (xs : List Str) (hl : xs.length ≤ 15000000) (hj : j ≤ 100) (h : ∀ x ∈ xs, asc x ∧ x.length ≤ 20 + j) : (D.lst (xs.map D.str)).fit = true := by
  unfold D.fit
  rw [D.pure, pures_strs, D.py, pys_map]
  have : Fit (15000000 + 1) 1 j (.list ((xs.map D.str).map D.py)) := fit_lst (by rw [szs_strs]; exact hl) fun d hd => by
    simp only [List.mem_map] at hd
    obtain ⟨e, ⟨x, hx, rfl⟩, rfl⟩ := hd
    rw [D.py]
    exact ⟨by simp [PyData.depth], by simp only [Ats]; exact h x hx⟩
  rw [this.shaped hj (by decide)]
  rfl
end Kd
set_option Elab.async false
set_option linter.all false
set_option maxRecDepth 100000
set_option maxHeartbeats 4000000
/-! The law's rows, tables of dishes, what may be fired. -/
namespace W9
open PySem VL G Kd TB
/-- each page done speaks of dishes that are there -/
def Fits : List (Int × RowT) → List Dn → Prop
  | _, [] => True
  | rs, i :: is => FitD rs i ∧ i.fd.length ≤ 1000 ∧ Fits (rowsStep rs i) is
theorem ret_low {k : Nat} {st st' : AS} {d : D} (hl : st.length ≤ st'.length) (e : ∀ i, i < st.length → st'[i]? = st[i]?) (hp : d.pure = true) : VL.ret k st d st' = .ok d st := by
  have tk : st'.take st.length = st := by
    apply List.ext_getElem?
    intro i
    by_cases c : i < st.length
    · rw [List.getElem?_take_of_lt c, e i c]
    · rw [List.getElem?_eq_none (by rw [List.length_take]; omega), List.getElem?_eq_none (by omega)]
  unfold VL.ret
  split
  · rename_i h
    rw [← tk, ← h, List.take_length]
  · rw [pure_frz _ _ _ _ hp, if_pos ⟨pure_low _ hp, fun i c hi ec => by rw [e i hi] at ec; exact .inl ec⟩, tk]
/-! where these seats' table is -/
def Ws (x : Str) : Prop := asc x ∧ x.length ≤ 20
def WsD : Dd → Prop
  | .sit _ t => Ws t
  | .move _ t => Ws t
  | .join t _ => Ws t
  | _ => True
def atL (is : List Dn) (ss : List Str) : Option Str := ((ss.map (whereT is)).filter fun t => !decide (t = Str.ofString "")).head?
/-! what may be fired -/
def rowL (is : List Dn) (n : Int) : Option RowT := look (rowsT is) n
def pickL (is : List Dn) (q : RowT → Bool) (n : Int) : Bool := match rowL is n with
  | some r => q r
  | none => false
def hereL (is : List Dn) (t : Str) : List Int := (sortI ((rowsT is).map (·.1))).filter (pickL is fun r => decide (atL is r.seats = some t))
def someL (is : List Dn) (t : Str) (c : Int) : List Int := (hereL is t).filter (pickL is fun r => decide (r.course = c) && decide (r.state = Str.ofString "asked"))
end W9
set_option Elab.async false
set_option linter.all false
set_option maxRecDepth 100000
set_option maxHeartbeats 2000000
/-! The law's own costs and pence. -/
namespace W9
open PySem VL G Kd
end W9
set_option Elab.async false
set_option linter.all false
set_option maxRecDepth 100000
set_option maxHeartbeats 2000000
/-! What a seat owes, by the law. -/
namespace W9
open PySem VL G Kd
abbrev Ow := List (Str × Int)
abbrev Ends := List (List Str × Int)
section
variable {lk : List (L2.Key × D) → C} {st T : AS} {rs : Rows} {ow : Ow} {en : Ends}
theorem inr_inj (a b : Str) (h : (Sum.inr a : L2.Key) = Sum.inr b) : a = b := Sum.inr.inj h
theorem put_has {κ α : Type} [DecidableEq κ] {l : List (κ × α)} {k : κ} (v : α) (h : has l k = true) : (put l k v).length = l.length := by
  unfold put
  rw [if_pos h, List.length_map]
end
/-! one dish among its seats -/
def penceT (b e m h : Int) : Int := (e + m - 1 - h) / m - (b + m - 1 - h) / m
def seatStep (b f : Int) (m : Nat) (lv : Bool) (ow : Ow) (p : Str × Nat) : Ow := if (has ow p.1 && lv) = true then put ow p.1 ((look ow p.1).getD 0 + penceT b f m p.2) else ow
/-! one dish -/
def owRow (m : Menu) (o : Offs) (s : Ow × Ends) (r : Int × RowT) : Ow × Ends :=
  (r.2.seats.zipIdx.foldl (seatStep ((look s.2 r.2.seats).getD 0) ((look s.2 r.2.seats).getD 0 + costT m o r.2.item r.2.min) r.2.seats.length (livT r.2.state)) s.1, put s.2 r.2.seats ((look s.2 r.2.seats).getD 0 + costT m o r.2.item r.2.min))
/-- a house that can be reckoned with, and the rows that speak of it -/
structure OkHs (m : Menu) (o : Offs) : Prop where
  ml : m.length ≤ 1000
  m : OkMenu m
  o : OkOffs o
end W9
set_option Elab.async false
set_option linter.all false
set_option maxRecDepth 100000
set_option maxHeartbeats 2000000
/-! What a seat owes, by the law: the whole. -/
namespace W9
open PySem VL G Kd
/-! what was paid and moved -/
def mvsOf (i : Dn) : List (Str × Int) := match i.dd with
  | .take a b p => [(a, p), (b, -p)]
  | .even _ => i.mv
  | _ => []
def mvAdd (ow : Ow) (x : Str × Int) : Ow := if has ow x.1 = true then put ow x.1 ((look ow x.1).getD 0 + x.2) else ow
def payStep (ow : Ow) (i : Dn) : Ow := match i.dd with
  | .pay s p => if has ow s = true then put ow s ((look ow s).getD 0 - p) else ow
  | _ => ow
def mvStep (ow : Ow) (i : Dn) : Ow := (mvsOf i).foldl mvAdd (payStep ow i)
/-! the whole -/
def zeroT (ss : List Str) : Ow := ss.foldl (fun ow s => put ow s 0) []
def owedT (m : Menu) (o : Offs) (is : List Dn) (ss : List Str) : Ow := is.foldl mvStep ((rowsT is).foldl (owRow m o) (zeroT ss, [])).1
end W9
set_option Elab.async false
set_option linter.all false
set_option maxRecDepth 100000
set_option maxHeartbeats 2000000
/-! Why a deed about dishes is refused, by the law. -/
namespace W9
open PySem VL G Kd
theorem ne_ints {xs : List Int} (n : Bool) (st : AS) : eqD n (.lst (xs.map D.int)) (.lst []) st = .ok (.bl (xor n xs.isEmpty)) st := by
  have f1 := fit_ints xs
  have ev := eqv_lst_nil (xs.map D.int)
  have e2 : decide (xs.map D.int = []) = xs.isEmpty := by cases xs <;> simp
  rw [e2] at ev
  simp [eqD, scalD, f1, fit_nil, ev]
def wordsOf (m : Menu) : List Str := m.map (·.1)
def Sx (s : String) : Str := Str.ofString s
end W9
set_option Elab.async false
set_option linter.all false
set_option maxRecDepth 100000
set_option maxHeartbeats 2000000
/-! Why a deed about dishes is refused, by the law: asking, serving. -/
namespace W9
open PySem VL G Kd
end W9
set_option Elab.async false
set_option linter.all false
set_option maxRecDepth 100000
set_option maxHeartbeats 2000000
/-! Why a deed is refused, by the law. -/
namespace W9
open PySem VL G Kd
theorem has_put {κ α : Type} [DecidableEq κ] (l : List (κ × α)) (k : κ) (v : α) (j : κ) : has (put l k v) j = (decide (j = k) || has l j) := by
  rw [has_look, look_put, has_look]
  by_cases z : j = k <;> simp [z]
theorem has_zero (s : Str) : ∀ (ss : List Str) (ow : Ow), (s ∈ ss ∨ has ow s = true) → has (ss.foldl (fun ow s => put ow s 0) ow) s = true
  | [], ow, h => by
    rcases h with h | h
    · cases h
    · exact h
  | x :: ss, ow, h => has_zero s ss _ (by
    rcases h with h | h
    · rcases List.mem_cons.mp h with rfl | h
      · right; rw [has_put]; simp
      · exact .inl h
    · right; rw [has_put, h, Bool.or_true])
def owedV (m : Menu) (o : Offs) (is : List Dn) (ss : List Str) (s : Str) : Int := (look (owedT m o is ss) s).getD 0
def sitsL (is : List Dn) : List Str := is.filterMap fun i => match i.dd with
  | .sit s _ => some s
  | _ => none
end W9
set_option Elab.async false
set_option linter.all false
set_option maxRecDepth 100000
set_option maxHeartbeats 2000000
/-! Why a deed is refused, by the law: all of it. -/
namespace W9
open PySem VL G Kd
def isSit : Dd → Bool
  | .sit _ _ => true
  | _ => false
def seatOf : Dd → Str
  | .sit s _ => s
  | _ => Sx ""
theorem sitsL_eq (is : List Dn) : sitsL is = ((is.filter fun i => isSit i.dd).map fun i => seatOf i.dd) := by
  unfold sitsL
  induction is with
  | nil => rfl
  | cons i is ih =>
    rw [List.filterMap_cons, List.filter_cons]
    cases e : i.dd <;> simp [isSit, seatOf, ih, e]
/-- a deed that may stand in a page -/
def WsDd : Dd → Prop
  | .take a b _ => Ws a ∧ Ws b
  | .even ss => ss.length ≤ 1000 ∧ ∀ s ∈ ss, Ws s
  | .ask _ _ _ ss => ss.length ≤ 1000
  | _ => True
end W9
set_option Elab.async false
set_option linter.all false
set_option maxRecDepth 100000
set_option maxHeartbeats 2000000
/-! The law's walk: what it holds. -/
namespace W9
open PySem VL G Kd
structure LW where
  is : List Dn
  idl : List (Nm × Str)
  ev : Int
def SoH (st T : AS) (so : D) (L : List D) : Prop := so = .lst L ∨ ∃ k, st.length + 2 ≤ k ∧ so = .ref k ∧ T[k]? = some (.lst L)
def itH (st T : AS) (X : D) (i : Dn) : Prop := ∃ so, X = .tup [eNm i.nm, eDd i.dd, so] ∧ SoH st T so (enc i)
structure LI (st T : AS) (s : LW) : Prop where
  zs : ∃ zs : List (D × Dn), T[st.length]? = some (.lst (zs.map (·.1))) ∧ zs.map (·.2) = s.is ∧ ∀ z ∈ zs, itH st T z.1 z.2
  id : T[st.length + 1]? = some (.lst (s.idl.map ePa))
  low : ∀ i, i < st.length → T[i]? = st[i]?
theorem SoH.up {st T T' : AS} {so : D} {L : List D} (h : SoH st T so L) (e : ∀ i, st.length + 2 ≤ i → i < T.length → T'[i]? = T[i]?) : SoH st T' so L := by
  rcases h with h | ⟨k, h0, h1, h2⟩
  · exact .inl h
  · exact .inr ⟨k, h0, h1, by rw [e k h0 (List.getElem?_eq_some_iff.mp h2).1]; exact h2⟩
theorem LI.dn {st T : AS} {s : LW} (h : LI st T s) : DnR T (.ref st.length) s.is := by
  obtain ⟨zs, h1, h2, h3⟩ := h.zs
  refine ⟨zs, .inr ⟨_, rfl, h1⟩, h2, fun z hz => ?_⟩
  obtain ⟨so, a, b⟩ := h3 z hz
  refine ⟨so, a, ?_⟩
  rcases b with b | ⟨k, _, b, c⟩
  · exact .inl b
  · exact .inr ⟨k, b, c⟩
theorem LI.up {st T T' : AS} {s : LW} (h : LI st T s) (e : ∀ i, i < T.length → T'[i]? = T[i]?) : LI st T' s := by
  obtain ⟨zs, h1, h2, h3⟩ := h.zs
  have l1 := (List.getElem?_eq_some_iff.mp h1).1
  have l2 := (List.getElem?_eq_some_iff.mp h.id).1
  refine ⟨⟨zs, by rw [e _ l1]; exact h1, h2, fun z hz => ?_⟩, by rw [e _ l2]; exact h.id, fun i hi => by rw [e i (by omega)]; exact h.low i hi⟩
  obtain ⟨so, a, b⟩ := h3 z hz
  exact ⟨so, a, b.up fun i _ hi => e i hi⟩
theorem LI.done {st T : AS} {s : LW} (h : LI st T s) (hl : s.is.length ≤ 1000) (i : Dn) {so : D} (hso : SoH st T so (enc i)) (ev : Int) : ∃ T', appD (.ref st.length) [.tup [eNm i.nm, eDd i.dd, so]] T = .ok .non T' ∧ LI st T' ⟨s.is ++ [i], s.idl, ev⟩ := by
  obtain ⟨zs, h1, h2, h3⟩ := h.zs
  have l1 := (List.getElem?_eq_some_iff.mp h1).1
  have zl : zs.length < sizeLine := by
    rw [← h2, List.length_map] at hl
    rw [sizeLine_eq]
    omega
  have e : ∀ j, j ≠ st.length → ∀ X, (T.set st.length X)[j]? = T[j]? := fun j hj X => List.getElem?_set_ne (Ne.symm hj)
  refine ⟨T.set st.length (.lst (zs.map (·.1) ++ [.tup [eNm i.nm, eDd i.dd, so]])), by simp -implicitDefEqProofs [h1, zl], ⟨⟨zs ++ [(.tup [eNm i.nm, eDd i.dd, so], i)], ?_, ?_, fun z hz => ?_⟩, ?_, fun j hj => ?_⟩⟩
  · rw [List.getElem?_set_self l1, List.map_append]
    rfl
  · rw [List.map_append, h2]
    rfl
  · rcases List.mem_append.mp hz with hz | hz
    · obtain ⟨so, a, b⟩ := h3 z hz
      exact ⟨so, a, b.up fun j hj _ => e j (by omega) _⟩
    · rw [List.mem_singleton.mp hz]
      exact ⟨so, rfl, hso.up fun j hj _ => e j (by omega) _⟩
  · rw [e _ (by omega)]; exact h.id
  · rw [e _ (by omega)]; exact h.low j hj
end W9
set_option Elab.async false
set_option linter.all false
set_option maxRecDepth 100000
set_option maxHeartbeats 2000000
/-! The law's walk: one page. -/
namespace W9
open PySem VL G Kd
end W9
set_option Elab.async false
set_option linter.all false
set_option maxRecDepth 100000
set_option maxHeartbeats 2000000
/-! The law's walk: the bounds go on. -/
namespace W9
open PySem VL G Kd
theorem mem_put {κ α : Type} [DecidableEq κ] {l : List (κ × α)} {k : κ} {v : α} {x : κ × α} (h : x ∈ put l k v) : x ∈ l ∨ x = (k, v) := by
  unfold put at h
  split at h
  · obtain ⟨y, hy, rfl⟩ := List.mem_map.mp h
    split
    · rename_i e
      right
      rw [e]
    · exact .inl hy
  · rcases List.mem_append.mp h with h | h
    · exact .inl h
    · exact .inr (List.mem_singleton.mp h)
/-- what a page of the book may be -/
structure VdP (pg : Pg) : Prop where
  h0 : 0 ≤ pg.1.1
  dd : WsDd pg.2
  wd : WsD pg.2
  st : isSit pg.2 = true → Ws (seatOf pg.2)
end W9
set_option Elab.async false
set_option linter.all false
set_option maxRecDepth 100000
set_option maxHeartbeats 2000000
/-! The law's walk, whole. -/
namespace W9
open PySem VL G Kd
end W9
set_option Elab.async false
set_option linter.all false
set_option maxRecDepth 100000
set_option maxHeartbeats 2000000
/-! What is owed, by the law and by the program: one sum. -/
namespace W9
open PySem VL G Kd
def val (ow : Ow) (x : Str) : Int := (look ow x).getD 0
theorem val_put (ow : Ow) (k x : Str) (v : Int) : val (put ow k v) x = if x = k then v else val ow x := by
  unfold val
  rw [look_put]
  split <;> rfl
def sh (b f : Int) (lv : Bool) (x : Str) (m : Nat) (p : Str × Nat) : Int := if p.1 = x ∧ lv = true then penceT b f m p.2 else 0
theorem seatStep_val {b f : Int} {m : Nat} {lv : Bool} {ow : Ow} {x : Str} (h : has ow x = true) (p : Str × Nat) : val (seatStep b f m lv ow p) x = val ow x + sh b f lv x m p ∧ has (seatStep b f m lv ow p) x = true := by
  unfold seatStep sh
  by_cases e : p.1 = x
  · subst e
    cases lv with
    | true => 
      rw [h]
      simp only [Bool.and_self, if_true, and_self]
      refine ⟨by rw [val_put, if_pos rfl]; rfl, by rw [has_put]; simp⟩
    | false => simp [h]
  · rw [if_neg (show ¬ (p.1 = x ∧ lv = true) from fun z => e z.1)]
    split
    · refine ⟨by rw [val_put, if_neg (fun z => e z.symm)]; omega, by rw [has_put, h, Bool.or_true]⟩
    · exact ⟨by omega, h⟩
theorem seats_val {b f : Int} {m : Nat} {lv : Bool} {x : Str} : ∀ (ps : List (Str × Nat)) (ow : Ow), has ow x = true → val (ps.foldl (seatStep b f m lv) ow) x = val ow x + (ps.map (sh b f lv x m)).sum ∧ has (ps.foldl (seatStep b f m lv) ow) x = true
  | [], ow, h => ⟨by simp, h⟩
  | p :: ps, ow, h => by
    obtain ⟨e, h1⟩ := seatStep_val (b := b) (f := f) (m := m) (lv := lv) h p
    obtain ⟨e2, h2⟩ := seats_val (b := b) (f := f) (m := m) (lv := lv) ps _ h1
    refine ⟨?_, h2⟩
    rw [List.foldl_cons, e2, e, List.map_cons, List.sum_cons]
    omega
theorem sh_out {b f : Int} {lv : Bool} {x : Str} {m : Nat} : ∀ (ss : List Str) (k : Nat), x ∉ ss → ((ss.zipIdx k).map (sh b f lv x m)).sum = 0
  | [], k, _ => rfl
  | s :: ss, k, h => by
    rw [List.zipIdx_cons, List.map_cons, List.sum_cons, sh_out ss (k + 1) (fun z => h (List.mem_cons_of_mem _ z))]
    unfold sh
    rw [if_neg (fun z => h (by rw [← z.1]; exact List.mem_cons_self))]
    rfl
theorem sh_sum {b f : Int} {lv : Bool} {x : Str} {m : Nat} : ∀ (ss : List Str) (k : Nat), ss.Nodup → ((ss.zipIdx k).map (sh b f lv x m)).sum = if x ∈ ss ∧ lv = true then penceT b f m ((k + ss.idxOf x : Nat)) else 0
  | [], k, _ => by simp
  | s :: ss, k, h => by
    obtain ⟨h1, h2⟩ := List.nodup_cons.mp h
    rw [List.zipIdx_cons, List.map_cons, List.sum_cons]
    by_cases e : s = x
    · subst e
      rw [sh_out ss (k + 1) h1]
      unfold sh
      by_cases l : lv = true <;> simp [l]
    · rw [sh_sum ss (k + 1) h2]
      unfold sh
      rw [if_neg (fun z => e z.1)]
      have : (s :: ss).idxOf x = ss.idxOf x + 1 := by
        have hb : (s == x) = false := beq_eq_false_iff_ne.mpr e
        rw [List.idxOf_cons, hb]
        rfl
      rw [this]
      have e' : ¬ x = s := fun z => e z.symm
      have a : k + 1 + ss.idxOf x = k + (ss.idxOf x + 1) := by omega
      rw [a]
      simp [e']
/-- seats, cost, whether it is still to be paid -/
abbrev Tr := List Str × Int × Bool
def goT : List Tr → Ends → Str → Int
  | [], _, _ => 0
  | (ss, c, lv) :: rs, en, x => (if x ∈ ss ∧ lv = true then penceT ((look en ss).getD 0) ((look en ss).getD 0 + c) ss.length (ss.idxOf x : Nat) else 0) + goT rs (put en ss ((look en ss).getD 0 + c)) x
def trL (m : Menu) (o : Offs) (r : Int × RowT) : Tr := (r.2.seats, costT m o r.2.item r.2.min, livT r.2.state)
theorem owRows_val {m : Menu} {o : Offs} {x : Str} : ∀ (rs : List (Int × RowT)) (ow : Ow) (en : Ends), (∀ r ∈ rs, r.2.seats.Nodup) → has ow x = true → val (rs.foldl (owRow m o) (ow, en)).1 x = val ow x + goT (rs.map (trL m o)) en x ∧ has (rs.foldl (owRow m o) (ow, en)).1 x = true
  | [], ow, en, _, h => ⟨by simp [goT], h⟩
  | r :: rs, ow, en, hn, h => by
    obtain ⟨e, h1⟩ := seats_val (b := (look en r.2.seats).getD 0) (f := (look en r.2.seats).getD 0 + costT m o r.2.item r.2.min) (m := r.2.seats.length) (lv := livT r.2.state) r.2.seats.zipIdx ow h
    rw [sh_sum r.2.seats 0 (hn r List.mem_cons_self)] at e
    obtain ⟨e2, h2⟩ := owRows_val (m := m) (o := o) rs _ (put en r.2.seats ((look en r.2.seats).getD 0 + costT m o r.2.item r.2.min)) (fun q hq => hn q (List.mem_cons_of_mem _ hq)) h1
    refine ⟨?_, h2⟩
    rw [List.foldl_cons]
    show val (rs.foldl (owRow m o) (_, _)).1 x = _
    rw [e2, e, List.map_cons]
    show _ = val ow x + ((if x ∈ r.2.seats ∧ livT r.2.state = true then _ else _) + _)
    rw [Nat.zero_add]
    omega
def mvSum (xs : List (Str × Int)) (x : Str) : Int := ((xs.filter fun p => decide (p.1 = x)).map (·.2)).sum
theorem mv_val {x : Str} : ∀ (xs : List (Str × Int)) (ow : Ow), has ow x = true → val (xs.foldl mvAdd ow) x = val ow x + mvSum xs x ∧ has (xs.foldl mvAdd ow) x = true
  | [], ow, h => ⟨by simp [mvSum], h⟩
  | p :: xs, ow, h => by
    have h1 : has (mvAdd ow p) x = true := by
      unfold mvAdd
      split
      · rw [has_put, h, Bool.or_true]
      · exact h
    obtain ⟨e, h2⟩ := mv_val xs (mvAdd ow p) h1
    refine ⟨?_, h2⟩
    rw [List.foldl_cons, e]
    unfold mvSum mvAdd
    rw [List.filter_cons]
    by_cases z : p.1 = x
    · subst z
      rw [if_pos h, val_put, if_pos rfl]
      simp [val]
      omega
    · rw [if_neg (show ¬ decide (p.1 = x) = true by simp [z])]
      split
      · rw [val_put, if_neg (fun y => z y.symm)]
      · rfl
/-- what a page done moves for a seat -/
def moveI (i : Dn) (x : Str) : Int := (match i.dd with
  | .pay s p => if s = x then -p else 0
  | _ => 0) + mvSum (mvsOf i) x
def movedL (is : List Dn) (x : Str) : Int := (is.map fun i => moveI i x).sum
theorem moves_val {x : Str} : ∀ (is : List Dn) (ow : Ow), has ow x = true → val (is.foldl mvStep ow) x = val ow x + movedL is x
  | [], ow, _ => by simp [movedL]
  | i :: is, ow, h => by
    have hp : has (payStep ow i) x = true ∧ val (payStep ow i) x = val ow x + (match i.dd with | .pay s p => if s = x then -p else 0 | _ => 0) := by
      unfold payStep
      cases i.dd with
      | pay s p =>
        dsimp only
        by_cases z : s = x
        · subst z
          rw [if_pos h, if_pos rfl, val_put, if_pos rfl]
          refine ⟨by rw [has_put]; simp, ?_⟩
          unfold val
          omega
        · rw [if_neg z]
          split
          · exact ⟨by rw [has_put, h, Bool.or_true], by rw [val_put, if_neg (fun y => z y.symm)]; omega⟩
          · exact ⟨h, by omega⟩
      | _ => exact ⟨h, by simp⟩
    obtain ⟨e, h2⟩ := mv_val (mvsOf i) (payStep ow i) hp.1
    have ih := moves_val is (mvStep ow i) h2
    rw [List.foldl_cons, ih]
    unfold mvStep movedL
    rw [e, hp.2, List.map_cons, List.sum_cons]
    unfold moveI
    omega
theorem zero_val (x : Str) : ∀ (ss : List Str) (ow : Ow), val ow x = 0 → val (ss.foldl (fun ow s => put ow s 0) ow) x = 0
  | [], ow, h => h
  | s :: ss, ow, h => zero_val x ss _ (by rw [val_put]; split <;> simp [h])
theorem owedV_eq {m : Menu} {o : Offs} {is : List Dn} {ss : List Str} {x : Str} (hx : x ∈ ss) (hn : ∀ r ∈ rowsT is, r.2.seats.Nodup) : owedV m o is ss x = goT ((rowsT is).map (trL m o)) [] x + movedL is x := by
  have h0 : has (zeroT ss) x = true := has_zero x ss [] (.inl hx)
  obtain ⟨e, h1⟩ := owRows_val (m := m) (o := o) (rowsT is) (zeroT ss) [] hn h0
  show val (owedT m o is ss) x = _
  unfold owedT
  rw [moves_val is _ h1, e]
  have : val (zeroT ss) x = 0 := zero_val x ss [] rfl
  omega
end W9
set_option Elab.async false
set_option linter.all false
set_option maxRecDepth 100000
set_option maxHeartbeats 2000000
/-! What is to be paid, by the program: the same sum. -/
namespace W9
open PySem VL G Kd
def entSum (w : Wk) (x : Str) : Int := ((w.entries.filter fun e => decide (e.2.2.1 = x)).map (·.2.2.2)).sum
def trP (d : Int × Nat × Dish) : Tr := (d.2.2.seats, d.2.2.cost, livT d.2.2.state)
theorem share_eq (d : Dish) (b : Int) (x : Str) (h : x ∈ d.seats) : shareT d b x = penceT b (b + d.cost) d.seats.length (d.seats.idxOf x : Nat) := by
  have hl : d.seats.idxOf x < d.seats.length := List.idxOf_lt_length_of_mem h
  unfold shareT dealT penceT
  rw [List.getD_eq_getElem?_getD, List.getElem?_map, List.getElem?_range hl]
  show below _ _ _ - below _ _ _ = _
  unfold below
  have e1 : b + d.cost - (d.seats.idxOf x : Nat) + (d.seats.length : Int) - 1 = b + d.cost + d.seats.length - 1 - (d.seats.idxOf x : Nat) := by omega
  have e2 : b - (d.seats.idxOf x : Nat) + (d.seats.length : Int) - 1 = b + d.seats.length - 1 - (d.seats.idxOf x : Nat) := by omega
  rw [e1, e2]
theorem beg_keep : ∀ (ds : List (Int × Nat × Dish)) (s : List (Int × Int) × List (List Str × Int)) (n : Int), n ∉ ds.map (·.1) → look (ds.foldl begStep s).1 n = look s.1 n
  | [], s, n, _ => rfl
  | d :: ds, s, n, h => by
    rw [List.foldl_cons, beg_keep ds _ n (fun z => h (List.mem_cons_of_mem _ z))]
    unfold begStep
    dsimp only
    rw [look_put, if_neg (fun z => h (by rw [z]; exact List.mem_cons_self))]
theorem rows_go {x : Str} : ∀ (ds : List (Int × Nat × Dish)) (s : List (Int × Int) × List (List Str × Int)), (ds.map (·.1)).Nodup → (((ds.map (rowT (ds.foldl begStep s).1 x)).flatten).map (·.2.2)).sum = goT (ds.map trP) s.2 x
  | [], s, _ => rfl
  | d :: ds, s, h => by
    rw [List.map_cons, List.nodup_cons] at h
    have ih := rows_go (x := x) ds (begStep s d) h.2
    have lk : look (ds.foldl begStep (begStep s d)).1 d.1 = some ((look s.2 d.2.2.seats).getD 0) := by
      rw [beg_keep ds _ d.1 h.1]
      unfold begStep
      dsimp only
      rw [look_put, if_pos rfl]
    rw [List.foldl_cons, List.map_cons, List.flatten_cons, List.map_append, List.sum_append, ih]
    have e2 : (begStep s d).2 = put s.2 d.2.2.seats ((look s.2 d.2.2.seats).getD 0 + d.2.2.cost) := rfl
    rw [e2, List.map_cons]
    show _ = (if x ∈ d.2.2.seats ∧ livT d.2.2.state = true then _ else _) + _
    congr 1
    unfold rowT
    rw [lk]
    by_cases a : livT d.2.2.state = true
    · by_cases b : x ∈ d.2.2.seats
      · rw [if_pos (by simp [a, b]), if_pos ⟨b, a⟩]
        show shareT _ _ _ + 0 = _
        rw [Int.add_zero]
        exact share_eq _ _ _ b
      · rw [if_neg (by simp [b]), if_neg (fun z => b z.1)]
        rfl
    · rw [if_neg (by simp [a]), if_neg (fun z => a z.2)]
      rfl
theorem toPay_eq {w : Wk} (x : Str) (h : (w.dishes.map (·.1)).Nodup) : toPayT w x = entSum w x + goT (w.dishes.map trP) [] x := by
  unfold toPayT accT
  rw [List.map_append, List.sum_append, List.map_map]
  have := rows_go (x := x) w.dishes ([], []) h
  show _ + (((w.dishes.map (rowT (w.dishes.foldl begStep ([], [])).1 x)).flatten).map (·.2.2)).sum = _
  rw [this]
  rfl
/-- dish by dish the same -/
def likeR (m : Menu) (o : Offs) (d : Int × Nat × Dish) (r : Int × RowT) : Prop := d.1 = r.1 ∧ d.2.2.item = r.2.item ∧ d.2.2.course = r.2.course ∧ d.2.2.seats = r.2.seats ∧ d.2.2.state = r.2.state ∧ d.2.2.cost = costT m o r.2.item r.2.min
inductive Like (m : Menu) (o : Offs) : List (Int × Nat × Dish) → List (Int × RowT) → Prop
  | nil : Like m o [] []
  | cons {d : Int × Nat × Dish} {r : Int × RowT} {ds : List (Int × Nat × Dish)} {rs : List (Int × RowT)} : likeR m o d r → Like m o ds rs → Like m o (d :: ds) (r :: rs)
theorem Like.tr {m : Menu} {o : Offs} {ds : List (Int × Nat × Dish)} {rs : List (Int × RowT)} (h : Like m o ds rs) : ds.map trP = rs.map (trL m o) ∧ ds.map (·.1) = rs.map (·.1) := by
  induction h with
  | nil => exact ⟨rfl, rfl⟩
  | cons a _ ih =>
    obtain ⟨a1, a2, a3, a4, a5, a6⟩ := a
    rw [List.map_cons, List.map_cons, List.map_cons, List.map_cons, ih.1, ih.2, a1]
    refine ⟨?_, rfl⟩
    congr 1
    unfold trP trL
    rw [a4, a5, a6]
/-- the program's walk and the law's hold the same -/
structure Eqv (m : Menu) (o : Offs) (w : Wk) (s : LW) : Prop where
  me : w.menu = m
  of : w.offs = o
  tb : ∀ x, tabT w x = whereT s.is x
  di : Like m o w.dishes (rowsT s.is)
  mv : ∀ x, entSum w x = movedL s.is x
  ev : w.evens = s.ev
  id : w.reasons = s.idl
  se : ∀ r ∈ rowsT s.is, r.2.seats.Nodup
  dn : (w.dishes.map (·.1)).Nodup
  ky : ∀ x, x ∈ w.tables.map (·.1) ↔ x ∈ sitsL s.is
  kn : (w.tables.map (·.1)).Nodup
theorem Eqv.pay {m : Menu} {o : Offs} {w : Wk} {s : LW} (h : Eqv m o w s) {ss : List Str} {x : Str} (hx : x ∈ ss) : owedV m o s.is ss x = toPayT w x := by
  rw [owedV_eq hx h.se, toPay_eq x h.dn, h.di.tr.1, h.mv]
  omega
theorem Eqv.sit {m : Menu} {o : Offs} {w : Wk} {s : LW} (h : Eqv m o w s) (x : Str) : sitsT w x = !decide (whereT s.is x = Str.ofString "") := by
  rw [← h.tb]
  rfl
end W9
set_option Elab.async false
set_option linter.all false
set_option maxRecDepth 100000
set_option maxHeartbeats 2000000
/-! The program's reason is the law's. -/
namespace W9
open PySem VL G Kd
section
variable {m : Menu} {o : Offs} {w : Wk} {s : LW}
theorem Like.look {ds : List (Int × Nat × Dish)} {rs : List (Int × RowT)} (h : Like m o ds rs) (n : Int) : (look ds n = none ∧ look rs n = none) ∨ ∃ p d r, look ds n = some (p, d) ∧ look rs n = some r ∧ likeR m o (n, p, d) (n, r) := by
  induction h with
  | nil => exact .inl ⟨rfl, rfl⟩
  | cons a _ ih =>
    rename_i d r ds rs _
    rw [look_cons, look_cons]
    obtain ⟨a1, a2, a3, a4, a5, a6⟩ := a
    by_cases z : d.1 = n
    · rw [if_pos z, if_pos (a1 ▸ z)]
      exact .inr ⟨d.2.1, d.2.2, r.2, rfl, rfl, rfl, a2, a3, a4, a5, a6⟩
    · rw [if_neg z, if_neg (a1 ▸ z)]
      exact ih
theorem Eqv.table (h : Eqv m o w s) (ss : List Str) : tableT w ss = atL s.is ss := by
  unfold tableT atL
  congr 1
  induction ss with
  | nil => rfl
  | cons x ss ih =>
    rw [List.filter_cons, List.map_cons, List.filter_cons, h.sit x]
    by_cases z : whereT s.is x = Str.ofString ""
    · rw [if_neg (by simp [z]), if_neg (by simp [z])]
      exact ih
    · rw [if_pos (by simp [z]), if_pos (by simp [z]), List.map_cons, ih, h.tb]
theorem Eqv.pick (h : Eqv m o w s) (q : Dish → Bool) (q' : RowT → Bool) (hq : ∀ p d r n, likeR m o (n, p, d) (n, r) → q d = q' r) (n : Int) : pickT w q n = pickL s.is q' n := by
  unfold pickT dishT pickL rowL
  rcases h.di.look n with ⟨a, b⟩ | ⟨p, d, r, a, b, c⟩
  · rw [a, b]; rfl
  · rw [a, b]
    exact hq p d r n c
theorem Eqv.here (h : Eqv m o w s) (t : Str) : dishesAtT w t = hereL s.is t := by
  unfold dishesAtT hereL
  rw [h.di.tr.2]
  exact List.filter_congr fun n _ => h.pick _ _ (fun p d r n c => by rw [h.table, show d.seats = r.seats from c.2.2.2.1]) n
theorem Eqv.some_ (h : Eqv m o w s) (t : Str) (c : Int) : askedT w t c = someL s.is t c := by
  unfold askedT someL
  rw [h.here]
  exact List.filter_congr fun n _ => h.pick _ _ (fun p d r n k => by rw [show d.course = r.course from k.2.2.1, show d.state = r.state from k.2.2.2.2.1]) n
theorem Eqv.item (h : Eqv m o w s) (i : Str) : hasItem w i = decide (i ∈ wordsOf m) := by
  unfold hasItem wordsOf
  rw [h.me]
end
end W9
set_option Elab.async false
set_option linter.all false
set_option maxRecDepth 100000
set_option maxHeartbeats 2000000
/-! Deed by deed the two walks stay the same: tables, money. -/
namespace W9
open PySem VL G Kd
theorem where_app (is : List Dn) (i : Dn) (x : Str) : whereT (is ++ [i]) x = whStep x (whereT is x) i := by
  unfold whereT
  rw [List.foldl_append]
  rfl
theorem rows_app (is : List Dn) (i : Dn) : rowsT (is ++ [i]) = rowsStep (rowsT is) i := by
  unfold rowsT
  rw [List.foldl_append]
  rfl
theorem moved_app (is : List Dn) (i : Dn) (x : Str) : movedL (is ++ [i]) x = movedL is x + moveI i x := by
  unfold movedL
  rw [List.map_append, List.sum_append]
  show _ + (moveI i x + 0) = _
  rw [Int.add_zero]
theorem sits_app (is : List Dn) (i : Dn) (x : Str) : x ∈ sitsL (is ++ [i]) ↔ x ∈ sitsL is ∨ (isSit i.dd = true ∧ seatOf i.dd = x) := by
  rw [sitsL_eq, sitsL_eq, List.filter_append, List.map_append, List.mem_append]
  constructor
  · rintro (a | a)
    · exact .inl a
    · obtain ⟨y, hy, rfl⟩ := List.mem_map.mp a
      obtain ⟨h1, h2⟩ := List.mem_filter.mp hy
      rw [List.mem_singleton.mp h1] at h2 ⊢
      exact .inr ⟨h2, rfl⟩
  · rintro (a | ⟨a, rfl⟩)
    · exact .inl a
    · right
      exact List.mem_map.mpr ⟨i, List.mem_filter.mpr ⟨List.mem_singleton.mpr rfl, a⟩, rfl⟩
section
variable {m : Menu} {o : Offs} {w : Wk} {s : LW}
/-- only the tables change -/
theorem Eqv.tabs (h : Eqv m o w s) (i : Dn) (tb : List (Str × Str)) (h1 : ∀ rs, rowsStep rs i = rs) (h2 : ∀ x, moveI i x = 0) (h3 : ∀ x, (look tb x).getD (Str.ofString "") = whStep x (whereT s.is x) i) (h4 : ∀ x, x ∈ tb.map (·.1) ↔ x ∈ w.tables.map (·.1) ∨ (isSit i.dd = true ∧ seatOf i.dd = x)) (h5 : (tb.map (·.1)).Nodup) : Eqv m o { w with tables := tb } ⟨s.is ++ [i], s.idl, s.ev⟩ := by
  refine ⟨h.me, h.of, fun x => ?_, ?_, fun x => ?_, h.ev, h.id, ?_, h.dn, fun x => ?_, h5⟩
  · rw [where_app]; exact h3 x
  · rw [rows_app, h1]; exact h.di
  · rw [moved_app, h2, Int.add_zero]; exact h.mv x
  · rw [rows_app, h1]; exact h.se
  · rw [sits_app, ← h.ky]; exact h4 x
theorem Eqv.key (h : Eqv m o w s) {a : Str} (z : sitsT w a = true) : a ∈ w.tables.map (·.1) := by
  have := sits_look z
  exact mem_keys.mp (has_of this)
theorem keys_put (l : List (Str × Str)) (k v x : Str) : x ∈ (put l k v).map (·.1) ↔ x = k ∨ x ∈ l.map (·.1) := by
  rw [← mem_keys, ← mem_keys, has_put]
  simp
theorem Eqv.put (h : Eqv m o w s) (i : Dn) (a t : Str) (h1 : ∀ rs, rowsStep rs i = rs) (h2 : ∀ x, moveI i x = 0) (h3 : ∀ x T, whStep x T i = if a = x then t else T) (h4 : (isSit i.dd = true ∧ seatOf i.dd = a) ∨ (isSit i.dd = false ∧ a ∈ w.tables.map (·.1))) : Eqv m o (putTab w a t) ⟨s.is ++ [i], s.idl, s.ev⟩ := by
  refine h.tabs i (G.put w.tables a t) h1 h2 (fun x => ?_) (fun x => ?_) (put_nodup h.kn a t)
  · rw [h3, look_put, ← h.tb]
    by_cases z : x = a
    · rw [if_pos z, if_pos z.symm]; rfl
    · rw [if_neg z, if_neg (fun y => z y.symm)]; rfl
  · rw [keys_put]
    rcases h4 with ⟨b, c⟩ | ⟨b, c⟩
    · rw [c, b]
      constructor
      · rintro (e | e)
        · exact .inr ⟨rfl, e.symm⟩
        · exact .inl e
      · rintro (e | ⟨_, e⟩)
        · exact .inr e
        · exact .inl e.symm
    · constructor
      · rintro (e | e)
        · rw [e]; exact .inl c
        · exact .inl e
      · rintro (e | ⟨e, _⟩)
        · exact .inr e
        · rw [b] at e; cases e
end
end W9
set_option Elab.async false
set_option linter.all false
set_option maxRecDepth 100000
set_option maxHeartbeats 2000000
/-! Deed by deed the two walks stay the same: dishes. -/
namespace W9
open PySem VL G Kd
theorem Like.map {m : Menu} {o : Offs} {ds : List (Int × Nat × Dish)} {rs : List (Int × RowT)} (h : Like m o ds rs) {f : Int × Nat × Dish → Int × Nat × Dish} {g : Int × RowT → Int × RowT} (k : ∀ d r, likeR m o d r → likeR m o (f d) (g r)) : Like m o (ds.map f) (rs.map g) := by
  induction h with
  | nil => exact .nil
  | cons a _ ih => exact .cons (k _ _ a) ih
theorem Like.put {m : Menu} {o : Offs} {ds : List (Int × Nat × Dish)} {rs : List (Int × RowT)} (h : Like m o ds rs) {n : Int} {p : Nat} {d : Dish} {r : RowT} (k : likeR m o (n, p, d) (n, r)) (hn : has ds n = true) : Like m o (G.put ds n (p, d)) (G.put rs n r) := by
  have hr : has rs n = true := by
    rw [mem_keys, ← h.tr.2, ← mem_keys]
    exact hn
  unfold G.put
  rw [if_pos hn, if_pos hr]
  refine h.map fun d' r' a => ?_
  have e : d'.1 = r'.1 := a.1
  by_cases z : d'.1 = n
  · rw [if_pos z, if_pos (e ▸ z)]
    exact ⟨e, k.2⟩
  · rw [if_neg z, if_neg (e ▸ z)]
    exact a
section
variable {m : Menu} {o : Offs} {w : Wk} {s : LW}
/-- only the dishes change -/
theorem Eqv.dish (h : Eqv m o w s) (i : Dn) (w' : Wk) (h1 : Like m o w'.dishes (rowsStep (rowsT s.is) i)) (h2 : ∀ x, moveI i x = 0) (h3 : ∀ x T, whStep x T i = T) (h4 : isSit i.dd = false) (h5 : ∀ r ∈ rowsStep (rowsT s.is) i, r.2.seats.Nodup) (h6 : (w'.dishes.map (·.1)).Nodup) (e1 : w'.menu = w.menu) (e2 : w'.offs = w.offs) (e3 : w'.tables = w.tables) (e4 : w'.entries = w.entries) (e5 : w'.evens = w.evens) (e6 : w'.reasons = w.reasons) : Eqv m o w' ⟨s.is ++ [i], s.idl, s.ev⟩ := by
  refine ⟨e1.trans h.me, e2.trans h.of, fun x => ?_, ?_, fun x => ?_, e5.trans h.ev, e6.trans h.id, ?_, h6, fun x => ?_, ?_⟩
  · rw [where_app, h3, ← h.tb]; unfold tabT; rw [e3]
  · rw [rows_app]; exact h1
  · rw [moved_app, h2, Int.add_zero, ← h.mv]; unfold entSum; rw [e4]
  · rw [rows_app]; exact h5
  · rw [sits_app, h4, e3, ← h.ky]
    simp
  · rw [e3]; exact h.kn
/-- a row put in place of another -/
theorem Eqv.put1 (h : Eqv m o w s) {n : Int} {p : Nat} {d : Dish} {r : RowT} (a : look w.dishes n = some (p, d)) (b : look (rowsT s.is) n = some r) (d' : Dish) (r' : RowT) (k : likeR m o (n, p, d') (n, r')) (hs : r'.seats = r.seats) :
    Like m o (G.put w.dishes n (p, d')) (G.put (rowsT s.is) n r') ∧ (∀ x ∈ G.put (rowsT s.is) n r', x.2.seats.Nodup) ∧ ((G.put w.dishes n (p, d')).map (·.1)).Nodup := by
  refine ⟨h.di.put k (has_of a), fun x hx => ?_, put_nodup h.dn _ _⟩
  rcases W9.mem_put hx with hx | rfl
  · exact h.se x hx
  · show r'.seats.Nodup
    rw [hs]
    exact h.se _ (look_mem b)
theorem Eqv.turn (h : Eqv m o w s) (i : Dn) (n : Int) (t : Str) (nm : Nm) (hr : rowsStep (rowsT s.is) i = match look (rowsT s.is) n with | some r => G.put (rowsT s.is) n { r with state := t } | none => rowsT s.is) (h2 : ∀ x, moveI i x = 0) (h3 : ∀ x T, whStep x T i = T) (h4 : isSit i.dd = false) : Eqv m o (turnT w n t nm) ⟨s.is ++ [i], s.idl, s.ev⟩ := by
  rcases h.di.look n with ⟨a, b⟩ | ⟨p, d, r, a, b, c⟩
  · rw [b] at hr
    have ht : turnT w n t nm = w := by unfold turnT; rw [a]
    rw [ht]
    exact h.dish i w (by rw [hr]; exact h.di) h2 h3 h4 (by rw [hr]; exact h.se) h.dn rfl rfl rfl rfl rfl rfl
  · rw [b] at hr
    have ht : turnT w n t nm = putDish w n p (turnD d t nm) := by unfold turnT; rw [a]
    rw [ht]
    obtain ⟨q1, q2, q3⟩ := h.put1 a b (turnD d t nm) { r with state := t } ⟨rfl, c.2.1, c.2.2.1, c.2.2.2.1, rfl, c.2.2.2.2.2⟩ rfl
    exact h.dish i _ (by rw [hr]; exact q1) h2 h3 h4 (by rw [hr]; exact q2) q3 rfl rfl rfl rfl rfl rfl
end
end W9
set_option Elab.async false
set_option linter.all false
set_option maxRecDepth 100000
set_option maxHeartbeats 2000000
/-! The two walks are the same. -/
namespace W9
open PySem VL G Kd
/-- what a deed of the book may be, for the two walks to be the same -/
structure VdQ (dd : Dd) : Prop where
  vd : Vd dd
  jo : ∀ t ot, dd = .join t ot → ot ≠ Str.ofString ""
  as : ∀ n it c ss, dd = .ask n it c ss → ss.Nodup
end W9
set_option Elab.async false
set_option linter.all false
set_option maxRecDepth 100000
set_option maxHeartbeats 2000000
namespace G
open PySem VL
noncomputable def B__law_draw_d1fe : En → AS → Fl :=
    (sSeq (sAsg (v2 (addD false) (v2 ixD (vVar 0) (vC (.str "turn"))) (vC (.int 1))) (kSub (vVar 0) (vC (.str "turn"))))
    (sSeq (sIf (vB (v2 gtD (v2 ixD (vVar 0) (vC (.str "left"))) (vC (.int 0)))) (sSeq (sSet 2 (v2 modD (v2 ixD (vVar 0) (vC (.str "left"))) (vVar 1)))
    (sSeq (sAsg (v2 fdivD (v2 ixD (vVar 0) (vC (.str "left"))) (vVar 1)) (kSub (vVar 0) (vC (.str "left"))))
    (sRet (vVar 2)))) sNext)
    (sSeq (sPar3 3 4 5 (vCons (v2 ixD (vVar 0) (vC (.str "at"))) (vCons (v2 ixD (vVar 0) (vC (.str "turn"))) (vCons (v2 ixD (vVar 0) (vC (.str "cells"))) vNil))))
    (sSeq (sAsg (v2 (addD false) (vVar 3) (vC (.int 1))) (kSub (vVar 0) (vC (.str "at"))))
    (sSeq (sSet 6 (vIfE (vB (v2 (eqD true) (vVar 5) (vA (gLst false) vNil))) (v2 ixD (vVar 5) (v2 modD (vVar 3) (vA (g1 lenD) (vCons (vVar 5) vNil)))) (vC (.int 349))))
    (sSeq (sIf (vAnd (vB (v2 geD (vVar 6) (v2 powD (vC (.int 10)) (vC (.int 18))))) (vB (v2 ltD (vVar 3) (vA (g1 lenD) (vCons (vVar 5) vNil))))) (sSeq (sAsg (v2 fdivD (vVar 6) (vVar 1)) (kSub (vVar 0) (vC (.str "left"))))
    (sRet (v2 modD (vVar 6) (vVar 1)))) sNext)
    (sSeq (sSet 7 (v2 modD (v2 powD (v2 (addD false) (v2 (addD false) (v2 modD (vVar 6) (vC (.int 2147483489))) (v2 (mulD false) (v2 (mulD false) (vC (.int 1009)) (vVar 4)) (vVar 4))) (vC (.int 47))) (vC (.int 5))) (vC (.int 2147483477))))
    (sRet (v2 modD (v2 fdivD (v2 modD (v2 powD (v2 (addD false) (vVar 7) (v2 (mulD false) (vC (.int 57001)) (vVar 4))) (vC (.int 5))) (vC (.int 2147483423))) (vC (.int 16))) (vVar 1))))))))))
noncomputable def F__law_draw_d1fe : List D → AS → Out D := vFn 8 0 B__law_draw_d1fe
noncomputable def B__law_words_d11e : En → AS → Fl :=
    (sSeq (sAsg (vA gTup (vCons (vC (.str "abcdefghijklmnopqrstuvwxyz")) (vCons (vCallA 2 0 [] [.pos 0, .pos 1] F__law_draw_d1fe (vCons (vVar 0) (vCons (vC (.int 26)) vNil)) vNil) (vCons (vA (gLst true) vNil) (vCons (vA (g1 (lstD true)) (vCons (vVar 1) vNil)) vNil))))) (kTup 4 (kCons (kName 3) (kCons (kName 4) (kCons (kName 5) (kCons (kName 6) kNil))))))
    (sSeq (sFor (vA rng1 (vCons (vVar 2) vNil)) (kName 7) (sKill [7, 8] (sSeq (sSet 8 (vML popAtD (vVar 6) (vCons (vCallA 2 0 [] [.pos 0, .pos 1] F__law_draw_d1fe (vCons (vVar 0) (vCons (vA (g1 lenD) (vCons (vVar 6) vNil)) vNil)) vNil) vNil)))
    (sExpr (vML appD (vVar 5) (vCons (vMS joinD (vC (.str "")) (vCons (vLc false [9] (v1 itD (vVar 8)) (kName 9) tYesV (v2 ixD (vVar 3) (v2 modD (v2 (addD false) (vMS findD (vVar 3) (vCons (vVar 9) vNil)) (vVar 4)) (vC (.int 26))))) vNil)) vNil))))))
    (sRet (vVar 5))))
noncomputable def F__law_words_d11e : List D → AS → Out D := vFn 10 4 B__law_words_d11e
noncomputable def B__law_house_2e9c : En → AS → Fl :=
    (sSeq (sSet 1 (vA (gLst false) (vCons (vC (.str "m")) (vCons (vC (.str "mn")) (vCons (vC (.str "mno")) (vCons (vC (.str "n")) (vCons (vC (.str "ll")) (vCons (vC (.str "mnopqrst")) (vCons (vC (.str "k")) (vCons (vC (.str "nm")) (vCons (vC (.str "nmn")) (vCons (vC (.str "o")) (vCons (vC (.str "om")) (vCons (vC (.str "p")) (vCons (vC (.str "q")) vNil)))))))))))))))
    (sSeq (sSet 2 (vA (g1 (sortD false)) (vCons (vCallA 3 0 [] [.pos 0, .pos 1, .pos 2] F__law_words_d11e (vCons (vVar 0) (vCons (vVar 1) (vCons (vIfE (vB (v2 (eqD false) (vCallA 2 0 [] [.pos 0, .pos 1] F__law_draw_d1fe (vCons (vVar 0) (vCons (vC (.int 8)) vNil)) vNil) (vC (.int 0)))) (vC (.int 12)) (v2 (addD false) (vC (.int 1)) (vCallA 2 0 [] [.pos 0, .pos 1] F__law_draw_d1fe (vCons (vVar 0) (vCons (vC (.int 4)) vNil)) vNil))) vNil))) vNil) vNil)))
    (sSeq (sSet 3 (vA (gLst true) vNil))
    (sSeq (sFor (v1 itD (vVar 2)) (kName 4) (sKill [4, 5, 6, 7] (sSeq (sPar 5 6 (vCons (vA (gLst true) vNil) (vCons (vC (.int 0)) vNil)))
    (sSeq (sFor (vA rng1 (vCons (v2 (addD false) (vC (.int 1)) (v2 fdivD (vCallA 2 0 [] [.pos 0, .pos 1] F__law_draw_d1fe (vCons (vVar 0) (vCons (vC (.int 4)) vNil)) vNil) (vC (.int 2)))) vNil)) (kName 7) (sKill [7] (sSeq (sExpr (vML appD (vVar 5) (vCons (vA gTup (vCons (vVar 6) (vCons (v2 ixD (vA (gLst false) (vCons (vCallA 2 0 [] [.pos 0, .pos 1] F__law_draw_d1fe (vCons (vVar 0) (vCons (vC (.int 60)) vNil)) vNil) (vCons (vCallA 2 0 [] [.pos 0, .pos 1] F__law_draw_d1fe (vCons (vVar 0) (vCons (vC (.int 3000)) vNil)) vNil) (vCons (vC (.int 100000)) vNil)))) (v2 fdivD (vCallA 2 0 [] [.pos 0, .pos 1] F__law_draw_d1fe (vCons (vVar 0) (vCons (vC (.int 8)) vNil)) vNil) (vC (.int 3)))) vNil))) vNil)))
    (sSet 6 (v2 (addD false) (v2 (addD false) (vVar 6) (vC (.int 1))) (vCallA 2 0 [] [.pos 0, .pos 1] F__law_draw_d1fe (vCons (vVar 0) (vCons (vC (.int 12)) vNil)) vNil))))))
    (sExpr (vML appD (vVar 3) (vCons (vA gTup (vCons (vVar 4) (vCons (vCallA 2 0 [] [.pos 0, .pos 1] F__law_draw_d1fe (vCons (vVar 0) (vCons (vC (.int 61)) vNil)) vNil) (vCons (vA (g1 tupD) (vCons (vVar 5) vNil)) vNil)))) vNil)))))))
    (sSeq (sSet 8 (vA (gLst true) vNil))
    (sSeq (sFor (vA rng1 (vCons (vCallA 2 0 [] [.pos 0, .pos 1] F__law_draw_d1fe (vCons (vVar 0) (vCons (vC (.int 3)) vNil)) vNil) vNil)) (kName 7) (sKill [6, 7, 9, 10] (sSeq (sSet 9 (vLc false [4] (v1 itD (vVar 2)) (kName 4) (vB (v2 (eqD false) (vCallA 2 0 [] [.pos 0, .pos 1] F__law_draw_d1fe (vCons (vVar 0) (vCons (vC (.int 2)) vNil)) vNil) (vC (.int 0)))) (vVar 4)))
    (sSeq (sPar 6 10 (vCons (vCallA 2 0 [] [.pos 0, .pos 1] F__law_draw_d1fe (vCons (vVar 0) (vCons (vC (.int 10)) vNil)) vNil) (vCons (v2 ixD (vA (gLst false) (vCons (vC (.int 0)) (vCons (vC (.int 33)) (vCons (vC (.int 50)) (vCons (vC (.int 100)) (vCons (vC (.int 7)) vNil)))))) (vCallA 2 0 [] [.pos 0, .pos 1] F__law_draw_d1fe (vCons (vVar 0) (vCons (vC (.int 5)) vNil)) vNil)) vNil)))
    (sExpr (vML appD (vVar 8) (vCons (vA gTup (vCons (vA (g1 tupD) (vCons (v1 (srtSetD false) (v2 (addD false) (vVar 9) (vA (gLst false) (vCons (vC (.str "strange")) vNil)))) vNil)) (vCons (vVar 6) (vCons (v2 (addD false) (vVar 6) (vCallA 2 0 [] [.pos 0, .pos 1] F__law_draw_d1fe (vCons (vVar 0) (vCons (vC (.int 20)) vNil)) vNil)) (vCons (vVar 10) vNil))))) vNil)))))))
    (sRet (vA gTup (vCons (vA (g1 tupD) (vCons (vVar 3) vNil)) (vCons (vA (g1 tupD) (vCons (vVar 8) vNil)) (vCons (vCallA 2 0 [] [.pos 0, .pos 1] F__law_draw_d1fe (vCons (vVar 0) (vCons (vC (.int 9)) vNil)) vNil) (vCons (v2 (addD false) (vC (.int 1)) (vCallA 2 0 [] [.pos 0, .pos 1] F__law_draw_d1fe (vCons (vVar 0) (vCons (vC (.int 3)) vNil)) vNil)) vNil))))))))))))
noncomputable def F__law_house_2e9c : List D → AS → Out D := vFn 11 0 B__law_house_2e9c
end G
set_option Elab.async false
set_option linter.all false
set_option maxRecDepth 100000
set_option maxHeartbeats 4000000
/-! The feed as a dict; k26's draw. -/
namespace W26
open PySem VL G Kd W9
def fdC (ns : List Int) (a b c : Int) : C := .dct [(.inr (Str.ofString "cells"), .lst (ns.map D.int)), (.inr (Str.ofString "at"), .int a), (.inr (Str.ofString "left"), .int b), (.inr (Str.ofString "turn"), .int c)]
section
variable {i : Nat} {ns : List Int} {a b c : Int} {st : AS}
theorem fd_cells (h : st[i]? = some (fdC ns a b c)) : ixD (.ref i) (.str (Str.ofString "cells")) st = .ok (.lst (ns.map D.int)) st := by simp -implicitDefEqProofs [h, fdC, ofs_inj]
theorem fd_at (h : st[i]? = some (fdC ns a b c)) : ixD (.ref i) (.str (Str.ofString "at")) st = .ok (.int a) st := by simp -implicitDefEqProofs [h, fdC, ofs_inj]
theorem fd_left (h : st[i]? = some (fdC ns a b c)) : ixD (.ref i) (.str (Str.ofString "left")) st = .ok (.int b) st := by simp -implicitDefEqProofs [h, fdC, ofs_inj]
theorem fd_turn (h : st[i]? = some (fdC ns a b c)) : ixD (.ref i) (.str (Str.ofString "turn")) st = .ok (.int c) st := by simp -implicitDefEqProofs [h, fdC, ofs_inj]
theorem l4 : (4 : Nat) < sizeLine := by rw [sizeLine_eq]; omega
theorem fd_setat (h : st[i]? = some (fdC ns a b c)) (x : Int) : setD (.ref i) (.str (Str.ofString "at")) (.int x) st = .ok () (st.set i (fdC ns x b c)) := by simp -implicitDefEqProofs [h, fdC, ofs_inj, putKD, l4]
theorem fd_setleft (h : st[i]? = some (fdC ns a b c)) (x : Int) : setD (.ref i) (.str (Str.ofString "left")) (.int x) st = .ok () (st.set i (fdC ns a x c)) := by simp -implicitDefEqProofs [h, fdC, ofs_inj, putKD, l4]
theorem fd_setturn (h : st[i]? = some (fdC ns a b c)) (x : Int) : setD (.ref i) (.str (Str.ofString "turn")) (.int x) st = .ok () (st.set i (fdC ns a b x)) := by simp -implicitDefEqProofs [h, fdC, ofs_inj, putKD, l4]
end
def mx (z t : Int) : Int := ((((z % 2147483489 + 1009 * t * t + 47) ^ 5 % 2147483477 + 57001 * t) ^ 5) % 2147483423) / 16
def cellT (ns : List Int) (a : Int) : Int := if ns = [] then 349 else (ns[(a % ns.length).toNat]?).getD 0
theorem draw_eq {i : Nat} {ns : List Int} {a b c m : Int} {st : AS} (h : st[i]? = some (fdC ns a b c)) (hm : 0 < m) (hm2 : m < 2 ^ 62) (ha : 0 ≤ a) (hc : 0 ≤ c) (hcT : c < 2 ^ 20) (hn : ns.length ≤ 1000000) :
    ∃ r a' b', F__law_draw_d1fe [.ref i, .int m] st = .ok (.int r) (st.set i (fdC ns a' b' (c + 1))) ∧ 0 ≤ r ∧ r < m ∧ 0 ≤ a' := by
  have hl : i < st.length := (List.getElem?_eq_some_iff.mp h).1
  have g : ∀ x : C, (st.set i x)[i]? = some x := fun x => List.getElem?_set_self hl
  have ss : ∀ x y : C, (st.set i x).set i y = st.set i y := fun x y => List.set_set ..
  have lg : m.natAbs.log2 < 9000 := Nat.lt_of_le_of_lt (Nat.log2_lt (show m.natAbs ≠ 0 by omega) |>.mpr (show m.natAbs < 2 ^ 62 by omega) |> Nat.le_of_lt) (by decide)
  have dm : ∀ x : Int, L2.CDivW x m := fun x => ⟨hm, lg⟩
  have d16 : ∀ x : Int, L2.CDivW x 16 := fun x => ⟨by decide, by decide⟩
  have t1 := fd_turn h
  have t2 := fd_setturn h (c + 1)
  have l1 : ∀ b', ixD (.ref i) (.str (Str.ofString "left")) (st.set i (fdC ns a b' (c + 1))) = .ok (.int b') (st.set i (fdC ns a b' (c + 1))) := fun b' => fd_left (g _)
  have l2 : ∀ a' b' x, setD (.ref i) (.str (Str.ofString "left")) (.int x) (st.set i (fdC ns a' b' (c + 1))) = .ok () (st.set i (fdC ns a' x (c + 1))) := fun a' b' x => by
    rw [fd_setleft (g _), ss]
  by_cases hb : 0 < b
  · refine ⟨b % m, a, b / m, ?_, Int.emod_nonneg _ (by omega), Int.emod_lt_of_pos _ hm, ha⟩
    simp -implicitDefEqProofs [-ixD, -setD, F__law_draw_d1fe, B__law_draw_d1fe, t1, t2, l1, l2, hb, hm, dm]
  · have k1 : ∀ b', ixD (.ref i) (.str (Str.ofString "at")) (st.set i (fdC ns a b' (c + 1))) = .ok (.int a) (st.set i (fdC ns a b' (c + 1))) := fun b' => fd_at (g _)
    have k2 : ∀ b', ixD (.ref i) (.str (Str.ofString "turn")) (st.set i (fdC ns a b' (c + 1))) = .ok (.int (c + 1)) (st.set i (fdC ns a b' (c + 1))) := fun b' => fd_turn (g _)
    have k3 : ∀ b', ixD (.ref i) (.str (Str.ofString "cells")) (st.set i (fdC ns a b' (c + 1))) = .ok (.lst (ns.map D.int)) (st.set i (fdC ns a b' (c + 1))) := fun b' => fd_cells (g _)
    have k4 : setD (.ref i) (.str (Str.ofString "at")) (.int (a + 1)) (st.set i (fdC ns a b (c + 1))) = .ok () (st.set i (fdC ns (a + 1) b (c + 1))) := by
      rw [fd_setat (g _), ss]
    have ne := fun S => ne_ints (xs := ns) true S
    have pw : L2.CPow 10 18 := ⟨by decide, by decide, by decide⟩
    generalize ht : c + 1 = t at *
    have t0 : 0 ≤ t := by omega
    have t9 : t ≤ 2 ^ 20 := by omega
    have tt : 0 ≤ 1009 * t * t ∧ 1009 * t * t ≤ 1009 * 2 ^ 20 * 2 ^ 20 := ⟨Int.mul_nonneg (by omega) t0, Int.mul_le_mul (by omega) t9 t0 (by decide)⟩
    have mo : VL.MulOk 1009 t := .inl (.inl ⟨by decide, by decide⟩)
    have mo3 : VL.MulOk 57001 t := .inl (.inl ⟨by decide, by decide⟩)
    have mo2 : VL.MulOk (1009 * t) t := .inl (.inr ⟨by omega, by omega⟩)
    have p1 : ∀ z : Int, L2.CPow (z % 2147483489 + 1009 * t * t + 47) 5 := fun z => by
      have h1 := Int.emod_nonneg z (show (2147483489 : Int) ≠ 0 by decide)
      have h2 := Int.emod_lt_of_pos z (show (0 : Int) < 2147483489 by decide)
      refine ⟨by decide, by decide, ?_⟩
      generalize 1009 * t * t = u at *
      omega
    have p2 : ∀ z : Int, L2.CPow (z % 2147483477 + 57001 * t) 5 := fun z => by
      have h1 := Int.emod_nonneg z (show (2147483477 : Int) ≠ 0 by decide)
      have h2 := Int.emod_lt_of_pos z (show (0 : Int) < 2147483477 by decide)
      refine ⟨by decide, by decide, ?_⟩
      omega
    have z6 : ∀ S : AS, vIfE (vB (v2 (eqD true) (vVar 5) (vA (gLst false) vNil))) (v2 ixD (vVar 5) (v2 modD (vVar 3) (vA (g1 lenD) (vCons (vVar 5) vNil)))) (vC (.int 349)) [some (.ref i), some (.int m), none, some (.int a), some (.int t), some (.lst (ns.map D.int)), none, none] S = .ok (.int (cellT ns a)) S := fun S => by
      have l0 : (0 : Nat) ≤ sizeLine := by rw [sizeLine_eq]; omega
      by_cases e : ns = []
      · subst e
        have q := ne S
        simp only [List.map_nil, List.isEmpty_nil] at q
        simp -implicitDefEqProofs [q, mk, l0, cellT]
      · have hp : 0 < ns.length := List.length_pos_iff.mpr e
        have hp' : (0 : Int) < ns.length := by omega
        have h1 := Int.emod_nonneg a (show (ns.length : Int) ≠ 0 by omega)
        have h2 := Int.emod_lt_of_pos a (show (0 : Int) < ns.length by omega)
        have hlt : (a % ns.length).toNat < ns.length := by omega
        have em : ns.isEmpty = false := by cases ns <;> simp_all
        have q := ne S
        rw [em] at q
        simp -implicitDefEqProofs [q, mk, l0, cellT, e, hp, hp', L2.atI, L2.ixN, h1, h2, hlt]
    generalize cellT ns a = z at *
    have ln : ∀ S : AS, lenD (.lst (ns.map D.int)) S = .ok (.int ns.length) S := fun S => by simp
    have fin : ((z % 2147483489 + 1009 * t * t + 47) ^ 5 % 2147483477 + 57001 * t) ^ 5 % 2147483423 / 16 % m = mx z t % m := rfl
    by_cases q1 : (1000000000000000000 : Int) ≤ z
    · by_cases q2 : a < ns.length
      · refine ⟨z % m, a + 1, z / m, ?_, Int.emod_nonneg _ (by omega), Int.emod_lt_of_pos _ hm, by omega⟩
        simp only [vB] at z6
        simp -implicitDefEqProofs [-ixD, -setD, -lenD, -vIfE, F__law_draw_d1fe, B__law_draw_d1fe, t1, ht, t2, l1, l2, k1, k2, k3, k4, z6, hb, hm, dm, pw, q1, q2, ln]
      · refine ⟨mx z t % m, a + 1, b, ?_, Int.emod_nonneg _ (by omega), Int.emod_lt_of_pos _ hm, by omega⟩
        simp only [vB] at z6
        simp -implicitDefEqProofs [-ixD, -setD, -lenD, -vIfE, F__law_draw_d1fe, B__law_draw_d1fe, t1, ht, t2, l1, l2, k1, k2, k3, k4, z6, hb, hm, dm, d16, pw, q1, q2, ln, mo, mo2, mo3, p1, p2, fin]
    · refine ⟨mx z t % m, a + 1, b, ?_, Int.emod_nonneg _ (by omega), Int.emod_lt_of_pos _ hm, by omega⟩
      simp only [vB] at z6
      simp -implicitDefEqProofs [-ixD, -setD, -lenD, -vIfE, F__law_draw_d1fe, B__law_draw_d1fe, t1, ht, t2, l1, l2, k1, k2, k3, k4, z6, hb, hm, dm, d16, pw, q1, ln, mo, mo2, mo3, p1, p2, fin]
end W26
set_option Elab.async false
set_option linter.all false
set_option maxRecDepth 100000
set_option maxHeartbeats 4000000
/-! The feed as a dict: what a draw leaves. -/
namespace W26
open PySem VL G Kd W9
structure Fw (i : Nat) (ns : List Int) (n : Nat) (st : AS) : Prop where
  h : ∃ a b c, st[i]? = some (fdC ns a b c) ∧ 0 ≤ a ∧ 0 ≤ c ∧ c ≤ n
  nl : ns.length ≤ 1000000
section
variable {i : Nat} {ns : List Int} {n : Nat} {st : AS}
theorem Fw.mono {m : Nat} (h : Fw i ns n st) (hm : n ≤ m) : Fw i ns m st := by
  obtain ⟨⟨a, b, c, h1, h2, h3, h4⟩, k⟩ := h
  exact ⟨⟨a, b, c, h1, h2, h3, by omega⟩, k⟩
theorem Fw.lt (h : Fw i ns n st) : i < st.length := by
  obtain ⟨⟨a, b, c, h1, _⟩, _⟩ := h
  exact (List.getElem?_eq_some_iff.mp h1).1
theorem Fw.to {st' : AS} (h : Fw i ns n st) (e : st'[i]? = st[i]?) : Fw i ns n st' := by
  obtain ⟨⟨a, b, c, h1, h2, h3, h4⟩, k⟩ := h
  exact ⟨⟨a, b, c, by rw [e]; exact h1, h2, h3, h4⟩, k⟩
theorem Fw.push (h : Fw i ns n st) (X : List C) : Fw i ns n (st ++ X) := h.to (List.getElem?_append_left h.lt)
theorem Fw.put {j : Nat} (h : Fw i ns n st) (c : C) (hj : j ≠ i) : Fw i ns n (st.set j c) := h.to (List.getElem?_set_ne hj)
end
/-- a step that changes the feed alone -/
structure Dw (i : Nat) (ns : List Int) (n : Nat) (st st' : AS) : Prop where
  fd : Fw i ns n st'
  len : st'.length = st.length
  at_ : ∀ j, j ≠ i → st'[j]? = st[j]?
theorem Dw.refl {i : Nat} {ns : List Int} {n : Nat} {st : AS} (h : Fw i ns n st) : Dw i ns n st st := ⟨h, rfl, fun _ _ => rfl⟩
theorem Dw.trans {i : Nat} {ns : List Int} {n m : Nat} {a b c : AS} (h : Dw i ns n a b) (k : Dw i ns m b c) : Dw i ns m a c := ⟨k.fd, k.len.trans h.len, fun j hj => (k.at_ j hj).trans (h.at_ j hj)⟩
theorem draw_ok {i : Nat} {ns : List Int} {n : Nat} {st : AS} {m : Int} (h : Fw i ns n st) (hn : n < 1000000) (h0 : 0 < m) (h1 : m < 4611686018427387904) :
    ∃ r st1, F__law_draw_d1fe [.ref i, .int m] st = .ok (.int r) st1 ∧ 0 ≤ r ∧ r < m ∧ Dw i ns (n + 1) st st1 := by
  obtain ⟨⟨a, b, c, e, ha, hc, hcn⟩, nl⟩ := h
  have p20 : (2 : Int) ^ 20 = 1048576 := by decide
  have p62 : (2 : Int) ^ 62 = 4611686018427387904 := by decide
  obtain ⟨r, a', b', q, r0, r1, ha'⟩ := draw_eq (m := m) e h0 (by omega) ha hc (by omega) nl
  have hl : i < st.length := (List.getElem?_eq_some_iff.mp e).1
  exact ⟨r, _, q, r0, r1, ⟨⟨⟨a', b', c + 1, List.getElem?_set_self hl, ha', by omega, by omega⟩, nl⟩, by simp, fun j hj => List.getElem?_set_ne (Ne.symm hj)⟩⟩
theorem f_feed (ns : List Int) (hn : ns.length ≤ 63) : ∃ st, F__law_feed_7fb9 [.fzl (ns.map D.int)] [] = .ok (.ref 0) st ∧ Fw 0 ns 0 st := by
  have l63 : ns.length ≤ sizeLine := by rw [sizeLine_eq]; omega
  have l4 : (4 : Nat) ≤ sizeLine := by rw [sizeLine_eq]; omega
  have ct : VL.cut (ns.map D.int) none (some 63) = ns.map D.int := by
    rw [cut_to _ 63 (by decide)]
    rw [List.take_of_length_le (by rw [List.length_map]; exact hn)]
  refine ⟨[fdC ns 0 0 0], ?_, ⟨⟨0, 0, 0, rfl, by omega, by omega, by omega⟩, by omega⟩⟩
  simp -implicitDefEqProofs [F__law_feed_7fb9, B__law_feed_7fb9, ct, fdC, mk, l63, l4, ofs_inj, putKD, VL.ret, frzD, D.low]
end W26
set_option Elab.async false
set_option linter.all false
set_option maxRecDepth 100000
set_option maxHeartbeats 1000000
/-! The draws that many laws share, over any draw. -/
namespace WG
open PySem VL G Kd W9 W26
/-- a draw: some number below, the feed goes on -/
abbrev DrawOk (dr : List D → AS → Out D) : Prop := ∀ {i : Nat} {ns : List Int} {n : Nat} {st : AS} {m : Int}, Fw i ns n st → n < 1000000 → 0 < m → m < 4611686018427387904 → ∃ r st1, dr [.ref i, .int m] st = .ok (.int r) st1 ∧ 0 ≤ r ∧ r < m ∧ Dw i ns (n + 1) st st1
noncomputable def wordsB (dr : List D → AS → Out D) : En → AS → Fl :=
    (sSeq (sAsg (vA gTup (vCons (vC (.str "abcdefghijklmnopqrstuvwxyz")) (vCons (vCallA 2 0 [] [.pos 0, .pos 1] dr (vCons (vVar 0) (vCons (vC (.int 26)) vNil)) vNil) (vCons (vA (gLst true) vNil) (vCons (vA (g1 (lstD true)) (vCons (vVar 1) vNil)) vNil))))) (kTup 4 (kCons (kName 3) (kCons (kName 4) (kCons (kName 5) (kCons (kName 6) kNil))))))
    (sSeq (sFor (vA rng1 (vCons (vVar 2) vNil)) (kName 7) (sKill [7, 8] (sSeq (sSet 8 (vML popAtD (vVar 6) (vCons (vCallA 2 0 [] [.pos 0, .pos 1] dr (vCons (vVar 0) (vCons (vA (g1 lenD) (vCons (vVar 6) vNil)) vNil)) vNil) vNil)))
    (sExpr (vML appD (vVar 5) (vCons (vMS joinD (vC (.str "")) (vCons (vLc false [9] (v1 itD (vVar 8)) (kName 9) tYesV (v2 ixD (vVar 3) (v2 modD (v2 (addD false) (vMS findD (vVar 3) (vCons (vVar 9) vNil)) (vVar 4)) (vC (.int 26))))) vNil)) vNil))))))
    (sRet (vVar 5))))
noncomputable def wordsF (dr : List D → AS → Out D) : List D → AS → Out D := vFn 10 4 (wordsB dr)
end WG
set_option Elab.async false
set_option linter.all false
set_option maxRecDepth 100000
set_option maxHeartbeats 2000000
namespace Kd
open PySem PySem.Spec PyProof.Rows L2 TB VL G K02
/-! ### letters -/
def mkS (cs : List Nat) : Str := ⟨cs.toArray⟩
theorem mkS_len (cs : List Nat) : (mkS cs).length = cs.length := by
  show cs.toArray.size = _
  simp
theorem mkS_cps (cs : List Nat) : (mkS cs).cps.toList = cs := by
  show cs.toArray.toList = _
  simp
theorem mkS_self (x : Str) : mkS x.cps.toList = x := by
  unfold mkS
  cases x
  simp
theorem word_mk {x : Str} (h : wordS x = true) : ∃ cs, x = mkS cs ∧ Wd cs := by
  unfold wordS at h
  simp only [Bool.and_eq_true, decide_eq_true_eq, List.all_eq_true] at h
  obtain ⟨h1, h2, h3⟩ := h
  have hl : x.cps.toList.length = x.length := by
    rw [Array.length_toList]
    rfl
  refine ⟨x.cps.toList, (mkS_self x).symm, by omega, by omega, fun c hc => ?_⟩
  have := h3 c hc
  simp only [letter, Bool.and_eq_true, decide_eq_true_eq] at this
  exact this
end Kd
set_option Elab.async false
set_option linter.all false
set_option maxRecDepth 100000
set_option maxHeartbeats 2000000
/-! A word that is drawn, unlike those found. -/
namespace Kd
open PySem PySem.Spec PyProof.Rows L2 TB VL G K02
/-- a thing that tells a list of texts: a value, or a cell beside the feed -/
def Wl (i : Nat) (st : AS) (d : D) (xs : List Str) : Prop := d = .lst (xs.map D.str) ∨ ∃ j, d = .ref j ∧ j ≠ i ∧ st[j]? = some (.lst (xs.map D.str))
theorem Wl.seq {i : Nat} {st : AS} {d : D} {xs : List Str} (h : Wl i st d xs) : seqOf st d = some (xs.map D.str) := by
  rcases h with rfl | ⟨j, rfl, h2, h3⟩
  · rfl
  · simp [h3]
theorem Wl.len {i : Nat} {st : AS} {d : D} {xs : List Str} (h : Wl i st d xs) (hl : xs.length ≤ 1000) : lenD d st = .ok (.int xs.length) st := by
  have hs := h.seq
  unfold lenD
  rw [hs]
  have : xs.length ≤ sizeLine := by rw [sizeLine_eq]; omega
  simp [this]
theorem Wl.nil {i : Nat} {st : AS} {d : D} {xs : List Str} (h : Wl i st d xs) (hl : xs.length ≤ 1000) (hw : ∀ x ∈ xs, wordS x = true) : eqD false d (.lst []) st = .ok (.bl xs.isEmpty) st := by
  have hx : ∀ x ∈ xs, asc x ∧ x.length ≤ 20 + 0 := fun x hx => by
    obtain ⟨cs, rfl, w⟩ := word_mk (hw x hx)
    have := w.n1
    refine ⟨fun c hc => ?_, by rw [mkS_len]; omega⟩
    rw [mkS_cps] at hc
    have := (w.lt c hc).2
    omega
  have f1 := fit_strs xs (by omega) (by omega) hx
  have ev := eqv_lst_nil2 (xs.map D.str)
  have hv : valD st d = .lst (xs.map D.str) := by
    rcases h with rfl | ⟨j, rfl, h2, h3⟩
    · rfl
    · simp [h3]
  have sc : scalD d = false := by
    rcases h with rfl | ⟨j, rfl, h2, h3⟩ <;> rfl
  have e2 : (List.map D.str xs).isEmpty = xs.isEmpty := by cases xs <;> rfl
  unfold eqD
  rw [sc, hv]
  simp [f1, fit_nil, ev, e2]
end Kd
set_option Elab.async false
set_option linter.all false
set_option maxRecDepth 100000
set_option maxHeartbeats 4000000
/-! The words that a law draws: words turned round the alphabet. -/
namespace W26
open PySem VL G Kd W9
def abcS : Str := Str.ofString "abcdefghijklmnopqrstuvwxyz"
def chS (c : Nat) : Str := ⟨#[c]⟩
def rot (k : Nat) (w : Str) : Str := Txt.join (Str.ofString "") (w.cps.toList.map fun c => chS (97 + (c - 97 + k) % 26))
def lowW (w : Str) : Bool := w.cps.toList.all (fun c => decide (97 ≤ c ∧ c < 123)) && decide (w.length ≤ 20)
theorem fnd : ∀ c : Fin 26, Txt.find abcS (chS (97 + c.val)) = ((c.val : Nat) : Int) := by decide +kernel
theorem atS : ∀ k : Fin 26, L2.atI abcS.cps.toList ((k.val : Nat) : Int) = some (97 + k.val) := by decide +kernel
noncomputable abbrev wdE : En → AS → Out D := (v2 ixD (vVar 3) (v2 modD (v2 (addD false) (vMS findD (vVar 3) (vCons (vVar 9) vNil)) (vVar 4)) (vC (.int 26))))
theorem rot_one {x0 x1 x2 x5 x6 x7 x8 : D} {k c : Nat} (hc : 97 ≤ c ∧ c < 123) (st : AS) : wdE [some x0, some x1, some x2, some (.str abcS), some (.int (k : Nat)), some x5, some x6, some x7, some x8, some (.str (chS c))] st = .ok (.str (chS (97 + (c - 97 + k) % 26))) st := by
  have f := fnd ⟨c - 97, by omega⟩
  have e : 97 + (c - 97) = c := by omega
  simp only [e] at f
  have hk : ((c - 97 : Nat) : Int) + (k : Nat) = ((c - 97 + k : Nat) : Int) := by omega
  have a := atS ⟨(c - 97 + k) % 26, Nat.mod_lt _ (by decide)⟩
  simp only at a
  have hm : (((c - 97 + k : Nat) : Int)) % 26 = (((c - 97 + k) % 26 : Nat) : Int) := by omega
  rw [← hm, ← hk] at a
  have ll : abcS.length ≤ sizeLine := by rw [sizeLine_eq]; decide +kernel
  simp only [chS] at f a ⊢
  simp -implicitDefEqProofs [wdE, f, a, ll]
theorem rot_comp {x0 x1 x2 x5 x6 x7 : D} {k : Nat} {w : Str} (hw : lowW w = true) (st : AS) : compL (kName 9) tYesV wdE [some x0, some x1, some x2, some (.str abcS), some (.int (k : Nat)), some x5, some x6, some x7, some (.str w), none] [] (w.cps.toList.map fun c => .str ⟨#[c]⟩) st = .ok ((w.cps.toList.map fun c => chS (97 + (c - 97 + k) % 26)).map D.str) st := by
  rw [comp_all (fun c : Nat => D.str ⟨#[c]⟩) (fun c => .str (chS (97 + (c - 97 + k) % 26))) ok_nil _ ?c]
  · rw [List.map_map]; rfl
  case c =>
    intro c hc
    have h1 := (Bool.and_eq_true_iff.mp hw).1
    have h2 := of_decide_eq_true (List.all_eq_true.mp h1 c hc)
    exact ⟨_, rfl, rfl, rot_one h2 st⟩
end W26
set_option Elab.async false
set_option linter.all false
set_option maxRecDepth 100000
set_option maxHeartbeats 4000000
/-! The words that a law draws: the loop. -/
namespace W26
open PySem VL G Kd W9
noncomputable abbrev wdB : En → AS → Fl := (sKill [7, 8] (sSeq (sSet 8 (vML popAtD (vVar 6) (vCons (vCallA 2 0 [] [.pos 0, .pos 1] F__law_draw_d1fe (vCons (vVar 0) (vCons (vA (g1 lenD) (vCons (vVar 6) vNil)) vNil)) vNil) vNil)))
    (sExpr (vML appD (vVar 5) (vCons (vMS joinD (vC (.str "")) (vCons (vLc false [9] (v1 itD (vVar 8)) (kName 9) tYesV wdE) vNil)) vNil)))))
theorem erase_map {α β : Type} (f : α → β) : ∀ (P : List α) (r : Nat), (P.map f).eraseIdx r = (P.eraseIdx r).map f
  | [], _ => rfl
  | x :: P, 0 => rfl
  | x :: P, r + 1 => by
    rw [List.map_cons, List.eraseIdx_cons_succ, List.eraseIdx_cons_succ, List.map_cons, erase_map f P r]
theorem perm_cons {α : Type} : ∀ (P : List α) (r : Nat) {d : α}, P[r]? = some d → (d :: P.eraseIdx r).Perm P
  | [], r, d, h => by simp at h
  | x :: P, 0, d, h => by
    simp at h
    subst h
    exact List.Perm.refl _
  | x :: P, r + 1, d, h => by
    rw [List.getElem?_cons_succ] at h
    rw [List.eraseIdx_cons_succ]
    exact (List.Perm.swap x d _).trans ((perm_cons P r h).cons x)
theorem perm_step {α : Type} (A P : List α) {r : Nat} {d : α} (h : P[r]? = some d) : ((A ++ [d]) ++ P.eraseIdx r).Perm (A ++ P) := by
  rw [List.append_assoc]
  exact List.Perm.append_left A (perm_cons P r h)
theorem lowW_len {w : Str} (h : lowW w = true) : w.cps.toList.length ≤ 20 := by
  have := of_decide_eq_true (Bool.and_eq_true_iff.mp h).2
  simpa [PySem.Str.length] using this
theorem join_len (ys : List Str) (h : ∀ y ∈ ys, y.length = 1) : (ys.map (·.length)).sum = ys.length := by
  induction ys with
  | nil => rfl
  | cons y ys ih =>
    rw [List.map_cons, List.sum_cons, h y List.mem_cons_self, ih fun z hz => h z (List.mem_cons_of_mem _ hz), List.length_cons]
    omega
theorem words_loop {i L : Nat} {ns : List Int} {k : Nat} {x1 x2 : D} : ∀ (js : List D) (N : Nat) (S : AS) (A P : List Str), Fw i ns N S → N + js.length < 100000 → i ≠ L → i ≠ L + 1 → S[L]? = some (.lst ((A.map (rot k)).map D.str)) → S[L + 1]? = some (.lst (P.map D.str)) → js.length ≤ P.length → A.length + js.length ≤ 1000 → P.length ≤ 1000 → (∀ w ∈ P, lowW w = true) →
    ∃ (S' : AS) (A' P' : List Str), forL (kName 7) wdB [] js [some (.ref i), some x1, some x2, some (.str abcS), some (.int (k : Nat)), some (.ref L), some (.ref (L + 1)), none, none, none] S = .nx [some (.ref i), some x1, some x2, some (.str abcS), some (.int (k : Nat)), some (.ref L), some (.ref (L + 1)), none, none, none] S' ∧ Fw i ns (N + js.length) S' ∧ S'[L]? = some (.lst ((A'.map (rot k)).map D.str)) ∧ (A' ++ P').Perm (A ++ P) ∧ A'.length = A.length + js.length ∧ S'.length = S.length ∧ ∀ j, j ≠ i → j ≠ L → j ≠ L + 1 → S'[j]? = S[j]?
  | [], N, S, A, P, f, _, _, _, hA, hP, _, _, _, _ => ⟨S, A, P, by simp [forL], f, hA, List.Perm.refl _, rfl, rfl, fun _ _ _ _ => rfl⟩
  | d :: js, N, S, A, P, f, hN, i1, i2, hA, hP, hl, ha, hp, hw => by
    simp only [List.length_cons] at hN hl ha
    obtain ⟨r, S1, e1, r0, r1, D1⟩ := draw_ok (m := (P.length : Nat)) f (by omega) (by omega) (by omega)
    obtain ⟨rn, rfl⟩ : ∃ rn : Nat, r = rn := ⟨r.toNat, by omega⟩
    have hr : rn < P.length := by omega
    have hA1 : S1[L]? = some (.lst ((A.map (rot k)).map D.str)) := by rw [D1.at_ L (Ne.symm i1)]; exact hA
    have hP1 : S1[L + 1]? = some (.lst (P.map D.str)) := by rw [D1.at_ (L + 1) (Ne.symm i2)]; exact hP
    have wk : P[rn]? = some P[rn] := List.getElem?_eq_getElem hr
    have wl : lowW P[rn] = true := hw _ (List.getElem_mem hr)
    generalize hW : P[rn] = w at *
    have sl : P.length ≤ sizeLine := by rw [sizeLine_eq]; omega
    have L0 := (List.getElem?_eq_some_iff.mp hA1).1
    have L1 := (List.getElem?_eq_some_iff.mp hP1).1
    -- the pool
    have ep : (P.map D.str).eraseIdx rn = (P.eraseIdx rn).map D.str := erase_map D.str P rn
    have pop : popAtD (.ref (L + 1)) [.int (rn : Nat)] S1 = .ok (.str w) (S1.set (L + 1) (.lst ((P.eraseIdx rn).map D.str))) := by
      have ix : L2.ixN (P.map D.str).length (rn : Nat) = some rn := by
        rw [List.length_map]
        unfold L2.ixN
        split <;> simp_all
      have at_ : (P.map D.str)[rn]? = some (.str w) := by rw [List.getElem?_map, wk]; rfl
      rw [← ep]
      generalize P.map D.str = Q at *
      have b1 : (-9223372036854775808 : Int) ≤ (rn : Nat) ∧ ((rn : Nat) : Int) < 9223372036854775808 := by omega
      simp -implicitDefEqProofs [hP1, ix, at_, b1]
    have hA2 : (S1.set (L + 1) (.lst ((P.eraseIdx rn).map D.str)))[L]? = some (.lst ((A.map (rot k)).map D.str)) := by rw [List.getElem?_set_ne (by omega)]; exact hA1
    have hP2 : (S1.set (L + 1) (.lst ((P.eraseIdx rn).map D.str)))[L + 1]? = some (.lst ((P.eraseIdx rn).map D.str)) := List.getElem?_set_self L1
    have f2 := D1.fd.put (.lst ((P.eraseIdx rn).map D.str)) (Ne.symm i2)
    generalize hS2 : S1.set (L + 1) (.lst ((P.eraseIdx rn).map D.str)) = S2 at *
    have S2l : S2.length = S.length := by rw [← hS2, List.length_set, D1.len]
    have S2a : ∀ j, j ≠ i → j ≠ L + 1 → S2[j]? = S[j]? := fun j h1 h2 => by rw [← hS2, List.getElem?_set_ne (Ne.symm h2), D1.at_ j h1]
    have al : ((A.map (rot k)).map D.str).length < sizeLine := by rw [List.length_map, List.length_map, sizeLine_eq]; omega
    have app : appD (.ref L) [.str (rot k w)] S2 = .ok .non (S2.set L (.lst (((A ++ [w]).map (rot k)).map D.str))) := by
      have e : ((A ++ [w]).map (rot k)).map D.str = (A.map (rot k)).map D.str ++ [.str (rot k w)] := by simp
      rw [e]
      generalize (A.map (rot k)).map D.str = Q at *
      simp -implicitDefEqProofs [hA2, al]
    have hA3 : (S2.set L (.lst (((A ++ [w]).map (rot k)).map D.str)))[L]? = some (.lst (((A ++ [w]).map (rot k)).map D.str)) := List.getElem?_set_self (List.getElem?_eq_some_iff.mp hA2).1
    have hP3 : (S2.set L (.lst (((A ++ [w]).map (rot k)).map D.str)))[L + 1]? = some (.lst ((P.eraseIdx rn).map D.str)) := by rw [List.getElem?_set_ne (by omega)]; exact hP2
    have el : (P.eraseIdx rn).length = P.length - 1 := List.length_eraseIdx_of_lt hr
    obtain ⟨S', A', P', e4, f4, g4, p4, l4, s4, a4⟩ := words_loop (x1 := x1) (x2 := x2) js (N + 1) _ (A ++ [w]) (P.eraseIdx rn) (f2.put (.lst (((A ++ [w]).map (rot k)).map D.str)) (Ne.symm i1)) (by omega) i1 i2 hA3 hP3 (by omega) (by rw [List.length_append, List.length_singleton]; omega) (by omega) (fun y hy => hw y ((List.eraseIdx_sublist P rn).subset hy))
    have cm := rot_comp (x0 := .ref i) (x1 := x1) (x2 := x2) (x5 := .ref L) (x6 := .ref (L + 1)) (x7 := d) (k := k) wl S2
    have jn : joinD (.str (Str.ofString "")) [.lst ((w.cps.toList.map fun c => chS (97 + (c - 97 + k) % 26)).map D.str)] S2 = .ok (.str (rot k w)) S2 := by
      have e1 : strsOf ((w.cps.toList.map fun c => chS (97 + (c - 97 + k) % 26)).map D.str) = some (w.cps.toList.map fun c => chS (97 + (c - 97 + k) % 26)) := strs_of _
      have e2 := join_len (w.cps.toList.map fun c => chS (97 + (c - 97 + k) % 26)) (fun y hy => by
        obtain ⟨c, _, rfl⟩ := List.mem_map.mp hy
        rfl)
      have e3 := lowW_len wl
      rw [List.length_map] at e2
      have e0 : (Str.ofString "").length = 0 := by decide +kernel
      have rt : rot k w = Txt.join (Str.ofString "") (w.cps.toList.map fun c => chS (97 + (c - 97 + k) % 26)) := rfl
      rw [rt]
      have e4 : (w.cps.toList.map fun c => chS (97 + (c - 97 + k) % 26)).length ≤ 20 := by rw [List.length_map]; exact e3
      generalize w.cps.toList.map (fun c => chS (97 + (c - 97 + k) % 26)) = ys at *
      simp -implicitDefEqProofs only [joinD, seqOf, VL.listOf, e1]
      rw [if_pos (by rw [e2, e0]; omega)]
    refine ⟨S', A', P', ?_, by rw [show N + (d :: js).length = N + 1 + js.length by simp; omega]; exact f4, g4, p4.trans (perm_step A P wk), by rw [l4, List.length_append, List.length_singleton, List.length_cons]; omega, by rw [s4, List.length_set, S2l], fun j h1 h2 h3 => by rw [a4 j h1 h2 h3, List.getElem?_set_ne (Ne.symm h2), S2a j h1 h3]⟩
    have wz : (w.cps.toList.map fun c => D.str ⟨#[c]⟩).length ≤ sizeLine := by
      have := lowW_len wl
      rw [List.length_map, sizeLine_eq]
      omega
    have its : itD (.str w) S2 = .ok (w.cps.toList.map fun c => .str ⟨#[c]⟩, []) S2 := by simp
    have ln : lenD (.ref (L + 1)) S = .ok (.int P.length) S := by simp [hP, sl]
    rw [forL, if_pos gd_nilOk, ← e4]
    simp only [wdE] at cm
    generalize hC : w.cps.toList.map (fun c => chS (97 + (c - 97 + k) % 26)) = ys at *
    have yl : ys.length ≤ sizeLine := by
      rw [← hC, List.length_map, sizeLine_eq]
      have := lowW_len wl
      omega
    generalize w.cps.toList.map (fun c => D.str ⟨#[c]⟩) = cs at *
    generalize ((A ++ [w]).map (rot k)).map D.str = Q2 at *
    generalize (A.map (rot k)).map D.str = Q at *
    generalize (P.eraseIdx rn).map D.str = R2 at *
    simp -implicitDefEqProofs [-itD, -lenD, -popAtD, -appD, -joinD, hP, ln, e1, hP1, pop, its, wz, cm, mk, jn, hA2, app]
end W26
set_option Elab.async false
set_option linter.all false
set_option maxRecDepth 100000
set_option maxHeartbeats 4000000
/-! The words that a law draws. -/
namespace W26
open PySem VL G Kd W9
theorem fd_low (ns : List Int) (a b c : Int) (n : Nat) : (fdC ns a b c).low n = true := by
  have h1 : (D.lst (ns.map D.int)).low n = true := pure_low _ (by rw [D.pure]; exact pures_ints ns)
  rw [D.low] at h1
  simp [fdC, C.low, h1, D.low, D.lows]
theorem ret_new {k i N : Nat} {ns : List Int} {st S : AS} {ds : List D} (hS : S[st.length]? = some (.lst ds)) (hp : D.pures ds = true) (f : Fw i ns N S) (hi : i < st.length) (ha : ∀ j, j < st.length → j ≠ i → S[j]? = st[j]?) : VL.ret (k + 1) st (.ref st.length) S = .ok (.lst ds) (S.take st.length) ∧ Dw i ns N st (S.take st.length) := by
  have sl := (List.getElem?_eq_some_iff.mp hS).1
  obtain ⟨⟨a, b, c, h1, h2, h3, h4⟩, nl⟩ := f
  constructor
  · unfold VL.ret
    rw [if_neg (by omega), frz_ref (Nat.le_refl _) hS hp, if_pos ⟨pure_low _ (by rw [D.pure]; exact hp), fun j c' hj ec => by
      by_cases z : j = i
      · right
        rw [z, h1] at ec
        cases ec
        exact fd_low _ _ _ _ _
      · left
        rw [ha j hj z] at ec
        exact ec⟩]
  · refine ⟨⟨⟨a, b, c, by rw [List.getElem?_take_of_lt hi]; exact h1, h2, h3, h4⟩, nl⟩, by rw [List.length_take]; omega, fun j hj => ?_⟩
    by_cases z : j < st.length
    · rw [List.getElem?_take_of_lt z]
      exact ha j z hj
    · rw [List.getElem?_eq_none (by rw [List.length_take]; omega), List.getElem?_eq_none (by omega)]
theorem f_words {i N : Nat} {ns : List Int} {st : AS} (f : Fw i ns N st) (base : List Str) (n : Nat) (hn : n ≤ base.length) (bl : base.length ≤ 100) (hw : ∀ w ∈ base, lowW w = true) (hN : N + 1 + n < 100000) :
    ∃ (k : Nat) (A : List Str) (S' : AS), F__law_words_d11e [.ref i, .lst (base.map D.str), .int (n : Nat)] st = .ok (.lst ((A.map (rot k)).map D.str)) S' ∧ k < 26 ∧ Dw i ns (N + 1 + n) st S' ∧ A.length = n ∧ ∃ P, (A ++ P).Perm base := by
  obtain ⟨r, S1, e1, r0, r1, D1⟩ := draw_ok (m := 26) f (by omega) (by omega) (by omega)
  obtain ⟨k, rfl⟩ : ∃ k : Nat, r = k := ⟨r.toNat, by omega⟩
  have il := f.lt
  have S1l := D1.len
  have f1 := D1.fd.push [C.lst [], .lst (base.map D.str)]
  have hA : (S1 ++ [C.lst [], .lst (base.map D.str)])[st.length]? = some (.lst ((([] : List Str).map (rot k)).map D.str)) := by rw [← S1l]; simp
  have hP : (S1 ++ [C.lst [], .lst (base.map D.str)])[st.length + 1]? = some (.lst (base.map D.str)) := by rw [← S1l]; simp
  have hr := rng1_ok (j := (n : Int)) (st := S1 ++ [C.lst [], .lst (base.map D.str)]) (by omega) (by omega)
  obtain ⟨S2, A, P, e2, f2, g2, p2, l2, s2, a2⟩ := words_loop (x1 := .lst (base.map D.str)) (x2 := .int (n : Nat)) ((List.range n).map fun (k : Nat) => D.int (k : Int)) (N + 1) _ [] base f1 (by rw [List.length_map, List.length_range]; omega) (by omega) (by omega) hA hP (by rw [List.length_map, List.length_range]; exact hn) (by rw [List.length_map, List.length_range]; simp; omega) (by omega) hw
  rw [List.length_map, List.length_range] at f2 l2
  obtain ⟨rt, dw⟩ := ret_new (k := 3) g2 (pures_strs _) f2 il (fun j hj hi => by rw [a2 j hi (by omega) (by omega), List.getElem?_append_left (by omega), D1.at_ j hi])
  refine ⟨k, A, _, ?_, by omega, dw, by simpa using l2, P, by simpa using p2⟩
  have bs : base.length ≤ sizeLine := by rw [sizeLine_eq]; omega
  have l0 : (0 : Nat) ≤ sizeLine := by rw [sizeLine_eq]; omega
  have l4 : (4 : Nat) ≤ sizeLine := by rw [sizeLine_eq]; omega
  simp only [wdB, wdE, abcS] at e2
  simp only [Int.toNat_natCast] at hr
  simp -implicitDefEqProofs [F__law_words_d11e, B__law_words_d11e, e1, mk, bs, l0, l4, hr, S1l, e2]
  rw [← List.map_map]
  exact rt
end W26
set_option Elab.async false
set_option linter.all false
set_option maxRecDepth 100000
set_option maxHeartbeats 4000000
/-! The words of houses and of seats: unlike, and words. -/
namespace W26
open PySem VL G Kd W9
def housB : List Str := ["m", "mn", "mno", "n", "ll", "mnopqrst", "k", "nm", "nmn", "o", "om", "p", "q"].map Str.ofString
def seatB : List Str := ["a", "ab", "abc", "b", "zz", "abcdefgh", "y"].map Str.ofString
/-- a word of small letters, at most eight -/
def wdOk (w : Str) : Bool := w.cps.toList.all (fun c => decide (97 ≤ c ∧ c < 123)) && decide (0 < w.length ∧ w.length ≤ 8)
def unlike : List Str → Bool
  | [] => true
  | x :: xs => decide (x ∉ xs) && unlike xs
theorem unlike_nd : ∀ {xs : List Str}, unlike xs = true → xs.Nodup
  | [], _ => List.nodup_nil
  | x :: xs, h => by
    rw [unlike, Bool.and_eq_true] at h
    exact List.nodup_cons.mpr ⟨of_decide_eq_true h.1, unlike_nd h.2⟩
theorem hous_low : ∀ w ∈ housB, lowW w = true := by decide +kernel
theorem hous_ok : ∀ k : Fin 26, ((housB.map (rot k.val)).all wdOk && unlike (housB.map (rot k.val))) = true := by decide +kernel
theorem picked {base A P : List Str} {k : Nat} (hk : k < 26) (hb : ∀ k : Fin 26, ((base.map (rot k.val)).all wdOk && unlike (base.map (rot k.val))) = true) (hp : (A ++ P).Perm base) : (A.map (rot k)).Nodup ∧ ∀ w ∈ A.map (rot k), wdOk w = true := by
  have h := hb ⟨k, hk⟩
  rw [Bool.and_eq_true] at h
  have pm := hp.map (rot k)
  rw [List.map_append] at pm
  have nd := pm.nodup_iff.mpr (unlike_nd h.2)
  refine ⟨(List.nodup_append.mp nd).1, fun w hw => ?_⟩
  exact List.all_eq_true.mp h.1 w (pm.mem_iff.mp (List.mem_append_left _ hw))
theorem wdOk_ws {w : Str} (h : wdOk w = true) : Ws w := by
  obtain ⟨h1, h2⟩ := Bool.and_eq_true_iff.mp h
  have h3 := of_decide_eq_true h2
  refine ⟨fun c hc => ?_, by omega⟩
  have := of_decide_eq_true (List.all_eq_true.mp h1 c (by simpa using hc))
  omega
theorem wdOk_ne {w : Str} (h : wdOk w = true) : w ≠ Str.ofString "" := by
  rintro rfl
  exact absurd h (by decide +kernel)
end W26
set_option Elab.async false
set_option linter.all false
set_option maxRecDepth 100000
set_option maxHeartbeats 4000000
/-! The prices of one item. -/
namespace W26
open PySem VL G Kd W9
noncomputable abbrev prB : En → AS → Fl := (sKill [7] (sSeq (sExpr (vML appD (vVar 5) (vCons (vA gTup (vCons (vVar 6) (vCons (v2 ixD (vA (gLst false) (vCons (vCallA 2 0 [] [.pos 0, .pos 1] F__law_draw_d1fe (vCons (vVar 0) (vCons (vC (.int 60)) vNil)) vNil) (vCons (vCallA 2 0 [] [.pos 0, .pos 1] F__law_draw_d1fe (vCons (vVar 0) (vCons (vC (.int 3000)) vNil)) vNil) (vCons (vC (.int 100000)) vNil)))) (v2 fdivD (vCallA 2 0 [] [.pos 0, .pos 1] F__law_draw_d1fe (vCons (vVar 0) (vCons (vC (.int 8)) vNil)) vNil) (vC (.int 3)))) vNil))) vNil)))
    (sSet 6 (v2 (addD false) (v2 (addD false) (vVar 6) (vC (.int 1))) (vCallA 2 0 [] [.pos 0, .pos 1] F__law_draw_d1fe (vCons (vVar 0) (vCons (vC (.int 12)) vNil)) vNil)))))
theorem pr_loop {i L : Nat} {ns : List Int} {x1 x2 x3 x4 : D} : ∀ (js : List D) (N : Nat) (S : AS) (A : List (Int × Int)) (t : Int), Fw i ns N S → N + 4 * js.length < 100000 → i ≠ L → S[L]? = some (.lst (A.map ePr)) → A.length + js.length ≤ 1000 →
    ∃ (S' : AS) (B : List (Int × Int)) (t' : Int), forL (kName 7) prB [] js [some (.ref i), some x1, some x2, some x3, some x4, some (.ref L), some (.int t), none, none, none, none] S = .nx [some (.ref i), some x1, some x2, some x3, some x4, some (.ref L), some (.int t'), none, none, none, none] S' ∧ Fw i ns (N + 4 * js.length) S' ∧ S'[L]? = some (.lst ((A ++ B).map ePr)) ∧ B.length = js.length ∧ (js ≠ [] → ∃ p, p ∈ B ∧ p.1 = t) ∧ S'.length = S.length ∧ ∀ j, j ≠ i → j ≠ L → S'[j]? = S[j]?
  | [], N, S, A, t, f, _, _, hA, _ => ⟨S, [], t, by simp [forL], f, by rw [List.append_nil]; exact hA, rfl, fun z => absurd rfl z, rfl, fun _ _ _ => rfl⟩
  | d :: js, N, S, A, t, f, hN, i1, hA, hl => by
    simp only [List.length_cons] at hN hl
    obtain ⟨r1, S1, e1, p1, q1, D1⟩ := draw_ok (m := 60) f (by omega) (by omega) (by omega)
    obtain ⟨r2, S2, e2, p2, q2, D2⟩ := draw_ok (m := 3000) D1.fd (by omega) (by omega) (by omega)
    obtain ⟨r3, S3, e3, p3, q3, D3⟩ := draw_ok (m := 8) D2.fd (by omega) (by omega) (by omega)
    have A3 : S3[L]? = some (.lst (A.map ePr)) := by rw [D3.at_ L (Ne.symm i1), D2.at_ L (Ne.symm i1), D1.at_ L (Ne.symm i1)]; exact hA
    have al : (A.map ePr).length < sizeLine := by rw [List.length_map, sizeLine_eq]; omega
    obtain ⟨x, hx, _⟩ := atI_in (xs := [D.int r1, .int r2, .int 100000]) (i := r3 / 3) (by omega) (by show r3 / 3 < 3; omega)
    obtain ⟨v, rfl⟩ : ∃ v, x = .int v := by
      rcases List.mem_cons.mp ‹x ∈ _› with rfl | h
      · exact ⟨_, rfl⟩
      · rcases List.mem_cons.mp h with rfl | h
        · exact ⟨_, rfl⟩
        · exact ⟨_, List.mem_singleton.mp h⟩
    have ap : appD (.ref L) [.tup [.int t, .int v]] S3 = .ok .non (S3.set L (.lst ((A ++ [(t, v)]).map ePr))) := by
      have e : (A ++ [(t, v)]).map ePr = A.map ePr ++ [.tup [.int t, .int v]] := by rw [List.map_append]; rfl
      rw [e]
      generalize A.map ePr = Q at *
      simp -implicitDefEqProofs [A3, al]
    have f4 := D3.fd.put (.lst ((A ++ [(t, v)]).map ePr)) (Ne.symm i1)
    have A4 : (S3.set L (.lst ((A ++ [(t, v)]).map ePr)))[L]? = some (.lst ((A ++ [(t, v)]).map ePr)) := List.getElem?_set_self (List.getElem?_eq_some_iff.mp A3).1
    have S4l : (S3.set L (.lst ((A ++ [(t, v)]).map ePr))).length = S.length := by rw [List.length_set, D3.len, D2.len, D1.len]
    have S4a : ∀ j, j ≠ i → j ≠ L → (S3.set L (.lst ((A ++ [(t, v)]).map ePr)))[j]? = S[j]? := fun j h1 h2 => by rw [List.getElem?_set_ne (Ne.symm h2), D3.at_ j h1, D2.at_ j h1, D1.at_ j h1]
    generalize S3.set L (.lst ((A ++ [(t, v)]).map ePr)) = S4 at *
    obtain ⟨r4, S5, e4, p4, q4, D4⟩ := draw_ok (m := 12) f4 (by omega) (by omega) (by omega)
    have A5 : S5[L]? = some (.lst ((A ++ [(t, v)]).map ePr)) := by rw [D4.at_ L (Ne.symm i1)]; exact A4
    obtain ⟨S', B, t', e6, f6, g6, l6, _, s6, a6⟩ := pr_loop (x1 := x1) (x2 := x2) (x3 := x3) (x4 := x4) js (N + 1 + 1 + 1 + 1) S5 (A ++ [(t, v)]) (t + 1 + r4) D4.fd (by omega) i1 A5 (by rw [List.length_append, List.length_singleton]; omega)
    refine ⟨S', (t, v) :: B, t', ?_, by rw [show N + 4 * (d :: js).length = N + 1 + 1 + 1 + 1 + 4 * js.length by simp; omega]; exact f6, by rw [List.append_assoc] at g6; exact g6, by rw [List.length_cons, l6, List.length_cons], fun _ => ⟨(t, v), List.mem_cons_self, rfl⟩, by rw [s6, D4.len, S4l], fun j h1 h2 => by rw [a6 j h1 h2, D4.at_ j h1, S4a j h1 h2]⟩
    have l2 : (2 : Nat) ≤ sizeLine := by rw [sizeLine_eq]; omega
    have l3 : (3 : Nat) ≤ sizeLine := by rw [sizeLine_eq]; omega
    have dv : L2.CDivW r3 3 := ⟨by decide, by decide⟩
    have ixx : ixD (.lst [.int r1, .int r2, .int 100000]) (.int (r3 / 3)) S3 = .ok (.int v) S3 := by simp [hx]
    rw [forL, if_pos gd_nilOk, ← e6]
    generalize A.map ePr = Q at *
    generalize (A ++ [(t, v)]).map ePr = Q2 at *
    simp -implicitDefEqProofs [-ixD, -appD, hA, e1, e2, e3, e4, mk, l2, l3, dv, ixx, A3, ap]
end W26
set_option Elab.async false
set_option linter.all false
set_option maxRecDepth 100000
set_option maxHeartbeats 4000000
/-! The menu that a law draws. -/
namespace W26
open PySem VL G Kd W9
noncomputable abbrev hoB : En → AS → Fl := (sKill [4, 5, 6, 7] (sSeq (sPar 5 6 (vCons (vA (gLst true) vNil) (vCons (vC (.int 0)) vNil)))
    (sSeq (sFor (vA rng1 (vCons (v2 (addD false) (vC (.int 1)) (v2 fdivD (vCallA 2 0 [] [.pos 0, .pos 1] F__law_draw_d1fe (vCons (vVar 0) (vCons (vC (.int 4)) vNil)) vNil) (vC (.int 2)))) vNil)) (kName 7) prB)
    (sExpr (vML appD (vVar 3) (vCons (vA gTup (vCons (vVar 4) (vCons (vCallA 2 0 [] [.pos 0, .pos 1] F__law_draw_d1fe (vCons (vVar 0) (vCons (vC (.int 61)) vNil)) vNil) (vCons (vA (g1 tupD) (vCons (vVar 5) vNil)) vNil)))) vNil))))))
def OkRow (r : Str × Int × List (Int × Int)) : Prop := r.2.2.length ≤ 1000 ∧ ∃ p, p ∈ r.2.2 ∧ p.1 = 0
theorem ho_loop {i M : Nat} {ns : List Int} {x1 x2 : D} : ∀ (ws : List Str) (N : Nat) (S : AS) (A : Menu), Fw i ns N S → N + 10 * ws.length < 100000 → i ≠ M → S[M]? = some (.lst (A.map eRow)) → A.length + ws.length ≤ 1000 →
    ∃ (S' : AS) (B : Menu), forL (kName 4) hoB [] (ws.map D.str) [some (.ref i), some x1, some x2, some (.ref M), none, none, none, none, none, none, none] S = .nx [some (.ref i), some x1, some x2, some (.ref M), none, none, none, none, none, none, none] S' ∧ Fw i ns (N + 10 * ws.length) S' ∧ S'[M]? = some (.lst ((A ++ B).map eRow)) ∧ B.map (·.1) = ws ∧ (∀ r ∈ B, OkRow r) ∧ S.length ≤ S'.length ∧ ∀ j, j < S.length → j ≠ i → j ≠ M → S'[j]? = S[j]?
  | [], N, S, A, f, _, _, hA, _ => ⟨S, [], by simp [forL], f, by rw [List.append_nil]; exact hA, rfl, fun r hr => (by cases hr), Nat.le_refl _, fun _ _ _ _ => rfl⟩
  | w :: ws, N, S, A, f, hN, i1, hA, hl => by
    simp only [List.length_cons] at hN hl
    have il := f.lt
    have ml := (List.getElem?_eq_some_iff.mp hA).1
    obtain ⟨r1, S1, e1, p1, q1, D1⟩ := draw_ok (m := 4) (f.push [C.lst []]) (by omega) (by omega) (by omega)
    have S1l : S1.length = S.length + 1 := by rw [D1.len, List.length_append]; rfl
    have hL : S1[S.length]? = some (.lst (([] : List (Int × Int)).map ePr)) := by
      rw [D1.at_ _ (by omega)]
      simp
    obtain ⟨c, hc, hc2⟩ : ∃ c : Nat, 1 + r1 / 2 = c ∧ (c = 1 ∨ c = 2) := ⟨(1 + r1 / 2).toNat, by omega, by omega⟩
    have hr := rng1_ok (j := (c : Int)) (st := S1) (by omega) (by omega)
    simp only [Int.toNat_natCast] at hr
    have jl : ((List.range c).map fun (k : Nat) => D.int (k : Int)).length = c := by rw [List.length_map, List.length_range]
    obtain ⟨S2, B, t', e2, f2, g2, l2, z2, s2, a2⟩ := pr_loop (x1 := x1) (x2 := x2) (x3 := .ref M) (x4 := .str w) ((List.range c).map fun (k : Nat) => D.int (k : Int)) (N + 1) S1 [] 0 D1.fd (by rw [jl]; omega) (by omega) hL (by rw [jl]; simp; omega)
    rw [jl] at f2 l2
    rw [List.nil_append] at g2
    have nz : ((List.range c).map fun (k : Nat) => D.int (k : Int)) ≠ [] := fun z => by
      rw [z] at jl
      simp at jl
      omega
    have z2 := z2 nz
    obtain ⟨r3, S3, e3, p3, q3, D3⟩ := draw_ok (m := 61) f2 (by omega) (by omega) (by omega)
    have M2 : S2[M]? = some (.lst (A.map eRow)) := by
      rw [a2 M (Ne.symm i1) (by omega), D1.at_ M (Ne.symm i1), List.getElem?_append_left ml]
      exact hA
    have M3 : S3[M]? = some (.lst (A.map eRow)) := by rw [D3.at_ M (Ne.symm i1)]; exact M2
    have L3 : S3[S.length]? = some (.lst (B.map ePr)) := by rw [D3.at_ _ (by omega)]; exact g2
    have bl : (B.map ePr).length ≤ sizeLine := by rw [List.length_map, sizeLine_eq]; omega
    have tp : tupD (.ref S.length) S3 = .ok (.tup (B.map ePr)) S3 := by
      generalize B.map ePr = Q at *
      simp [L3, bl]
    have al : (A.map eRow).length < sizeLine := by rw [List.length_map, sizeLine_eq]; omega
    have ap : appD (.ref M) [.tup [.str w, .int r3, .tup (B.map ePr)]] S3 = .ok .non (S3.set M (.lst ((A ++ [(w, r3, B)]).map eRow))) := by
      have e : (A ++ [(w, r3, B)]).map eRow = A.map eRow ++ [.tup [.str w, .int r3, .tup (B.map ePr)]] := by rw [List.map_append]; rfl
      rw [e]
      generalize A.map eRow = Q at *
      simp -implicitDefEqProofs [M3, al]
    have f4 := D3.fd.put (.lst ((A ++ [(w, r3, B)]).map eRow)) (Ne.symm i1)
    have A4 : (S3.set M (.lst ((A ++ [(w, r3, B)]).map eRow)))[M]? = some (.lst ((A ++ [(w, r3, B)]).map eRow)) := List.getElem?_set_self (List.getElem?_eq_some_iff.mp M3).1
    have S4l : (S3.set M (.lst ((A ++ [(w, r3, B)]).map eRow))).length = S.length + 1 := by rw [List.length_set, D3.len, s2, S1l]
    have S4a : ∀ j, j < S.length → j ≠ i → j ≠ M → (S3.set M (.lst ((A ++ [(w, r3, B)]).map eRow)))[j]? = S[j]? := fun j h0 h1 h2 => by rw [List.getElem?_set_ne (Ne.symm h2), D3.at_ j h1, a2 j h1 (by omega), D1.at_ j h1, List.getElem?_append_left h0]
    generalize S3.set M (.lst ((A ++ [(w, r3, B)]).map eRow)) = S4 at *
    obtain ⟨S', B', e6, f6, g6, k6, o6, s6, a6⟩ := ho_loop (x1 := x1) (x2 := x2) ws (N + 10) S4 (A ++ [(w, r3, B)]) (f4.mono (by omega)) (by omega) i1 A4 (by rw [List.length_append, List.length_singleton]; omega)
    refine ⟨S', (w, r3, B) :: B', ?_, by rw [show N + 10 * (w :: ws).length = N + 10 + 10 * ws.length by simp; omega]; exact f6, by rw [List.append_assoc] at g6; exact g6, by rw [List.map_cons, k6], fun r hr => ?_, by omega, fun j h0 h1 h2 => by rw [a6 j (by omega) h1 h2, S4a j h0 h1 h2]⟩
    · have dv : L2.CDivW r1 2 := ⟨by decide, by decide⟩
      have l0 : (0 : Nat) ≤ sizeLine := by rw [sizeLine_eq]; omega
      have l3 : (3 : Nat) ≤ sizeLine := by rw [sizeLine_eq]; omega
      simp only [prB] at e2
      rw [List.map_cons, forL, if_pos gd_nilOk, ← e6]
      generalize A.map eRow = Q at *
      generalize (A ++ [(w, r3, B)]).map eRow = Q2 at *
      generalize B.map ePr = Q3 at *
      simp -implicitDefEqProofs [-ixD, -appD, -tupD, e1, mk, l0, l3, dv, hc, hr, e2, M2, e3, tp, ap]
    · rcases List.mem_cons.mp hr with rfl | hr
      · exact ⟨by show B.length ≤ 1000; omega, z2⟩
      · exact o6 r hr
end W26
set_option Elab.async false
set_option linter.all false
set_option maxRecDepth 100000
set_option maxHeartbeats 4000000
/-! Some of the words, by draws. -/
namespace W26
open PySem VL G Kd W9
theorem comp_draw {i : Nat} {ns : List Int} {x1 x2 x3 x4 x5 x6 x7 x8 x9 : Option D} {x10 : Option D} : ∀ (ws : List Str) (N : Nat) (S : AS), Fw i ns N S → N + ws.length < 100000 →
    ∃ (S' : AS) (sub : List Str), compL (kName 4) (vB (v2 (eqD false) (vCallA 2 0 [] [.pos 0, .pos 1] F__law_draw_d1fe (vCons (vVar 0) (vCons (vC (.int 2)) vNil)) vNil) (vC (.int 0)))) (vVar 4) [some (.ref i), x1, x2, x3, x4, x5, x6, x7, x8, x9, x10] [] (ws.map D.str) S = .ok (sub.map D.str) S' ∧ Dw i ns (N + ws.length) S S' ∧ sub.Sublist ws
  | [], N, S, f, _ => ⟨S, [], by simp [compL], Dw.refl f, List.Sublist.refl _⟩
  | w :: ws, N, S, f, hN => by
    simp only [List.length_cons] at hN
    obtain ⟨r, S1, e1, p1, q1, D1⟩ := draw_ok (m := 2) f (by omega) (by omega) (by omega)
    obtain ⟨S2, sub, e2, D2, h2⟩ := comp_draw (x1 := x1) (x2 := x2) (x3 := x3) (x4 := x4) (x5 := x5) (x6 := x6) (x7 := x7) (x8 := x8) (x9 := x9) (x10 := x10) ws (N + 1) S1 D1.fd (by omega)
    have dd : Dw i ns (N + (w :: ws).length) S S2 := by
      have := D1.trans D2
      rw [show N + (w :: ws).length = N + 1 + ws.length by simp; omega]
      exact this
    simp only [vB] at e2
    by_cases z : r = 0
    · refine ⟨S2, w :: sub, ?_, dd, h2.cons_cons w⟩
      · rw [List.map_cons, compL, if_pos gd_nilOk]
        simp -implicitDefEqProofs [e1, z, e2]
    · refine ⟨S2, sub, ?_, dd, h2.cons w⟩
      rw [List.map_cons, compL, if_pos gd_nilOk]
      simp -implicitDefEqProofs [e1, z, e2]
end W26
set_option Elab.async false
set_option linter.all false
set_option maxRecDepth 100000
set_option maxHeartbeats 4000000
/-! The offs that a law draws. -/
namespace W26
open PySem VL G Kd W9
noncomputable abbrev ofB : En → AS → Fl := (sKill [6, 7, 9, 10] (sSeq (sSet 9 (vLc false [4] (v1 itD (vVar 2)) (kName 4) (vB (v2 (eqD false) (vCallA 2 0 [] [.pos 0, .pos 1] F__law_draw_d1fe (vCons (vVar 0) (vCons (vC (.int 2)) vNil)) vNil) (vC (.int 0)))) (vVar 4)))
    (sSeq (sPar 6 10 (vCons (vCallA 2 0 [] [.pos 0, .pos 1] F__law_draw_d1fe (vCons (vVar 0) (vCons (vC (.int 10)) vNil)) vNil) (vCons (v2 ixD (vA (gLst false) (vCons (vC (.int 0)) (vCons (vC (.int 33)) (vCons (vC (.int 50)) (vCons (vC (.int 100)) (vCons (vC (.int 7)) vNil)))))) (vCallA 2 0 [] [.pos 0, .pos 1] F__law_draw_d1fe (vCons (vVar 0) (vCons (vC (.int 5)) vNil)) vNil)) vNil)))
    (sExpr (vML appD (vVar 8) (vCons (vA gTup (vCons (vA (g1 tupD) (vCons (v1 (srtSetD false) (v2 (addD false) (vVar 9) (vA (gLst false) (vCons (vC (.str "strange")) vNil)))) vNil)) (vCons (vVar 6) (vCons (v2 (addD false) (vVar 6) (vCallA 2 0 [] [.pos 0, .pos 1] F__law_draw_d1fe (vCons (vVar 0) (vCons (vC (.int 20)) vNil)) vNil)) (vCons (vVar 10) vNil))))) vNil))))))
theorem srt_lst {xs : List Str} (h : xs ≠ []) (hl : xs.length ≤ 1000) (st : AS) : srtSetD false (.lst (xs.map D.str)) st = .ok (.lst ((sortS (ddup xs)).map D.str)) st := by
  unfold srtSetD
  cases xs with
  | nil => exact absurd rfl h
  | cons x xs =>
    have io : intsOf ((x :: xs).map D.str) = none := rfl
    simp only [seqOf, VL.listOf]
    rw [io, strs_of]
    dsimp only
    rw [if_pos hl]
    rfl
def OkOf (x : List Str × Int × Int × Int) : Prop := 0 ≤ x.2.2.2 ∧ x.2.2.2 ≤ 100
theorem of_loop {i M : Nat} {ns : List Int} {ws : List Str} {x1 x3 : D} (wl : ws.length ≤ 20) : ∀ (js : List D) (N : Nat) (S : AS) (A : Offs), Fw i ns N S → N + 30 * js.length < 100000 → i ≠ M → S[M]? = some (.lst (A.map eOff)) → A.length + js.length ≤ 1000 →
    ∃ (S' : AS) (B : Offs), forL (kName 7) ofB [] js [some (.ref i), some x1, some (.lst (ws.map D.str)), some x3, none, none, none, none, some (.ref M), none, none] S = .nx [some (.ref i), some x1, some (.lst (ws.map D.str)), some x3, none, none, none, none, some (.ref M), none, none] S' ∧ Fw i ns (N + 30 * js.length) S' ∧ S'[M]? = some (.lst ((A ++ B).map eOff)) ∧ B.length = js.length ∧ (∀ r ∈ B, OkOf r) ∧ S'.length = S.length ∧ ∀ j, j ≠ i → j ≠ M → S'[j]? = S[j]?
  | [], N, S, A, f, _, _, hA, _ => ⟨S, [], by simp [forL], f, by rw [List.append_nil]; exact hA, rfl, fun r hr => (by cases hr), rfl, fun _ _ _ => rfl⟩
  | d :: js, N, S, A, f, hN, i1, hA, hl => by
    simp only [List.length_cons] at hN hl
    obtain ⟨S1, sub, e1, D1, sb⟩ := comp_draw (x1 := some x1) (x2 := some (.lst (ws.map D.str))) (x3 := some x3) (x4 := none) (x5 := none) (x6 := none) (x7 := some d) (x8 := some (.ref M)) (x9 := none) (x10 := none) ws N S f (by omega)
    obtain ⟨r2, S2, e2, p2, q2, D2⟩ := draw_ok (m := 10) D1.fd (by omega) (by omega) (by omega)
    obtain ⟨r3, S3, e3, p3, q3, D3⟩ := draw_ok (m := 5) D2.fd (by omega) (by omega) (by omega)
    obtain ⟨r4, S4, e4, p4, q4, D4⟩ := draw_ok (m := 20) D3.fd (by omega) (by omega) (by omega)
    have DD := ((D1.trans D2).trans D3).trans D4
    have sbl := sb.length_le
    have sls : sub.length + 1 ≤ sizeLine := by rw [sizeLine_eq]; omega
    have M4 : S4[M]? = some (.lst (A.map eOff)) := by rw [DD.at_ M (Ne.symm i1)]; exact hA
    have M1 : S1[M]? = some (.lst (A.map eOff)) := by rw [D1.at_ M (Ne.symm i1)]; exact hA
    have M3 : S3[M]? = some (.lst (A.map eOff)) := by rw [D3.at_ M (Ne.symm i1), D2.at_ M (Ne.symm i1)]; exact M1
    have al : (A.map eOff).length < sizeLine := by rw [List.length_map, sizeLine_eq]; omega
    obtain ⟨v, hv, v0, v1'⟩ : ∃ v : Int, L2.atI [D.int 0, .int 33, .int 50, .int 100, .int 7] r3 = some (.int v) ∧ 0 ≤ v ∧ v ≤ 100 := by
      have : r3 = 0 ∨ r3 = 1 ∨ r3 = 2 ∨ r3 = 3 ∨ r3 = 4 := by omega
      rcases this with rfl | rfl | rfl | rfl | rfl
      · exact ⟨0, rfl, by omega, by omega⟩
      · exact ⟨33, rfl, by omega, by omega⟩
      · exact ⟨50, rfl, by omega, by omega⟩
      · exact ⟨100, rfl, by omega, by omega⟩
      · exact ⟨7, rfl, by omega, by omega⟩
    have sr := srt_lst (xs := sub ++ [Str.ofString "strange"]) (by simp) (by rw [List.length_append, List.length_singleton]; omega) S3
    have eq : (sub ++ [Str.ofString "strange"]).map D.str = sub.map D.str ++ [D.str (Str.ofString "strange")] := by simp
    rw [eq] at sr
    generalize hO : sortS (ddup (sub ++ [Str.ofString "strange"])) = its at *
    have ap : appD (.ref M) [.tup [.tup (its.map D.str), .int r2, .int (r2 + r4), .int v]] S4 = .ok .non (S4.set M (.lst ((A ++ [(its, r2, r2 + r4, v)]).map eOff))) := by
      have e : (A ++ [(its, r2, r2 + r4, v)]).map eOff = A.map eOff ++ [.tup [.tup (its.map D.str), .int r2, .int (r2 + r4), .int v]] := by rw [List.map_append]; rfl
      rw [e]
      generalize A.map eOff = Q at *
      simp -implicitDefEqProofs [M4, al]
    have f5 := D4.fd.put (.lst ((A ++ [(its, r2, r2 + r4, v)]).map eOff)) (Ne.symm i1)
    have A5 : (S4.set M (.lst ((A ++ [(its, r2, r2 + r4, v)]).map eOff)))[M]? = some (.lst ((A ++ [(its, r2, r2 + r4, v)]).map eOff)) := List.getElem?_set_self (List.getElem?_eq_some_iff.mp M4).1
    have S5l : (S4.set M (.lst ((A ++ [(its, r2, r2 + r4, v)]).map eOff))).length = S.length := by rw [List.length_set, DD.len]
    have S5a : ∀ j, j ≠ i → j ≠ M → (S4.set M (.lst ((A ++ [(its, r2, r2 + r4, v)]).map eOff)))[j]? = S[j]? := fun j h1 h2 => by rw [List.getElem?_set_ne (Ne.symm h2), DD.at_ j h1]
    generalize S4.set M (.lst ((A ++ [(its, r2, r2 + r4, v)]).map eOff)) = S5 at *
    obtain ⟨S', B, e6, f6, g6, k6, o6, s6, a6⟩ := of_loop (x1 := x1) (x3 := x3) wl js (N + 30) S5 (A ++ [(its, r2, r2 + r4, v)]) (f5.mono (by omega)) (by omega) i1 A5 (by rw [List.length_append, List.length_singleton]; omega)
    refine ⟨S', (its, r2, r2 + r4, v) :: B, ?_, by rw [show N + 30 * (d :: js).length = N + 30 + 30 * js.length by simp; omega]; exact f6, by rw [List.append_assoc] at g6; exact g6, by rw [List.length_cons, k6, List.length_cons], fun r hr => ?_, by rw [s6, S5l], fun j h1 h2 => by rw [a6 j h1 h2, S5a j h1 h2]⟩
    · have l1 : (1 : Nat) ≤ sizeLine := by rw [sizeLine_eq]; omega
      have l4 : (4 : Nat) ≤ sizeLine := by rw [sizeLine_eq]; omega
      have l5 : (5 : Nat) ≤ sizeLine := by rw [sizeLine_eq]; omega
      have wls : ws.length ≤ sizeLine := by rw [sizeLine_eq]; omega
      have ixx : ixD (.lst [.int 0, .int 33, .int 50, .int 100, .int 7]) (.int r3) S3 = .ok (.int v) S3 := by simp [hv]
      simp only [vB] at e1
      rw [forL, if_pos gd_nilOk, ← e6]
      generalize A.map eOff = Q at *
      generalize (A ++ [(its, r2, r2 + r4, v)]).map eOff = Q2 at *
      simp -implicitDefEqProofs [-ixD, -appD, -srtSetD, e1, e2, e3, e4, mk, l1, l4, l5, wls, ixx, sls, sr, M3, ap]
    · rcases List.mem_cons.mp hr with rfl | hr
      · exact ⟨v0, v1'⟩
      · exact o6 r hr
end W26
set_option Elab.async false
set_option linter.all false
set_option maxRecDepth 100000
set_option maxHeartbeats 4000000
/-! The house that a law draws. -/
namespace W26
open PySem VL G Kd W9
theorem ret_pur {i N : Nat} {ns : List Int} {st S : AS} {d : D} (hp : d.pure = true) (hl : st.length < S.length) (f : Fw i ns N S) (hi : i < st.length) (ha : ∀ j, j < st.length → j ≠ i → S[j]? = st[j]?) : VL.ret 0 st d S = .ok d (S.take st.length) ∧ Dw i ns N st (S.take st.length) := by
  obtain ⟨⟨a, b, c, h1, h2, h3, h4⟩, nl⟩ := f
  constructor
  · unfold VL.ret
    rw [if_neg (by omega), pure_frz _ _ _ _ hp, if_pos ⟨pure_low _ hp, fun j c' hj ec => by
      by_cases z : j = i
      · right
        rw [z, h1] at ec
        cases ec
        exact fd_low _ _ _ _ _
      · left
        rw [ha j hj z] at ec
        exact ec⟩]
  · refine ⟨⟨⟨a, b, c, by rw [List.getElem?_take_of_lt hi]; exact h1, h2, h3, h4⟩, nl⟩, by rw [List.length_take]; omega, fun j hj => ?_⟩
    by_cases z : j < st.length
    · rw [List.getElem?_take_of_lt z]
      exact ha j z hj
    · rw [List.getElem?_eq_none (by rw [List.length_take]; omega), List.getElem?_eq_none (by omega)]
theorem sort_lst (xs : List Str) (hl : xs.length < 64) (st : AS) : sortD false (.lst (xs.map D.str)) st = .ok (.lst ((sortS xs).map D.str)) st := by
  unfold sortD
  have e : VL.listOf st (.lst (xs.map D.str)) = some (xs.map D.str) := rfl
  rw [e]
  dsimp only
  cases xs with
  | nil => simp [intsOf, sortI, sortS, mk]
  | cons x r =>
    have io : intsOf ((x :: r).map D.str) = none := rfl
    rw [io, strs_of]
    dsimp only
    rw [if_pos hl]
    rfl
end W26
set_option Elab.async false
set_option linter.all false
set_option maxRecDepth 100000
set_option maxHeartbeats 4000000
/-! The house that a law draws, whole. -/
namespace W26
open PySem VL G Kd W9
theorem pures_mapF {α : Type} (g : α → D) (h : ∀ x, (g x).pure = true) : ∀ l : List α, D.pures (l.map g) = true
  | [] => rfl
  | x :: l => by rw [List.map_cons, D.pures, h x, pures_mapF g h l]; rfl
theorem pr_pure (p : Int × Int) : (ePr p).pure = true := by simp [ePr, D.pure, D.pures]
theorem row_pure (r : Str × Int × List (Int × Int)) : (eRow r).pure = true := by simp [eRow, D.pure, D.pures, pures_mapF ePr pr_pure]
theorem off_pure (r : List Str × Int × Int × Int) : (eOff r).pure = true := by simp [eOff, D.pure, D.pures, pures_strs]
theorem f_house {i N : Nat} {ns : List Int} {st : AS} (f : Fw i ns N st) (hN : N < 50000) :
    ∃ (m : Menu) (o : Offs) (a b : Int) (S' : AS), F__law_house_2e9c [.ref i] st = .ok (.tup [eMenu m, eOffs o, .int a, .int b]) S' ∧ Dw i ns (N + 1000) st S' ∧ OkHs m o ∧ m.length ≤ 12 ∧ 0 < m.length := by
  have il := f.lt
  -- how many
  obtain ⟨r1, S1, e1, p1, q1, D1⟩ := draw_ok (m := 8) f (by omega) (by omega) (by omega)
  obtain ⟨n, S2, hn1, hn2, D2, hE⟩ : ∃ (n : Nat) (S2 : AS), 0 < n ∧ n ≤ 12 ∧ Dw i ns (N + 2) st S2 ∧ vIfE (vB (v2 (eqD false) (vCallA 2 0 [] [.pos 0, .pos 1] F__law_draw_d1fe (vCons (vVar 0) (vCons (vC (.int 8)) vNil)) vNil) (vC (.int 0)))) (vC (.int 12)) (v2 (addD false) (vC (.int 1)) (vCallA 2 0 [] [.pos 0, .pos 1] F__law_draw_d1fe (vCons (vVar 0) (vCons (vC (.int 4)) vNil)) vNil)) [some (.ref i), some (.lst (housB.map D.str)), none, none, none, none, none, none, none, none, none] st = .ok (.int (n : Nat)) S2 := by
    by_cases z : r1 = 0
    · exact ⟨12, S1, by omega, by omega, ⟨D1.fd.mono (by omega), D1.len, D1.at_⟩, by simp -implicitDefEqProofs [e1, z]⟩
    · obtain ⟨r2, S2, e2, p2, q2, D2⟩ := draw_ok (m := 4) D1.fd (by omega) (by omega) (by omega)
      refine ⟨(1 + r2).toNat, S2, by omega, by omega, D1.trans D2, ?_⟩
      have : (((1 + r2).toNat : Nat) : Int) = 1 + r2 := by omega
      rw [this]
      simp -implicitDefEqProofs [e1, z, e2]
  have bl : housB.length = 13 := by decide +kernel
  obtain ⟨k, A, S3, e3, k26, D3, al, P, pm⟩ := f_words D2.fd housB n (by omega) (by omega) hous_low (by omega)
  obtain ⟨nd, ok⟩ := picked k26 hous_ok pm
  have sw := sort_lst (A.map (rot k)) (by rw [List.length_map]; omega) S3
  have D23 := D2.trans D3
  have wl : (sortS (A.map (rot k))).length = n := by rw [(sortS_perm _).length_eq, List.length_map, al]
  generalize hW : sortS (A.map (rot k)) = ws at *
  -- the menu
  have S3l : S3.length = st.length := D23.len
  obtain ⟨S4, m, e4, f4, g4, m4, o4, s4, a4⟩ := ho_loop (M := S3.length) (x1 := .lst (housB.map D.str)) (x2 := .lst (ws.map D.str)) ws _ (S3 ++ [C.lst []]) [] (D23.fd.push [C.lst []]) (by omega) (by omega) (by simp) (by simp; omega)
  rw [List.nil_append] at g4
  have ml : m.length = n := by rw [← wl, ← m4, List.length_map]
  rw [List.length_append] at s4 a4
  -- the offs
  obtain ⟨r5, S5, e5, p5, q5, D5⟩ := draw_ok (m := 3) (f4.push [C.lst []]) (by omega) (by omega) (by omega)
  obtain ⟨c, rfl⟩ : ∃ c : Nat, r5 = c := ⟨r5.toNat, by omega⟩
  have hr := rng1_ok (j := (c : Int)) (st := S5) (by omega) (by omega)
  simp only [Int.toNat_natCast] at hr
  have jl : ((List.range c).map fun (k : Nat) => D.int (k : Int)).length = c := by rw [List.length_map, List.length_range]
  have h8 : S5[S4.length]? = some (.lst (([] : Offs).map eOff)) := by rw [D5.at_ _ (by simp at s4; omega)]; simp
  obtain ⟨S6, o, e6, f6, g6, k6, o6, s6, a6⟩ := of_loop (M := S4.length) (ws := ws) (x1 := .lst (housB.map D.str)) (x3 := .ref S3.length) (by omega) ((List.range c).map fun (k : Nat) => D.int (k : Int)) _ S5 [] D5.fd (by rw [jl]; omega) (by simp at s4; omega) h8 (by rw [jl]; simp; omega)
  rw [jl] at f6 k6
  rw [List.nil_append] at g6
  obtain ⟨r7, S7, e7, p7, q7, D7⟩ := draw_ok (m := 9) f6 (by omega) (by omega) (by omega)
  obtain ⟨r8, S8, e8, p8, q8, D8⟩ := draw_ok (m := 3) D7.fd (by omega) (by omega) (by omega)
  have s4' : st.length + 1 ≤ S4.length := by simp at s4; omega
  have m6 : S6[S3.length]? = some (.lst (m.map eRow)) := by
    rw [a6 _ (by omega) (by omega), D5.at_ _ (by omega), List.getElem?_append_left (List.getElem?_eq_some_iff.mp g4).1]
    exact g4
  have t1 : tupD (.ref S3.length) S6 = .ok (eMenu m) S6 := by simp [m6, eMenu]
  have t2 : tupD (.ref S4.length) S6 = .ok (eOffs o) S6 := by simp [g6, eOffs]
  have S8l : S8.length = S4.length + 1 := by rw [D8.len, D7.len, s6, D5.len, List.length_append]; rfl
  obtain ⟨rt, dw⟩ := ret_pur (st := st) (S := S8) (d := .tup [eMenu m, eOffs o, .int r7, .int (1 + r8)]) (by simp [D.pure, D.pures, eMenu, eOffs, pures_mapF eRow row_pure, pures_mapF eOff off_pure]) (by omega) D8.fd il (fun j hj hi => by
    rw [D8.at_ j hi, D7.at_ j hi, a6 j hi (by omega), D5.at_ j hi, List.getElem?_append_left (by omega), a4 j (by omega) hi (by omega), List.getElem?_append_left (by omega), D23.at_ j hi])
  refine ⟨m, o, r7, 1 + r8, _, ?_, ⟨dw.fd.mono (by omega), dw.len, dw.at_⟩, ⟨by omega, ⟨fun r hr => by have := (o4 r hr).1; omega, fun r hr => (o4 r hr).2⟩, ⟨by omega, o6⟩⟩, by omega, by omega⟩
  have l0 : (0 : Nat) ≤ sizeLine := by rw [sizeLine_eq]; omega
  have l4 : (4 : Nat) ≤ sizeLine := by rw [sizeLine_eq]; omega
  have l13 : (13 : Nat) ≤ sizeLine := by rw [sizeLine_eq]; omega
  have wls : ws.length ≤ sizeLine := by rw [sizeLine_eq]; omega
  have hb : housB.map D.str = [.str (Str.ofString "m"), .str (Str.ofString "mn"), .str (Str.ofString "mno"), .str (Str.ofString "n"), .str (Str.ofString "ll"), .str (Str.ofString "mnopqrst"), .str (Str.ofString "k"), .str (Str.ofString "nm"), .str (Str.ofString "nmn"), .str (Str.ofString "o"), .str (Str.ofString "om"), .str (Str.ofString "p"), .str (Str.ofString "q")] := rfl
  simp only [hoB, prB, vB] at e4
  simp only [ofB, vB] at e6
  simp only [vB] at hE
  rw [hb] at hE e3 e4 e6
  generalize A.map (rot k) = A2 at *
  simp -implicitDefEqProofs [-vIfE, -tupD, -sortD, F__law_house_2e9c, B__law_house_2e9c, mk, l0, l4, l13, wls, hE, e3, sw, e4, e5, hr, e6, t1, t2, e7, e8]
  exact rt
end W26
set_option Elab.async false
set_option linter.all false
set_option maxRecDepth 100000
set_option maxHeartbeats 1000000
/-! Draws, by what is wanted of the rest. -/
namespace WG
open PySem VL G Kd W9 W26
section
variable {α : Type} {dr : List D → AS → Out D} {i L n : Nat} {ns : List Int} {st0 st X S : AS} {m : Int} {Q : D → AS → Prop} {E : XQ}
/-- the feed goes on from st0 to st, all else as it was; L things are behind it -/
structure Fg (i : Nat) (ns : List Int) (n L : Nat) (st0 st : AS) : Prop extends Dw i ns n st0 st where
  ln : st.length = L
theorem Fg.lt (f : Fg i ns n L st0 st) : i < L := by rw [← f.ln]; exact f.fd.lt
theorem Fg.start (f : Fw i ns n st) : Fg i ns n st.length st st := ⟨Dw.refl f, rfl⟩
theorem Fg.mono {n' : Nat} (f : Fg i ns n L st0 st) (h : n ≤ n') : Fg i ns n' L st0 st := ⟨⟨f.fd.mono h, f.len, f.at_⟩, f.ln⟩
/-- what changes the feed alone changes it ahead of the rest -/
theorem Fg.split {m : Nat} (f : Fg i ns n L st0 st) (d : Dw i ns m (st ++ X) S) : ∃ st1, S = st1 ++ X ∧ Fg i ns m L st0 st1 := by
  have hl := d.len
  have hi : i < st.length := f.fd.lt
  rw [List.length_append] at hl
  have e : S.drop st.length = X := by
    apply List.ext_getElem?
    intro j
    rw [List.getElem?_drop, d.at_ _ (by omega), List.getElem?_append_right (by omega)]
    congr 1; omega
  have ln : (S.take st.length).length = st.length := by rw [List.length_take]; omega
  refine ⟨S.take st.length, by rw [← e, List.take_append_drop], ⟨⟨?_, by rw [ln]; exact f.len, fun j hj => ?_⟩, by rw [ln]; exact f.ln⟩⟩
  · exact d.fd.to (List.getElem?_take_of_lt hi)
  · by_cases z : j < st.length
    · rw [List.getElem?_take_of_lt z, d.at_ j hj, List.getElem?_append_left z]
      exact f.at_ j hj
    · rw [List.getElem?_eq_none (by omega), List.getElem?_eq_none (by have := f.len; omega)]
theorem Fg.next (f : Fg i ns n L st0 st) {m : Nat} {st1 : AS} (d : Dw i ns m st st1) : Fg i ns m L st0 st1 := ⟨f.toDw.trans d, by rw [d.len]; exact f.ln⟩
theorem wp_draw (DO : DrawOk dr) (f : Fg i ns n L st0 st) (hn : n < 1000000) (h0 : 0 < m) (h1 : m < 4611686018427387904)
    (h : ∀ r st1, 0 ≤ r → r < m → st1.length = L → Fg i ns (n + 1) L st0 st1 → Q (.int r) (st1 ++ X)) : (dr [.ref i, .int m] (st ++ X)).wp Q E := by
  obtain ⟨r, S, e, r0, r1, d⟩ := DO (f.fd.push X) hn h0 h1
  obtain ⟨st1, rfl, g⟩ := f.split d
  exact wp_of e (h r st1 r0 r1 g.ln g)
theorem wp_draw0 (DO : DrawOk dr) (f : Fg i ns n L st0 st) (hn : n < 1000000) (h0 : 0 < m) (h1 : m < 4611686018427387904)
    (h : ∀ r st1, 0 ≤ r → r < m → st1.length = L → Fg i ns (n + 1) L st0 st1 → Q (.int r) st1) : (dr [.ref i, .int m] st).wp Q E := by
  have := wp_draw (X := []) (Q := Q) (E := E) DO f hn h0 h1 (by simpa using h)
  simpa using this
theorem wp_ix {ds : List D} {r : Int} (h0 : 0 ≤ r) (h1 : r < ds.length) (h : ∀ d ∈ ds, Q d st) : (ixD (.lst ds) (.int r) st).wp Q E := by
  have hl : r.toNat < ds.length := by omega
  have e : L2.atI ds r = some ds[r.toNat] := by rw [atI_pos h0 h1]; exact List.getElem?_eq_getElem hl
  have : ixD (.lst ds) (.int r) st = .ok ds[r.toNat] st := by simp [e]
  exact wp_of this (h _ (List.getElem_mem hl))
theorem wp_ixS {ws : List Str} {r : Int} (h0 : 0 ≤ r) (h1 : r < ws.length) (h : ∀ w ∈ ws, Q (.str w) st) : (ixD (.lst (ws.map D.str)) (.int r) st).wp Q E :=
  wp_ix h0 (by rw [List.length_map]; exact h1) fun d hd => by
    obtain ⟨w, hw, rfl⟩ := List.mem_map.mp hd
    exact h w hw
theorem wp_ixSL (ws : List Str) (k : Nat) {ds : List D} (e : ds = ws.map D.str) (hk : ds.length = k) {r : Int} (h0 : 0 ≤ r) (h1 : r < k) (h : ∀ w ∈ ws, Q (.str w) st) : (ixD (.lst ds) (.int r) st).wp Q E := by
  subst e
  exact wp_ixS h0 (by rw [List.length_map] at hk; omega) h
theorem wp_ixIL (vs : List Int) (k : Nat) {ds : List D} (e : ds = vs.map D.int) (hk : ds.length = k) {r : Int} (h0 : 0 ≤ r) (h1 : r < k) (h : ∀ w ∈ vs, Q (.int w) st) : (ixD (.lst ds) (.int r) st).wp Q E := by
  subst e
  exact wp_ix h0 (by omega) fun d hd => by
    obtain ⟨w, hw, rfl⟩ := List.mem_map.mp hd
    exact h w hw
theorem ixt0 {x0 : D} {l : List D} : ixD (.tup (x0 :: l)) (.int 0) st = .ok x0 st := by simp
theorem ixt1 {x0 x1 : D} {l : List D} : ixD (.tup (x0 :: x1 :: l)) (.int 1) st = .ok x1 st := by simp
theorem ixt2 {x0 x1 x2 : D} {l : List D} : ixD (.tup (x0 :: x1 :: x2 :: l)) (.int 2) st = .ok x2 st := by simp
theorem ixt3 {x0 x1 x2 x3 : D} {l : List D} : ixD (.tup (x0 :: x1 :: x2 :: x3 :: l)) (.int 3) st = .ok x3 st := by simp
theorem ixt4 {x0 x1 x2 x3 x4 : D} {l : List D} : ixD (.tup (x0 :: x1 :: x2 :: x3 :: x4 :: l)) (.int 4) st = .ok x4 st := by simp
theorem ixc0 {x0 : D} {l : List D} : ixD (.ctp (x0 :: l)) (.int 0) st = .ok x0 st := by simp
theorem ixc1 {x0 x1 : D} {l : List D} : ixD (.ctp (x0 :: x1 :: l)) (.int 1) st = .ok x1 st := by simp
theorem ixc2 {x0 x1 x2 : D} {l : List D} : ixD (.ctp (x0 :: x1 :: x2 :: l)) (.int 2) st = .ok x2 st := by simp
theorem ixc3 {x0 x1 x2 x3 : D} {l : List D} : ixD (.ctp (x0 :: x1 :: x2 :: x3 :: l)) (.int 3) st = .ok x3 st := by simp
theorem ixc4 {x0 x1 x2 x3 x4 : D} {l : List D} : ixD (.ctp (x0 :: x1 :: x2 :: x3 :: x4 :: l)) (.int 4) st = .ok x4 st := by simp
theorem ixl0 {x0 : D} {l : List D} : ixD (.lst (x0 :: l)) (.int 0) st = .ok x0 st := by simp
theorem ixl1 {x0 x1 : D} {l : List D} : ixD (.lst (x0 :: x1 :: l)) (.int 1) st = .ok x1 st := by simp
theorem ixl2 {x0 x1 x2 : D} {l : List D} : ixD (.lst (x0 :: x1 :: x2 :: l)) (.int 2) st = .ok x2 st := by simp
theorem ixl3 {x0 x1 x2 x3 : D} {l : List D} : ixD (.lst (x0 :: x1 :: x2 :: x3 :: l)) (.int 3) st = .ok x3 st := by simp
theorem ixl4 {x0 x1 x2 x3 x4 : D} {l : List D} : ixD (.lst (x0 :: x1 :: x2 :: x3 :: x4 :: l)) (.int 4) st = .ok x4 st := by simp
theorem it_menu {me : Menu} : itD (eMenu me) st = .ok (me.map eRow, []) st := by simp [eMenu]
theorem comp_r0 {j : Nat} {env : En} {me : Menu} (hj : j < env.length) : compL (kName j) tYesV (v2 ixD (vVar j) (vC (.int 0))) env [] (me.map eRow) st = .ok ((me.map (·.1)).map D.str) st := by
  rw [comp_all eRow (fun r => .str r.1) ok_nil me ?c]
  · rw [List.map_map]; rfl
  case c =>
    intro r _
    exact ⟨_, rfl, rfl, by simp [hj, eRow]⟩
theorem cdiv_ok {x m : Int} (h0 : 0 < m) (h1 : m < 4611686018427387904) : L2.CDivW x m = True := eq_true ⟨h0, log_lt h0 h1⟩
end
end WG
set_option Elab.async false
set_option linter.all false
set_option maxRecDepth 100000
set_option maxHeartbeats 4000000
/-! The deed of a page that a law draws. -/
namespace WG
open PySem VL G Kd W9 W26
def tabW : List Str := ["t", "tt", "a"].map Str.ofString
/-- some seats -/
structure Ss (who ss : List Str) : Prop where
  ne : ss ≠ []
  nd : ss.Nodup
  ln : ss.length ≤ 30
  mem : ∀ s ∈ ss, s ∈ who
/-- a deed that a law draws -/
def DdOk (m : Menu) (who : List Str) : Dd → Prop
  | .sit s t => s ∈ who ∧ t ∈ tabW
  | .move s t => s ∈ who ∧ t ∈ tabW
  | .join t o => t ∈ tabW ∧ o ∈ tabW
  | .go s => s ∈ who
  | .ask n i c ss => (0 ≤ n ∧ n ≤ 999) ∧ wdOk i = true ∧ (0 ≤ c ∧ c ≤ 9) ∧ Ss who ss
  | .change n i => (0 ≤ n ∧ n ≤ 999) ∧ wdOk i = true
  | .fire t c => t ∈ tabW ∧ 0 ≤ c ∧ c ≤ 9
  | .rush t c => t ∈ tabW ∧ 0 ≤ c ∧ c ≤ 9
  | .serve n => 0 ≤ n ∧ n ≤ 999
  | .back n => 0 ≤ n ∧ n ≤ 999
  | .strike n => 0 ≤ n ∧ n ≤ 999
  | .pay s p => s ∈ who ∧ 1 ≤ p ∧ p ≤ 3000
  | .take s o p => s ∈ who ∧ o ∈ who ∧ 1 ≤ p ∧ p ≤ 3000
  | .even ss => Ss who ss
theorem dd_pure (dd : Dd) : (eDd dd).pure = true := by
  cases dd <;> simp [eDd, D.pure, D.pures, eSe, pures_strs]
end WG
set_option Elab.async false
set_option linter.all false
set_option maxRecDepth 100000
set_option maxHeartbeats 4000000
/-! The book that a law draws. -/
namespace WG
open PySem VL G Kd W9 W26
/-- pages that a law draws -/
structure Bk (m : Menu) (who : List Str) (t : Int) (pgs : List Pg) : Prop where
  t0 : 0 ≤ t
  t4 : t ≤ 4 * pgs.length
  pg : ∀ p ∈ pgs, 0 ≤ p.1.1 ∧ p.1.1 ≤ t ∧ 0 ≤ p.1.2 ∧ p.1.2 < pgs.length ∧ DdOk m who p.2
  up : pgs.Pairwise fun p q => p.1.1 ≤ q.1.1 ∧ p.1.2 < q.1.2
theorem Bk.nil (m : Menu) (who : List Str) : Bk m who 0 [] := ⟨by simp, by simp, by simp, by simp⟩
theorem Bk.dd {m : Menu} {who : List Str} {t : Int} {pgs : List Pg} (h : Bk m who t pgs) : ∀ p ∈ pgs, DdOk m who p.2 := fun p hp => (h.pg p hp).2.2.2.2
end WG
set_option Elab.async false
set_option linter.all false
set_option maxRecDepth 100000
set_option maxHeartbeats 4000000
/-! The words that a law draws, over any draw. -/
namespace WG
open PySem VL G Kd W9 W26
noncomputable abbrev wdB (dr : List D → AS → Out D) : En → AS → Fl := (sKill [7, 8] (sSeq (sSet 8 (vML popAtD (vVar 6) (vCons (vCallA 2 0 [] [.pos 0, .pos 1] dr (vCons (vVar 0) (vCons (vA (g1 lenD) (vCons (vVar 6) vNil)) vNil)) vNil) vNil)))
    (sExpr (vML appD (vVar 5) (vCons (vMS joinD (vC (.str "")) (vCons (vLc false [9] (v1 itD (vVar 8)) (kName 9) tYesV wdE) vNil)) vNil)))))
section
variable {dr : List D → AS → Out D} (DO : DrawOk dr)
include DO
theorem words_loop {i L : Nat} {ns : List Int} {k : Nat} {x1 x2 : D} : ∀ (js : List D) (N : Nat) (S : AS) (A P : List Str), Fw i ns N S → N + js.length < 100000 → i ≠ L → i ≠ L + 1 → S[L]? = some (.lst ((A.map (rot k)).map D.str)) → S[L + 1]? = some (.lst (P.map D.str)) → js.length ≤ P.length → A.length + js.length ≤ 1000 → P.length ≤ 1000 → (∀ w ∈ P, lowW w = true) →
    ∃ (S' : AS) (A' P' : List Str), forL (kName 7) (wdB dr) [] js [some (.ref i), some x1, some x2, some (.str abcS), some (.int (k : Nat)), some (.ref L), some (.ref (L + 1)), none, none, none] S = .nx [some (.ref i), some x1, some x2, some (.str abcS), some (.int (k : Nat)), some (.ref L), some (.ref (L + 1)), none, none, none] S' ∧ Fw i ns (N + js.length) S' ∧ S'[L]? = some (.lst ((A'.map (rot k)).map D.str)) ∧ (A' ++ P').Perm (A ++ P) ∧ A'.length = A.length + js.length ∧ S'.length = S.length ∧ ∀ j, j ≠ i → j ≠ L → j ≠ L + 1 → S'[j]? = S[j]?
  | [], N, S, A, P, f, _, _, _, hA, hP, _, _, _, _ => ⟨S, A, P, by simp [forL], f, hA, List.Perm.refl _, rfl, rfl, fun _ _ _ _ => rfl⟩
  | d :: js, N, S, A, P, f, hN, i1, i2, hA, hP, hl, ha, hp, hw => by
    simp only [List.length_cons] at hN hl ha
    obtain ⟨r, S1, e1, r0, r1, D1⟩ := DO (m := (P.length : Nat)) f (by omega) (by omega) (by omega)
    obtain ⟨rn, rfl⟩ : ∃ rn : Nat, r = rn := ⟨r.toNat, by omega⟩
    have hr : rn < P.length := by omega
    have hA1 : S1[L]? = some (.lst ((A.map (rot k)).map D.str)) := by rw [D1.at_ L (Ne.symm i1)]; exact hA
    have hP1 : S1[L + 1]? = some (.lst (P.map D.str)) := by rw [D1.at_ (L + 1) (Ne.symm i2)]; exact hP
    have wk : P[rn]? = some P[rn] := List.getElem?_eq_getElem hr
    have wl : lowW P[rn] = true := hw _ (List.getElem_mem hr)
    generalize hW : P[rn] = w at *
    have sl : P.length ≤ sizeLine := by rw [sizeLine_eq]; omega
    have L0 := (List.getElem?_eq_some_iff.mp hA1).1
    have L1 := (List.getElem?_eq_some_iff.mp hP1).1
    -- the pool
    have ep : (P.map D.str).eraseIdx rn = (P.eraseIdx rn).map D.str := erase_map D.str P rn
    have pop : popAtD (.ref (L + 1)) [.int (rn : Nat)] S1 = .ok (.str w) (S1.set (L + 1) (.lst ((P.eraseIdx rn).map D.str))) := by
      have ix : L2.ixN (P.map D.str).length (rn : Nat) = some rn := by
        rw [List.length_map]
        unfold L2.ixN
        split <;> simp_all
      have at_ : (P.map D.str)[rn]? = some (.str w) := by rw [List.getElem?_map, wk]; rfl
      rw [← ep]
      generalize P.map D.str = Q at *
      have b1 : (-9223372036854775808 : Int) ≤ (rn : Nat) ∧ ((rn : Nat) : Int) < 9223372036854775808 := by omega
      simp -implicitDefEqProofs [hP1, ix, at_, b1]
    have hA2 : (S1.set (L + 1) (.lst ((P.eraseIdx rn).map D.str)))[L]? = some (.lst ((A.map (rot k)).map D.str)) := by rw [List.getElem?_set_ne (by omega)]; exact hA1
    have hP2 : (S1.set (L + 1) (.lst ((P.eraseIdx rn).map D.str)))[L + 1]? = some (.lst ((P.eraseIdx rn).map D.str)) := List.getElem?_set_self L1
    have f2 := D1.fd.put (.lst ((P.eraseIdx rn).map D.str)) (Ne.symm i2)
    generalize hS2 : S1.set (L + 1) (.lst ((P.eraseIdx rn).map D.str)) = S2 at *
    have S2l : S2.length = S.length := by rw [← hS2, List.length_set, D1.len]
    have S2a : ∀ j, j ≠ i → j ≠ L + 1 → S2[j]? = S[j]? := fun j h1 h2 => by rw [← hS2, List.getElem?_set_ne (Ne.symm h2), D1.at_ j h1]
    have al : ((A.map (rot k)).map D.str).length < sizeLine := by rw [List.length_map, List.length_map, sizeLine_eq]; omega
    have app : appD (.ref L) [.str (rot k w)] S2 = .ok .non (S2.set L (.lst (((A ++ [w]).map (rot k)).map D.str))) := by
      have e : ((A ++ [w]).map (rot k)).map D.str = (A.map (rot k)).map D.str ++ [.str (rot k w)] := by simp
      rw [e]
      generalize (A.map (rot k)).map D.str = Q at *
      simp -implicitDefEqProofs [hA2, al]
    have hA3 : (S2.set L (.lst (((A ++ [w]).map (rot k)).map D.str)))[L]? = some (.lst (((A ++ [w]).map (rot k)).map D.str)) := List.getElem?_set_self (List.getElem?_eq_some_iff.mp hA2).1
    have hP3 : (S2.set L (.lst (((A ++ [w]).map (rot k)).map D.str)))[L + 1]? = some (.lst ((P.eraseIdx rn).map D.str)) := by rw [List.getElem?_set_ne (by omega)]; exact hP2
    have el : (P.eraseIdx rn).length = P.length - 1 := List.length_eraseIdx_of_lt hr
    obtain ⟨S', A', P', e4, f4, g4, p4, l4, s4, a4⟩ := words_loop (x1 := x1) (x2 := x2) js (N + 1) _ (A ++ [w]) (P.eraseIdx rn) (f2.put (.lst (((A ++ [w]).map (rot k)).map D.str)) (Ne.symm i1)) (by omega) i1 i2 hA3 hP3 (by omega) (by rw [List.length_append, List.length_singleton]; omega) (by omega) (fun y hy => hw y ((List.eraseIdx_sublist P rn).subset hy))
    have cm := rot_comp (x0 := .ref i) (x1 := x1) (x2 := x2) (x5 := .ref L) (x6 := .ref (L + 1)) (x7 := d) (k := k) wl S2
    have jn : joinD (.str (Str.ofString "")) [.lst ((w.cps.toList.map fun c => chS (97 + (c - 97 + k) % 26)).map D.str)] S2 = .ok (.str (rot k w)) S2 := by
      have e1 : strsOf ((w.cps.toList.map fun c => chS (97 + (c - 97 + k) % 26)).map D.str) = some (w.cps.toList.map fun c => chS (97 + (c - 97 + k) % 26)) := strs_of _
      have e2 := join_len (w.cps.toList.map fun c => chS (97 + (c - 97 + k) % 26)) (fun y hy => by
        obtain ⟨c, _, rfl⟩ := List.mem_map.mp hy
        rfl)
      have e3 := lowW_len wl
      rw [List.length_map] at e2
      have e0 : (Str.ofString "").length = 0 := by decide +kernel
      have rt : rot k w = Txt.join (Str.ofString "") (w.cps.toList.map fun c => chS (97 + (c - 97 + k) % 26)) := rfl
      rw [rt]
      have e4 : (w.cps.toList.map fun c => chS (97 + (c - 97 + k) % 26)).length ≤ 20 := by rw [List.length_map]; exact e3
      generalize w.cps.toList.map (fun c => chS (97 + (c - 97 + k) % 26)) = ys at *
      simp -implicitDefEqProofs only [joinD, seqOf, VL.listOf, e1]
      rw [if_pos (by rw [e2, e0]; omega)]
    refine ⟨S', A', P', ?_, by rw [show N + (d :: js).length = N + 1 + js.length by simp; omega]; exact f4, g4, p4.trans (perm_step A P wk), by rw [l4, List.length_append, List.length_singleton, List.length_cons]; omega, by rw [s4, List.length_set, S2l], fun j h1 h2 h3 => by rw [a4 j h1 h2 h3, List.getElem?_set_ne (Ne.symm h2), S2a j h1 h3]⟩
    have wz : (w.cps.toList.map fun c => D.str ⟨#[c]⟩).length ≤ sizeLine := by
      have := lowW_len wl
      rw [List.length_map, sizeLine_eq]
      omega
    have its : itD (.str w) S2 = .ok (w.cps.toList.map fun c => .str ⟨#[c]⟩, []) S2 := by simp
    have ln : lenD (.ref (L + 1)) S = .ok (.int P.length) S := by simp [hP, sl]
    rw [forL, if_pos gd_nilOk, ← e4]
    simp only [wdE] at cm
    generalize hC : w.cps.toList.map (fun c => chS (97 + (c - 97 + k) % 26)) = ys at *
    have yl : ys.length ≤ sizeLine := by
      rw [← hC, List.length_map, sizeLine_eq]
      have := lowW_len wl
      omega
    generalize w.cps.toList.map (fun c => D.str ⟨#[c]⟩) = cs at *
    generalize ((A ++ [w]).map (rot k)).map D.str = Q2 at *
    generalize (A.map (rot k)).map D.str = Q at *
    generalize (P.eraseIdx rn).map D.str = R2 at *
    simp -implicitDefEqProofs [-itD, -lenD, -popAtD, -appD, -joinD, hP, ln, e1, hP1, pop, its, wz, cm, mk, jn, hA2, app]
theorem f_words {i N : Nat} {ns : List Int} {st : AS} (f : Fw i ns N st) (base : List Str) (n : Nat) (hn : n ≤ base.length) (bl : base.length ≤ 100) (hw : ∀ w ∈ base, lowW w = true) (hN : N + 1 + n < 100000) :
    ∃ (k : Nat) (A : List Str) (S' : AS), wordsF dr [.ref i, .lst (base.map D.str), .int (n : Nat)] st = .ok (.lst ((A.map (rot k)).map D.str)) S' ∧ k < 26 ∧ Dw i ns (N + 1 + n) st S' ∧ A.length = n ∧ ∃ P, (A ++ P).Perm base := by
  obtain ⟨r, S1, e1, r0, r1, D1⟩ := DO (m := 26) f (by omega) (by omega) (by omega)
  obtain ⟨k, rfl⟩ : ∃ k : Nat, r = k := ⟨r.toNat, by omega⟩
  have il := f.lt
  have S1l := D1.len
  have f1 := D1.fd.push [C.lst [], .lst (base.map D.str)]
  have hA : (S1 ++ [C.lst [], .lst (base.map D.str)])[st.length]? = some (.lst ((([] : List Str).map (rot k)).map D.str)) := by rw [← S1l]; simp
  have hP : (S1 ++ [C.lst [], .lst (base.map D.str)])[st.length + 1]? = some (.lst (base.map D.str)) := by rw [← S1l]; simp
  have hr := rng1_ok (j := (n : Int)) (st := S1 ++ [C.lst [], .lst (base.map D.str)]) (by omega) (by omega)
  obtain ⟨S2, A, P, e2, f2, g2, p2, l2, s2, a2⟩ := words_loop DO (x1 := .lst (base.map D.str)) (x2 := .int (n : Nat)) ((List.range n).map fun (k : Nat) => D.int (k : Int)) (N + 1) _ [] base f1 (by rw [List.length_map, List.length_range]; omega) (by omega) (by omega) hA hP (by rw [List.length_map, List.length_range]; exact hn) (by rw [List.length_map, List.length_range]; simp; omega) (by omega) hw
  rw [List.length_map, List.length_range] at f2 l2
  obtain ⟨rt, dw⟩ := ret_new (k := 3) g2 (pures_strs _) f2 il (fun j hj hi => by rw [a2 j hi (by omega) (by omega), List.getElem?_append_left (by omega), D1.at_ j hi])
  refine ⟨k, A, _, ?_, by omega, dw, by simpa using l2, P, by simpa using p2⟩
  have bs : base.length ≤ sizeLine := by rw [sizeLine_eq]; omega
  have l0 : (0 : Nat) ≤ sizeLine := by rw [sizeLine_eq]; omega
  have l4 : (4 : Nat) ≤ sizeLine := by rw [sizeLine_eq]; omega
  simp only [wdB, wdE, abcS] at e2
  simp only [Int.toNat_natCast] at hr
  simp -implicitDefEqProofs [wordsF, wordsB, e1, mk, bs, l0, l4, hr, S1l, e2]
  rw [← List.map_map]
  exact rt
end
end WG
set_option Elab.async false
set_option linter.all false
set_option maxRecDepth 100000
set_option maxHeartbeats 4000000
/-! The house that a law draws. -/
namespace WG
open PySem VL G Kd W9 W26
structure PrOk (ps : List (Int × Int)) : Prop where
  up : ps.Pairwise fun p q => p.1 < q.1
  bd : ∀ p ∈ ps, (0 ≤ p.1 ∧ p.1 ≤ 100) ∧ 0 ≤ p.2 ∧ p.2 ≤ 100000
  hd : ps ≠ [] → ∃ p, p ∈ ps ∧ p.1 = 0
section
variable {dr : List D → AS → Out D} {i n L : Nat} {ns : List Int} {S st : AS} {o : Offs} {a b : Int} {who words : List Str}
theorem PrOk.nil : PrOk [] := ⟨by simp, by simp, by simp⟩
end
end WG
set_option Elab.async false
set_option linter.all false
set_option maxRecDepth 100000
set_option maxHeartbeats 2000000
/-! What the program refuses, and the law's walk. -/
namespace W9
open PySem VL G Kd
/-- a page that both walks take -/
structure VdA (pg : Pg) : Prop where
  p : VdP pg
  q : VdQ pg.2
end W9
set_option Elab.async false
set_option linter.all false
set_option maxRecDepth 100000
set_option maxHeartbeats 4000000
set_option exponentiation.threshold 2000
namespace Kd
open PySem PySem.Spec PyProof.Rows L2 TB VL
theorem sh_700 {i : Int} (h : i.natAbs < 2 ^ 703) : Sh 0 250 (.int i) := by
  have s := sh_big (i := i) (Nat.lt_of_lt_of_le h (Nat.pow_le_pow_right (show 0 < 2 by decide) (show 703 ≤ 1900 by decide)))
  refine ⟨s.sh, s.nd, s.dp, ?_⟩
  simp only [PyData.shown]
  have := PySem.int_text_length_le10 (a := i) (k := 212) (by decide) (Nat.lt_of_lt_of_le h (by decide +kernel))
  rw [PySem.ofString_length]
  omega
mutual
theorem ats8 {j : Nat} (hj : j ≤ 3) : ∀ d : PyData, Ats j d → d.showable = true ∧ d.hasDict = false ∧ d.shown.length + 10 ≤ 300 * sz d ∧ PyData.canLay0 d = true
  | .none, _ => by
    refine ⟨rfl, rfl, ?_, rfl⟩
    simp only [sz]
    decide
  | .bool b, _ => by
    refine ⟨rfl, rfl, ?_, rfl⟩
    simp only [sz]
    cases b <;> decide
  | .int i, a => by
    simp only [Ats] at a
    have s := sh_700 (Nat.lt_of_lt_of_le a (Nat.pow_le_pow_right (show 0 < 2 by decide) (show 700 + j ≤ 703 by omega)))
    refine ⟨s.sh, s.nd, ?_, rfl⟩
    have := s.ln
    simp only [sz]
    omega
  | .str z, a => by
    simp only [Ats] at a
    have s := sh_txt a.1
    refine ⟨s.sh, s.nd, ?_, ?_⟩
    · have := s.ln
      simp only [sz]
      omega
    · show PyData.strOk z = true
      unfold PyData.strOk
      simp only [Array.all_eq_true, Bool.and_eq_true]
      first
        | (intro i hi
           have := a.1 z.cps[i] (by simp)
           simp
           omega)
        | (have h := a.1
           simp
           omega)
  | .tuple xs, a => by
    simp only [Ats] at a
    obtain ⟨p, q, r, s, t⟩ := ats8s hj xs a
    refine ⟨by simp only [PyData.showable, p], by simp only [PyData.hasDict, q], ?_, by simp only [PyData.canLay0, t]⟩
    simp only [PyData.shown, sz]
    have := tupleText_len_le (PyData.shownAll xs)
    rw [s] at this
    omega
  | .list xs, a => by
    simp only [Ats] at a
    obtain ⟨p, q, r, s, t⟩ := ats8s hj xs a
    refine ⟨by simp only [PyData.showable, p], by simp only [PyData.hasDict, q], ?_, by simp only [PyData.canLay0, t]⟩
    simp only [PyData.shown, sz]
    have := listText_len_le (PyData.shownAll xs)
    rw [s] at this
    omega
  | .dict _, a => by simp [Ats] at a
theorem ats8s {j : Nat} (hj : j ≤ 3) : ∀ ds : List PyData, AtsL j ds → PyData.showableAll ds = true ∧ PyData.hasDictAll ds = false ∧ ((PyData.shownAll ds).map (·.length)).sum + 10 * ds.length ≤ 300 * szs ds ∧ (PyData.shownAll ds).length = ds.length ∧ PyData.canLayAll0 ds = true
  | [], _ => by simp [PyData.showableAll, PyData.hasDictAll, PyData.shownAll, szs, PyData.canLayAll0]
  | d :: ds, a => by
    simp only [AtsL] at a
    obtain ⟨p, q, r, s⟩ := ats8 hj d a.1
    obtain ⟨p', q', r', s', t'⟩ := ats8s hj ds a.2
    refine ⟨by simp only [PyData.showableAll, p, p', Bool.and_self], by simp only [PyData.hasDictAll, q, q', Bool.or_self], ?_, by simp only [PyData.shownAll, List.length_cons, s'], by simp only [PyData.canLayAll0, s, t', Bool.and_self]⟩
    simp only [PyData.shownAll, List.map_cons, List.sum_cons, szs, List.length_cons]
    omega
end
theorem fit_sh {m k j : Nat} {d : PyData} (h : Fit m k j d) (hj : j ≤ 3) : Sh k (300 * m) d := by
  obtain ⟨a, b, c, _⟩ := ats8 hj d h.at_
  have := h.sz
  exact ⟨a, b, h.dp, by omega⟩
end Kd
set_option Elab.async false
set_option linter.all false
set_option maxRecDepth 100000
set_option maxHeartbeats 4000000
set_option exponentiation.threshold 2000
/-! What repr asks of data: size and depth, piece by piece; the drawn house and book have them. -/
namespace WG
open PySem VL G Kd W9 W26 TB
/-- of this size, this depth -/
structure Rz (n k : Nat) (d : D) : Prop where
  p : d.pure = true
  f : Fit n k 0 d.py
structure Rzs (n k : Nat) (ds : List D) : Prop where
  p : D.pures ds = true
  sz : szs (D.pys ds) ≤ n
  dp : PyData.depthAll (D.pys ds) ≤ k
  at_ : AtsL 0 (D.pys ds)
section
variable {n m k c N : Nat} {d : D} {ds es : List D} {st : AS}
theorem Rz.mono {n' k' : Nat} (h : Rz n k d) (a : n ≤ n') (b : k ≤ k') : Rz n' k' d := ⟨h.p, h.f.mono a b (Nat.le_refl 0)⟩
theorem Rzs.mono {n' k' : Nat} (h : Rzs n k ds) (a : n ≤ n') (b : k ≤ k') : Rzs n' k' ds := ⟨h.p, Nat.le_trans h.sz a, Nat.le_trans h.dp b, h.at_⟩
theorem rz_int {i : Int} (h : i.natAbs < 2 ^ 700) : Rz 1 k (.int i) := ⟨by simp [D.pure], ⟨by simp [D.py, sz], by simp [D.py, PyData.depth], by simpa [D.py, Ats] using h⟩⟩
theorem rz_i {i : Int} (h0 : -1000000000000 ≤ i) (h1 : i ≤ 1000000000000) : Rz 1 k (.int i) := rz_int (Nat.lt_of_lt_of_le (show i.natAbs < 2 ^ 60 by omega) (Nat.pow_le_pow_right (by decide) (by decide)))
theorem rz_str {x : Str} (h : asc x ∧ x.length ≤ 20) : Rz 1 k (.str x) := ⟨by simp [D.pure], ⟨by simp [D.py, sz], by simp [D.py, PyData.depth], by simpa [D.py, Ats] using h⟩⟩
theorem rz_tup (h : Rzs n k ds) : Rz (n + 1) (k + 1) (.tup ds) := ⟨by rw [D.pure]; exact h.p, ⟨by rw [D.py]; simp only [sz]; have := h.sz; omega, by rw [D.py]; simp only [PyData.depth]; have := h.dp; omega, by rw [D.py]; simp only [Ats]; exact h.at_⟩⟩
theorem rz_ctp (h : Rzs n k ds) : Rz (n + 1) (k + 1) (.ctp ds) := ⟨by rw [D.pure]; exact h.p, ⟨by rw [D.py]; simp only [sz]; have := h.sz; omega, by rw [D.py]; simp only [PyData.depth]; have := h.dp; omega, by rw [D.py]; simp only [Ats]; exact h.at_⟩⟩
theorem rz_lst (h : Rzs n k ds) : Rz (n + 1) (k + 1) (.lst ds) := ⟨by rw [D.pure]; exact h.p, ⟨by rw [D.py]; simp only [sz]; have := h.sz; omega, by rw [D.py]; simp only [PyData.depth]; have := h.dp; omega, by rw [D.py]; simp only [Ats]; exact h.at_⟩⟩
theorem rzs_nil : Rzs 0 k [] := ⟨by simp [D.pures], by simp [D.pys, szs], by simp [D.pys, PyData.depthAll], by simp [D.pys, AtsL]⟩
theorem rzs_cons (h : Rz n k d) (g : Rzs m k ds) : Rzs (n + m) k (d :: ds) := ⟨by rw [D.pures, h.p, g.p]; rfl, by rw [D.pys]; simp only [szs]; have := h.f.sz; have := g.sz; omega, by rw [D.pys]; simp only [PyData.depthAll]; have := h.f.dp; have := g.dp; omega, by rw [D.pys]; simp only [AtsL]; exact ⟨h.f.at_, g.at_⟩⟩
theorem rzs_map {α : Type} (e : α → D) : ∀ {l : List α}, (∀ x ∈ l, Rz c k (e x)) → Rzs (c * l.length) k (l.map e)
  | [], _ => rzs_nil
  | x :: l, h => (rzs_cons (h x List.mem_cons_self) (rzs_map e fun y hy => h y (List.mem_cons_of_mem _ hy))).mono (by rw [List.length_cons, Nat.mul_succ]; omega) (Nat.le_refl _)
theorem rzs_mapN {α : Type} (e : α → D) {l : List α} (h : ∀ x ∈ l, Rz c k (e x)) (hl : l.length ≤ N) : Rzs (c * N) k (l.map e) := (rzs_map e h).mono (Nat.mul_le_mul_left c hl) (Nat.le_refl _)
theorem val_pure (h : d.pure = true) : valD st d = d := by
  cases d <;> first | rfl | (rw [D.pure] at h; cases h)
theorem repr_rz (h : Rz n k d) (hn : n ≤ 50000) (hk : k ≤ 60) : reprD d st = .ok (.str (txt d.py)) st := by
  have s := fit_sh h.f (by omega)
  unfold reprD
  rw [val_pure h.p, if_pos ⟨h.p, s.sh, by have := s.dp; omega, by have := s.ln; rw [sizeLine_eq]; omega⟩]
end
theorem rz_wd {k : Nat} {w : Str} (h : wdOk w = true) : Rz 1 k (.str w) := rz_str (wdOk_ws h)
theorem rz_tab {k : Nat} {w : Str} (h : w ∈ tabW) : Rz 1 k (.str w) := rz_wd (by
  simp only [tabW, List.map_cons, List.map_nil, List.mem_cons, List.not_mem_nil, or_false] at h
  rcases h with rfl | rfl | rfl <;> decide +kernel)
theorem rz_nm {n : Nm} (h1 : 0 ≤ n.1 ∧ n.1 ≤ 1000000) (h2 : 0 ≤ n.2 ∧ n.2 ≤ 1000000) : Rz 3 1 (eNm n) := rz_tup (rzs_cons (rz_i (by omega) (by omega)) (rzs_cons (rz_i (by omega) (by omega)) rzs_nil))
theorem rz_ss {who ss : List Str} (hw : ∀ w ∈ who, wdOk w = true) (h : Ss who ss) : Rz 31 1 (eSe ss) := rz_ctp (rzs_mapN (N := 30) D.str (fun w hx => rz_wd (k := 0) (hw w (h.mem w hx))) h.ln)
theorem lit_wd (s : String) (h : (wdOk (Str.ofString s)) = true := by decide +kernel) {k : Nat} : Rz 1 k (.str (Str.ofString s)) := rz_wd h
theorem rz_dd {m : Menu} {who : List Str} (hw : ∀ w ∈ who, wdOk w = true) {dd : Dd} (h : DdOk m who dd) : Rz 40 2 (eDd dd) := by
  cases dd <;> simp only [DdOk] at h <;> unfold eDd
  case sit s t => exact (rz_tup (rzs_cons (k := 1) (lit_wd "sit") (rzs_cons (rz_wd (hw _ h.1)) (rzs_cons (rz_tab h.2) rzs_nil)))).mono (by omega) (by omega)
  case move s t => exact (rz_tup (rzs_cons (k := 1) (lit_wd "move") (rzs_cons (rz_wd (hw _ h.1)) (rzs_cons (rz_tab h.2) rzs_nil)))).mono (by omega) (by omega)
  case join s t => exact (rz_tup (rzs_cons (k := 1) (lit_wd "join") (rzs_cons (rz_tab h.1) (rzs_cons (rz_tab h.2) rzs_nil)))).mono (by omega) (by omega)
  case go s => exact (rz_tup (rzs_cons (k := 1) (lit_wd "go") (rzs_cons (rz_wd (hw _ h)) rzs_nil))).mono (by omega) (by omega)
  case ask n i c ss => exact (rz_tup (rzs_cons (k := 1) (lit_wd "ask") (rzs_cons (rz_i (by omega) (by omega)) (rzs_cons (rz_wd h.2.1) (rzs_cons (rz_i (by omega) (by omega)) (rzs_cons (rz_ss hw h.2.2.2) rzs_nil)))))).mono (by omega) (by omega)
  case change n i => exact (rz_tup (rzs_cons (k := 1) (lit_wd "change") (rzs_cons (rz_i (by omega) (by omega)) (rzs_cons (rz_wd h.2) rzs_nil)))).mono (by omega) (by omega)
  case fire t c => exact (rz_tup (rzs_cons (k := 1) (lit_wd "fire") (rzs_cons (rz_tab h.1) (rzs_cons (rz_i (by omega) (by omega)) rzs_nil)))).mono (by omega) (by omega)
  case rush t c => exact (rz_tup (rzs_cons (k := 1) (lit_wd "rush") (rzs_cons (rz_tab h.1) (rzs_cons (rz_i (by omega) (by omega)) rzs_nil)))).mono (by omega) (by omega)
  case serve n => exact (rz_tup (rzs_cons (k := 1) (lit_wd "serve") (rzs_cons (rz_i (by omega) (by omega)) rzs_nil))).mono (by omega) (by omega)
  case back n => exact (rz_tup (rzs_cons (k := 1) (lit_wd "back") (rzs_cons (rz_i (by omega) (by omega)) rzs_nil))).mono (by omega) (by omega)
  case strike n => exact (rz_tup (rzs_cons (k := 1) (lit_wd "strike") (rzs_cons (rz_i (by omega) (by omega)) rzs_nil))).mono (by omega) (by omega)
  case pay s p => exact (rz_tup (rzs_cons (k := 1) (lit_wd "pay") (rzs_cons (rz_wd (hw _ h.1)) (rzs_cons (rz_i (by omega) (by omega)) rzs_nil)))).mono (by omega) (by omega)
  case take s o p => exact (rz_tup (rzs_cons (k := 1) (lit_wd "take") (rzs_cons (rz_wd (hw _ h.1)) (rzs_cons (rz_wd (hw _ h.2.1)) (rzs_cons (rz_i (by omega) (by omega)) rzs_nil))))).mono (by omega) (by omega)
  case even ss => exact (rz_tup (rzs_cons (k := 1) (lit_wd "even") (rzs_cons (rz_ss hw h) rzs_nil))).mono (by omega) (by omega)
/-- a book as drawn: what the walks want of it -/
structure BkOk (m : Menu) (pgs : List Pg) : Prop where
  ln : pgs.length ≤ 49
  va : ∀ p ∈ pgs, VdA p
  rz : ∀ p ∈ pgs, Rz 44 3 (ePg p)
  nm : ∀ p ∈ pgs, (0 ≤ p.1.1 ∧ p.1.1 ≤ 1000) ∧ 0 ≤ p.1.2 ∧ p.1.2 ≤ 1000
  up : pgs.Pairwise fun p q => p.1.1 ≤ q.1.1 ∧ p.1.2 < q.1.2
theorem BkOk.nil (m : Menu) : BkOk m [] := ⟨by simp, by simp, by simp, by simp, by simp⟩
theorem tab_ws {w : Str} (h : w ∈ tabW) : wdOk w = true := by
  simp only [tabW, List.map_cons, List.map_nil, List.mem_cons, List.not_mem_nil, or_false] at h
  rcases h with rfl | rfl | rfl <;> decide +kernel
theorem dd_vda {m : Menu} {who : List Str} (hw : ∀ w ∈ who, wdOk w = true) {nm : Nm} {dd : Dd} (h : DdOk m who dd) (h0 : 0 ≤ nm.1) : VdA (nm, dd) := by
  refine ⟨⟨h0, ?_, ?_, ?_⟩, ⟨?_, ?_, ?_⟩⟩
  · cases dd <;> simp only [DdOk] at h <;> simp only [WsDd]
    case ask n i c ss => have := h.2.2.2.ln; omega
    case take s o p => exact ⟨wdOk_ws (hw _ h.1), wdOk_ws (hw _ h.2.1)⟩
    case even ss => exact ⟨by have := h.ln; omega, fun s hs => wdOk_ws (hw _ (h.mem s hs))⟩
  · cases dd <;> simp only [DdOk] at h <;> simp only [WsD]
    case sit s t => exact wdOk_ws (tab_ws h.2)
    case move s t => exact wdOk_ws (tab_ws h.2)
    case join s t => exact wdOk_ws (tab_ws h.1)
  · cases dd <;> simp only [DdOk] at h <;> simp only [isSit, seatOf] <;> try simp
    case sit s t => exact wdOk_ws (hw _ h.1)
  · cases dd <;> simp only [DdOk] at h <;> simp only [Vd]
    case ask n i c ss => exact ⟨h.2.2.2.ne, by have := h.2.2.2.ln; omega⟩
    case even ss => exact ⟨List.length_pos_iff.mpr h.ne, by have := h.ln; omega⟩
  · rintro t ot rfl
    exact wdOk_ne (tab_ws h.2)
  · rintro n it c ss rfl
    exact h.2.2.2.nd
theorem Bk.ok {m : Menu} {who : List Str} {t : Int} {pgs : List Pg} (hw : ∀ w ∈ who, wdOk w = true) (h : Bk m who t pgs) (hl : pgs.length ≤ 49) : BkOk m pgs := by
  have := h.t4
  refine ⟨hl, fun p hp => ?_, fun p hp => ?_, fun p hp => ?_, h.up⟩
  · obtain ⟨a, b, c, d, e⟩ := h.pg p hp
    exact dd_vda hw e a
  · obtain ⟨a, b, c, d, e⟩ := h.pg p hp
    exact rz_tup (rzs_cons ((rz_nm (by omega) (by omega)).mono (Nat.le_refl 3) (by omega)) (rzs_cons (rz_dd hw e) rzs_nil))
  · obtain ⟨a, b, c, d, e⟩ := h.pg p hp
    omega
end WG
set_option Elab.async false
set_option linter.all false
set_option maxRecDepth 100000
set_option maxHeartbeats 4000000
/-! The reasons of the law's walk; seats that a law draws. -/
namespace WG
open PySem VL G Kd W9 W26 TB
end WG
set_option Elab.async false
set_option linter.all false
set_option maxRecDepth 100000
set_option maxHeartbeats 4000000
/-! The draw of k20 to k35, over its eight numbers. -/
namespace WG
open PySem VL G Kd W9 W26
end WG
set_option Elab.async false
set_option linter.all false
set_option maxRecDepth 100000
set_option maxHeartbeats 2000000
namespace G
open PySem VL
end G
set_option Elab.async false
set_option linter.all false
set_option maxRecDepth 100000
set_option maxHeartbeats 4000000
/-! The firings of the two walks are the same; things are equal to themselves. -/
namespace WG
open PySem VL G Kd W9 W26 TB
/-! a thing is equal to itself -/
end WG
set_option Elab.async false
set_option linter.all false
set_option maxRecDepth 100000
set_option maxHeartbeats 4000000
/-! The law's walk over a drawn book: what it has of the book, its beginnings, its sizes. -/
namespace WG
open PySem VL G Kd W9 W26 TB
/-- the dishes that rows tell were asked -/
theorem step_key {rs : List (Int × RowT)} {i : Dn} {n : Int} (h : n ∈ (rowsStep rs i).map (·.1)) : n ∈ rs.map (·.1) ∨ ∃ it c ss, i.dd = .ask n it c ss := by
  have put1 : ∀ (rs : List (Int × RowT)) k r, n ∈ (G.put rs k r).map (·.1) → n = k ∨ n ∈ rs.map (·.1) := fun rs k r h => by
    rw [put_keys] at h
    split at h
    · exact .inr h
    · rcases List.mem_append.mp h with h | h
      · exact .inr h
      · exact .inl (List.mem_singleton.mp h)
  have st1 : ∀ (rs : List (Int × RowT)) k (f : RowT → RowT), n ∈ ((match look rs k with | some r => G.put rs k (f r) | none => rs) : List (Int × RowT)).map (·.1) → n ∈ rs.map (·.1) := fun rs k f h => by
    cases e : look rs k with
    | none => rw [e] at h; exact h
    | some r =>
      rw [e] at h
      rcases put1 rs k _ h with rfl | h
      · exact mem_keys.mp (has_of e)
      · exact h
  have fold1 : ∀ (ns : List Int) (rs : List (Int × RowT)), n ∈ ((ns.foldl (fun rs n => match look rs n with | some r => G.put rs n { r with state := Str.ofString "fired" } | none => rs) rs) : List (Int × RowT)).map (·.1) → n ∈ rs.map (·.1) := by
    intro ns
    induction ns with
    | nil => exact fun rs h => h
    | cons k ns ih => exact fun rs h => st1 rs k (fun r => { r with state := Str.ofString "fired" }) (ih _ h)
  obtain ⟨nm, dd, fd, mv⟩ := i
  cases dd with
  | ask k it c ss =>
    rcases put1 rs k _ h with rfl | h
    · exact .inr ⟨it, c, ss, rfl⟩
    · exact .inl h
  | change k it => exact .inl (st1 rs k _ h)
  | fire t c => exact .inl (fold1 _ rs h)
  | rush t c => exact .inl (fold1 _ rs h)
  | serve k => exact .inl (st1 rs k _ h)
  | back k => exact .inl (st1 rs k _ h)
  | strike k => exact .inl (st1 rs k _ h)
  | _ => exact .inl h
end WG
set_option Elab.async false
set_option linter.all false
set_option maxRecDepth 100000
set_option maxHeartbeats 4000000
/-! The dishes that the program tells are the law's rows. -/
namespace WG
open PySem VL G Kd W9 W26 TB
end WG
set_option Elab.async false
set_option linter.all false
set_option maxRecDepth 100000
set_option maxHeartbeats 4000000
/-! What the law's rows hold; their sizes. -/
namespace WG
open PySem VL G Kd W9 W26 TB
theorem eq_of_wp {α : Type} {o : Out α} {a : α} {s : AS} (h : o.wp (fun d s' => Hold (d = a ∧ s' = s)) noX) : o = .ok a s := by
  obtain ⟨d, s', e, rfl, rfl⟩ := h.eq
  exact e
end WG
set_option Elab.async false
set_option linter.all false
set_option maxRecDepth 100000
set_option maxHeartbeats 4000000
/-! The pasts of the dishes are the law's. -/
namespace WG
open PySem VL G Kd W9 W26 TB
def pastOf (n : Int) (i : Dn) : List (Nm × Str) := match i.dd with
  | .ask k _ _ _ => if k = n then [(i.nm, Str.ofString "asked")] else []
  | .change k _ => if k = n then [(i.nm, Str.ofString "changed")] else []
  | .serve k => if k = n then [(i.nm, Str.ofString "served")] else []
  | .back k => if k = n then [(i.nm, Str.ofString "back")] else []
  | .strike k => if k = n then [(i.nm, Str.ofString "struck")] else []
  | .fire _ _ => if n ∈ i.fd then [(i.nm, Str.ofString "fired")] else []
  | .rush _ _ => if n ∈ i.fd then [(i.nm, Str.ofString "fired")] else []
  | _ => []
def pastL (is : List Dn) (n : Int) : List (Nm × Str) := is.flatMap (pastOf n)
theorem past_app (is : List Dn) (i : Dn) (n : Int) : pastL (is ++ [i]) n = pastL is n ++ pastOf n i := by
  unfold pastL
  rw [List.flatMap_append]
  simp
theorem mem_putH {κ α : Type} [DecidableEq κ] {l : List (κ × α)} {k : κ} {v : α} (hk : has l k = true) {x : κ × α} (h : x ∈ G.put l k v) : (x ∈ l ∧ x.1 ≠ k) ∨ x = (k, v) := by
  unfold G.put at h
  rw [if_pos hk] at h
  obtain ⟨y, hy, rfl⟩ := List.mem_map.mp h
  by_cases z : y.1 = k
  · rw [if_pos z]
    right
    rw [z]
  · rw [if_neg z]
    exact .inl ⟨hy, z⟩
section
variable {m : Menu} {o : Offs} {w : W9.Wk} {s : LW}
/-- the pasts, and nothing of what was not asked -/
structure Pst (w : W9.Wk) (is : List Dn) : Prop where
  d : ∀ d ∈ w.dishes, d.2.2.past = pastL is d.1
  z : ∀ n, has w.dishes n = false → pastL is n = []
theorem Pst.same (h : Pst w s.is) (i : Dn) (hi : ∀ k, pastOf k i = []) (w' : W9.Wk) (hw : w'.dishes = w.dishes) : Pst w' (s.is ++ [i]) :=
  ⟨fun y hy => by rw [hw] at hy; rw [past_app, hi, List.append_nil]; exact h.d y hy, fun k hk => by rw [hw] at hk; rw [past_app, hi, List.append_nil]; exact h.z k hk⟩
end
end WG
set_option Elab.async false
set_option linter.all false
set_option maxRecDepth 100000
set_option maxHeartbeats 4000000
/-! A dish's history. -/
namespace WG
open PySem VL G Kd W9 W26 TB
/-! a dict that is walked -/
theorem put_mono {κ α : Type} [DecidableEq κ] {l : List (κ × α)} {k n : κ} {v : α} (h : has l n = true) : has (G.put l k v) n = true := by
  rw [mem_keys, put_keys]
  rw [mem_keys] at h
  split
  · exact h
  · exact List.mem_append_left _ h
theorem put_has {κ α : Type} [DecidableEq κ] (l : List (κ × α)) (k : κ) (v : α) : has (G.put l k v) k = true := by
  rw [has_look, look_put, if_pos rfl]
  rfl
theorem step_mono {rs : List (Int × RowT)} {i : Dn} {n : Int} (h : has rs n = true) : has (rowsStep rs i) n = true := by
  have st1 : ∀ (rs : List (Int × RowT)) k (f : RowT → RowT), has rs n = true → has ((match look rs k with | some r => G.put rs k (f r) | none => rs) : List (Int × RowT)) n = true := fun rs k f h => by
    cases look rs k with
    | none => exact h
    | some r => exact put_mono h
  have fold1 : ∀ (ns : List Int) (rs : List (Int × RowT)), has rs n = true → has ((ns.foldl (fun rs n => match look rs n with | some r => G.put rs n { r with state := Str.ofString "fired" } | none => rs) rs) : List (Int × RowT)) n = true := by
    intro ns
    induction ns with
    | nil => exact fun rs h => h
    | cons k ns ih => exact fun rs h => ih _ (st1 rs k (fun r => { r with state := Str.ofString "fired" }) h)
  obtain ⟨nm, dd, fd, mv⟩ := i
  cases dd with
  | ask k it c ss => exact put_mono h
  | change k it => exact st1 rs k _ h
  | fire t c => exact fold1 _ rs h
  | rush t c => exact fold1 _ rs h
  | serve k => exact st1 rs k _ h
  | back k => exact st1 rs k _ h
  | strike k => exact st1 rs k _ h
  | _ => exact h
theorem rows_mono {n : Int} : ∀ (is : List Dn) (rs : List (Int × RowT)), has rs n = true → has (is.foldl rowsStep rs) n = true
  | [], rs, h => h
  | i :: is, rs, h => rows_mono is _ (step_mono h)
/-- nothing is told of what was not asked -/
theorem past_none {n : Int} : ∀ (is : List Dn) (rs : List (Int × RowT)), Fits rs is → has (is.foldl rowsStep rs) n = false → pastL is n = []
  | [], rs, _, _ => rfl
  | i :: is, rs, hf, hn => by
    have ih := past_none is (rowsStep rs i) hf.2.2 hn
    show pastOf n i ++ pastL is n = []
    rw [ih, List.append_nil]
    have f1 := hf.1
    have no : has rs n = true → False := fun h => by
      have := rows_mono (i :: is) rs h
      rw [hn] at this
      cases this
    have no2 : has (rowsStep rs i) n = true → False := fun h => by
      have := rows_mono is _ h
      rw [show is.foldl rowsStep (rowsStep rs i) = (i :: is).foldl rowsStep rs from rfl, hn] at this
      cases this
    obtain ⟨nm, dd, fd, mv⟩ := i
    unfold FitD at f1
    unfold pastOf
    cases dd <;> simp only at f1 ⊢
    case ask k it c ss =>
      rw [if_neg]
      rintro rfl
      exact no2 (put_has _ _ _)
    case change k it => rw [if_neg]; rintro rfl; exact no f1
    case serve k => rw [if_neg]; rintro rfl; exact no f1
    case back k => rw [if_neg]; rintro rfl; exact no f1
    case strike k => rw [if_neg]; rintro rfl; exact no f1
    case fire t c => rw [if_neg]; exact fun h => no (f1 n h)
    case rush t c => rw [if_neg]; exact fun h => no (f1 n h)
/-- what the law reckons of the pasts -/
structure Due (is : List Dn) (dl : List (Int × List (Nm × Str))) : Prop where
  v : ∀ e ∈ dl, e.2 = pastL is e.1 ∧ has (rowsT is) e.1 = true
  k : ∀ n, has (rowsT is) n = true → has dl n = true
  l : dl.length ≤ is.length
theorem Due.nil : Due [] [] := ⟨by simp, fun n h => (by simp [rowsT] at h), by simp⟩
theorem Due.get {is : List Dn} {dl : List (Int × List (Nm × Str))} (h : Due is dl) (hf : Fits [] is) (n : Int) : (look dl n).getD [] = pastL is n := by
  cases e : look dl n with
  | some v => exact (h.v _ (look_mem e)).1
  | none =>
    refine (past_none is [] hf ?_).symm
    cases q : has (rowsT is) n with
    | false => exact q
    | true =>
      have := h.k n q
      rw [has_look, e] at this
      cases this
theorem rows_snoc (is : List Dn) (i : Dn) : rowsT (is ++ [i]) = rowsStep (rowsT is) i := by
  unfold rowsT
  rw [List.foldl_append]
  rfl
abbrev putP (x : Nm × Str) (dl : List (Int × List (Nm × Str))) (n : Int) : List (Int × List (Nm × Str)) := G.put dl n ((look dl n).getD [] ++ [x])
theorem fires_due (x : Nm × Str) : ∀ (ns : List Int) (dl : List (Int × List (Nm × Str))) (P : Int → List (Nm × Str)), ns.Nodup → (∀ n ∈ ns, has dl n = true) → (∀ e ∈ dl, e.2 = P e.1) →
    (∀ e ∈ ns.foldl (putP x) dl, e.2 = P e.1 ++ (if e.1 ∈ ns then [x] else [])) ∧ (ns.foldl (putP x) dl).map (·.1) = dl.map (·.1)
  | [], dl, P, _, _, h => ⟨fun e he => by simpa using h e he, rfl⟩
  | n :: ns, dl, P, nd, hn, h => by
    obtain ⟨n1, n2⟩ := List.nodup_cons.mp nd
    have hh := hn n List.mem_cons_self
    have hh2 := hh
    rw [has_look] at hh2
    obtain ⟨v, e⟩ := Option.isSome_iff_exists.mp hh2
    have kd : (putP x dl n).map (·.1) = dl.map (·.1) := by rw [put_keys, if_pos hh]
    have h1 : ∀ y ∈ putP x dl n, y.2 = P y.1 ++ (if y.1 = n then [x] else []) := fun y hy => by
      rcases mem_putH hh hy with ⟨a, b⟩ | rfl
      · rw [if_neg b, List.append_nil]; exact h y a
      · show (look dl n).getD [] ++ [x] = _
        rw [if_pos rfl, e]
        have q : v = P n := h _ (look_mem e)
        show v ++ _ = P n ++ _
        rw [q]
    obtain ⟨a, b⟩ := fires_due x ns (putP x dl n) (fun k => P k ++ (if k = n then [x] else [])) n2 (fun k hk => by
      rw [mem_keys, kd, ← mem_keys]
      exact hn k (List.mem_cons_of_mem _ hk)) h1
    refine ⟨fun y hy => ?_, b.trans kd⟩
    rw [a y hy]
    by_cases z : y.1 = n
    · simp [z, n1]
    · simp [z]
theorem Due.fire {is : List Dn} {dl : List (Int × List (Nm × Str))} (h : Due is dl) {i : Dn} {t : Str} {c : Int} (hi : i.dd = .fire t c ∨ i.dd = .rush t c) (nd : i.fd.Nodup) (hn : ∀ n ∈ i.fd, has (rowsT is) n = true) : Due (is ++ [i]) (i.fd.foldl (putP (i.nm, Str.ofString "fired")) dl) := by
  obtain ⟨a, b⟩ := fires_due (i.nm, Str.ofString "fired") i.fd dl (pastL is) nd (fun n hm => h.k n (hn n hm)) fun e he => (h.v e he).1
  have po : ∀ k, pastOf k i = if k ∈ i.fd then [(i.nm, Str.ofString "fired")] else [] := fun k => by
    unfold pastOf
    rcases hi with hi | hi <;> rw [hi]
  refine ⟨fun e he => ⟨by rw [past_app, po]; exact a e he, ?_⟩, fun n hm => ?_, ?_⟩
  · rw [rows_snoc]
    apply step_mono
    have : e.1 ∈ dl.map (·.1) := by rw [← b]; exact List.mem_map_of_mem he
    obtain ⟨e', he', z⟩ := List.mem_map.mp this
    rw [← z]
    exact (h.v e' he').2
  · rw [rows_snoc, mem_keys] at hm
    rw [mem_keys, b, ← mem_keys]
    rcases step_key hm with q | ⟨it, c', ss, q⟩
    · exact h.k n (mem_keys.mpr q)
    · rcases hi with hi | hi <;> rw [hi] at q <;> cases q
  · have := congrArg List.length b
    rw [List.length_map, List.length_map] at this
    have := h.l
    rw [List.length_append]
    omega
end WG
set_option Elab.async false
set_option linter.all false
set_option maxRecDepth 100000
set_option maxHeartbeats 4000000
/-! What bars a course, whether it may be fired; names compared; a page behind all. -/
namespace WG
open PySem VL G Kd W9 W26 TB
end WG
set_option Elab.async false
set_option linter.all false
set_option maxRecDepth 100000
set_option maxHeartbeats 4000000
/-! A seat that paid, went and sits at another table. -/
namespace WG
open PySem VL G Kd W9 W26 TB
abbrev cA : Str := Str.ofString "a"
abbrev cB : Str := Str.ofString "b"
abbrev cT : Str := Str.ofString "t"
abbrev cM : Str := Str.ofString "m"
theorem frz_bl (S : AS) (n k : Nat) (b : Bool) : frzD S n k (.bl b) = .bl b := by cases k <;> rfl
theorem ret_bl {frz : Nat} {st0 S : AS} {b : Bool} {E : XQ} : (VL.ret frz st0 (.bl b) S).wp (fun d _ => d = .bl b) E := by
  unfold VL.ret
  rw [frz_bl]
  split
  · rfl
  · split <;> rfl
end WG
set_option Elab.async false
set_option linter.all false
set_option maxRecDepth 100000
set_option maxHeartbeats 4000000
/-! Where all sit: the program's sitting, and the law's. -/
namespace WG
open PySem VL G Kd W9 W26 TB
end WG
set_option Elab.async false
set_option linter.all false
set_option maxRecDepth 100000
set_option maxHeartbeats 4000000
/-! Of which table a dish is; rows that nothing turns. -/
namespace WG
open PySem VL G Kd W9 W26 TB
end WG
set_option Elab.async false
set_option linter.all false
set_option maxRecDepth 100000
set_option maxHeartbeats 4000000
/-! Two seats that paid, went and sit at other tables: of which table their dish is, page by page. -/
namespace WG
open PySem VL G Kd W9 W26 TB
abbrev P1 : Pg := ((0, 1), .sit cB cT)
abbrev P2 (c : Int) : Pg := ((0, 2), .ask 7 cM c [cA, cB])
end WG
set_option Elab.async false
set_option linter.all false
set_option maxRecDepth 100000
set_option maxHeartbeats 2000000
namespace G
open PySem VL
-- shares_of: call zip
end G
set_option Elab.async false
set_option linter.all false
set_option maxRecDepth 100000
set_option maxHeartbeats 2000000
namespace G
open PySem VL
noncomputable def B__law_feed_7f41 : En → AS → Fl :=
    (sRet (vA (gLst true) (vCons (vA (g1 (lstD false)) (vCons (vSl (slD false) (vVar 0) vNoPart (v1 asI (vC (.int 63)))) vNil)) (vCons (vC (.int 0)) (vCons (vC (.int 0)) vNil)))))
noncomputable def F__law_feed_7f41 : List D → AS → Out D := vFn 1 0 B__law_feed_7f41
-- _law_parts_1d10: call zip
-- _law_owed_6668: needs _law_parts
-- _law_can_dish_fb6c: call set
-- _law_can_cb52: method values
-- _law_even_9986: needs _law_owed
-- _law_done_89d0: needs _law_even
-- _law_walk_9bf0: needs _law_done
-- _law_runs: needs _law_walk
-- law_3c7d: needs _law_runs
end G
set_option Elab.async false
set_option linter.all false
set_option maxRecDepth 100000
set_option maxHeartbeats 2000000
namespace G
open PySem VL
end G
set_option Elab.async false
set_option linter.all false
set_option maxRecDepth 100000
set_option maxHeartbeats 2000000
namespace G
open PySem VL
end G
set_option Elab.async false
set_option linter.all false
set_option maxRecDepth 100000
set_option maxHeartbeats 2000000
namespace G
open PySem VL
-- book_by: two generators
end G
set_option Elab.async false
set_option linter.all false
set_option maxRecDepth 100000
set_option maxHeartbeats 2000000
namespace G
open PySem VL
noncomputable def B__law_next_24af : En → AS → Fl :=
    (sSeq (sIf (vB (v2 gtD (v2 ixD (vVar 0) (vC (.int 2))) (vC (.int 0)))) (sSeq (sSet 2 (v2 modD (v2 ixD (vVar 0) (vC (.int 2))) (vVar 1)))
    (sSeq (sAsg (v2 fdivD (v2 ixD (vVar 0) (vC (.int 2))) (vVar 1)) (kSub (vVar 0) (vC (.int 2))))
    (sRet (vVar 2)))) sNext)
    (sSeq (sSet 3 (v2 ixD (vVar 0) (vC (.int 1))))
    (sSeq (sAsg (v2 (addD false) (vVar 3) (vC (.int 1))) (kSub (vVar 0) (vC (.int 1))))
    (sSeq (sSet 4 (vIfE (vB (v2 (eqD true) (v2 ixD (vVar 0) (vC (.int 0))) (vA (gLst false) vNil))) (v2 ixD (v2 ixD (vVar 0) (vC (.int 0))) (v2 modD (vVar 3) (vA (g1 lenD) (vCons (v2 ixD (vVar 0) (vC (.int 0))) vNil)))) (vC (.int 0))))
    (sSeq (sIf (vAnd (vB (v2 geD (vVar 4) (v2 powD (vC (.int 10)) (vC (.int 18))))) (vB (v2 ltD (vVar 3) (vA (g1 lenD) (vCons (v2 ixD (vVar 0) (vC (.int 0))) vNil))))) (sSeq (sAsg (v2 fdivD (vVar 4) (vVar 1)) (kSub (vVar 0) (vC (.int 2))))
    (sRet (v2 modD (vVar 4) (vVar 1)))) sNext)
    (sSeq (sSet 5 (v2 modD (v2 (mulD false) (v2 (addD false) (v2 (addD false) (v2 (addD false) (v2 modD (vVar 4) (vC (.int 1000003))) (v2 (mulD false) (v2 (mulD false) (vC (.int 37)) (vVar 3)) (vVar 3))) (v2 (mulD false) (vC (.int 13)) (vVar 3))) (vC (.int 5))) (vC (.int 48271))) (vC (.int 999983))))
    (sRet (v2 modD (v2 fdivD (v2 modD (v2 (mulD false) (v2 modD (v2 (addD false) (v2 (addD false) (v2 (mulD false) (vVar 5) (vVar 5)) (v2 (mulD false) (vC (.int 7919)) (vVar 3))) (vC (.int 11))) (vC (.int 2097143))) (vC (.int 69621))) (vC (.int 2147483629))) (vC (.int 7))) (vVar 1)))))))))
noncomputable def F__law_next_24af : List D → AS → Out D := vFn 6 0 B__law_next_24af
noncomputable def B__law_words_5d00 : En → AS → Fl :=
    (sRet (vLc false [3] (vA rng1 (vCons (vVar 1) vNil)) (kName 3) tYesV (vML popAtD (vVar 2) (vCons (vCallA 2 0 [] [.pos 0, .pos 1] F__law_next_24af (vCons (vVar 0) (vCons (vA (g1 lenD) (vCons (vVar 2) vNil)) vNil)) vNil) vNil))))
noncomputable def F__law_words_5d00 : List D → AS → Out D := vFn 4 0 B__law_words_5d00
noncomputable def B__law_prices_0dbf : En → AS → Fl :=
    (sSeq (sPar 1 2 (vCons (vA (gLst true) (vCons (vA gTup (vCons (vC (.int 0)) (vCons (v2 ixD (vA (gLst false) (vCons (vC (.int 0)) (vCons (vC (.int 1)) (vCons (vC (.int 99)) (vCons (vCallA 2 0 [] [.pos 0, .pos 1] F__law_next_24af (vCons (vVar 0) (vCons (vC (.int 1000)) vNil)) vNil) (vCons (vCallA 2 0 [] [.pos 0, .pos 1] F__law_next_24af (vCons (vVar 0) (vCons (vC (.int 100001)) vNil)) vNil) vNil)))))) (vCallA 2 0 [] [.pos 0, .pos 1] F__law_next_24af (vCons (vVar 0) (vCons (vC (.int 5)) vNil)) vNil)) vNil))) vNil)) (vCons (vC (.int 0)) vNil)))
    (sSeq (sFor (vA rng1 (vCons (v2 ixD (vA (gLst false) (vCons (vC (.int 0)) (vCons (vC (.int 0)) (vCons (vC (.int 1)) (vCons (vC (.int 3)) vNil))))) (vCallA 2 0 [] [.pos 0, .pos 1] F__law_next_24af (vCons (vVar 0) (vCons (vC (.int 4)) vNil)) vNil)) vNil)) (kName 3) (sKill [3] (sSeq (sSet 2 (v2 (addD false) (v2 (addD false) (vVar 2) (vC (.int 1))) (vCallA 2 0 [] [.pos 0, .pos 1] F__law_next_24af (vCons (vVar 0) (vCons (vC (.int 20)) vNil)) vNil)))
    (sExpr (vML appD (vVar 1) (vCons (vA gTup (vCons (vVar 2) (vCons (vCallA 2 0 [] [.pos 0, .pos 1] F__law_next_24af (vCons (vVar 0) (vCons (vC (.int 1000)) vNil)) vNil) vNil))) vNil))))))
    (sRet (vA (g1 tupD) (vCons (vVar 1) vNil)))))
noncomputable def F__law_prices_0dbf : List D → AS → Out D := vFn 4 0 B__law_prices_0dbf
noncomputable def B__law_house_dbe9 : En → AS → Fl :=
    (sSeq (sSet 1 (vA (g1 (sortD false)) (vCons (vCallA 3 0 [] [.pos 0, .pos 1, .pos 2] F__law_words_5d00 (vCons (vVar 0) (vCons (v2 (addD false) (vC (.int 1)) (vCallA 2 0 [] [.pos 0, .pos 1] F__law_next_24af (vCons (vVar 0) (vCons (vC (.int 4)) vNil)) vNil)) (vCons (vA (gLst true) (vCons (vC (.str "a")) (vCons (vC (.str "ab")) (vCons (vC (.str "beer")) (vCons (vC (.str "soup")) (vCons (vC (.str "soups")) (vCons (vC (.str "tea")) (vCons (vC (.str "z")) vNil)))))))) vNil))) vNil) vNil)))
    (sSeq (sSet 2 (vA (g1 tupD) (vCons (vLc false [7] (v1 itD (vVar 1)) (kName 7) tYesV (vA gTup (vCons (vVar 7) (vCons (vCallA 2 0 [] [.pos 0, .pos 1] F__law_next_24af (vCons (vVar 0) (vCons (vC (.int 61)) vNil)) vNil) (vCons (vCallA 1 0 [] [.pos 0] F__law_prices_0dbf (vCons (vVar 0) vNil) vNil) vNil))))) vNil)))
    (sSeq (sSet 3 (vA (gLst true) vNil))
    (sSeq (sFor (vA rng1 (vCons (vCallA 2 0 [] [.pos 0, .pos 1] F__law_next_24af (vCons (vVar 0) (vCons (vC (.int 3)) vNil)) vNil) vNil)) (kName 4) (sKill [4, 5, 6] (sSeq (sSet 5 (vA (g1 tupD) (vCons (vLc false [7] (v1 itD (vVar 1)) (kName 7) (vB (v2 (eqD false) (vCallA 2 0 [] [.pos 0, .pos 1] F__law_next_24af (vCons (vVar 0) (vCons (vC (.int 2)) vNil)) vNil) (vC (.int 0)))) (vVar 7)) vNil)))
    (sSeq (sSet 6 (v2 ixD (vA (gLst false) (vCons (vC (.int 0)) (vCons (vCallA 2 0 [] [.pos 0, .pos 1] F__law_next_24af (vCons (vVar 0) (vCons (vC (.int 20)) vNil)) vNil) vNil))) (vCallA 2 0 [] [.pos 0, .pos 1] F__law_next_24af (vCons (vVar 0) (vCons (vC (.int 2)) vNil)) vNil)))
    (sExpr (vML appD (vVar 3) (vCons (vA gTup (vCons (vVar 5) (vCons (vVar 6) (vCons (v2 (addD false) (vVar 6) (vCallA 2 0 [] [.pos 0, .pos 1] F__law_next_24af (vCons (vVar 0) (vCons (vC (.int 30)) vNil)) vNil)) (vCons (v2 ixD (vA (gLst false) (vCons (vC (.int 0)) (vCons (vC (.int 50)) (vCons (vC (.int 100)) (vCons (vCallA 2 0 [] [.pos 0, .pos 1] F__law_next_24af (vCons (vVar 0) (vCons (vC (.int 101)) vNil)) vNil) vNil))))) (vCallA 2 0 [] [.pos 0, .pos 1] F__law_next_24af (vCons (vVar 0) (vCons (vC (.int 4)) vNil)) vNil)) vNil))))) vNil)))))))
    (sRet (vA gTup (vCons (vVar 2) (vCons (vA (g1 tupD) (vCons (vVar 3) vNil)) (vCons (vCallA 2 0 [] [.pos 0, .pos 1] F__law_next_24af (vCons (vVar 0) (vCons (vC (.int 121)) vNil)) vNil) (vCons (v2 (addD false) (vC (.int 1)) (vCallA 2 0 [] [.pos 0, .pos 1] F__law_next_24af (vCons (vVar 0) (vCons (vC (.int 9)) vNil)) vNil)) vNil))))))))))
noncomputable def F__law_house_dbe9 : List D → AS → Out D := vFn 8 0 B__law_house_dbe9
noncomputable def B__law_guests_73db : En → AS → Fl :=
    (sSeq (sSet 1 (vA (g1 (sortD false)) (vCons (vCallA 3 0 [] [.pos 0, .pos 1, .pos 2] F__law_words_5d00 (vCons (vVar 0) (vCons (v2 (addD false) (vC (.int 2)) (vCallA 2 0 [] [.pos 0, .pos 1] F__law_next_24af (vCons (vVar 0) (vCons (vC (.int 3)) vNil)) vNil)) (vCons (vA (gLst true) (vCons (vC (.str "a")) (vCons (vC (.str "ann")) (vCons (vC (.str "anna")) (vCons (vC (.str "b")) (vCons (vC (.str "bo")) (vCons (vC (.str "bob")) (vCons (vC (.str "l")) vNil)))))))) vNil))) vNil) vNil)))
    (sRet (vA gTup (vCons (vVar 1) (vCons (vCallA 3 0 [] [.pos 0, .pos 1, .pos 2] F__law_words_5d00 (vCons (vVar 0) (vCons (v2 (addD false) (vC (.int 2)) (vCallA 2 0 [] [.pos 0, .pos 1] F__law_next_24af (vCons (vVar 0) (vCons (vC (.int 2)) vNil)) vNil)) (vCons (vA (gLst true) (vCons (vC (.str "l")) (vCons (vC (.str "left")) (vCons (vC (.str "r")) (vCons (vC (.str "ann")) vNil))))) vNil))) vNil) vNil)))))
noncomputable def F__law_guests_73db : List D → AS → Out D := vFn 2 0 B__law_guests_73db
noncomputable def B__law_dish_deed_b8d1 : En → AS → Fl :=
    (sSeq (sSet 3 (vCallA 2 0 [] [.pos 0, .pos 1] F__law_next_24af (vCons (vVar 0) (vCons (v2 (addD false) (vVar 2) (vC (.int 1))) vNil)) vNil))
    (sSeq (sSet 4 (v2 ixD (vA (gLst false) (vCons (vC (.str "serve")) (vCons (vC (.str "serve")) (vCons (vC (.str "back")) (vCons (vC (.str "strike")) (vCons (vC (.str "change")) vNil)))))) (vCallA 2 0 [] [.pos 0, .pos 1] F__law_next_24af (vCons (vVar 0) (vCons (vC (.int 5)) vNil)) vNil)))
    (sRet (vIfE (vB (v2 (eqD false) (vVar 4) (vC (.str "change")))) (vA gTup (vCons (vVar 4) (vCons (vVar 3) (vCons (v2 ixD (vVar 1) (vCallA 2 0 [] [.pos 0, .pos 1] F__law_next_24af (vCons (vVar 0) (vCons (vA (g1 lenD) (vCons (vVar 1) vNil)) vNil)) vNil)) vNil)))) (vA gTup (vCons (vVar 4) (vCons (vVar 3) vNil)))))))
noncomputable def F__law_dish_deed_b8d1 : List D → AS → Out D := vFn 5 0 B__law_dish_deed_b8d1
noncomputable def B__law_deed_0add : En → AS → Fl :=
    (sSeq (sAsg (vVar 2) (kTup 2 (kCons (kName 4) (kCons (kName 5) kNil))))
    (sSeq (sPar 6 7 (vCons (vCallA 2 0 [] [.pos 0, .pos 1] F__law_next_24af (vCons (vVar 0) (vCons (vA (g1 lenD) (vCons (vVar 4) vNil)) vNil)) vNil) (vCons (vCallA 2 0 [] [.pos 0, .pos 1] F__law_next_24af (vCons (vVar 0) (vCons (vA (g1 lenD) (vCons (vVar 5) vNil)) vNil)) vNil) vNil)))
    (sSeq (sAsg (vA gTup (vCons (v2 ixD (vVar 4) (vVar 6)) (vCons (v2 ixD (vVar 4) (v2 subD (vVar 6) (vC (.int 1)))) (vCons (v2 ixD (vVar 5) (vVar 7)) vNil)))) (kTup 3 (kCons (kName 8) (kCons (kName 9) (kCons (kName 10) kNil)))))
    (sSeq (sSet 11 (vCallA 2 0 [] [.pos 0, .pos 1] F__law_next_24af (vCons (vVar 0) (vCons (vC (.int 20)) vNil)) vNil))
    (sSeq (sSet 12 (vA (g1 tupFD) (vCons (vLc false [16] (v1 itD (vVar 4)) (kName 16) (vOr (vB (v2 (eqD false) (vVar 16) (vVar 8))) (vB (v2 (eqD false) (vCallA 2 0 [] [.pos 0, .pos 1] F__law_next_24af (vCons (vVar 0) (vCons (vC (.int 2)) vNil)) vNil) (vC (.int 0))))) (vVar 16)) vNil)))
    (sSeq (sSet 13 (v2 (addD false) (vC (.int 1)) (v2 ixD (vA (gLst false) (vCons (vC (.int 0)) (vCons (vCallA 2 0 [] [.pos 0, .pos 1] F__law_next_24af (vCons (vVar 0) (vCons (vC (.int 50)) vNil)) vNil) (vCons (vCallA 2 0 [] [.pos 0, .pos 1] F__law_next_24af (vCons (vVar 0) (vCons (vC (.int 2000)) vNil)) vNil) vNil)))) (vCallA 2 0 [] [.pos 0, .pos 1] F__law_next_24af (vCons (vVar 0) (vCons (vC (.int 3)) vNil)) vNil))))
    (sSeq (sIf (vAnd (vB (v2 ltD (vVar 11) (vC (.int 6)))) (vB (v2 ltD (vVar 3) (vC (.int 12))))) (sSeq (sSet 14 (v2 subD (vVar 3) (vA (g1 intD) (vCons (vAndV (v2 gtD (vVar 3) (vC (.int 0))) (v2 (eqD false) (vCallA 2 0 [] [.pos 0, .pos 1] F__law_next_24af (vCons (vVar 0) (vCons (vC (.int 9)) vNil)) vNil) (vC (.int 0)))) vNil))))
    (sRet (vA gTup (vCons (vC (.str "ask")) (vCons (vVar 14) (vCons (v2 ixD (vVar 1) (vCallA 2 0 [] [.pos 0, .pos 1] F__law_next_24af (vCons (vVar 0) (vCons (vA (g1 lenD) (vCons (vVar 1) vNil)) vNil)) vNil)) (vCons (v2 modD (vVar 11) (vC (.int 3))) (vCons (vVar 12) vNil)))))))) sNext)
    (sSeq (sIf (vB (v2 ltD (vVar 11) (vC (.int 10)))) (sRet (vCallA 3 0 [] [.pos 0, .pos 1, .pos 2] F__law_dish_deed_b8d1 (vCons (vVar 0) (vCons (vVar 1) (vCons (vVar 3) vNil))) vNil)) sNext)
    (sSeq (sIf (vB (v2 ltD (vVar 11) (vC (.int 13)))) (sRet (vA gTup (vCons (v2 ixD (vA (gLst false) (vCons (vC (.str "fire")) (vCons (vC (.str "fire")) (vCons (vC (.str "rush")) vNil)))) (v2 subD (vVar 11) (vC (.int 10)))) (vCons (vVar 10) (vCons (vCallA 2 0 [] [.pos 0, .pos 1] F__law_next_24af (vCons (vVar 0) (vCons (vC (.int 3)) vNil)) vNil) vNil))))) sNext)
    (sSeq (sIf (vB (v2 (eqD false) (vVar 11) (vC (.int 13)))) (sRet (vA gTup (vCons (vC (.str "even")) (vCons (vIfE (vB (v2 gtD (vA (g1 lenD) (vCons (vVar 12) vNil)) (vC (.int 1)))) (vVar 12) (vA (g1 tupFD) (vCons (vVar 4) vNil))) vNil)))) sNext)
    (sSeq (sSet 15 (vA (gLst false) (vCons (vA gTup (vCons (vC (.str "sit")) (vCons (vVar 8) (vCons (vVar 10) vNil)))) (vCons (vA gTup (vCons (vC (.str "move")) (vCons (vVar 8) (vCons (vVar 10) vNil)))) (vCons (vA gTup (vCons (vC (.str "join")) (vCons (vVar 10) (vCons (v2 ixD (vVar 5) (v2 subD (vVar 7) (vC (.int 1)))) vNil)))) (vCons (vA gTup (vCons (vC (.str "go")) (vCons (vVar 8) vNil))) vNil))))))
    (sRet (v2 ixD (v2 (addD false) (vVar 15) (vA (gLst false) (vCons (vA gTup (vCons (vC (.str "pay")) (vCons (vVar 8) (vCons (vVar 13) vNil)))) (vCons (vA gTup (vCons (vC (.str "take")) (vCons (vVar 8) (vCons (vVar 9) (vCons (vVar 13) vNil))))) vNil)))) (v2 subD (vVar 11) (vC (.int 14))))))))))))))))
noncomputable def F__law_deed_0add : List D → AS → Out D := vFn 17 0 B__law_deed_0add
noncomputable def B__law_pages_94fd : En → AS → Fl :=
    (sSeq (sSet 4 (vLc false [13] (v1 itD (v2 ixD (vVar 1) (vC (.int 0)))) (kName 13) tYesV (v2 ixD (vVar 13) (vC (.int 0)))))
    (sSeq (sAsg (vVar 2) (kTup 2 (kCons (kName 5) (kCons (kName 6) kNil))))
    (sSeq (sSet 7 (vCallA 2 0 [] [.pos 0, .pos 1] F__law_next_24af (vCons (vVar 0) (vCons (vA (g1 lenD) (vCons (vVar 6) vNil)) vNil)) vNil))
    (sSeq (sSet 8 (vLc true [11] (vA rng1 (vCons (vA (g1 lenD) (vCons (vVar 5) vNil)) vNil)) (kName 11) tYesV (vA gTup (vCons (vA gTup (vCons (vC (.int 0)) (vCons (vVar 11) vNil))) (vCons (vA gTup (vCons (vC (.str "sit")) (vCons (v2 ixD (vVar 5) (vVar 11)) (vCons (v2 ixD (vVar 6) (v2 subD (vVar 7) (v2 fdivD (vCallA 2 0 [] [.pos 0, .pos 1] F__law_next_24af (vCons (vVar 0) (vCons (vC (.int 5)) vNil)) vNil) (vC (.int 4))))) vNil)))) vNil)))))
    (sSeq (sAsg (vA gTup (vCons (vC (.int 0)) (vCons (vC (.int 0)) vNil))) (kTup 2 (kCons (kName 9) (kCons (kName 10) kNil))))
    (sSeq (sFor (vA rng1 (vCons (vVar 3) vNil)) (kName 11) (sKill [11, 12] (sSeq (sSet 9 (v2 (addD false) (vVar 9) (vCallA 2 0 [] [.pos 0, .pos 1] F__law_next_24af (vCons (vVar 0) (vCons (vC (.int 4)) vNil)) vNil)))
    (sSeq (sSet 12 (vCallA 4 0 [] [.pos 0, .pos 1, .pos 2, .pos 3] F__law_deed_0add (vCons (vVar 0) (vCons (vVar 4) (vCons (vVar 2) (vCons (vVar 10) vNil)))) vNil))
    (sSeq (sSet 10 (v2 (addD false) (vVar 10) (vA (g1 intD) (vCons (v2 (eqD false) (vSl (slD false) (vVar 12) vNoPart (v1 asI (vC (.int 2)))) (vA gTup (vCons (vC (.str "ask")) (vCons (vVar 10) vNil)))) vNil))))
    (sExpr (vML appD (vVar 8) (vCons (vA gTup (vCons (vA gTup (vCons (vVar 9) (vCons (vA (g1 lenD) (vCons (vVar 8) vNil)) vNil))) (vCons (vVar 12) vNil))) vNil))))))))
    (sRet (vVar 8))))))))
noncomputable def F__law_pages_94fd : List D → AS → Out D := vFn 14 4 B__law_pages_94fd
-- _law_in_order: call sorted
-- _law_bent_4814: method upper
-- _law_refusal_b797: name ValueError
-- _law_said_dd41: stmt Try(body=[Return(value=Tuple(elts=[Constant(value='told
-- _law_called_db62: method back
-- _law_done_4811: expr Lambda(args=arguments(posonlyargs=[], args=[], kwonlyar
-- _law_all_5af3: needs _law_in_order
-- _law_undone_5681: needs _law_all
-- _law_want_53dd: needs _law_undone
-- _law_next_deed: needs _law_in_order
-- _law_looks_right: method steps
-- _law_strange_7bea: needs _law_bent
-- law_04bd: needs _law_strange
end G
set_option Elab.async false
set_option linter.all false
set_option maxRecDepth 100000
set_option maxHeartbeats 4000000
/-! The feed and the draw of the laws of names and diaries. -/
namespace TG
open PySem VL G Kd W9 W26 WG TB
/-- the feed: the cells, which is next, what is left of a great one; it is the first thing, alone -/
def fdT (ns : List Int) (a l : Int) : C := .lst [.lst (ns.map D.int), .int a, .int l]
structure Fg (ns : List Int) (n : Nat) (st : AS) : Prop where
  fd : ∃ a l : Int, st = [fdT ns a l] ∧ 0 ≤ a ∧ a ≤ n
  nl : ns.length ≤ 63
theorem Fg.ln {ns : List Int} {n : Nat} {st : AS} (f : Fg ns n st) : st.length = 1 := by
  obtain ⟨⟨a, l, rfl, _⟩, _⟩ := f
  rfl
theorem Fg.mono {ns : List Int} {n n' : Nat} {st : AS} (f : Fg ns n st) (h : n ≤ n') : Fg ns n' st := by
  obtain ⟨⟨a, l, e, h1, h2⟩, h3⟩ := f
  exact ⟨⟨a, l, e, h1, by omega⟩, h3⟩
theorem f_feed (ns : List Int) (hl : ns.length ≤ 63) : ∃ st, F__law_feed_7f41 [.fzl (ns.map D.int)] [] = .ok (.ref 0) st ∧ Fg ns 0 st := by
  refine ⟨[fdT ns 0 0], ?_, ⟨0, 0, rfl, by omega, by omega⟩, hl⟩
  have ct : cut (ns.map D.int) none (some 63) = ns.map D.int := by
    rw [cut_to _ _ (by decide)]
    exact List.take_of_length_le (by rw [List.length_map]; exact hl)
  refine eq_of_wp ?_
  unfold F__law_feed_7f41
  rw [wp_vFn]; simp only [List.map_cons, List.map_nil, List.length_cons, List.length_nil, Nat.reduceAdd, Nat.reduceSub, List.replicate_succ, List.replicate_zero, List.cons_append, List.nil_append]
  unfold B__law_feed_7f41
  try simp -dsimp -implicitDefEqProofs [-ixD, -Int.toNat_natCast, ↓wp_bind, ↓wp_fl, ↓wp_ite, ↓wp_fite, ↓wp_v1, ↓wp_v2, ↓wp_vB, ↓wp_vNil, ↓wp_vCons, ↓wp_vA, ↓wp_vAnd, ↓wp_vOr, ↓wp_vNot, ↓wp_vIfE, ↓wp_vSl, ↓wp_vML, ↓wp_vMD, ↓wp_vCallA, ↓wp_vLc, ↓wp_vDisp, ↓wp_vPs0, ↓wp_vPs1, ↓wp_kSub, ↓wp_kName, ↓wp_seq, ↓wp_next, ↓wp_sBreak, ↓wp_sCont, ↓wp_expr, ↓wp_ret, ↓wp_if, ↓wp_set, ↓wp_asg, ↓wp_par, ↓wp_par3, ↓wp_skill, ↓wp_sfor, ↓wp_vFn, mk, le_line, lt_line, cdiv_ok, tl_get, tl_get0, tl_set, tl_set0, ixt0, ixt1, ixt2, ixt3, ixt4, ixc0, ixc1, ixc2, ixc3, ixc4, ixl0, ixl1, ixl2, ixl3, ixl4, ct, show ns.length ≤ 16000000 by omega]
  all_goals exact ⟨rfl, rfl⟩
section
variable {ns : List Int} {n : Nat} {st X : AS} {m : Int} {Q : D → AS → Prop} {E : XQ}
theorem wp_draw (DO : True) (f : Fg ns n st) (hn : n < 1000000) (h0 : 0 < m) (h1 : m < 4611686018427387904)
    (h : ∀ r st1, 0 ≤ r → r < m → st1.length = 1 → Fg ns (n + 1) st1 → Q (.int r) (st1 ++ X)) : (F__law_next_24af [.ref 0, .int m] (st ++ X)).wp Q E := by
  obtain ⟨⟨a, l, rfl, a0, an⟩, nl⟩ := f
  suffices w : (F__law_next_24af [.ref 0, .int m] ([fdT ns a l] ++ X)).wp (fun d S => Hold (∃ r a' l', d = .int r ∧ S = fdT ns a' l' :: X ∧ 0 ≤ r ∧ r < m ∧ 0 ≤ a' ∧ a' ≤ n + 1)) noX by
    obtain ⟨d, S, e, r, a', l', rfl, rfl, r0, r1, a0, a1⟩ := w.eq
    exact wp_of e (h r [fdT ns a' l'] r0 r1 rfl ⟨⟨a', l', rfl, a0, by omega⟩, nl⟩)
  have dm : ∀ x : Int, L2.CDivW x m = True := fun x => cdiv_ok h0 h1
  have m0 : ∀ x : Int, 0 ≤ x % m ∧ x % m < m := fun x => ⟨Int.emod_nonneg _ (by omega), Int.emod_lt_of_pos _ h0⟩
  have ne := fun S => ne_ints (xs := ns) true S
  have pw : L2.CPow 10 18 = True := eq_true ⟨by decide, by decide, by decide⟩
  have k0 : ∀ a l, ixD (.ref 0) (.int 0) (fdT ns a l :: X) = .ok (.lst (ns.map D.int)) (fdT ns a l :: X) := fun a l => by
    generalize hN : ns.map D.int = N
    unfold fdT
    rw [hN]
    simp
  have k1 : ∀ a l, ixD (.ref 0) (.int 1) (fdT ns a l :: X) = .ok (.int a) (fdT ns a l :: X) := fun a l => by
    unfold fdT
    generalize ns.map D.int = N
    simp
  have k2 : ∀ a l, ixD (.ref 0) (.int 2) (fdT ns a l :: X) = .ok (.int l) (fdT ns a l :: X) := fun a l => by
    unfold fdT
    generalize ns.map D.int = N
    simp
  have s1 : ∀ a l x, setD (.ref 0) (.int 1) (.int x) (fdT ns a l :: X) = .ok () (fdT ns x l :: X) := fun a l x => by
    have z : L2.ixN 3 1 = some 1 := by rfl
    unfold fdT
    generalize ns.map D.int = N
    simp [z]
  have s2 : ∀ a l x, setD (.ref 0) (.int 2) (.int x) (fdT ns a l :: X) = .ok () (fdT ns a x :: X) := fun a l x => by
    have z : L2.ixN 3 2 = some 2 := by rfl
    unfold fdT
    generalize ns.map D.int = N
    simp [z]
  have hm : (0 < m) = True := eq_true h0
  have ln : ∀ S : AS, lenD (.lst (ns.map D.int)) S = .ok (.int ns.length) S := fun S => by simp
  have mo : ∀ x : Int, VL.MulOk 37 x = True := fun x => eq_true (.inl (.inl ⟨by decide, by decide⟩))
  have mo13 : ∀ x : Int, VL.MulOk 13 x = True := fun x => eq_true (.inl (.inl ⟨by decide, by decide⟩))
  have mo7 : ∀ x : Int, VL.MulOk 7919 x = True := fun x => eq_true (.inl (.inl ⟨by decide, by decide⟩))
  have mo4 : ∀ x : Int, VL.MulOk x 48271 = True := fun x => eq_true (.inl (.inr ⟨by decide, by decide⟩))
  have mo6 : ∀ x : Int, VL.MulOk x 69621 = True := fun x => eq_true (.inl (.inr ⟨by decide, by decide⟩))
  have mo2 : VL.MulOk (37 * a) a = True := eq_true (.inl (.inr ⟨by omega, by omega⟩))
  have mo8 : ∀ x : Int, VL.MulOk (x % 999983) (x % 999983) = True := fun x => eq_true (.inl (.inl (by
    have h1 := Int.emod_nonneg x (show (999983 : Int) ≠ 0 by decide)
    have h2 := Int.emod_lt_of_pos x (show (0 : Int) < 999983 by decide)
    exact ⟨by omega, by omega⟩)))
  unfold F__law_next_24af
  rw [List.singleton_append]
  rw [wp_vFn]; simp only [List.map_cons, List.map_nil, List.length_cons, List.length_nil, Nat.reduceAdd, Nat.reduceSub, List.replicate_succ, List.replicate_zero, List.cons_append, List.nil_append]
  unfold B__law_next_24af
  try simp -dsimp -implicitDefEqProofs [-ixD, -Int.toNat_natCast, -vIfE, ↓wp_bind, ↓wp_fl, ↓wp_ite, ↓wp_fite, ↓wp_v1, ↓wp_v2, ↓wp_vB, ↓wp_vNil, ↓wp_vCons, ↓wp_vA, ↓wp_vAnd, ↓wp_vOr, ↓wp_vNot, ↓wp_vSl, ↓wp_vML, ↓wp_vMD, ↓wp_vCallA, ↓wp_vLc, ↓wp_vDisp, ↓wp_vPs0, ↓wp_vPs1, ↓wp_kSub, ↓wp_kName, ↓wp_seq, ↓wp_next, ↓wp_sBreak, ↓wp_sCont, ↓wp_expr, ↓wp_ret, ↓wp_if, ↓wp_set, ↓wp_asg, ↓wp_par, ↓wp_par3, ↓wp_skill, ↓wp_sfor, ↓wp_vFn, mk, le_line, lt_line, cdiv_ok, tl_get, tl_get0, tl_set, tl_set0, ixt0, ixt1, ixt2, ixt3, ixt4, ixc0, ixc1, ixc2, ixc3, ixc4, ixl0, ixl1, ixl2, ixl3, ixl4, -setD, -lenD, k0, k1, k2, s1, s2, hm, dm]
  have rl : ∀ a' l' d, VL.ret 0 (fdT ns a l :: X) d (fdT ns a' l' :: X) = .ok d (fdT ns a' l' :: X) := fun a' l' d => ret_len rfl
  refine ⟨fun z => ?_, fun z => ?_⟩
  · rw [rl, wp_ok]
    exact ⟨l % m, a, l / m, rfl, rfl, (m0 _).1, (m0 _).2, a0, by omega⟩
  refine wp_cut (fun d s => Hold (∃ z, d = .int z ∧ s = fdT ns (a + 1) l :: X)) ?_ ?_
  · by_cases e : ns = []
    · subst e
      have q := ne (fdT [] (a + 1) l :: X)
      simp only [List.map_nil, List.isEmpty_nil] at q k0
      try simp -dsimp -implicitDefEqProofs [-ixD, -Int.toNat_natCast, ↓wp_bind, ↓wp_fl, ↓wp_ite, ↓wp_fite, ↓wp_v1, ↓wp_v2, ↓wp_vB, ↓wp_vNil, ↓wp_vCons, ↓wp_vA, ↓wp_vAnd, ↓wp_vOr, ↓wp_vNot, ↓wp_vIfE, ↓wp_vSl, ↓wp_vML, ↓wp_vMD, ↓wp_vCallA, ↓wp_vLc, ↓wp_vDisp, ↓wp_vPs0, ↓wp_vPs1, ↓wp_kSub, ↓wp_kName, ↓wp_seq, ↓wp_next, ↓wp_sBreak, ↓wp_sCont, ↓wp_expr, ↓wp_ret, ↓wp_if, ↓wp_set, ↓wp_asg, ↓wp_par, ↓wp_par3, ↓wp_skill, ↓wp_sfor, ↓wp_vFn, mk, le_line, lt_line, cdiv_ok, tl_get, tl_get0, tl_set, tl_set0, ixt0, ixt1, ixt2, ixt3, ixt4, ixc0, ixc1, ixc2, ixc3, ixc4, ixl0, ixl1, ixl2, ixl3, ixl4, -eqD, k0, q]
      all_goals exact ⟨_, rfl, rfl⟩
    · have hp : 0 < ns.length := List.length_pos_iff.mpr e
      have em : ns.isEmpty = false := by cases ns <;> simp_all
      have q := ne (fdT ns (a + 1) l :: X)
      rw [em] at q
      try simp -dsimp -implicitDefEqProofs [-ixD, -Int.toNat_natCast, ↓wp_bind, ↓wp_fl, ↓wp_ite, ↓wp_fite, ↓wp_v1, ↓wp_v2, ↓wp_vB, ↓wp_vNil, ↓wp_vCons, ↓wp_vA, ↓wp_vAnd, ↓wp_vOr, ↓wp_vNot, ↓wp_vIfE, ↓wp_vSl, ↓wp_vML, ↓wp_vMD, ↓wp_vCallA, ↓wp_vLc, ↓wp_vDisp, ↓wp_vPs0, ↓wp_vPs1, ↓wp_kSub, ↓wp_kName, ↓wp_seq, ↓wp_next, ↓wp_sBreak, ↓wp_sCont, ↓wp_expr, ↓wp_ret, ↓wp_if, ↓wp_set, ↓wp_asg, ↓wp_par, ↓wp_par3, ↓wp_skill, ↓wp_sfor, ↓wp_vFn, mk, le_line, lt_line, cdiv_ok, tl_get, tl_get0, tl_set, tl_set0, ixt0, ixt1, ixt2, ixt3, ixt4, ixc0, ixc1, ixc2, ixc3, ixc4, ixl0, ixl1, ixl2, ixl3, ixl4, -eqD, -lenD, ln, q, hp, k0]
      have h1 := Int.emod_nonneg a (show (ns.length : Int) ≠ 0 by omega)
      have h2 := Int.emod_lt_of_pos a (show (0 : Int) < ns.length by omega)
      refine wp_ix h1 (by rw [List.length_map]; exact h2) ?_
      intro d hd
      obtain ⟨v, _, rfl⟩ := List.mem_map.mp hd
      exact ⟨v, rfl, rfl⟩
  rintro d s ⟨z2, e1, e2⟩
  subst e1
  subst e2
  try simp -dsimp -implicitDefEqProofs [-ixD, -Int.toNat_natCast, ↓wp_bind, ↓wp_fl, ↓wp_ite, ↓wp_fite, ↓wp_v1, ↓wp_v2, ↓wp_vB, ↓wp_vNil, ↓wp_vCons, ↓wp_vA, ↓wp_vAnd, ↓wp_vOr, ↓wp_vNot, ↓wp_vIfE, ↓wp_vSl, ↓wp_vML, ↓wp_vMD, ↓wp_vCallA, ↓wp_vLc, ↓wp_vDisp, ↓wp_vPs0, ↓wp_vPs1, ↓wp_kSub, ↓wp_kName, ↓wp_seq, ↓wp_next, ↓wp_sBreak, ↓wp_sCont, ↓wp_expr, ↓wp_ret, ↓wp_if, ↓wp_set, ↓wp_asg, ↓wp_par, ↓wp_par3, ↓wp_skill, ↓wp_sfor, ↓wp_vFn, mk, le_line, lt_line, cdiv_ok, tl_get, tl_get0, tl_set, tl_set0, ixt0, ixt1, ixt2, ixt3, ixt4, ixc0, ixc1, ixc2, ixc3, ixc4, ixl0, ixl1, ixl2, ixl3, ixl4, -setD, -lenD, ln, pw, k0, s2, mo, mo13, mo7, mo4, mo6, mo2, mo8, hm, dm]
  refine ⟨fun y1 => ⟨fun y2 => ?_, fun y2 => ?_⟩, fun y1 => ?_⟩
  · rw [rl, wp_ok]
    exact ⟨z2 % m, a + 1, z2 / m, rfl, rfl, (m0 _).1, (m0 _).2, by omega, by omega⟩
  · rw [rl, wp_ok]
    exact ⟨_, a + 1, l, rfl, rfl, (m0 _).1, (m0 _).2, by omega, by omega⟩
  · rw [rl, wp_ok]
    exact ⟨_, a + 1, l, rfl, rfl, (m0 _).1, (m0 _).2, by omega, by omega⟩
theorem wp_draw0 (DO : True) (f : Fg ns n st) (hn : n < 1000000) (h0 : 0 < m) (h1 : m < 4611686018427387904)
    (h : ∀ r st1, 0 ≤ r → r < m → st1.length = 1 → Fg ns (n + 1) st1 → Q (.int r) st1) : (F__law_next_24af [.ref 0, .int m] st).wp Q E := by
  have := wp_draw (X := []) (Q := Q) (E := E) DO f hn h0 h1 (by simpa using h)
  simpa using this
end
end TG
set_option Elab.async false
set_option linter.all false
set_option maxRecDepth 100000
set_option maxHeartbeats 4000000
/-! Words, prices, a house, guests that the laws of names draw. -/
namespace TG
open PySem VL G Kd W9 W26 WG TB
section
variable {ns : List Int} {n n0 : Nat} {st st0 X Y : AS} {m : Int} {d : D} {Q : D → AS → Prop} {E : XQ}
theorem fdT_low (ns : List Int) (a l : Int) (k : Nat) : (fdT ns a l).low k = true := by
  have h1 : (D.lst (ns.map D.int)).low k = true := pure_low _ (by rw [D.pure]; exact pures_ints ns)
  rw [D.low] at h1
  simp [fdT, C.low, D.lows, h1, D.low]
/-- the end of a def that draws: what is younger goes -/
theorem wp_retT (f0 : Fg ns n0 st0) (f : Fg ns n st) (hp : d.pure = true) (h : Q d (st ++ X)) : (VL.ret 0 (st0 ++ X) d (st ++ (X ++ Y))).wp Q E := by
  have l0 := f0.ln
  have l1 := f.ln
  cases Y with
  | nil =>
    rw [List.append_nil, ret_len (by simp [l0, l1])]
    exact h
  | cons c Y =>
    obtain ⟨⟨a0, b0, rfl, _, _⟩, _⟩ := f0
    obtain ⟨⟨a, b, rfl, _, _⟩, _⟩ := f
    have ov : OkOver ([fdT ns a0 b0] ++ X) ([fdT ns a b] ++ (X ++ c :: Y)) := fun j c' hj ec => by
      cases j with
      | zero =>
        have : fdT ns a b = c' := by simpa using ec
        subst this
        exact .inr (fdT_low _ _ _ _)
      | succ j =>
        refine .inl ?_
        simp only [List.singleton_append, List.getElem?_cons_succ, List.length_cons] at hj ec ⊢
        rw [List.getElem?_append_left (by omega)] at ec
        exact ec
    have e : VL.ret 0 ([fdT ns a0 b0] ++ X) d ([fdT ns a b] ++ (X ++ c :: Y)) = .ok d ([fdT ns a b] ++ X) := by
      unfold VL.ret
      have fz : ∀ S k, frzD S k 0 d = d := fun S k => by cases d <;> rfl
      rw [if_neg (by simp), fz, if_pos ⟨pure_low _ hp, ov⟩]
      congr 1
      simp
    exact wp_of e h
theorem erase_perm {α : Type} : ∀ {l : List α} {i : Nat} {w : α}, l[i]? = some w → (w :: l.eraseIdx i).Perm l
  | [], i, w, h => by simp at h
  | x :: l, 0, w, h => by
    cases h
    exact List.Perm.refl _
  | x :: l, i + 1, w, h => by
    have h2 : l[i]? = some w := by simpa using h
    exact (List.Perm.swap x w _).trans ((erase_perm h2).cons x)
theorem pop_at {P : List Str} {J : AS} (ln : st.length = 1) {r : Int} (h0 : 0 ≤ r) (h1 : r < P.length) (hl : P.length ≤ 100) :
    ∃ w, P[r.toNat]? = some w ∧ popAtD (.ref (1 + J.length)) [.int r] (st ++ (J ++ [.lst (P.map D.str)])) = .ok (.str w) (st ++ (J ++ [.lst ((P.eraseIdx r.toNat).map D.str)])) := by
  obtain ⟨rn, rfl⟩ : ∃ rn : Nat, r = rn := ⟨r.toNat, by omega⟩
  have hr : rn < P.length := by omega
  refine ⟨P[rn], by simp [hr], ?_⟩
  have wk : P[rn]? = some P[rn] := List.getElem?_eq_getElem hr
  generalize P[rn] = w at *
  have g1 : (st ++ (J ++ [C.lst (P.map D.str)]))[1 + J.length]? = some (.lst (P.map D.str)) := by
    rw [List.getElem?_append_right (by omega), ln]
    simp
  have g2 : ∀ c, (st ++ (J ++ [C.lst (P.map D.str)])).set (1 + J.length) c = st ++ (J ++ [c]) := fun c => by
    rw [List.set_append_right _ _ (by omega), ln]
    simp
  have ep : (P.map D.str).eraseIdx rn = (P.eraseIdx rn).map D.str := erase_map D.str P rn
  have ix : L2.ixN (P.map D.str).length (rn : Nat) = some rn := by
    rw [List.length_map]
    unfold L2.ixN
    split <;> simp_all
  have at_ : (P.map D.str)[rn]? = some (.str w) := by rw [List.getElem?_map, wk]; rfl
  rw [Int.toNat_natCast, ← ep]
  generalize P.map D.str = PD at *
  have b1 : (-9223372036854775808 : Int) ≤ (rn : Nat) ∧ ((rn : Nat) : Int) < 9223372036854775808 := by omega
  simp -implicitDefEqProofs [g1, g2, ix, at_, b1]
@[irreducible] noncomputable def wordsF : List D → AS → Out D := F__law_words_5d00
theorem wordsF_eq : F__law_words_5d00 = wordsF := by
  unfold wordsF
  rfl
theorem wp_words (f : Fg ns n st) (k : Nat) (P : List Str) (J : AS) (hk : k ≤ P.length) (hP : P.length ≤ 30) (hn : n < 900000)
    (h : ∀ (A P' : List Str) st1, A.length = k → (A ++ P').Perm P → st1.length = 1 → Fg ns (n + k) st1 → Q (.lst (A.map D.str)) (st1 ++ (J ++ [.lst (P'.map D.str)]))) :
    (wordsF [.ref 0, .int k, .ref (1 + J.length)] (st ++ (J ++ [.lst (P.map D.str)]))).wp Q E := by
  rw [← wordsF_eq]
  have ln := f.ln
  have f0 := f
  unfold F__law_words_5d00
  rw [wp_vFn]; simp only [List.map_cons, List.map_nil, List.length_cons, List.length_nil, Nat.reduceAdd, Nat.reduceSub, List.replicate_succ, List.replicate_zero, List.cons_append, List.nil_append]
  unfold B__law_words_5d00
  try simp -dsimp -implicitDefEqProofs [-ixD, -Int.toNat_natCast, ↓wp_bind, ↓wp_fl, ↓wp_ite, ↓wp_fite, ↓wp_v1, ↓wp_v2, ↓wp_vB, ↓wp_vNil, ↓wp_vCons, ↓wp_vA, ↓wp_vAnd, ↓wp_vOr, ↓wp_vNot, ↓wp_vIfE, ↓wp_vSl, ↓wp_vML, ↓wp_vMD, ↓wp_vCallA, ↓wp_vLc, ↓wp_vDisp, ↓wp_vPs0, ↓wp_vPs1, ↓wp_kSub, ↓wp_kName, ↓wp_seq, ↓wp_next, ↓wp_sBreak, ↓wp_sCont, ↓wp_expr, ↓wp_ret, ↓wp_if, ↓wp_set, ↓wp_asg, ↓wp_par, ↓wp_par3, ↓wp_skill, ↓wp_sfor, ↓wp_vFn, mk, le_line, lt_line, cdiv_ok, tl_get, tl_get0, tl_set, tl_set0, ixt0, ixt1, ixt2, ixt3, ixt4, ixc0, ixc1, ixc2, ixc3, ixc4, ixl0, ixl1, ixl2, ixl3, ixl4, rng1_ok (j := (k : Int)) (by omega) (by omega), Int.toNat_natCast, show k ≤ 16000000 by omega]
  simp only [Int.toNat_natCast, rgL_0]
  refine wp_comp0 (fun ds acc S => Hold (∃ (A P' : List Str) (st1 : AS), ds = rgL k A.length ∧ acc = A.map D.str ∧ S = st1 ++ (J ++ [.lst (P'.map D.str)]) ∧ Fg ns (n + A.length) st1 ∧ (A ++ P').Perm P ∧ A.length ≤ k)) ?_ ?_ ?_
  · exact ⟨[], P, st, rfl, rfl, rfl, f, List.Perm.refl _, by simp⟩
  · rintro d ds acc S ⟨A, P', st1, e1, e2, e3, f, pm, al⟩
    subst e2
    subst e3
    obtain ⟨hj, rfl, rfl⟩ := rgL_at e1
    have ln := f.ln
    have pl : A.length + P'.length = P.length := by rw [← pm.length_eq, List.length_append]
    have gl : (st1 ++ (J ++ [C.lst (P'.map D.str)]))[1 + J.length]? = some (.lst (P'.map D.str)) := by
      rw [List.getElem?_append_right (by omega), ln]
      simp
    have le : ∀ S, S[1 + J.length]? = some (C.lst (P'.map D.str)) → lenD (.ref (1 + J.length)) S = .ok (.int (P'.length : Nat)) S := fun S hS => by simp [hS]
    have le1 := le _ gl
    have DO : True := trivial
    try simp -dsimp -implicitDefEqProofs [-ixD, -Int.toNat_natCast, ↓wp_bind, ↓wp_fl, ↓wp_ite, ↓wp_fite, ↓wp_v1, ↓wp_v2, ↓wp_vB, ↓wp_vNil, ↓wp_vCons, ↓wp_vA, ↓wp_vAnd, ↓wp_vOr, ↓wp_vNot, ↓wp_vIfE, ↓wp_vSl, ↓wp_vML, ↓wp_vMD, ↓wp_vCallA, ↓wp_vLc, ↓wp_vDisp, ↓wp_vPs0, ↓wp_vPs1, ↓wp_kSub, ↓wp_kName, ↓wp_seq, ↓wp_next, ↓wp_sBreak, ↓wp_sCont, ↓wp_expr, ↓wp_ret, ↓wp_if, ↓wp_set, ↓wp_asg, ↓wp_par, ↓wp_par3, ↓wp_skill, ↓wp_sfor, ↓wp_vFn, mk, le_line, lt_line, cdiv_ok, tl_get, tl_get0, tl_set, tl_set0, ixt0, ixt1, ixt2, ixt3, ixt4, ixc0, ixc1, ixc2, ixc3, ixc4, ixl0, ixl1, ixl2, ixl3, ixl4, -lenD, le1, gl]
    refine wp_draw DO f (by omega) (by omega) (by omega) ?_; intro r st2 r0 r1 ln2 f2
    obtain ⟨w, hw, pp⟩ := pop_at (P := P') (J := J) ln2 r0 r1 (by omega)
    try simp -dsimp -implicitDefEqProofs [-ixD, -Int.toNat_natCast, ↓wp_bind, ↓wp_fl, ↓wp_ite, ↓wp_fite, ↓wp_v1, ↓wp_v2, ↓wp_vB, ↓wp_vNil, ↓wp_vCons, ↓wp_vA, ↓wp_vAnd, ↓wp_vOr, ↓wp_vNot, ↓wp_vIfE, ↓wp_vSl, ↓wp_vML, ↓wp_vMD, ↓wp_vCallA, ↓wp_vLc, ↓wp_vDisp, ↓wp_vPs0, ↓wp_vPs1, ↓wp_kSub, ↓wp_kName, ↓wp_seq, ↓wp_next, ↓wp_sBreak, ↓wp_sCont, ↓wp_expr, ↓wp_ret, ↓wp_if, ↓wp_set, ↓wp_asg, ↓wp_par, ↓wp_par3, ↓wp_skill, ↓wp_sfor, ↓wp_vFn, mk, le_line, lt_line, cdiv_ok, tl_get, tl_get0, tl_set, tl_set0, ixt0, ixt1, ixt2, ixt3, ixt4, ixc0, ixc1, ixc2, ixc3, ixc4, ixl0, ixl1, ixl2, ixl3, ixl4, -popAtD, pp]
    have p2 : (w :: P'.eraseIdx r.toNat).Perm P' := erase_perm hw
    refine ⟨A ++ [w], P'.eraseIdx r.toNat, st2, by simp, by simp, rfl, f2.mono (by simp; omega), ?_, by simp; omega⟩
    refine List.Perm.trans ?_ pm
    rw [List.append_assoc]
    exact List.Perm.append_left A p2
  · rintro acc S ⟨A, P', st1, e1, e2, e3, f, pm, al⟩
    subst e2
    subst e3
    have kl := rgL_end e1
    have ln1 := f.ln
    try simp -dsimp -implicitDefEqProofs [-ixD, -Int.toNat_natCast, ↓wp_bind, ↓wp_fl, ↓wp_ite, ↓wp_fite, ↓wp_v1, ↓wp_v2, ↓wp_vB, ↓wp_vNil, ↓wp_vCons, ↓wp_vA, ↓wp_vAnd, ↓wp_vOr, ↓wp_vNot, ↓wp_vIfE, ↓wp_vSl, ↓wp_vML, ↓wp_vMD, ↓wp_vCallA, ↓wp_vLc, ↓wp_vDisp, ↓wp_vPs0, ↓wp_vPs1, ↓wp_kSub, ↓wp_kName, ↓wp_seq, ↓wp_next, ↓wp_sBreak, ↓wp_sCont, ↓wp_expr, ↓wp_ret, ↓wp_if, ↓wp_set, ↓wp_asg, ↓wp_par, ↓wp_par3, ↓wp_skill, ↓wp_sfor, ↓wp_vFn, mk, le_line, lt_line, cdiv_ok, tl_get, tl_get0, tl_set, tl_set0, ixt0, ixt1, ixt2, ixt3, ixt4, ixc0, ixc1, ixc2, ixc3, ixc4, ixl0, ixl1, ixl2, ixl3, ixl4]
    rw [ret_len (by simp [ln1, ln]), wp_ok]
    exact h A P' st1 (by omega) pm ln1 (f.mono (by omega))
theorem f_words (f : Fg ns n st) (k : Nat) (P : List Str) (J : AS) (hk : k ≤ P.length) (hP : P.length ≤ 30) (hn : n < 900000) :
    ∃ (A P' : List Str) (st1 : AS), wordsF [.ref 0, .int k, .ref (1 + J.length)] (st ++ (J ++ [.lst (P.map D.str)])) = .ok (.lst (A.map D.str)) (st1 ++ (J ++ [.lst (P'.map D.str)])) ∧ A.length = k ∧ (A ++ P').Perm P ∧ st1.length = 1 ∧ Fg ns (n + k) st1 := by
  have w : (wordsF [.ref 0, .int k, .ref (1 + J.length)] (st ++ (J ++ [.lst (P.map D.str)]))).wp (fun d S => Hold (∃ (A P' : List Str) (st1 : AS), d = .lst (A.map D.str) ∧ S = st1 ++ (J ++ [.lst (P'.map D.str)]) ∧ A.length = k ∧ (A ++ P').Perm P ∧ st1.length = 1 ∧ Fg ns (n + k) st1)) noX :=
    wp_words f k P J hk hP hn fun A P' st1 h1 h2 h3 h4 => ⟨A, P', st1, rfl, rfl, h1, h2, h3, h4⟩
  obtain ⟨d, S, e, A, P', st1, rfl, rfl, h⟩ := w.eq
  exact ⟨A, P', st1, e, h⟩
end
end TG
set_option Elab.async false
set_option linter.all false
set_option maxRecDepth 100000
set_option maxHeartbeats 4000000
/-! A house, guests that the laws of names draw. -/
namespace TG
open PySem VL G Kd W9 W26 WG TB
def seatB : List Str := ["a", "ann", "anna", "b", "bo", "bob", "l"].map Str.ofString
def tabB : List Str := ["l", "left", "r", "ann"].map Str.ofString
def itemB : List Str := ["a", "ab", "beer", "soup", "soups", "tea", "z"].map Str.ofString
theorem seatB_len : seatB.length = 7 := rfl
theorem tabB_len : tabB.length = 4 := rfl
theorem itemB_len : itemB.length = 7 := rfl
theorem seatB_nd : seatB.Nodup := by decide +kernel
theorem tabB_nd : tabB.Nodup := by decide +kernel
theorem itemB_nd : itemB.Nodup := by decide +kernel
theorem picked {A P' P : List Str} (pm : (A ++ P').Perm P) (nd : P.Nodup) : A.Nodup ∧ ∀ s ∈ A, s ∈ P := by
  have h := pm.nodup_iff.mpr nd
  rw [List.nodup_append] at h
  exact ⟨h.1, fun s hs => pm.mem_iff.mp (List.mem_append_left _ hs)⟩
section
variable {ns : List Int} {n n0 : Nat} {st st0 X Y : AS} {m : Int} {d : D} {Q : D → AS → Prop} {E : XQ}
theorem wp_guests (f : Fg ns n st) (hn : n < 800000) (h : ∀ (A B : List Str) st1, 2 ≤ A.length → A.length ≤ 4 → A.Nodup → (∀ s ∈ A, s ∈ seatB) → 2 ≤ B.length → B.length ≤ 3 → (∀ s ∈ B, s ∈ tabB) → st1.length = 1 → Fg ns (n + 20) st1 →
    Q (.tup [.lst ((sortS A).map D.str), .lst (B.map D.str)]) (st1 ++ X)) : (F__law_guests_73db [.ref 0] (st ++ X)).wp Q E := by
  have f0 := f
  have ln0 := f.ln
  have ln := f.ln
  have DO : True := trivial
  have hs : [D.str (Str.ofString "a"), D.str (Str.ofString "ann"), D.str (Str.ofString "anna"), D.str (Str.ofString "b"), D.str (Str.ofString "bo"), D.str (Str.ofString "bob"), D.str (Str.ofString "l")] = seatB.map D.str := rfl
  have ht : [D.str (Str.ofString "l"), D.str (Str.ofString "left"), D.str (Str.ofString "r"), D.str (Str.ofString "ann")] = tabB.map D.str := rfl
  unfold F__law_guests_73db
  rw [wp_vFn]; simp only [List.map_cons, List.map_nil, List.length_cons, List.length_nil, Nat.reduceAdd, Nat.reduceSub, List.replicate_succ, List.replicate_zero, List.cons_append, List.nil_append]
  unfold B__law_guests_73db
  simp only [wordsF_eq]
  try simp -dsimp -implicitDefEqProofs [-ixD, -Int.toNat_natCast, ↓wp_bind, ↓wp_fl, ↓wp_ite, ↓wp_fite, ↓wp_v1, ↓wp_v2, ↓wp_vB, ↓wp_vNil, ↓wp_vCons, ↓wp_vA, ↓wp_vAnd, ↓wp_vOr, ↓wp_vNot, ↓wp_vIfE, ↓wp_vSl, ↓wp_vML, ↓wp_vMD, ↓wp_vCallA, ↓wp_vLc, ↓wp_vDisp, ↓wp_vPs0, ↓wp_vPs1, ↓wp_kSub, ↓wp_kName, ↓wp_seq, ↓wp_next, ↓wp_sBreak, ↓wp_sCont, ↓wp_expr, ↓wp_ret, ↓wp_if, ↓wp_set, ↓wp_asg, ↓wp_par, ↓wp_par3, ↓wp_skill, ↓wp_sfor, ↓wp_vFn, mk, le_line, lt_line, cdiv_ok, tl_get, tl_get0, tl_set, tl_set0, ixt0, ixt1, ixt2, ixt3, ixt4, ixc0, ixc1, ixc2, ixc3, ixc4, ixl0, ixl1, ixl2, ixl3, ixl4]
  refine wp_draw DO f (by omega) (by omega) (by omega) ?_; intro r1 st zr1 yr1 ln f
  obtain ⟨k, hk, k2, k4⟩ : ∃ k : Nat, 2 + r1 = k ∧ 2 ≤ k ∧ k ≤ 4 := ⟨(2 + r1).toNat, by omega, by omega, by omega⟩
  try simp -dsimp -implicitDefEqProofs [-ixD, -Int.toNat_natCast, ↓wp_bind, ↓wp_fl, ↓wp_ite, ↓wp_fite, ↓wp_v1, ↓wp_v2, ↓wp_vB, ↓wp_vNil, ↓wp_vCons, ↓wp_vA, ↓wp_vAnd, ↓wp_vOr, ↓wp_vNot, ↓wp_vIfE, ↓wp_vSl, ↓wp_vML, ↓wp_vMD, ↓wp_vCallA, ↓wp_vLc, ↓wp_vDisp, ↓wp_vPs0, ↓wp_vPs1, ↓wp_kSub, ↓wp_kName, ↓wp_seq, ↓wp_next, ↓wp_sBreak, ↓wp_sCont, ↓wp_expr, ↓wp_ret, ↓wp_if, ↓wp_set, ↓wp_asg, ↓wp_par, ↓wp_par3, ↓wp_skill, ↓wp_sfor, ↓wp_vFn, mk, le_line, lt_line, cdiv_ok, tl_get, tl_get0, tl_set, tl_set0, ixt0, ixt1, ixt2, ixt3, ixt4, ixc0, ixc1, ixc2, ixc3, ixc4, ixl0, ixl1, ixl2, ixl3, ixl4, hk, ln]
  rw [hs]
  have h1 : k ≤ seatB.length := by rw [seatB_len]; omega
  have h2 : seatB.length ≤ 30 := by rw [seatB_len]; omega
  have h3 : n + 1 < 900000 := by omega
  obtain ⟨A, P1, st, e1, al, pm, ln, f⟩ := f_words f k seatB X h1 h2 h3
  generalize List.map D.str seatB = sb at *
  refine wp_of e1 ?_
  obtain ⟨nd, mem⟩ := picked pm seatB_nd
  have sw : ∀ Z, sortD false (.lst (A.map D.str)) Z = .ok (.lst ((sortS A).map D.str)) Z := fun Z => sort_lst _ (by omega) Z
  try simp -dsimp -implicitDefEqProofs [-ixD, -Int.toNat_natCast, ↓wp_bind, ↓wp_fl, ↓wp_ite, ↓wp_fite, ↓wp_v1, ↓wp_v2, ↓wp_vB, ↓wp_vNil, ↓wp_vCons, ↓wp_vA, ↓wp_vAnd, ↓wp_vOr, ↓wp_vNot, ↓wp_vIfE, ↓wp_vSl, ↓wp_vML, ↓wp_vMD, ↓wp_vCallA, ↓wp_vLc, ↓wp_vDisp, ↓wp_vPs0, ↓wp_vPs1, ↓wp_kSub, ↓wp_kName, ↓wp_seq, ↓wp_next, ↓wp_sBreak, ↓wp_sCont, ↓wp_expr, ↓wp_ret, ↓wp_if, ↓wp_set, ↓wp_asg, ↓wp_par, ↓wp_par3, ↓wp_skill, ↓wp_sfor, ↓wp_vFn, mk, le_line, lt_line, cdiv_ok, tl_get, tl_get0, tl_set, tl_set0, ixt0, ixt1, ixt2, ixt3, ixt4, ixc0, ixc1, ixc2, ixc3, ixc4, ixl0, ixl1, ixl2, ixl3, ixl4, -sortD, sw]
  refine wp_draw DO f (by omega) (by omega) (by omega) ?_; intro r2 st zr2 yr2 ln f
  obtain ⟨j, hj, j2, j3⟩ : ∃ j : Nat, 2 + r2 = j ∧ 2 ≤ j ∧ j ≤ 3 := ⟨(2 + r2).toNat, by omega, by omega, by omega⟩
  try simp -dsimp -implicitDefEqProofs [-ixD, -Int.toNat_natCast, ↓wp_bind, ↓wp_fl, ↓wp_ite, ↓wp_fite, ↓wp_v1, ↓wp_v2, ↓wp_vB, ↓wp_vNil, ↓wp_vCons, ↓wp_vA, ↓wp_vAnd, ↓wp_vOr, ↓wp_vNot, ↓wp_vIfE, ↓wp_vSl, ↓wp_vML, ↓wp_vMD, ↓wp_vCallA, ↓wp_vLc, ↓wp_vDisp, ↓wp_vPs0, ↓wp_vPs1, ↓wp_kSub, ↓wp_kName, ↓wp_seq, ↓wp_next, ↓wp_sBreak, ↓wp_sCont, ↓wp_expr, ↓wp_ret, ↓wp_if, ↓wp_set, ↓wp_asg, ↓wp_par, ↓wp_par3, ↓wp_skill, ↓wp_sfor, ↓wp_vFn, mk, le_line, lt_line, cdiv_ok, tl_get, tl_get0, tl_set, tl_set0, ixt0, ixt1, ixt2, ixt3, ixt4, ixc0, ixc1, ixc2, ixc3, ixc4, ixl0, ixl1, ixl2, ixl3, ixl4, hj, ln]
  rw [ht]
  have h4 : j ≤ tabB.length := by rw [tabB_len]; omega
  have h5 : tabB.length ≤ 30 := by rw [tabB_len]; omega
  obtain ⟨B, P2, st, e2, bl, pm2, ln, f⟩ := f_words f j tabB (X ++ [.lst (P1.map D.str)]) h4 h5 (by omega)
  obtain ⟨nd2, mem2⟩ := picked pm2 tabB_nd
  generalize List.map D.str tabB = tb at *
  simp only [List.length_append, List.length_cons, List.length_nil, List.append_assoc, List.cons_append, List.nil_append, Nat.zero_add] at e2
  refine wp_of e2 ?_
  try simp -dsimp -implicitDefEqProofs [-ixD, -Int.toNat_natCast, ↓wp_bind, ↓wp_fl, ↓wp_ite, ↓wp_fite, ↓wp_v1, ↓wp_v2, ↓wp_vB, ↓wp_vNil, ↓wp_vCons, ↓wp_vA, ↓wp_vAnd, ↓wp_vOr, ↓wp_vNot, ↓wp_vIfE, ↓wp_vSl, ↓wp_vML, ↓wp_vMD, ↓wp_vCallA, ↓wp_vLc, ↓wp_vDisp, ↓wp_vPs0, ↓wp_vPs1, ↓wp_kSub, ↓wp_kName, ↓wp_seq, ↓wp_next, ↓wp_sBreak, ↓wp_sCont, ↓wp_expr, ↓wp_ret, ↓wp_if, ↓wp_set, ↓wp_asg, ↓wp_par, ↓wp_par3, ↓wp_skill, ↓wp_sfor, ↓wp_vFn, mk, le_line, lt_line, cdiv_ok, tl_get, tl_get0, tl_set, tl_set0, ixt0, ixt1, ixt2, ixt3, ixt4, ixc0, ixc1, ixc2, ixc3, ixc4, ixl0, ixl1, ixl2, ixl3, ixl4]
  refine wp_retT f0 f ?_ (h A B st (by omega) (by omega) nd mem (by omega) (by omega) mem2 ln (f.mono (by omega)))
  simp [D.pure, D.pures, pures_strs]
theorem f_guests (f : Fg ns n st) (hn : n < 800000) : ∃ (A B : List Str) (st1 : AS), F__law_guests_73db [.ref 0] (st ++ X) = .ok (.tup [.lst ((sortS A).map D.str), .lst (B.map D.str)]) (st1 ++ X) ∧ 2 ≤ A.length ∧ A.length ≤ 4 ∧ A.Nodup ∧ (∀ s ∈ A, s ∈ seatB) ∧ 2 ≤ B.length ∧ B.length ≤ 3 ∧ (∀ s ∈ B, s ∈ tabB) ∧ st1.length = 1 ∧ Fg ns (n + 20) st1 := by
  have w : (F__law_guests_73db [.ref 0] (st ++ X)).wp (fun d S => Hold (∃ (A B : List Str) (st1 : AS), d = .tup [.lst ((sortS A).map D.str), .lst (B.map D.str)] ∧ S = st1 ++ X ∧ 2 ≤ A.length ∧ A.length ≤ 4 ∧ A.Nodup ∧ (∀ s ∈ A, s ∈ seatB) ∧ 2 ≤ B.length ∧ B.length ≤ 3 ∧ (∀ s ∈ B, s ∈ tabB) ∧ st1.length = 1 ∧ Fg ns (n + 20) st1)) noX := by
    refine wp_guests f hn ?_
    intro A B st1 h1 h2 h3 h4 h5 h6 h7 h8 h9
    exact ⟨A, B, st1, rfl, rfl, h1, h2, h3, h4, h5, h6, h7, h8, h9⟩
  obtain ⟨d, S, e, A, B, st1, rfl, rfl, h⟩ := w.eq
  exact ⟨A, B, st1, e, h⟩
end
end TG
set_option Elab.async false
set_option linter.all false
set_option maxRecDepth 100000
set_option maxHeartbeats 4000000
/-! A house that the laws of names draw. -/
namespace TG
open PySem VL G Kd W9 W26 WG TB
section
variable {ns : List Int} {n n0 : Nat} {st st0 X Y : AS} {m : Int} {d : D} {Q : D → AS → Prop} {E : XQ}
theorem prs_pure : ∀ ps : List (Int × Int), D.pures (ps.map ePr) = true
  | [] => rfl
  | p :: ps => by
    rw [List.map_cons, D.pures, prs_pure ps]
    simp [ePr, D.pure, D.pures]
theorem f_prices (f : Fg ns n st) (hn : n < 800000) : ∃ (ps : List (Int × Int)) (st1 : AS), F__law_prices_0dbf [.ref 0] (st ++ X) = .ok (.tup (ps.map ePr)) (st1 ++ X) ∧ ps.length ≤ 4 ∧ st1.length = 1 ∧ Fg ns (n + 20) st1 := by
  suffices w : (F__law_prices_0dbf [.ref 0] (st ++ X)).wp (fun d S => Hold (∃ (ps : List (Int × Int)) (st1 : AS), d = .tup (ps.map ePr) ∧ S = st1 ++ X ∧ ps.length ≤ 4 ∧ st1.length = 1 ∧ Fg ns (n + 20) st1)) noX by
    obtain ⟨d, S, e, ps, st1, rfl, rfl, h⟩ := w.eq
    exact ⟨ps, st1, e, h⟩
  have f0 := f
  have ln := f.ln
  have DO : True := trivial
  unfold F__law_prices_0dbf
  rw [wp_vFn]; simp only [List.map_cons, List.map_nil, List.length_cons, List.length_nil, Nat.reduceAdd, Nat.reduceSub, List.replicate_succ, List.replicate_zero, List.cons_append, List.nil_append]
  unfold B__law_prices_0dbf
  try simp -dsimp -implicitDefEqProofs [-ixD, -Int.toNat_natCast, ↓wp_bind, ↓wp_fl, ↓wp_ite, ↓wp_fite, ↓wp_v1, ↓wp_v2, ↓wp_vB, ↓wp_vNil, ↓wp_vCons, ↓wp_vA, ↓wp_vAnd, ↓wp_vOr, ↓wp_vNot, ↓wp_vIfE, ↓wp_vSl, ↓wp_vML, ↓wp_vMD, ↓wp_vCallA, ↓wp_vLc, ↓wp_vDisp, ↓wp_vPs0, ↓wp_vPs1, ↓wp_kSub, ↓wp_kName, ↓wp_seq, ↓wp_next, ↓wp_sBreak, ↓wp_sCont, ↓wp_expr, ↓wp_ret, ↓wp_if, ↓wp_set, ↓wp_asg, ↓wp_par, ↓wp_par3, ↓wp_skill, ↓wp_sfor, ↓wp_vFn, mk, le_line, lt_line, cdiv_ok, tl_get, tl_get0, tl_set, tl_set0, ixt0, ixt1, ixt2, ixt3, ixt4, ixc0, ixc1, ixc2, ixc3, ixc4, ixl0, ixl1, ixl2, ixl3, ixl4, ln]
  refine wp_draw DO f (by omega) (by omega) (by omega) ?_; intro r1 st zr1 yr1 ln f
  try simp -dsimp -implicitDefEqProofs [-ixD, -Int.toNat_natCast, ↓wp_bind, ↓wp_fl, ↓wp_ite, ↓wp_fite, ↓wp_v1, ↓wp_v2, ↓wp_vB, ↓wp_vNil, ↓wp_vCons, ↓wp_vA, ↓wp_vAnd, ↓wp_vOr, ↓wp_vNot, ↓wp_vIfE, ↓wp_vSl, ↓wp_vML, ↓wp_vMD, ↓wp_vCallA, ↓wp_vLc, ↓wp_vDisp, ↓wp_vPs0, ↓wp_vPs1, ↓wp_kSub, ↓wp_kName, ↓wp_seq, ↓wp_next, ↓wp_sBreak, ↓wp_sCont, ↓wp_expr, ↓wp_ret, ↓wp_if, ↓wp_set, ↓wp_asg, ↓wp_par, ↓wp_par3, ↓wp_skill, ↓wp_sfor, ↓wp_vFn, mk, le_line, lt_line, cdiv_ok, tl_get, tl_get0, tl_set, tl_set0, ixt0, ixt1, ixt2, ixt3, ixt4, ixc0, ixc1, ixc2, ixc3, ixc4, ixl0, ixl1, ixl2, ixl3, ixl4]
  refine wp_draw DO f (by omega) (by omega) (by omega) ?_; intro r2 st zr2 yr2 ln f
  try simp -dsimp -implicitDefEqProofs [-ixD, -Int.toNat_natCast, ↓wp_bind, ↓wp_fl, ↓wp_ite, ↓wp_fite, ↓wp_v1, ↓wp_v2, ↓wp_vB, ↓wp_vNil, ↓wp_vCons, ↓wp_vA, ↓wp_vAnd, ↓wp_vOr, ↓wp_vNot, ↓wp_vIfE, ↓wp_vSl, ↓wp_vML, ↓wp_vMD, ↓wp_vCallA, ↓wp_vLc, ↓wp_vDisp, ↓wp_vPs0, ↓wp_vPs1, ↓wp_kSub, ↓wp_kName, ↓wp_seq, ↓wp_next, ↓wp_sBreak, ↓wp_sCont, ↓wp_expr, ↓wp_ret, ↓wp_if, ↓wp_set, ↓wp_asg, ↓wp_par, ↓wp_par3, ↓wp_skill, ↓wp_sfor, ↓wp_vFn, mk, le_line, lt_line, cdiv_ok, tl_get, tl_get0, tl_set, tl_set0, ixt0, ixt1, ixt2, ixt3, ixt4, ixc0, ixc1, ixc2, ixc3, ixc4, ixl0, ixl1, ixl2, ixl3, ixl4]
  refine wp_draw DO f (by omega) (by omega) (by omega) ?_; intro r3 st zr3 yr3 ln f
  try simp -dsimp -implicitDefEqProofs [-ixD, -Int.toNat_natCast, ↓wp_bind, ↓wp_fl, ↓wp_ite, ↓wp_fite, ↓wp_v1, ↓wp_v2, ↓wp_vB, ↓wp_vNil, ↓wp_vCons, ↓wp_vA, ↓wp_vAnd, ↓wp_vOr, ↓wp_vNot, ↓wp_vIfE, ↓wp_vSl, ↓wp_vML, ↓wp_vMD, ↓wp_vCallA, ↓wp_vLc, ↓wp_vDisp, ↓wp_vPs0, ↓wp_vPs1, ↓wp_kSub, ↓wp_kName, ↓wp_seq, ↓wp_next, ↓wp_sBreak, ↓wp_sCont, ↓wp_expr, ↓wp_ret, ↓wp_if, ↓wp_set, ↓wp_asg, ↓wp_par, ↓wp_par3, ↓wp_skill, ↓wp_sfor, ↓wp_vFn, mk, le_line, lt_line, cdiv_ok, tl_get, tl_get0, tl_set, tl_set0, ixt0, ixt1, ixt2, ixt3, ixt4, ixc0, ixc1, ixc2, ixc3, ixc4, ixl0, ixl1, ixl2, ixl3, ixl4]
  refine wp_ixIL [0, 1, 99, r1, r2] 5 rfl rfl (by omega) (by omega) ?_; intro v hv
  try simp -dsimp -implicitDefEqProofs [-ixD, -Int.toNat_natCast, ↓wp_bind, ↓wp_fl, ↓wp_ite, ↓wp_fite, ↓wp_v1, ↓wp_v2, ↓wp_vB, ↓wp_vNil, ↓wp_vCons, ↓wp_vA, ↓wp_vAnd, ↓wp_vOr, ↓wp_vNot, ↓wp_vIfE, ↓wp_vSl, ↓wp_vML, ↓wp_vMD, ↓wp_vCallA, ↓wp_vLc, ↓wp_vDisp, ↓wp_vPs0, ↓wp_vPs1, ↓wp_kSub, ↓wp_kName, ↓wp_seq, ↓wp_next, ↓wp_sBreak, ↓wp_sCont, ↓wp_expr, ↓wp_ret, ↓wp_if, ↓wp_set, ↓wp_asg, ↓wp_par, ↓wp_par3, ↓wp_skill, ↓wp_sfor, ↓wp_vFn, mk, le_line, lt_line, cdiv_ok, tl_get, tl_get0, tl_set, tl_set0, ixt0, ixt1, ixt2, ixt3, ixt4, ixc0, ixc1, ixc2, ixc3, ixc4, ixl0, ixl1, ixl2, ixl3, ixl4, ln]
  refine wp_draw DO f (by omega) (by omega) (by omega) ?_; intro r4 st zr4 yr4 ln f
  try simp -dsimp -implicitDefEqProofs [-ixD, -Int.toNat_natCast, ↓wp_bind, ↓wp_fl, ↓wp_ite, ↓wp_fite, ↓wp_v1, ↓wp_v2, ↓wp_vB, ↓wp_vNil, ↓wp_vCons, ↓wp_vA, ↓wp_vAnd, ↓wp_vOr, ↓wp_vNot, ↓wp_vIfE, ↓wp_vSl, ↓wp_vML, ↓wp_vMD, ↓wp_vCallA, ↓wp_vLc, ↓wp_vDisp, ↓wp_vPs0, ↓wp_vPs1, ↓wp_kSub, ↓wp_kName, ↓wp_seq, ↓wp_next, ↓wp_sBreak, ↓wp_sCont, ↓wp_expr, ↓wp_ret, ↓wp_if, ↓wp_set, ↓wp_asg, ↓wp_par, ↓wp_par3, ↓wp_skill, ↓wp_sfor, ↓wp_vFn, mk, le_line, lt_line, cdiv_ok, tl_get, tl_get0, tl_set, tl_set0, ixt0, ixt1, ixt2, ixt3, ixt4, ixc0, ixc1, ixc2, ixc3, ixc4, ixl0, ixl1, ixl2, ixl3, ixl4]
  refine wp_ixIL [0, 0, 1, 3] 4 rfl rfl (by omega) (by omega) ?_; intro c hc
  obtain ⟨cn, hcn, c3⟩ : ∃ cn : Nat, c = cn ∧ cn ≤ 3 := by
    simp at hc
    rcases hc with rfl | rfl | rfl
    · exact ⟨0, rfl, by omega⟩
    · exact ⟨1, rfl, by omega⟩
    · exact ⟨3, rfl, by omega⟩
  subst hcn
  try simp -dsimp -implicitDefEqProofs [-ixD, -Int.toNat_natCast, ↓wp_bind, ↓wp_fl, ↓wp_ite, ↓wp_fite, ↓wp_v1, ↓wp_v2, ↓wp_vB, ↓wp_vNil, ↓wp_vCons, ↓wp_vA, ↓wp_vAnd, ↓wp_vOr, ↓wp_vNot, ↓wp_vIfE, ↓wp_vSl, ↓wp_vML, ↓wp_vMD, ↓wp_vCallA, ↓wp_vLc, ↓wp_vDisp, ↓wp_vPs0, ↓wp_vPs1, ↓wp_kSub, ↓wp_kName, ↓wp_seq, ↓wp_next, ↓wp_sBreak, ↓wp_sCont, ↓wp_expr, ↓wp_ret, ↓wp_if, ↓wp_set, ↓wp_asg, ↓wp_par, ↓wp_par3, ↓wp_skill, ↓wp_sfor, ↓wp_vFn, mk, le_line, lt_line, cdiv_ok, tl_get, tl_get0, tl_set, tl_set0, ixt0, ixt1, ixt2, ixt3, ixt4, ixc0, ixc1, ixc2, ixc3, ixc4, ixl0, ixl1, ixl2, ixl3, ixl4, rng1_ok (j := (cn : Int)) (by omega) (by omega), Int.toNat_natCast]
  simp only [Int.toNat_natCast, rgL_0]
  refine wp_for0 (fun ds env S => Hold (∃ (ps : List (Int × Int)) (t : Int) (st : AS) (j : Nat), ds = rgL cn j ∧ ps.length = j + 1 ∧ env = [some (.ref 0), some (.ref (1 + X.length)), some (.int t), none] ∧ S = st ++ (X ++ [.lst (ps.map ePr)]) ∧ Fg ns (n + 4 + 3 * j) st ∧ j ≤ cn)) ?_ ?_ ?_
  · exact ⟨[(0, v)], 0, st, 0, rfl, rfl, rfl, rfl, f.mono (by omega), by omega⟩
  · rintro d ds env S ⟨ps, t, st, j, e1, pl, e4, e5, f, jc⟩
    subst e4
    subst e5
    obtain ⟨hj, rfl, rfl⟩ := rgL_at e1
    have ln := f.ln
    have gl : ∀ S' : AS, S'.length = 1 → (S' ++ (X ++ [C.lst (ps.map ePr)]))[1 + X.length]? = some (.lst (ps.map ePr)) := fun S' h => by
      rw [List.getElem?_append_right (by omega), h]
      simp
    have sl : ∀ (S' : AS) (c : C), S'.length = 1 → (S' ++ (X ++ [C.lst (ps.map ePr)])).set (1 + X.length) c = S' ++ (X ++ [c]) := fun S' c h => by
      rw [List.set_append_right _ _ (by omega), h]
      simp
    have gl0 := gl _ ln
    try simp -dsimp -implicitDefEqProofs [-ixD, -Int.toNat_natCast, ↓wp_bind, ↓wp_fl, ↓wp_ite, ↓wp_fite, ↓wp_v1, ↓wp_v2, ↓wp_vB, ↓wp_vNil, ↓wp_vCons, ↓wp_vA, ↓wp_vAnd, ↓wp_vOr, ↓wp_vNot, ↓wp_vIfE, ↓wp_vSl, ↓wp_vML, ↓wp_vMD, ↓wp_vCallA, ↓wp_vLc, ↓wp_vDisp, ↓wp_vPs0, ↓wp_vPs1, ↓wp_kSub, ↓wp_kName, ↓wp_seq, ↓wp_next, ↓wp_sBreak, ↓wp_sCont, ↓wp_expr, ↓wp_ret, ↓wp_if, ↓wp_set, ↓wp_asg, ↓wp_par, ↓wp_par3, ↓wp_skill, ↓wp_sfor, ↓wp_vFn, mk, le_line, lt_line, cdiv_ok, tl_get, tl_get0, tl_set, tl_set0, ixt0, ixt1, ixt2, ixt3, ixt4, ixc0, ixc1, ixc2, ixc3, ixc4, ixl0, ixl1, ixl2, ixl3, ixl4]
    refine wp_draw DO f (by omega) (by omega) (by omega) ?_; intro r5 st zr5 yr5 ln f
    have gl1 := gl _ ln
    try simp -dsimp -implicitDefEqProofs [-ixD, -Int.toNat_natCast, ↓wp_bind, ↓wp_fl, ↓wp_ite, ↓wp_fite, ↓wp_v1, ↓wp_v2, ↓wp_vB, ↓wp_vNil, ↓wp_vCons, ↓wp_vA, ↓wp_vAnd, ↓wp_vOr, ↓wp_vNot, ↓wp_vIfE, ↓wp_vSl, ↓wp_vML, ↓wp_vMD, ↓wp_vCallA, ↓wp_vLc, ↓wp_vDisp, ↓wp_vPs0, ↓wp_vPs1, ↓wp_kSub, ↓wp_kName, ↓wp_seq, ↓wp_next, ↓wp_sBreak, ↓wp_sCont, ↓wp_expr, ↓wp_ret, ↓wp_if, ↓wp_set, ↓wp_asg, ↓wp_par, ↓wp_par3, ↓wp_skill, ↓wp_sfor, ↓wp_vFn, mk, le_line, lt_line, cdiv_ok, tl_get, tl_get0, tl_set, tl_set0, ixt0, ixt1, ixt2, ixt3, ixt4, ixc0, ixc1, ixc2, ixc3, ixc4, ixl0, ixl1, ixl2, ixl3, ixl4, gl1]
    refine wp_draw DO f (by omega) (by omega) (by omega) ?_; intro r6 st zr6 yr6 ln f
    have gl2 := gl _ ln
    have sl2 := fun c => sl st c ln
    have pp : ps.length < 16000000 := by omega
    generalize hpd : ps.map ePr = pd at *
    have pl2 : pd.length < 16000000 := by rw [← hpd, List.length_map]; omega
    try simp -dsimp -implicitDefEqProofs [-ixD, -Int.toNat_natCast, ↓wp_bind, ↓wp_fl, ↓wp_ite, ↓wp_fite, ↓wp_v1, ↓wp_v2, ↓wp_vB, ↓wp_vNil, ↓wp_vCons, ↓wp_vA, ↓wp_vAnd, ↓wp_vOr, ↓wp_vNot, ↓wp_vIfE, ↓wp_vSl, ↓wp_vML, ↓wp_vMD, ↓wp_vCallA, ↓wp_vLc, ↓wp_vDisp, ↓wp_vPs0, ↓wp_vPs1, ↓wp_kSub, ↓wp_kName, ↓wp_seq, ↓wp_next, ↓wp_sBreak, ↓wp_sCont, ↓wp_expr, ↓wp_ret, ↓wp_if, ↓wp_set, ↓wp_asg, ↓wp_par, ↓wp_par3, ↓wp_skill, ↓wp_sfor, ↓wp_vFn, mk, le_line, lt_line, cdiv_ok, tl_get, tl_get0, tl_set, tl_set0, ixt0, ixt1, ixt2, ixt3, ixt4, ixc0, ixc1, ixc2, ixc3, ixc4, ixl0, ixl1, ixl2, ixl3, ixl4, gl2, sl2, pl2]
    exact ⟨ps ++ [(t + 1 + r5, r6)], t + 1 + r5, st, j + 1, rfl, by simp [pl], rfl, by rw [← hpd]; simp [ePr], f.mono (by omega), by omega⟩
  · rintro env S ⟨ps, t, st, j, e1, pl, e4, e5, f, jc⟩
    subst e4
    subst e5
    have ln := f.ln
    have gl : (st ++ (X ++ [C.lst (ps.map ePr)]))[1 + X.length]? = some (.lst (ps.map ePr)) := by
      rw [List.getElem?_append_right (by omega), ln]
      simp
    have pu := prs_pure ps
    have pl3 : ps.length ≤ 4 := by omega
    have fin : Hold (∃ (ps' : List (Int × Int)) (st1 : AS), D.tup (ps.map ePr) = .tup (ps'.map ePr) ∧ st ++ X = st1 ++ X ∧ ps'.length ≤ 4 ∧ st1.length = 1 ∧ Fg ns (n + 20) st1) := ⟨ps, st, rfl, rfl, pl3, ln, f.mono (by omega)⟩
    have pl2 : (ps.map ePr).length ≤ 16000000 := by rw [List.length_map]; omega
    generalize ps.map ePr = pd at *
    try simp -dsimp -implicitDefEqProofs [-ixD, -Int.toNat_natCast, ↓wp_bind, ↓wp_fl, ↓wp_ite, ↓wp_fite, ↓wp_v1, ↓wp_v2, ↓wp_vB, ↓wp_vNil, ↓wp_vCons, ↓wp_vA, ↓wp_vAnd, ↓wp_vOr, ↓wp_vNot, ↓wp_vIfE, ↓wp_vSl, ↓wp_vML, ↓wp_vMD, ↓wp_vCallA, ↓wp_vLc, ↓wp_vDisp, ↓wp_vPs0, ↓wp_vPs1, ↓wp_kSub, ↓wp_kName, ↓wp_seq, ↓wp_next, ↓wp_sBreak, ↓wp_sCont, ↓wp_expr, ↓wp_ret, ↓wp_if, ↓wp_set, ↓wp_asg, ↓wp_par, ↓wp_par3, ↓wp_skill, ↓wp_sfor, ↓wp_vFn, mk, le_line, lt_line, cdiv_ok, tl_get, tl_get0, tl_set, tl_set0, ixt0, ixt1, ixt2, ixt3, ixt4, ixc0, ixc1, ixc2, ixc3, ixc4, ixl0, ixl1, ixl2, ixl3, ixl4, gl, pl2]
    exact wp_retT f0 f (by rw [D.pure]; exact pu) fin
theorem pures_app2 : ∀ a b : List D, D.pures (a ++ b) = (D.pures a && D.pures b)
  | [], b => by simp [D.pures]
  | x :: a, b => by rw [List.cons_append, D.pures, D.pures, pures_app2 a b, Bool.and_assoc]
theorem rows_pure : ∀ ms : Menu, D.pures (ms.map eRow) = true
  | [] => rfl
  | r :: ms => by
    rw [List.map_cons, D.pures, rows_pure ms]
    have := prs_pure r.2.2
    simp only [eRow, D.pure, D.pures, this]
    rfl
theorem items_asc : ∀ s ∈ itemB, wdOk s = true := by decide +kernel
theorem f_house (f : Fg ns n st) (hn : n < 700000) : ∃ (ms : Menu) (od : D) (a b : Int) (st1 : AS), F__law_house_dbe9 [.ref 0] (st ++ X) = .ok (.tup [eMenu ms, od, .int a, .int b]) (st1 ++ X) ∧ 0 < ms.length ∧ ms.length ≤ 4 ∧ (∀ r ∈ ms, r.1 ∈ itemB) ∧ st1.length = 1 ∧ Fg ns (n + 400) st1 := by
  suffices w : (F__law_house_dbe9 [.ref 0] (st ++ X)).wp (fun d S => Hold (∃ (ms : Menu) (od : D) (a b : Int) (st1 : AS), d = .tup [eMenu ms, od, .int a, .int b] ∧ S = st1 ++ X ∧ 0 < ms.length ∧ ms.length ≤ 4 ∧ (∀ r ∈ ms, r.1 ∈ itemB) ∧ st1.length = 1 ∧ Fg ns (n + 400) st1)) noX by
    obtain ⟨d, S, e, ms, od, a, b, st1, rfl, rfl, h⟩ := w.eq
    exact ⟨ms, od, a, b, st1, e, h⟩
  have f0 := f
  have ln := f.ln
  have DO : True := trivial
  have hs : [D.str (Str.ofString "a"), D.str (Str.ofString "ab"), D.str (Str.ofString "beer"), D.str (Str.ofString "soup"), D.str (Str.ofString "soups"), D.str (Str.ofString "tea"), D.str (Str.ofString "z")] = itemB.map D.str := rfl
  unfold F__law_house_dbe9
  rw [wp_vFn]; simp only [List.map_cons, List.map_nil, List.length_cons, List.length_nil, Nat.reduceAdd, Nat.reduceSub, List.replicate_succ, List.replicate_zero, List.cons_append, List.nil_append]
  unfold B__law_house_dbe9
  simp only [wordsF_eq]
  try simp -dsimp -implicitDefEqProofs [-ixD, -Int.toNat_natCast, ↓wp_bind, ↓wp_fl, ↓wp_ite, ↓wp_fite, ↓wp_v1, ↓wp_v2, ↓wp_vB, ↓wp_vNil, ↓wp_vCons, ↓wp_vA, ↓wp_vAnd, ↓wp_vOr, ↓wp_vNot, ↓wp_vIfE, ↓wp_vSl, ↓wp_vML, ↓wp_vMD, ↓wp_vCallA, ↓wp_vLc, ↓wp_vDisp, ↓wp_vPs0, ↓wp_vPs1, ↓wp_kSub, ↓wp_kName, ↓wp_seq, ↓wp_next, ↓wp_sBreak, ↓wp_sCont, ↓wp_expr, ↓wp_ret, ↓wp_if, ↓wp_set, ↓wp_asg, ↓wp_par, ↓wp_par3, ↓wp_skill, ↓wp_sfor, ↓wp_vFn, mk, le_line, lt_line, cdiv_ok, tl_get, tl_get0, tl_set, tl_set0, ixt0, ixt1, ixt2, ixt3, ixt4, ixc0, ixc1, ixc2, ixc3, ixc4, ixl0, ixl1, ixl2, ixl3, ixl4]
  refine wp_draw DO f (by omega) (by omega) (by omega) ?_; intro r1 st zr1 yr1 ln f
  obtain ⟨k, hk, k1, k4⟩ : ∃ k : Nat, 1 + r1 = k ∧ 1 ≤ k ∧ k ≤ 4 := ⟨(1 + r1).toNat, by omega, by omega, by omega⟩
  try simp -dsimp -implicitDefEqProofs [-ixD, -Int.toNat_natCast, ↓wp_bind, ↓wp_fl, ↓wp_ite, ↓wp_fite, ↓wp_v1, ↓wp_v2, ↓wp_vB, ↓wp_vNil, ↓wp_vCons, ↓wp_vA, ↓wp_vAnd, ↓wp_vOr, ↓wp_vNot, ↓wp_vIfE, ↓wp_vSl, ↓wp_vML, ↓wp_vMD, ↓wp_vCallA, ↓wp_vLc, ↓wp_vDisp, ↓wp_vPs0, ↓wp_vPs1, ↓wp_kSub, ↓wp_kName, ↓wp_seq, ↓wp_next, ↓wp_sBreak, ↓wp_sCont, ↓wp_expr, ↓wp_ret, ↓wp_if, ↓wp_set, ↓wp_asg, ↓wp_par, ↓wp_par3, ↓wp_skill, ↓wp_sfor, ↓wp_vFn, mk, le_line, lt_line, cdiv_ok, tl_get, tl_get0, tl_set, tl_set0, ixt0, ixt1, ixt2, ixt3, ixt4, ixc0, ixc1, ixc2, ixc3, ixc4, ixl0, ixl1, ixl2, ixl3, ixl4, hk, ln]
  rw [hs]
  have h1 : k ≤ itemB.length := by rw [itemB_len]; omega
  have h2 : itemB.length ≤ 30 := by rw [itemB_len]; omega
  obtain ⟨A, P1, st, e1, al, pm, ln, f⟩ := f_words f k itemB X h1 h2 (by omega)
  obtain ⟨nd, mem⟩ := picked pm itemB_nd
  generalize List.map D.str itemB = sb at *
  refine wp_of e1 ?_
  have sw : ∀ Z, sortD false (.lst (A.map D.str)) Z = .ok (.lst ((sortS A).map D.str)) Z := fun Z => sort_lst _ (by omega) Z
  have wl : (sortS A).length = k := by rw [(sortS_perm _).length_eq, al]
  have mem2 : ∀ s ∈ sortS A, s ∈ itemB := fun s hs => mem s ((sortS_perm _).mem_iff.mp hs)
  generalize sortS A = ws at *
  generalize hp1 : C.lst (P1.map D.str) = pc at *
  try simp -dsimp -implicitDefEqProofs [-ixD, -Int.toNat_natCast, ↓wp_bind, ↓wp_fl, ↓wp_ite, ↓wp_fite, ↓wp_v1, ↓wp_v2, ↓wp_vB, ↓wp_vNil, ↓wp_vCons, ↓wp_vA, ↓wp_vAnd, ↓wp_vOr, ↓wp_vNot, ↓wp_vIfE, ↓wp_vSl, ↓wp_vML, ↓wp_vMD, ↓wp_vCallA, ↓wp_vLc, ↓wp_vDisp, ↓wp_vPs0, ↓wp_vPs1, ↓wp_kSub, ↓wp_kName, ↓wp_seq, ↓wp_next, ↓wp_sBreak, ↓wp_sCont, ↓wp_expr, ↓wp_ret, ↓wp_if, ↓wp_set, ↓wp_asg, ↓wp_par, ↓wp_par3, ↓wp_skill, ↓wp_sfor, ↓wp_vFn, mk, le_line, lt_line, cdiv_ok, tl_get, tl_get0, tl_set, tl_set0, ixt0, ixt1, ixt2, ixt3, ixt4, ixc0, ixc1, ixc2, ixc3, ixc4, ixl0, ixl1, ixl2, ixl3, ixl4, -sortD, sw, show ws.length ≤ 16000000 by omega]
  refine wp_comp0 (fun ds acc S => Hold (∃ (ws2 : List Str) (ms : Menu) (st : AS), ds = ws2.map D.str ∧ ms.map (·.1) ++ ws2 = ws ∧ acc = ms.map eRow ∧ S = st ++ (X ++ [pc]) ∧ Fg ns (n + 10 + 25 * ms.length) st)) ?_ ?_ ?_
  · exact ⟨ws, [], st, rfl, rfl, rfl, rfl, f.mono (by simp; omega)⟩
  · rintro d ds acc S ⟨ws2, ms, st, e1, e2, e3, e4, f⟩
    subst e3
    subst e4
    obtain ⟨w, ws3, rfl, rfl, rfl⟩ : ∃ w ws3, ws2 = w :: ws3 ∧ d = .str w ∧ ds = ws3.map D.str := by
      cases ws2 with
      | nil => cases e1
      | cons w ws3 => injection e1 with h1 h2; exact ⟨w, ws3, rfl, h1, h2⟩
    have ml : ms.length + 1 + ws3.length = k := by rw [← wl, ← e2]; simp; omega
    have ln := f.ln
    try simp -dsimp -implicitDefEqProofs [-ixD, -Int.toNat_natCast, ↓wp_bind, ↓wp_fl, ↓wp_ite, ↓wp_fite, ↓wp_v1, ↓wp_v2, ↓wp_vB, ↓wp_vNil, ↓wp_vCons, ↓wp_vA, ↓wp_vAnd, ↓wp_vOr, ↓wp_vNot, ↓wp_vIfE, ↓wp_vSl, ↓wp_vML, ↓wp_vMD, ↓wp_vCallA, ↓wp_vLc, ↓wp_vDisp, ↓wp_vPs0, ↓wp_vPs1, ↓wp_kSub, ↓wp_kName, ↓wp_seq, ↓wp_next, ↓wp_sBreak, ↓wp_sCont, ↓wp_expr, ↓wp_ret, ↓wp_if, ↓wp_set, ↓wp_asg, ↓wp_par, ↓wp_par3, ↓wp_skill, ↓wp_sfor, ↓wp_vFn, mk, le_line, lt_line, cdiv_ok, tl_get, tl_get0, tl_set, tl_set0, ixt0, ixt1, ixt2, ixt3, ixt4, ixc0, ixc1, ixc2, ixc3, ixc4, ixl0, ixl1, ixl2, ixl3, ixl4]
    refine wp_draw DO f (by omega) (by omega) (by omega) ?_; intro r2 st zr2 yr2 ln f
    try simp -dsimp -implicitDefEqProofs [-ixD, -Int.toNat_natCast, ↓wp_bind, ↓wp_fl, ↓wp_ite, ↓wp_fite, ↓wp_v1, ↓wp_v2, ↓wp_vB, ↓wp_vNil, ↓wp_vCons, ↓wp_vA, ↓wp_vAnd, ↓wp_vOr, ↓wp_vNot, ↓wp_vIfE, ↓wp_vSl, ↓wp_vML, ↓wp_vMD, ↓wp_vCallA, ↓wp_vLc, ↓wp_vDisp, ↓wp_vPs0, ↓wp_vPs1, ↓wp_kSub, ↓wp_kName, ↓wp_seq, ↓wp_next, ↓wp_sBreak, ↓wp_sCont, ↓wp_expr, ↓wp_ret, ↓wp_if, ↓wp_set, ↓wp_asg, ↓wp_par, ↓wp_par3, ↓wp_skill, ↓wp_sfor, ↓wp_vFn, mk, le_line, lt_line, cdiv_ok, tl_get, tl_get0, tl_set, tl_set0, ixt0, ixt1, ixt2, ixt3, ixt4, ixc0, ixc1, ixc2, ixc3, ixc4, ixl0, ixl1, ixl2, ixl3, ixl4]
    obtain ⟨ps, st, e5, pl, ln, f⟩ := f_prices (X := X ++ [pc]) f (by omega)
    refine wp_of e5 ?_
    try simp -dsimp -implicitDefEqProofs [-ixD, -Int.toNat_natCast, ↓wp_bind, ↓wp_fl, ↓wp_ite, ↓wp_fite, ↓wp_v1, ↓wp_v2, ↓wp_vB, ↓wp_vNil, ↓wp_vCons, ↓wp_vA, ↓wp_vAnd, ↓wp_vOr, ↓wp_vNot, ↓wp_vIfE, ↓wp_vSl, ↓wp_vML, ↓wp_vMD, ↓wp_vCallA, ↓wp_vLc, ↓wp_vDisp, ↓wp_vPs0, ↓wp_vPs1, ↓wp_kSub, ↓wp_kName, ↓wp_seq, ↓wp_next, ↓wp_sBreak, ↓wp_sCont, ↓wp_expr, ↓wp_ret, ↓wp_if, ↓wp_set, ↓wp_asg, ↓wp_par, ↓wp_par3, ↓wp_skill, ↓wp_sfor, ↓wp_vFn, mk, le_line, lt_line, cdiv_ok, tl_get, tl_get0, tl_set, tl_set0, ixt0, ixt1, ixt2, ixt3, ixt4, ixc0, ixc1, ixc2, ixc3, ixc4, ixl0, ixl1, ixl2, ixl3, ixl4]
    exact ⟨ws3, ms ++ [(w, r2, ps)], st, rfl, by simpa using e2, by simp [eRow], rfl, f.mono (by simp; omega)⟩
  rintro acc S ⟨ws2, ms, st, e1, e2, e3, e4, f⟩
  subst e3
  subst e4
  have hw2 : ws2 = [] := by
    cases ws2 with
    | nil => rfl
    | cons w ws3 => cases e1
  subst hw2
  rw [List.append_nil] at e2
  have ml : ms.length = k := by rw [← wl, ← e2]; simp
  have mi : ∀ r ∈ ms, r.1 ∈ itemB := fun r hr => mem2 _ (by rw [← e2]; exact List.mem_map_of_mem hr)
  have ln := f.ln
  try simp -dsimp -implicitDefEqProofs [-ixD, -Int.toNat_natCast, ↓wp_bind, ↓wp_fl, ↓wp_ite, ↓wp_fite, ↓wp_v1, ↓wp_v2, ↓wp_vB, ↓wp_vNil, ↓wp_vCons, ↓wp_vA, ↓wp_vAnd, ↓wp_vOr, ↓wp_vNot, ↓wp_vIfE, ↓wp_vSl, ↓wp_vML, ↓wp_vMD, ↓wp_vCallA, ↓wp_vLc, ↓wp_vDisp, ↓wp_vPs0, ↓wp_vPs1, ↓wp_kSub, ↓wp_kName, ↓wp_seq, ↓wp_next, ↓wp_sBreak, ↓wp_sCont, ↓wp_expr, ↓wp_ret, ↓wp_if, ↓wp_set, ↓wp_asg, ↓wp_par, ↓wp_par3, ↓wp_skill, ↓wp_sfor, ↓wp_vFn, mk, le_line, lt_line, cdiv_ok, tl_get, tl_get0, tl_set, tl_set0, ixt0, ixt1, ixt2, ixt3, ixt4, ixc0, ixc1, ixc2, ixc3, ixc4, ixl0, ixl1, ixl2, ixl3, ixl4, ln, show ms.length ≤ 16000000 by omega]
  refine wp_draw DO f (by omega) (by omega) (by omega) ?_; intro r3 st zr3 yr3 ln f
  obtain ⟨c, hc, c2⟩ : ∃ c : Nat, r3 = c ∧ c ≤ 2 := ⟨r3.toNat, by omega, by omega⟩
  subst hc
  try simp -dsimp -implicitDefEqProofs [-ixD, -Int.toNat_natCast, ↓wp_bind, ↓wp_fl, ↓wp_ite, ↓wp_fite, ↓wp_v1, ↓wp_v2, ↓wp_vB, ↓wp_vNil, ↓wp_vCons, ↓wp_vA, ↓wp_vAnd, ↓wp_vOr, ↓wp_vNot, ↓wp_vIfE, ↓wp_vSl, ↓wp_vML, ↓wp_vMD, ↓wp_vCallA, ↓wp_vLc, ↓wp_vDisp, ↓wp_vPs0, ↓wp_vPs1, ↓wp_kSub, ↓wp_kName, ↓wp_seq, ↓wp_next, ↓wp_sBreak, ↓wp_sCont, ↓wp_expr, ↓wp_ret, ↓wp_if, ↓wp_set, ↓wp_asg, ↓wp_par, ↓wp_par3, ↓wp_skill, ↓wp_sfor, ↓wp_vFn, mk, le_line, lt_line, cdiv_ok, tl_get, tl_get0, tl_set, tl_set0, ixt0, ixt1, ixt2, ixt3, ixt4, ixc0, ixc1, ixc2, ixc3, ixc4, ixl0, ixl1, ixl2, ixl3, ixl4, rng1_ok (j := (c : Int)) (by omega) (by omega), Int.toNat_natCast]
  simp only [Int.toNat_natCast, rgL_0]
  refine wp_for0 (fun ds env S => Hold (∃ (od : List D) (st : AS), ds = rgL c od.length ∧ env = [some (.ref 0), some (.lst (ws.map D.str)), some (.tup (ms.map eRow)), some (.ref (1 + (X.length + 1))), none, none, none, none] ∧ S = st ++ (X ++ [pc, .lst od]) ∧ Fg ns (n + 120 + 20 * od.length) st ∧ od.length ≤ c ∧ D.pures od = true)) ?_ ?_ ?_
  · exact ⟨[], st, rfl, rfl, rfl, f.mono (by simp; omega), by simp, rfl⟩
  · rintro d ds env S ⟨od, st, e1, e4, e5, f, oc, op⟩
    subst e4
    subst e5
    obtain ⟨hj, rfl, rfl⟩ := rgL_at e1
    have ln := f.ln
    try simp -dsimp -implicitDefEqProofs [-ixD, -Int.toNat_natCast, ↓wp_bind, ↓wp_fl, ↓wp_ite, ↓wp_fite, ↓wp_v1, ↓wp_v2, ↓wp_vB, ↓wp_vNil, ↓wp_vCons, ↓wp_vA, ↓wp_vAnd, ↓wp_vOr, ↓wp_vNot, ↓wp_vIfE, ↓wp_vSl, ↓wp_vML, ↓wp_vMD, ↓wp_vCallA, ↓wp_vLc, ↓wp_vDisp, ↓wp_vPs0, ↓wp_vPs1, ↓wp_kSub, ↓wp_kName, ↓wp_seq, ↓wp_next, ↓wp_sBreak, ↓wp_sCont, ↓wp_expr, ↓wp_ret, ↓wp_if, ↓wp_set, ↓wp_asg, ↓wp_par, ↓wp_par3, ↓wp_skill, ↓wp_sfor, ↓wp_vFn, mk, le_line, lt_line, cdiv_ok, tl_get, tl_get0, tl_set, tl_set0, ixt0, ixt1, ixt2, ixt3, ixt4, ixc0, ixc1, ixc2, ixc3, ixc4, ixl0, ixl1, ixl2, ixl3, ixl4, show ws.length ≤ 16000000 by omega]
    refine wp_comp0 (fun ds acc S => Hold (∃ (ws2 ys : List Str) (st : AS), ds = ws2.map D.str ∧ acc = ys.map D.str ∧ ys.length + ws2.length ≤ 4 ∧ S = st ++ (X ++ [pc, .lst od]) ∧ Fg ns (n + 120 + 20 * od.length + 4 - ws2.length) st)) ?_ ?_ ?_
    · exact ⟨ws, [], st, rfl, rfl, by simp; omega, rfl, f.mono (by omega)⟩
    · rintro d ds acc S ⟨ws2, ys, st, e1, e3, yl, e4, f⟩
      subst e3
      subst e4
      obtain ⟨w, ws3, rfl, rfl, rfl⟩ : ∃ w ws3, ws2 = w :: ws3 ∧ d = .str w ∧ ds = ws3.map D.str := by
        cases ws2 with
        | nil => cases e1
        | cons w ws3 => injection e1 with h1 h2; exact ⟨w, ws3, rfl, h1, h2⟩
      simp only [List.length_cons] at f yl
      try simp -dsimp -implicitDefEqProofs [-ixD, -Int.toNat_natCast, ↓wp_bind, ↓wp_fl, ↓wp_ite, ↓wp_fite, ↓wp_v1, ↓wp_v2, ↓wp_vB, ↓wp_vNil, ↓wp_vCons, ↓wp_vA, ↓wp_vAnd, ↓wp_vOr, ↓wp_vNot, ↓wp_vIfE, ↓wp_vSl, ↓wp_vML, ↓wp_vMD, ↓wp_vCallA, ↓wp_vLc, ↓wp_vDisp, ↓wp_vPs0, ↓wp_vPs1, ↓wp_kSub, ↓wp_kName, ↓wp_seq, ↓wp_next, ↓wp_sBreak, ↓wp_sCont, ↓wp_expr, ↓wp_ret, ↓wp_if, ↓wp_set, ↓wp_asg, ↓wp_par, ↓wp_par3, ↓wp_skill, ↓wp_sfor, ↓wp_vFn, mk, le_line, lt_line, cdiv_ok, tl_get, tl_get0, tl_set, tl_set0, ixt0, ixt1, ixt2, ixt3, ixt4, ixc0, ixc1, ixc2, ixc3, ixc4, ixl0, ixl1, ixl2, ixl3, ixl4]
      refine wp_draw DO f (by omega) (by omega) (by omega) ?_; intro r4 st zr4 yr4 ln f
      try simp -dsimp -implicitDefEqProofs [-ixD, -Int.toNat_natCast, ↓wp_bind, ↓wp_fl, ↓wp_ite, ↓wp_fite, ↓wp_v1, ↓wp_v2, ↓wp_vB, ↓wp_vNil, ↓wp_vCons, ↓wp_vA, ↓wp_vAnd, ↓wp_vOr, ↓wp_vNot, ↓wp_vIfE, ↓wp_vSl, ↓wp_vML, ↓wp_vMD, ↓wp_vCallA, ↓wp_vLc, ↓wp_vDisp, ↓wp_vPs0, ↓wp_vPs1, ↓wp_kSub, ↓wp_kName, ↓wp_seq, ↓wp_next, ↓wp_sBreak, ↓wp_sCont, ↓wp_expr, ↓wp_ret, ↓wp_if, ↓wp_set, ↓wp_asg, ↓wp_par, ↓wp_par3, ↓wp_skill, ↓wp_sfor, ↓wp_vFn, mk, le_line, lt_line, cdiv_ok, tl_get, tl_get0, tl_set, tl_set0, ixt0, ixt1, ixt2, ixt3, ixt4, ixc0, ixc1, ixc2, ixc3, ixc4, ixl0, ixl1, ixl2, ixl3, ixl4]
      refine ⟨fun _ => ⟨ws3, ys ++ [w], st, rfl, by simp, by simp; omega, rfl, f.mono (by omega)⟩, fun _ => ⟨ws3, ys, st, rfl, rfl, by omega, rfl, f.mono (by omega)⟩⟩
    rintro acc S ⟨ws2, ys, st, e1, e3, yl, e4, f⟩
    subst e3
    subst e4
    have ln := f.ln
    try simp -dsimp -implicitDefEqProofs [-ixD, -Int.toNat_natCast, ↓wp_bind, ↓wp_fl, ↓wp_ite, ↓wp_fite, ↓wp_v1, ↓wp_v2, ↓wp_vB, ↓wp_vNil, ↓wp_vCons, ↓wp_vA, ↓wp_vAnd, ↓wp_vOr, ↓wp_vNot, ↓wp_vIfE, ↓wp_vSl, ↓wp_vML, ↓wp_vMD, ↓wp_vCallA, ↓wp_vLc, ↓wp_vDisp, ↓wp_vPs0, ↓wp_vPs1, ↓wp_kSub, ↓wp_kName, ↓wp_seq, ↓wp_next, ↓wp_sBreak, ↓wp_sCont, ↓wp_expr, ↓wp_ret, ↓wp_if, ↓wp_set, ↓wp_asg, ↓wp_par, ↓wp_par3, ↓wp_skill, ↓wp_sfor, ↓wp_vFn, mk, le_line, lt_line, cdiv_ok, tl_get, tl_get0, tl_set, tl_set0, ixt0, ixt1, ixt2, ixt3, ixt4, ixc0, ixc1, ixc2, ixc3, ixc4, ixl0, ixl1, ixl2, ixl3, ixl4, show ys.length ≤ 16000000 by omega]
    refine wp_draw DO f (by omega) (by omega) (by omega) ?_; intro r5 st zr5 yr5 ln f
    try simp -dsimp -implicitDefEqProofs [-ixD, -Int.toNat_natCast, ↓wp_bind, ↓wp_fl, ↓wp_ite, ↓wp_fite, ↓wp_v1, ↓wp_v2, ↓wp_vB, ↓wp_vNil, ↓wp_vCons, ↓wp_vA, ↓wp_vAnd, ↓wp_vOr, ↓wp_vNot, ↓wp_vIfE, ↓wp_vSl, ↓wp_vML, ↓wp_vMD, ↓wp_vCallA, ↓wp_vLc, ↓wp_vDisp, ↓wp_vPs0, ↓wp_vPs1, ↓wp_kSub, ↓wp_kName, ↓wp_seq, ↓wp_next, ↓wp_sBreak, ↓wp_sCont, ↓wp_expr, ↓wp_ret, ↓wp_if, ↓wp_set, ↓wp_asg, ↓wp_par, ↓wp_par3, ↓wp_skill, ↓wp_sfor, ↓wp_vFn, mk, le_line, lt_line, cdiv_ok, tl_get, tl_get0, tl_set, tl_set0, ixt0, ixt1, ixt2, ixt3, ixt4, ixc0, ixc1, ixc2, ixc3, ixc4, ixl0, ixl1, ixl2, ixl3, ixl4]
    refine wp_draw DO f (by omega) (by omega) (by omega) ?_; intro r6 st zr6 yr6 ln f
    try simp -dsimp -implicitDefEqProofs [-ixD, -Int.toNat_natCast, ↓wp_bind, ↓wp_fl, ↓wp_ite, ↓wp_fite, ↓wp_v1, ↓wp_v2, ↓wp_vB, ↓wp_vNil, ↓wp_vCons, ↓wp_vA, ↓wp_vAnd, ↓wp_vOr, ↓wp_vNot, ↓wp_vIfE, ↓wp_vSl, ↓wp_vML, ↓wp_vMD, ↓wp_vCallA, ↓wp_vLc, ↓wp_vDisp, ↓wp_vPs0, ↓wp_vPs1, ↓wp_kSub, ↓wp_kName, ↓wp_seq, ↓wp_next, ↓wp_sBreak, ↓wp_sCont, ↓wp_expr, ↓wp_ret, ↓wp_if, ↓wp_set, ↓wp_asg, ↓wp_par, ↓wp_par3, ↓wp_skill, ↓wp_sfor, ↓wp_vFn, mk, le_line, lt_line, cdiv_ok, tl_get, tl_get0, tl_set, tl_set0, ixt0, ixt1, ixt2, ixt3, ixt4, ixc0, ixc1, ixc2, ixc3, ixc4, ixl0, ixl1, ixl2, ixl3, ixl4]
    refine wp_ixIL [0, r5] 2 rfl rfl (by omega) (by omega) ?_; intro v hv
    have gl0 : (st ++ (X ++ [pc, C.lst od]))[1 + (X.length + 1)]? = some (.lst od) := by
      rw [List.getElem?_append_right (by omega), ln]
      simp
    try simp -dsimp -implicitDefEqProofs [-ixD, -Int.toNat_natCast, ↓wp_bind, ↓wp_fl, ↓wp_ite, ↓wp_fite, ↓wp_v1, ↓wp_v2, ↓wp_vB, ↓wp_vNil, ↓wp_vCons, ↓wp_vA, ↓wp_vAnd, ↓wp_vOr, ↓wp_vNot, ↓wp_vIfE, ↓wp_vSl, ↓wp_vML, ↓wp_vMD, ↓wp_vCallA, ↓wp_vLc, ↓wp_vDisp, ↓wp_vPs0, ↓wp_vPs1, ↓wp_kSub, ↓wp_kName, ↓wp_seq, ↓wp_next, ↓wp_sBreak, ↓wp_sCont, ↓wp_expr, ↓wp_ret, ↓wp_if, ↓wp_set, ↓wp_asg, ↓wp_par, ↓wp_par3, ↓wp_skill, ↓wp_sfor, ↓wp_vFn, mk, le_line, lt_line, cdiv_ok, tl_get, tl_get0, tl_set, tl_set0, ixt0, ixt1, ixt2, ixt3, ixt4, ixc0, ixc1, ixc2, ixc3, ixc4, ixl0, ixl1, ixl2, ixl3, ixl4, gl0]
    refine wp_draw DO f (by omega) (by omega) (by omega) ?_; intro r7 st zr7 yr7 ln f
    try simp -dsimp -implicitDefEqProofs [-ixD, -Int.toNat_natCast, ↓wp_bind, ↓wp_fl, ↓wp_ite, ↓wp_fite, ↓wp_v1, ↓wp_v2, ↓wp_vB, ↓wp_vNil, ↓wp_vCons, ↓wp_vA, ↓wp_vAnd, ↓wp_vOr, ↓wp_vNot, ↓wp_vIfE, ↓wp_vSl, ↓wp_vML, ↓wp_vMD, ↓wp_vCallA, ↓wp_vLc, ↓wp_vDisp, ↓wp_vPs0, ↓wp_vPs1, ↓wp_kSub, ↓wp_kName, ↓wp_seq, ↓wp_next, ↓wp_sBreak, ↓wp_sCont, ↓wp_expr, ↓wp_ret, ↓wp_if, ↓wp_set, ↓wp_asg, ↓wp_par, ↓wp_par3, ↓wp_skill, ↓wp_sfor, ↓wp_vFn, mk, le_line, lt_line, cdiv_ok, tl_get, tl_get0, tl_set, tl_set0, ixt0, ixt1, ixt2, ixt3, ixt4, ixc0, ixc1, ixc2, ixc3, ixc4, ixl0, ixl1, ixl2, ixl3, ixl4]
    refine wp_draw DO f (by omega) (by omega) (by omega) ?_; intro r8 st zr8 yr8 ln f
    try simp -dsimp -implicitDefEqProofs [-ixD, -Int.toNat_natCast, ↓wp_bind, ↓wp_fl, ↓wp_ite, ↓wp_fite, ↓wp_v1, ↓wp_v2, ↓wp_vB, ↓wp_vNil, ↓wp_vCons, ↓wp_vA, ↓wp_vAnd, ↓wp_vOr, ↓wp_vNot, ↓wp_vIfE, ↓wp_vSl, ↓wp_vML, ↓wp_vMD, ↓wp_vCallA, ↓wp_vLc, ↓wp_vDisp, ↓wp_vPs0, ↓wp_vPs1, ↓wp_kSub, ↓wp_kName, ↓wp_seq, ↓wp_next, ↓wp_sBreak, ↓wp_sCont, ↓wp_expr, ↓wp_ret, ↓wp_if, ↓wp_set, ↓wp_asg, ↓wp_par, ↓wp_par3, ↓wp_skill, ↓wp_sfor, ↓wp_vFn, mk, le_line, lt_line, cdiv_ok, tl_get, tl_get0, tl_set, tl_set0, ixt0, ixt1, ixt2, ixt3, ixt4, ixc0, ixc1, ixc2, ixc3, ixc4, ixl0, ixl1, ixl2, ixl3, ixl4]
    refine wp_draw DO f (by omega) (by omega) (by omega) ?_; intro r9 st zr9 yr9 ln f
    try simp -dsimp -implicitDefEqProofs [-ixD, -Int.toNat_natCast, ↓wp_bind, ↓wp_fl, ↓wp_ite, ↓wp_fite, ↓wp_v1, ↓wp_v2, ↓wp_vB, ↓wp_vNil, ↓wp_vCons, ↓wp_vA, ↓wp_vAnd, ↓wp_vOr, ↓wp_vNot, ↓wp_vIfE, ↓wp_vSl, ↓wp_vML, ↓wp_vMD, ↓wp_vCallA, ↓wp_vLc, ↓wp_vDisp, ↓wp_vPs0, ↓wp_vPs1, ↓wp_kSub, ↓wp_kName, ↓wp_seq, ↓wp_next, ↓wp_sBreak, ↓wp_sCont, ↓wp_expr, ↓wp_ret, ↓wp_if, ↓wp_set, ↓wp_asg, ↓wp_par, ↓wp_par3, ↓wp_skill, ↓wp_sfor, ↓wp_vFn, mk, le_line, lt_line, cdiv_ok, tl_get, tl_get0, tl_set, tl_set0, ixt0, ixt1, ixt2, ixt3, ixt4, ixc0, ixc1, ixc2, ixc3, ixc4, ixl0, ixl1, ixl2, ixl3, ixl4]
    refine wp_ixIL [0, 50, 100, r8] 4 rfl rfl (by omega) (by omega) ?_; intro u hu
    have gl : (st ++ (X ++ [pc, C.lst od]))[1 + (X.length + 1)]? = some (.lst od) := by
      rw [List.getElem?_append_right (by omega), ln]
      simp
    have sl : ∀ c, (st ++ (X ++ [pc, C.lst od])).set (1 + (X.length + 1)) c = st ++ (X ++ [pc, c]) := fun c => by
      rw [List.set_append_right _ _ (by omega), ln]
      simp
    try simp -dsimp -implicitDefEqProofs [-ixD, -Int.toNat_natCast, ↓wp_bind, ↓wp_fl, ↓wp_ite, ↓wp_fite, ↓wp_v1, ↓wp_v2, ↓wp_vB, ↓wp_vNil, ↓wp_vCons, ↓wp_vA, ↓wp_vAnd, ↓wp_vOr, ↓wp_vNot, ↓wp_vIfE, ↓wp_vSl, ↓wp_vML, ↓wp_vMD, ↓wp_vCallA, ↓wp_vLc, ↓wp_vDisp, ↓wp_vPs0, ↓wp_vPs1, ↓wp_kSub, ↓wp_kName, ↓wp_seq, ↓wp_next, ↓wp_sBreak, ↓wp_sCont, ↓wp_expr, ↓wp_ret, ↓wp_if, ↓wp_set, ↓wp_asg, ↓wp_par, ↓wp_par3, ↓wp_skill, ↓wp_sfor, ↓wp_vFn, mk, le_line, lt_line, cdiv_ok, tl_get, tl_get0, tl_set, tl_set0, ixt0, ixt1, ixt2, ixt3, ixt4, ixc0, ixc1, ixc2, ixc3, ixc4, ixl0, ixl1, ixl2, ixl3, ixl4, gl, sl, show od.length < 16000000 by omega]
    refine ⟨od ++ [_], st, by simp, rfl, rfl, f.mono (by simp; omega), by simp; omega, ?_⟩
    rw [pures_app2, op]
    simp [D.pures, D.pure, pures_strs]
  rintro env S ⟨od, st, e1, e4, e5, f, oc, op⟩
  subst e4
  subst e5
  have ln := f.ln
  have gl : (st ++ (X ++ [pc, C.lst od]))[1 + (X.length + 1)]? = some (.lst od) := by
    rw [List.getElem?_append_right (by omega), ln]
    simp
  try simp -dsimp -implicitDefEqProofs [-ixD, -Int.toNat_natCast, ↓wp_bind, ↓wp_fl, ↓wp_ite, ↓wp_fite, ↓wp_v1, ↓wp_v2, ↓wp_vB, ↓wp_vNil, ↓wp_vCons, ↓wp_vA, ↓wp_vAnd, ↓wp_vOr, ↓wp_vNot, ↓wp_vIfE, ↓wp_vSl, ↓wp_vML, ↓wp_vMD, ↓wp_vCallA, ↓wp_vLc, ↓wp_vDisp, ↓wp_vPs0, ↓wp_vPs1, ↓wp_kSub, ↓wp_kName, ↓wp_seq, ↓wp_next, ↓wp_sBreak, ↓wp_sCont, ↓wp_expr, ↓wp_ret, ↓wp_if, ↓wp_set, ↓wp_asg, ↓wp_par, ↓wp_par3, ↓wp_skill, ↓wp_sfor, ↓wp_vFn, mk, le_line, lt_line, cdiv_ok, tl_get, tl_get0, tl_set, tl_set0, ixt0, ixt1, ixt2, ixt3, ixt4, ixc0, ixc1, ixc2, ixc3, ixc4, ixl0, ixl1, ixl2, ixl3, ixl4, gl, show od.length ≤ 16000000 by omega]
  refine wp_draw DO f (by omega) (by omega) (by omega) ?_; intro r10 st zr10 yr10 ln f
  try simp -dsimp -implicitDefEqProofs [-ixD, -Int.toNat_natCast, ↓wp_bind, ↓wp_fl, ↓wp_ite, ↓wp_fite, ↓wp_v1, ↓wp_v2, ↓wp_vB, ↓wp_vNil, ↓wp_vCons, ↓wp_vA, ↓wp_vAnd, ↓wp_vOr, ↓wp_vNot, ↓wp_vIfE, ↓wp_vSl, ↓wp_vML, ↓wp_vMD, ↓wp_vCallA, ↓wp_vLc, ↓wp_vDisp, ↓wp_vPs0, ↓wp_vPs1, ↓wp_kSub, ↓wp_kName, ↓wp_seq, ↓wp_next, ↓wp_sBreak, ↓wp_sCont, ↓wp_expr, ↓wp_ret, ↓wp_if, ↓wp_set, ↓wp_asg, ↓wp_par, ↓wp_par3, ↓wp_skill, ↓wp_sfor, ↓wp_vFn, mk, le_line, lt_line, cdiv_ok, tl_get, tl_get0, tl_set, tl_set0, ixt0, ixt1, ixt2, ixt3, ixt4, ixc0, ixc1, ixc2, ixc3, ixc4, ixl0, ixl1, ixl2, ixl3, ixl4]
  refine wp_draw DO f (by omega) (by omega) (by omega) ?_; intro r11 st zr11 yr11 ln f
  try simp -dsimp -implicitDefEqProofs [-ixD, -Int.toNat_natCast, ↓wp_bind, ↓wp_fl, ↓wp_ite, ↓wp_fite, ↓wp_v1, ↓wp_v2, ↓wp_vB, ↓wp_vNil, ↓wp_vCons, ↓wp_vA, ↓wp_vAnd, ↓wp_vOr, ↓wp_vNot, ↓wp_vIfE, ↓wp_vSl, ↓wp_vML, ↓wp_vMD, ↓wp_vCallA, ↓wp_vLc, ↓wp_vDisp, ↓wp_vPs0, ↓wp_vPs1, ↓wp_kSub, ↓wp_kName, ↓wp_seq, ↓wp_next, ↓wp_sBreak, ↓wp_sCont, ↓wp_expr, ↓wp_ret, ↓wp_if, ↓wp_set, ↓wp_asg, ↓wp_par, ↓wp_par3, ↓wp_skill, ↓wp_sfor, ↓wp_vFn, mk, le_line, lt_line, cdiv_ok, tl_get, tl_get0, tl_set, tl_set0, ixt0, ixt1, ixt2, ixt3, ixt4, ixc0, ixc1, ixc2, ixc3, ixc4, ixl0, ixl1, ixl2, ixl3, ixl4]
  have rp := rows_pure ms
  have e7 : (D.tup (ms.map eRow)) = eMenu ms := rfl
  have pu : (D.tup [D.tup (ms.map eRow), .tup od, .int r10, .int (1 + r11)]).pure = true := by simp only [D.pure, D.pures, rp, op]; rfl
  refine wp_retT f0 f pu ?_
  exact ⟨ms, .tup od, r10, 1 + r11, st, rfl, rfl, by omega, by omega, mi, ln, f.mono (by omega)⟩
end
end TG
set_option Elab.async false
set_option linter.all false
set_option maxRecDepth 100000
set_option maxHeartbeats 4000000
/-! Deeds and pages that the laws of names draw. -/
namespace TG
open PySem VL G Kd W9 W26 WG TB
def DdT (its A B : List Str) : Dd → Prop
  | .sit s t => s ∈ A ∧ t ∈ B
  | .move s t => s ∈ A ∧ t ∈ B
  | .join t o => t ∈ B ∧ o ∈ B
  | .go s => s ∈ A
  | .ask n it c ss => (0 ≤ n ∧ n ≤ 100) ∧ it ∈ its ∧ (0 ≤ c ∧ c ≤ 2) ∧ ss.length ≤ 4 ∧ ∀ s ∈ ss, s ∈ A
  | .change n it => (0 ≤ n ∧ n ≤ 100) ∧ it ∈ its
  | .fire t c => t ∈ B ∧ 0 ≤ c ∧ c ≤ 2
  | .rush t c => t ∈ B ∧ 0 ≤ c ∧ c ≤ 2
  | .serve n => 0 ≤ n ∧ n ≤ 100
  | .back n => 0 ≤ n ∧ n ≤ 100
  | .strike n => 0 ≤ n ∧ n ≤ 100
  | .pay s p => s ∈ A ∧ 1 ≤ p ∧ p ≤ 3000
  | .take s o p => s ∈ A ∧ o ∈ A ∧ 1 ≤ p ∧ p ≤ 3000
  | .even ss => ss.length ≤ 4 ∧ ∀ s ∈ ss, s ∈ A
section
variable {ns : List Int} {n n0 : Nat} {st st0 X Y : AS} {m : Int} {d : D} {Q : D → AS → Prop} {E : XQ} {its A B : List Str}
theorem wp_ixB {ws : List Str} {r : Int} (h0 : -1 ≤ r) (h1 : r < ws.length) (hw : 0 < ws.length) (h : ∀ w ∈ ws, Q (.str w) st) : (ixD (.lst (ws.map D.str)) (.int r) st).wp Q E := by
  by_cases z : 0 ≤ r
  · exact wp_ixS z h1 h
  · have e : r = -1 := by omega
    subst e
    have ne : ws ≠ [] := List.length_pos_iff.mp hw
    have e1 : L2.atI (ws.map D.str) (-1) = some (.str (ws.getLast ne)) := by
      rw [VL.atI_last (by simpa using ne), List.getLast?_map, List.getLast?_eq_some_getLast ne]
      rfl
    have : ixD (.lst (ws.map D.str)) (.int (-1)) st = .ok (.str (ws.getLast ne)) st := by
      generalize ws.map D.str = wd at *
      simp [e1]
    exact wp_of this (h _ (List.getLast_mem ne))
theorem wp_ddeed (f : Fg ns n st) (hn : n < 700000) (hi : 0 < its.length) (hi2 : its.length ≤ 30) {as_ : Int} (a0 : 0 ≤ as_) (a1 : as_ ≤ 100) (h : ∀ dd st1, DdT its A B dd → st1.length = 1 → Fg ns (n + 10) st1 → Q (eDd dd) (st1 ++ X)) :
    (F__law_dish_deed_b8d1 [.ref 0, .lst (its.map D.str), .int as_] (st ++ X)).wp Q E := by
  have f0 := f
  have l0 := f.ln
  have ln := f.ln
  have DO : True := trivial
  unfold F__law_dish_deed_b8d1
  rw [wp_vFn]; simp only [List.map_cons, List.map_nil, List.length_cons, List.length_nil, Nat.reduceAdd, Nat.reduceSub, List.replicate_succ, List.replicate_zero, List.cons_append, List.nil_append]
  unfold B__law_dish_deed_b8d1
  try simp -dsimp -implicitDefEqProofs [-ixD, -Int.toNat_natCast, ↓wp_bind, ↓wp_fl, ↓wp_ite, ↓wp_fite, ↓wp_v1, ↓wp_v2, ↓wp_vB, ↓wp_vNil, ↓wp_vCons, ↓wp_vA, ↓wp_vAnd, ↓wp_vOr, ↓wp_vNot, ↓wp_vIfE, ↓wp_vSl, ↓wp_vML, ↓wp_vMD, ↓wp_vCallA, ↓wp_vLc, ↓wp_vDisp, ↓wp_vPs0, ↓wp_vPs1, ↓wp_kSub, ↓wp_kName, ↓wp_seq, ↓wp_next, ↓wp_sBreak, ↓wp_sCont, ↓wp_expr, ↓wp_ret, ↓wp_if, ↓wp_set, ↓wp_asg, ↓wp_par, ↓wp_par3, ↓wp_skill, ↓wp_sfor, ↓wp_vFn, mk, le_line, lt_line, cdiv_ok, tl_get, tl_get0, tl_set, tl_set0, ixt0, ixt1, ixt2, ixt3, ixt4, ixc0, ixc1, ixc2, ixc3, ixc4, ixl0, ixl1, ixl2, ixl3, ixl4]
  refine wp_draw DO f (by omega) (by omega) (by omega) ?_; intro r1 st zr1 yr1 ln f
  try simp -dsimp -implicitDefEqProofs [-ixD, -Int.toNat_natCast, ↓wp_bind, ↓wp_fl, ↓wp_ite, ↓wp_fite, ↓wp_v1, ↓wp_v2, ↓wp_vB, ↓wp_vNil, ↓wp_vCons, ↓wp_vA, ↓wp_vAnd, ↓wp_vOr, ↓wp_vNot, ↓wp_vIfE, ↓wp_vSl, ↓wp_vML, ↓wp_vMD, ↓wp_vCallA, ↓wp_vLc, ↓wp_vDisp, ↓wp_vPs0, ↓wp_vPs1, ↓wp_kSub, ↓wp_kName, ↓wp_seq, ↓wp_next, ↓wp_sBreak, ↓wp_sCont, ↓wp_expr, ↓wp_ret, ↓wp_if, ↓wp_set, ↓wp_asg, ↓wp_par, ↓wp_par3, ↓wp_skill, ↓wp_sfor, ↓wp_vFn, mk, le_line, lt_line, cdiv_ok, tl_get, tl_get0, tl_set, tl_set0, ixt0, ixt1, ixt2, ixt3, ixt4, ixc0, ixc1, ixc2, ixc3, ixc4, ixl0, ixl1, ixl2, ixl3, ixl4]
  refine wp_draw DO f (by omega) (by omega) (by omega) ?_; intro r2 st zr2 yr2 ln f
  try simp -dsimp -implicitDefEqProofs [-ixD, -Int.toNat_natCast, -vIfE, ↓wp_bind, ↓wp_fl, ↓wp_ite, ↓wp_fite, ↓wp_v1, ↓wp_v2, ↓wp_vB, ↓wp_vNil, ↓wp_vCons, ↓wp_vA, ↓wp_vAnd, ↓wp_vOr, ↓wp_vNot, ↓wp_vSl, ↓wp_vML, ↓wp_vMD, ↓wp_vCallA, ↓wp_vLc, ↓wp_vDisp, ↓wp_vPs0, ↓wp_vPs1, ↓wp_kSub, ↓wp_kName, ↓wp_seq, ↓wp_next, ↓wp_sBreak, ↓wp_sCont, ↓wp_expr, ↓wp_ret, ↓wp_if, ↓wp_set, ↓wp_asg, ↓wp_par, ↓wp_par3, ↓wp_skill, ↓wp_sfor, ↓wp_vFn, mk, le_line, lt_line, cdiv_ok, tl_get, tl_get0, tl_set, tl_set0, ixt0, ixt1, ixt2, ixt3, ixt4, ixc0, ixc1, ixc2, ixc3, ixc4, ixl0, ixl1, ixl2, ixl3, ixl4]
  refine wp_ixSL (["serve", "serve", "back", "strike", "change"].map Str.ofString) 5 rfl rfl (by omega) (by omega) ?_
  intro w hw
  try simp -dsimp -implicitDefEqProofs [-ixD, -Int.toNat_natCast, -vIfE, ↓wp_bind, ↓wp_fl, ↓wp_ite, ↓wp_fite, ↓wp_v1, ↓wp_v2, ↓wp_vB, ↓wp_vNil, ↓wp_vCons, ↓wp_vA, ↓wp_vAnd, ↓wp_vOr, ↓wp_vNot, ↓wp_vSl, ↓wp_vML, ↓wp_vMD, ↓wp_vCallA, ↓wp_vLc, ↓wp_vDisp, ↓wp_vPs0, ↓wp_vPs1, ↓wp_kSub, ↓wp_kName, ↓wp_seq, ↓wp_next, ↓wp_sBreak, ↓wp_sCont, ↓wp_expr, ↓wp_ret, ↓wp_if, ↓wp_set, ↓wp_asg, ↓wp_par, ↓wp_par3, ↓wp_skill, ↓wp_sfor, ↓wp_vFn, mk, le_line, lt_line, cdiv_ok, tl_get, tl_get0, tl_set, tl_set0, ixt0, ixt1, ixt2, ixt3, ixt4, ixc0, ixc1, ixc2, ixc3, ixc4, ixl0, ixl1, ixl2, ixl3, ixl4]
  refine wp_cut (fun d s => Hold (∃ (dd : Dd) (st1 : AS), d = eDd dd ∧ s = st1 ++ X ∧ DdT its A B dd ∧ st1.length = 1 ∧ Fg ns (n + 10) st1)) ?_ ?_
  · simp only [List.map_cons, List.map_nil, List.mem_cons, List.not_mem_nil, or_false] at hw
    have r9 : 0 ≤ r1 ∧ r1 ≤ 100 := by omega
    rcases hw with rfl | rfl | rfl | rfl | rfl
    · try simp -dsimp -implicitDefEqProofs [-ixD, -Int.toNat_natCast, ↓wp_bind, ↓wp_fl, ↓wp_ite, ↓wp_fite, ↓wp_v1, ↓wp_v2, ↓wp_vB, ↓wp_vNil, ↓wp_vCons, ↓wp_vA, ↓wp_vAnd, ↓wp_vOr, ↓wp_vNot, ↓wp_vIfE, ↓wp_vSl, ↓wp_vML, ↓wp_vMD, ↓wp_vCallA, ↓wp_vLc, ↓wp_vDisp, ↓wp_vPs0, ↓wp_vPs1, ↓wp_kSub, ↓wp_kName, ↓wp_seq, ↓wp_next, ↓wp_sBreak, ↓wp_sCont, ↓wp_expr, ↓wp_ret, ↓wp_if, ↓wp_set, ↓wp_asg, ↓wp_par, ↓wp_par3, ↓wp_skill, ↓wp_sfor, ↓wp_vFn, mk, le_line, lt_line, cdiv_ok, tl_get, tl_get0, tl_set, tl_set0, ixt0, ixt1, ixt2, ixt3, ixt4, ixc0, ixc1, ixc2, ixc3, ixc4, ixl0, ixl1, ixl2, ixl3, ixl4, ofs_inj]
      exact ⟨.serve r1, st, rfl, rfl, r9, ln, f.mono (by omega)⟩
    · try simp -dsimp -implicitDefEqProofs [-ixD, -Int.toNat_natCast, ↓wp_bind, ↓wp_fl, ↓wp_ite, ↓wp_fite, ↓wp_v1, ↓wp_v2, ↓wp_vB, ↓wp_vNil, ↓wp_vCons, ↓wp_vA, ↓wp_vAnd, ↓wp_vOr, ↓wp_vNot, ↓wp_vIfE, ↓wp_vSl, ↓wp_vML, ↓wp_vMD, ↓wp_vCallA, ↓wp_vLc, ↓wp_vDisp, ↓wp_vPs0, ↓wp_vPs1, ↓wp_kSub, ↓wp_kName, ↓wp_seq, ↓wp_next, ↓wp_sBreak, ↓wp_sCont, ↓wp_expr, ↓wp_ret, ↓wp_if, ↓wp_set, ↓wp_asg, ↓wp_par, ↓wp_par3, ↓wp_skill, ↓wp_sfor, ↓wp_vFn, mk, le_line, lt_line, cdiv_ok, tl_get, tl_get0, tl_set, tl_set0, ixt0, ixt1, ixt2, ixt3, ixt4, ixc0, ixc1, ixc2, ixc3, ixc4, ixl0, ixl1, ixl2, ixl3, ixl4, ofs_inj]
      exact ⟨.serve r1, st, rfl, rfl, r9, ln, f.mono (by omega)⟩
    · try simp -dsimp -implicitDefEqProofs [-ixD, -Int.toNat_natCast, ↓wp_bind, ↓wp_fl, ↓wp_ite, ↓wp_fite, ↓wp_v1, ↓wp_v2, ↓wp_vB, ↓wp_vNil, ↓wp_vCons, ↓wp_vA, ↓wp_vAnd, ↓wp_vOr, ↓wp_vNot, ↓wp_vIfE, ↓wp_vSl, ↓wp_vML, ↓wp_vMD, ↓wp_vCallA, ↓wp_vLc, ↓wp_vDisp, ↓wp_vPs0, ↓wp_vPs1, ↓wp_kSub, ↓wp_kName, ↓wp_seq, ↓wp_next, ↓wp_sBreak, ↓wp_sCont, ↓wp_expr, ↓wp_ret, ↓wp_if, ↓wp_set, ↓wp_asg, ↓wp_par, ↓wp_par3, ↓wp_skill, ↓wp_sfor, ↓wp_vFn, mk, le_line, lt_line, cdiv_ok, tl_get, tl_get0, tl_set, tl_set0, ixt0, ixt1, ixt2, ixt3, ixt4, ixc0, ixc1, ixc2, ixc3, ixc4, ixl0, ixl1, ixl2, ixl3, ixl4, ofs_inj]
      exact ⟨.back r1, st, rfl, rfl, r9, ln, f.mono (by omega)⟩
    · try simp -dsimp -implicitDefEqProofs [-ixD, -Int.toNat_natCast, ↓wp_bind, ↓wp_fl, ↓wp_ite, ↓wp_fite, ↓wp_v1, ↓wp_v2, ↓wp_vB, ↓wp_vNil, ↓wp_vCons, ↓wp_vA, ↓wp_vAnd, ↓wp_vOr, ↓wp_vNot, ↓wp_vIfE, ↓wp_vSl, ↓wp_vML, ↓wp_vMD, ↓wp_vCallA, ↓wp_vLc, ↓wp_vDisp, ↓wp_vPs0, ↓wp_vPs1, ↓wp_kSub, ↓wp_kName, ↓wp_seq, ↓wp_next, ↓wp_sBreak, ↓wp_sCont, ↓wp_expr, ↓wp_ret, ↓wp_if, ↓wp_set, ↓wp_asg, ↓wp_par, ↓wp_par3, ↓wp_skill, ↓wp_sfor, ↓wp_vFn, mk, le_line, lt_line, cdiv_ok, tl_get, tl_get0, tl_set, tl_set0, ixt0, ixt1, ixt2, ixt3, ixt4, ixc0, ixc1, ixc2, ixc3, ixc4, ixl0, ixl1, ixl2, ixl3, ixl4, ofs_inj]
      exact ⟨.strike r1, st, rfl, rfl, r9, ln, f.mono (by omega)⟩
    · try simp -dsimp -implicitDefEqProofs [-ixD, -Int.toNat_natCast, ↓wp_bind, ↓wp_fl, ↓wp_ite, ↓wp_fite, ↓wp_v1, ↓wp_v2, ↓wp_vB, ↓wp_vNil, ↓wp_vCons, ↓wp_vA, ↓wp_vAnd, ↓wp_vOr, ↓wp_vNot, ↓wp_vIfE, ↓wp_vSl, ↓wp_vML, ↓wp_vMD, ↓wp_vCallA, ↓wp_vLc, ↓wp_vDisp, ↓wp_vPs0, ↓wp_vPs1, ↓wp_kSub, ↓wp_kName, ↓wp_seq, ↓wp_next, ↓wp_sBreak, ↓wp_sCont, ↓wp_expr, ↓wp_ret, ↓wp_if, ↓wp_set, ↓wp_asg, ↓wp_par, ↓wp_par3, ↓wp_skill, ↓wp_sfor, ↓wp_vFn, mk, le_line, lt_line, cdiv_ok, tl_get, tl_get0, tl_set, tl_set0, ixt0, ixt1, ixt2, ixt3, ixt4, ixc0, ixc1, ixc2, ixc3, ixc4, ixl0, ixl1, ixl2, ixl3, ixl4, ofs_inj, show its.length ≤ 16000000 by omega]
      refine wp_draw DO f (by omega) (by omega) (by omega) ?_; intro r3 st zr3 yr3 ln f
      try simp -dsimp -implicitDefEqProofs [-ixD, -Int.toNat_natCast, ↓wp_bind, ↓wp_fl, ↓wp_ite, ↓wp_fite, ↓wp_v1, ↓wp_v2, ↓wp_vB, ↓wp_vNil, ↓wp_vCons, ↓wp_vA, ↓wp_vAnd, ↓wp_vOr, ↓wp_vNot, ↓wp_vIfE, ↓wp_vSl, ↓wp_vML, ↓wp_vMD, ↓wp_vCallA, ↓wp_vLc, ↓wp_vDisp, ↓wp_vPs0, ↓wp_vPs1, ↓wp_kSub, ↓wp_kName, ↓wp_seq, ↓wp_next, ↓wp_sBreak, ↓wp_sCont, ↓wp_expr, ↓wp_ret, ↓wp_if, ↓wp_set, ↓wp_asg, ↓wp_par, ↓wp_par3, ↓wp_skill, ↓wp_sfor, ↓wp_vFn, mk, le_line, lt_line, cdiv_ok, tl_get, tl_get0, tl_set, tl_set0, ixt0, ixt1, ixt2, ixt3, ixt4, ixc0, ixc1, ixc2, ixc3, ixc4, ixl0, ixl1, ixl2, ixl3, ixl4]
      refine wp_ixS (by omega) (by omega) ?_
      intro w hw
      try simp -dsimp -implicitDefEqProofs [-ixD, -Int.toNat_natCast, ↓wp_bind, ↓wp_fl, ↓wp_ite, ↓wp_fite, ↓wp_v1, ↓wp_v2, ↓wp_vB, ↓wp_vNil, ↓wp_vCons, ↓wp_vA, ↓wp_vAnd, ↓wp_vOr, ↓wp_vNot, ↓wp_vIfE, ↓wp_vSl, ↓wp_vML, ↓wp_vMD, ↓wp_vCallA, ↓wp_vLc, ↓wp_vDisp, ↓wp_vPs0, ↓wp_vPs1, ↓wp_kSub, ↓wp_kName, ↓wp_seq, ↓wp_next, ↓wp_sBreak, ↓wp_sCont, ↓wp_expr, ↓wp_ret, ↓wp_if, ↓wp_set, ↓wp_asg, ↓wp_par, ↓wp_par3, ↓wp_skill, ↓wp_sfor, ↓wp_vFn, mk, le_line, lt_line, cdiv_ok, tl_get, tl_get0, tl_set, tl_set0, ixt0, ixt1, ixt2, ixt3, ixt4, ixc0, ixc1, ixc2, ixc3, ixc4, ixl0, ixl1, ixl2, ixl3, ixl4]
      exact ⟨.change r1 w, st, rfl, rfl, ⟨r9, hw⟩, ln, f.mono (by omega)⟩
  rintro d S ⟨dd, st1, rfl, rfl, ok, ln1, f1⟩
  rw [ret_len (by simp [ln1, l0]), wp_ok]
  exact h dd st1 ok ln1 f1
theorem f_ddeed (f : Fg ns n st) (hn : n < 700000) (hi : 0 < its.length) (hi2 : its.length ≤ 30) {as_ : Int} (a0 : 0 ≤ as_) (a1 : as_ ≤ 100) : ∃ (dd : Dd) (st1 : AS), F__law_dish_deed_b8d1 [.ref 0, .lst (its.map D.str), .int as_] (st ++ X) = .ok (eDd dd) (st1 ++ X) ∧ DdT its A B dd ∧ st1.length = 1 ∧ Fg ns (n + 10) st1 := by
  have w : (F__law_dish_deed_b8d1 [.ref 0, .lst (its.map D.str), .int as_] (st ++ X)).wp (fun d S => Hold (∃ (dd : Dd) (st1 : AS), d = eDd dd ∧ S = st1 ++ X ∧ DdT its A B dd ∧ st1.length = 1 ∧ Fg ns (n + 10) st1)) noX := by
    refine wp_ddeed (A := A) (B := B) f hn hi hi2 a0 a1 ?_
    intro dd st1 h1 h2 h3
    exact ⟨dd, st1, rfl, rfl, h1, h2, h3⟩
  obtain ⟨d, S, e, dd, st1, rfl, rfl, h⟩ := w.eq
  exact ⟨dd, st1, e, h⟩
theorem f_deed (f : Fg ns n st) (hn : n < 600000) (hi : 0 < its.length) (hi2 : its.length ≤ 30) {as_ : Int} (a0 : 0 ≤ as_) (a1 : as_ ≤ 90) (hA : 0 < A.length) (hA2 : A.length ≤ 4) (hB : 0 < B.length) (hB2 : B.length ≤ 4) :
    ∃ (dd : Dd) (st1 : AS), F__law_deed_0add [.ref 0, .lst (its.map D.str), .tup [.lst (A.map D.str), .lst (B.map D.str)], .int as_] (st ++ X) = .ok (eDd dd) (st1 ++ X) ∧ DdT its A B dd ∧ st1.length = 1 ∧ Fg ns (n + 40) st1 := by
  obtain ⟨st0, hst0⟩ : ∃ st0, st0 = st := ⟨_, rfl⟩
  suffices w : (F__law_deed_0add [.ref 0, .lst (its.map D.str), .tup [.lst (A.map D.str), .lst (B.map D.str)], .int as_] (st ++ X)).wp (fun d S => Hold (∃ (dd : Dd) (st1 : AS), d = eDd dd ∧ S = st1 ++ X ∧ DdT its A B dd ∧ st1.length = 1 ∧ Fg ns (n + 40) st1)) noX by
    obtain ⟨d, S, e, dd, st1, rfl, rfl, h⟩ := w.eq
    exact ⟨dd, st1, e, h⟩
  have f0 := f
  have l0 : st0.length = 1 := by rw [hst0]; exact f.ln
  have ln := f.ln
  have DO : True := trivial
  unfold F__law_deed_0add
  rw [← hst0]
  rw [← hst0] at f ln
  rw [wp_vFn]; simp only [List.map_cons, List.map_nil, List.length_cons, List.length_nil, Nat.reduceAdd, Nat.reduceSub, List.replicate_succ, List.replicate_zero, List.cons_append, List.nil_append]
  unfold B__law_deed_0add
  try simp -dsimp -implicitDefEqProofs [-ixD, -Int.toNat_natCast, ↓wp_bind, ↓wp_fl, ↓wp_ite, ↓wp_fite, ↓wp_v1, ↓wp_v2, ↓wp_vB, ↓wp_vNil, ↓wp_vCons, ↓wp_vA, ↓wp_vAnd, ↓wp_vOr, ↓wp_vNot, ↓wp_vIfE, ↓wp_vSl, ↓wp_vML, ↓wp_vMD, ↓wp_vCallA, ↓wp_vLc, ↓wp_vDisp, ↓wp_vPs0, ↓wp_vPs1, ↓wp_kSub, ↓wp_kName, ↓wp_seq, ↓wp_next, ↓wp_sBreak, ↓wp_sCont, ↓wp_expr, ↓wp_ret, ↓wp_if, ↓wp_set, ↓wp_asg, ↓wp_par, ↓wp_par3, ↓wp_skill, ↓wp_sfor, ↓wp_vFn, mk, le_line, lt_line, cdiv_ok, tl_get, tl_get0, tl_set, tl_set0, ixt0, ixt1, ixt2, ixt3, ixt4, ixc0, ixc1, ixc2, ixc3, ixc4, ixl0, ixl1, ixl2, ixl3, ixl4, show A.length ≤ 16000000 by omega, show B.length ≤ 16000000 by omega]
  refine wp_draw DO f (by omega) (by omega) (by omega) ?_; intro ra st zra yra ln f
  try simp -dsimp -implicitDefEqProofs [-ixD, -Int.toNat_natCast, ↓wp_bind, ↓wp_fl, ↓wp_ite, ↓wp_fite, ↓wp_v1, ↓wp_v2, ↓wp_vB, ↓wp_vNil, ↓wp_vCons, ↓wp_vA, ↓wp_vAnd, ↓wp_vOr, ↓wp_vNot, ↓wp_vIfE, ↓wp_vSl, ↓wp_vML, ↓wp_vMD, ↓wp_vCallA, ↓wp_vLc, ↓wp_vDisp, ↓wp_vPs0, ↓wp_vPs1, ↓wp_kSub, ↓wp_kName, ↓wp_seq, ↓wp_next, ↓wp_sBreak, ↓wp_sCont, ↓wp_expr, ↓wp_ret, ↓wp_if, ↓wp_set, ↓wp_asg, ↓wp_par, ↓wp_par3, ↓wp_skill, ↓wp_sfor, ↓wp_vFn, mk, le_line, lt_line, cdiv_ok, tl_get, tl_get0, tl_set, tl_set0, ixt0, ixt1, ixt2, ixt3, ixt4, ixc0, ixc1, ixc2, ixc3, ixc4, ixl0, ixl1, ixl2, ixl3, ixl4, show A.length ≤ 16000000 by omega, show B.length ≤ 16000000 by omega]
  refine wp_draw DO f (by omega) (by omega) (by omega) ?_; intro rt st zrt yrt ln f
  try simp -dsimp -implicitDefEqProofs [-ixD, -Int.toNat_natCast, ↓wp_bind, ↓wp_fl, ↓wp_ite, ↓wp_fite, ↓wp_v1, ↓wp_v2, ↓wp_vB, ↓wp_vNil, ↓wp_vCons, ↓wp_vA, ↓wp_vAnd, ↓wp_vOr, ↓wp_vNot, ↓wp_vIfE, ↓wp_vSl, ↓wp_vML, ↓wp_vMD, ↓wp_vCallA, ↓wp_vLc, ↓wp_vDisp, ↓wp_vPs0, ↓wp_vPs1, ↓wp_kSub, ↓wp_kName, ↓wp_seq, ↓wp_next, ↓wp_sBreak, ↓wp_sCont, ↓wp_expr, ↓wp_ret, ↓wp_if, ↓wp_set, ↓wp_asg, ↓wp_par, ↓wp_par3, ↓wp_skill, ↓wp_sfor, ↓wp_vFn, mk, le_line, lt_line, cdiv_ok, tl_get, tl_get0, tl_set, tl_set0, ixt0, ixt1, ixt2, ixt3, ixt4, ixc0, ixc1, ixc2, ixc3, ixc4, ixl0, ixl1, ixl2, ixl3, ixl4]
  refine wp_ixS (by omega) (by omega) ?_
  intro seat hs
  try simp -dsimp -implicitDefEqProofs [-ixD, -Int.toNat_natCast, ↓wp_bind, ↓wp_fl, ↓wp_ite, ↓wp_fite, ↓wp_v1, ↓wp_v2, ↓wp_vB, ↓wp_vNil, ↓wp_vCons, ↓wp_vA, ↓wp_vAnd, ↓wp_vOr, ↓wp_vNot, ↓wp_vIfE, ↓wp_vSl, ↓wp_vML, ↓wp_vMD, ↓wp_vCallA, ↓wp_vLc, ↓wp_vDisp, ↓wp_vPs0, ↓wp_vPs1, ↓wp_kSub, ↓wp_kName, ↓wp_seq, ↓wp_next, ↓wp_sBreak, ↓wp_sCont, ↓wp_expr, ↓wp_ret, ↓wp_if, ↓wp_set, ↓wp_asg, ↓wp_par, ↓wp_par3, ↓wp_skill, ↓wp_sfor, ↓wp_vFn, mk, le_line, lt_line, cdiv_ok, tl_get, tl_get0, tl_set, tl_set0, ixt0, ixt1, ixt2, ixt3, ixt4, ixc0, ixc1, ixc2, ixc3, ixc4, ixl0, ixl1, ixl2, ixl3, ixl4]
  refine wp_ixB (by omega) (by omega) hA ?_
  intro other ho
  try simp -dsimp -implicitDefEqProofs [-ixD, -Int.toNat_natCast, ↓wp_bind, ↓wp_fl, ↓wp_ite, ↓wp_fite, ↓wp_v1, ↓wp_v2, ↓wp_vB, ↓wp_vNil, ↓wp_vCons, ↓wp_vA, ↓wp_vAnd, ↓wp_vOr, ↓wp_vNot, ↓wp_vIfE, ↓wp_vSl, ↓wp_vML, ↓wp_vMD, ↓wp_vCallA, ↓wp_vLc, ↓wp_vDisp, ↓wp_vPs0, ↓wp_vPs1, ↓wp_kSub, ↓wp_kName, ↓wp_seq, ↓wp_next, ↓wp_sBreak, ↓wp_sCont, ↓wp_expr, ↓wp_ret, ↓wp_if, ↓wp_set, ↓wp_asg, ↓wp_par, ↓wp_par3, ↓wp_skill, ↓wp_sfor, ↓wp_vFn, mk, le_line, lt_line, cdiv_ok, tl_get, tl_get0, tl_set, tl_set0, ixt0, ixt1, ixt2, ixt3, ixt4, ixc0, ixc1, ixc2, ixc3, ixc4, ixl0, ixl1, ixl2, ixl3, ixl4]
  refine wp_ixS (by omega) (by omega) ?_
  intro table ht
  try simp -dsimp -implicitDefEqProofs [-ixD, -Int.toNat_natCast, ↓wp_bind, ↓wp_fl, ↓wp_ite, ↓wp_fite, ↓wp_v1, ↓wp_v2, ↓wp_vB, ↓wp_vNil, ↓wp_vCons, ↓wp_vA, ↓wp_vAnd, ↓wp_vOr, ↓wp_vNot, ↓wp_vIfE, ↓wp_vSl, ↓wp_vML, ↓wp_vMD, ↓wp_vCallA, ↓wp_vLc, ↓wp_vDisp, ↓wp_vPs0, ↓wp_vPs1, ↓wp_kSub, ↓wp_kName, ↓wp_seq, ↓wp_next, ↓wp_sBreak, ↓wp_sCont, ↓wp_expr, ↓wp_ret, ↓wp_if, ↓wp_set, ↓wp_asg, ↓wp_par, ↓wp_par3, ↓wp_skill, ↓wp_sfor, ↓wp_vFn, mk, le_line, lt_line, cdiv_ok, tl_get, tl_get0, tl_set, tl_set0, ixt0, ixt1, ixt2, ixt3, ixt4, ixc0, ixc1, ixc2, ixc3, ixc4, ixl0, ixl1, ixl2, ixl3, ixl4]
  refine wp_draw DO f (by omega) (by omega) (by omega) ?_; intro way st zway yway ln f
  try simp -dsimp -implicitDefEqProofs [-ixD, -Int.toNat_natCast, ↓wp_bind, ↓wp_fl, ↓wp_ite, ↓wp_fite, ↓wp_v1, ↓wp_v2, ↓wp_vB, ↓wp_vNil, ↓wp_vCons, ↓wp_vA, ↓wp_vAnd, ↓wp_vOr, ↓wp_vNot, ↓wp_vIfE, ↓wp_vSl, ↓wp_vML, ↓wp_vMD, ↓wp_vCallA, ↓wp_vLc, ↓wp_vDisp, ↓wp_vPs0, ↓wp_vPs1, ↓wp_kSub, ↓wp_kName, ↓wp_seq, ↓wp_next, ↓wp_sBreak, ↓wp_sCont, ↓wp_expr, ↓wp_ret, ↓wp_if, ↓wp_set, ↓wp_asg, ↓wp_par, ↓wp_par3, ↓wp_skill, ↓wp_sfor, ↓wp_vFn, mk, le_line, lt_line, cdiv_ok, tl_get, tl_get0, tl_set, tl_set0, ixt0, ixt1, ixt2, ixt3, ixt4, ixc0, ixc1, ixc2, ixc3, ixc4, ixl0, ixl1, ixl2, ixl3, ixl4, show A.length ≤ 16000000 by omega]
  refine wp_comp0 (fun ds acc S => Hold (∃ (ws2 ys : List Str) (st : AS), ds = ws2.map D.str ∧ acc = ys.map D.str ∧ ys.length + ws2.length ≤ 4 ∧ (∀ s ∈ ys, s ∈ A) ∧ (∀ s ∈ ws2, s ∈ A) ∧ S = st ++ X ∧ Fg ns (n + 10 - ws2.length) st)) ?_ ?_ ?_
  · exact ⟨A, [], st, rfl, rfl, by simp; omega, by simp, fun s h => h, rfl, f.mono (by omega)⟩
  · rintro d ds acc S ⟨ws2, ys, st, e1, e3, yl, ya, wa, e4, f⟩
    subst e3
    subst e4
    obtain ⟨w, ws3, rfl, rfl, rfl⟩ : ∃ w ws3, ws2 = w :: ws3 ∧ d = .str w ∧ ds = ws3.map D.str := by
      cases ws2 with
      | nil => cases e1
      | cons w ws3 => injection e1 with h1 h2; exact ⟨w, ws3, rfl, h1, h2⟩
    simp only [List.length_cons] at f yl
    have wA := wa w List.mem_cons_self
    have wa3 : ∀ s ∈ ws3, s ∈ A := fun s h => wa s (List.mem_cons_of_mem _ h)
    have yy : ∀ s ∈ ys ++ [w], s ∈ A := fun s h => by
      rcases List.mem_append.mp h with h | h
      · exact ya s h
      · rw [List.mem_singleton.mp h]; exact wA
    try simp -dsimp -implicitDefEqProofs [-ixD, -Int.toNat_natCast, ↓wp_bind, ↓wp_fl, ↓wp_ite, ↓wp_fite, ↓wp_v1, ↓wp_v2, ↓wp_vB, ↓wp_vNil, ↓wp_vCons, ↓wp_vA, ↓wp_vAnd, ↓wp_vOr, ↓wp_vNot, ↓wp_vIfE, ↓wp_vSl, ↓wp_vML, ↓wp_vMD, ↓wp_vCallA, ↓wp_vLc, ↓wp_vDisp, ↓wp_vPs0, ↓wp_vPs1, ↓wp_kSub, ↓wp_kName, ↓wp_seq, ↓wp_next, ↓wp_sBreak, ↓wp_sCont, ↓wp_expr, ↓wp_ret, ↓wp_if, ↓wp_set, ↓wp_asg, ↓wp_par, ↓wp_par3, ↓wp_skill, ↓wp_sfor, ↓wp_vFn, mk, le_line, lt_line, cdiv_ok, tl_get, tl_get0, tl_set, tl_set0, ixt0, ixt1, ixt2, ixt3, ixt4, ixc0, ixc1, ixc2, ixc3, ixc4, ixl0, ixl1, ixl2, ixl3, ixl4]
    refine ⟨fun _ => ⟨ws3, ys ++ [w], st, rfl, by simp, by simp; omega, yy, wa3, rfl, f.mono (by omega)⟩, fun _ => ?_⟩
    refine wp_draw DO f (by omega) (by omega) (by omega) ?_; intro r4 st zr4 yr4 ln f
    try simp -dsimp -implicitDefEqProofs [-ixD, -Int.toNat_natCast, ↓wp_bind, ↓wp_fl, ↓wp_ite, ↓wp_fite, ↓wp_v1, ↓wp_v2, ↓wp_vB, ↓wp_vNil, ↓wp_vCons, ↓wp_vA, ↓wp_vAnd, ↓wp_vOr, ↓wp_vNot, ↓wp_vIfE, ↓wp_vSl, ↓wp_vML, ↓wp_vMD, ↓wp_vCallA, ↓wp_vLc, ↓wp_vDisp, ↓wp_vPs0, ↓wp_vPs1, ↓wp_kSub, ↓wp_kName, ↓wp_seq, ↓wp_next, ↓wp_sBreak, ↓wp_sCont, ↓wp_expr, ↓wp_ret, ↓wp_if, ↓wp_set, ↓wp_asg, ↓wp_par, ↓wp_par3, ↓wp_skill, ↓wp_sfor, ↓wp_vFn, mk, le_line, lt_line, cdiv_ok, tl_get, tl_get0, tl_set, tl_set0, ixt0, ixt1, ixt2, ixt3, ixt4, ixc0, ixc1, ixc2, ixc3, ixc4, ixl0, ixl1, ixl2, ixl3, ixl4]
    refine ⟨fun _ => ⟨ws3, ys ++ [w], st, rfl, by simp, by simp; omega, yy, wa3, rfl, f.mono (by omega)⟩, fun _ => ⟨ws3, ys, st, rfl, rfl, by omega, ya, wa3, rfl, f.mono (by omega)⟩⟩
  rintro acc S ⟨ws2, ys, st, e1, e3, yl, ya, wa, e4, f⟩
  subst e3
  subst e4
  have ln := f.ln
  have yl4 : ys.length ≤ 4 := by omega
  have f := f.mono (n' := n + 10) (by omega)
  clear yl wa e1
  have esy : (D.ctp (ys.map D.str)) = eSe ys := rfl
  try simp -dsimp -implicitDefEqProofs [-ixD, -Int.toNat_natCast, ↓wp_bind, ↓wp_fl, ↓wp_ite, ↓wp_fite, ↓wp_v1, ↓wp_v2, ↓wp_vB, ↓wp_vNil, ↓wp_vCons, ↓wp_vA, ↓wp_vAnd, ↓wp_vOr, ↓wp_vNot, ↓wp_vIfE, ↓wp_vSl, ↓wp_vML, ↓wp_vMD, ↓wp_vCallA, ↓wp_vLc, ↓wp_vDisp, ↓wp_vPs0, ↓wp_vPs1, ↓wp_kSub, ↓wp_kName, ↓wp_seq, ↓wp_next, ↓wp_sBreak, ↓wp_sCont, ↓wp_expr, ↓wp_ret, ↓wp_if, ↓wp_set, ↓wp_asg, ↓wp_par, ↓wp_par3, ↓wp_skill, ↓wp_sfor, ↓wp_vFn, mk, le_line, lt_line, cdiv_ok, tl_get, tl_get0, tl_set, tl_set0, ixt0, ixt1, ixt2, ixt3, ixt4, ixc0, ixc1, ixc2, ixc3, ixc4, ixl0, ixl1, ixl2, ixl3, ixl4, show ys.length ≤ 16000000 by omega]
  rw [esy]
  refine wp_draw DO f (by omega) (by omega) (by omega) ?_; intro r5 st zr5 yr5 ln f
  try simp -dsimp -implicitDefEqProofs [-ixD, -Int.toNat_natCast, ↓wp_bind, ↓wp_fl, ↓wp_ite, ↓wp_fite, ↓wp_v1, ↓wp_v2, ↓wp_vB, ↓wp_vNil, ↓wp_vCons, ↓wp_vA, ↓wp_vAnd, ↓wp_vOr, ↓wp_vNot, ↓wp_vIfE, ↓wp_vSl, ↓wp_vML, ↓wp_vMD, ↓wp_vCallA, ↓wp_vLc, ↓wp_vDisp, ↓wp_vPs0, ↓wp_vPs1, ↓wp_kSub, ↓wp_kName, ↓wp_seq, ↓wp_next, ↓wp_sBreak, ↓wp_sCont, ↓wp_expr, ↓wp_ret, ↓wp_if, ↓wp_set, ↓wp_asg, ↓wp_par, ↓wp_par3, ↓wp_skill, ↓wp_sfor, ↓wp_vFn, mk, le_line, lt_line, cdiv_ok, tl_get, tl_get0, tl_set, tl_set0, ixt0, ixt1, ixt2, ixt3, ixt4, ixc0, ixc1, ixc2, ixc3, ixc4, ixl0, ixl1, ixl2, ixl3, ixl4]
  refine wp_draw DO f (by omega) (by omega) (by omega) ?_; intro r6 st zr6 yr6 ln f
  try simp -dsimp -implicitDefEqProofs [-ixD, -Int.toNat_natCast, ↓wp_bind, ↓wp_fl, ↓wp_ite, ↓wp_fite, ↓wp_v1, ↓wp_v2, ↓wp_vB, ↓wp_vNil, ↓wp_vCons, ↓wp_vA, ↓wp_vAnd, ↓wp_vOr, ↓wp_vNot, ↓wp_vIfE, ↓wp_vSl, ↓wp_vML, ↓wp_vMD, ↓wp_vCallA, ↓wp_vLc, ↓wp_vDisp, ↓wp_vPs0, ↓wp_vPs1, ↓wp_kSub, ↓wp_kName, ↓wp_seq, ↓wp_next, ↓wp_sBreak, ↓wp_sCont, ↓wp_expr, ↓wp_ret, ↓wp_if, ↓wp_set, ↓wp_asg, ↓wp_par, ↓wp_par3, ↓wp_skill, ↓wp_sfor, ↓wp_vFn, mk, le_line, lt_line, cdiv_ok, tl_get, tl_get0, tl_set, tl_set0, ixt0, ixt1, ixt2, ixt3, ixt4, ixc0, ixc1, ixc2, ixc3, ixc4, ixl0, ixl1, ixl2, ixl3, ixl4]
  refine wp_draw DO f (by omega) (by omega) (by omega) ?_; intro r7 st zr7 yr7 ln f
  try simp -dsimp -implicitDefEqProofs [-ixD, -Int.toNat_natCast, ↓wp_bind, ↓wp_fl, ↓wp_ite, ↓wp_fite, ↓wp_v1, ↓wp_v2, ↓wp_vB, ↓wp_vNil, ↓wp_vCons, ↓wp_vA, ↓wp_vAnd, ↓wp_vOr, ↓wp_vNot, ↓wp_vIfE, ↓wp_vSl, ↓wp_vML, ↓wp_vMD, ↓wp_vCallA, ↓wp_vLc, ↓wp_vDisp, ↓wp_vPs0, ↓wp_vPs1, ↓wp_kSub, ↓wp_kName, ↓wp_seq, ↓wp_next, ↓wp_sBreak, ↓wp_sCont, ↓wp_expr, ↓wp_ret, ↓wp_if, ↓wp_set, ↓wp_asg, ↓wp_par, ↓wp_par3, ↓wp_skill, ↓wp_sfor, ↓wp_vFn, mk, le_line, lt_line, cdiv_ok, tl_get, tl_get0, tl_set, tl_set0, ixt0, ixt1, ixt2, ixt3, ixt4, ixc0, ixc1, ixc2, ixc3, ixc4, ixl0, ixl1, ixl2, ixl3, ixl4]
  refine wp_ixIL [0, r5, r6] 3 rfl rfl (by omega) (by omega) ?_; intro v hv
  have v9 : 0 ≤ v ∧ v ≤ 2000 := by simp at hv; omega
  have il : its.length ≤ 16000000 := by omega
  have fin : ∀ (dd : Dd) (st1 : AS), DdT its A B dd → st1.length = 1 → Fg ns (n + 40) st1 → ∀ d, d = eDd dd → (VL.ret 0 (st0 ++ X) d (st1 ++ X)).wp (fun d S => Hold (∃ (dd : Dd) (st1 : AS), d = eDd dd ∧ S = st1 ++ X ∧ DdT its A B dd ∧ st1.length = 1 ∧ Fg ns (n + 40) st1)) noX := fun dd st1 h1 h2 h3 d e => by
    rw [e, ret_len (by simp [h2, l0]), wp_ok]
    exact ⟨dd, st1, rfl, rfl, h1, h2, h3⟩
  try simp -dsimp -implicitDefEqProofs [-ixD, -Int.toNat_natCast, ↓wp_bind, ↓wp_fl, ↓wp_ite, ↓wp_fite, ↓wp_v1, ↓wp_v2, ↓wp_vB, ↓wp_vNil, ↓wp_vCons, ↓wp_vA, ↓wp_vAnd, ↓wp_vOr, ↓wp_vNot, ↓wp_vIfE, ↓wp_vSl, ↓wp_vML, ↓wp_vMD, ↓wp_vCallA, ↓wp_vLc, ↓wp_vDisp, ↓wp_vPs0, ↓wp_vPs1, ↓wp_kSub, ↓wp_kName, ↓wp_seq, ↓wp_next, ↓wp_sBreak, ↓wp_sCont, ↓wp_expr, ↓wp_ret, ↓wp_if, ↓wp_set, ↓wp_asg, ↓wp_par, ↓wp_par3, ↓wp_skill, ↓wp_sfor, ↓wp_vFn, mk, le_line, lt_line, cdiv_ok, tl_get, tl_get0, tl_set, tl_set0, ixt0, ixt1, ixt2, ixt3, ixt4, ixc0, ixc1, ixc2, ixc3, ixc4, ixl0, ixl1, ixl2, ixl3, ixl4, -lenD]
  refine ⟨fun h1 => ⟨fun h2 => ⟨fun h3 => ?_, fun h3 => ?_⟩, fun h2 => ?_⟩, fun h1 => ?_⟩
  · refine wp_draw DO f (by omega) (by omega) (by omega) ?_; intro r8 st zr8 yr8 ln f
    try simp -dsimp -implicitDefEqProofs [-ixD, -Int.toNat_natCast, ↓wp_bind, ↓wp_fl, ↓wp_ite, ↓wp_fite, ↓wp_v1, ↓wp_v2, ↓wp_vB, ↓wp_vNil, ↓wp_vCons, ↓wp_vA, ↓wp_vAnd, ↓wp_vOr, ↓wp_vNot, ↓wp_vIfE, ↓wp_vSl, ↓wp_vML, ↓wp_vMD, ↓wp_vCallA, ↓wp_vLc, ↓wp_vDisp, ↓wp_vPs0, ↓wp_vPs1, ↓wp_kSub, ↓wp_kName, ↓wp_seq, ↓wp_next, ↓wp_sBreak, ↓wp_sCont, ↓wp_expr, ↓wp_ret, ↓wp_if, ↓wp_set, ↓wp_asg, ↓wp_par, ↓wp_par3, ↓wp_skill, ↓wp_sfor, ↓wp_vFn, mk, le_line, lt_line, cdiv_ok, tl_get, tl_get0, tl_set, tl_set0, ixt0, ixt1, ixt2, ixt3, ixt4, ixc0, ixc1, ixc2, ixc3, ixc4, ixl0, ixl1, ixl2, ixl3, ixl4, il]
    refine wp_draw DO f (by omega) (by omega) (by omega) ?_; intro r9 st zr9 yr9 ln f
    try simp -dsimp -implicitDefEqProofs [-ixD, -Int.toNat_natCast, ↓wp_bind, ↓wp_fl, ↓wp_ite, ↓wp_fite, ↓wp_v1, ↓wp_v2, ↓wp_vB, ↓wp_vNil, ↓wp_vCons, ↓wp_vA, ↓wp_vAnd, ↓wp_vOr, ↓wp_vNot, ↓wp_vIfE, ↓wp_vSl, ↓wp_vML, ↓wp_vMD, ↓wp_vCallA, ↓wp_vLc, ↓wp_vDisp, ↓wp_vPs0, ↓wp_vPs1, ↓wp_kSub, ↓wp_kName, ↓wp_seq, ↓wp_next, ↓wp_sBreak, ↓wp_sCont, ↓wp_expr, ↓wp_ret, ↓wp_if, ↓wp_set, ↓wp_asg, ↓wp_par, ↓wp_par3, ↓wp_skill, ↓wp_sfor, ↓wp_vFn, mk, le_line, lt_line, cdiv_ok, tl_get, tl_get0, tl_set, tl_set0, ixt0, ixt1, ixt2, ixt3, ixt4, ixc0, ixc1, ixc2, ixc3, ixc4, ixl0, ixl1, ixl2, ixl3, ixl4]
    refine wp_ixS (by omega) (by omega) ?_
    intro w hw
    try simp -dsimp -implicitDefEqProofs [-ixD, -Int.toNat_natCast, ↓wp_bind, ↓wp_fl, ↓wp_ite, ↓wp_fite, ↓wp_v1, ↓wp_v2, ↓wp_vB, ↓wp_vNil, ↓wp_vCons, ↓wp_vA, ↓wp_vAnd, ↓wp_vOr, ↓wp_vNot, ↓wp_vIfE, ↓wp_vSl, ↓wp_vML, ↓wp_vMD, ↓wp_vCallA, ↓wp_vLc, ↓wp_vDisp, ↓wp_vPs0, ↓wp_vPs1, ↓wp_kSub, ↓wp_kName, ↓wp_seq, ↓wp_next, ↓wp_sBreak, ↓wp_sCont, ↓wp_expr, ↓wp_ret, ↓wp_if, ↓wp_set, ↓wp_asg, ↓wp_par, ↓wp_par3, ↓wp_skill, ↓wp_sfor, ↓wp_vFn, mk, le_line, lt_line, cdiv_ok, tl_get, tl_get0, tl_set, tl_set0, ixt0, ixt1, ixt2, ixt3, ixt4, ixc0, ixc1, ixc2, ixc3, ixc4, ixl0, ixl1, ixl2, ixl3, ixl4]
    exact fin (.ask (as_ - if r8 = 0 then 1 else 0) w (way % 3) ys) st ⟨by split <;> omega, hw, by omega, yl4, ya⟩ ln (f.mono (by omega)) _ rfl
  · try simp -dsimp -implicitDefEqProofs [-ixD, -Int.toNat_natCast, ↓wp_bind, ↓wp_fl, ↓wp_ite, ↓wp_fite, ↓wp_v1, ↓wp_v2, ↓wp_vB, ↓wp_vNil, ↓wp_vCons, ↓wp_vA, ↓wp_vAnd, ↓wp_vOr, ↓wp_vNot, ↓wp_vIfE, ↓wp_vSl, ↓wp_vML, ↓wp_vMD, ↓wp_vCallA, ↓wp_vLc, ↓wp_vDisp, ↓wp_vPs0, ↓wp_vPs1, ↓wp_kSub, ↓wp_kName, ↓wp_seq, ↓wp_next, ↓wp_sBreak, ↓wp_sCont, ↓wp_expr, ↓wp_ret, ↓wp_if, ↓wp_set, ↓wp_asg, ↓wp_par, ↓wp_par3, ↓wp_skill, ↓wp_sfor, ↓wp_vFn, mk, le_line, lt_line, cdiv_ok, tl_get, tl_get0, tl_set, tl_set0, ixt0, ixt1, ixt2, ixt3, ixt4, ixc0, ixc1, ixc2, ixc3, ixc4, ixl0, ixl1, ixl2, ixl3, ixl4, il]
    refine wp_draw DO f (by omega) (by omega) (by omega) ?_; intro r9 st zr9 yr9 ln f
    try simp -dsimp -implicitDefEqProofs [-ixD, -Int.toNat_natCast, ↓wp_bind, ↓wp_fl, ↓wp_ite, ↓wp_fite, ↓wp_v1, ↓wp_v2, ↓wp_vB, ↓wp_vNil, ↓wp_vCons, ↓wp_vA, ↓wp_vAnd, ↓wp_vOr, ↓wp_vNot, ↓wp_vIfE, ↓wp_vSl, ↓wp_vML, ↓wp_vMD, ↓wp_vCallA, ↓wp_vLc, ↓wp_vDisp, ↓wp_vPs0, ↓wp_vPs1, ↓wp_kSub, ↓wp_kName, ↓wp_seq, ↓wp_next, ↓wp_sBreak, ↓wp_sCont, ↓wp_expr, ↓wp_ret, ↓wp_if, ↓wp_set, ↓wp_asg, ↓wp_par, ↓wp_par3, ↓wp_skill, ↓wp_sfor, ↓wp_vFn, mk, le_line, lt_line, cdiv_ok, tl_get, tl_get0, tl_set, tl_set0, ixt0, ixt1, ixt2, ixt3, ixt4, ixc0, ixc1, ixc2, ixc3, ixc4, ixl0, ixl1, ixl2, ixl3, ixl4]
    refine wp_ixS (by omega) (by omega) ?_
    intro w hw
    try simp -dsimp -implicitDefEqProofs [-ixD, -Int.toNat_natCast, ↓wp_bind, ↓wp_fl, ↓wp_ite, ↓wp_fite, ↓wp_v1, ↓wp_v2, ↓wp_vB, ↓wp_vNil, ↓wp_vCons, ↓wp_vA, ↓wp_vAnd, ↓wp_vOr, ↓wp_vNot, ↓wp_vIfE, ↓wp_vSl, ↓wp_vML, ↓wp_vMD, ↓wp_vCallA, ↓wp_vLc, ↓wp_vDisp, ↓wp_vPs0, ↓wp_vPs1, ↓wp_kSub, ↓wp_kName, ↓wp_seq, ↓wp_next, ↓wp_sBreak, ↓wp_sCont, ↓wp_expr, ↓wp_ret, ↓wp_if, ↓wp_set, ↓wp_asg, ↓wp_par, ↓wp_par3, ↓wp_skill, ↓wp_sfor, ↓wp_vFn, mk, le_line, lt_line, cdiv_ok, tl_get, tl_get0, tl_set, tl_set0, ixt0, ixt1, ixt2, ixt3, ixt4, ixc0, ixc1, ixc2, ixc3, ixc4, ixl0, ixl1, ixl2, ixl3, ixl4]
    exact fin (.ask as_ w (way % 3) ys) st ⟨by omega, hw, by omega, yl4, ya⟩ ln (f.mono (by omega)) _ rfl
  · try simp -dsimp -implicitDefEqProofs [-ixD, -Int.toNat_natCast, ↓wp_bind, ↓wp_fl, ↓wp_ite, ↓wp_fite, ↓wp_v1, ↓wp_v2, ↓wp_vB, ↓wp_vNil, ↓wp_vCons, ↓wp_vA, ↓wp_vAnd, ↓wp_vOr, ↓wp_vNot, ↓wp_vIfE, ↓wp_vSl, ↓wp_vML, ↓wp_vMD, ↓wp_vCallA, ↓wp_vLc, ↓wp_vDisp, ↓wp_vPs0, ↓wp_vPs1, ↓wp_kSub, ↓wp_kName, ↓wp_seq, ↓wp_next, ↓wp_sBreak, ↓wp_sCont, ↓wp_expr, ↓wp_ret, ↓wp_if, ↓wp_set, ↓wp_asg, ↓wp_par, ↓wp_par3, ↓wp_skill, ↓wp_sfor, ↓wp_vFn, mk, le_line, lt_line, cdiv_ok, tl_get, tl_get0, tl_set, tl_set0, ixt0, ixt1, ixt2, ixt3, ixt4, ixc0, ixc1, ixc2, ixc3, ixc4, ixl0, ixl1, ixl2, ixl3, ixl4, -lenD]
    refine ⟨fun h5 => ?_, fun h5 => ⟨fun h6 => ?_, fun h6 => ⟨fun h7 => ?_, fun h7 => ?_⟩⟩⟩
    · obtain ⟨dd, st, e5, ok, ln, f⟩ := f_ddeed (A := A) (B := B) (X := X) f (by omega) hi hi2 a0 (by omega : as_ ≤ 100)
      refine wp_of e5 ?_
      try simp -dsimp -implicitDefEqProofs [-ixD, -Int.toNat_natCast, ↓wp_bind, ↓wp_fl, ↓wp_ite, ↓wp_fite, ↓wp_v1, ↓wp_v2, ↓wp_vB, ↓wp_vNil, ↓wp_vCons, ↓wp_vA, ↓wp_vAnd, ↓wp_vOr, ↓wp_vNot, ↓wp_vIfE, ↓wp_vSl, ↓wp_vML, ↓wp_vMD, ↓wp_vCallA, ↓wp_vLc, ↓wp_vDisp, ↓wp_vPs0, ↓wp_vPs1, ↓wp_kSub, ↓wp_kName, ↓wp_seq, ↓wp_next, ↓wp_sBreak, ↓wp_sCont, ↓wp_expr, ↓wp_ret, ↓wp_if, ↓wp_set, ↓wp_asg, ↓wp_par, ↓wp_par3, ↓wp_skill, ↓wp_sfor, ↓wp_vFn, mk, le_line, lt_line, cdiv_ok, tl_get, tl_get0, tl_set, tl_set0, ixt0, ixt1, ixt2, ixt3, ixt4, ixc0, ixc1, ixc2, ixc3, ixc4, ixl0, ixl1, ixl2, ixl3, ixl4]
      exact fin dd st ok ln (f.mono (by omega)) _ rfl
    · refine wp_ixSL (["fire", "fire", "rush"].map Str.ofString) 3 rfl rfl (by omega) (by omega) ?_
      intro w hw
      try simp -dsimp -implicitDefEqProofs [-ixD, -Int.toNat_natCast, ↓wp_bind, ↓wp_fl, ↓wp_ite, ↓wp_fite, ↓wp_v1, ↓wp_v2, ↓wp_vB, ↓wp_vNil, ↓wp_vCons, ↓wp_vA, ↓wp_vAnd, ↓wp_vOr, ↓wp_vNot, ↓wp_vIfE, ↓wp_vSl, ↓wp_vML, ↓wp_vMD, ↓wp_vCallA, ↓wp_vLc, ↓wp_vDisp, ↓wp_vPs0, ↓wp_vPs1, ↓wp_kSub, ↓wp_kName, ↓wp_seq, ↓wp_next, ↓wp_sBreak, ↓wp_sCont, ↓wp_expr, ↓wp_ret, ↓wp_if, ↓wp_set, ↓wp_asg, ↓wp_par, ↓wp_par3, ↓wp_skill, ↓wp_sfor, ↓wp_vFn, mk, le_line, lt_line, cdiv_ok, tl_get, tl_get0, tl_set, tl_set0, ixt0, ixt1, ixt2, ixt3, ixt4, ixc0, ixc1, ixc2, ixc3, ixc4, ixl0, ixl1, ixl2, ixl3, ixl4]
      refine wp_draw DO f (by omega) (by omega) (by omega) ?_; intro r8 st zr8 yr8 ln f
      try simp -dsimp -implicitDefEqProofs [-ixD, -Int.toNat_natCast, ↓wp_bind, ↓wp_fl, ↓wp_ite, ↓wp_fite, ↓wp_v1, ↓wp_v2, ↓wp_vB, ↓wp_vNil, ↓wp_vCons, ↓wp_vA, ↓wp_vAnd, ↓wp_vOr, ↓wp_vNot, ↓wp_vIfE, ↓wp_vSl, ↓wp_vML, ↓wp_vMD, ↓wp_vCallA, ↓wp_vLc, ↓wp_vDisp, ↓wp_vPs0, ↓wp_vPs1, ↓wp_kSub, ↓wp_kName, ↓wp_seq, ↓wp_next, ↓wp_sBreak, ↓wp_sCont, ↓wp_expr, ↓wp_ret, ↓wp_if, ↓wp_set, ↓wp_asg, ↓wp_par, ↓wp_par3, ↓wp_skill, ↓wp_sfor, ↓wp_vFn, mk, le_line, lt_line, cdiv_ok, tl_get, tl_get0, tl_set, tl_set0, ixt0, ixt1, ixt2, ixt3, ixt4, ixc0, ixc1, ixc2, ixc3, ixc4, ixl0, ixl1, ixl2, ixl3, ixl4]
      simp only [List.map_cons, List.map_nil, List.mem_cons, List.not_mem_nil, or_false] at hw
      rcases hw with rfl | rfl | rfl
      · exact fin (.fire table r8) st ⟨ht, by omega, by omega⟩ ln (f.mono (by omega)) _ rfl
      · exact fin (.fire table r8) st ⟨ht, by omega, by omega⟩ ln (f.mono (by omega)) _ rfl
      · exact fin (.rush table r8) st ⟨ht, by omega, by omega⟩ ln (f.mono (by omega)) _ rfl
    · have le : ∀ S, lenD (eSe ys) S = .ok (.int (ys.length : Nat)) S := fun S => by simp [eSe]
      by_cases h8 : 1 < ys.length
      · have h9 : ((1 : Int) < (ys.length : Nat)) = True := eq_true (by omega)
        try simp -dsimp -implicitDefEqProofs [-ixD, -Int.toNat_natCast, ↓wp_bind, ↓wp_fl, ↓wp_ite, ↓wp_fite, ↓wp_v1, ↓wp_v2, ↓wp_vB, ↓wp_vNil, ↓wp_vCons, ↓wp_vA, ↓wp_vAnd, ↓wp_vOr, ↓wp_vNot, ↓wp_vIfE, ↓wp_vSl, ↓wp_vML, ↓wp_vMD, ↓wp_vCallA, ↓wp_vLc, ↓wp_vDisp, ↓wp_vPs0, ↓wp_vPs1, ↓wp_kSub, ↓wp_kName, ↓wp_seq, ↓wp_next, ↓wp_sBreak, ↓wp_sCont, ↓wp_expr, ↓wp_ret, ↓wp_if, ↓wp_set, ↓wp_asg, ↓wp_par, ↓wp_par3, ↓wp_skill, ↓wp_sfor, ↓wp_vFn, mk, le_line, lt_line, cdiv_ok, tl_get, tl_get0, tl_set, tl_set0, ixt0, ixt1, ixt2, ixt3, ixt4, ixc0, ixc1, ixc2, ixc3, ixc4, ixl0, ixl1, ixl2, ixl3, ixl4, -lenD, le, h9]
        exact fin (.even ys) st ⟨yl4, ya⟩ ln (f.mono (by omega)) _ rfl
      · have h9 : ((1 : Int) < (ys.length : Nat)) = False := eq_false (by omega)
        try simp -dsimp -implicitDefEqProofs [-ixD, -Int.toNat_natCast, ↓wp_bind, ↓wp_fl, ↓wp_ite, ↓wp_fite, ↓wp_v1, ↓wp_v2, ↓wp_vB, ↓wp_vNil, ↓wp_vCons, ↓wp_vA, ↓wp_vAnd, ↓wp_vOr, ↓wp_vNot, ↓wp_vIfE, ↓wp_vSl, ↓wp_vML, ↓wp_vMD, ↓wp_vCallA, ↓wp_vLc, ↓wp_vDisp, ↓wp_vPs0, ↓wp_vPs1, ↓wp_kSub, ↓wp_kName, ↓wp_seq, ↓wp_next, ↓wp_sBreak, ↓wp_sCont, ↓wp_expr, ↓wp_ret, ↓wp_if, ↓wp_set, ↓wp_asg, ↓wp_par, ↓wp_par3, ↓wp_skill, ↓wp_sfor, ↓wp_vFn, mk, le_line, lt_line, cdiv_ok, tl_get, tl_get0, tl_set, tl_set0, ixt0, ixt1, ixt2, ixt3, ixt4, ixc0, ixc1, ixc2, ixc3, ixc4, ixl0, ixl1, ixl2, ixl3, ixl4, -lenD, le, h9, show A.length ≤ 16000000 by omega]
        exact fin (.even A) st ⟨hA2, fun s h => h⟩ ln (f.mono (by omega)) _ rfl
    · refine wp_ixB (by omega) (by omega) hB ?_
      intro w hw
      try simp -dsimp -implicitDefEqProofs [-ixD, -Int.toNat_natCast, ↓wp_bind, ↓wp_fl, ↓wp_ite, ↓wp_fite, ↓wp_v1, ↓wp_v2, ↓wp_vB, ↓wp_vNil, ↓wp_vCons, ↓wp_vA, ↓wp_vAnd, ↓wp_vOr, ↓wp_vNot, ↓wp_vIfE, ↓wp_vSl, ↓wp_vML, ↓wp_vMD, ↓wp_vCallA, ↓wp_vLc, ↓wp_vDisp, ↓wp_vPs0, ↓wp_vPs1, ↓wp_kSub, ↓wp_kName, ↓wp_seq, ↓wp_next, ↓wp_sBreak, ↓wp_sCont, ↓wp_expr, ↓wp_ret, ↓wp_if, ↓wp_set, ↓wp_asg, ↓wp_par, ↓wp_par3, ↓wp_skill, ↓wp_sfor, ↓wp_vFn, mk, le_line, lt_line, cdiv_ok, tl_get, tl_get0, tl_set, tl_set0, ixt0, ixt1, ixt2, ixt3, ixt4, ixc0, ixc1, ixc2, ixc3, ixc4, ixl0, ixl1, ixl2, ixl3, ixl4]
      refine wp_ix (ds := [eDd (.sit seat table), eDd (.move seat table), eDd (.join table w), eDd (.go seat), eDd (.pay seat (1 + v)), eDd (.take seat other (1 + v))]) (by omega) (by simp; omega) ?_
      intro d hd
      try simp -dsimp -implicitDefEqProofs [-ixD, -Int.toNat_natCast, ↓wp_bind, ↓wp_fl, ↓wp_ite, ↓wp_fite, ↓wp_v1, ↓wp_v2, ↓wp_vB, ↓wp_vNil, ↓wp_vCons, ↓wp_vA, ↓wp_vAnd, ↓wp_vOr, ↓wp_vNot, ↓wp_vIfE, ↓wp_vSl, ↓wp_vML, ↓wp_vMD, ↓wp_vCallA, ↓wp_vLc, ↓wp_vDisp, ↓wp_vPs0, ↓wp_vPs1, ↓wp_kSub, ↓wp_kName, ↓wp_seq, ↓wp_next, ↓wp_sBreak, ↓wp_sCont, ↓wp_expr, ↓wp_ret, ↓wp_if, ↓wp_set, ↓wp_asg, ↓wp_par, ↓wp_par3, ↓wp_skill, ↓wp_sfor, ↓wp_vFn, mk, le_line, lt_line, cdiv_ok, tl_get, tl_get0, tl_set, tl_set0, ixt0, ixt1, ixt2, ixt3, ixt4, ixc0, ixc1, ixc2, ixc3, ixc4, ixl0, ixl1, ixl2, ixl3, ixl4]
      simp only [List.mem_cons, List.not_mem_nil, or_false] at hd
      rcases hd with rfl | rfl | rfl | rfl | rfl | rfl
      · exact fin (.sit seat table) st ⟨hs, ht⟩ ln (f.mono (by omega)) _ rfl
      · exact fin (.move seat table) st ⟨hs, ht⟩ ln (f.mono (by omega)) _ rfl
      · exact fin (.join table w) st ⟨ht, hw⟩ ln (f.mono (by omega)) _ rfl
      · exact fin (.go seat) st hs ln (f.mono (by omega)) _ rfl
      · exact fin (.pay seat (1 + v)) st ⟨hs, by omega, by omega⟩ ln (f.mono (by omega)) _ rfl
      · exact fin (.take seat other (1 + v)) st ⟨hs, ho, by omega, by omega⟩ ln (f.mono (by omega)) _ rfl
  · try simp -dsimp -implicitDefEqProofs [-ixD, -Int.toNat_natCast, ↓wp_bind, ↓wp_fl, ↓wp_ite, ↓wp_fite, ↓wp_v1, ↓wp_v2, ↓wp_vB, ↓wp_vNil, ↓wp_vCons, ↓wp_vA, ↓wp_vAnd, ↓wp_vOr, ↓wp_vNot, ↓wp_vIfE, ↓wp_vSl, ↓wp_vML, ↓wp_vMD, ↓wp_vCallA, ↓wp_vLc, ↓wp_vDisp, ↓wp_vPs0, ↓wp_vPs1, ↓wp_kSub, ↓wp_kName, ↓wp_seq, ↓wp_next, ↓wp_sBreak, ↓wp_sCont, ↓wp_expr, ↓wp_ret, ↓wp_if, ↓wp_set, ↓wp_asg, ↓wp_par, ↓wp_par3, ↓wp_skill, ↓wp_sfor, ↓wp_vFn, mk, le_line, lt_line, cdiv_ok, tl_get, tl_get0, tl_set, tl_set0, ixt0, ixt1, ixt2, ixt3, ixt4, ixc0, ixc1, ixc2, ixc3, ixc4, ixl0, ixl1, ixl2, ixl3, ixl4, -lenD]
    refine ⟨fun h5 => ?_, fun h5 => ⟨fun h6 => ?_, fun h6 => ⟨fun h7 => ?_, fun h7 => ?_⟩⟩⟩
    · obtain ⟨dd, st, e5, ok, ln, f⟩ := f_ddeed (A := A) (B := B) (X := X) f (by omega) hi hi2 a0 (by omega : as_ ≤ 100)
      refine wp_of e5 ?_
      try simp -dsimp -implicitDefEqProofs [-ixD, -Int.toNat_natCast, ↓wp_bind, ↓wp_fl, ↓wp_ite, ↓wp_fite, ↓wp_v1, ↓wp_v2, ↓wp_vB, ↓wp_vNil, ↓wp_vCons, ↓wp_vA, ↓wp_vAnd, ↓wp_vOr, ↓wp_vNot, ↓wp_vIfE, ↓wp_vSl, ↓wp_vML, ↓wp_vMD, ↓wp_vCallA, ↓wp_vLc, ↓wp_vDisp, ↓wp_vPs0, ↓wp_vPs1, ↓wp_kSub, ↓wp_kName, ↓wp_seq, ↓wp_next, ↓wp_sBreak, ↓wp_sCont, ↓wp_expr, ↓wp_ret, ↓wp_if, ↓wp_set, ↓wp_asg, ↓wp_par, ↓wp_par3, ↓wp_skill, ↓wp_sfor, ↓wp_vFn, mk, le_line, lt_line, cdiv_ok, tl_get, tl_get0, tl_set, tl_set0, ixt0, ixt1, ixt2, ixt3, ixt4, ixc0, ixc1, ixc2, ixc3, ixc4, ixl0, ixl1, ixl2, ixl3, ixl4]
      exact fin dd st ok ln (f.mono (by omega)) _ rfl
    · refine wp_ixSL (["fire", "fire", "rush"].map Str.ofString) 3 rfl rfl (by omega) (by omega) ?_
      intro w hw
      try simp -dsimp -implicitDefEqProofs [-ixD, -Int.toNat_natCast, ↓wp_bind, ↓wp_fl, ↓wp_ite, ↓wp_fite, ↓wp_v1, ↓wp_v2, ↓wp_vB, ↓wp_vNil, ↓wp_vCons, ↓wp_vA, ↓wp_vAnd, ↓wp_vOr, ↓wp_vNot, ↓wp_vIfE, ↓wp_vSl, ↓wp_vML, ↓wp_vMD, ↓wp_vCallA, ↓wp_vLc, ↓wp_vDisp, ↓wp_vPs0, ↓wp_vPs1, ↓wp_kSub, ↓wp_kName, ↓wp_seq, ↓wp_next, ↓wp_sBreak, ↓wp_sCont, ↓wp_expr, ↓wp_ret, ↓wp_if, ↓wp_set, ↓wp_asg, ↓wp_par, ↓wp_par3, ↓wp_skill, ↓wp_sfor, ↓wp_vFn, mk, le_line, lt_line, cdiv_ok, tl_get, tl_get0, tl_set, tl_set0, ixt0, ixt1, ixt2, ixt3, ixt4, ixc0, ixc1, ixc2, ixc3, ixc4, ixl0, ixl1, ixl2, ixl3, ixl4]
      refine wp_draw DO f (by omega) (by omega) (by omega) ?_; intro r8 st zr8 yr8 ln f
      try simp -dsimp -implicitDefEqProofs [-ixD, -Int.toNat_natCast, ↓wp_bind, ↓wp_fl, ↓wp_ite, ↓wp_fite, ↓wp_v1, ↓wp_v2, ↓wp_vB, ↓wp_vNil, ↓wp_vCons, ↓wp_vA, ↓wp_vAnd, ↓wp_vOr, ↓wp_vNot, ↓wp_vIfE, ↓wp_vSl, ↓wp_vML, ↓wp_vMD, ↓wp_vCallA, ↓wp_vLc, ↓wp_vDisp, ↓wp_vPs0, ↓wp_vPs1, ↓wp_kSub, ↓wp_kName, ↓wp_seq, ↓wp_next, ↓wp_sBreak, ↓wp_sCont, ↓wp_expr, ↓wp_ret, ↓wp_if, ↓wp_set, ↓wp_asg, ↓wp_par, ↓wp_par3, ↓wp_skill, ↓wp_sfor, ↓wp_vFn, mk, le_line, lt_line, cdiv_ok, tl_get, tl_get0, tl_set, tl_set0, ixt0, ixt1, ixt2, ixt3, ixt4, ixc0, ixc1, ixc2, ixc3, ixc4, ixl0, ixl1, ixl2, ixl3, ixl4]
      simp only [List.map_cons, List.map_nil, List.mem_cons, List.not_mem_nil, or_false] at hw
      rcases hw with rfl | rfl | rfl
      · exact fin (.fire table r8) st ⟨ht, by omega, by omega⟩ ln (f.mono (by omega)) _ rfl
      · exact fin (.fire table r8) st ⟨ht, by omega, by omega⟩ ln (f.mono (by omega)) _ rfl
      · exact fin (.rush table r8) st ⟨ht, by omega, by omega⟩ ln (f.mono (by omega)) _ rfl
    · have le : ∀ S, lenD (eSe ys) S = .ok (.int (ys.length : Nat)) S := fun S => by simp [eSe]
      by_cases h8 : 1 < ys.length
      · have h9 : ((1 : Int) < (ys.length : Nat)) = True := eq_true (by omega)
        try simp -dsimp -implicitDefEqProofs [-ixD, -Int.toNat_natCast, ↓wp_bind, ↓wp_fl, ↓wp_ite, ↓wp_fite, ↓wp_v1, ↓wp_v2, ↓wp_vB, ↓wp_vNil, ↓wp_vCons, ↓wp_vA, ↓wp_vAnd, ↓wp_vOr, ↓wp_vNot, ↓wp_vIfE, ↓wp_vSl, ↓wp_vML, ↓wp_vMD, ↓wp_vCallA, ↓wp_vLc, ↓wp_vDisp, ↓wp_vPs0, ↓wp_vPs1, ↓wp_kSub, ↓wp_kName, ↓wp_seq, ↓wp_next, ↓wp_sBreak, ↓wp_sCont, ↓wp_expr, ↓wp_ret, ↓wp_if, ↓wp_set, ↓wp_asg, ↓wp_par, ↓wp_par3, ↓wp_skill, ↓wp_sfor, ↓wp_vFn, mk, le_line, lt_line, cdiv_ok, tl_get, tl_get0, tl_set, tl_set0, ixt0, ixt1, ixt2, ixt3, ixt4, ixc0, ixc1, ixc2, ixc3, ixc4, ixl0, ixl1, ixl2, ixl3, ixl4, -lenD, le, h9]
        exact fin (.even ys) st ⟨yl4, ya⟩ ln (f.mono (by omega)) _ rfl
      · have h9 : ((1 : Int) < (ys.length : Nat)) = False := eq_false (by omega)
        try simp -dsimp -implicitDefEqProofs [-ixD, -Int.toNat_natCast, ↓wp_bind, ↓wp_fl, ↓wp_ite, ↓wp_fite, ↓wp_v1, ↓wp_v2, ↓wp_vB, ↓wp_vNil, ↓wp_vCons, ↓wp_vA, ↓wp_vAnd, ↓wp_vOr, ↓wp_vNot, ↓wp_vIfE, ↓wp_vSl, ↓wp_vML, ↓wp_vMD, ↓wp_vCallA, ↓wp_vLc, ↓wp_vDisp, ↓wp_vPs0, ↓wp_vPs1, ↓wp_kSub, ↓wp_kName, ↓wp_seq, ↓wp_next, ↓wp_sBreak, ↓wp_sCont, ↓wp_expr, ↓wp_ret, ↓wp_if, ↓wp_set, ↓wp_asg, ↓wp_par, ↓wp_par3, ↓wp_skill, ↓wp_sfor, ↓wp_vFn, mk, le_line, lt_line, cdiv_ok, tl_get, tl_get0, tl_set, tl_set0, ixt0, ixt1, ixt2, ixt3, ixt4, ixc0, ixc1, ixc2, ixc3, ixc4, ixl0, ixl1, ixl2, ixl3, ixl4, -lenD, le, h9, show A.length ≤ 16000000 by omega]
        exact fin (.even A) st ⟨hA2, fun s h => h⟩ ln (f.mono (by omega)) _ rfl
    · refine wp_ixB (by omega) (by omega) hB ?_
      intro w hw
      try simp -dsimp -implicitDefEqProofs [-ixD, -Int.toNat_natCast, ↓wp_bind, ↓wp_fl, ↓wp_ite, ↓wp_fite, ↓wp_v1, ↓wp_v2, ↓wp_vB, ↓wp_vNil, ↓wp_vCons, ↓wp_vA, ↓wp_vAnd, ↓wp_vOr, ↓wp_vNot, ↓wp_vIfE, ↓wp_vSl, ↓wp_vML, ↓wp_vMD, ↓wp_vCallA, ↓wp_vLc, ↓wp_vDisp, ↓wp_vPs0, ↓wp_vPs1, ↓wp_kSub, ↓wp_kName, ↓wp_seq, ↓wp_next, ↓wp_sBreak, ↓wp_sCont, ↓wp_expr, ↓wp_ret, ↓wp_if, ↓wp_set, ↓wp_asg, ↓wp_par, ↓wp_par3, ↓wp_skill, ↓wp_sfor, ↓wp_vFn, mk, le_line, lt_line, cdiv_ok, tl_get, tl_get0, tl_set, tl_set0, ixt0, ixt1, ixt2, ixt3, ixt4, ixc0, ixc1, ixc2, ixc3, ixc4, ixl0, ixl1, ixl2, ixl3, ixl4]
      refine wp_ix (ds := [eDd (.sit seat table), eDd (.move seat table), eDd (.join table w), eDd (.go seat), eDd (.pay seat (1 + v)), eDd (.take seat other (1 + v))]) (by omega) (by simp; omega) ?_
      intro d hd
      try simp -dsimp -implicitDefEqProofs [-ixD, -Int.toNat_natCast, ↓wp_bind, ↓wp_fl, ↓wp_ite, ↓wp_fite, ↓wp_v1, ↓wp_v2, ↓wp_vB, ↓wp_vNil, ↓wp_vCons, ↓wp_vA, ↓wp_vAnd, ↓wp_vOr, ↓wp_vNot, ↓wp_vIfE, ↓wp_vSl, ↓wp_vML, ↓wp_vMD, ↓wp_vCallA, ↓wp_vLc, ↓wp_vDisp, ↓wp_vPs0, ↓wp_vPs1, ↓wp_kSub, ↓wp_kName, ↓wp_seq, ↓wp_next, ↓wp_sBreak, ↓wp_sCont, ↓wp_expr, ↓wp_ret, ↓wp_if, ↓wp_set, ↓wp_asg, ↓wp_par, ↓wp_par3, ↓wp_skill, ↓wp_sfor, ↓wp_vFn, mk, le_line, lt_line, cdiv_ok, tl_get, tl_get0, tl_set, tl_set0, ixt0, ixt1, ixt2, ixt3, ixt4, ixc0, ixc1, ixc2, ixc3, ixc4, ixl0, ixl1, ixl2, ixl3, ixl4]
      simp only [List.mem_cons, List.not_mem_nil, or_false] at hd
      rcases hd with rfl | rfl | rfl | rfl | rfl | rfl
      · exact fin (.sit seat table) st ⟨hs, ht⟩ ln (f.mono (by omega)) _ rfl
      · exact fin (.move seat table) st ⟨hs, ht⟩ ln (f.mono (by omega)) _ rfl
      · exact fin (.join table w) st ⟨ht, hw⟩ ln (f.mono (by omega)) _ rfl
      · exact fin (.go seat) st hs ln (f.mono (by omega)) _ rfl
      · exact fin (.pay seat (1 + v)) st ⟨hs, by omega, by omega⟩ ln (f.mono (by omega)) _ rfl
      · exact fin (.take seat other (1 + v)) st ⟨hs, ho, by omega, by omega⟩ ln (f.mono (by omega)) _ rfl
end
end TG
set_option Elab.async false
set_option linter.all false
set_option maxRecDepth 100000
set_option maxHeartbeats 4000000
/-! Pages that the laws of names draw; how great they are. -/
namespace TG
open PySem VL G Kd W9 W26 WG TB
def DdR : Dd → Prop
  | .sit s t => wdOk s = true ∧ wdOk t = true
  | .move s t => wdOk s = true ∧ wdOk t = true
  | .join t o => wdOk t = true ∧ wdOk o = true
  | .go s => wdOk s = true
  | .ask n it c ss => (0 ≤ n ∧ n ≤ 100) ∧ wdOk it = true ∧ (0 ≤ c ∧ c ≤ 2) ∧ ss.length ≤ 4 ∧ ∀ s ∈ ss, wdOk s = true
  | .change n it => (0 ≤ n ∧ n ≤ 100) ∧ wdOk it = true
  | .fire t c => wdOk t = true ∧ 0 ≤ c ∧ c ≤ 2
  | .rush t c => wdOk t = true ∧ 0 ≤ c ∧ c ≤ 2
  | .serve n => 0 ≤ n ∧ n ≤ 100
  | .back n => 0 ≤ n ∧ n ≤ 100
  | .strike n => 0 ≤ n ∧ n ≤ 100
  | .pay s p => wdOk s = true ∧ 1 ≤ p ∧ p ≤ 3000
  | .take s o p => wdOk s = true ∧ wdOk o = true ∧ 1 ≤ p ∧ p ≤ 3000
  | .even ss => ss.length ≤ 4 ∧ ∀ s ∈ ss, wdOk s = true
theorem ddr_of {its A B : List Str} (hi : ∀ s ∈ its, wdOk s = true) (hA : ∀ s ∈ A, wdOk s = true) (hB : ∀ s ∈ B, wdOk s = true) {dd : Dd} (h : DdT its A B dd) : DdR dd := by
  cases dd <;> simp only [DdT, DdR] at h ⊢
  case sit => exact ⟨hA _ h.1, hB _ h.2⟩
  case move => exact ⟨hA _ h.1, hB _ h.2⟩
  case join => exact ⟨hB _ h.1, hB _ h.2⟩
  case go => exact hA _ h
  case ask => exact ⟨h.1, hi _ h.2.1, h.2.2.1, h.2.2.2.1, fun s hs => hA s (h.2.2.2.2 s hs)⟩
  case change => exact ⟨h.1, hi _ h.2⟩
  case fire => exact ⟨hB _ h.1, h.2⟩
  case rush => exact ⟨hB _ h.1, h.2⟩
  case pay => exact ⟨hA _ h.1, h.2⟩
  case take => exact ⟨hA _ h.1, hA _ h.2.1, h.2.2⟩
  case even => exact ⟨h.1, fun s hs => hA s (h.2 s hs)⟩
  all_goals exact h
theorem rz_ss4 {ss : List Str} (hl : ss.length ≤ 4) (hw : ∀ s ∈ ss, wdOk s = true) : Rz 5 1 (eSe ss) := rz_ctp (rzs_mapN (N := 4) D.str (fun w hx => rz_wd (k := 0) (hw w hx)) hl)
theorem rz_ddR {dd : Dd} (h : DdR dd) : Rz 40 2 (eDd dd) := by
  cases dd <;> simp only [DdR] at h <;> unfold eDd
  case sit s t => exact (rz_tup (rzs_cons (k := 1) (lit_wd "sit") (rzs_cons (rz_wd h.1) (rzs_cons (rz_wd h.2) rzs_nil)))).mono (by omega) (by omega)
  case move s t => exact (rz_tup (rzs_cons (k := 1) (lit_wd "move") (rzs_cons (rz_wd h.1) (rzs_cons (rz_wd h.2) rzs_nil)))).mono (by omega) (by omega)
  case join s t => exact (rz_tup (rzs_cons (k := 1) (lit_wd "join") (rzs_cons (rz_wd h.1) (rzs_cons (rz_wd h.2) rzs_nil)))).mono (by omega) (by omega)
  case go s => exact (rz_tup (rzs_cons (k := 1) (lit_wd "go") (rzs_cons (rz_wd h) rzs_nil))).mono (by omega) (by omega)
  case ask n i c ss => exact (rz_tup (rzs_cons (k := 1) (lit_wd "ask") (rzs_cons (rz_i (by omega) (by omega)) (rzs_cons (rz_wd h.2.1) (rzs_cons (rz_i (by omega) (by omega)) (rzs_cons (rz_ss4 h.2.2.2.1 h.2.2.2.2) rzs_nil)))))).mono (by omega) (by omega)
  case change n i => exact (rz_tup (rzs_cons (k := 1) (lit_wd "change") (rzs_cons (rz_i (by omega) (by omega)) (rzs_cons (rz_wd h.2) rzs_nil)))).mono (by omega) (by omega)
  case fire t c => exact (rz_tup (rzs_cons (k := 1) (lit_wd "fire") (rzs_cons (rz_wd h.1) (rzs_cons (rz_i (by omega) (by omega)) rzs_nil)))).mono (by omega) (by omega)
  case rush t c => exact (rz_tup (rzs_cons (k := 1) (lit_wd "rush") (rzs_cons (rz_wd h.1) (rzs_cons (rz_i (by omega) (by omega)) rzs_nil)))).mono (by omega) (by omega)
  case serve n => exact (rz_tup (rzs_cons (k := 1) (lit_wd "serve") (rzs_cons (rz_i (by omega) (by omega)) rzs_nil))).mono (by omega) (by omega)
  case back n => exact (rz_tup (rzs_cons (k := 1) (lit_wd "back") (rzs_cons (rz_i (by omega) (by omega)) rzs_nil))).mono (by omega) (by omega)
  case strike n => exact (rz_tup (rzs_cons (k := 1) (lit_wd "strike") (rzs_cons (rz_i (by omega) (by omega)) rzs_nil))).mono (by omega) (by omega)
  case pay s p => exact (rz_tup (rzs_cons (k := 1) (lit_wd "pay") (rzs_cons (rz_wd h.1) (rzs_cons (rz_i (by omega) (by omega)) rzs_nil)))).mono (by omega) (by omega)
  case take s o p => exact (rz_tup (rzs_cons (k := 1) (lit_wd "take") (rzs_cons (rz_wd h.1) (rzs_cons (rz_wd h.2.1) (rzs_cons (rz_i (by omega) (by omega)) rzs_nil))))).mono (by omega) (by omega)
  case even ss => exact (rz_tup (rzs_cons (k := 1) (lit_wd "even") (rzs_cons (rz_ss4 h.1 h.2) rzs_nil))).mono (by omega) (by omega)
theorem eq_rz {n k m j : Nat} {x y : D} (h1 : Rz n k x) (h2 : Rz m j y) (hk : k ≤ 60) (hj : j ≤ 60) (neg : Bool) (st : AS) : eqD neg x y st = .ok (.bl (xor neg (eqvD x y))) st := by
  have f1 : (valD st x).fit = true := by
    rw [val_pure h1.p]; unfold D.fit; rw [h1.p, h1.f.shaped (by omega) hk]; rfl
  have f2 : (valD st y).fit = true := by
    rw [val_pure h2.p]; unfold D.fit; rw [h2.p, h2.f.shaped (by omega) hj]; rfl
  unfold eqD
  rw [f1, f2, val_pure h1.p, val_pure h2.p]
  split <;> rfl
theorem dl_two {dd : Dd} (h : DdR dd) : ∃ (x y : D) (l : List D), eDd dd = .tup (x :: y :: l) ∧ Rz 6 2 x ∧ Rz 6 2 y := by
  have w : ∀ {s : Str}, wdOk s = true → Rz 6 2 (.str s) := fun h => (rz_wd (k := 0) h).mono (by omega) (by omega)
  have i : ∀ {a : Int}, 0 ≤ a ∧ a ≤ 100 → Rz 6 2 (.int a) := fun h => (rz_i (k := 0) (by omega) (by omega)).mono (by omega) (by omega)
  have lt : ∀ (s : String), wdOk (Str.ofString s) = true → Rz 6 2 (.str (Str.ofString s)) := fun s h => w h
  cases dd <;> simp only [DdR] at h <;> unfold eDd
  case sit s t => exact ⟨_, _, _, rfl, lt "sit" (by decide +kernel), w h.1⟩
  case move s t => exact ⟨_, _, _, rfl, lt "move" (by decide +kernel), w h.1⟩
  case join s t => exact ⟨_, _, _, rfl, lt "join" (by decide +kernel), w h.1⟩
  case go s => exact ⟨_, _, _, rfl, lt "go" (by decide +kernel), w h⟩
  case ask n i' c ss => exact ⟨_, _, _, rfl, lt "ask" (by decide +kernel), i h.1⟩
  case change n i' => exact ⟨_, _, _, rfl, lt "change" (by decide +kernel), i h.1⟩
  case fire t c => exact ⟨_, _, _, rfl, lt "fire" (by decide +kernel), w h.1⟩
  case rush t c => exact ⟨_, _, _, rfl, lt "rush" (by decide +kernel), w h.1⟩
  case serve n => exact ⟨_, _, _, rfl, lt "serve" (by decide +kernel), i h⟩
  case back n => exact ⟨_, _, _, rfl, lt "back" (by decide +kernel), i h⟩
  case strike n => exact ⟨_, _, _, rfl, lt "strike" (by decide +kernel), i h⟩
  case pay s p => exact ⟨_, _, _, rfl, lt "pay" (by decide +kernel), w h.1⟩
  case take s o p => exact ⟨_, _, _, rfl, lt "take" (by decide +kernel), w h.1⟩
  case even ss => exact ⟨_, _, _, rfl, lt "even" (by decide +kernel), (rz_ss4 h.1 h.2).mono (by omega) (by omega)⟩
/-- whether a deed asks this dish: one or none -/
theorem ask_next {dd : Dd} (h : DdR dd) {a : Int} (a0 : 0 ≤ a ∧ a ≤ 100) : ∃ x y l b, eDd dd = .tup (x :: y :: l) ∧ ∀ S, eqD false (.tup [x, y]) (.tup [.str (Str.ofString "ask"), .int a]) S = .ok (.bl b) S := by
  obtain ⟨x, y, l, e, hx, hy⟩ := dl_two h
  have r1 : Rz 13 3 (.tup [x, y]) := (rz_tup (rzs_cons hx (rzs_cons hy rzs_nil))).mono (by omega) (by omega)
  have r2 : Rz 13 3 (.tup [.str (Str.ofString "ask"), .int a]) := (rz_tup (rzs_cons (k := 1) (lit_wd "ask") (rzs_cons (rz_i (by omega) (by omega)) rzs_nil))).mono (by omega) (by omega)
  exact ⟨x, y, l, _, e, fun S => eq_rz r1 r2 (by omega) (by omega) false S⟩
structure PgT (its A B : List Str) (p : Pg) : Prop where
  n1 : 0 ≤ p.1.1 ∧ p.1.1 ≤ 100
  n2 : 0 ≤ p.1.2 ∧ p.1.2 ≤ 100
  dd : DdT its A B p.2
theorem pgs_pure : ∀ bk : List Pg, D.pures (bk.map ePg) = true
  | [] => rfl
  | p :: r => by
    rw [List.map_cons, D.pures, pgs_pure r]
    simp [ePg, eNm, D.pure, D.pures, dd_pure]
section
variable {ns : List Int} {n n0 : Nat} {st st0 X Y : AS} {m : Int} {d : D} {Q : D → AS → Prop} {E : XQ} {its A B : List Str}
/-- the end of a def that draws and tells a list that it made -/
theorem wp_retL {k : Nat} {ds : List D} (f0 : Fg ns n0 st0) (f : Fg ns n st) (hp : D.pures ds = true) (h : Q (.lst ds) (st ++ X)) : (VL.ret (k + 1) (st0 ++ X) (.ref (1 + X.length)) (st ++ (X ++ [.lst ds]))).wp Q E := by
  have l0 := f0.ln
  have l1 := f.ln
  obtain ⟨⟨a0, b0, rfl, _, _⟩, _⟩ := f0
  obtain ⟨⟨a, b, rfl, _, _⟩, _⟩ := f
  have ov : OkOver ([fdT ns a0 b0] ++ X) ([fdT ns a b] ++ (X ++ [.lst ds])) := fun j c' hj ec => by
    cases j with
    | zero =>
      have : fdT ns a b = c' := by simpa using ec
      subst this
      exact .inr (fdT_low _ _ _ _)
    | succ j =>
      refine .inl ?_
      simp only [List.singleton_append, List.getElem?_cons_succ, List.length_cons] at hj ec ⊢
      rw [List.getElem?_append_left (by omega)] at ec
      exact ec
  have hS : ([fdT ns a b] ++ (X ++ [C.lst ds]))[([fdT ns a0 b0] ++ X).length]? = some (.lst ds) := by
    rw [List.getElem?_append_right (by simp)]
    simp
  have ll : ([fdT ns a0 b0] ++ X).length = 1 + X.length := by simp; omega
  have e : VL.ret (k + 1) ([fdT ns a0 b0] ++ X) (.ref ([fdT ns a0 b0] ++ X).length) ([fdT ns a b] ++ (X ++ [C.lst ds])) = .ok (.lst ds) ([fdT ns a b] ++ X) := by
    unfold VL.ret
    rw [if_neg (by simp), frz_ref (Nat.le_refl _) hS hp, if_pos ⟨pure_low _ (by rw [D.pure]; exact hp), ov⟩]
    congr 1
    simp
  rw [← ll]
  exact wp_of e h
theorem sit_pages (f : Fg ns n st) (hn : n < 300000) (hA : 2 ≤ A.length) (hA2 : A.length ≤ 4) (hB : 2 ≤ B.length) {rt : Int} (zrt : 0 ≤ rt) (yrt : rt < B.length) {x1 x2 x3 x4 : Option D} :
    ∃ (bk : List Pg) (st1 : AS), compL (kName 11) tYesV
                (vA gTup
                  (vCons (vA gTup (vCons (vC (D.int 0)) (vCons (vVar 11) vNil)))
                    (vCons
                      (vA gTup
                        (vCons (vC (D.str (Str.ofString "sit")))
                          (vCons (v2 ixD (vVar 5) (vVar 11))
                            (vCons
                              (v2 ixD (vVar 6)
                                (v2 subD (vVar 7)
                                  (v2 fdivD
                                    (vCallA 2 0 [] [Src.pos 0, Src.pos 1] F__law_next_24af
                                      (vCons (vVar 0) (vCons (vC (D.int 5)) vNil)) vNil)
                                    (vC (D.int 4)))))
                              vNil))))
                      vNil))) [some (.ref 0), x1, x2, x3, x4, some (.lst (A.map D.str)), some (.lst (B.map D.str)), some (.int rt), none, none, none, none, none, none] [] (rgL A.length 0) (st ++ X) = .ok (bk.map ePg) (st1 ++ X) ∧ bk.length ≤ 4 ∧ (∀ p ∈ bk, PgT its A B p) ∧ st1.length = 1 ∧ Fg ns (n + 20) st1 := by
  have DO : True := trivial
  suffices w : (compL (kName 11) tYesV
                (vA gTup
                  (vCons (vA gTup (vCons (vC (D.int 0)) (vCons (vVar 11) vNil)))
                    (vCons
                      (vA gTup
                        (vCons (vC (D.str (Str.ofString "sit")))
                          (vCons (v2 ixD (vVar 5) (vVar 11))
                            (vCons
                              (v2 ixD (vVar 6)
                                (v2 subD (vVar 7)
                                  (v2 fdivD
                                    (vCallA 2 0 [] [Src.pos 0, Src.pos 1] F__law_next_24af
                                      (vCons (vVar 0) (vCons (vC (D.int 5)) vNil)) vNil)
                                    (vC (D.int 4)))))
                              vNil))))
                      vNil))) [some (.ref 0), x1, x2, x3, x4, some (.lst (A.map D.str)), some (.lst (B.map D.str)), some (.int rt), none, none, none, none, none, none] [] (rgL A.length 0) (st ++ X)).wp (fun ds S => Hold (∃ (bk : List Pg) (st1 : AS), ds = bk.map ePg ∧ S = st1 ++ X ∧ bk.length ≤ 4 ∧ (∀ p ∈ bk, PgT its A B p) ∧ st1.length = 1 ∧ Fg ns (n + 20) st1)) noX by
    obtain ⟨d, S, e, bk, st1, rfl, rfl, h⟩ := w.eq
    exact ⟨bk, st1, e, h⟩
  refine wp_comp0 (fun ds acc S => Hold (∃ (bk : List Pg) (st : AS), ds = rgL A.length bk.length ∧ acc = bk.map ePg ∧ bk.length ≤ A.length ∧ (∀ p ∈ bk, PgT its A B p) ∧ S = st ++ X ∧ Fg ns (n + 5 + 2 * bk.length) st)) ?_ ?_ ?_
  · exact ⟨[], st, rfl, rfl, by simp, by simp, rfl, f.mono (by simp)⟩
  · rintro d ds acc S ⟨bk, st, e1, e3, bl, bo, e4, f⟩
    subst e3
    subst e4
    obtain ⟨hj, rfl, rfl⟩ := rgL_at e1
    have ln := f.ln
    try simp -dsimp -implicitDefEqProofs [-ixD, -Int.toNat_natCast, ↓wp_bind, ↓wp_fl, ↓wp_ite, ↓wp_fite, ↓wp_v1, ↓wp_v2, ↓wp_vB, ↓wp_vNil, ↓wp_vCons, ↓wp_vA, ↓wp_vAnd, ↓wp_vOr, ↓wp_vNot, ↓wp_vIfE, ↓wp_vSl, ↓wp_vML, ↓wp_vMD, ↓wp_vCallA, ↓wp_vLc, ↓wp_vDisp, ↓wp_vPs0, ↓wp_vPs1, ↓wp_kSub, ↓wp_kName, ↓wp_seq, ↓wp_next, ↓wp_sBreak, ↓wp_sCont, ↓wp_expr, ↓wp_ret, ↓wp_if, ↓wp_set, ↓wp_asg, ↓wp_par, ↓wp_par3, ↓wp_skill, ↓wp_sfor, ↓wp_vFn, mk, le_line, lt_line, cdiv_ok, tl_get, tl_get0, tl_set, tl_set0, ixt0, ixt1, ixt2, ixt3, ixt4, ixc0, ixc1, ixc2, ixc3, ixc4, ixl0, ixl1, ixl2, ixl3, ixl4]
    refine wp_ixS (by omega) (by omega) ?_
    intro s hs
    try simp -dsimp -implicitDefEqProofs [-ixD, -Int.toNat_natCast, ↓wp_bind, ↓wp_fl, ↓wp_ite, ↓wp_fite, ↓wp_v1, ↓wp_v2, ↓wp_vB, ↓wp_vNil, ↓wp_vCons, ↓wp_vA, ↓wp_vAnd, ↓wp_vOr, ↓wp_vNot, ↓wp_vIfE, ↓wp_vSl, ↓wp_vML, ↓wp_vMD, ↓wp_vCallA, ↓wp_vLc, ↓wp_vDisp, ↓wp_vPs0, ↓wp_vPs1, ↓wp_kSub, ↓wp_kName, ↓wp_seq, ↓wp_next, ↓wp_sBreak, ↓wp_sCont, ↓wp_expr, ↓wp_ret, ↓wp_if, ↓wp_set, ↓wp_asg, ↓wp_par, ↓wp_par3, ↓wp_skill, ↓wp_sfor, ↓wp_vFn, mk, le_line, lt_line, cdiv_ok, tl_get, tl_get0, tl_set, tl_set0, ixt0, ixt1, ixt2, ixt3, ixt4, ixc0, ixc1, ixc2, ixc3, ixc4, ixl0, ixl1, ixl2, ixl3, ixl4]
    refine wp_draw DO f (by omega) (by omega) (by omega) ?_; intro r5 st zr5 yr5 ln f
    try simp -dsimp -implicitDefEqProofs [-ixD, -Int.toNat_natCast, ↓wp_bind, ↓wp_fl, ↓wp_ite, ↓wp_fite, ↓wp_v1, ↓wp_v2, ↓wp_vB, ↓wp_vNil, ↓wp_vCons, ↓wp_vA, ↓wp_vAnd, ↓wp_vOr, ↓wp_vNot, ↓wp_vIfE, ↓wp_vSl, ↓wp_vML, ↓wp_vMD, ↓wp_vCallA, ↓wp_vLc, ↓wp_vDisp, ↓wp_vPs0, ↓wp_vPs1, ↓wp_kSub, ↓wp_kName, ↓wp_seq, ↓wp_next, ↓wp_sBreak, ↓wp_sCont, ↓wp_expr, ↓wp_ret, ↓wp_if, ↓wp_set, ↓wp_asg, ↓wp_par, ↓wp_par3, ↓wp_skill, ↓wp_sfor, ↓wp_vFn, mk, le_line, lt_line, cdiv_ok, tl_get, tl_get0, tl_set, tl_set0, ixt0, ixt1, ixt2, ixt3, ixt4, ixc0, ixc1, ixc2, ixc3, ixc4, ixl0, ixl1, ixl2, ixl3, ixl4]
    refine wp_ixB (by omega) (by omega) (by omega) ?_
    intro t ht
    try simp -dsimp -implicitDefEqProofs [-ixD, -Int.toNat_natCast, ↓wp_bind, ↓wp_fl, ↓wp_ite, ↓wp_fite, ↓wp_v1, ↓wp_v2, ↓wp_vB, ↓wp_vNil, ↓wp_vCons, ↓wp_vA, ↓wp_vAnd, ↓wp_vOr, ↓wp_vNot, ↓wp_vIfE, ↓wp_vSl, ↓wp_vML, ↓wp_vMD, ↓wp_vCallA, ↓wp_vLc, ↓wp_vDisp, ↓wp_vPs0, ↓wp_vPs1, ↓wp_kSub, ↓wp_kName, ↓wp_seq, ↓wp_next, ↓wp_sBreak, ↓wp_sCont, ↓wp_expr, ↓wp_ret, ↓wp_if, ↓wp_set, ↓wp_asg, ↓wp_par, ↓wp_par3, ↓wp_skill, ↓wp_sfor, ↓wp_vFn, mk, le_line, lt_line, cdiv_ok, tl_get, tl_get0, tl_set, tl_set0, ixt0, ixt1, ixt2, ixt3, ixt4, ixc0, ixc1, ixc2, ixc3, ixc4, ixl0, ixl1, ixl2, ixl3, ixl4]
    refine ⟨bk ++ [((0, (bk.length : Int)), .sit s t)], st, by simp, by simp [ePg, eNm, eDd], by simp; omega, fun p hp => ?_, rfl, f.mono (by simp; omega)⟩
    rcases List.mem_append.mp hp with hp | hp
    · exact bo p hp
    · rw [List.mem_singleton.mp hp]
      exact ⟨by simp, by simp; omega, hs, ht⟩
  rintro acc S ⟨bk, st, e1, e3, bl, bo, e4, f⟩
  exact ⟨bk, st, e3, e4, by omega, bo, f.ln, f.mono (by omega)⟩
theorem f_pages (f : Fg ns n st) (hn : n < 290000) {ms : Menu} {od : D} {ha hb : Int} (m0 : 0 < ms.length) (m4 : ms.length ≤ 4) (hA : 2 ≤ A.length) (hA2 : A.length ≤ 4) (hB : 2 ≤ B.length) (hB2 : B.length ≤ 4)
    (wi : ∀ r ∈ ms, wdOk r.1 = true) (wA : ∀ s ∈ A, wdOk s = true) (wB : ∀ s ∈ B, wdOk s = true) {k : Nat} (k17 : k ≤ 17) :
    ∃ (bk : List Pg) (st1 : AS), F__law_pages_94fd [.ref 0, .tup [eMenu ms, od, .int ha, .int hb], .tup [.lst (A.map D.str), .lst (B.map D.str)], .int k] (st ++ X) = .ok (.lst (bk.map ePg)) (st1 ++ X) ∧ bk.length ≤ 21 ∧ (∀ p ∈ bk, PgT (ms.map (·.1)) A B p) ∧ st1.length = 1 ∧ Fg ns (n + 2000) st1 := by
  suffices w : (F__law_pages_94fd [.ref 0, .tup [eMenu ms, od, .int ha, .int hb], .tup [.lst (A.map D.str), .lst (B.map D.str)], .int k] (st ++ X)).wp (fun d S => Hold (∃ (bk : List Pg) (st1 : AS), d = .lst (bk.map ePg) ∧ S = st1 ++ X ∧ bk.length ≤ 21 ∧ (∀ p ∈ bk, PgT (ms.map (·.1)) A B p) ∧ st1.length = 1 ∧ Fg ns (n + 2000) st1)) noX by
    obtain ⟨d, S, e, bk, st1, rfl, rfl, h⟩ := w.eq
    exact ⟨bk, st1, e, h⟩
  have f0 := f
  have ln := f.ln
  have DO : True := trivial
  have itm := fun S => it_menu (me := ms) (st := S)
  have itl : (ms.map (·.1)).length = ms.length := by simp
  unfold F__law_pages_94fd
  rw [wp_vFn]; simp only [List.map_cons, List.map_nil, List.length_cons, List.length_nil, Nat.reduceAdd, Nat.reduceSub, List.replicate_succ, List.replicate_zero, List.cons_append, List.nil_append]
  unfold B__law_pages_94fd
  try simp -dsimp -implicitDefEqProofs [-ixD, -Int.toNat_natCast, ↓wp_bind, ↓wp_fl, ↓wp_ite, ↓wp_fite, ↓wp_v1, ↓wp_v2, ↓wp_vB, ↓wp_vNil, ↓wp_vCons, ↓wp_vA, ↓wp_vAnd, ↓wp_vOr, ↓wp_vNot, ↓wp_vIfE, ↓wp_vSl, ↓wp_vML, ↓wp_vMD, ↓wp_vCallA, ↓wp_vLc, ↓wp_vDisp, ↓wp_vPs0, ↓wp_vPs1, ↓wp_kSub, ↓wp_kName, ↓wp_seq, ↓wp_next, ↓wp_sBreak, ↓wp_sCont, ↓wp_expr, ↓wp_ret, ↓wp_if, ↓wp_set, ↓wp_asg, ↓wp_par, ↓wp_par3, ↓wp_skill, ↓wp_sfor, ↓wp_vFn, mk, le_line, lt_line, cdiv_ok, tl_get, tl_get0, tl_set, tl_set0, ixt0, ixt1, ixt2, ixt3, ixt4, ixc0, ixc1, ixc2, ixc3, ixc4, ixl0, ixl1, ixl2, ixl3, ixl4, -itD, itm, show ms.length ≤ 16000000 by omega]
  refine wp_of (comp_r0 (by simp)) ?_
  have wi' : ∀ s ∈ ms.map (·.1), wdOk s = true := fun s hs => by
    obtain ⟨r, hr, rfl⟩ := List.mem_map.mp hs
    exact wi r hr
  generalize hits : ms.map (·.1) = its at *
  try simp -dsimp -implicitDefEqProofs [-ixD, -Int.toNat_natCast, ↓wp_bind, ↓wp_fl, ↓wp_ite, ↓wp_fite, ↓wp_v1, ↓wp_v2, ↓wp_vB, ↓wp_vNil, ↓wp_vCons, ↓wp_vA, ↓wp_vAnd, ↓wp_vOr, ↓wp_vNot, ↓wp_vIfE, ↓wp_vSl, ↓wp_vML, ↓wp_vMD, ↓wp_vCallA, ↓wp_vLc, ↓wp_vDisp, ↓wp_vPs0, ↓wp_vPs1, ↓wp_kSub, ↓wp_kName, ↓wp_seq, ↓wp_next, ↓wp_sBreak, ↓wp_sCont, ↓wp_expr, ↓wp_ret, ↓wp_if, ↓wp_set, ↓wp_asg, ↓wp_par, ↓wp_par3, ↓wp_skill, ↓wp_sfor, ↓wp_vFn, mk, le_line, lt_line, cdiv_ok, tl_get, tl_get0, tl_set, tl_set0, ixt0, ixt1, ixt2, ixt3, ixt4, ixc0, ixc1, ixc2, ixc3, ixc4, ixl0, ixl1, ixl2, ixl3, ixl4, show its.length ≤ 16000000 by omega, show A.length ≤ 16000000 by omega, show B.length ≤ 16000000 by omega]
  refine wp_draw DO f (by omega) (by omega) (by omega) ?_; intro rt st zrt yrt ln f
  try simp -dsimp -implicitDefEqProofs [-ixD, -Int.toNat_natCast, ↓wp_bind, ↓wp_fl, ↓wp_ite, ↓wp_fite, ↓wp_v1, ↓wp_v2, ↓wp_vB, ↓wp_vNil, ↓wp_vCons, ↓wp_vA, ↓wp_vAnd, ↓wp_vOr, ↓wp_vNot, ↓wp_vIfE, ↓wp_vSl, ↓wp_vML, ↓wp_vMD, ↓wp_vCallA, ↓wp_vLc, ↓wp_vDisp, ↓wp_vPs0, ↓wp_vPs1, ↓wp_kSub, ↓wp_kName, ↓wp_seq, ↓wp_next, ↓wp_sBreak, ↓wp_sCont, ↓wp_expr, ↓wp_ret, ↓wp_if, ↓wp_set, ↓wp_asg, ↓wp_par, ↓wp_par3, ↓wp_skill, ↓wp_sfor, ↓wp_vFn, mk, le_line, lt_line, cdiv_ok, tl_get, tl_get0, tl_set, tl_set0, ixt0, ixt1, ixt2, ixt3, ixt4, ixc0, ixc1, ixc2, ixc3, ixc4, ixl0, ixl1, ixl2, ixl3, ixl4, rng1_ok (j := (A.length : Int)) (by omega) (by omega), Int.toNat_natCast, show A.length ≤ 16000000 by omega]
  simp only [Int.toNat_natCast, rgL_0]
  obtain ⟨bk, st, e1, bl, bo, ln, f⟩ := sit_pages (X := X) (its := its) (A := A) (B := B) f (by omega) hA hA2 hB zrt yrt (x1 := some (.tup [eMenu ms, od, .int ha, .int hb])) (x2 := some (.tup [.lst (A.map D.str), .lst (B.map D.str)])) (x3 := some (.int k)) (x4 := some (.lst (its.map D.str)))
  refine wp_of e1 ?_
  have k9 : (0 : Int) ≤ k ∧ (k : Int) ≤ 17 := by omega
  try simp -dsimp -implicitDefEqProofs [-ixD, -Int.toNat_natCast, ↓wp_bind, ↓wp_fl, ↓wp_ite, ↓wp_fite, ↓wp_v1, ↓wp_v2, ↓wp_vB, ↓wp_vNil, ↓wp_vCons, ↓wp_vA, ↓wp_vAnd, ↓wp_vOr, ↓wp_vNot, ↓wp_vIfE, ↓wp_vSl, ↓wp_vML, ↓wp_vMD, ↓wp_vCallA, ↓wp_vLc, ↓wp_vDisp, ↓wp_vPs0, ↓wp_vPs1, ↓wp_kSub, ↓wp_kName, ↓wp_seq, ↓wp_next, ↓wp_sBreak, ↓wp_sCont, ↓wp_expr, ↓wp_ret, ↓wp_if, ↓wp_set, ↓wp_asg, ↓wp_par, ↓wp_par3, ↓wp_skill, ↓wp_sfor, ↓wp_vFn, mk, le_line, lt_line, cdiv_ok, tl_get, tl_get0, tl_set, tl_set0, ixt0, ixt1, ixt2, ixt3, ixt4, ixc0, ixc1, ixc2, ixc3, ixc4, ixl0, ixl1, ixl2, ixl3, ixl4, ln, rng1_ok (j := (k : Int)) (by omega) (by omega), Int.toNat_natCast, show bk.length ≤ 16000000 by omega]
  simp only [Int.toNat_natCast, rgL_0]
  have bl0 := bl
  refine wp_for0 (fun ds env S => Hold (∃ (bk : List Pg) (mi ak : Int) (j : Nat) (st : AS), ds = rgL k j ∧ bk.length ≤ 4 + j ∧ j ≤ k ∧ (0 ≤ mi ∧ mi ≤ 3 * j) ∧ (0 ≤ ak ∧ ak ≤ j) ∧ env = [some (.ref 0), some (.tup [eMenu ms, od, .int ha, .int hb]), some (.tup [.lst (A.map D.str), .lst (B.map D.str)]), some (.int k), some (.lst (its.map D.str)), some (.lst (A.map D.str)), some (.lst (B.map D.str)), some (.int rt), some (.ref (1 + X.length)), some (.int mi), some (.int ak), none, none, none] ∧ S = st ++ (X ++ [.lst (bk.map ePg)]) ∧ Fg ns (n + 30 + 50 * j) st ∧ ∀ p ∈ bk, PgT its A B p)) ?_ ?_ ?_
  · exact ⟨bk, 0, 0, 0, st, rfl, by omega, by omega, by omega, by omega, rfl, rfl, f.mono (by omega), bo⟩
  · rintro d ds env S ⟨bk, mi, ak, j, st, e1, bl, jk, hmi, hak, e4, e5, f, bo⟩
    subst e4
    subst e5
    obtain ⟨hj, rfl, rfl⟩ := rgL_at e1
    have ln := f.ln
    try simp -dsimp -implicitDefEqProofs [-ixD, -Int.toNat_natCast, ↓wp_bind, ↓wp_fl, ↓wp_ite, ↓wp_fite, ↓wp_v1, ↓wp_v2, ↓wp_vB, ↓wp_vNil, ↓wp_vCons, ↓wp_vA, ↓wp_vAnd, ↓wp_vOr, ↓wp_vNot, ↓wp_vIfE, ↓wp_vSl, ↓wp_vML, ↓wp_vMD, ↓wp_vCallA, ↓wp_vLc, ↓wp_vDisp, ↓wp_vPs0, ↓wp_vPs1, ↓wp_kSub, ↓wp_kName, ↓wp_seq, ↓wp_next, ↓wp_sBreak, ↓wp_sCont, ↓wp_expr, ↓wp_ret, ↓wp_if, ↓wp_set, ↓wp_asg, ↓wp_par, ↓wp_par3, ↓wp_skill, ↓wp_sfor, ↓wp_vFn, mk, le_line, lt_line, cdiv_ok, tl_get, tl_get0, tl_set, tl_set0, ixt0, ixt1, ixt2, ixt3, ixt4, ixc0, ixc1, ixc2, ixc3, ixc4, ixl0, ixl1, ixl2, ixl3, ixl4]
    refine wp_draw DO f (by omega) (by omega) (by omega) ?_; intro r6 st zr6 yr6 ln f
    try simp -dsimp -implicitDefEqProofs [-ixD, -Int.toNat_natCast, ↓wp_bind, ↓wp_fl, ↓wp_ite, ↓wp_fite, ↓wp_v1, ↓wp_v2, ↓wp_vB, ↓wp_vNil, ↓wp_vCons, ↓wp_vA, ↓wp_vAnd, ↓wp_vOr, ↓wp_vNot, ↓wp_vIfE, ↓wp_vSl, ↓wp_vML, ↓wp_vMD, ↓wp_vCallA, ↓wp_vLc, ↓wp_vDisp, ↓wp_vPs0, ↓wp_vPs1, ↓wp_kSub, ↓wp_kName, ↓wp_seq, ↓wp_next, ↓wp_sBreak, ↓wp_sCont, ↓wp_expr, ↓wp_ret, ↓wp_if, ↓wp_set, ↓wp_asg, ↓wp_par, ↓wp_par3, ↓wp_skill, ↓wp_sfor, ↓wp_vFn, mk, le_line, lt_line, cdiv_ok, tl_get, tl_get0, tl_set, tl_set0, ixt0, ixt1, ixt2, ixt3, ixt4, ixc0, ixc1, ixc2, ixc3, ixc4, ixl0, ixl1, ixl2, ixl3, ixl4]
    obtain ⟨dd, st, e7, ok, ln, f⟩ := f_deed (X := X ++ [.lst (bk.map ePg)]) (its := its) (A := A) (B := B) (as_ := ak) f (by omega) (by omega) (by omega) hak.1 (by omega) (by omega) hA2 (by omega) hB2
    refine wp_of e7 ?_
    have okr := ddr_of wi' wA wB ok
    obtain ⟨x, y, l, b, e8, eq⟩ := ask_next okr (a := ak) (by omega)
    have sl : ∀ S, slD false (eDd dd) none (some 2) S = .ok (.tup [x, y]) S := fun S => by
      rw [e8]
      unfold slD
      dsimp only
      rw [cut_to _ _ (by decide)]
      rfl
    have gl : (st ++ (X ++ [C.lst (bk.map ePg)]))[1 + X.length]? = some (.lst (bk.map ePg)) := by
      rw [List.getElem?_append_right (by omega), ln]
      simp
    have sset : ∀ c, (st ++ (X ++ [C.lst (bk.map ePg)])).set (1 + X.length) c = st ++ (X ++ [c]) := fun c => by
      rw [List.set_append_right _ _ (by omega), ln]
      simp
    have bl2 : (bk.map ePg).length < 16000000 := by rw [List.length_map]; omega
    have e9 : bk.map ePg ++ [.tup [.tup [.int (mi + r6), .int ((bk.map ePg).length : Nat)], eDd dd]] = (bk ++ [((mi + r6, (bk.length : Int)), dd)]).map ePg := by simp [ePg, eNm]
    have pgo : ∀ p ∈ bk ++ [((mi + r6, (bk.length : Int)), dd)], PgT its A B p := fun p hp => by
      rcases List.mem_append.mp hp with hp | hp
      · exact bo p hp
      · rw [List.mem_singleton.mp hp]
        exact ⟨by show 0 ≤ mi + r6 ∧ mi + r6 ≤ 100; omega, by show (0 : Int) ≤ bk.length ∧ (bk.length : Int) ≤ 100; omega, ok⟩
    have fin2 : ∀ z : Int, 0 ≤ z ∧ z ≤ 1 → Hold (∃ (bk' : List Pg) (mi' ak' : Int) (j' : Nat) (st' : AS), rgL k (j + 1) = rgL k j' ∧ bk'.length ≤ 4 + j' ∧ j' ≤ k ∧ (0 ≤ mi' ∧ mi' ≤ 3 * j') ∧ (0 ≤ ak' ∧ ak' ≤ j') ∧ ([some (.ref 0), some (.tup [eMenu ms, od, .int ha, .int hb]), some (.tup [.lst (A.map D.str), .lst (B.map D.str)]), some (.int k), some (.lst (its.map D.str)), some (.lst (A.map D.str)), some (.lst (B.map D.str)), some (.int rt), some (.ref (1 + X.length)), some (.int (mi + r6)), some (.int (ak + z)), none, none, none] : En) = [some (.ref 0), some (.tup [eMenu ms, od, .int ha, .int hb]), some (.tup [.lst (A.map D.str), .lst (B.map D.str)]), some (.int k), some (.lst (its.map D.str)), some (.lst (A.map D.str)), some (.lst (B.map D.str)), some (.int rt), some (.ref (1 + X.length)), some (.int mi'), some (.int ak'), none, none, none] ∧ st ++ (X ++ [.lst (bk.map ePg ++ [.tup [.tup [.int (mi + r6), .int ((bk.map ePg).length : Nat)], eDd dd]])]) = st' ++ (X ++ [.lst (bk'.map ePg)]) ∧ Fg ns (n + 30 + 50 * j') st' ∧ ∀ p ∈ bk', PgT its A B p) := fun z hz =>
      ⟨bk ++ [((mi + r6, (bk.length : Int)), dd)], mi + r6, ak + z, j + 1, st, rfl, by simp; omega, by omega, by omega, by omega, rfl, by rw [e9], f.mono (by omega), pgo⟩
    generalize bk.map ePg = pd at *
    try simp -dsimp -implicitDefEqProofs [-ixD, -Int.toNat_natCast, ↓wp_bind, ↓wp_fl, ↓wp_ite, ↓wp_fite, ↓wp_v1, ↓wp_v2, ↓wp_vB, ↓wp_vNil, ↓wp_vCons, ↓wp_vA, ↓wp_vAnd, ↓wp_vOr, ↓wp_vNot, ↓wp_vIfE, ↓wp_vSl, ↓wp_vML, ↓wp_vMD, ↓wp_vCallA, ↓wp_vLc, ↓wp_vDisp, ↓wp_vPs0, ↓wp_vPs1, ↓wp_kSub, ↓wp_kName, ↓wp_seq, ↓wp_next, ↓wp_sBreak, ↓wp_sCont, ↓wp_expr, ↓wp_ret, ↓wp_if, ↓wp_set, ↓wp_asg, ↓wp_par, ↓wp_par3, ↓wp_skill, ↓wp_sfor, ↓wp_vFn, mk, le_line, lt_line, cdiv_ok, tl_get, tl_get0, tl_set, tl_set0, ixt0, ixt1, ixt2, ixt3, ixt4, ixc0, ixc1, ixc2, ixc3, ixc4, ixl0, ixl1, ixl2, ixl3, ixl4, -slD, sl, -eqD, eq, gl, sset, bl2]
    dsimp only [killE, List.set_cons_succ, List.set_cons_zero]
    exact fin2 (if b = true then 1 else 0) (by cases b <;> simp)
  · rintro env S ⟨bk, mi, ak, j, st, e1, bl, jk, hmi, hak, e4, e5, f, bo⟩
    subst e4
    subst e5
    have ln := f.ln
    try simp -dsimp -implicitDefEqProofs [-ixD, -Int.toNat_natCast, ↓wp_bind, ↓wp_fl, ↓wp_ite, ↓wp_fite, ↓wp_v1, ↓wp_v2, ↓wp_vB, ↓wp_vNil, ↓wp_vCons, ↓wp_vA, ↓wp_vAnd, ↓wp_vOr, ↓wp_vNot, ↓wp_vIfE, ↓wp_vSl, ↓wp_vML, ↓wp_vMD, ↓wp_vCallA, ↓wp_vLc, ↓wp_vDisp, ↓wp_vPs0, ↓wp_vPs1, ↓wp_kSub, ↓wp_kName, ↓wp_seq, ↓wp_next, ↓wp_sBreak, ↓wp_sCont, ↓wp_expr, ↓wp_ret, ↓wp_if, ↓wp_set, ↓wp_asg, ↓wp_par, ↓wp_par3, ↓wp_skill, ↓wp_sfor, ↓wp_vFn, mk, le_line, lt_line, cdiv_ok, tl_get, tl_get0, tl_set, tl_set0, ixt0, ixt1, ixt2, ixt3, ixt4, ixc0, ixc1, ixc2, ixc3, ixc4, ixl0, ixl1, ixl2, ixl3, ixl4]
    refine wp_retL f0 f (pgs_pure bk) ?_
    exact ⟨bk, st, rfl, rfl, by omega, bo, ln, f.mono (by omega)⟩
end
end TG
set_option Elab.async false
set_option linter.all false
set_option maxRecDepth 100000
/-! The value layer: dict(pairs) of a known tuple of pairs, the keys ints or texts. -/
namespace VL
open PySem PySem.Spec PyProof.Rows L2 TB
section
variable {X : Cx} {E : XK} {pins : List (Addr × Obj)} {σ : L2.St} {H : Hp} {s : Shared}
abbrev PrsK (K : PySem.W.Frag) (H : Hp) : List V → List (Key × V) → Prop := Paired fun y kv => ∃ t, y = V.ref t ∧ SqT K H t [kV kv.1, kv.2]
theorem prsK_of (I : Inv X pins σ H s) : ∀ {ys : List V} {kvs : List (Key × V)}, PrsK X.K H ys kvs → ∃ (ts : List Addr) (qs : List (Key × Value × Value)), ys = ts.map V.ref ∧ KV kvs (qs.map fun q => (q.1, q.2.2)) ∧ ts.length = qs.length ∧
    ∀ (j : Nat) (q : Key × Value × Value), qs[j]? = some q → keyIs q.1 q.2.1 = true ∧ ∃ t : Addr, ts[j]? = some t ∧ IsTup s.heap t #[q.2.1, q.2.2]
  | _, _, .nil => ⟨[], [], rfl, .nil, rfl, fun j q e => by simp at e⟩
  | _, _, .cons (b := kv) h t => by
    obtain ⟨ts, qs, e, r, hl, hp⟩ := prsK_of I t
    obtain ⟨a, rfl, h1⟩ := h
    obtain ⟨its, rv, ht, _⟩ := I.tuple h1
    obtain ⟨u, y, ei, ru, ry⟩ := vals2 rv
    subst ei
    refine ⟨a :: ts, (kv.1, u, y) :: qs, by rw [e, List.map_cons], .cons ⟨rfl, ry⟩ r, by rw [List.length_cons, List.length_cons, hl], fun j q e => ?_⟩
    cases j with
    | zero =>
      have e' : (kv.1, u, y) = q := Option.some.inj e
      subst e'
      exact ⟨rel_key ru, a, rfl, ht⟩
    | succ j => exact hp j q (by simpa using e)
theorem length_mergeK : ∀ (more kvs : List (Key × V)), (mergeK kvs more).length ≤ kvs.length + more.length
  | [], kvs => Nat.le_refl _
  | p :: ps, kvs => by
    have a := length_mergeK ps (putK kvs p.1 p.2)
    have b := length_putK kvs p.1 p.2
    show (mergeK (putK kvs p.1 p.2) ps).length ≤ _
    rw [List.length_cons]
    omega
/-- dict(xs) of a known tuple of pairs (key, value): later pairs win, the place is the first one's -/
theorem call_dictK (hcalm : X.calm = true) : CallR X (.type "dict") (fun xs H Q => ∃ (a : Addr) (ys : List V) (kvs : List (Key × V)), xs = [.ref a] ∧ KnT X.K H a ys ∧ PrsK X.K H ys kvs ∧
    ∀ p, H p = none → Q (.ref p) (upd H p (.dK (mergeK [] kvs)))) := by
  intro pins s σ H xs us Q I r q
  obtain ⟨a, ys, kvs, rfl, hq, hp, q⟩ := q
  obtain ⟨u, rfl, rx⟩ := vals1 r
  cases rx
  obtain ⟨its, rv, pl, hz⟩ := hq.get I
  obtain ⟨ts, qs, rfl, rel, hl, hpr⟩ := prsK_of I hp
  have ei := refs_at rv
  subst ei
  rw [List.length_map] at hz
  refine PySem.call_dict_pairs (knd := mixKind X.prog X.w) (kvs := qs.map fun q => (q.1, q.2.2)) (PairArg.tuple a _ (fun j => (ts[j]?).getD 0) (qs.map fun q => q.2)) (I.ok.hd hcalm) ⟨pl, ?_, ?_⟩ ⟨by simp, ?_⟩ (by simp; rw [← hl]; exact hz) fun h' tk hd' k => ?_
  · simp [hl]
  · intro j k v hj
    rw [List.getElem?_map] at hj
    obtain ⟨q', e1, e2⟩ := Option.map_eq_some_iff.mp hj
    obtain ⟨e0, t, e3, e4⟩ := hpr j q' e1
    rw [show q'.2 = (k, v) from e2] at e4
    obtain ⟨o, g1, g2, n, g3⟩ := e4
    have e5 : ts[j]?.getD 0 = t := by rw [e3]; rfl
    rw [show (fun j => ts[j]?.getD 0) j = t from e5]
    exact ⟨by simp [e3], .inl ⟨o, g1, g2, n, g3⟩⟩
  · intro i key v hi
    rw [PairRel, List.getElem?_map] at hi
    obtain ⟨q', e1, e2⟩ := Option.map_eq_some_iff.mp hi
    obtain ⟨e0, _⟩ := hpr i q' e1
    refine ⟨q'.1, by rw [List.getElem?_map, e1]; simp [show q'.2 = (key, v) from e2], ?_⟩
    rw [show q'.2.1 = key from congrArg Prod.fst e2] at e0
    exact e0
  · have hm : (s.heap.objs.size == sysModules) = false := beq_eq_false_iff_ne.mpr (Nat.ne_of_gt I.big)
    have hf := I.hok.fresh (Nat.le_refl s.heap.objs.size)
    have hlen : (mergeK [] kvs).length ≤ sizeLine := by
      refine Nat.le_trans (length_mergeK kvs []) ?_
      rw [List.length_nil, Nat.zero_add, Paired.length rel, List.length_map, ← hl]
      exact hz
    exact ⟨.ref s.heap.objs.size, upd H s.heap.objs.size (.dK (mergeK [] kvs)), I.laid (t' := tk) (fun b o e => k b o (by simp) e) (Nat.le_refl _) (show ObjOk X.prog X.w _ _ _ (.dK (mergeK [] kvs)) from ⟨hlen, hm, _, KV.merge rel .nil, hd'⟩), rfl, q _ hf⟩
/-! the D side -/
def pairKD (d : D) : Option (Key × D) := match d with
  | .tup [.str k, v] => some (.inr k, v)
  | .tup [.int k, v] => some (.inl k, v)
  | _ => none
def pairsKD : List D → Option (List (Key × D))
  | [] => some []
  | d :: ds => match pairKD d, pairsKD ds with
    | some k, some ks => some (k :: ks)
    | _, _ => none
def dictKD (x : D) (st : AS) : Out D := match x with
  | .ctp ds => (match pairsKD ds with
    | some kvs => .ok (.ref st.length) (st ++ [.dct (mergeKD [] kvs)])
    | none => .bad)
  | _ => .bad
theorem pairKD_ok {K : PySem.W.Frag} {H : Hp} {β : Bt} {d : D} {u : V} {kv : Key × D} (r : Rep K H β d u) (h : pairKD d = some kv) : ∃ t v, u = .ref t ∧ SqT K H t [kV kv.1, v] ∧ Rep K H β kv.2 v := by
  unfold pairKD at h
  split at h
  · cases h
    cases r with
    | tup _ h1 r =>
      obtain ⟨x, y, rfl, rx, ry⟩ := two_ok r
      cases rx
      exact ⟨_, y, rfl, .inl (.inl h1), ry⟩
  · cases h
    cases r with
    | tup _ h1 r =>
      obtain ⟨x, y, rfl, rx, ry⟩ := two_ok r
      cases rx
      exact ⟨_, y, rfl, .inl (.inl h1), ry⟩
  · cases h
theorem pairsKD_ok {K : PySem.W.Frag} {H : Hp} {β : Bt} : ∀ {ds : List D} {us : List V} {kvs : List (Key × D)}, Reps K H β ds us → pairsKD ds = some kvs → ∃ ws : List (Key × V), PrsK K H us ws ∧ RepK K H β kvs ws
  | [], _, _, .nil, h => by
    cases h
    exact ⟨[], .nil, RepK.nil⟩
  | d :: ds, _, kvs, .cons r t, h => by
    unfold pairsKD at h
    split at h
    · rename_i k ks e1 e2
      cases h
      obtain ⟨ws, p, q⟩ := pairsKD_ok t e2
      obtain ⟨t', v, rfl, h1, rv⟩ := pairKD_ok r e1
      exact ⟨(k.1, v) :: ws, .cons ⟨t', rfl, h1⟩ p, by simp [q.1], .cons rv q.2⟩
    · cases h
theorem ob_dictK (hcalm : X.calm = true) : OkB X E (.type "dict") (g1 dictKD) := ⟨_, call_dictK hcalm, fun β H st xs us Q S r h => by
  obtain ⟨x, u, rfl, rx, h⟩ := g1_ok r h
  unfold dictKD at h
  split at h
  · rename_i ds
    split at h
    · rename_i kvs e
      cases rx with
      | ctp hc r2 =>
        obtain ⟨ws, p, q⟩ := pairsKD_ok r2 e
        refine ⟨_, _, ws, rfl, ?_, p, fun l hl => ?_⟩
        · rcases hc with hc | ⟨_, o, h1, h2⟩
          · exact .inl hc
          · exact .inr ⟨o, h1, h2⟩
        · have xx : Ext β H (β.push l) (upd H l (.dK (mergeK [] ws))) := ext_push hl
          exact h (β.push l) _ (.ref l) xx (S.push hl ⟨_, upd_same, (RepK.merge q RepK.nil).ext xx⟩) (.ref (by rw [← S.len]; simp [Bt.push]))
    · exact h.elim
  · exact h.elim⟩
end
end VL
set_option Elab.async false
set_option linter.all false
set_option maxRecDepth 100000
set_option maxHeartbeats 2000000
namespace G
open PySem VL
noncomputable def B_renamed_part : En → AS → Fl :=
    (sSeq (sIf (vB (v1 (cinD false d_LEAST_SEATS) (vVar 0))) (sRet (vA (g1 tupFD) (vCons (vLc false [3] (v1 itD (vVar 1)) (kName 3) tYesV (vMD getD2 (vVar 2) (vCons (vVar 3) (vCons (vVar 3) vNil)))) vNil))) sNext)
    (sSeq (sIf (vB (v2 (inD false) (vVar 0) (vA gTup (vCons (vC (.str "seat")) (vCons (vC (.str "table")) (vCons (vC (.str "other")) vNil)))))) (sRet (vMD getD2 (vVar 2) (vCons (vVar 1) (vCons (vVar 1) vNil)))) sNext)
    (sRet (vVar 1))))
noncomputable def F_renamed_part : List D → AS → Out D := vFn 4 0 B_renamed_part
noncomputable def B_renamed_deed : En → AS → Fl :=
    (sSeq (sSet 2 (vA (gLst true) (vCons (v2 ixD (vVar 0) (vC (.int 0))) vNil)))
    (sSeq (sFor (vA zipD (vCons (v1 (cixD d_PLACES) (v2 ixD (vVar 0) (vC (.int 0)))) (vCons (vSl (slD false) (vVar 0) (v1 asI (vC (.int 1))) vNoPart) vNil))) (kTup 2 (kCons (kName 3) (kCons (kName 4) kNil))) (sKill [3, 4] (sExpr (vML appD (vVar 2) (vCons (vCallA 3 0 [] [.pos 0, .pos 1, .pos 2] F_renamed_part (vCons (vVar 3) (vCons (vVar 4) (vCons (vVar 1) vNil))) vNil) vNil)))))
    (sRet (vA (g1 tupD) (vCons (vVar 2) vNil)))))
noncomputable def F_renamed_deed : List D → AS → Out D := vFn 5 0 B_renamed_deed
noncomputable def B_renamed : En → AS → Fl :=
    (sSeq (sSet 3 (vIfE (vB (v2 (isND false) (vVar 1) (vC .non))) vDNew (vA (g1 dictKD) (vCons (vVar 1) vNil))))
    (sRet (vA (g1 tupD) (vCons (vLc false [4, 5, 6] (v1 itD (vVar 0)) (kTup 2 (kCons (kTup 2 (kCons (kName 5) (kCons (kName 6) kNil))) (kCons (kName 4) kNil))) tYesV (vA gTup (vCons (vA gTup (vCons (v2 (addD false) (vVar 5) (vVar 2)) (vCons (vVar 6) vNil))) (vCons (vCallA 2 0 [] [.pos 0, .pos 1] F_renamed_deed (vCons (vVar 4) (vCons (vVar 3) vNil)) vNil) vNil)))) vNil))))
noncomputable def F_renamed : List D → AS → Out D := vFn 7 0 B_renamed
end G
set_option Elab.async false
set_option linter.all false
set_option maxRecDepth 100000
set_option maxHeartbeats 4000000
/-! A book by other words: what the program tells. -/
namespace TG
open PySem VL G Kd W9 W26 WG TB
section
variable {h : D → En → AS → Out En} {p : En → AS → Fl} {N B T : En → AS → Prop} {R : D → AS → Prop} {X : XQ} {d : D} {ds : List D} {env : En} {st : AS}
theorem wp_forN : (forL h p [] [] env st).wp N R B T X = N env st := by
  rw [forL, if_pos (gd_nilOk)]
  rfl
theorem wp_forC : (forL h p [] (d :: ds) env st).wp N R B T X = (h d env st).wp (fun e s => (p e s).wp (fun e s => (forL h p [] ds e s).wp N R B T X) R (fun e s => N e s) (fun e s => (forL h p [] ds e s).wp N R B T X) X) X := by
  have e : (fun e s => ((p e s).turn (forL h p [] ds)).wp N R B T X) = (fun e s => (p e s).wp (fun e s => (forL h p [] ds e s).wp N R B T X) R (fun e s => N e s) (fun e s => (forL h p [] ds e s).wp N R B T X) X) := by
    funext e s
    exact wp_turn
  rw [forL, if_pos (gd_nilOk), wp_fl, e]
end
/-- a word by other words -/
def nw (ps : List (Str × Str)) (s : Str) : Str := (look ps s).getD s
def renDd (ps : List (Str × Str)) : Dd → Dd
  | .sit s t => .sit (nw ps s) (nw ps t)
  | .move s t => .move (nw ps s) (nw ps t)
  | .join t o => .join (nw ps t) (nw ps o)
  | .go s => .go (nw ps s)
  | .ask n i c ss => .ask n i c (ss.map (nw ps))
  | .fire t c => .fire (nw ps t) c
  | .rush t c => .rush (nw ps t) c
  | .pay s q => .pay (nw ps s) q
  | .take s o q => .take (nw ps s) (nw ps o) q
  | .even ss => .even (ss.map (nw ps))
  | d => d
def renPg (ps : List (Str × Str)) (more : Int) (p : Pg) : Pg := ((p.1.1 + more, p.1.2), renDd ps p.2)
section
variable {ps : List (Str × Str)} {i : Nat} {S : AS}
theorem get_nw (hS : S[i]? = some (.dct (eTab ps))) (s : Str) : getD2 (.ref i) [.str s, .str s] S = .ok (.str (nw ps s)) S := by
  have hv : valK (eTab ps) (.inr s) = (look ps s).map D.str := valK_enK (κ' := L2.Key) Sum.inr D.str W9.inr_inj ps s
  have e : (((look ps s).map D.str).getD (.str s)) = .str (nw ps s) := by
    unfold nw
    cases look ps s <;> rfl
  rw [← e, ← hv]
  generalize eTab ps = Tb at *
  simp -implicitDefEqProofs [-valK, hS]
theorem in_place (w : Str) (X : AS) : inD false (.str w) (.tup [.str (Str.ofString "seat"), .str (Str.ofString "table"), .str (Str.ofString "other")]) X = .ok (.bl (decide (w ∈ ["seat", "table", "other"].map Str.ofString))) X := (in_tup false w (["seat", "table", "other"].map Str.ofString) X).trans (by simp)
theorem part_w (hS : S[i]? = some (.dct (eTab ps))) {w : Str} (hw : w ∈ ["seat", "table", "other"].map Str.ofString) (s : Str) : F_renamed_part [.str w, .str s, .ref i] S = .ok (.str (nw ps s)) S := by
  have g := get_nw hS s
  have nc : ∀ X, cinD false d_LEAST_SEATS (.str w) X = .ok (.bl false) X := fun X => by
    simp only [List.map_cons, List.map_nil, List.mem_cons, List.not_mem_nil, or_false] at hw
    rcases hw with rfl | rfl | rfl <;> simp [ofs_inj]
  have iw := in_place w
  rw [decide_eq_true hw] at iw
  refine eq_of_wp ?_
  unfold F_renamed_part
  rw [wp_vFn]; simp only [List.map_cons, List.map_nil, List.length_cons, List.length_nil, Nat.reduceAdd, Nat.reduceSub, List.replicate_succ, List.replicate_zero, List.cons_append, List.nil_append]
  unfold B_renamed_part
  try simp -dsimp -implicitDefEqProofs [-ixD, -Int.toNat_natCast, ↓wp_bind, ↓wp_fl, ↓wp_ite, ↓wp_fite, ↓wp_v1, ↓wp_v2, ↓wp_vB, ↓wp_vNil, ↓wp_vCons, ↓wp_vA, ↓wp_vAnd, ↓wp_vOr, ↓wp_vNot, ↓wp_vIfE, ↓wp_vSl, ↓wp_vML, ↓wp_vMD, ↓wp_vCallA, ↓wp_vLc, ↓wp_vDisp, ↓wp_vPs0, ↓wp_vPs1, ↓wp_kSub, ↓wp_kName, ↓wp_seq, ↓wp_next, ↓wp_sBreak, ↓wp_sCont, ↓wp_expr, ↓wp_ret, ↓wp_if, ↓wp_set, ↓wp_asg, ↓wp_par, ↓wp_par3, ↓wp_skill, ↓wp_sfor, ↓wp_vFn, mk, le_line, lt_line, cdiv_ok, tl_get, tl_get0, tl_set, tl_set0, ixt0, ixt1, ixt2, ixt3, ixt4, ixc0, ixc1, ixc2, ixc3, ixc4, ixl0, ixl1, ixl2, ixl3, ixl4, -cinD, -inD, nc, iw, -getD2, g, hS]
  all_goals exact ⟨rfl, rfl⟩
theorem part_o {w : Str} (hw : w ∈ ["dish", "item", "course", "pence"].map Str.ofString) (d : D) : F_renamed_part [.str w, d, .ref i] S = .ok d S := by
  have nc : ∀ X, cinD false d_LEAST_SEATS (.str w) X = .ok (.bl false) X := fun X => by
    simp only [List.map_cons, List.map_nil, List.mem_cons, List.not_mem_nil, or_false] at hw
    rcases hw with rfl | rfl | rfl | rfl <;> simp [ofs_inj]
  have iw := in_place w
  have nm : decide (w ∈ ["seat", "table", "other"].map Str.ofString) = false := by
    simp only [List.map_cons, List.map_nil, List.mem_cons, List.not_mem_nil, or_false] at hw ⊢
    rcases hw with rfl | rfl | rfl | rfl <;> simp [ofs_inj]
  rw [nm] at iw
  refine eq_of_wp ?_
  unfold F_renamed_part
  rw [wp_vFn]; simp only [List.map_cons, List.map_nil, List.length_cons, List.length_nil, Nat.reduceAdd, Nat.reduceSub, List.replicate_succ, List.replicate_zero, List.cons_append, List.nil_append]
  unfold B_renamed_part
  try simp -dsimp -implicitDefEqProofs [-ixD, -Int.toNat_natCast, ↓wp_bind, ↓wp_fl, ↓wp_ite, ↓wp_fite, ↓wp_v1, ↓wp_v2, ↓wp_vB, ↓wp_vNil, ↓wp_vCons, ↓wp_vA, ↓wp_vAnd, ↓wp_vOr, ↓wp_vNot, ↓wp_vIfE, ↓wp_vSl, ↓wp_vML, ↓wp_vMD, ↓wp_vCallA, ↓wp_vLc, ↓wp_vDisp, ↓wp_vPs0, ↓wp_vPs1, ↓wp_kSub, ↓wp_kName, ↓wp_seq, ↓wp_next, ↓wp_sBreak, ↓wp_sCont, ↓wp_expr, ↓wp_ret, ↓wp_if, ↓wp_set, ↓wp_asg, ↓wp_par, ↓wp_par3, ↓wp_skill, ↓wp_sfor, ↓wp_vFn, mk, le_line, lt_line, cdiv_ok, tl_get, tl_get0, tl_set, tl_set0, ixt0, ixt1, ixt2, ixt3, ixt4, ixc0, ixc1, ixc2, ixc3, ixc4, ixl0, ixl1, ixl2, ixl3, ixl4, -cinD, -inD, nc, iw]
  all_goals exact ⟨rfl, rfl⟩
theorem part_s (hS : S[i]? = some (.dct (eTab ps))) {w : Str} (hw : w ∈ ["seats", "party"].map Str.ofString) (ss : List Str) (sl : ss.length ≤ 1000) : F_renamed_part [.str w, eSe ss, .ref i] S = .ok (eSe (ss.map (nw ps))) S := by
  have g := fun s => get_nw hS s
  have nc : ∀ X, cinD false d_LEAST_SEATS (.str w) X = .ok (.bl true) X := fun X => by
    simp only [List.map_cons, List.map_nil, List.mem_cons, List.not_mem_nil, or_false] at hw
    rcases hw with rfl | rfl <;> simp [ofs_inj]
  refine eq_of_wp ?_
  unfold F_renamed_part eSe
  rw [wp_vFn]; simp only [List.map_cons, List.map_nil, List.length_cons, List.length_nil, Nat.reduceAdd, Nat.reduceSub, List.replicate_succ, List.replicate_zero, List.cons_append, List.nil_append]
  unfold B_renamed_part
  try simp -dsimp -implicitDefEqProofs [-ixD, -Int.toNat_natCast, ↓wp_bind, ↓wp_fl, ↓wp_ite, ↓wp_fite, ↓wp_v1, ↓wp_v2, ↓wp_vB, ↓wp_vNil, ↓wp_vCons, ↓wp_vA, ↓wp_vAnd, ↓wp_vOr, ↓wp_vNot, ↓wp_vIfE, ↓wp_vSl, ↓wp_vML, ↓wp_vMD, ↓wp_vCallA, ↓wp_vLc, ↓wp_vDisp, ↓wp_vPs0, ↓wp_vPs1, ↓wp_kSub, ↓wp_kName, ↓wp_seq, ↓wp_next, ↓wp_sBreak, ↓wp_sCont, ↓wp_expr, ↓wp_ret, ↓wp_if, ↓wp_set, ↓wp_asg, ↓wp_par, ↓wp_par3, ↓wp_skill, ↓wp_sfor, ↓wp_vFn, mk, le_line, lt_line, cdiv_ok, tl_get, tl_get0, tl_set, tl_set0, ixt0, ixt1, ixt2, ixt3, ixt4, ixc0, ixc1, ixc2, ixc3, ixc4, ixl0, ixl1, ixl2, ixl3, ixl4, -cinD, nc, show ss.length ≤ 16000000 by omega]
  refine wp_of (comp_all D.str (fun s => .str (nw ps s)) ok_nil ss fun s _ => ⟨_, rfl, rfl, by simp -implicitDefEqProofs [-getD2, g, hS]⟩) ?_
  try simp -dsimp -implicitDefEqProofs [-ixD, -Int.toNat_natCast, ↓wp_bind, ↓wp_fl, ↓wp_ite, ↓wp_fite, ↓wp_v1, ↓wp_v2, ↓wp_vB, ↓wp_vNil, ↓wp_vCons, ↓wp_vA, ↓wp_vAnd, ↓wp_vOr, ↓wp_vNot, ↓wp_vIfE, ↓wp_vSl, ↓wp_vML, ↓wp_vMD, ↓wp_vCallA, ↓wp_vLc, ↓wp_vDisp, ↓wp_vPs0, ↓wp_vPs1, ↓wp_kSub, ↓wp_kName, ↓wp_seq, ↓wp_next, ↓wp_sBreak, ↓wp_sCont, ↓wp_expr, ↓wp_ret, ↓wp_if, ↓wp_set, ↓wp_asg, ↓wp_par, ↓wp_par3, ↓wp_skill, ↓wp_sfor, ↓wp_vFn, mk, le_line, lt_line, cdiv_ok, tl_get, tl_get0, tl_set, tl_set0, ixt0, ixt1, ixt2, ixt3, ixt4, ixc0, ixc1, ixc2, ixc3, ixc4, ixl0, ixl1, ixl2, ixl3, ixl4, show ss.length ≤ 16000000 by omega]
  all_goals exact ⟨by simp [List.map_map, Function.comp_def], rfl⟩
theorem f_rdeed (hS : S[i]? = some (.dct (eTab ps))) (dd : Dd) (sl : ∀ n it c ss, dd = .ask n it c ss ∨ dd = .even ss → ss.length ≤ 1000) : F_renamed_deed [eDd dd, .ref i] S = .ok (eDd (renDd ps dd)) S := by
  have hl : i < S.length := (List.getElem?_eq_some_iff.mp hS).1
  have hS2 : ∀ c, (S ++ [c])[i]? = some (.dct (eTab ps)) := fun c => by rw [List.getElem?_append_left hl]; exact hS
  have pw := fun c (w : String) (hw : Str.ofString w ∈ ["seat", "table", "other"].map Str.ofString) s => part_w (hS2 c) hw s
  have po := fun c (w : String) (hw : Str.ofString w ∈ ["dish", "item", "course", "pence"].map Str.ofString) d => part_o (i := i) (S := S ++ [c]) hw d
  have pss := fun c (w : String) (hw : Str.ofString w ∈ ["seats", "party"].map Str.ofString) ss h => part_s (hS2 c) hw ss h
  have p1 := fun c s => pw c "seat" (by simp) s
  have p2 := fun c s => pw c "table" (by simp) s
  have p3 := fun c s => pw c "other" (by simp) s
  have o1 := fun c d => po c "dish" (by simp) d
  have o2 := fun c d => po c "item" (by simp) d
  have o3 := fun c d => po c "course" (by simp) d
  have o4 := fun c d => po c "pence" (by simp) d
  have s1 := fun c ss h => pss c "seats" (by simp) ss h
  have s2 := fun c ss h => pss c "party" (by simp) ss h
  have ln : S.length = S.length := rfl
  refine eq_of_wp ?_
  unfold F_renamed_deed
  rw [wp_vFn]; simp only [List.map_cons, List.map_nil, List.length_cons, List.length_nil, Nat.reduceAdd, Nat.reduceSub, List.replicate_succ, List.replicate_zero, List.cons_append, List.nil_append]
  unfold B_renamed_deed
  have rt : ∀ (dd : Dd) (c : C), (VL.ret 0 S (eDd dd) (S ++ [c])) = .ok (eDd dd) S := fun dd c => ret_low (by simp) (fun j hj => List.getElem?_append_left hj) (dd_pure dd)
  have cf : ∀ x (l : List D), cut (x :: l) (some 1) none = l := fun x l => by rw [cut_from _ _ (by decide)]; rfl
  have rt' := rt (renDd ps dd)
  cases dd with
  | ask n it c ss =>
    have sl := sl n it c ss (.inl rfl)
    simp only [eDd]
    try simp -dsimp -implicitDefEqProofs [-ixD, -Int.toNat_natCast, ↓wp_bind, ↓wp_fl, ↓wp_ite, ↓wp_fite, ↓wp_v1, ↓wp_v2, ↓wp_vB, ↓wp_vNil, ↓wp_vCons, ↓wp_vA, ↓wp_vAnd, ↓wp_vOr, ↓wp_vNot, ↓wp_vIfE, ↓wp_vSl, ↓wp_vML, ↓wp_vMD, ↓wp_vCallA, ↓wp_vLc, ↓wp_vDisp, ↓wp_vPs0, ↓wp_vPs1, ↓wp_kSub, ↓wp_kName, ↓wp_seq, ↓wp_next, ↓wp_sBreak, ↓wp_sCont, ↓wp_expr, ↓wp_ret, ↓wp_if, ↓wp_set, ↓wp_asg, ↓wp_par, ↓wp_par3, ↓wp_skill, ↓wp_sfor, ↓wp_vFn, mk, le_line, lt_line, cdiv_ok, tl_get, tl_get0, tl_set, tl_set0, ixt0, ixt1, ixt2, ixt3, ixt4, ixc0, ixc1, ixc2, ixc3, ixc4, ixl0, ixl1, ixl2, ixl3, ixl4, cf, ofs_inj, ↓wp_forC, ↓wp_forN, ln, p1, p2, p3, o1, o2, o3, o4, s1, s2, sl]
    exact wp_of (rt' _) ⟨rfl, rfl⟩
  | even ss =>
    have sl := sl 0 default 0 ss (.inr rfl)
    simp only [eDd]
    try simp -dsimp -implicitDefEqProofs [-ixD, -Int.toNat_natCast, ↓wp_bind, ↓wp_fl, ↓wp_ite, ↓wp_fite, ↓wp_v1, ↓wp_v2, ↓wp_vB, ↓wp_vNil, ↓wp_vCons, ↓wp_vA, ↓wp_vAnd, ↓wp_vOr, ↓wp_vNot, ↓wp_vIfE, ↓wp_vSl, ↓wp_vML, ↓wp_vMD, ↓wp_vCallA, ↓wp_vLc, ↓wp_vDisp, ↓wp_vPs0, ↓wp_vPs1, ↓wp_kSub, ↓wp_kName, ↓wp_seq, ↓wp_next, ↓wp_sBreak, ↓wp_sCont, ↓wp_expr, ↓wp_ret, ↓wp_if, ↓wp_set, ↓wp_asg, ↓wp_par, ↓wp_par3, ↓wp_skill, ↓wp_sfor, ↓wp_vFn, mk, le_line, lt_line, cdiv_ok, tl_get, tl_get0, tl_set, tl_set0, ixt0, ixt1, ixt2, ixt3, ixt4, ixc0, ixc1, ixc2, ixc3, ixc4, ixl0, ixl1, ixl2, ixl3, ixl4, cf, ofs_inj, ↓wp_forC, ↓wp_forN, ln, p1, p2, p3, o1, o2, o3, o4, s1, s2, sl]
    exact wp_of (rt' _) ⟨rfl, rfl⟩
  | _ =>
    simp only [eDd]
    try simp -dsimp -implicitDefEqProofs [-ixD, -Int.toNat_natCast, ↓wp_bind, ↓wp_fl, ↓wp_ite, ↓wp_fite, ↓wp_v1, ↓wp_v2, ↓wp_vB, ↓wp_vNil, ↓wp_vCons, ↓wp_vA, ↓wp_vAnd, ↓wp_vOr, ↓wp_vNot, ↓wp_vIfE, ↓wp_vSl, ↓wp_vML, ↓wp_vMD, ↓wp_vCallA, ↓wp_vLc, ↓wp_vDisp, ↓wp_vPs0, ↓wp_vPs1, ↓wp_kSub, ↓wp_kName, ↓wp_seq, ↓wp_next, ↓wp_sBreak, ↓wp_sCont, ↓wp_expr, ↓wp_ret, ↓wp_if, ↓wp_set, ↓wp_asg, ↓wp_par, ↓wp_par3, ↓wp_skill, ↓wp_sfor, ↓wp_vFn, mk, le_line, lt_line, cdiv_ok, tl_get, tl_get0, tl_set, tl_set0, ixt0, ixt1, ixt2, ixt3, ixt4, ixc0, ixc1, ixc2, ixc3, ixc4, ixl0, ixl1, ixl2, ixl3, ixl4, cf, ofs_inj, ↓wp_forC, ↓wp_forN, ln, p1, p2, p3, o1, o2, o3, o4, s1, s2]
    exact wp_of (rt' _) ⟨rfl, rfl⟩
theorem ren_nmL {bk : List Pg} {more : Int} : (bk.map fun p => D.tup [.tup [.int (p.1.1 + more), .int p.1.2], eDd (renDd ps p.2)]) = (bk.map (renPg ps more)).map ePg := by
  rw [List.map_map]
  rfl
end
end TG
set_option Elab.async false
set_option linter.all false
set_option maxRecDepth 100000
set_option maxHeartbeats 2000000
namespace G
open PySem VL
noncomputable def B__law_pairs : En → AS → Fl :=
    (sSeq (sSet 3 (vA (gLst true) (vCons (vC (.str "a")) (vCons (vC (.str "aa")) (vCons (vC (.str "ann")) (vCons (vC (.str "ask")) (vCons (vC (.str "b")) (vCons (vC (.str "bob")) (vCons (vC (.str "c")) (vCons (vC (.str "even")) (vCons (vC (.str "go")) (vCons (vC (.str "l")) (vCons (vC (.str "m")) (vCons (vC (.str "nnnnnnnn")) (vCons (vC (.str "sit")) (vCons (vC (.str "y")) (vCons (vC (.str "z")) (vCons (vC (.str "zz")) vNil))))))))))))))))))
    (sSeq (sSet 4 (vA (g1 (sortD false)) (vCons (vCallA 3 0 [] [.pos 0, .pos 1, .pos 2] F__law_words_5d00 (vCons (vVar 0) (vCons (vA (g1 lenD) (vCons (vVar 1) vNil)) (vCons (vVar 3) vNil))) vNil) vNil)))
    (sSeq (sSet 5 (vLc false [6, 7] (vA zipD (vCons (vVar 1) (vCons (vVar 4) vNil))) (kTup 2 (kCons (kName 6) (kCons (kName 7) kNil))) tYesV (vA gTup (vCons (vVar 6) (vCons (vVar 7) vNil)))))
    (sRet (vA (g1 tupFD) (vCons (vSl (slD false) (vVar 5) vNoPart (v1 asI (vVar 2))) vNil))))))
noncomputable def F__law_pairs : List D → AS → Out D := vFn 8 0 B__law_pairs
noncomputable def B__law_deed_by : En → AS → Fl :=
    (sSeq (sIf (vB (v2 (inD false) (v2 ixD (vVar 0) (vC (.int 0))) (vA gTup (vCons (vC (.str "sit")) (vCons (vC (.str "move")) (vCons (vC (.str "join")) vNil)))))) (sRet (vA gTup (vCons (v2 ixD (vVar 0) (vC (.int 0))) (vCons (vMD getD2 (vVar 1) (vCons (v2 ixD (vVar 0) (vC (.int 1))) (vCons (v2 ixD (vVar 0) (vC (.int 1))) vNil))) (vCons (vMD getD2 (vVar 1) (vCons (v2 ixD (vVar 0) (vC (.int 2))) (vCons (v2 ixD (vVar 0) (vC (.int 2))) vNil))) vNil))))) sNext)
    (sSeq (sIf (vB (v2 (eqD false) (v2 ixD (vVar 0) (vC (.int 0))) (vC (.str "take")))) (sRet (vA gTup (vCons (vC (.str "take")) (vCons (vMD getD2 (vVar 1) (vCons (v2 ixD (vVar 0) (vC (.int 1))) (vCons (v2 ixD (vVar 0) (vC (.int 1))) vNil))) (vCons (vMD getD2 (vVar 1) (vCons (v2 ixD (vVar 0) (vC (.int 2))) (vCons (v2 ixD (vVar 0) (vC (.int 2))) vNil))) (vCons (v2 ixD (vVar 0) (vC (.int 3))) vNil)))))) sNext)
    (sSeq (sIf (vB (v2 (inD false) (v2 ixD (vVar 0) (vC (.int 0))) (vA gTup (vCons (vC (.str "go")) (vCons (vC (.str "pay")) (vCons (vC (.str "fire")) (vCons (vC (.str "rush")) vNil))))))) (sRet (v2 (addD false) (vA gTup (vCons (v2 ixD (vVar 0) (vC (.int 0))) (vCons (vMD getD2 (vVar 1) (vCons (v2 ixD (vVar 0) (vC (.int 1))) (vCons (v2 ixD (vVar 0) (vC (.int 1))) vNil))) vNil))) (vSl (slD false) (vVar 0) (v1 asI (vC (.int 2))) vNoPart))) sNext)
    (sSeq (sIf (vB (v2 (eqD false) (v2 ixD (vVar 0) (vC (.int 0))) (vC (.str "even")))) (sRet (vA gTup (vCons (vC (.str "even")) (vCons (vA (g1 tupFD) (vCons (vLc false [2] (v1 itD (v2 ixD (vVar 0) (vC (.int 1)))) (kName 2) tYesV (vMD getD2 (vVar 1) (vCons (vVar 2) (vCons (vVar 2) vNil)))) vNil)) vNil)))) sNext)
    (sSeq (sIf (vB (v2 (eqD false) (v2 ixD (vVar 0) (vC (.int 0))) (vC (.str "ask")))) (sRet (v2 (addD false) (vSl (slD false) (vVar 0) vNoPart (v1 asI (vC (.int 4)))) (vA gTup (vCons (vA (g1 tupFD) (vCons (vLc false [2] (v1 itD (v2 ixD (vVar 0) (vC (.int 4)))) (kName 2) tYesV (vMD getD2 (vVar 1) (vCons (vVar 2) (vCons (vVar 2) vNil)))) vNil)) vNil)))) sNext)
    (sRet (vVar 0)))))))
noncomputable def F__law_deed_by : List D → AS → Out D := vFn 3 0 B__law_deed_by
noncomputable def B__law_book_by : En → AS → Fl :=
    (sSeq (sSet 3 (vA (g1 dictKD) (vCons (vVar 1) vNil)))
    (sRet (vA (g1 tupD) (vCons (vLc false [4, 5] (v1 itD (vVar 0)) (kTup 2 (kCons (kName 4) (kCons (kName 5) kNil))) tYesV (vA gTup (vCons (vA gTup (vCons (v2 (addD false) (v2 ixD (vVar 4) (vC (.int 0))) (vVar 2)) (vCons (v2 ixD (vVar 4) (vC (.int 1))) vNil))) (vCons (vCallA 2 0 [] [.pos 0, .pos 1] F__law_deed_by (vCons (vVar 5) (vCons (vVar 3) vNil)) vNil) vNil)))) vNil))))
noncomputable def F__law_book_by : List D → AS → Out D := vFn 6 0 B__law_book_by
noncomputable def B_law_b348 : En → AS → Fl :=
    (sSeq (sSet 1 (vCallA 1 0 [] [.pos 0] F__law_feed_7f41 (vCons (vVar 0) vNil) vNil))
    (sSeq (sPar 2 3 (vCons (vCallA 1 0 [] [.pos 0] F__law_house_dbe9 (vCons (vVar 1) vNil) vNil) (vCons (vCallA 1 0 [] [.pos 0] F__law_guests_73db (vCons (vVar 1) vNil) vNil) vNil)))
    (sSeq (sSet 4 (vA (g1 tupFD) (vCons (vCallA 4 0 [] [.pos 0, .pos 1, .pos 2, .pos 3] F__law_pages_94fd (vCons (vVar 1) (vCons (vVar 2) (vCons (vVar 3) (vCons (vCallA 2 0 [] [.pos 0, .pos 1] F__law_next_24af (vCons (vVar 1) (vCons (vC (.int 17)) vNil)) vNil) vNil)))) vNil) vNil)))
    (sSeq (sSet 5 (v1 (srtSetD false) (v2 (addD false) (v2 ixD (vVar 3) (vC (.int 0))) (v2 ixD (vVar 3) (vC (.int 1))))))
    (sSeq (sFor (vA rng1 (vCons (vC (.int 2)) vNil)) (kName 6) (sKill [6, 7, 8, 9, 10, 11, 12] (sSeq (sPar 7 8 (vCons (vCallA 3 0 [] [.pos 0, .pos 1, .pos 2] F__law_pairs (vCons (vVar 1) (vCons (vVar 5) (vCons (vA (g1 lenD) (vCons (vVar 5) vNil)) vNil))) vNil) (vCons (v2 ixD (vA (gLst false) (vCons (vC (.int 0)) (vCons (vC (.int 1)) (vCons (vC (.int 7000)) (vCons (vCallA 2 0 [] [.pos 0, .pos 1] F__law_next_24af (vCons (vVar 1) (vCons (vC (.int 90)) vNil)) vNil) vNil))))) (vCallA 2 0 [] [.pos 0, .pos 1] F__law_next_24af (vCons (vVar 1) (vCons (vC (.int 4)) vNil)) vNil)) vNil)))
    (sSeq (sSet 9 (vA (g1 reprD) (vCons (vA gTup (vCons (vVar 4) (vCons (vVar 7) vNil))) vNil)))
    (sSeq (sSet 10 (vCallA 3 0 [.non, .int 0] [.pos 0, .pos 1, .pos 2] F_renamed (vCons (vVar 4) (vCons (vVar 7) (vCons (vVar 8) vNil))) vNil))
    (sSeq (sIf (vOr (vNot (v1 truD (vA isiD (vCons (vVar 10) (vCons (vC (.cv (.v (.ty "tuple")))) vNil))))) (vB (v2 (eqD true) (vA (g1 reprD) (vCons (vVar 10) vNil)) (vA (g1 reprD) (vCons (vCallA 3 0 [] [.pos 0, .pos 1, .pos 2] F__law_book_by (vCons (vVar 4) (vCons (vVar 7) (vCons (vVar 8) vNil))) vNil) vNil))))) (sRet (vC (.bl false))) sNext)
    (sSeq (sIf (vB (v2 (eqD true) (vA (g1 reprD) (vCons (vCallA 0 3 [.non, .int 0] [.kw 1, .kw 2, .kw 0] F_renamed vNil (vCons (vVar 8) (vCons (vVar 4) (vCons (vVar 7) vNil)))) vNil)) (vA (g1 reprD) (vCons (vVar 10) vNil)))) (sRet (vC (.bl false))) sNext)
    (sSeq (sIf (vB (v2 (eqD true) (vA (g1 reprD) (vCons (vCallA 2 0 [.non, .int 0] [.pos 0, .pos 1, .dfl 1] F_renamed (vCons (vVar 4) (vCons (vVar 7) vNil)) vNil) vNil)) (vA (g1 reprD) (vCons (vCallA 3 0 [] [.pos 0, .pos 1, .pos 2] F__law_book_by (vCons (vVar 4) (vCons (vVar 7) (vCons (vC (.int 0)) vNil))) vNil) vNil)))) (sRet (vC (.bl false))) sNext)
    (sSeq (sSet 11 (vA (g1 reprD) (vCons (vCallA 3 0 [] [.pos 0, .pos 1, .pos 2] F__law_book_by (vCons (vVar 4) (vCons (vA gTupF vNil) (vCons (vVar 8) vNil))) vNil) vNil)))
    (sSeq (sIf (vB (v2 (eqD true) (vA (gLst false) (vCons (vA (g1 reprD) (vCons (vCallA 1 1 [.non, .int 0] [.pos 0, .dfl 0, .kw 0] F_renamed (vCons (vVar 4) vNil) (vCons (vVar 8) vNil)) vNil)) (vCons (vA (g1 reprD) (vCons (vCallA 3 0 [.non, .int 0] [.pos 0, .pos 1, .pos 2] F_renamed (vCons (vVar 4) (vCons (vC .non) (vCons (vVar 8) vNil))) vNil) vNil)) vNil))) (vA (gLst false) (vCons (vVar 11) (vCons (vVar 11) vNil))))) (sRet (vC (.bl false))) sNext)
    (sSeq (sSet 12 (vA (g1 tupFD) (vCons (vLc false [14, 15] (v1 itD (vVar 7)) (kTup 2 (kCons (kName 14) (kCons (kName 15) kNil))) tYesV (vA gTup (vCons (vVar 15) (vCons (vVar 14) vNil)))) vNil)))
    (sSeq (sIf (vB (v2 (eqD true) (vA (g1 reprD) (vCons (vCallA 1 1 [.non, .int 0] [.pos 0, .kw 0, .dfl 1] F_renamed (vCons (vCallA 1 1 [.non, .int 0] [.pos 0, .kw 0, .dfl 1] F_renamed (vCons (vVar 4) vNil) (vCons (vVar 7) vNil)) vNil) (vCons (vVar 12) vNil)) vNil)) (vA (g1 reprD) (vCons (vVar 4) vNil)))) (sRet (vC (.bl false))) sNext)
    (sIf (vB (v2 (eqD true) (vA (g1 reprD) (vCons (vA gTup (vCons (vVar 4) (vCons (vVar 7) vNil))) vNil)) (vVar 9))) (sRet (vC (.bl false))) sNext)))))))))))))
    (sSeq (sSet 13 (vA gTupF (vCons (vA gTup (vCons (v2 ixD (vVar 5) (v1 negD (vC (.int 1)))) (vCons (vC (.str "zzz")) vNil))) vNil)))
    (sSeq (sIf (vB (v2 (eqD true) (vA (g1 reprD) (vCons (vCallA 2 0 [.non, .int 0] [.pos 0, .pos 1, .dfl 1] F_renamed (vCons (vVar 4) (vCons (vVar 13) vNil)) vNil) vNil)) (vA (g1 reprD) (vCons (vCallA 3 0 [] [.pos 0, .pos 1, .pos 2] F__law_book_by (vCons (vVar 4) (vCons (vVar 13) (vCons (vC (.int 0)) vNil))) vNil) vNil)))) (sRet (vC (.bl false))) sNext)
    (sSeq (sSet 10 (vA (gLst false) (vCons (vCallA 1 0 [.non, .int 0] [.pos 0, .dfl 0, .dfl 1] F_renamed (vCons (vVar 4) vNil) vNil) (vCons (vCallA 2 0 [.non, .int 0] [.pos 0, .pos 1, .dfl 1] F_renamed (vCons (vVar 4) (vCons (vA gTupF vNil) vNil)) vNil) (vCons (vCallA 1 1 [.non, .int 0] [.pos 0, .dfl 0, .kw 0] F_renamed (vCons (vA gTupF vNil) vNil) (vCons (vC (.int 3)) vNil)) vNil)))))
    (sRet (v2 (eqD false) (vA (g1 reprD) (vCons (vVar 10) vNil)) (vA (g1 reprD) (vCons (vA (gLst false) (vCons (vVar 4) (vCons (vVar 4) (vCons (vA gTupF vNil) vNil)))) vNil))))))))))))
noncomputable def F_law_b348 : List D → AS → Out D := vFn 16 0 B_law_b348
end G
set_option Elab.async false
set_option linter.all false
set_option maxRecDepth 100000
set_option maxHeartbeats 4000000
/-! A book by other words: the program's and the law's. -/
namespace TG
open PySem VL G Kd W9 W26 WG TB
theorem merge_nd : ∀ (more kvs : List (L2.Key × D)), ((kvs ++ more).map (·.1)).Nodup → mergeKD kvs more = kvs ++ more
  | [], kvs, _ => by simp
  | p :: more, kvs, h => by
    have e : putKD kvs p.1 p.2 = kvs ++ [p] := by
      unfold putKD
      rw [if_neg]
      intro z
      obtain ⟨q, h1, h2⟩ := List.any_eq_true.mp z
      rw [List.map_append, List.nodup_append] at h
      exact h.2.2 q.1 (List.mem_map_of_mem h1) p.1 (by simp) (of_decide_eq_true h2)
    rw [mergeKD_cons, e, merge_nd more (kvs ++ [p]) (by simpa using h)]
    simp
abbrev ePw (p : Str × Str) : D := .tup [.str p.1, .str p.2]
theorem pairsKD_w : ∀ ps : List (Str × Str), pairsKD (ps.map ePw) = some (eTab ps)
  | [] => rfl
  | p :: ps => by
    rw [List.map_cons, pairsKD, pairsKD_w ps]
    rfl
theorem dict_w {ps : List (Str × Str)} (nd : (ps.map (·.1)).Nodup) (X : AS) : dictKD (.ctp (ps.map ePw)) X = .ok (.ref X.length) (X ++ [.dct (eTab ps)]) := by
  unfold dictKD
  dsimp only
  rw [pairsKD_w]
  dsimp only
  rw [merge_nd _ [] ?_]
  · rfl
  · rw [List.nil_append]
    have : (eTab ps).map (·.1) = (ps.map (·.1)).map Sum.inr := by simp [enK, List.map_map, Function.comp_def]
    rw [this]
    exact List.Pairwise.map _ (fun a b hab e => hab (Sum.inr.inj e)) nd
/-- a book: its tuple known or not -/
def BkD (bk : List Pg) (d : D) : Prop := d = .tup (bk.map ePg) ∨ d = .ctp (bk.map ePg)
structure BkS (bk : List Pg) : Prop where
  ln : bk.length ≤ 60
  se : ∀ p ∈ bk, ∀ n it c ss, p.2 = .ask n it c ss ∨ p.2 = .even ss → ss.length ≤ 1000
section
variable {ps : List (Str × Str)} {more : Int} {bk : List Pg} {X : AS}
theorem ren_comp (hb : BkS bk) {x0 x1 : D} {S : AS} {i : Nat} (hS : S[i]? = some (.dct (eTab ps))) :
    compL (kTup 2 (kCons (kTup 2 (kCons (kName 5) (kCons (kName 6) kNil))) (kCons (kName 4) kNil))) tYesV (vA gTup (vCons (vA gTup (vCons (v2 (addD false) (vVar 5) (vVar 2)) (vCons (vVar 6) vNil))) (vCons (vCallA 2 0 [] [.pos 0, .pos 1] F_renamed_deed (vCons (vVar 4) (vCons (vVar 3) vNil)) vNil) vNil)))
      [some x0, some x1, some (.int more), some (.ref i), none, none, none] [] (bk.map ePg) S = .ok ((bk.map (renPg ps more)).map ePg) S := by
  rw [comp_all ePg (fun p => .tup [.tup [.int (p.1.1 + more), .int p.1.2], eDd (renDd ps p.2)]) ok_nil bk ?c]
  · rw [ren_nmL]
  case c =>
    intro p hp
    have fd := f_rdeed (ps := ps) hS p.2 (hb.se p hp)
    refine ⟨_, rfl, rfl, ?_⟩
    simp -implicitDefEqProofs [ePg, eNm, fd, le_line]
theorem f_renamed {bd : D} (h1 : BkD bk bd) (hb : BkS bk) {wd : D} (hw : (wd = .non ∧ ps = []) ∨ (wd = .ctp (ps.map ePw) ∧ (ps.map (·.1)).Nodup)) : F_renamed [bd, wd, .int more] X = .ok (.tup ((bk.map (renPg ps more)).map ePg)) X := by
  have hS : (X ++ [C.dct (eTab ps)])[X.length]? = some (.dct (eTab ps)) := by simp
  have bl := hb.ln
  have rc := fun x0 x1 => ren_comp (more := more) (x0 := x0) (x1 := x1) hb hS
  have rt : ∀ (c : C) (bk2 : List Pg), (VL.ret 0 X (.tup (bk2.map ePg)) (X ++ [c])) = .ok (.tup (bk2.map ePg)) X := fun c bk2 => ret_low (by simp) (fun j hj => List.getElem?_append_left hj) (by
    rw [D.pure]
    induction bk2 with
    | nil => rfl
    | cons p r ih => rw [List.map_cons, D.pures, ih]; simp [ePg, eNm, D.pure, D.pures, dd_pure])
  have fin : ∀ S, S = X ++ [C.dct (eTab ps)] → (compL (kTup 2 (kCons (kTup 2 (kCons (kName 5) (kCons (kName 6) kNil))) (kCons (kName 4) kNil))) tYesV (vA gTup (vCons (vA gTup (vCons (v2 (addD false) (vVar 5) (vVar 2)) (vCons (vVar 6) vNil))) (vCons (vCallA 2 0 [] [.pos 0, .pos 1] F_renamed_deed (vCons (vVar 4) (vCons (vVar 3) vNil)) vNil) vNil)))
      [some bd, some wd, some (.int more), some (.ref X.length), none, none, none] [] (bk.map ePg) S) = .ok ((bk.map (renPg ps more)).map ePg) S := fun S e => by rw [e]; exact rc _ _
  refine eq_of_wp ?_
  unfold F_renamed
  rw [wp_vFn]; simp only [List.map_cons, List.map_nil, List.length_cons, List.length_nil, Nat.reduceAdd, Nat.reduceSub, List.replicate_succ, List.replicate_zero, List.cons_append, List.nil_append]
  unfold B_renamed
  rcases h1 with rfl | rfl <;> rcases hw with ⟨rfl, rfl⟩ | ⟨rfl, nd⟩
  · have b2l : (bk.map (renPg [] more)).length ≤ 16000000 := by rw [List.length_map]; omega
    try simp -dsimp -implicitDefEqProofs [-ixD, -Int.toNat_natCast, ↓wp_bind, ↓wp_fl, ↓wp_ite, ↓wp_fite, ↓wp_v1, ↓wp_v2, ↓wp_vB, ↓wp_vNil, ↓wp_vCons, ↓wp_vA, ↓wp_vAnd, ↓wp_vOr, ↓wp_vNot, ↓wp_vIfE, ↓wp_vSl, ↓wp_vML, ↓wp_vMD, ↓wp_vCallA, ↓wp_vLc, ↓wp_vDisp, ↓wp_vPs0, ↓wp_vPs1, ↓wp_kSub, ↓wp_kName, ↓wp_seq, ↓wp_next, ↓wp_sBreak, ↓wp_sCont, ↓wp_expr, ↓wp_ret, ↓wp_if, ↓wp_set, ↓wp_asg, ↓wp_par, ↓wp_par3, ↓wp_skill, ↓wp_sfor, ↓wp_vFn, mk, le_line, lt_line, cdiv_ok, tl_get, tl_get0, tl_set, tl_set0, ixt0, ixt1, ixt2, ixt3, ixt4, ixc0, ixc1, ixc2, ixc3, ixc4, ixl0, ixl1, ixl2, ixl3, ixl4, show bk.length ≤ 16000000 by omega]
    refine wp_of (fin _ rfl) ?_
    have rt := rt (.dct (eTab [])) (bk.map (renPg [] more))
    generalize bk.map (renPg [] more) = b2 at *
    try simp -dsimp -implicitDefEqProofs [-ixD, -Int.toNat_natCast, ↓wp_bind, ↓wp_fl, ↓wp_ite, ↓wp_fite, ↓wp_v1, ↓wp_v2, ↓wp_vB, ↓wp_vNil, ↓wp_vCons, ↓wp_vA, ↓wp_vAnd, ↓wp_vOr, ↓wp_vNot, ↓wp_vIfE, ↓wp_vSl, ↓wp_vML, ↓wp_vMD, ↓wp_vCallA, ↓wp_vLc, ↓wp_vDisp, ↓wp_vPs0, ↓wp_vPs1, ↓wp_kSub, ↓wp_kName, ↓wp_seq, ↓wp_next, ↓wp_sBreak, ↓wp_sCont, ↓wp_expr, ↓wp_ret, ↓wp_if, ↓wp_set, ↓wp_asg, ↓wp_par, ↓wp_par3, ↓wp_skill, ↓wp_sfor, ↓wp_vFn, mk, le_line, lt_line, cdiv_ok, tl_get, tl_get0, tl_set, tl_set0, ixt0, ixt1, ixt2, ixt3, ixt4, ixc0, ixc1, ixc2, ixc3, ixc4, ixl0, ixl1, ixl2, ixl3, ixl4, b2l]
    exact wp_of rt ⟨rfl, rfl⟩
  · have b2l : (bk.map (renPg ps more)).length ≤ 16000000 := by rw [List.length_map]; omega
    have dw := dict_w nd
    try simp -dsimp -implicitDefEqProofs [-ixD, -Int.toNat_natCast, ↓wp_bind, ↓wp_fl, ↓wp_ite, ↓wp_fite, ↓wp_v1, ↓wp_v2, ↓wp_vB, ↓wp_vNil, ↓wp_vCons, ↓wp_vA, ↓wp_vAnd, ↓wp_vOr, ↓wp_vNot, ↓wp_vIfE, ↓wp_vSl, ↓wp_vML, ↓wp_vMD, ↓wp_vCallA, ↓wp_vLc, ↓wp_vDisp, ↓wp_vPs0, ↓wp_vPs1, ↓wp_kSub, ↓wp_kName, ↓wp_seq, ↓wp_next, ↓wp_sBreak, ↓wp_sCont, ↓wp_expr, ↓wp_ret, ↓wp_if, ↓wp_set, ↓wp_asg, ↓wp_par, ↓wp_par3, ↓wp_skill, ↓wp_sfor, ↓wp_vFn, mk, le_line, lt_line, cdiv_ok, tl_get, tl_get0, tl_set, tl_set0, ixt0, ixt1, ixt2, ixt3, ixt4, ixc0, ixc1, ixc2, ixc3, ixc4, ixl0, ixl1, ixl2, ixl3, ixl4, -dictKD, dw, show bk.length ≤ 16000000 by omega]
    refine wp_of (fin _ rfl) ?_
    have rt := rt (.dct (eTab ps)) (bk.map (renPg ps more))
    generalize bk.map (renPg ps more) = b2 at *
    try simp -dsimp -implicitDefEqProofs [-ixD, -Int.toNat_natCast, ↓wp_bind, ↓wp_fl, ↓wp_ite, ↓wp_fite, ↓wp_v1, ↓wp_v2, ↓wp_vB, ↓wp_vNil, ↓wp_vCons, ↓wp_vA, ↓wp_vAnd, ↓wp_vOr, ↓wp_vNot, ↓wp_vIfE, ↓wp_vSl, ↓wp_vML, ↓wp_vMD, ↓wp_vCallA, ↓wp_vLc, ↓wp_vDisp, ↓wp_vPs0, ↓wp_vPs1, ↓wp_kSub, ↓wp_kName, ↓wp_seq, ↓wp_next, ↓wp_sBreak, ↓wp_sCont, ↓wp_expr, ↓wp_ret, ↓wp_if, ↓wp_set, ↓wp_asg, ↓wp_par, ↓wp_par3, ↓wp_skill, ↓wp_sfor, ↓wp_vFn, mk, le_line, lt_line, cdiv_ok, tl_get, tl_get0, tl_set, tl_set0, ixt0, ixt1, ixt2, ixt3, ixt4, ixc0, ixc1, ixc2, ixc3, ixc4, ixl0, ixl1, ixl2, ixl3, ixl4, b2l]
    exact wp_of rt ⟨rfl, rfl⟩
  · have b2l : (bk.map (renPg [] more)).length ≤ 16000000 := by rw [List.length_map]; omega
    try simp -dsimp -implicitDefEqProofs [-ixD, -Int.toNat_natCast, ↓wp_bind, ↓wp_fl, ↓wp_ite, ↓wp_fite, ↓wp_v1, ↓wp_v2, ↓wp_vB, ↓wp_vNil, ↓wp_vCons, ↓wp_vA, ↓wp_vAnd, ↓wp_vOr, ↓wp_vNot, ↓wp_vIfE, ↓wp_vSl, ↓wp_vML, ↓wp_vMD, ↓wp_vCallA, ↓wp_vLc, ↓wp_vDisp, ↓wp_vPs0, ↓wp_vPs1, ↓wp_kSub, ↓wp_kName, ↓wp_seq, ↓wp_next, ↓wp_sBreak, ↓wp_sCont, ↓wp_expr, ↓wp_ret, ↓wp_if, ↓wp_set, ↓wp_asg, ↓wp_par, ↓wp_par3, ↓wp_skill, ↓wp_sfor, ↓wp_vFn, mk, le_line, lt_line, cdiv_ok, tl_get, tl_get0, tl_set, tl_set0, ixt0, ixt1, ixt2, ixt3, ixt4, ixc0, ixc1, ixc2, ixc3, ixc4, ixl0, ixl1, ixl2, ixl3, ixl4, show bk.length ≤ 16000000 by omega]
    refine wp_of (fin _ rfl) ?_
    have rt := rt (.dct (eTab [])) (bk.map (renPg [] more))
    generalize bk.map (renPg [] more) = b2 at *
    try simp -dsimp -implicitDefEqProofs [-ixD, -Int.toNat_natCast, ↓wp_bind, ↓wp_fl, ↓wp_ite, ↓wp_fite, ↓wp_v1, ↓wp_v2, ↓wp_vB, ↓wp_vNil, ↓wp_vCons, ↓wp_vA, ↓wp_vAnd, ↓wp_vOr, ↓wp_vNot, ↓wp_vIfE, ↓wp_vSl, ↓wp_vML, ↓wp_vMD, ↓wp_vCallA, ↓wp_vLc, ↓wp_vDisp, ↓wp_vPs0, ↓wp_vPs1, ↓wp_kSub, ↓wp_kName, ↓wp_seq, ↓wp_next, ↓wp_sBreak, ↓wp_sCont, ↓wp_expr, ↓wp_ret, ↓wp_if, ↓wp_set, ↓wp_asg, ↓wp_par, ↓wp_par3, ↓wp_skill, ↓wp_sfor, ↓wp_vFn, mk, le_line, lt_line, cdiv_ok, tl_get, tl_get0, tl_set, tl_set0, ixt0, ixt1, ixt2, ixt3, ixt4, ixc0, ixc1, ixc2, ixc3, ixc4, ixl0, ixl1, ixl2, ixl3, ixl4, b2l]
    exact wp_of rt ⟨rfl, rfl⟩
  · have b2l : (bk.map (renPg ps more)).length ≤ 16000000 := by rw [List.length_map]; omega
    have dw := dict_w nd
    try simp -dsimp -implicitDefEqProofs [-ixD, -Int.toNat_natCast, ↓wp_bind, ↓wp_fl, ↓wp_ite, ↓wp_fite, ↓wp_v1, ↓wp_v2, ↓wp_vB, ↓wp_vNil, ↓wp_vCons, ↓wp_vA, ↓wp_vAnd, ↓wp_vOr, ↓wp_vNot, ↓wp_vIfE, ↓wp_vSl, ↓wp_vML, ↓wp_vMD, ↓wp_vCallA, ↓wp_vLc, ↓wp_vDisp, ↓wp_vPs0, ↓wp_vPs1, ↓wp_kSub, ↓wp_kName, ↓wp_seq, ↓wp_next, ↓wp_sBreak, ↓wp_sCont, ↓wp_expr, ↓wp_ret, ↓wp_if, ↓wp_set, ↓wp_asg, ↓wp_par, ↓wp_par3, ↓wp_skill, ↓wp_sfor, ↓wp_vFn, mk, le_line, lt_line, cdiv_ok, tl_get, tl_get0, tl_set, tl_set0, ixt0, ixt1, ixt2, ixt3, ixt4, ixc0, ixc1, ixc2, ixc3, ixc4, ixl0, ixl1, ixl2, ixl3, ixl4, -dictKD, dw, show bk.length ≤ 16000000 by omega]
    refine wp_of (fin _ rfl) ?_
    have rt := rt (.dct (eTab ps)) (bk.map (renPg ps more))
    generalize bk.map (renPg ps more) = b2 at *
    try simp -dsimp -implicitDefEqProofs [-ixD, -Int.toNat_natCast, ↓wp_bind, ↓wp_fl, ↓wp_ite, ↓wp_fite, ↓wp_v1, ↓wp_v2, ↓wp_vB, ↓wp_vNil, ↓wp_vCons, ↓wp_vA, ↓wp_vAnd, ↓wp_vOr, ↓wp_vNot, ↓wp_vIfE, ↓wp_vSl, ↓wp_vML, ↓wp_vMD, ↓wp_vCallA, ↓wp_vLc, ↓wp_vDisp, ↓wp_vPs0, ↓wp_vPs1, ↓wp_kSub, ↓wp_kName, ↓wp_seq, ↓wp_next, ↓wp_sBreak, ↓wp_sCont, ↓wp_expr, ↓wp_ret, ↓wp_if, ↓wp_set, ↓wp_asg, ↓wp_par, ↓wp_par3, ↓wp_skill, ↓wp_sfor, ↓wp_vFn, mk, le_line, lt_line, cdiv_ok, tl_get, tl_get0, tl_set, tl_set0, ixt0, ixt1, ixt2, ixt3, ixt4, ixc0, ixc1, ixc2, ixc3, ixc4, ixl0, ixl1, ixl2, ixl3, ixl4, b2l]
    exact wp_of rt ⟨rfl, rfl⟩
/-! the law's own -/
theorem f_ldeed {i : Nat} {S : AS} (hS : S[i]? = some (.dct (eTab ps))) (dd : Dd) (sl : ∀ n it c ss, dd = .ask n it c ss ∨ dd = .even ss → ss.length ≤ 1000) : F__law_deed_by [eDd dd, .ref i] S = .ok (eDd (renDd ps dd)) S := by
  have g := fun s => get_nw hS s
  have cf : ∀ (l : List D) (k : Nat), cut l (some (k : Int)) none = l.drop k := fun l k => by rw [cut_from _ _ (by omega)]; rfl
  have c2 : ∀ x y (l : List D), cut (x :: y :: l) (some 2) none = l := fun x y l => by rw [cut_from _ _ (by decide)]; rfl
  have c4 : ∀ x y z u (l : List D), cut (x :: y :: z :: u :: l) none (some 4) = [x, y, z, u] := fun x y z u l => by rw [cut_to _ _ (by decide)]; rfl
  have i3 : ∀ w X, inD false (.str w) (.tup [.str (Str.ofString "sit"), .str (Str.ofString "move"), .str (Str.ofString "join")]) X = .ok (.bl (decide (w ∈ ["sit", "move", "join"].map Str.ofString))) X := fun w X => (in_tup false w (["sit", "move", "join"].map Str.ofString) X).trans (by simp)
  have i4 : ∀ w X, inD false (.str w) (.tup [.str (Str.ofString "go"), .str (Str.ofString "pay"), .str (Str.ofString "fire"), .str (Str.ofString "rush")]) X = .ok (.bl (decide (w ∈ ["go", "pay", "fire", "rush"].map Str.ofString))) X := fun w X => (in_tup false w (["go", "pay", "fire", "rush"].map Str.ofString) X).trans (by simp)
  refine eq_of_wp ?_
  unfold F__law_deed_by
  rw [wp_vFn]; simp only [List.map_cons, List.map_nil, List.length_cons, List.length_nil, Nat.reduceAdd, Nat.reduceSub, List.replicate_succ, List.replicate_zero, List.cons_append, List.nil_append]
  unfold B__law_deed_by
  cases dd with
  | ask n it c ss =>
    have sl := sl n it c ss (.inl rfl)
    simp only [eDd, eSe]
    try simp -dsimp -implicitDefEqProofs [-ixD, -Int.toNat_natCast, ↓wp_bind, ↓wp_fl, ↓wp_ite, ↓wp_fite, ↓wp_v1, ↓wp_v2, ↓wp_vB, ↓wp_vNil, ↓wp_vCons, ↓wp_vA, ↓wp_vAnd, ↓wp_vOr, ↓wp_vNot, ↓wp_vIfE, ↓wp_vSl, ↓wp_vML, ↓wp_vMD, ↓wp_vCallA, ↓wp_vLc, ↓wp_vDisp, ↓wp_vPs0, ↓wp_vPs1, ↓wp_kSub, ↓wp_kName, ↓wp_seq, ↓wp_next, ↓wp_sBreak, ↓wp_sCont, ↓wp_expr, ↓wp_ret, ↓wp_if, ↓wp_set, ↓wp_asg, ↓wp_par, ↓wp_par3, ↓wp_skill, ↓wp_sfor, ↓wp_vFn, mk, le_line, lt_line, cdiv_ok, tl_get, tl_get0, tl_set, tl_set0, ixt0, ixt1, ixt2, ixt3, ixt4, ixc0, ixc1, ixc2, ixc3, ixc4, ixl0, ixl1, ixl2, ixl3, ixl4, -getD2, -inD, i3, i4, g, hS, c2, c4, ofs_inj, show ss.length ≤ 16000000 by omega]
    refine wp_of (comp_all D.str (fun s => .str (nw ps s)) ok_nil ss fun s _ => ⟨_, rfl, rfl, by simp -implicitDefEqProofs [-getD2, g, hS]⟩) ?_
    try simp -dsimp -implicitDefEqProofs [-ixD, -Int.toNat_natCast, ↓wp_bind, ↓wp_fl, ↓wp_ite, ↓wp_fite, ↓wp_v1, ↓wp_v2, ↓wp_vB, ↓wp_vNil, ↓wp_vCons, ↓wp_vA, ↓wp_vAnd, ↓wp_vOr, ↓wp_vNot, ↓wp_vIfE, ↓wp_vSl, ↓wp_vML, ↓wp_vMD, ↓wp_vCallA, ↓wp_vLc, ↓wp_vDisp, ↓wp_vPs0, ↓wp_vPs1, ↓wp_kSub, ↓wp_kName, ↓wp_seq, ↓wp_next, ↓wp_sBreak, ↓wp_sCont, ↓wp_expr, ↓wp_ret, ↓wp_if, ↓wp_set, ↓wp_asg, ↓wp_par, ↓wp_par3, ↓wp_skill, ↓wp_sfor, ↓wp_vFn, mk, le_line, lt_line, cdiv_ok, tl_get, tl_get0, tl_set, tl_set0, ixt0, ixt1, ixt2, ixt3, ixt4, ixc0, ixc1, ixc2, ixc3, ixc4, ixl0, ixl1, ixl2, ixl3, ixl4, show ss.length ≤ 16000000 by omega]
    all_goals exact ⟨by simp [renDd, eDd, eSe, List.map_map, Function.comp_def], rfl⟩
  | even ss =>
    have sl := sl 0 default 0 ss (.inr rfl)
    simp only [eDd, eSe]
    try simp -dsimp -implicitDefEqProofs [-ixD, -Int.toNat_natCast, ↓wp_bind, ↓wp_fl, ↓wp_ite, ↓wp_fite, ↓wp_v1, ↓wp_v2, ↓wp_vB, ↓wp_vNil, ↓wp_vCons, ↓wp_vA, ↓wp_vAnd, ↓wp_vOr, ↓wp_vNot, ↓wp_vIfE, ↓wp_vSl, ↓wp_vML, ↓wp_vMD, ↓wp_vCallA, ↓wp_vLc, ↓wp_vDisp, ↓wp_vPs0, ↓wp_vPs1, ↓wp_kSub, ↓wp_kName, ↓wp_seq, ↓wp_next, ↓wp_sBreak, ↓wp_sCont, ↓wp_expr, ↓wp_ret, ↓wp_if, ↓wp_set, ↓wp_asg, ↓wp_par, ↓wp_par3, ↓wp_skill, ↓wp_sfor, ↓wp_vFn, mk, le_line, lt_line, cdiv_ok, tl_get, tl_get0, tl_set, tl_set0, ixt0, ixt1, ixt2, ixt3, ixt4, ixc0, ixc1, ixc2, ixc3, ixc4, ixl0, ixl1, ixl2, ixl3, ixl4, -getD2, -inD, i3, i4, g, hS, c2, c4, ofs_inj, show ss.length ≤ 16000000 by omega]
    refine wp_of (comp_all D.str (fun s => .str (nw ps s)) ok_nil ss fun s _ => ⟨_, rfl, rfl, by simp -implicitDefEqProofs [-getD2, g, hS]⟩) ?_
    try simp -dsimp -implicitDefEqProofs [-ixD, -Int.toNat_natCast, ↓wp_bind, ↓wp_fl, ↓wp_ite, ↓wp_fite, ↓wp_v1, ↓wp_v2, ↓wp_vB, ↓wp_vNil, ↓wp_vCons, ↓wp_vA, ↓wp_vAnd, ↓wp_vOr, ↓wp_vNot, ↓wp_vIfE, ↓wp_vSl, ↓wp_vML, ↓wp_vMD, ↓wp_vCallA, ↓wp_vLc, ↓wp_vDisp, ↓wp_vPs0, ↓wp_vPs1, ↓wp_kSub, ↓wp_kName, ↓wp_seq, ↓wp_next, ↓wp_sBreak, ↓wp_sCont, ↓wp_expr, ↓wp_ret, ↓wp_if, ↓wp_set, ↓wp_asg, ↓wp_par, ↓wp_par3, ↓wp_skill, ↓wp_sfor, ↓wp_vFn, mk, le_line, lt_line, cdiv_ok, tl_get, tl_get0, tl_set, tl_set0, ixt0, ixt1, ixt2, ixt3, ixt4, ixc0, ixc1, ixc2, ixc3, ixc4, ixl0, ixl1, ixl2, ixl3, ixl4, show ss.length ≤ 16000000 by omega]
    all_goals exact ⟨by simp [renDd, eDd, eSe, List.map_map, Function.comp_def], rfl⟩
  | _ =>
    simp only [eDd]
    try simp -dsimp -implicitDefEqProofs [-ixD, -Int.toNat_natCast, ↓wp_bind, ↓wp_fl, ↓wp_ite, ↓wp_fite, ↓wp_v1, ↓wp_v2, ↓wp_vB, ↓wp_vNil, ↓wp_vCons, ↓wp_vA, ↓wp_vAnd, ↓wp_vOr, ↓wp_vNot, ↓wp_vIfE, ↓wp_vSl, ↓wp_vML, ↓wp_vMD, ↓wp_vCallA, ↓wp_vLc, ↓wp_vDisp, ↓wp_vPs0, ↓wp_vPs1, ↓wp_kSub, ↓wp_kName, ↓wp_seq, ↓wp_next, ↓wp_sBreak, ↓wp_sCont, ↓wp_expr, ↓wp_ret, ↓wp_if, ↓wp_set, ↓wp_asg, ↓wp_par, ↓wp_par3, ↓wp_skill, ↓wp_sfor, ↓wp_vFn, mk, le_line, lt_line, cdiv_ok, tl_get, tl_get0, tl_set, tl_set0, ixt0, ixt1, ixt2, ixt3, ixt4, ixc0, ixc1, ixc2, ixc3, ixc4, ixl0, ixl1, ixl2, ixl3, ixl4, -getD2, -inD, i3, i4, g, hS, c2, c4, ofs_inj]
    all_goals exact ⟨rfl, rfl⟩
theorem f_lbook {bd : D} (h1 : BkD bk bd) (hb : BkS bk) (nd : (ps.map (·.1)).Nodup) : F__law_book_by [bd, .ctp (ps.map ePw), .int more] X = .ok (.tup ((bk.map (renPg ps more)).map ePg)) X := by
  have hS : (X ++ [C.dct (eTab ps)])[X.length]? = some (.dct (eTab ps)) := by simp
  have bl := hb.ln
  have dw := dict_w nd
  have rt : (VL.ret 0 X (.tup ((bk.map (renPg ps more)).map ePg)) (X ++ [.dct (eTab ps)])) = .ok (.tup ((bk.map (renPg ps more)).map ePg)) X := ret_low (by simp) (fun j hj => List.getElem?_append_left hj) (by
    rw [D.pure]
    generalize bk.map (renPg ps more) = bk2
    induction bk2 with
    | nil => rfl
    | cons p r ih => rw [List.map_cons, D.pures, ih]; simp [ePg, eNm, D.pure, D.pures, dd_pure])
  have b2l : (bk.map (renPg ps more)).length ≤ 16000000 := by rw [List.length_map]; omega
  refine eq_of_wp ?_
  unfold F__law_book_by
  rw [wp_vFn]; simp only [List.map_cons, List.map_nil, List.length_cons, List.length_nil, Nat.reduceAdd, Nat.reduceSub, List.replicate_succ, List.replicate_zero, List.cons_append, List.nil_append]
  unfold B__law_book_by
  rcases h1 with rfl | rfl
  · try simp -dsimp -implicitDefEqProofs [-ixD, -Int.toNat_natCast, ↓wp_bind, ↓wp_fl, ↓wp_ite, ↓wp_fite, ↓wp_v1, ↓wp_v2, ↓wp_vB, ↓wp_vNil, ↓wp_vCons, ↓wp_vA, ↓wp_vAnd, ↓wp_vOr, ↓wp_vNot, ↓wp_vIfE, ↓wp_vSl, ↓wp_vML, ↓wp_vMD, ↓wp_vCallA, ↓wp_vLc, ↓wp_vDisp, ↓wp_vPs0, ↓wp_vPs1, ↓wp_kSub, ↓wp_kName, ↓wp_seq, ↓wp_next, ↓wp_sBreak, ↓wp_sCont, ↓wp_expr, ↓wp_ret, ↓wp_if, ↓wp_set, ↓wp_asg, ↓wp_par, ↓wp_par3, ↓wp_skill, ↓wp_sfor, ↓wp_vFn, mk, le_line, lt_line, cdiv_ok, tl_get, tl_get0, tl_set, tl_set0, ixt0, ixt1, ixt2, ixt3, ixt4, ixc0, ixc1, ixc2, ixc3, ixc4, ixl0, ixl1, ixl2, ixl3, ixl4, -dictKD, dw, show bk.length ≤ 16000000 by omega]
    refine wp_of (comp_all ePg (fun p => .tup [.tup [.int (p.1.1 + more), .int p.1.2], eDd (renDd ps p.2)]) ok_nil bk fun p hp => ?_) ?_
    · have fd := f_ldeed (ps := ps) hS p.2 (hb.se p hp)
      refine ⟨_, rfl, rfl, ?_⟩
      simp -implicitDefEqProofs [ePg, eNm, fd, le_line]
    rw [ren_nmL]
    generalize bk.map (renPg ps more) = b2 at *
    try simp -dsimp -implicitDefEqProofs [-ixD, -Int.toNat_natCast, ↓wp_bind, ↓wp_fl, ↓wp_ite, ↓wp_fite, ↓wp_v1, ↓wp_v2, ↓wp_vB, ↓wp_vNil, ↓wp_vCons, ↓wp_vA, ↓wp_vAnd, ↓wp_vOr, ↓wp_vNot, ↓wp_vIfE, ↓wp_vSl, ↓wp_vML, ↓wp_vMD, ↓wp_vCallA, ↓wp_vLc, ↓wp_vDisp, ↓wp_vPs0, ↓wp_vPs1, ↓wp_kSub, ↓wp_kName, ↓wp_seq, ↓wp_next, ↓wp_sBreak, ↓wp_sCont, ↓wp_expr, ↓wp_ret, ↓wp_if, ↓wp_set, ↓wp_asg, ↓wp_par, ↓wp_par3, ↓wp_skill, ↓wp_sfor, ↓wp_vFn, mk, le_line, lt_line, cdiv_ok, tl_get, tl_get0, tl_set, tl_set0, ixt0, ixt1, ixt2, ixt3, ixt4, ixc0, ixc1, ixc2, ixc3, ixc4, ixl0, ixl1, ixl2, ixl3, ixl4, b2l]
    exact wp_of rt ⟨rfl, rfl⟩
  · try simp -dsimp -implicitDefEqProofs [-ixD, -Int.toNat_natCast, ↓wp_bind, ↓wp_fl, ↓wp_ite, ↓wp_fite, ↓wp_v1, ↓wp_v2, ↓wp_vB, ↓wp_vNil, ↓wp_vCons, ↓wp_vA, ↓wp_vAnd, ↓wp_vOr, ↓wp_vNot, ↓wp_vIfE, ↓wp_vSl, ↓wp_vML, ↓wp_vMD, ↓wp_vCallA, ↓wp_vLc, ↓wp_vDisp, ↓wp_vPs0, ↓wp_vPs1, ↓wp_kSub, ↓wp_kName, ↓wp_seq, ↓wp_next, ↓wp_sBreak, ↓wp_sCont, ↓wp_expr, ↓wp_ret, ↓wp_if, ↓wp_set, ↓wp_asg, ↓wp_par, ↓wp_par3, ↓wp_skill, ↓wp_sfor, ↓wp_vFn, mk, le_line, lt_line, cdiv_ok, tl_get, tl_get0, tl_set, tl_set0, ixt0, ixt1, ixt2, ixt3, ixt4, ixc0, ixc1, ixc2, ixc3, ixc4, ixl0, ixl1, ixl2, ixl3, ixl4, -dictKD, dw, show bk.length ≤ 16000000 by omega]
    refine wp_of (comp_all ePg (fun p => .tup [.tup [.int (p.1.1 + more), .int p.1.2], eDd (renDd ps p.2)]) ok_nil bk fun p hp => ?_) ?_
    · have fd := f_ldeed (ps := ps) hS p.2 (hb.se p hp)
      refine ⟨_, rfl, rfl, ?_⟩
      simp -implicitDefEqProofs [ePg, eNm, fd, le_line]
    rw [ren_nmL]
    generalize bk.map (renPg ps more) = b2 at *
    try simp -dsimp -implicitDefEqProofs [-ixD, -Int.toNat_natCast, ↓wp_bind, ↓wp_fl, ↓wp_ite, ↓wp_fite, ↓wp_v1, ↓wp_v2, ↓wp_vB, ↓wp_vNil, ↓wp_vCons, ↓wp_vA, ↓wp_vAnd, ↓wp_vOr, ↓wp_vNot, ↓wp_vIfE, ↓wp_vSl, ↓wp_vML, ↓wp_vMD, ↓wp_vCallA, ↓wp_vLc, ↓wp_vDisp, ↓wp_vPs0, ↓wp_vPs1, ↓wp_kSub, ↓wp_kName, ↓wp_seq, ↓wp_next, ↓wp_sBreak, ↓wp_sCont, ↓wp_expr, ↓wp_ret, ↓wp_if, ↓wp_set, ↓wp_asg, ↓wp_par, ↓wp_par3, ↓wp_skill, ↓wp_sfor, ↓wp_vFn, mk, le_line, lt_line, cdiv_ok, tl_get, tl_get0, tl_set, tl_set0, ixt0, ixt1, ixt2, ixt3, ixt4, ixc0, ixc1, ixc2, ixc3, ixc4, ixl0, ixl1, ixl2, ixl3, ixl4, b2l]
    exact wp_of rt ⟨rfl, rfl⟩
end
end TG
set_option Elab.async false
set_option linter.all false
set_option maxRecDepth 100000
set_option maxHeartbeats 4000000
/-! Newer words of elder ones; there and back. -/
namespace TG
open PySem VL G Kd W9 W26 WG TB
def poolB : List Str := ["a", "aa", "ann", "ask", "b", "bob", "c", "even", "go", "l", "m", "nnnnnnnn", "sit", "y", "z", "zz"].map Str.ofString
theorem poolB_len : poolB.length = 16 := rfl
theorem poolB_nd : poolB.Nodup := by decide +kernel
theorem poolB_wd : ∀ s ∈ poolB, wdOk s = true := by decide +kernel
theorem seatB_wd : ∀ s ∈ seatB, wdOk s = true := by decide +kernel
theorem tabB_wd : ∀ s ∈ tabB, wdOk s = true := by decide +kernel
section
variable {ns : List Int} {n n0 : Nat} {st st0 X Y : AS} {m : Int} {d : D} {Q : D → AS → Prop} {E : XQ} {ev : List Str}
theorem zip_ew : ∀ (a b : List Str), (a.map D.str).zip (b.map D.str) = (a.zip b).map fun p => (D.str p.1, D.str p.2)
  | [], _ => by simp
  | _ :: _, [] => by simp
  | x :: a, y :: b => by simp [zip_ew a b]
theorem pws_pure : ∀ ps : List (Str × Str), D.pures (ps.map ePw) = true
  | [] => rfl
  | p :: r => by
    rw [List.map_cons, D.pures, pws_pure r]
    simp [D.pure, D.pures]
theorem f_lpairs (f : Fg ns n st) (hn : n < 800000) (el : ev.length ≤ 10) : ∃ (N : List Str) (st1 : AS), F__law_pairs [.ref 0, .lst (ev.map D.str), .int ev.length] (st ++ X) = .ok (.ctp ((ev.zip N).map ePw)) (st1 ++ X) ∧ N.length = ev.length ∧ N.Nodup ∧ (∀ s ∈ N, s ∈ poolB) ∧ st1.length = 1 ∧ Fg ns (n + 20) st1 := by
  suffices w : (F__law_pairs [.ref 0, .lst (ev.map D.str), .int ev.length] (st ++ X)).wp (fun d S => Hold (∃ (N : List Str) (st1 : AS), d = .ctp ((ev.zip N).map ePw) ∧ S = st1 ++ X ∧ N.length = ev.length ∧ N.Nodup ∧ (∀ s ∈ N, s ∈ poolB) ∧ st1.length = 1 ∧ Fg ns (n + 20) st1)) noX by
    obtain ⟨d, S, e, N, st1, rfl, rfl, h⟩ := w.eq
    exact ⟨N, st1, e, h⟩
  have f0 := f
  have ln := f.ln
  have hs : [D.str (Str.ofString "a"), D.str (Str.ofString "aa"), D.str (Str.ofString "ann"), D.str (Str.ofString "ask"), D.str (Str.ofString "b"), D.str (Str.ofString "bob"), D.str (Str.ofString "c"), D.str (Str.ofString "even"), D.str (Str.ofString "go"), D.str (Str.ofString "l"), D.str (Str.ofString "m"), D.str (Str.ofString "nnnnnnnn"), D.str (Str.ofString "sit"), D.str (Str.ofString "y"), D.str (Str.ofString "z"), D.str (Str.ofString "zz")] = poolB.map D.str := rfl
  unfold F__law_pairs
  rw [wp_vFn]; simp only [List.map_cons, List.map_nil, List.length_cons, List.length_nil, Nat.reduceAdd, Nat.reduceSub, List.replicate_succ, List.replicate_zero, List.cons_append, List.nil_append]
  unfold B__law_pairs
  simp only [wordsF_eq]
  try simp -dsimp -implicitDefEqProofs [-ixD, -Int.toNat_natCast, ↓wp_bind, ↓wp_fl, ↓wp_ite, ↓wp_fite, ↓wp_v1, ↓wp_v2, ↓wp_vB, ↓wp_vNil, ↓wp_vCons, ↓wp_vA, ↓wp_vAnd, ↓wp_vOr, ↓wp_vNot, ↓wp_vIfE, ↓wp_vSl, ↓wp_vML, ↓wp_vMD, ↓wp_vCallA, ↓wp_vLc, ↓wp_vDisp, ↓wp_vPs0, ↓wp_vPs1, ↓wp_kSub, ↓wp_kName, ↓wp_seq, ↓wp_next, ↓wp_sBreak, ↓wp_sCont, ↓wp_expr, ↓wp_ret, ↓wp_if, ↓wp_set, ↓wp_asg, ↓wp_par, ↓wp_par3, ↓wp_skill, ↓wp_sfor, ↓wp_vFn, mk, le_line, lt_line, cdiv_ok, tl_get, tl_get0, tl_set, tl_set0, ixt0, ixt1, ixt2, ixt3, ixt4, ixc0, ixc1, ixc2, ixc3, ixc4, ixl0, ixl1, ixl2, ixl3, ixl4, ln, show ev.length ≤ 16000000 by omega]
  rw [hs]
  have h1 : ev.length ≤ poolB.length := by rw [poolB_len]; omega
  have h2 : poolB.length ≤ 30 := by rw [poolB_len]; omega
  obtain ⟨A, P1, st, e1, al, pm, ln, f⟩ := f_words f ev.length poolB X h1 h2 (by omega)
  obtain ⟨nd, mem⟩ := picked pm poolB_nd
  generalize List.map D.str poolB = sb at *
  refine wp_of e1 ?_
  have sw : ∀ Z, sortD false (.lst (A.map D.str)) Z = .ok (.lst ((sortS A).map D.str)) Z := fun Z => sort_lst _ (by omega) Z
  have wl : (sortS A).length = ev.length := by rw [(sortS_perm _).length_eq, al]
  have nd2 : (sortS A).Nodup := (sortS_perm _).nodup_iff.mpr nd
  have mem2 : ∀ s ∈ sortS A, s ∈ poolB := fun s hs => mem s ((sortS_perm _).mem_iff.mp hs)
  generalize sortS A = N at *
  have zl : (ev.zip N).length = ev.length := by rw [List.length_zip]; omega
  generalize C.lst (P1.map D.str) = pc at *
  have fin : Hold (∃ (N' : List Str) (st1 : AS), D.ctp ((ev.zip N).map ePw) = .ctp ((ev.zip N').map ePw) ∧ st ++ X = st1 ++ X ∧ N'.length = ev.length ∧ N'.Nodup ∧ (∀ s ∈ N', s ∈ poolB) ∧ st1.length = 1 ∧ Fg ns (n + 20) st1) := ⟨N, st, rfl, rfl, wl, nd2, mem2, ln, f.mono (by omega)⟩
  have ez : ((ev.map D.str).zip (N.map D.str)).map (fun p => D.tup [p.1, p.2]) = (ev.zip N).map ePw := by
    rw [zip_ew, List.map_map]
    rfl
  have ct : cut ((ev.zip N).map ePw) none (some (ev.length : Int)) = (ev.zip N).map ePw := by
    rw [cut_to _ _ (by omega)]
    exact List.take_of_length_le (by rw [List.length_map]; omega)
  have zl2 : ((ev.zip N).map ePw).length ≤ 16000000 := by rw [List.length_map]; omega
  have pu := pws_pure (ev.zip N)
  try simp -dsimp -implicitDefEqProofs [-ixD, -Int.toNat_natCast, ↓wp_bind, ↓wp_fl, ↓wp_ite, ↓wp_fite, ↓wp_v1, ↓wp_v2, ↓wp_vB, ↓wp_vNil, ↓wp_vCons, ↓wp_vA, ↓wp_vAnd, ↓wp_vOr, ↓wp_vNot, ↓wp_vIfE, ↓wp_vSl, ↓wp_vML, ↓wp_vMD, ↓wp_vCallA, ↓wp_vLc, ↓wp_vDisp, ↓wp_vPs0, ↓wp_vPs1, ↓wp_kSub, ↓wp_kName, ↓wp_seq, ↓wp_next, ↓wp_sBreak, ↓wp_sCont, ↓wp_expr, ↓wp_ret, ↓wp_if, ↓wp_set, ↓wp_asg, ↓wp_par, ↓wp_par3, ↓wp_skill, ↓wp_sfor, ↓wp_vFn, mk, le_line, lt_line, cdiv_ok, tl_get, tl_get0, tl_set, tl_set0, ixt0, ixt1, ixt2, ixt3, ixt4, ixc0, ixc1, ixc2, ixc3, ixc4, ixl0, ixl1, ixl2, ixl3, ixl4, -sortD, sw, show min ev.length N.length ≤ 16000000 by omega]
  rw [ez]
  refine wp_of (comp_all (α := Str × Str) ePw ePw ok_nil (ev.zip N) fun p _ => ⟨_, rfl, rfl, by simp [le_line]⟩) ?_
  generalize (ev.zip N).map ePw = zz at *
  try simp -dsimp -implicitDefEqProofs [-ixD, -Int.toNat_natCast, ↓wp_bind, ↓wp_fl, ↓wp_ite, ↓wp_fite, ↓wp_v1, ↓wp_v2, ↓wp_vB, ↓wp_vNil, ↓wp_vCons, ↓wp_vA, ↓wp_vAnd, ↓wp_vOr, ↓wp_vNot, ↓wp_vIfE, ↓wp_vSl, ↓wp_vML, ↓wp_vMD, ↓wp_vCallA, ↓wp_vLc, ↓wp_vDisp, ↓wp_vPs0, ↓wp_vPs1, ↓wp_kSub, ↓wp_kName, ↓wp_seq, ↓wp_next, ↓wp_sBreak, ↓wp_sCont, ↓wp_expr, ↓wp_ret, ↓wp_if, ↓wp_set, ↓wp_asg, ↓wp_par, ↓wp_par3, ↓wp_skill, ↓wp_sfor, ↓wp_vFn, mk, le_line, lt_line, cdiv_ok, tl_get, tl_get0, tl_set, tl_set0, ixt0, ixt1, ixt2, ixt3, ixt4, ixc0, ixc1, ixc2, ixc3, ixc4, ixl0, ixl1, ixl2, ixl3, ixl4, ct, zl2]
  exact wp_retT f0 f (by rw [D.pure]; exact pu) fin
@[irreducible] noncomputable def pairsF : List D → AS → Out D := F__law_pairs
theorem pairsF_eq : F__law_pairs = pairsF := by
  unfold pairsF
  rfl
/-! there and back -/
theorem look_zip : ∀ {a b : List Str} {s : Str}, b.length = a.length → s ∈ a → ∃ t, look (a.zip b) s = some t ∧ t ∈ b ∧ (b.Nodup → look (b.zip a) t = some s)
  | [], b, s, _, h => nomatch h
  | x :: a, [], s, hl, h => by simp at hl
  | x :: a, y :: b, s, hl, h => by
    rw [List.zip_cons_cons, List.zip_cons_cons, look_cons]
    by_cases e : x = s
    · refine ⟨y, by rw [if_pos e], List.mem_cons_self, fun _ => ?_⟩
      rw [look_cons, if_pos rfl, ← e]
    · obtain ⟨t, h1, h2, h3⟩ := look_zip (a := a) (b := b) (by simpa using hl) ((List.mem_cons.mp h).resolve_left fun z => e z.symm)
      refine ⟨t, by rw [if_neg e]; exact h1, List.mem_cons_of_mem _ h2, fun nd => ?_⟩
      rw [List.nodup_cons] at nd
      rw [look_cons, if_neg (fun z => nd.1 (by rw [show y = t from z]; exact h2))]
      exact h3 nd.2
theorem nw_back {a b : List Str} (hl : b.length = a.length) (nd : b.Nodup) {s : Str} (hs : s ∈ a) : nw (b.zip a) (nw (a.zip b) s) = s := by
  obtain ⟨t, h1, h2, h3⟩ := look_zip hl hs
  unfold nw
  rw [h1]
  simp only [Option.getD_some]
  rw [h3 nd]
  rfl
theorem nw_wd {ps : List (Str × Str)} (h : ∀ p ∈ ps, wdOk p.2 = true) {s : Str} (hs : wdOk s = true) : wdOk (nw ps s) = true := by
  unfold nw
  cases e : look ps s with
  | none => exact hs
  | some t => exact h _ (look_mem e)
theorem zip_wd {a b : List Str} (h : ∀ s ∈ b, wdOk s = true) : ∀ p ∈ a.zip b, wdOk p.2 = true := fun p hp => h _ (List.of_mem_zip hp).2
theorem zip_keys {a b : List Str} (hl : b.length = a.length) : (a.zip b).map (·.1) = a := List.map_fst_zip (by omega)
theorem zip_swap : ∀ (a b : List Str), (a.zip b).map (fun p => (p.2, p.1)) = b.zip a
  | [], b => by simp
  | x :: a, [] => by simp
  | x :: a, y :: b => by simp [zip_swap a b]
theorem ddr_ren {ps : List (Str × Str)} (h : ∀ p ∈ ps, wdOk p.2 = true) {dd : Dd} (hd : DdR dd) : DdR (renDd ps dd) := by
  have w : ∀ {s : Str}, wdOk s = true → wdOk (nw ps s) = true := fun hs => nw_wd h hs
  cases dd <;> simp only [DdR, renDd] at hd ⊢
  case sit => exact ⟨w hd.1, w hd.2⟩
  case move => exact ⟨w hd.1, w hd.2⟩
  case join => exact ⟨w hd.1, w hd.2⟩
  case go => exact w hd
  case ask => exact ⟨hd.1, hd.2.1, hd.2.2.1, by rw [List.length_map]; exact hd.2.2.2.1, fun s hs => by
    obtain ⟨x, hx, rfl⟩ := List.mem_map.mp hs
    exact w (hd.2.2.2.2 x hx)⟩
  case change => exact hd
  case fire => exact ⟨w hd.1, hd.2⟩
  case rush => exact ⟨w hd.1, hd.2⟩
  case pay => exact ⟨w hd.1, hd.2⟩
  case take => exact ⟨w hd.1, w hd.2.1, hd.2.2⟩
  case even => exact ⟨by rw [List.length_map]; exact hd.1, fun s hs => by
    obtain ⟨x, hx, rfl⟩ := List.mem_map.mp hs
    exact w (hd.2 x hx)⟩
  all_goals exact hd
theorem ren_back {its A B ev N : List Str} (hl : N.length = ev.length) (nd : N.Nodup) (hA : ∀ s ∈ A, s ∈ ev) (hB : ∀ s ∈ B, s ∈ ev) {dd : Dd} (h : DdT its A B dd) : renDd (N.zip ev) (renDd (ev.zip N) dd) = dd := by
  have a : ∀ {s}, s ∈ A → nw (N.zip ev) (nw (ev.zip N) s) = s := fun hs => nw_back hl nd (hA _ hs)
  have b : ∀ {s}, s ∈ B → nw (N.zip ev) (nw (ev.zip N) s) = s := fun hs => nw_back hl nd (hB _ hs)
  have ss : ∀ (l : List Str), (∀ s ∈ l, s ∈ A) → (l.map (nw (ev.zip N))).map (nw (N.zip ev)) = l := fun l hs => by
    rw [List.map_map]
    exact (List.map_congr_left (g := id) fun x hx => a (hs x hx)).trans (List.map_id l)
  cases dd <;> simp only [DdT, renDd] at h ⊢
  case sit => rw [a h.1, b h.2]
  case move => rw [a h.1, b h.2]
  case join => rw [b h.1, b h.2]
  case go => rw [a h]
  case ask => rw [ss _ h.2.2.2.2]
  case fire => rw [b h.1]
  case rush => rw [b h.1]
  case pay => rw [a h.1]
  case take => rw [a h.1, a h.2.1]
  case even => rw [ss _ h.2]
theorem ren_nil (dd : Dd) : renDd [] dd = dd := by
  have e : ∀ s, nw [] s = s := fun s => rfl
  have m : ∀ l : List Str, l.map (nw []) = l := fun l => by
    rw [show nw [] = id from rfl, List.map_id]
  cases dd <;> simp [renDd, e, m]
end
end TG
set_option Elab.async false
set_option linter.all false
set_option maxRecDepth 100000
set_option maxHeartbeats 4000000
/-! What repr writes are letters that there are. -/
namespace TG
open PySem TB
def Lt (s : Str) : Prop := ∀ c ∈ s.cps.toList, c < 1114112
theorem lt_of (s : String) : Lt (Str.ofString s) := by
  intro c hc
  have e : (Str.ofString s).cps.toList = s.toList.map Char.toNat := by
    unfold Str.ofString
    simp only
    exact cpsOfBytes_string s
  rw [e] at hc
  obtain ⟨x, _, rfl⟩ := List.mem_map.mp hc
  have := x.valid
  rcases this with h | h
  · exact Nat.lt_trans h (by decide)
  · exact h.2
theorem lt_app {a b : Str} (ha : Lt a) (hb : Lt b) : Lt (a ++ b) := by
  intro c hc
  have : (a ++ b).cps.toList = a.cps.toList ++ b.cps.toList := by
    show (Str.append a b).cps.toList = _
    unfold Str.append
    simp
  rw [this] at hc
  rcases List.mem_append.mp hc with h | h
  · exact ha c h
  · exact hb c h
theorem chr_lt (x : Char) : x.toNat < 1114112 := by
  rcases x.valid with h | h
  · exact Nat.lt_trans h (by decide)
  · exact h.2
theorem hex_lt (c w x : Nat) (hx : x ∈ List.replicate (w - (List.map Char.toNat (Nat.toDigits 16 c)).length) 48 ++ List.map Char.toNat (Nat.toDigits 16 c)) : x < 1114112 := by
  rcases List.mem_append.mp hx with h | h
  · rw [List.eq_of_mem_replicate h]; decide
  · obtain ⟨y, _, rfl⟩ := List.mem_map.mp h
    exact chr_lt y
theorem rc_lt {q c x : Nat} (hc : c < 1114112) (hx : x ∈ Builtin.Str.reprChar q c) : x < 1114112 := by
  unfold Builtin.Str.reprChar at hx
  simp only at hx
  split at hx
  · simp only [List.mem_cons, List.not_mem_nil, or_false] at hx
    omega
  · split at hx
    · simp only [List.mem_cons, List.not_mem_nil, or_false] at hx
      omega
    · split at hx
      · simp only [List.mem_cons, List.not_mem_nil, or_false] at hx
        omega
      · split at hx
        · simp only [List.mem_cons, List.not_mem_nil, or_false] at hx
          omega
        · split at hx
          · simp only [List.mem_cons, List.not_mem_nil, or_false] at hx
            omega
          · split at hx
            · rcases List.mem_append.mp hx with h | h
              · simp only [List.mem_cons, List.not_mem_nil, or_false] at h
                omega
              · exact hex_lt _ _ _ h
            · split at hx
              · rcases List.mem_append.mp hx with h | h
                · simp only [List.mem_cons, List.not_mem_nil, or_false] at h
                  omega
                · exact hex_lt _ _ _ h
              · rcases List.mem_append.mp hx with h | h
                · simp only [List.mem_cons, List.not_mem_nil, or_false] at h
                  omega
                · exact hex_lt _ _ _ h
theorem rq_lt (z : Str) : reprQuote z < 1114112 := by
  unfold reprQuote
  split <;> decide
theorem lt_repr {z : Str} (h : Lt z) : Lt (reprText z) := by
  intro c hc
  unfold reprText at hc
  simp only [Array.toList_push, ← Array.foldl_toList] at hc
  have key : ∀ (l : List Nat) (a : Array Nat), (∀ x ∈ l, x < 1114112) → (∀ x ∈ a.toList, x < 1114112) → ∀ x ∈ (l.foldl (fun out c => out ++ (Builtin.Str.reprChar (reprQuote z) c).toArray) a).toList, x < 1114112 := by
    intro l
    induction l with
    | nil => exact fun a _ ha x hx => ha x hx
    | cons y l ih =>
      intro a hl ha x hx
      refine ih _ (fun w hw => hl w (List.mem_cons_of_mem _ hw)) (fun w hw => ?_) x hx
      rw [Array.toList_append] at hw
      rcases List.mem_append.mp hw with h1 | h1
      · exact ha w h1
      · exact rc_lt (hl y List.mem_cons_self) (by simpa using h1)
  rcases List.mem_append.mp hc with h1 | h1
  · exact key z.cps.toList #[reprQuote z] (fun x hx => h x hx) (fun x hx => by
      simp at hx
      rw [hx]
      exact rq_lt z) c h1
  · rw [List.mem_singleton.mp h1]
    exact rq_lt z
theorem lt_join {sep : Str} (hs : Lt sep) : ∀ ts : List Str, (∀ t ∈ ts, Lt t) → Lt (sep.join ts)
  | [], _ => by rw [Str.join]; intro c hc; simp [Str.empty] at hc
  | [x], h => by rw [Str.join]; exact h x List.mem_cons_self
  | x :: y :: r, h => by
    rw [Str.join.eq_3 _ _ _ (by simp)]
    exact lt_app (lt_app (h x List.mem_cons_self) hs) (lt_join hs (y :: r) fun t ht => h t (List.mem_cons_of_mem _ ht))
theorem lt_from : ∀ (ts : List Str) (k : Nat) (a : Str), Lt a → (∀ t ∈ ts, Lt t) → Lt (textFrom k a ts)
  | [], k, a, ha, _ => by rw [textFrom]; exact ha
  | t :: ts, k, a, ha, h => by
    rw [textFrom]
    refine lt_from ts _ _ (lt_app (lt_app ha (lt_of _)) (h t List.mem_cons_self)) fun x hx => h x (List.mem_cons_of_mem _ hx)
mutual
theorem lt_shown {j : Nat} : ∀ d : PyData, Ats j d → Lt d.shown
  | .none, _ => by rw [PyData.shown]; exact lt_of _
  | .bool b, _ => by rw [PyData.shown]; split <;> exact lt_of _
  | .int i, _ => by rw [PyData.shown]; exact lt_of _
  | .str z, a => by
    rw [PyData.shown]
    simp only [Ats] at a
    exact lt_repr fun c hc => Nat.lt_trans (a.1 c hc) (by decide)
  | .tuple xs, a => by
    rw [PyData.shown]
    simp only [Ats] at a
    unfold tupleText
    exact lt_app (lt_app (lt_of _) (lt_join (lt_of _) _ (lts_shown xs a))) (lt_of _)
  | .list xs, a => by
    rw [PyData.shown]
    simp only [Ats] at a
    unfold listText
    exact lt_app (lt_from _ _ _ (lt_of _) (lts_shown xs a)) (lt_of _)
  | .dict _, a => by simp only [Ats] at a
theorem lts_shown {j : Nat} : ∀ ds : List PyData, AtsL j ds → ∀ t ∈ PyData.shownAll ds, Lt t
  | [], _, t, ht => by rw [PyData.shownAll] at ht; cases ht
  | d :: ds, a, t, ht => by
    simp only [AtsL] at a
    rw [PyData.shownAll] at ht
    rcases List.mem_cons.mp ht with rfl | ht
    · exact lt_shown d a.1
    · exact lts_shown ds a.2 t ht
end
theorem ok_txt {m k j : Nat} {d : PyData} (h : Fit m k j d) : PyData.strOk (txt d) = true := by
  have := lt_shown d h.at_
  rw [txt_eq]
  unfold PyData.strOk
  rw [← Array.all_toList]
  exact List.all_eq_true.mpr fun c hc => decide_eq_true (this c hc)
end TG
set_option Elab.async false
set_option linter.all false
set_option maxRecDepth 100000
set_option maxHeartbeats 4000000
/-! The law. -/
namespace TG
open PySem VL G Kd W9 W26 WG TB
structure PgR (p : Pg) : Prop where
  n1 : 0 ≤ p.1.1 ∧ p.1.1 ≤ 100000
  n2 : 0 ≤ p.1.2 ∧ p.1.2 ≤ 100
  dd : DdR p.2
theorem rz_pgR {p : Pg} (h : PgR p) : Rz 44 3 (ePg p) := (rz_tup (rzs_cons ((rz_nm (by have := h.n1; omega) (by have := h.n2; omega)).mono (Nat.le_refl 3) (k' := 2) (by omega)) (rzs_cons (rz_ddR h.dd) rzs_nil))).mono (by omega) (by omega)
theorem rz_bkR {bk : List Pg} (h : ∀ p ∈ bk, PgR p) (hl : bk.length ≤ 21) : Rz 1000 4 (.tup (bk.map ePg)) ∧ Rz 1000 4 (.ctp (bk.map ePg)) :=
  ⟨(rz_tup (rzs_mapN (N := 21) ePg (fun p hp => rz_pgR (h p hp)) hl)).mono (by omega) (by omega), (rz_ctp (rzs_mapN (N := 21) ePg (fun p hp => rz_pgR (h p hp)) hl)).mono (by omega) (by omega)⟩
theorem bks_of {bk : List Pg} (h : ∀ p ∈ bk, PgR p) (hl : bk.length ≤ 21) : BkS bk := by
  refine ⟨by omega, fun p hp n it c ss e => ?_⟩
  have := (h p hp).dd
  rcases e with e | e <;> rw [e] at this
  · have := this.2.2.2.1
    omega
  · have := this.1
    omega
theorem pgr_ren {ps : List (Str × Str)} (h : ∀ p ∈ ps, wdOk p.2 = true) {more : Int} (m0 : 0 ≤ more) (m9 : more ≤ 7000) {bk : List Pg} (hb : ∀ p ∈ bk, PgR p ∧ p.1.1 ≤ 100) : ∀ p ∈ bk.map (renPg ps more), PgR p := fun p hp => by
  obtain ⟨q, hq, rfl⟩ := List.mem_map.mp hp
  obtain ⟨⟨a, b, c⟩, d⟩ := hb q hq
  exact ⟨by show 0 ≤ q.1.1 + more ∧ q.1.1 + more ≤ 100000; omega, b, ddr_ren h c⟩
theorem eq_two {t : Str} (ht : PyData.strOk t = true) (X : AS) : eqD true (.lst [.str t, .str t]) (.lst [.str t, .str t]) X = .ok (.bl false) X := by
  have hp : D.pure (.lst [.str t, .str t]) = true := by simp [D.pure, D.pures]
  have f1 : (valD X (.lst [.str t, .str t])).fit = true := by
    rw [val_pure hp]
    unfold D.fit
    rw [hp]
    simp [SeqAt.shaped, D.py, D.pys, PyData.canLay0, PyData.canLayAll0, PyData.depth, PyData.depthAll, ht]
  have e : eqvD (valD X (.lst [.str t, .str t])) (valD X (.lst [.str t, .str t])) = true := by
    rw [val_pure hp]
    simp [eqvD, D.py, D.pys, PyData.eqv, PyData.eqvAll]
  unfold eqD
  rw [f1, e]
  simp [scalD]
theorem law_wp (ns : List Int) (hl : ns.length ≤ 63) : (F_law_b348 [.fzl (ns.map D.int)] []).wp (fun d _ => d = .bl true) noX := by
  obtain ⟨S0, e0, f⟩ := f_feed ns hl
  have DO : True := trivial
  obtain ⟨ms, od, ha, hb, st, e1, m0, m4, mi, ln, f⟩ := f_house (X := []) f (by omega)
  obtain ⟨A0, B, st, e2, a2, a4, And_, Am, b2, b3, Bm, ln, f⟩ := f_guests (X := []) f (by omega)
  have wA0 : ∀ s ∈ A0, wdOk s = true := fun s hs => seatB_wd s (Am s hs)
  have wB : ∀ s ∈ B, wdOk s = true := fun s hs => tabB_wd s (Bm s hs)
  have al : (sortS A0).length = A0.length := (sortS_perm _).length_eq
  have wA : ∀ s ∈ sortS A0, wdOk s = true := fun s hs => wA0 s ((sortS_perm _).mem_iff.mp hs)
  generalize sortS A0 = A at *
  simp only [List.append_nil] at e1 e2
  unfold F_law_b348
  rw [wp_vFn]; simp only [List.map_cons, List.map_nil, List.length_cons, List.length_nil, Nat.reduceAdd, Nat.reduceSub, List.replicate_succ, List.replicate_zero, List.cons_append, List.nil_append]
  unfold B_law_b348
  simp only [pairsF_eq]
  try simp -dsimp -implicitDefEqProofs [-ixD, -Int.toNat_natCast, ↓wp_bind, ↓wp_fl, ↓wp_ite, ↓wp_fite, ↓wp_v1, ↓wp_v2, ↓wp_vB, ↓wp_vNil, ↓wp_vCons, ↓wp_vA, ↓wp_vAnd, ↓wp_vOr, ↓wp_vNot, ↓wp_vIfE, ↓wp_vSl, ↓wp_vML, ↓wp_vMD, ↓wp_vCallA, ↓wp_vLc, ↓wp_vDisp, ↓wp_vPs0, ↓wp_vPs1, ↓wp_kSub, ↓wp_kName, ↓wp_seq, ↓wp_next, ↓wp_sBreak, ↓wp_sCont, ↓wp_expr, ↓wp_ret, ↓wp_if, ↓wp_set, ↓wp_asg, ↓wp_par, ↓wp_par3, ↓wp_skill, ↓wp_sfor, ↓wp_vFn, mk, le_line, lt_line, cdiv_ok, tl_get, tl_get0, tl_set, tl_set0, ixt0, ixt1, ixt2, ixt3, ixt4, ixc0, ixc1, ixc2, ixc3, ixc4, ixl0, ixl1, ixl2, ixl3, ixl4]
  refine wp_of e0 ?_
  try simp -dsimp -implicitDefEqProofs [-ixD, -Int.toNat_natCast, ↓wp_bind, ↓wp_fl, ↓wp_ite, ↓wp_fite, ↓wp_v1, ↓wp_v2, ↓wp_vB, ↓wp_vNil, ↓wp_vCons, ↓wp_vA, ↓wp_vAnd, ↓wp_vOr, ↓wp_vNot, ↓wp_vIfE, ↓wp_vSl, ↓wp_vML, ↓wp_vMD, ↓wp_vCallA, ↓wp_vLc, ↓wp_vDisp, ↓wp_vPs0, ↓wp_vPs1, ↓wp_kSub, ↓wp_kName, ↓wp_seq, ↓wp_next, ↓wp_sBreak, ↓wp_sCont, ↓wp_expr, ↓wp_ret, ↓wp_if, ↓wp_set, ↓wp_asg, ↓wp_par, ↓wp_par3, ↓wp_skill, ↓wp_sfor, ↓wp_vFn, mk, le_line, lt_line, cdiv_ok, tl_get, tl_get0, tl_set, tl_set0, ixt0, ixt1, ixt2, ixt3, ixt4, ixc0, ixc1, ixc2, ixc3, ixc4, ixl0, ixl1, ixl2, ixl3, ixl4]
  refine wp_of e1 ?_
  try simp -dsimp -implicitDefEqProofs [-ixD, -Int.toNat_natCast, ↓wp_bind, ↓wp_fl, ↓wp_ite, ↓wp_fite, ↓wp_v1, ↓wp_v2, ↓wp_vB, ↓wp_vNil, ↓wp_vCons, ↓wp_vA, ↓wp_vAnd, ↓wp_vOr, ↓wp_vNot, ↓wp_vIfE, ↓wp_vSl, ↓wp_vML, ↓wp_vMD, ↓wp_vCallA, ↓wp_vLc, ↓wp_vDisp, ↓wp_vPs0, ↓wp_vPs1, ↓wp_kSub, ↓wp_kName, ↓wp_seq, ↓wp_next, ↓wp_sBreak, ↓wp_sCont, ↓wp_expr, ↓wp_ret, ↓wp_if, ↓wp_set, ↓wp_asg, ↓wp_par, ↓wp_par3, ↓wp_skill, ↓wp_sfor, ↓wp_vFn, mk, le_line, lt_line, cdiv_ok, tl_get, tl_get0, tl_set, tl_set0, ixt0, ixt1, ixt2, ixt3, ixt4, ixc0, ixc1, ixc2, ixc3, ixc4, ixl0, ixl1, ixl2, ixl3, ixl4]
  refine wp_of e2 ?_
  try simp -dsimp -implicitDefEqProofs [-ixD, -Int.toNat_natCast, ↓wp_bind, ↓wp_fl, ↓wp_ite, ↓wp_fite, ↓wp_v1, ↓wp_v2, ↓wp_vB, ↓wp_vNil, ↓wp_vCons, ↓wp_vA, ↓wp_vAnd, ↓wp_vOr, ↓wp_vNot, ↓wp_vIfE, ↓wp_vSl, ↓wp_vML, ↓wp_vMD, ↓wp_vCallA, ↓wp_vLc, ↓wp_vDisp, ↓wp_vPs0, ↓wp_vPs1, ↓wp_kSub, ↓wp_kName, ↓wp_seq, ↓wp_next, ↓wp_sBreak, ↓wp_sCont, ↓wp_expr, ↓wp_ret, ↓wp_if, ↓wp_set, ↓wp_asg, ↓wp_par, ↓wp_par3, ↓wp_skill, ↓wp_sfor, ↓wp_vFn, mk, le_line, lt_line, cdiv_ok, tl_get, tl_get0, tl_set, tl_set0, ixt0, ixt1, ixt2, ixt3, ixt4, ixc0, ixc1, ixc2, ixc3, ixc4, ixl0, ixl1, ixl2, ixl3, ixl4]
  refine wp_draw0 DO f (by omega) (by omega) (by omega) ?_; intro r1 st zr1 yr1 ln f
  obtain ⟨k, hk, k17⟩ : ∃ k : Nat, r1 = k ∧ k ≤ 17 := ⟨r1.toNat, by omega, by omega⟩
  subst hk
  obtain ⟨bk, st, e3, bl, bo, ln, f⟩ := f_pages (X := []) (A := A) (B := B) (ms := ms) (od := od) (ha := ha) (hb := hb) f (by omega) m0 m4 (by omega) (by omega) b2 (by omega) (fun r hr => items_asc _ (mi r hr)) wA wB k17
  simp only [List.append_nil] at e3
  try simp -dsimp -implicitDefEqProofs [-ixD, -Int.toNat_natCast, ↓wp_bind, ↓wp_fl, ↓wp_ite, ↓wp_fite, ↓wp_v1, ↓wp_v2, ↓wp_vB, ↓wp_vNil, ↓wp_vCons, ↓wp_vA, ↓wp_vAnd, ↓wp_vOr, ↓wp_vNot, ↓wp_vIfE, ↓wp_vSl, ↓wp_vML, ↓wp_vMD, ↓wp_vCallA, ↓wp_vLc, ↓wp_vDisp, ↓wp_vPs0, ↓wp_vPs1, ↓wp_kSub, ↓wp_kName, ↓wp_seq, ↓wp_next, ↓wp_sBreak, ↓wp_sCont, ↓wp_expr, ↓wp_ret, ↓wp_if, ↓wp_set, ↓wp_asg, ↓wp_par, ↓wp_par3, ↓wp_skill, ↓wp_sfor, ↓wp_vFn, mk, le_line, lt_line, cdiv_ok, tl_get, tl_get0, tl_set, tl_set0, ixt0, ixt1, ixt2, ixt3, ixt4, ixc0, ixc1, ixc2, ixc3, ixc4, ixl0, ixl1, ixl2, ixl3, ixl4]
  refine wp_of e3 ?_
  have SS : ∀ X, srtSetD false (.lst (A.map D.str ++ B.map D.str)) X = .ok (.lst ((sortS (ddup (A ++ B))).map D.str)) X := fun X => by
    rw [← List.map_append]
    have hlen : (A ++ B).length ≤ 1000 := by rw [List.length_append]; omega
    have hne : A ++ B ≠ [] := fun z => by
      have := congrArg List.length z
      rw [List.length_append, List.length_nil] at this
      omega
    generalize A ++ B = AB at *
    cases AB with
    | nil => exact absurd rfl hne
    | cons x xs =>
      have h1 : intsOf ((x :: xs).map D.str) = none := rfl
      have h3 := strsOf_map (x :: xs)
      unfold srtSetD
      generalize x :: xs = z at *
      simp [h1, hlen, h3]
  have evl : (sortS (ddup (A ++ B))).length ≤ 7 := by
    rw [(sortS_perm _).length_eq]
    refine Nat.le_trans (ddup_len _) ?_
    rw [List.length_append]
    omega
  have evm : ∀ s, s ∈ A ∨ s ∈ B → s ∈ sortS (ddup (A ++ B)) := fun s hs => (sortS_perm _).mem_iff.mpr (mem_ddup.mpr (List.mem_append.mpr hs))
  have evd : (sortS (ddup (A ++ B))).Nodup := (sortS_perm _).nodup_iff.mpr (nodup_ddup _)
  have evw : ∀ s ∈ sortS (ddup (A ++ B)), wdOk s = true := fun s hs => by
    rcases List.mem_append.mp (mem_ddup.mp ((sortS_perm _).mem_iff.mp hs)) with h | h
    · exact wA s h
    · exact wB s h
  have ev0 : 0 < (sortS (ddup (A ++ B))).length := by
    obtain ⟨x, hx⟩ : ∃ x, x ∈ A := List.exists_mem_of_length_pos (by omega)
    exact List.length_pos_of_mem (evm x (.inl hx))
  generalize sortS (ddup (A ++ B)) = ev at *
  have hB : ∀ p ∈ bk, PgR p ∧ p.1.1 ≤ 100 := fun p hp => by
    have h := bo p hp
    refine ⟨⟨⟨h.n1.1, by have := h.n1.2; omega⟩, h.n2, ddr_of (fun s hs => ?_) wA wB h.dd⟩, h.n1.2⟩
    obtain ⟨r, hr, rfl⟩ := List.mem_map.mp hs
    exact items_asc _ (mi r hr)
  have bs := bks_of (fun p hp => (hB p hp).1) bl
  have bd : BkD bk (.ctp (bk.map ePg)) := .inr rfl
  have RP := rz_bkR (fun p hp => (hB p hp).1) bl
  have bl' : bk.length ≤ 16000000 := by omega
  have ev' : ev.length ≤ 16000000 := by omega
  try simp -dsimp -implicitDefEqProofs [-ixD, -Int.toNat_natCast, ↓wp_bind, ↓wp_fl, ↓wp_ite, ↓wp_fite, ↓wp_v1, ↓wp_v2, ↓wp_vB, ↓wp_vNil, ↓wp_vCons, ↓wp_vA, ↓wp_vAnd, ↓wp_vOr, ↓wp_vNot, ↓wp_vIfE, ↓wp_vSl, ↓wp_vML, ↓wp_vMD, ↓wp_vCallA, ↓wp_vLc, ↓wp_vDisp, ↓wp_vPs0, ↓wp_vPs1, ↓wp_kSub, ↓wp_kName, ↓wp_seq, ↓wp_next, ↓wp_sBreak, ↓wp_sCont, ↓wp_expr, ↓wp_ret, ↓wp_if, ↓wp_set, ↓wp_asg, ↓wp_par, ↓wp_par3, ↓wp_skill, ↓wp_sfor, ↓wp_vFn, mk, le_line, lt_line, cdiv_ok, tl_get, tl_get0, tl_set, tl_set0, ixt0, ixt1, ixt2, ixt3, ixt4, ixc0, ixc1, ixc2, ixc3, ixc4, ixl0, ixl1, ixl2, ixl3, ixl4, -srtSetD, SS, bl', show A.length + B.length ≤ 16000000 by omega, show A.length ≤ 16000000 by omega, show B.length ≤ 16000000 by omega, rng1_ok]
  simp only [show (2 : Int).toNat = 2 from rfl, rgL_0]
  refine wp_for0 (fun ds env S' => Hold (∃ (j : Nat) (st : AS), ds = rgL 2 j ∧ env = [some (.fzl (ns.map D.int)), some (.ref 0), some (.tup [eMenu ms, od, .int ha, .int hb]), some (.tup [.lst (A.map D.str), .lst (B.map D.str)]), some (.ctp (bk.map ePg)), some (.lst (ev.map D.str)), none, none, none, none, none, none, none, none, none, none] ∧ S' = st ∧ Fg ns (5000 + 200 * j) st ∧ j ≤ 2)) ?_ ?_ ?_
  · exact ⟨0, st, rfl, rfl, rfl, f.mono (by omega), by omega⟩
  · rintro d ds env S' ⟨j, st, q1, q2, q3, f, j2⟩
    subst q2
    subst q3
    obtain ⟨hj, rfl, rfl⟩ := rgL_at q1
    have ln := f.ln
    obtain ⟨N, st, e4, nl, nn, nm, ln, f⟩ := f_lpairs (ev := ev) (X := []) f (by omega) (by omega)
    simp only [List.append_nil] at e4
    rw [pairsF_eq] at e4
    try simp -dsimp -implicitDefEqProofs [-ixD, -Int.toNat_natCast, ↓wp_bind, ↓wp_fl, ↓wp_ite, ↓wp_fite, ↓wp_v1, ↓wp_v2, ↓wp_vB, ↓wp_vNil, ↓wp_vCons, ↓wp_vA, ↓wp_vAnd, ↓wp_vOr, ↓wp_vNot, ↓wp_vIfE, ↓wp_vSl, ↓wp_vML, ↓wp_vMD, ↓wp_vCallA, ↓wp_vLc, ↓wp_vDisp, ↓wp_vPs0, ↓wp_vPs1, ↓wp_kSub, ↓wp_kName, ↓wp_seq, ↓wp_next, ↓wp_sBreak, ↓wp_sCont, ↓wp_expr, ↓wp_ret, ↓wp_if, ↓wp_set, ↓wp_asg, ↓wp_par, ↓wp_par3, ↓wp_skill, ↓wp_sfor, ↓wp_vFn, mk, le_line, lt_line, cdiv_ok, tl_get, tl_get0, tl_set, tl_set0, ixt0, ixt1, ixt2, ixt3, ixt4, ixc0, ixc1, ixc2, ixc3, ixc4, ixl0, ixl1, ixl2, ixl3, ixl4, ev']
    refine wp_of e4 ?_
    try simp -dsimp -implicitDefEqProofs [-ixD, -Int.toNat_natCast, ↓wp_bind, ↓wp_fl, ↓wp_ite, ↓wp_fite, ↓wp_v1, ↓wp_v2, ↓wp_vB, ↓wp_vNil, ↓wp_vCons, ↓wp_vA, ↓wp_vAnd, ↓wp_vOr, ↓wp_vNot, ↓wp_vIfE, ↓wp_vSl, ↓wp_vML, ↓wp_vMD, ↓wp_vCallA, ↓wp_vLc, ↓wp_vDisp, ↓wp_vPs0, ↓wp_vPs1, ↓wp_kSub, ↓wp_kName, ↓wp_seq, ↓wp_next, ↓wp_sBreak, ↓wp_sCont, ↓wp_expr, ↓wp_ret, ↓wp_if, ↓wp_set, ↓wp_asg, ↓wp_par, ↓wp_par3, ↓wp_skill, ↓wp_sfor, ↓wp_vFn, mk, le_line, lt_line, cdiv_ok, tl_get, tl_get0, tl_set, tl_set0, ixt0, ixt1, ixt2, ixt3, ixt4, ixc0, ixc1, ixc2, ixc3, ixc4, ixl0, ixl1, ixl2, ixl3, ixl4]
    refine wp_draw0 DO f (by omega) (by omega) (by omega) ?_; intro r2 st zr2 yr2 ln f
    try simp -dsimp -implicitDefEqProofs [-ixD, -Int.toNat_natCast, ↓wp_bind, ↓wp_fl, ↓wp_ite, ↓wp_fite, ↓wp_v1, ↓wp_v2, ↓wp_vB, ↓wp_vNil, ↓wp_vCons, ↓wp_vA, ↓wp_vAnd, ↓wp_vOr, ↓wp_vNot, ↓wp_vIfE, ↓wp_vSl, ↓wp_vML, ↓wp_vMD, ↓wp_vCallA, ↓wp_vLc, ↓wp_vDisp, ↓wp_vPs0, ↓wp_vPs1, ↓wp_kSub, ↓wp_kName, ↓wp_seq, ↓wp_next, ↓wp_sBreak, ↓wp_sCont, ↓wp_expr, ↓wp_ret, ↓wp_if, ↓wp_set, ↓wp_asg, ↓wp_par, ↓wp_par3, ↓wp_skill, ↓wp_sfor, ↓wp_vFn, mk, le_line, lt_line, cdiv_ok, tl_get, tl_get0, tl_set, tl_set0, ixt0, ixt1, ixt2, ixt3, ixt4, ixc0, ixc1, ixc2, ixc3, ixc4, ixl0, ixl1, ixl2, ixl3, ixl4]
    refine wp_draw0 DO f (by omega) (by omega) (by omega) ?_; intro r3 st zr3 yr3 ln f
    try simp -dsimp -implicitDefEqProofs [-ixD, -Int.toNat_natCast, ↓wp_bind, ↓wp_fl, ↓wp_ite, ↓wp_fite, ↓wp_v1, ↓wp_v2, ↓wp_vB, ↓wp_vNil, ↓wp_vCons, ↓wp_vA, ↓wp_vAnd, ↓wp_vOr, ↓wp_vNot, ↓wp_vIfE, ↓wp_vSl, ↓wp_vML, ↓wp_vMD, ↓wp_vCallA, ↓wp_vLc, ↓wp_vDisp, ↓wp_vPs0, ↓wp_vPs1, ↓wp_kSub, ↓wp_kName, ↓wp_seq, ↓wp_next, ↓wp_sBreak, ↓wp_sCont, ↓wp_expr, ↓wp_ret, ↓wp_if, ↓wp_set, ↓wp_asg, ↓wp_par, ↓wp_par3, ↓wp_skill, ↓wp_sfor, ↓wp_vFn, mk, le_line, lt_line, cdiv_ok, tl_get, tl_get0, tl_set, tl_set0, ixt0, ixt1, ixt2, ixt3, ixt4, ixc0, ixc1, ixc2, ixc3, ixc4, ixl0, ixl1, ixl2, ixl3, ixl4]
    refine wp_ixIL [0, 1, 7000, r2] 4 rfl rfl (by omega) (by omega) ?_; intro v hv
    have v9 : 0 ≤ v ∧ v ≤ 7000 := by simp at hv; omega
    have nd1 : ((ev.zip N).map (·.1)).Nodup := by rw [zip_keys nl]; exact evd
    have nd2 : ((N.zip ev).map (·.1)).Nodup := by rw [zip_keys nl.symm]; exact nn
    have wd1 := zip_wd (a := ev) (b := N) (fun s hs => poolB_wd s (nm s hs))
    have wdN : ∀ p ∈ ([] : List (Str × Str)), wdOk p.2 = true := by simp
    have b0l : (bk.map (renPg (ev.zip N) 0)).length ≤ 21 := by rw [List.length_map]; exact bl
    have bs0 := bks_of (pgr_ren wd1 (more := 0) (by omega) (by omega) hB) b0l
    have F1 := fun X => f_renamed (ps := ev.zip N) (more := v) (X := X) bd bs (.inr ⟨rfl, nd1⟩)
    have F0 := fun X => f_renamed (ps := ev.zip N) (more := 0) (X := X) bd bs (.inr ⟨rfl, nd1⟩)
    have G2 := fun X => f_renamed (ps := []) (more := v) (X := X) bd bs (.inl ⟨rfl, rfl⟩)
    have L1 := fun X => f_lbook (ps := ev.zip N) (more := v) (X := X) bd bs nd1
    have L0 := fun X => f_lbook (ps := ev.zip N) (more := 0) (X := X) bd bs nd1
    have LE := fun X => f_lbook (ps := []) (more := v) (X := X) bd bs (by simp)
    have H0 := fun X => f_renamed (bk := bk.map (renPg (ev.zip N) 0)) (ps := N.zip ev) (more := 0) (X := X) (.inl rfl) bs0 (.inr ⟨rfl, nd2⟩)
    have e9 : (bk.map (renPg (ev.zip N) 0)).map (renPg (N.zip ev) 0) = bk := by
      rw [List.map_map]
      refine (List.map_congr_left (g := id) fun p hp => ?_).trans (List.map_id bk)
      have := ren_back (its := ms.map (·.1)) (A := A) (B := B) nl nn (fun s hs => evm s (.inl hs)) (fun s hs => evm s (.inr hs)) (bo p hp).dd
      obtain ⟨⟨a, b⟩, dd⟩ := p
      show ((a + 0 + 0, b), renDd (N.zip ev) (renDd (ev.zip N) dd)) = ((a, b), dd)
      rw [this, Int.add_zero, Int.add_zero]
    rw [e9] at H0
    have R1 := fun X => repr_rz (st := X) (rz_bkR (pgr_ren wd1 (more := v) v9.1 v9.2 hB) (by rw [List.length_map]; exact bl)).1 (by omega) (by omega)
    have R0 := fun X => repr_rz (st := X) (rz_bkR (pgr_ren wd1 (more := 0) (by omega) (by omega) hB) b0l).1 (by omega) (by omega)
    have RE := fun X => repr_rz (st := X) (rz_bkR (pgr_ren wdN (more := v) v9.1 v9.2 hB) (by rw [List.length_map]; exact bl)).1 (by omega) (by omega)
    have okE := ok_txt (rz_bkR (pgr_ren wdN (more := v) v9.1 v9.2 hB) (by rw [List.length_map]; exact bl)).1.f
    have RB := fun X => repr_rz (st := X) RP.2 (by omega) (by omega)
    have RT : ∀ X, reprD (.tup (bk.map ePg)) X = .ok (.str (txt (D.ctp (bk.map ePg)).py)) X := fun X => repr_rz (st := X) RP.1 (by omega) (by omega)
    have rw1 : Rz 40 4 (.ctp ((ev.zip N).map ePw)) := (rz_ctp (rzs_mapN (N := 7) ePw (fun p hp => (rz_tup (rzs_cons (k := 0) (rz_wd (evw _ (List.of_mem_zip hp).1)) (rzs_cons (rz_wd (poolB_wd _ (nm _ (List.of_mem_zip hp).2))) rzs_nil)))) (by rw [List.length_zip]; omega))).mono (by omega) (by omega)
    have RH := fun X => repr_rz (st := X) (rz_tup (rzs_cons RP.2 (rzs_cons rw1 rzs_nil))) (by omega) (by omega)
    have zl : (ev.zip N).length ≤ 16000000 := by rw [List.length_zip]; omega
    have zl2 : ((N.zip ev).map ePw).length ≤ 16000000 := by rw [List.length_map, List.length_zip]; omega
    have ct : (ev.zip N).map (fun p => ePw (p.2, p.1)) = (N.zip ev).map ePw := by rw [← zip_swap ev N, List.map_map]; rfl
    generalize (bk.map (renPg (ev.zip N) v)).map ePg = D1 at *
    generalize (bk.map (renPg (ev.zip N) 0)).map ePg = D0 at *
    generalize (bk.map (renPg [] v)).map ePg = DE at *
    simp only [List.map_nil] at LE
    have ET := fun X => eq_two okE X
    have tt : isT "tuple" "tuple" = true := by decide +kernel
    try simp -dsimp -implicitDefEqProofs [-ixD, -Int.toNat_natCast, ↓wp_bind, ↓wp_fl, ↓wp_ite, ↓wp_fite, ↓wp_v1, ↓wp_v2, ↓wp_vB, ↓wp_vNil, ↓wp_vCons, ↓wp_vA, ↓wp_vAnd, ↓wp_vOr, ↓wp_vNot, ↓wp_vIfE, ↓wp_vSl, ↓wp_vML, ↓wp_vMD, ↓wp_vCallA, ↓wp_vLc, ↓wp_vDisp, ↓wp_vPs0, ↓wp_vPs1, ↓wp_kSub, ↓wp_kName, ↓wp_seq, ↓wp_next, ↓wp_sBreak, ↓wp_sCont, ↓wp_expr, ↓wp_ret, ↓wp_if, ↓wp_set, ↓wp_asg, ↓wp_par, ↓wp_par3, ↓wp_skill, ↓wp_sfor, ↓wp_vFn, mk, le_line, lt_line, cdiv_ok, tl_get, tl_get0, tl_set, tl_set0, ixt0, ixt1, ixt2, ixt3, ixt4, ixc0, ixc1, ixc2, ixc3, ixc4, ixl0, ixl1, ixl2, ixl3, ixl4, -reprD, RH, F1, L1, R1, F0, L0, R0, LE, G2, RE, bl', -eqD, ET, tt, show min ev.length N.length ≤ 16000000 by omega]
    refine wp_of (comp_all (α := Str × Str) ePw (fun p => ePw (p.2, p.1)) ok_nil (ev.zip N) fun p _ => ⟨_, rfl, rfl, by simp [le_line]⟩) ?_
    rw [ct]
    generalize (N.zip ev).map ePw = W2 at *
    try simp -dsimp -implicitDefEqProofs [-ixD, -Int.toNat_natCast, ↓wp_bind, ↓wp_fl, ↓wp_ite, ↓wp_fite, ↓wp_v1, ↓wp_v2, ↓wp_vB, ↓wp_vNil, ↓wp_vCons, ↓wp_vA, ↓wp_vAnd, ↓wp_vOr, ↓wp_vNot, ↓wp_vIfE, ↓wp_vSl, ↓wp_vML, ↓wp_vMD, ↓wp_vCallA, ↓wp_vLc, ↓wp_vDisp, ↓wp_vPs0, ↓wp_vPs1, ↓wp_kSub, ↓wp_kName, ↓wp_seq, ↓wp_next, ↓wp_sBreak, ↓wp_sCont, ↓wp_expr, ↓wp_ret, ↓wp_if, ↓wp_set, ↓wp_asg, ↓wp_par, ↓wp_par3, ↓wp_skill, ↓wp_sfor, ↓wp_vFn, mk, le_line, lt_line, cdiv_ok, tl_get, tl_get0, tl_set, tl_set0, ixt0, ixt1, ixt2, ixt3, ixt4, ixc0, ixc1, ixc2, ixc3, ixc4, ixl0, ixl1, ixl2, ixl3, ixl4, -reprD, zl2, F0, H0, RT, RB, RH]
    all_goals dsimp only [killE, List.set_cons_succ, List.set_cons_zero]
    all_goals exact ⟨j + 1, st, rfl, rfl, rfl, f.mono (by omega), by omega⟩
  · rintro env S' ⟨j, st, q1, q2, q3, f, j2⟩
    subst q2
    subst q3
    try simp -dsimp -implicitDefEqProofs [-ixD, -Int.toNat_natCast, ↓wp_bind, ↓wp_fl, ↓wp_ite, ↓wp_fite, ↓wp_v1, ↓wp_v2, ↓wp_vB, ↓wp_vNil, ↓wp_vCons, ↓wp_vA, ↓wp_vAnd, ↓wp_vOr, ↓wp_vNot, ↓wp_vIfE, ↓wp_vSl, ↓wp_vML, ↓wp_vMD, ↓wp_vCallA, ↓wp_vLc, ↓wp_vDisp, ↓wp_vPs0, ↓wp_vPs1, ↓wp_kSub, ↓wp_kName, ↓wp_seq, ↓wp_next, ↓wp_sBreak, ↓wp_sCont, ↓wp_expr, ↓wp_ret, ↓wp_if, ↓wp_set, ↓wp_asg, ↓wp_par, ↓wp_par3, ↓wp_skill, ↓wp_sfor, ↓wp_vFn, mk, le_line, lt_line, cdiv_ok, tl_get, tl_get0, tl_set, tl_set0, ixt0, ixt1, ixt2, ixt3, ixt4, ixc0, ixc1, ixc2, ixc3, ixc4, ixl0, ixl1, ixl2, ixl3, ixl4]
    refine wp_ixB (by omega) (by omega) ev0 ?_
    intro z hz
    have wz : ∀ p ∈ [(z, Str.ofString "zzz")], wdOk p.2 = true := by
      intro p hp
      rw [List.mem_singleton.mp hp]
      show wdOk (Str.ofString "zzz") = true
      decide +kernel
    have F1 := fun X => f_renamed (ps := [(z, Str.ofString "zzz")]) (more := 0) (X := X) bd bs (.inr ⟨rfl, by simp⟩)
    have L1 := fun X => f_lbook (ps := [(z, Str.ofString "zzz")]) (more := 0) (X := X) bd bs (by simp)
    have R1 := fun X => repr_rz (st := X) (rz_bkR (pgr_ren wz (more := 0) (by omega) (by omega) hB) (by rw [List.length_map]; exact bl)).1 (by omega) (by omega)
    have N1 := fun X => f_renamed (ps := []) (more := 0) (X := X) bd bs (.inl ⟨rfl, rfl⟩)
    have N2 := fun X => f_renamed (ps := []) (more := 0) (X := X) bd bs (.inr ⟨rfl, by simp⟩)
    have N3 := fun X => f_renamed (bk := []) (bd := .ctp []) (ps := []) (more := 3) (X := X) (.inr rfl) ⟨by simp, by simp⟩ (.inl ⟨rfl, rfl⟩)
    have e9 : bk.map (renPg [] 0) = bk := by
      refine (List.map_congr_left (g := id) fun p hp => ?_).trans (List.map_id bk)
      obtain ⟨⟨a, b⟩, dd⟩ := p
      show ((a + 0, b), renDd [] dd) = ((a, b), dd)
      rw [ren_nil, Int.add_zero]
    rw [e9] at N1 N2
    have r3 : Rz 4000 5 (.lst [.tup (bk.map ePg), .tup (bk.map ePg), .tup []]) := (rz_lst (rzs_cons RP.1 (rzs_cons RP.1 (rzs_cons (rz_tup (k := 3) rzs_nil) rzs_nil)))).mono (by omega) (by omega)
    have r4 : Rz 4000 5 (.lst [.ctp (bk.map ePg), .ctp (bk.map ePg), .ctp []]) := (rz_lst (rzs_cons RP.2 (rzs_cons RP.2 (rzs_cons (rz_ctp (k := 3) rzs_nil) rzs_nil)))).mono (by omega) (by omega)
    have T3 := fun X => repr_rz (st := X) r3 (by omega) (by omega)
    have T4 : ∀ X, reprD (.lst [.ctp (bk.map ePg), .ctp (bk.map ePg), .ctp []]) X = .ok (.str (txt (D.lst [.tup (bk.map ePg), .tup (bk.map ePg), .tup []]).py)) X := fun X => repr_rz (st := X) r4 (by omega) (by omega)
    simp only [List.map_cons, List.map_nil] at F1 L1 N2 N3
    generalize (bk.map (renPg [(z, Str.ofString "zzz")] 0)).map ePg = D1 at *
    try simp -dsimp -implicitDefEqProofs [-ixD, -Int.toNat_natCast, ↓wp_bind, ↓wp_fl, ↓wp_ite, ↓wp_fite, ↓wp_v1, ↓wp_v2, ↓wp_vB, ↓wp_vNil, ↓wp_vCons, ↓wp_vA, ↓wp_vAnd, ↓wp_vOr, ↓wp_vNot, ↓wp_vIfE, ↓wp_vSl, ↓wp_vML, ↓wp_vMD, ↓wp_vCallA, ↓wp_vLc, ↓wp_vDisp, ↓wp_vPs0, ↓wp_vPs1, ↓wp_kSub, ↓wp_kName, ↓wp_seq, ↓wp_next, ↓wp_sBreak, ↓wp_sCont, ↓wp_expr, ↓wp_ret, ↓wp_if, ↓wp_set, ↓wp_asg, ↓wp_par, ↓wp_par3, ↓wp_skill, ↓wp_sfor, ↓wp_vFn, mk, le_line, lt_line, cdiv_ok, tl_get, tl_get0, tl_set, tl_set0, ixt0, ixt1, ixt2, ixt3, ixt4, ixc0, ixc1, ixc2, ixc3, ixc4, ixl0, ixl1, ixl2, ixl3, ixl4, -reprD, ↓gTupF, F1, L1, R1, N1, N2, N3, T3, T4]
    exact ret_bl
end TG
namespace V79
open PySem VL G
theorem law_true (ns : List Int) (h : ns.length ≤ 63) : ∃ st, F_law_b348 [.fzl (ns.map D.int)] [] = .ok (.bl true) st := by
  obtain ⟨d, st, e, rfl⟩ := (TG.law_wp ns h).eq
  exact ⟨st, e⟩
end V79
set_option Elab.async false
set_option linter.all false
set_option maxRecDepth 100000
set_option maxHeartbeats 2000000
namespace V79
open PySem PySem.Spec PyProof.Rows L2 TB VL G
def topS (i : Nat) : Stmt := PySem.Challenge.pw_tablebills_k79_names_turned.main.body.getD i (.Pass ⟨0, 0, 0, 0⟩)
abbrev s_renamed_part : Stmt := topS 5
abbrev s_renamed_deed : Stmt := topS 4
abbrev s_renamed : Stmt := topS 3
abbrev s__law_feed : Stmt := topS 7
abbrev s__law_next : Stmt := topS 8
abbrev s__law_words : Stmt := topS 9
abbrev s__law_prices : Stmt := topS 10
abbrev s__law_house : Stmt := topS 11
abbrev s__law_guests : Stmt := topS 12
abbrev s__law_dish_deed : Stmt := topS 13
abbrev s__law_deed : Stmt := topS 14
abbrev s__law_pages : Stmt := topS 15
abbrev s__law_pairs : Stmt := topS 16
abbrev s__law_deed_by : Stmt := topS 17
abbrev s__law_book_by : Stmt := topS 18
abbrev s_law : Stmt := topS 19
theorem sc_renamed_part : FnScope ["place", "part", "newer", "seat"] ["place", "part", "newer"] (defScope s_renamed_part) := ⟨rfl, rfl, rfl, by decide +kernel, rfl, by decide +kernel, by decide +kernel⟩
theorem sc_renamed_deed : FnScope ["deed", "newer", "parts", "place", "part"] ["deed", "newer"] (defScope s_renamed_deed) := ⟨rfl, rfl, rfl, by decide +kernel, rfl, by decide +kernel, by decide +kernel⟩
theorem sc_renamed : FnScope ["book", "words", "later", "newer", "deed", "minute", "number"] ["book", "words", "later"] (defScope s_renamed) := ⟨rfl, rfl, rfl, by decide +kernel, rfl, by decide +kernel, by decide +kernel⟩
theorem sc__law_feed : FnScope ["_law_script"] ["_law_script"] (defScope s__law_feed) := ⟨rfl, rfl, rfl, by decide +kernel, rfl, by decide +kernel, by decide +kernel⟩
theorem sc__law_next : FnScope ["_law_feed_here", "_law_many", "_law_digit", "_law_at", "_law_cell", "_law_first"] ["_law_feed_here", "_law_many"] (defScope s__law_next) := ⟨rfl, rfl, rfl, by decide +kernel, rfl, by decide +kernel, by decide +kernel⟩
theorem sc__law_words : FnScope ["_law_feed_here", "_law_many", "_law_left", "_law_k"] ["_law_feed_here", "_law_many", "_law_left"] (defScope s__law_words) := ⟨rfl, rfl, rfl, by decide +kernel, rfl, by decide +kernel, by decide +kernel⟩
theorem sc__law_prices : FnScope ["_law_feed_here", "_law_found", "_law_at", "_law_k"] ["_law_feed_here"] (defScope s__law_prices) := ⟨rfl, rfl, rfl, by decide +kernel, rfl, by decide +kernel, by decide +kernel⟩
theorem sc__law_house : FnScope ["_law_feed_here", "_law_items", "_law_menu", "_law_offs", "_law_k", "_law_some", "_law_start", "_law_item"] ["_law_feed_here"] (defScope s__law_house) := ⟨rfl, rfl, rfl, by decide +kernel, rfl, by decide +kernel, by decide +kernel⟩
theorem sc__law_guests : FnScope ["_law_feed_here", "_law_seats"] ["_law_feed_here"] (defScope s__law_guests) := ⟨rfl, rfl, rfl, by decide +kernel, rfl, by decide +kernel, by decide +kernel⟩
theorem sc__law_dish_deed : FnScope ["_law_feed_here", "_law_items", "_law_asked", "_law_dish", "_law_word"] ["_law_feed_here", "_law_items", "_law_asked"] (defScope s__law_dish_deed) := ⟨rfl, rfl, rfl, by decide +kernel, rfl, by decide +kernel, by decide +kernel⟩
theorem sc__law_deed : FnScope ["_law_feed_here", "_law_items", "_law_guests_here", "_law_asked", "_law_seats", "_law_tables", "_law_at", "_law_to", "_law_seat", "_law_other", "_law_table", "_law_way", "_law_some", "_law_pence", "_law_dish", "_law_deeds", "_law_one"] ["_law_feed_here", "_law_items", "_law_guests_here", "_law_asked"] (defScope s__law_deed) := ⟨rfl, rfl, rfl, by decide +kernel, rfl, by decide +kernel, by decide +kernel⟩
theorem sc__law_pages : FnScope ["_law_feed_here", "_law_house_here", "_law_guests_here", "_law_many", "_law_items", "_law_seats", "_law_tables", "_law_first", "_law_found", "_law_minute", "_law_asked", "_law_k", "_law_deed_here", "_law_row"] ["_law_feed_here", "_law_house_here", "_law_guests_here", "_law_many"] (defScope s__law_pages) := ⟨rfl, rfl, rfl, by decide +kernel, rfl, by decide +kernel, by decide +kernel⟩
theorem sc__law_pairs : FnScope ["_law_feed_here", "_law_elder_ones", "_law_many", "_law_pool", "_law_newer", "_law_some", "_law_one", "_law_other"] ["_law_feed_here", "_law_elder_ones", "_law_many"] (defScope s__law_pairs) := ⟨rfl, rfl, rfl, by decide +kernel, rfl, by decide +kernel, by decide +kernel⟩
theorem sc__law_deed_by : FnScope ["_law_deed_here", "_law_newer", "_law_one"] ["_law_deed_here", "_law_newer"] (defScope s__law_deed_by) := ⟨rfl, rfl, rfl, by decide +kernel, rfl, by decide +kernel, by decide +kernel⟩
theorem sc__law_book_by : FnScope ["_law_pages_now", "_law_pairs_here", "_law_more", "_law_newer", "_law_name", "_law_deed_here"] ["_law_pages_now", "_law_pairs_here", "_law_more"] (defScope s__law_book_by) := ⟨rfl, rfl, rfl, by decide +kernel, rfl, by decide +kernel, by decide +kernel⟩
theorem sc_law : FnScope ["_law_script", "_law_feed_here", "_law_house_here", "_law_guests_here", "_law_pages_now", "_law_every", "_law_turn", "_law_pairs_here", "_law_more", "_law_handed", "_law_told", "_law_want", "_law_contrary", "_law_alone", "_law_elder", "_law_newer"] ["_law_script"] (defScope s_law) := ⟨rfl, rfl, rfl, by decide +kernel, rfl, by decide +kernel, by decide +kernel⟩
section
variable {P : Program} {w : World} {K : PySem.W.Frag} {mg : Str → Option Value} {base : Heap}
theorem ok_renamed_part {f_renamed_part : Addr} {fd_renamed_part : FuncData} (F_ : Fun K "renamed_part" "renamed_part" s_renamed_part f_renamed_part fd_renamed_part) (cd_LEAST_SEATS : CD K w mg "LEAST_SEATS" d_LEAST_SEATS) (m_tuple : mg "tuple" = none) : FnG P w K mg base (L2.CX P w) 2 f_renamed_part fd_renamed_part ["place", "part", "newer"] (spV K ⟨mg, w⟩ 3 F_renamed_part) := by
  refine gokV (k := 1) 0 F_ sc_renamed_part fun cdv A gd outer s H E hr => ?_
  have hu := hu65 hr
  exact (vss_cons (vs_if (vt_cin cd_LEAST_SEATS (by rfl) (ve_var 0)) (vss_one (vs_ret (ve_callTy ob_tupF (by rfl) m_tuple (by decide +kernel) (va_cons (ve_lc false (own := [("seat", 3)]) (by decide) rfl sc_renamed_part.nd (vi_seq (ve_var 1)) (blkOk_by (own := [("seat", 3)]) (N := ["place", "part", "newer", "seat"]) (sc := defScope s_renamed_part) (by decide +kernel)) (fun _ _ _ _ _ => (vg_name (i := 3) sc_renamed_part.nd rfl (.inl rfl))) (fun _ _ _ _ _ => vts_nil) (fun _ _ _ _ _ => (ve_md PySem.F.slot_dict_get PySem.F.type_dict_get (om_get2 hu) (ve_var 2) (va_cons (ve_var 3) (va_cons (ve_var 3) va_nil))))) va_nil)))) vss_nil)
      (vss_cons (vs_if (OkC.vt (oc_in hu) (ve_var 0) (ve_tup (va_cons ve_str (va_cons ve_str (va_cons ve_str va_nil)))) (by rfl)) (vss_one (vs_ret (ve_md PySem.F.slot_dict_get PySem.F.type_dict_get (om_get2 hu) (ve_var 2) (va_cons (ve_var 1) (va_cons (ve_var 1) va_nil))))) vss_nil)
      (vss_one (vs_ret (ve_var 1)))))
theorem ok_renamed_deed {f_renamed_deed : Addr} {fd_renamed_deed : FuncData} (F_ : Fun K "renamed_deed" "renamed_deed" s_renamed_deed f_renamed_deed fd_renamed_deed) {f_renamed_part : Addr} {fd_renamed_part : FuncData} (G_renamed_part : FnG P w K mg base (L2.CX P w) 2 f_renamed_part fd_renamed_part ["place", "part", "newer"] (spV K ⟨mg, w⟩ 3 F_renamed_part)) (k_renamed_part : PySem.W.keepIn K (.ref f_renamed_part) = true) (g_renamed_part : mg "renamed_part" = some (.ref f_renamed_part)) (b_renamed_part_3 : BindV K fd_renamed_part ["place", "part", "newer"] 3 [] [] [.pos 0, .pos 1, .pos 2]) (cd_PLACES : CD K w mg "PLACES" d_PLACES) (m_tuple : mg "tuple" = none) (m_zip : mg "zip" = none) : FnG P w K mg base (L2.CX P w) 3 f_renamed_deed fd_renamed_deed ["deed", "newer"] (spV K ⟨mg, w⟩ 2 F_renamed_deed) := by
  refine gokV (k := 2) 0 F_ sc_renamed_deed fun cdv A gd outer s H E hr => ?_
  have hu := hu65 hr
  exact (vss_cons (vs_set (i := 2) sc_renamed_deed.nd rfl (.inl rfl) (ve_lst true (va_cons (ve_sub_ix hu (ve_var 0) ve_int (fun _ _ => rfl)) va_nil)))
      (vss_cons (vs_for (passes_of rfl) rfl (vi_zip (by rfl) m_zip (va_cons (ve_cix cd_PLACES (by rfl) (ve_sub_ix hu (ve_var 0) ve_int (fun _ _ => rfl)) (fun _ _ => rfl)) (va_cons (ve_slice false (ve_var 0) (vo_some ve_int) vo_none) va_nil))) (vg_tup rfl (vgs_cons (vg_name (i := 3) sc_renamed_deed.nd rfl (.inl rfl)) (vgs_cons (vg_name (i := 4) sc_renamed_deed.nd rfl (.inl rfl)) vgs_nil))) (vss_kill [3, 4] (vss_one (vs_expr (ve_ml PySem.F.slot_list_append PySem.F.type_list_append om_append (ve_var 2) (va_cons (ve_callP (ds := []) (dvs := []) (ss := [.pos 0, .pos 1, .pos 2]) G_renamed_part gd (hr.mono (by decide)) (by rfl) g_renamed_part k_renamed_part b_renamed_part_3 (by intro us ws h1 h2; match us, h1, ws, h2 with | [_, _, _], _, [], _ => rfl) (fun _ _ => .nil) (passes_call (takes_of rfl rfl rfl rfl) (fun _ _ _ _ h => h)) (va_cons (ve_var 3) (va_cons (ve_var 4) (va_cons (ve_var 1) va_nil)))) va_nil))))))
      (vss_one (vs_ret (ve_callTy ob_tuple (by rfl) m_tuple (by decide +kernel) (va_cons (ve_var 2) va_nil))))))
theorem ok_renamed {f_renamed : Addr} {fd_renamed : FuncData} {dvs_renamed : List V} (F_ : FunD K "renamed" "renamed" (defArgs s_renamed) (defBody s_renamed) (defScope s_renamed) dvs_renamed [] f_renamed fd_renamed) {f_renamed_deed : Addr} {fd_renamed_deed : FuncData} (G_renamed_deed : FnG P w K mg base (L2.CX P w) 3 f_renamed_deed fd_renamed_deed ["deed", "newer"] (spV K ⟨mg, w⟩ 2 F_renamed_deed)) (k_renamed_deed : PySem.W.keepIn K (.ref f_renamed_deed) = true) (g_renamed_deed : mg "renamed_deed" = some (.ref f_renamed_deed)) (b_renamed_deed_2 : BindV K fd_renamed_deed ["deed", "newer"] 2 [] [] [.pos 0, .pos 1]) (m_dict : mg "dict" = none) (m_tuple : mg "tuple" = none) : FnG P w K mg base (L2.CX P w) 4 f_renamed fd_renamed ["book", "words", "later"] (spV K ⟨mg, w⟩ 3 F_renamed) := by
  refine gokVD (k := 3) 0 F_ sc_renamed fun cdv A gd outer s H E hr => ?_
  have hu := hu65 hr
  exact (vss_cons (vs_set (i := 3) sc_renamed.nd rfl (.inr rfl) (ve_ifExp (OkC.vt oc_is (ve_var 1) ve_non (nomark _)) ve_dnew (ve_callTy (ob_dictK rfl) (by rfl) m_dict (by decide +kernel) (va_cons (ve_var 1) va_nil))))
      (vss_one (vs_ret (ve_callTy ob_tuple (by rfl) m_tuple (by decide +kernel) (va_cons (ve_lc false (own := [("deed", 4), ("minute", 5), ("number", 6)]) (by decide) rfl sc_renamed.nd (vi_seq (ve_var 0)) (blkOk_by (own := [("deed", 4), ("minute", 5), ("number", 6)]) (N := ["book", "words", "later", "newer", "deed", "minute", "number"]) (sc := defScope s_renamed) (by decide +kernel)) (fun _ _ _ _ _ => (vg_tup rfl (vgs_cons (vg_tup rfl (vgs_cons (vg_name (i := 5) sc_renamed.nd rfl (.inl rfl)) (vgs_cons (vg_name (i := 6) sc_renamed.nd rfl (.inl rfl)) vgs_nil))) (vgs_cons (vg_name (i := 4) sc_renamed.nd rfl (.inl rfl)) vgs_nil)))) (fun _ _ _ _ _ => vts_nil) (fun _ _ _ _ _ => (ve_tup (va_cons (ve_tup (va_cons (ve_add false (ve_var 5) (ve_var 2)) (va_cons (ve_var 6) va_nil))) (va_cons (ve_callP (ds := []) (dvs := []) (ss := [.pos 0, .pos 1]) G_renamed_deed gd (hr.mono (by decide)) (by rfl) g_renamed_deed k_renamed_deed b_renamed_deed_2 (by intro us ws h1 h2; match us, h1, ws, h2 with | [_, _], _, [], _ => rfl) (fun _ _ => .nil) passL (va_cons (ve_var 4) (va_cons (ve_var 3) va_nil))) va_nil))))) va_nil)))))
theorem ok__law_feed {f__law_feed : Addr} {fd__law_feed : FuncData} (F_ : Fun K "_law_feed" "_law_feed" s__law_feed f__law_feed fd__law_feed) (m_list : mg "list" = none) : FnG P w K mg base (L2.CX P w) 2 f__law_feed fd__law_feed ["_law_script"] (spV K ⟨mg, w⟩ 1 F__law_feed_7f41) := by
  refine gokV (k := 1) 0 F_ sc__law_feed fun cdv A gd outer s H E hr => ?_
  have hu := hu65 hr
  exact (vss_one (vs_ret (ve_lst true (va_cons (ve_callTy (ob_list false) (by rfl) m_list (by decide +kernel) (va_cons (ve_slice false (ve_var 0) vo_none (vo_some ve_int)) va_nil)) (va_cons ve_int (va_cons ve_int va_nil))))))
theorem ok__law_next {f__law_next : Addr} {fd__law_next : FuncData} (F_ : Fun K "_law_next" "_law_next" s__law_next f__law_next fd__law_next) (m_len : mg "len" = none) : FnG P w K mg base (L2.CX P w) 2 f__law_next fd__law_next ["_law_feed_here", "_law_many"] (spV K ⟨mg, w⟩ 2 F__law_next_24af) := by
  refine gokV (k := 1) 0 F_ sc__law_next fun cdv A gd outer s H E hr => ?_
  have hu := hu65 hr
  exact (vss_cons (vs_if (OkC.vt oc_gt (ve_sub_ix hu (ve_var 0) ve_int (fun _ _ => rfl)) ve_int (nomark _)) (vss_cons (vs_set (i := 2) sc__law_next.nd rfl (.inl rfl) (ve_mod (ve_sub_ix hu (ve_var 0) ve_int (fun _ _ => rfl)) (ve_var 1)))
      (vss_cons (vs_asg (ve_fdiv (ve_sub_ix hu (ve_var 0) ve_int (fun _ _ => rfl)) (ve_var 1)) (vg_sub hu (ve_var 0) ve_int))
      (vss_one (vs_ret (ve_var 2))))) vss_nil)
      (vss_cons (vs_set (i := 3) sc__law_next.nd rfl (.inl rfl) (ve_sub_ix hu (ve_var 0) ve_int (fun _ _ => rfl)))
      (vss_cons (vs_asg (ve_add false (ve_var 3) ve_int) (vg_sub hu (ve_var 0) ve_int))
      (vss_cons (vs_set (i := 4) sc__law_next.nd rfl (.inl rfl) (ve_ifExp (OkC.vt (oc_ne hu) (ve_sub_ix hu (ve_var 0) ve_int (fun _ _ => rfl)) (ve_lst false va_nil) (nomark _)) (ve_sub_ix hu (ve_sub_ix hu (ve_var 0) ve_int (fun _ _ => rfl)) (ve_mod (ve_var 3) (ve_callB ob_len (by rfl) m_len (by decide +kernel) (va_cons (ve_sub_ix hu (ve_var 0) ve_int (fun _ _ => rfl)) va_nil))) (fun _ _ => rfl)) ve_int))
      (vss_cons (vs_if (PW.pt (vw_and (OkC.vt oc_ge (ve_var 4) (ve_pow ve_int ve_int) (nomark _)) (vw_and1 (OkC.vt (oc_lt hu) (ve_var 3) (ve_callB ob_len (by rfl) m_len (by decide +kernel) (va_cons (ve_sub_ix hu (ve_var 0) ve_int (fun _ _ => rfl)) va_nil)) (nomark _))))) (vss_cons (vs_asg (ve_fdiv (ve_var 4) (ve_var 1)) (vg_sub hu (ve_var 0) ve_int))
      (vss_one (vs_ret (ve_mod (ve_var 4) (ve_var 1))))) vss_nil)
      (vss_cons (vs_set (i := 5) sc__law_next.nd rfl (.inl rfl) (ve_mod (ve_mul false (ve_add false (ve_add false (ve_add false (ve_mod (ve_var 4) ve_int) (ve_mul false (ve_mul false ve_int (ve_var 3)) (ve_var 3))) (ve_mul false ve_int (ve_var 3))) ve_int) ve_int) ve_int))
      (vss_one (vs_ret (ve_mod (ve_fdiv (ve_mod (ve_mul false (ve_mod (ve_add false (ve_add false (ve_mul false (ve_var 5) (ve_var 5)) (ve_mul false ve_int (ve_var 3))) ve_int) ve_int) ve_int) ve_int) ve_int) (ve_var 1))))))))))
theorem ok__law_words {f__law_words : Addr} {fd__law_words : FuncData} (F_ : Fun K "_law_words" "_law_words" s__law_words f__law_words fd__law_words) {f__law_next : Addr} {fd__law_next : FuncData} (G__law_next : FnG P w K mg base (L2.CX P w) 2 f__law_next fd__law_next ["_law_feed_here", "_law_many"] (spV K ⟨mg, w⟩ 2 F__law_next_24af)) (k__law_next : PySem.W.keepIn K (.ref f__law_next) = true) (g__law_next : mg "_law_next" = some (.ref f__law_next)) (b__law_next_2 : BindV K fd__law_next ["_law_feed_here", "_law_many"] 2 [] [] [.pos 0, .pos 1]) (m_len : mg "len" = none) (m_range : mg "range" = none) : FnG P w K mg base (L2.CX P w) 3 f__law_words fd__law_words ["_law_feed_here", "_law_many", "_law_left"] (spV K ⟨mg, w⟩ 3 F__law_words_5d00) := by
  refine gokV (k := 2) 0 F_ sc__law_words fun cdv A gd outer s H E hr => ?_
  have hu := hu65 hr
  exact (vss_one (vs_ret (ve_lc false (own := [("_law_k", 3)]) (by decide) rfl sc__law_words.nd (vi_range1 (by rfl) m_range (va_cons (ve_var 1) va_nil)) (blkOk_by (own := [("_law_k", 3)]) (N := ["_law_feed_here", "_law_many", "_law_left", "_law_k"]) (sc := defScope s__law_words) (by decide +kernel)) (fun _ _ _ _ _ => (vg_name (i := 3) sc__law_words.nd rfl (.inl rfl))) (fun _ _ _ _ _ => vts_nil) (fun _ _ _ _ _ => (ve_ml PySem.F.slot_list_pop PySem.F.type_list_pop om_popAt (ve_var 2) (va_cons (ve_callP (ds := []) (dvs := []) (ss := [.pos 0, .pos 1]) G__law_next gd (hr.mono (by decide)) (by rfl) g__law_next k__law_next b__law_next_2 (by intro us ws h1 h2; match us, h1, ws, h2 with | [_, _], _, [], _ => rfl) (fun _ _ => .nil) passL (va_cons (ve_var 0) (va_cons (ve_callB ob_len (by rfl) m_len (by decide +kernel) (va_cons (ve_var 2) va_nil)) va_nil))) va_nil))))))
theorem ok__law_prices {f__law_prices : Addr} {fd__law_prices : FuncData} (F_ : Fun K "_law_prices" "_law_prices" s__law_prices f__law_prices fd__law_prices) {f__law_next : Addr} {fd__law_next : FuncData} (G__law_next : FnG P w K mg base (L2.CX P w) 2 f__law_next fd__law_next ["_law_feed_here", "_law_many"] (spV K ⟨mg, w⟩ 2 F__law_next_24af)) (k__law_next : PySem.W.keepIn K (.ref f__law_next) = true) (g__law_next : mg "_law_next" = some (.ref f__law_next)) (b__law_next_2 : BindV K fd__law_next ["_law_feed_here", "_law_many"] 2 [] [] [.pos 0, .pos 1]) (m_range : mg "range" = none) (m_tuple : mg "tuple" = none) : FnG P w K mg base (L2.CX P w) 3 f__law_prices fd__law_prices ["_law_feed_here"] (spV K ⟨mg, w⟩ 1 F__law_prices_0dbf) := by
  refine gokV (k := 2) 0 F_ sc__law_prices fun cdv A gd outer s H E hr => ?_
  have hu := hu65 hr
  exact (vss_cons (vs_par (i := 1) (j := 2) (by rfl) sc__law_prices.nd rfl rfl (by decide) rfl rfl (va_cons (ve_lst true (va_cons (ve_tup (va_cons ve_int (va_cons (ve_sub_ix hu (ve_lst false (va_cons ve_int (va_cons ve_int (va_cons ve_int (va_cons (ve_callP (ds := []) (dvs := []) (ss := [.pos 0, .pos 1]) G__law_next gd (hr.mono (by decide)) (by rfl) g__law_next k__law_next b__law_next_2 (by intro us ws h1 h2; match us, h1, ws, h2 with | [_, _], _, [], _ => rfl) (fun _ _ => .nil) (passes_call (takes_of rfl rfl rfl rfl) (fun _ _ _ _ h => h)) (va_cons (ve_var 0) (va_cons ve_int va_nil))) (va_cons (ve_callP (ds := []) (dvs := []) (ss := [.pos 0, .pos 1]) G__law_next gd (hr.mono (by decide)) (by rfl) g__law_next k__law_next b__law_next_2 (by intro us ws h1 h2; match us, h1, ws, h2 with | [_, _], _, [], _ => rfl) (fun _ _ => .nil) (passes_call (takes_of rfl rfl rfl rfl) (fun _ _ _ _ h => h)) (va_cons (ve_var 0) (va_cons ve_int va_nil))) va_nil)))))) (ve_callP (ds := []) (dvs := []) (ss := [.pos 0, .pos 1]) G__law_next gd (hr.mono (by decide)) (by rfl) g__law_next k__law_next b__law_next_2 (by intro us ws h1 h2; match us, h1, ws, h2 with | [_, _], _, [], _ => rfl) (fun _ _ => .nil) (passes_call (takes_of rfl rfl rfl rfl) (fun _ _ _ _ h => h)) (va_cons (ve_var 0) (va_cons ve_int va_nil))) (fun _ _ => rfl)) va_nil))) va_nil)) (va_cons ve_int va_nil)) (by rfl))
      (vss_cons (vs_for (passes_of rfl) rfl (vi_range1 (by rfl) m_range (va_cons (ve_sub_ix hu (ve_lst false (va_cons ve_int (va_cons ve_int (va_cons ve_int (va_cons ve_int va_nil))))) (ve_callP (ds := []) (dvs := []) (ss := [.pos 0, .pos 1]) G__law_next gd (hr.mono (by decide)) (by rfl) g__law_next k__law_next b__law_next_2 (by intro us ws h1 h2; match us, h1, ws, h2 with | [_, _], _, [], _ => rfl) (fun _ _ => .nil) (passes_call (takes_of rfl rfl rfl rfl) (fun _ _ _ _ h => h)) (va_cons (ve_var 0) (va_cons ve_int va_nil))) (fun _ _ => rfl)) va_nil)) (vg_name (i := 3) sc__law_prices.nd rfl (.inl rfl)) (vss_kill [3] (vss_cons (vs_set (i := 2) sc__law_prices.nd rfl (.inl rfl) (ve_add false (ve_add false (ve_var 2) ve_int) (ve_callP (ds := []) (dvs := []) (ss := [.pos 0, .pos 1]) G__law_next gd (hr.mono (by decide)) (by rfl) g__law_next k__law_next b__law_next_2 (by intro us ws h1 h2; match us, h1, ws, h2 with | [_, _], _, [], _ => rfl) (fun _ _ => .nil) (passes_call (takes_of rfl rfl rfl rfl) (fun _ _ _ _ h => h)) (va_cons (ve_var 0) (va_cons ve_int va_nil)))))
      (vss_one (vs_expr (ve_ml PySem.F.slot_list_append PySem.F.type_list_append om_append (ve_var 1) (va_cons (ve_tup (va_cons (ve_var 2) (va_cons (ve_callP (ds := []) (dvs := []) (ss := [.pos 0, .pos 1]) G__law_next gd (hr.mono (by decide)) (by rfl) g__law_next k__law_next b__law_next_2 (by intro us ws h1 h2; match us, h1, ws, h2 with | [_, _], _, [], _ => rfl) (fun _ _ => .nil) (passes_call (takes_of rfl rfl rfl rfl) (fun _ _ _ _ h => h)) (va_cons (ve_var 0) (va_cons ve_int va_nil))) va_nil))) va_nil)))))))
      (vss_one (vs_ret (ve_callTy ob_tuple (by rfl) m_tuple (by decide +kernel) (va_cons (ve_var 1) va_nil))))))
theorem ok__law_house {f__law_house : Addr} {fd__law_house : FuncData} (F_ : Fun K "_law_house" "_law_house" s__law_house f__law_house fd__law_house) {f__law_next : Addr} {fd__law_next : FuncData} (G__law_next : FnG P w K mg base (L2.CX P w) 2 f__law_next fd__law_next ["_law_feed_here", "_law_many"] (spV K ⟨mg, w⟩ 2 F__law_next_24af)) (k__law_next : PySem.W.keepIn K (.ref f__law_next) = true) (g__law_next : mg "_law_next" = some (.ref f__law_next)) {f__law_prices : Addr} {fd__law_prices : FuncData} (G__law_prices : FnG P w K mg base (L2.CX P w) 3 f__law_prices fd__law_prices ["_law_feed_here"] (spV K ⟨mg, w⟩ 1 F__law_prices_0dbf)) (k__law_prices : PySem.W.keepIn K (.ref f__law_prices) = true) (g__law_prices : mg "_law_prices" = some (.ref f__law_prices)) {f__law_words : Addr} {fd__law_words : FuncData} (G__law_words : FnG P w K mg base (L2.CX P w) 3 f__law_words fd__law_words ["_law_feed_here", "_law_many", "_law_left"] (spV K ⟨mg, w⟩ 3 F__law_words_5d00)) (k__law_words : PySem.W.keepIn K (.ref f__law_words) = true) (g__law_words : mg "_law_words" = some (.ref f__law_words)) (b__law_next_2 : BindV K fd__law_next ["_law_feed_here", "_law_many"] 2 [] [] [.pos 0, .pos 1]) (b__law_prices_1 : BindV K fd__law_prices ["_law_feed_here"] 1 [] [] [.pos 0]) (b__law_words_3 : BindV K fd__law_words ["_law_feed_here", "_law_many", "_law_left"] 3 [] [] [.pos 0, .pos 1, .pos 2]) (m_range : mg "range" = none) (m_sorted : mg "sorted" = none) (m_tuple : mg "tuple" = none) : FnG P w K mg base (L2.CX P w) 4 f__law_house fd__law_house ["_law_feed_here"] (spV K ⟨mg, w⟩ 1 F__law_house_dbe9) := by
  refine gokV (k := 3) 0 F_ sc__law_house fun cdv A gd outer s H E hr => ?_
  have hu := hu65 hr
  exact (vss_cons (vs_set (i := 1) sc__law_house.nd rfl (.inl rfl) (ve_callB (ob_sorted false) (by rfl) m_sorted (by decide +kernel) (va_cons (ve_callP (ds := []) (dvs := []) (ss := [.pos 0, .pos 1, .pos 2]) G__law_words gd (hr.mono (by decide)) (by rfl) g__law_words k__law_words b__law_words_3 (by intro us ws h1 h2; match us, h1, ws, h2 with | [_, _, _], _, [], _ => rfl) (fun _ _ => .nil) (passes_call (takes_of rfl rfl rfl rfl) (fun _ _ _ _ h => h)) (va_cons (ve_var 0) (va_cons (ve_add false ve_int (ve_callP (ds := []) (dvs := []) (ss := [.pos 0, .pos 1]) G__law_next gd (hr.mono (by decide)) (by rfl) g__law_next k__law_next b__law_next_2 (by intro us ws h1 h2; match us, h1, ws, h2 with | [_, _], _, [], _ => rfl) (fun _ _ => .nil) (passes_call (takes_of rfl rfl rfl rfl) (fun _ _ _ _ h => h)) (va_cons (ve_var 0) (va_cons ve_int va_nil)))) (va_cons (ve_lst true (va_cons ve_str (va_cons ve_str (va_cons ve_str (va_cons ve_str (va_cons ve_str (va_cons ve_str (va_cons ve_str va_nil)))))))) va_nil)))) va_nil)))
      (vss_cons (vs_set (i := 2) sc__law_house.nd rfl (.inl rfl) (ve_callTy ob_tuple (by rfl) m_tuple (by decide +kernel) (va_cons (ve_lc false (own := [("_law_item", 7)]) (by decide) rfl sc__law_house.nd (vi_seq (ve_var 1)) (blkOk_by (own := [("_law_item", 7)]) (N := ["_law_feed_here", "_law_items", "_law_menu", "_law_offs", "_law_k", "_law_some", "_law_start", "_law_item"]) (sc := defScope s__law_house) (by decide +kernel)) (fun _ _ _ _ _ => (vg_name (i := 7) sc__law_house.nd rfl (.inl rfl))) (fun _ _ _ _ _ => vts_nil) (fun _ _ _ _ _ => (ve_tup (va_cons (ve_var 7) (va_cons (ve_callP (ds := []) (dvs := []) (ss := [.pos 0, .pos 1]) G__law_next gd (hr.mono (by decide)) (by rfl) g__law_next k__law_next b__law_next_2 (by intro us ws h1 h2; match us, h1, ws, h2 with | [_, _], _, [], _ => rfl) (fun _ _ => .nil) passL (va_cons (ve_var 0) (va_cons ve_int va_nil))) (va_cons (ve_callP (ds := []) (dvs := []) (ss := [.pos 0]) G__law_prices gd (hr.mono (by decide)) (by rfl) g__law_prices k__law_prices b__law_prices_1 (by intro us ws h1 h2; match us, h1, ws, h2 with | [_], _, [], _ => rfl) (fun _ _ => .nil) passL (va_cons (ve_var 0) va_nil)) va_nil)))))) va_nil)))
      (vss_cons (vs_set (i := 3) sc__law_house.nd rfl (.inl rfl) (ve_lst true va_nil))
      (vss_cons (vs_for (passes_of rfl) rfl (vi_range1 (by rfl) m_range (va_cons (ve_callP (ds := []) (dvs := []) (ss := [.pos 0, .pos 1]) G__law_next gd (hr.mono (by decide)) (by rfl) g__law_next k__law_next b__law_next_2 (by intro us ws h1 h2; match us, h1, ws, h2 with | [_, _], _, [], _ => rfl) (fun _ _ => .nil) (passes_call (takes_of rfl rfl rfl rfl) (fun _ _ _ _ h => h)) (va_cons (ve_var 0) (va_cons ve_int va_nil))) va_nil)) (vg_name (i := 4) sc__law_house.nd rfl (.inl rfl)) (vss_kill [4, 5, 6] (vss_cons (vs_set (i := 5) sc__law_house.nd rfl (.inl rfl) (ve_callTy ob_tuple (by rfl) m_tuple (by decide +kernel) (va_cons (ve_lc false (own := [("_law_item", 7)]) (by decide) rfl sc__law_house.nd (vi_seq (ve_var 1)) (blkOk_by (own := [("_law_item", 7)]) (N := ["_law_feed_here", "_law_items", "_law_menu", "_law_offs", "_law_k", "_law_some", "_law_start", "_law_item"]) (sc := defScope s__law_house) (by decide +kernel)) (fun _ _ _ _ _ => (vg_name (i := 7) sc__law_house.nd rfl (.inl rfl))) (fun _ _ _ _ _ => (vts_one (OkC.vt (oc_eq hu) (ve_callP (ds := []) (dvs := []) (ss := [.pos 0, .pos 1]) G__law_next gd (hr.mono (by decide)) (by rfl) g__law_next k__law_next b__law_next_2 (by intro us ws h1 h2; match us, h1, ws, h2 with | [_, _], _, [], _ => rfl) (fun _ _ => .nil) passL (va_cons (ve_var 0) (va_cons ve_int va_nil))) ve_int (nomark _)))) (fun _ _ _ _ _ => (ve_var 7))) va_nil)))
      (vss_cons (vs_set (i := 6) sc__law_house.nd rfl (.inl rfl) (ve_sub_ix hu (ve_lst false (va_cons ve_int (va_cons (ve_callP (ds := []) (dvs := []) (ss := [.pos 0, .pos 1]) G__law_next gd (hr.mono (by decide)) (by rfl) g__law_next k__law_next b__law_next_2 (by intro us ws h1 h2; match us, h1, ws, h2 with | [_, _], _, [], _ => rfl) (fun _ _ => .nil) (passes_call (takes_of rfl rfl rfl rfl) (fun _ _ _ _ h => h)) (va_cons (ve_var 0) (va_cons ve_int va_nil))) va_nil))) (ve_callP (ds := []) (dvs := []) (ss := [.pos 0, .pos 1]) G__law_next gd (hr.mono (by decide)) (by rfl) g__law_next k__law_next b__law_next_2 (by intro us ws h1 h2; match us, h1, ws, h2 with | [_, _], _, [], _ => rfl) (fun _ _ => .nil) (passes_call (takes_of rfl rfl rfl rfl) (fun _ _ _ _ h => h)) (va_cons (ve_var 0) (va_cons ve_int va_nil))) (fun _ _ => rfl)))
      (vss_one (vs_expr (ve_ml PySem.F.slot_list_append PySem.F.type_list_append om_append (ve_var 3) (va_cons (ve_tup (va_cons (ve_var 5) (va_cons (ve_var 6) (va_cons (ve_add false (ve_var 6) (ve_callP (ds := []) (dvs := []) (ss := [.pos 0, .pos 1]) G__law_next gd (hr.mono (by decide)) (by rfl) g__law_next k__law_next b__law_next_2 (by intro us ws h1 h2; match us, h1, ws, h2 with | [_, _], _, [], _ => rfl) (fun _ _ => .nil) (passes_call (takes_of rfl rfl rfl rfl) (fun _ _ _ _ h => h)) (va_cons (ve_var 0) (va_cons ve_int va_nil)))) (va_cons (ve_sub_ix hu (ve_lst false (va_cons ve_int (va_cons ve_int (va_cons ve_int (va_cons (ve_callP (ds := []) (dvs := []) (ss := [.pos 0, .pos 1]) G__law_next gd (hr.mono (by decide)) (by rfl) g__law_next k__law_next b__law_next_2 (by intro us ws h1 h2; match us, h1, ws, h2 with | [_, _], _, [], _ => rfl) (fun _ _ => .nil) (passes_call (takes_of rfl rfl rfl rfl) (fun _ _ _ _ h => h)) (va_cons (ve_var 0) (va_cons ve_int va_nil))) va_nil))))) (ve_callP (ds := []) (dvs := []) (ss := [.pos 0, .pos 1]) G__law_next gd (hr.mono (by decide)) (by rfl) g__law_next k__law_next b__law_next_2 (by intro us ws h1 h2; match us, h1, ws, h2 with | [_, _], _, [], _ => rfl) (fun _ _ => .nil) (passes_call (takes_of rfl rfl rfl rfl) (fun _ _ _ _ h => h)) (va_cons (ve_var 0) (va_cons ve_int va_nil))) (fun _ _ => rfl)) va_nil))))) va_nil))))))))
      (vss_one (vs_ret (ve_tup (va_cons (ve_var 2) (va_cons (ve_callTy ob_tuple (by rfl) m_tuple (by decide +kernel) (va_cons (ve_var 3) va_nil)) (va_cons (ve_callP (ds := []) (dvs := []) (ss := [.pos 0, .pos 1]) G__law_next gd (hr.mono (by decide)) (by rfl) g__law_next k__law_next b__law_next_2 (by intro us ws h1 h2; match us, h1, ws, h2 with | [_, _], _, [], _ => rfl) (fun _ _ => .nil) (passes_call (takes_of rfl rfl rfl rfl) (fun _ _ _ _ h => h)) (va_cons (ve_var 0) (va_cons ve_int va_nil))) (va_cons (ve_add false ve_int (ve_callP (ds := []) (dvs := []) (ss := [.pos 0, .pos 1]) G__law_next gd (hr.mono (by decide)) (by rfl) g__law_next k__law_next b__law_next_2 (by intro us ws h1 h2; match us, h1, ws, h2 with | [_, _], _, [], _ => rfl) (fun _ _ => .nil) (passes_call (takes_of rfl rfl rfl rfl) (fun _ _ _ _ h => h)) (va_cons (ve_var 0) (va_cons ve_int va_nil)))) va_nil)))))))))))
theorem ok__law_guests {f__law_guests : Addr} {fd__law_guests : FuncData} (F_ : Fun K "_law_guests" "_law_guests" s__law_guests f__law_guests fd__law_guests) {f__law_next : Addr} {fd__law_next : FuncData} (G__law_next : FnG P w K mg base (L2.CX P w) 2 f__law_next fd__law_next ["_law_feed_here", "_law_many"] (spV K ⟨mg, w⟩ 2 F__law_next_24af)) (k__law_next : PySem.W.keepIn K (.ref f__law_next) = true) (g__law_next : mg "_law_next" = some (.ref f__law_next)) {f__law_words : Addr} {fd__law_words : FuncData} (G__law_words : FnG P w K mg base (L2.CX P w) 3 f__law_words fd__law_words ["_law_feed_here", "_law_many", "_law_left"] (spV K ⟨mg, w⟩ 3 F__law_words_5d00)) (k__law_words : PySem.W.keepIn K (.ref f__law_words) = true) (g__law_words : mg "_law_words" = some (.ref f__law_words)) (b__law_next_2 : BindV K fd__law_next ["_law_feed_here", "_law_many"] 2 [] [] [.pos 0, .pos 1]) (b__law_words_3 : BindV K fd__law_words ["_law_feed_here", "_law_many", "_law_left"] 3 [] [] [.pos 0, .pos 1, .pos 2]) (m_sorted : mg "sorted" = none) : FnG P w K mg base (L2.CX P w) 4 f__law_guests fd__law_guests ["_law_feed_here"] (spV K ⟨mg, w⟩ 1 F__law_guests_73db) := by
  refine gokV (k := 3) 0 F_ sc__law_guests fun cdv A gd outer s H E hr => ?_
  have hu := hu65 hr
  exact (vss_cons (vs_set (i := 1) sc__law_guests.nd rfl (.inl rfl) (ve_callB (ob_sorted false) (by rfl) m_sorted (by decide +kernel) (va_cons (ve_callP (ds := []) (dvs := []) (ss := [.pos 0, .pos 1, .pos 2]) G__law_words gd (hr.mono (by decide)) (by rfl) g__law_words k__law_words b__law_words_3 (by intro us ws h1 h2; match us, h1, ws, h2 with | [_, _, _], _, [], _ => rfl) (fun _ _ => .nil) (passes_call (takes_of rfl rfl rfl rfl) (fun _ _ _ _ h => h)) (va_cons (ve_var 0) (va_cons (ve_add false ve_int (ve_callP (ds := []) (dvs := []) (ss := [.pos 0, .pos 1]) G__law_next gd (hr.mono (by decide)) (by rfl) g__law_next k__law_next b__law_next_2 (by intro us ws h1 h2; match us, h1, ws, h2 with | [_, _], _, [], _ => rfl) (fun _ _ => .nil) (passes_call (takes_of rfl rfl rfl rfl) (fun _ _ _ _ h => h)) (va_cons (ve_var 0) (va_cons ve_int va_nil)))) (va_cons (ve_lst true (va_cons ve_str (va_cons ve_str (va_cons ve_str (va_cons ve_str (va_cons ve_str (va_cons ve_str (va_cons ve_str va_nil)))))))) va_nil)))) va_nil)))
      (vss_one (vs_ret (ve_tup (va_cons (ve_var 1) (va_cons (ve_callP (ds := []) (dvs := []) (ss := [.pos 0, .pos 1, .pos 2]) G__law_words gd (hr.mono (by decide)) (by rfl) g__law_words k__law_words b__law_words_3 (by intro us ws h1 h2; match us, h1, ws, h2 with | [_, _, _], _, [], _ => rfl) (fun _ _ => .nil) (passes_call (takes_of rfl rfl rfl rfl) (fun _ _ _ _ h => h)) (va_cons (ve_var 0) (va_cons (ve_add false ve_int (ve_callP (ds := []) (dvs := []) (ss := [.pos 0, .pos 1]) G__law_next gd (hr.mono (by decide)) (by rfl) g__law_next k__law_next b__law_next_2 (by intro us ws h1 h2; match us, h1, ws, h2 with | [_, _], _, [], _ => rfl) (fun _ _ => .nil) (passes_call (takes_of rfl rfl rfl rfl) (fun _ _ _ _ h => h)) (va_cons (ve_var 0) (va_cons ve_int va_nil)))) (va_cons (ve_lst true (va_cons ve_str (va_cons ve_str (va_cons ve_str (va_cons ve_str va_nil))))) va_nil)))) va_nil))))))
theorem ok__law_dish_deed {f__law_dish_deed : Addr} {fd__law_dish_deed : FuncData} (F_ : Fun K "_law_dish_deed" "_law_dish_deed" s__law_dish_deed f__law_dish_deed fd__law_dish_deed) {f__law_next : Addr} {fd__law_next : FuncData} (G__law_next : FnG P w K mg base (L2.CX P w) 2 f__law_next fd__law_next ["_law_feed_here", "_law_many"] (spV K ⟨mg, w⟩ 2 F__law_next_24af)) (k__law_next : PySem.W.keepIn K (.ref f__law_next) = true) (g__law_next : mg "_law_next" = some (.ref f__law_next)) (b__law_next_2 : BindV K fd__law_next ["_law_feed_here", "_law_many"] 2 [] [] [.pos 0, .pos 1]) (m_len : mg "len" = none) : FnG P w K mg base (L2.CX P w) 3 f__law_dish_deed fd__law_dish_deed ["_law_feed_here", "_law_items", "_law_asked"] (spV K ⟨mg, w⟩ 3 F__law_dish_deed_b8d1) := by
  refine gokV (k := 2) 0 F_ sc__law_dish_deed fun cdv A gd outer s H E hr => ?_
  have hu := hu65 hr
  exact (vss_cons (vs_set (i := 3) sc__law_dish_deed.nd rfl (.inl rfl) (ve_callP (ds := []) (dvs := []) (ss := [.pos 0, .pos 1]) G__law_next gd (hr.mono (by decide)) (by rfl) g__law_next k__law_next b__law_next_2 (by intro us ws h1 h2; match us, h1, ws, h2 with | [_, _], _, [], _ => rfl) (fun _ _ => .nil) (passes_call (takes_of rfl rfl rfl rfl) (fun _ _ _ _ h => h)) (va_cons (ve_var 0) (va_cons (ve_add false (ve_var 2) ve_int) va_nil))))
      (vss_cons (vs_set (i := 4) sc__law_dish_deed.nd rfl (.inl rfl) (ve_sub_ix hu (ve_lst false (va_cons ve_str (va_cons ve_str (va_cons ve_str (va_cons ve_str (va_cons ve_str va_nil)))))) (ve_callP (ds := []) (dvs := []) (ss := [.pos 0, .pos 1]) G__law_next gd (hr.mono (by decide)) (by rfl) g__law_next k__law_next b__law_next_2 (by intro us ws h1 h2; match us, h1, ws, h2 with | [_, _], _, [], _ => rfl) (fun _ _ => .nil) (passes_call (takes_of rfl rfl rfl rfl) (fun _ _ _ _ h => h)) (va_cons (ve_var 0) (va_cons ve_int va_nil))) (fun _ _ => rfl)))
      (vss_one (vs_ret (ve_ifExp (OkC.vt (oc_eq hu) (ve_var 4) ve_str (nomark _)) (ve_tup (va_cons (ve_var 4) (va_cons (ve_var 3) (va_cons (ve_sub_ix hu (ve_var 1) (ve_callP (ds := []) (dvs := []) (ss := [.pos 0, .pos 1]) G__law_next gd (hr.mono (by decide)) (by rfl) g__law_next k__law_next b__law_next_2 (by intro us ws h1 h2; match us, h1, ws, h2 with | [_, _], _, [], _ => rfl) (fun _ _ => .nil) (passes_call (takes_of rfl rfl rfl rfl) (fun _ _ _ _ h => h)) (va_cons (ve_var 0) (va_cons (ve_callB ob_len (by rfl) m_len (by decide +kernel) (va_cons (ve_var 1) va_nil)) va_nil))) (fun _ _ => rfl)) va_nil)))) (ve_tup (va_cons (ve_var 4) (va_cons (ve_var 3) va_nil))))))))
theorem ok__law_deed {f__law_deed : Addr} {fd__law_deed : FuncData} (F_ : Fun K "_law_deed" "_law_deed" s__law_deed f__law_deed fd__law_deed) {f__law_dish_deed : Addr} {fd__law_dish_deed : FuncData} (G__law_dish_deed : FnG P w K mg base (L2.CX P w) 3 f__law_dish_deed fd__law_dish_deed ["_law_feed_here", "_law_items", "_law_asked"] (spV K ⟨mg, w⟩ 3 F__law_dish_deed_b8d1)) (k__law_dish_deed : PySem.W.keepIn K (.ref f__law_dish_deed) = true) (g__law_dish_deed : mg "_law_dish_deed" = some (.ref f__law_dish_deed)) {f__law_next : Addr} {fd__law_next : FuncData} (G__law_next : FnG P w K mg base (L2.CX P w) 2 f__law_next fd__law_next ["_law_feed_here", "_law_many"] (spV K ⟨mg, w⟩ 2 F__law_next_24af)) (k__law_next : PySem.W.keepIn K (.ref f__law_next) = true) (g__law_next : mg "_law_next" = some (.ref f__law_next)) (b__law_dish_deed_3 : BindV K fd__law_dish_deed ["_law_feed_here", "_law_items", "_law_asked"] 3 [] [] [.pos 0, .pos 1, .pos 2]) (b__law_next_2 : BindV K fd__law_next ["_law_feed_here", "_law_many"] 2 [] [] [.pos 0, .pos 1]) (m_int : mg "int" = none) (m_len : mg "len" = none) (m_tuple : mg "tuple" = none) : FnG P w K mg base (L2.CX P w) 4 f__law_deed fd__law_deed ["_law_feed_here", "_law_items", "_law_guests_here", "_law_asked"] (spV K ⟨mg, w⟩ 4 F__law_deed_0add) := by
  refine gokV (k := 3) 0 F_ sc__law_deed fun cdv A gd outer s H E hr => ?_
  have hu := hu65 hr
  exact (vss_cons (vs_asg (ve_var 2) (vg_tup rfl (vgs_cons (vg_name (i := 4) sc__law_deed.nd rfl (.inl rfl)) (vgs_cons (vg_name (i := 5) sc__law_deed.nd rfl (.inl rfl)) vgs_nil))))
      (vss_cons (vs_par (i := 6) (j := 7) (by rfl) sc__law_deed.nd rfl rfl (by decide) rfl rfl (va_cons (ve_callP (ds := []) (dvs := []) (ss := [.pos 0, .pos 1]) G__law_next gd (hr.mono (by decide)) (by rfl) g__law_next k__law_next b__law_next_2 (by intro us ws h1 h2; match us, h1, ws, h2 with | [_, _], _, [], _ => rfl) (fun _ _ => .nil) (passes_call (takes_of rfl rfl rfl rfl) (fun _ _ _ _ h => h)) (va_cons (ve_var 0) (va_cons (ve_callB ob_len (by rfl) m_len (by decide +kernel) (va_cons (ve_var 4) va_nil)) va_nil))) (va_cons (ve_callP (ds := []) (dvs := []) (ss := [.pos 0, .pos 1]) G__law_next gd (hr.mono (by decide)) (by rfl) g__law_next k__law_next b__law_next_2 (by intro us ws h1 h2; match us, h1, ws, h2 with | [_, _], _, [], _ => rfl) (fun _ _ => .nil) (passes_call (takes_of rfl rfl rfl rfl) (fun _ _ _ _ h => h)) (va_cons (ve_var 0) (va_cons (ve_callB ob_len (by rfl) m_len (by decide +kernel) (va_cons (ve_var 5) va_nil)) va_nil))) va_nil)) (by rfl))
      (vss_cons (vs_asg (ve_tup (va_cons (ve_sub_ix hu (ve_var 4) (ve_var 6) (fun _ _ => rfl)) (va_cons (ve_sub_ix hu (ve_var 4) (ve_sub (ve_var 6) ve_int) (fun _ _ => rfl)) (va_cons (ve_sub_ix hu (ve_var 5) (ve_var 7) (fun _ _ => rfl)) va_nil)))) (vg_tup rfl (vgs_cons (vg_name (i := 8) sc__law_deed.nd rfl (.inr rfl)) (vgs_cons (vg_name (i := 9) sc__law_deed.nd rfl (.inl rfl)) (vgs_cons (vg_name (i := 10) sc__law_deed.nd rfl (.inl rfl)) vgs_nil)))))
      (vss_cons (vs_set (i := 11) sc__law_deed.nd rfl (.inl rfl) (ve_callP (ds := []) (dvs := []) (ss := [.pos 0, .pos 1]) G__law_next gd (hr.mono (by decide)) (by rfl) g__law_next k__law_next b__law_next_2 (by intro us ws h1 h2; match us, h1, ws, h2 with | [_, _], _, [], _ => rfl) (fun _ _ => .nil) (passes_call (takes_of rfl rfl rfl rfl) (fun _ _ _ _ h => h)) (va_cons (ve_var 0) (va_cons ve_int va_nil))))
      (vss_cons (vs_set (i := 12) sc__law_deed.nd rfl (.inl rfl) (ve_callTy ob_tupF (by rfl) m_tuple (by decide +kernel) (va_cons (ve_lc false (own := [("_law_one", 16)]) (by decide) rfl sc__law_deed.nd (vi_seq (ve_var 4)) (blkOk_by (own := [("_law_one", 16)]) (N := ["_law_feed_here", "_law_items", "_law_guests_here", "_law_asked", "_law_seats", "_law_tables", "_law_at", "_law_to", "_law_seat", "_law_other", "_law_table", "_law_way", "_law_some", "_law_pence", "_law_dish", "_law_deeds", "_law_one"]) (sc := defScope s__law_deed) (by decide +kernel)) (fun _ _ _ _ _ => (vg_name (i := 16) sc__law_deed.nd rfl (.inl rfl))) (fun _ _ _ _ _ => (vts_one (PW.pt (vw_or (OkC.vt (oc_eq hu) (ve_var 16) (ve_var 8) (nomark _)) (vw_or1 (OkC.vt (oc_eq hu) (ve_callP (ds := []) (dvs := []) (ss := [.pos 0, .pos 1]) G__law_next gd (hr.mono (by decide)) (by rfl) g__law_next k__law_next b__law_next_2 (by intro us ws h1 h2; match us, h1, ws, h2 with | [_, _], _, [], _ => rfl) (fun _ _ => .nil) passL (va_cons (ve_var 0) (va_cons ve_int va_nil))) ve_int (nomark _))))))) (fun _ _ _ _ _ => (ve_var 16))) va_nil)))
      (vss_cons (vs_set (i := 13) sc__law_deed.nd rfl (.inl rfl) (ve_add false ve_int (ve_sub_ix hu (ve_lst false (va_cons ve_int (va_cons (ve_callP (ds := []) (dvs := []) (ss := [.pos 0, .pos 1]) G__law_next gd (hr.mono (by decide)) (by rfl) g__law_next k__law_next b__law_next_2 (by intro us ws h1 h2; match us, h1, ws, h2 with | [_, _], _, [], _ => rfl) (fun _ _ => .nil) (passes_call (takes_of rfl rfl rfl rfl) (fun _ _ _ _ h => h)) (va_cons (ve_var 0) (va_cons ve_int va_nil))) (va_cons (ve_callP (ds := []) (dvs := []) (ss := [.pos 0, .pos 1]) G__law_next gd (hr.mono (by decide)) (by rfl) g__law_next k__law_next b__law_next_2 (by intro us ws h1 h2; match us, h1, ws, h2 with | [_, _], _, [], _ => rfl) (fun _ _ => .nil) (passes_call (takes_of rfl rfl rfl rfl) (fun _ _ _ _ h => h)) (va_cons (ve_var 0) (va_cons ve_int va_nil))) va_nil)))) (ve_callP (ds := []) (dvs := []) (ss := [.pos 0, .pos 1]) G__law_next gd (hr.mono (by decide)) (by rfl) g__law_next k__law_next b__law_next_2 (by intro us ws h1 h2; match us, h1, ws, h2 with | [_, _], _, [], _ => rfl) (fun _ _ => .nil) (passes_call (takes_of rfl rfl rfl rfl) (fun _ _ _ _ h => h)) (va_cons (ve_var 0) (va_cons ve_int va_nil))) (fun _ _ => rfl))))
      (vss_cons (vs_if (PW.pt (vw_and (OkC.vt (oc_lt hu) (ve_var 11) ve_int (nomark _)) (vw_and1 (OkC.vt (oc_lt hu) (ve_var 3) ve_int (nomark _))))) (vss_cons (vs_set (i := 14) sc__law_deed.nd rfl (.inl rfl) (ve_sub (ve_var 3) (ve_callTy ob_int (by rfl) m_int (by decide +kernel) (va_cons (ve_and (OkC.ve oc_gt (ve_var 3) ve_int (nomark _)) (ve_one (OkC.ve (oc_eq hu) (ve_callP (ds := []) (dvs := []) (ss := [.pos 0, .pos 1]) G__law_next gd (hr.mono (by decide)) (by rfl) g__law_next k__law_next b__law_next_2 (by intro us ws h1 h2; match us, h1, ws, h2 with | [_, _], _, [], _ => rfl) (fun _ _ => .nil) (passes_call (takes_of rfl rfl rfl rfl) (fun _ _ _ _ h => h)) (va_cons (ve_var 0) (va_cons ve_int va_nil))) ve_int (nomark _)))) va_nil))))
      (vss_one (vs_ret (ve_tup (va_cons ve_str (va_cons (ve_var 14) (va_cons (ve_sub_ix hu (ve_var 1) (ve_callP (ds := []) (dvs := []) (ss := [.pos 0, .pos 1]) G__law_next gd (hr.mono (by decide)) (by rfl) g__law_next k__law_next b__law_next_2 (by intro us ws h1 h2; match us, h1, ws, h2 with | [_, _], _, [], _ => rfl) (fun _ _ => .nil) (passes_call (takes_of rfl rfl rfl rfl) (fun _ _ _ _ h => h)) (va_cons (ve_var 0) (va_cons (ve_callB ob_len (by rfl) m_len (by decide +kernel) (va_cons (ve_var 1) va_nil)) va_nil))) (fun _ _ => rfl)) (va_cons (ve_mod (ve_var 11) ve_int) (va_cons (ve_var 12) va_nil))))))))) vss_nil)
      (vss_cons (vs_if (OkC.vt (oc_lt hu) (ve_var 11) ve_int (nomark _)) (vss_one (vs_ret (ve_callP (ds := []) (dvs := []) (ss := [.pos 0, .pos 1, .pos 2]) G__law_dish_deed gd (hr.mono (by decide)) (by rfl) g__law_dish_deed k__law_dish_deed b__law_dish_deed_3 (by intro us ws h1 h2; match us, h1, ws, h2 with | [_, _, _], _, [], _ => rfl) (fun _ _ => .nil) (passes_call (takes_of rfl rfl rfl rfl) (fun _ _ _ _ h => h)) (va_cons (ve_var 0) (va_cons (ve_var 1) (va_cons (ve_var 3) va_nil)))))) vss_nil)
      (vss_cons (vs_if (OkC.vt (oc_lt hu) (ve_var 11) ve_int (nomark _)) (vss_one (vs_ret (ve_tup (va_cons (ve_sub_ix hu (ve_lst false (va_cons ve_str (va_cons ve_str (va_cons ve_str va_nil)))) (ve_sub (ve_var 11) ve_int) (fun _ _ => rfl)) (va_cons (ve_var 10) (va_cons (ve_callP (ds := []) (dvs := []) (ss := [.pos 0, .pos 1]) G__law_next gd (hr.mono (by decide)) (by rfl) g__law_next k__law_next b__law_next_2 (by intro us ws h1 h2; match us, h1, ws, h2 with | [_, _], _, [], _ => rfl) (fun _ _ => .nil) (passes_call (takes_of rfl rfl rfl rfl) (fun _ _ _ _ h => h)) (va_cons (ve_var 0) (va_cons ve_int va_nil))) va_nil)))))) vss_nil)
      (vss_cons (vs_if (OkC.vt (oc_eq hu) (ve_var 11) ve_int (nomark _)) (vss_one (vs_ret (ve_tup (va_cons ve_str (va_cons (ve_ifExp (OkC.vt oc_gt (ve_callB ob_len (by rfl) m_len (by decide +kernel) (va_cons (ve_var 12) va_nil)) ve_int (nomark _)) (ve_var 12) (ve_callTy ob_tupF (by rfl) m_tuple (by decide +kernel) (va_cons (ve_var 4) va_nil))) va_nil))))) vss_nil)
      (vss_cons (vs_set (i := 15) sc__law_deed.nd rfl (.inl rfl) (ve_lst false (va_cons (ve_tup (va_cons ve_str (va_cons (ve_var 8) (va_cons (ve_var 10) va_nil)))) (va_cons (ve_tup (va_cons ve_str (va_cons (ve_var 8) (va_cons (ve_var 10) va_nil)))) (va_cons (ve_tup (va_cons ve_str (va_cons (ve_var 10) (va_cons (ve_sub_ix hu (ve_var 5) (ve_sub (ve_var 7) ve_int) (fun _ _ => rfl)) va_nil)))) (va_cons (ve_tup (va_cons ve_str (va_cons (ve_var 8) va_nil))) va_nil))))))
      (vss_one (vs_ret (ve_sub_ix hu (ve_add false (ve_var 15) (ve_lst false (va_cons (ve_tup (va_cons ve_str (va_cons (ve_var 8) (va_cons (ve_var 13) va_nil)))) (va_cons (ve_tup (va_cons ve_str (va_cons (ve_var 8) (va_cons (ve_var 9) (va_cons (ve_var 13) va_nil))))) va_nil)))) (ve_sub (ve_var 11) ve_int) (fun _ _ => rfl)))))))))))))))
theorem ok__law_pages {f__law_pages : Addr} {fd__law_pages : FuncData} (F_ : Fun K "_law_pages" "_law_pages" s__law_pages f__law_pages fd__law_pages) {f__law_deed : Addr} {fd__law_deed : FuncData} (G__law_deed : FnG P w K mg base (L2.CX P w) 4 f__law_deed fd__law_deed ["_law_feed_here", "_law_items", "_law_guests_here", "_law_asked"] (spV K ⟨mg, w⟩ 4 F__law_deed_0add)) (k__law_deed : PySem.W.keepIn K (.ref f__law_deed) = true) (g__law_deed : mg "_law_deed" = some (.ref f__law_deed)) {f__law_next : Addr} {fd__law_next : FuncData} (G__law_next : FnG P w K mg base (L2.CX P w) 2 f__law_next fd__law_next ["_law_feed_here", "_law_many"] (spV K ⟨mg, w⟩ 2 F__law_next_24af)) (k__law_next : PySem.W.keepIn K (.ref f__law_next) = true) (g__law_next : mg "_law_next" = some (.ref f__law_next)) (b__law_deed_4 : BindV K fd__law_deed ["_law_feed_here", "_law_items", "_law_guests_here", "_law_asked"] 4 [] [] [.pos 0, .pos 1, .pos 2, .pos 3]) (b__law_next_2 : BindV K fd__law_next ["_law_feed_here", "_law_many"] 2 [] [] [.pos 0, .pos 1]) (m_int : mg "int" = none) (m_len : mg "len" = none) (m_range : mg "range" = none) : FnG P w K mg base (L2.CX P w) 5 f__law_pages fd__law_pages ["_law_feed_here", "_law_house_here", "_law_guests_here", "_law_many"] (spV K ⟨mg, w⟩ 4 F__law_pages_94fd) := by
  refine gokV (k := 4) 4 F_ sc__law_pages fun cdv A gd outer s H E hr => ?_
  have hu := hu65 hr
  exact (vss_cons (vs_setLc false (i := 4) (own := [("_law_row", 13)]) (by decide) rfl sc__law_pages.nd rfl rfl (sw_true rfl rfl rfl (by decide +kernel)) (vi_seq (ve_sub_ix hu (ve_var 1) ve_int (fun _ _ => rfl))) (blkOk_by (own := [("_law_row", 13)]) (N := ["_law_feed_here", "_law_house_here", "_law_guests_here", "_law_many", "_law_items", "_law_seats", "_law_tables", "_law_first", "_law_found", "_law_minute", "_law_asked", "_law_k", "_law_deed_here", "_law_row"]) (sc := defScope s__law_pages) (by decide +kernel)) (fun _ _ _ _ _ => (vg_name (i := 13) sc__law_pages.nd rfl (.inl rfl))) (fun _ _ _ _ _ => vts_nil) (fun _ _ _ _ _ => (ve_sub_ix hu (ve_var 13) ve_int (fun _ _ => rfl))))
      (vss_cons (vs_asg (ve_var 2) (vg_tup rfl (vgs_cons (vg_name (i := 5) sc__law_pages.nd rfl (.inr rfl)) (vgs_cons (vg_name (i := 6) sc__law_pages.nd rfl (.inr rfl)) vgs_nil))))
      (vss_cons (vs_set (i := 7) sc__law_pages.nd rfl (.inr rfl) (ve_callP (ds := []) (dvs := []) (ss := [.pos 0, .pos 1]) G__law_next gd (hr.mono (by decide)) (by rfl) g__law_next k__law_next b__law_next_2 (by intro us ws h1 h2; match us, h1, ws, h2 with | [_, _], _, [], _ => rfl) (fun _ _ => .nil) (passes_call (takes_of rfl rfl rfl rfl) (fun _ _ _ _ h => h)) (va_cons (ve_var 0) (va_cons (ve_callB ob_len (by rfl) m_len (by decide +kernel) (va_cons (ve_var 6) va_nil)) va_nil))))
      (vss_cons (vs_setLc true (i := 8) (own := [("_law_k", 11)]) (by decide) rfl sc__law_pages.nd rfl rfl (sw_true rfl rfl rfl (by decide +kernel)) (vi_range1 (by rfl) m_range (va_cons (ve_callB ob_len (by rfl) m_len (by decide +kernel) (va_cons (ve_var 5) va_nil)) va_nil)) (blkOk_by (own := [("_law_k", 11)]) (N := ["_law_feed_here", "_law_house_here", "_law_guests_here", "_law_many", "_law_items", "_law_seats", "_law_tables", "_law_first", "_law_found", "_law_minute", "_law_asked", "_law_k", "_law_deed_here", "_law_row"]) (sc := defScope s__law_pages) (by decide +kernel)) (fun _ _ _ _ _ => (vg_name (i := 11) sc__law_pages.nd rfl (.inl rfl))) (fun _ _ _ _ _ => vts_nil) (fun _ _ _ _ _ => (ve_tup (va_cons (ve_tup (va_cons ve_int (va_cons (ve_var 11) va_nil))) (va_cons (ve_tup (va_cons ve_str (va_cons (ve_sub_ix hu (ve_var 5) (ve_var 11) (fun _ _ => rfl)) (va_cons (ve_sub_ix hu (ve_var 6) (ve_sub (ve_var 7) (ve_fdiv (ve_callP (ds := []) (dvs := []) (ss := [.pos 0, .pos 1]) G__law_next gd (hr.mono (by decide)) (by rfl) g__law_next k__law_next b__law_next_2 (by intro us ws h1 h2; match us, h1, ws, h2 with | [_, _], _, [], _ => rfl) (fun _ _ => .nil) passL (va_cons (ve_var 0) (va_cons ve_int va_nil))) ve_int)) (fun _ _ => rfl)) va_nil)))) va_nil)))))
      (vss_cons (vs_asg (ve_tup (va_cons ve_int (va_cons ve_int va_nil))) (vg_tup rfl (vgs_cons (vg_name (i := 9) sc__law_pages.nd rfl (.inl rfl)) (vgs_cons (vg_name (i := 10) sc__law_pages.nd rfl (.inl rfl)) vgs_nil))))
      (vss_cons (vs_for (passes_of rfl) rfl (vi_range1 (by rfl) m_range (va_cons (ve_var 3) va_nil)) (vg_name (i := 11) sc__law_pages.nd rfl (.inl rfl)) (vss_kill [11, 12] (vss_cons (vs_set (i := 9) sc__law_pages.nd rfl (.inl rfl) (ve_add false (ve_var 9) (ve_callP (ds := []) (dvs := []) (ss := [.pos 0, .pos 1]) G__law_next gd (hr.mono (by decide)) (by rfl) g__law_next k__law_next b__law_next_2 (by intro us ws h1 h2; match us, h1, ws, h2 with | [_, _], _, [], _ => rfl) (fun _ _ => .nil) (passes_call (takes_of rfl rfl rfl rfl) (fun _ _ _ _ h => h)) (va_cons (ve_var 0) (va_cons ve_int va_nil)))))
      (vss_cons (vs_set (i := 12) sc__law_pages.nd rfl (.inl rfl) (ve_callP (ds := []) (dvs := []) (ss := [.pos 0, .pos 1, .pos 2, .pos 3]) G__law_deed gd (hr.mono (by decide)) (by rfl) g__law_deed k__law_deed b__law_deed_4 (by intro us ws h1 h2; match us, h1, ws, h2 with | [_, _, _, _], _, [], _ => rfl) (fun _ _ => .nil) (passes_call (takes_of rfl rfl rfl rfl) (fun _ _ _ _ h => h)) (va_cons (ve_var 0) (va_cons (ve_var 4) (va_cons (ve_var 2) (va_cons (ve_var 10) va_nil))))))
      (vss_cons (vs_set (i := 10) sc__law_pages.nd rfl (.inl rfl) (ve_add false (ve_var 10) (ve_callTy ob_int (by rfl) m_int (by decide +kernel) (va_cons (OkC.ve (oc_eq hu) (ve_slice false (ve_var 12) vo_none (vo_some ve_int)) (ve_tup (va_cons ve_str (va_cons (ve_var 10) va_nil))) (nomark _)) va_nil))))
      (vss_one (vs_expr (ve_ml PySem.F.slot_list_append PySem.F.type_list_append om_append (ve_var 8) (va_cons (ve_tup (va_cons (ve_tup (va_cons (ve_var 9) (va_cons (ve_callB ob_len (by rfl) m_len (by decide +kernel) (va_cons (ve_var 8) va_nil)) va_nil))) (va_cons (ve_var 12) va_nil))) va_nil)))))))))
      (vss_one (vs_ret (ve_var 8)))))))))
theorem ok__law_pairs {f__law_pairs : Addr} {fd__law_pairs : FuncData} (F_ : Fun K "_law_pairs" "_law_pairs" s__law_pairs f__law_pairs fd__law_pairs) {f__law_words : Addr} {fd__law_words : FuncData} (G__law_words : FnG P w K mg base (L2.CX P w) 3 f__law_words fd__law_words ["_law_feed_here", "_law_many", "_law_left"] (spV K ⟨mg, w⟩ 3 F__law_words_5d00)) (k__law_words : PySem.W.keepIn K (.ref f__law_words) = true) (g__law_words : mg "_law_words" = some (.ref f__law_words)) (b__law_words_3 : BindV K fd__law_words ["_law_feed_here", "_law_many", "_law_left"] 3 [] [] [.pos 0, .pos 1, .pos 2]) (m_len : mg "len" = none) (m_sorted : mg "sorted" = none) (m_tuple : mg "tuple" = none) (m_zip : mg "zip" = none) : FnG P w K mg base (L2.CX P w) 4 f__law_pairs fd__law_pairs ["_law_feed_here", "_law_elder_ones", "_law_many"] (spV K ⟨mg, w⟩ 3 F__law_pairs) := by
  refine gokV (k := 3) 0 F_ sc__law_pairs fun cdv A gd outer s H E hr => ?_
  have hu := hu65 hr
  exact (vss_cons (vs_set (i := 3) sc__law_pairs.nd rfl (.inl rfl) (ve_lst true (va_cons ve_str (va_cons ve_str (va_cons ve_str (va_cons ve_str (va_cons ve_str (va_cons ve_str (va_cons ve_str (va_cons ve_str (va_cons ve_str (va_cons ve_str (va_cons ve_str (va_cons ve_str (va_cons ve_str (va_cons ve_str (va_cons ve_str (va_cons ve_str va_nil))))))))))))))))))
      (vss_cons (vs_set (i := 4) sc__law_pairs.nd rfl (.inl rfl) (ve_callB (ob_sorted false) (by rfl) m_sorted (by decide +kernel) (va_cons (ve_callP (ds := []) (dvs := []) (ss := [.pos 0, .pos 1, .pos 2]) G__law_words gd (hr.mono (by decide)) (by rfl) g__law_words k__law_words b__law_words_3 (by intro us ws h1 h2; match us, h1, ws, h2 with | [_, _, _], _, [], _ => rfl) (fun _ _ => .nil) (passes_call (takes_of rfl rfl rfl rfl) (fun _ _ _ _ h => h)) (va_cons (ve_var 0) (va_cons (ve_callB ob_len (by rfl) m_len (by decide +kernel) (va_cons (ve_var 1) va_nil)) (va_cons (ve_var 3) va_nil)))) va_nil)))
      (vss_cons (vs_setLc false (i := 5) (own := [("_law_one", 6), ("_law_other", 7)]) (by decide) rfl sc__law_pairs.nd rfl rfl (sw_true rfl rfl rfl (by decide +kernel)) (vi_zip (by rfl) m_zip (va_cons (ve_var 1) (va_cons (ve_var 4) va_nil))) (blkOk_by (own := [("_law_one", 6), ("_law_other", 7)]) (N := ["_law_feed_here", "_law_elder_ones", "_law_many", "_law_pool", "_law_newer", "_law_some", "_law_one", "_law_other"]) (sc := defScope s__law_pairs) (by decide +kernel)) (fun _ _ _ _ _ => (vg_tup rfl (vgs_cons (vg_name (i := 6) sc__law_pairs.nd rfl (.inl rfl)) (vgs_cons (vg_name (i := 7) sc__law_pairs.nd rfl (.inl rfl)) vgs_nil)))) (fun _ _ _ _ _ => vts_nil) (fun _ _ _ _ _ => (ve_tup (va_cons (ve_var 6) (va_cons (ve_var 7) va_nil)))))
      (vss_one (vs_ret (ve_callTy ob_tupF (by rfl) m_tuple (by decide +kernel) (va_cons (ve_slice false (ve_var 5) vo_none (vo_some (ve_var 2))) va_nil)))))))
theorem ok__law_deed_by {f__law_deed_by : Addr} {fd__law_deed_by : FuncData} (F_ : Fun K "_law_deed_by" "_law_deed_by" s__law_deed_by f__law_deed_by fd__law_deed_by) (m_tuple : mg "tuple" = none) : FnG P w K mg base (L2.CX P w) 2 f__law_deed_by fd__law_deed_by ["_law_deed_here", "_law_newer"] (spV K ⟨mg, w⟩ 2 F__law_deed_by) := by
  refine gokV (k := 1) 0 F_ sc__law_deed_by fun cdv A gd outer s H E hr => ?_
  have hu := hu65 hr
  exact (vss_cons (vs_if (OkC.vt (oc_in hu) (ve_sub_ix hu (ve_var 0) ve_int (fun _ _ => rfl)) (ve_tup (va_cons ve_str (va_cons ve_str (va_cons ve_str va_nil)))) (by rfl)) (vss_one (vs_ret (ve_tup (va_cons (ve_sub_ix hu (ve_var 0) ve_int (fun _ _ => rfl)) (va_cons (ve_md PySem.F.slot_dict_get PySem.F.type_dict_get (om_get2 hu) (ve_var 1) (va_cons (ve_sub_ix hu (ve_var 0) ve_int (fun _ _ => rfl)) (va_cons (ve_sub_ix hu (ve_var 0) ve_int (fun _ _ => rfl)) va_nil))) (va_cons (ve_md PySem.F.slot_dict_get PySem.F.type_dict_get (om_get2 hu) (ve_var 1) (va_cons (ve_sub_ix hu (ve_var 0) ve_int (fun _ _ => rfl)) (va_cons (ve_sub_ix hu (ve_var 0) ve_int (fun _ _ => rfl)) va_nil))) va_nil)))))) vss_nil)
      (vss_cons (vs_if (OkC.vt (oc_eq hu) (ve_sub_ix hu (ve_var 0) ve_int (fun _ _ => rfl)) ve_str (nomark _)) (vss_one (vs_ret (ve_tup (va_cons ve_str (va_cons (ve_md PySem.F.slot_dict_get PySem.F.type_dict_get (om_get2 hu) (ve_var 1) (va_cons (ve_sub_ix hu (ve_var 0) ve_int (fun _ _ => rfl)) (va_cons (ve_sub_ix hu (ve_var 0) ve_int (fun _ _ => rfl)) va_nil))) (va_cons (ve_md PySem.F.slot_dict_get PySem.F.type_dict_get (om_get2 hu) (ve_var 1) (va_cons (ve_sub_ix hu (ve_var 0) ve_int (fun _ _ => rfl)) (va_cons (ve_sub_ix hu (ve_var 0) ve_int (fun _ _ => rfl)) va_nil))) (va_cons (ve_sub_ix hu (ve_var 0) ve_int (fun _ _ => rfl)) va_nil))))))) vss_nil)
      (vss_cons (vs_if (OkC.vt (oc_in hu) (ve_sub_ix hu (ve_var 0) ve_int (fun _ _ => rfl)) (ve_tup (va_cons ve_str (va_cons ve_str (va_cons ve_str (va_cons ve_str va_nil))))) (by rfl)) (vss_one (vs_ret (ve_add false (ve_tup (va_cons (ve_sub_ix hu (ve_var 0) ve_int (fun _ _ => rfl)) (va_cons (ve_md PySem.F.slot_dict_get PySem.F.type_dict_get (om_get2 hu) (ve_var 1) (va_cons (ve_sub_ix hu (ve_var 0) ve_int (fun _ _ => rfl)) (va_cons (ve_sub_ix hu (ve_var 0) ve_int (fun _ _ => rfl)) va_nil))) va_nil))) (ve_slice false (ve_var 0) (vo_some ve_int) vo_none)))) vss_nil)
      (vss_cons (vs_if (OkC.vt (oc_eq hu) (ve_sub_ix hu (ve_var 0) ve_int (fun _ _ => rfl)) ve_str (nomark _)) (vss_one (vs_ret (ve_tup (va_cons ve_str (va_cons (ve_callTy ob_tupF (by rfl) m_tuple (by decide +kernel) (va_cons (ve_lc false (own := [("_law_one", 2)]) (by decide) rfl sc__law_deed_by.nd (vi_seq (ve_sub_ix hu (ve_var 0) ve_int (fun _ _ => rfl))) (blkOk_by (own := [("_law_one", 2)]) (N := ["_law_deed_here", "_law_newer", "_law_one"]) (sc := defScope s__law_deed_by) (by decide +kernel)) (fun _ _ _ _ _ => (vg_name (i := 2) sc__law_deed_by.nd rfl (.inl rfl))) (fun _ _ _ _ _ => vts_nil) (fun _ _ _ _ _ => (ve_md PySem.F.slot_dict_get PySem.F.type_dict_get (om_get2 hu) (ve_var 1) (va_cons (ve_var 2) (va_cons (ve_var 2) va_nil))))) va_nil)) va_nil))))) vss_nil)
      (vss_cons (vs_if (OkC.vt (oc_eq hu) (ve_sub_ix hu (ve_var 0) ve_int (fun _ _ => rfl)) ve_str (nomark _)) (vss_one (vs_ret (ve_add false (ve_slice false (ve_var 0) vo_none (vo_some ve_int)) (ve_tup (va_cons (ve_callTy ob_tupF (by rfl) m_tuple (by decide +kernel) (va_cons (ve_lc false (own := [("_law_one", 2)]) (by decide) rfl sc__law_deed_by.nd (vi_seq (ve_sub_ix hu (ve_var 0) ve_int (fun _ _ => rfl))) (blkOk_by (own := [("_law_one", 2)]) (N := ["_law_deed_here", "_law_newer", "_law_one"]) (sc := defScope s__law_deed_by) (by decide +kernel)) (fun _ _ _ _ _ => (vg_name (i := 2) sc__law_deed_by.nd rfl (.inl rfl))) (fun _ _ _ _ _ => vts_nil) (fun _ _ _ _ _ => (ve_md PySem.F.slot_dict_get PySem.F.type_dict_get (om_get2 hu) (ve_var 1) (va_cons (ve_var 2) (va_cons (ve_var 2) va_nil))))) va_nil)) va_nil))))) vss_nil)
      (vss_one (vs_ret (ve_var 0))))))))
theorem ok__law_book_by {f__law_book_by : Addr} {fd__law_book_by : FuncData} (F_ : Fun K "_law_book_by" "_law_book_by" s__law_book_by f__law_book_by fd__law_book_by) {f__law_deed_by : Addr} {fd__law_deed_by : FuncData} (G__law_deed_by : FnG P w K mg base (L2.CX P w) 2 f__law_deed_by fd__law_deed_by ["_law_deed_here", "_law_newer"] (spV K ⟨mg, w⟩ 2 F__law_deed_by)) (k__law_deed_by : PySem.W.keepIn K (.ref f__law_deed_by) = true) (g__law_deed_by : mg "_law_deed_by" = some (.ref f__law_deed_by)) (b__law_deed_by_2 : BindV K fd__law_deed_by ["_law_deed_here", "_law_newer"] 2 [] [] [.pos 0, .pos 1]) (m_dict : mg "dict" = none) (m_tuple : mg "tuple" = none) : FnG P w K mg base (L2.CX P w) 3 f__law_book_by fd__law_book_by ["_law_pages_now", "_law_pairs_here", "_law_more"] (spV K ⟨mg, w⟩ 3 F__law_book_by) := by
  refine gokV (k := 2) 0 F_ sc__law_book_by fun cdv A gd outer s H E hr => ?_
  have hu := hu65 hr
  exact (vss_cons (vs_set (i := 3) sc__law_book_by.nd rfl (.inr rfl) (ve_callTy (ob_dictK rfl) (by rfl) m_dict (by decide +kernel) (va_cons (ve_var 1) va_nil)))
      (vss_one (vs_ret (ve_callTy ob_tuple (by rfl) m_tuple (by decide +kernel) (va_cons (ve_lc false (own := [("_law_name", 4), ("_law_deed_here", 5)]) (by decide) rfl sc__law_book_by.nd (vi_seq (ve_var 0)) (blkOk_by (own := [("_law_name", 4), ("_law_deed_here", 5)]) (N := ["_law_pages_now", "_law_pairs_here", "_law_more", "_law_newer", "_law_name", "_law_deed_here"]) (sc := defScope s__law_book_by) (by decide +kernel)) (fun _ _ _ _ _ => (vg_tup rfl (vgs_cons (vg_name (i := 4) sc__law_book_by.nd rfl (.inl rfl)) (vgs_cons (vg_name (i := 5) sc__law_book_by.nd rfl (.inl rfl)) vgs_nil)))) (fun _ _ _ _ _ => vts_nil) (fun _ _ _ _ _ => (ve_tup (va_cons (ve_tup (va_cons (ve_add false (ve_sub_ix hu (ve_var 4) ve_int (fun _ _ => rfl)) (ve_var 2)) (va_cons (ve_sub_ix hu (ve_var 4) ve_int (fun _ _ => rfl)) va_nil))) (va_cons (ve_callP (ds := []) (dvs := []) (ss := [.pos 0, .pos 1]) G__law_deed_by gd (hr.mono (by decide)) (by rfl) g__law_deed_by k__law_deed_by b__law_deed_by_2 (by intro us ws h1 h2; match us, h1, ws, h2 with | [_, _], _, [], _ => rfl) (fun _ _ => .nil) passL (va_cons (ve_var 5) (va_cons (ve_var 3) va_nil))) va_nil))))) va_nil)))))
theorem ok_law {f_law : Addr} {fd_law : FuncData} (F_ : Fun K "law" "law" s_law f_law fd_law) {f__law_book_by : Addr} {fd__law_book_by : FuncData} (G__law_book_by : FnG P w K mg base (L2.CX P w) 3 f__law_book_by fd__law_book_by ["_law_pages_now", "_law_pairs_here", "_law_more"] (spV K ⟨mg, w⟩ 3 F__law_book_by)) (k__law_book_by : PySem.W.keepIn K (.ref f__law_book_by) = true) (g__law_book_by : mg "_law_book_by" = some (.ref f__law_book_by)) {f__law_feed : Addr} {fd__law_feed : FuncData} (G__law_feed : FnG P w K mg base (L2.CX P w) 2 f__law_feed fd__law_feed ["_law_script"] (spV K ⟨mg, w⟩ 1 F__law_feed_7f41)) (k__law_feed : PySem.W.keepIn K (.ref f__law_feed) = true) (g__law_feed : mg "_law_feed" = some (.ref f__law_feed)) {f__law_guests : Addr} {fd__law_guests : FuncData} (G__law_guests : FnG P w K mg base (L2.CX P w) 4 f__law_guests fd__law_guests ["_law_feed_here"] (spV K ⟨mg, w⟩ 1 F__law_guests_73db)) (k__law_guests : PySem.W.keepIn K (.ref f__law_guests) = true) (g__law_guests : mg "_law_guests" = some (.ref f__law_guests)) {f__law_house : Addr} {fd__law_house : FuncData} (G__law_house : FnG P w K mg base (L2.CX P w) 4 f__law_house fd__law_house ["_law_feed_here"] (spV K ⟨mg, w⟩ 1 F__law_house_dbe9)) (k__law_house : PySem.W.keepIn K (.ref f__law_house) = true) (g__law_house : mg "_law_house" = some (.ref f__law_house)) {f__law_next : Addr} {fd__law_next : FuncData} (G__law_next : FnG P w K mg base (L2.CX P w) 2 f__law_next fd__law_next ["_law_feed_here", "_law_many"] (spV K ⟨mg, w⟩ 2 F__law_next_24af)) (k__law_next : PySem.W.keepIn K (.ref f__law_next) = true) (g__law_next : mg "_law_next" = some (.ref f__law_next)) {f__law_pages : Addr} {fd__law_pages : FuncData} (G__law_pages : FnG P w K mg base (L2.CX P w) 5 f__law_pages fd__law_pages ["_law_feed_here", "_law_house_here", "_law_guests_here", "_law_many"] (spV K ⟨mg, w⟩ 4 F__law_pages_94fd)) (k__law_pages : PySem.W.keepIn K (.ref f__law_pages) = true) (g__law_pages : mg "_law_pages" = some (.ref f__law_pages)) {f__law_pairs : Addr} {fd__law_pairs : FuncData} (G__law_pairs : FnG P w K mg base (L2.CX P w) 4 f__law_pairs fd__law_pairs ["_law_feed_here", "_law_elder_ones", "_law_many"] (spV K ⟨mg, w⟩ 3 F__law_pairs)) (k__law_pairs : PySem.W.keepIn K (.ref f__law_pairs) = true) (g__law_pairs : mg "_law_pairs" = some (.ref f__law_pairs)) {f_renamed : Addr} {fd_renamed : FuncData} (G_renamed : FnG P w K mg base (L2.CX P w) 4 f_renamed fd_renamed ["book", "words", "later"] (spV K ⟨mg, w⟩ 3 F_renamed)) (k_renamed : PySem.W.keepIn K (.ref f_renamed) = true) (g_renamed : mg "renamed" = some (.ref f_renamed)) (b__law_book_by_3 : BindV K fd__law_book_by ["_law_pages_now", "_law_pairs_here", "_law_more"] 3 [] [] [.pos 0, .pos 1, .pos 2]) (b__law_feed_1 : BindV K fd__law_feed ["_law_script"] 1 [] [] [.pos 0]) (b__law_guests_1 : BindV K fd__law_guests ["_law_feed_here"] 1 [] [] [.pos 0]) (b__law_house_1 : BindV K fd__law_house ["_law_feed_here"] 1 [] [] [.pos 0]) (b__law_next_2 : BindV K fd__law_next ["_law_feed_here", "_law_many"] 2 [] [] [.pos 0, .pos 1]) (b__law_pages_4 : BindV K fd__law_pages ["_law_feed_here", "_law_house_here", "_law_guests_here", "_law_many"] 4 [] [] [.pos 0, .pos 1, .pos 2, .pos 3]) (b__law_pairs_3 : BindV K fd__law_pairs ["_law_feed_here", "_law_elder_ones", "_law_many"] 3 [] [] [.pos 0, .pos 1, .pos 2]) (b_renamed_0_later_book_words : BindV K fd_renamed ["book", "words", "later"] 0 ["later", "book", "words"] [.non, .int 0] [.kw 1, .kw 2, .kw 0]) (b_renamed_1 : BindV K fd_renamed ["book", "words", "later"] 1 [] [.non, .int 0] [.pos 0, .dfl 0, .dfl 1]) (b_renamed_1_later : BindV K fd_renamed ["book", "words", "later"] 1 ["later"] [.non, .int 0] [.pos 0, .dfl 0, .kw 0]) (b_renamed_1_words : BindV K fd_renamed ["book", "words", "later"] 1 ["words"] [.non, .int 0] [.pos 0, .kw 0, .dfl 1]) (b_renamed_2 : BindV K fd_renamed ["book", "words", "later"] 2 [] [.non, .int 0] [.pos 0, .pos 1, .dfl 1]) (b_renamed_3 : BindV K fd_renamed ["book", "words", "later"] 3 [] [.non, .int 0] [.pos 0, .pos 1, .pos 2]) (m_isinstance : mg "isinstance" = none) (m_len : mg "len" = none) (m_range : mg "range" = none) (m_repr : mg "repr" = none) (m_set : mg "set" = none) (m_sorted : mg "sorted" = none) (m_tuple : mg "tuple" = none) : FnG P w K mg base (L2.CX P w) 6 f_law fd_law ["_law_script"] (spV K ⟨mg, w⟩ 1 F_law_b348) := by
  refine gokV (k := 5) 0 F_ sc_law fun cdv A gd outer s H E hr => ?_
  have hu := hu65 hr
  exact (vss_cons (vs_set (i := 1) sc_law.nd rfl (.inl rfl) (ve_callP (ds := []) (dvs := []) (ss := [.pos 0]) G__law_feed gd (hr.mono (by decide)) (by rfl) g__law_feed k__law_feed b__law_feed_1 (by intro us ws h1 h2; match us, h1, ws, h2 with | [_], _, [], _ => rfl) (fun _ _ => .nil) (passes_call (takes_of rfl rfl rfl rfl) (fun _ _ _ _ h => h)) (va_cons (ve_var 0) va_nil)))
      (vss_cons (vs_par (i := 2) (j := 3) (by rfl) sc_law.nd rfl rfl (by decide) rfl rfl (va_cons (ve_callP (ds := []) (dvs := []) (ss := [.pos 0]) G__law_house gd (hr.mono (by decide)) (by rfl) g__law_house k__law_house b__law_house_1 (by intro us ws h1 h2; match us, h1, ws, h2 with | [_], _, [], _ => rfl) (fun _ _ => .nil) (passes_call (takes_of rfl rfl rfl rfl) (fun _ _ _ _ h => h)) (va_cons (ve_var 1) va_nil)) (va_cons (ve_callP (ds := []) (dvs := []) (ss := [.pos 0]) G__law_guests gd (hr.mono (by decide)) (by rfl) g__law_guests k__law_guests b__law_guests_1 (by intro us ws h1 h2; match us, h1, ws, h2 with | [_], _, [], _ => rfl) (fun _ _ => .nil) (passes_call (takes_of rfl rfl rfl rfl) (fun _ _ _ _ h => h)) (va_cons (ve_var 1) va_nil)) va_nil)) (by rfl))
      (vss_cons (vs_set (i := 4) sc_law.nd rfl (.inl rfl) (ve_callTy ob_tupF (by rfl) m_tuple (by decide +kernel) (va_cons (ve_callP (ds := []) (dvs := []) (ss := [.pos 0, .pos 1, .pos 2, .pos 3]) G__law_pages gd (hr.mono (by decide)) (by rfl) g__law_pages k__law_pages b__law_pages_4 (by intro us ws h1 h2; match us, h1, ws, h2 with | [_, _, _, _], _, [], _ => rfl) (fun _ _ => .nil) (passes_call (takes_of rfl rfl rfl rfl) (fun _ _ _ _ h => h)) (va_cons (ve_var 1) (va_cons (ve_var 2) (va_cons (ve_var 3) (va_cons (ve_callP (ds := []) (dvs := []) (ss := [.pos 0, .pos 1]) G__law_next gd (hr.mono (by decide)) (by rfl) g__law_next k__law_next b__law_next_2 (by intro us ws h1 h2; match us, h1, ws, h2 with | [_, _], _, [], _ => rfl) (fun _ _ => .nil) (passes_call (takes_of rfl rfl rfl rfl) (fun _ _ _ _ h => h)) (va_cons (ve_var 1) (va_cons ve_int va_nil))) va_nil))))) va_nil)))
      (vss_cons (vs_set (i := 5) sc_law.nd rfl (.inl rfl) (ve_sortedSet false rfl (by rfl) m_sorted (by rfl) m_set (ve_add false (ve_sub_ix hu (ve_var 3) ve_int (fun _ _ => rfl)) (ve_sub_ix hu (ve_var 3) ve_int (fun _ _ => rfl)))))
      (vss_cons (vs_for (passes_of rfl) rfl (vi_range1 (by rfl) m_range (va_cons ve_int va_nil)) (vg_name (i := 6) sc_law.nd rfl (.inl rfl)) (vss_kill [6, 7, 8, 9, 10, 11, 12] (vss_cons (vs_par (i := 7) (j := 8) (by rfl) sc_law.nd rfl rfl (by decide) rfl rfl (va_cons (ve_callP (ds := []) (dvs := []) (ss := [.pos 0, .pos 1, .pos 2]) G__law_pairs gd (hr.mono (by decide)) (by rfl) g__law_pairs k__law_pairs b__law_pairs_3 (by intro us ws h1 h2; match us, h1, ws, h2 with | [_, _, _], _, [], _ => rfl) (fun _ _ => .nil) (passes_call (takes_of rfl rfl rfl rfl) (fun _ _ _ _ h => h)) (va_cons (ve_var 1) (va_cons (ve_var 5) (va_cons (ve_callB ob_len (by rfl) m_len (by decide +kernel) (va_cons (ve_var 5) va_nil)) va_nil)))) (va_cons (ve_sub_ix hu (ve_lst false (va_cons ve_int (va_cons ve_int (va_cons ve_int (va_cons (ve_callP (ds := []) (dvs := []) (ss := [.pos 0, .pos 1]) G__law_next gd (hr.mono (by decide)) (by rfl) g__law_next k__law_next b__law_next_2 (by intro us ws h1 h2; match us, h1, ws, h2 with | [_, _], _, [], _ => rfl) (fun _ _ => .nil) (passes_call (takes_of rfl rfl rfl rfl) (fun _ _ _ _ h => h)) (va_cons (ve_var 1) (va_cons ve_int va_nil))) va_nil))))) (ve_callP (ds := []) (dvs := []) (ss := [.pos 0, .pos 1]) G__law_next gd (hr.mono (by decide)) (by rfl) g__law_next k__law_next b__law_next_2 (by intro us ws h1 h2; match us, h1, ws, h2 with | [_, _], _, [], _ => rfl) (fun _ _ => .nil) (passes_call (takes_of rfl rfl rfl rfl) (fun _ _ _ _ h => h)) (va_cons (ve_var 1) (va_cons ve_int va_nil))) (fun _ _ => rfl)) va_nil)) (by rfl))
      (vss_cons (vs_set (i := 9) sc_law.nd rfl (.inl rfl) (ve_callB (ob_repr gd hr.units) (by rfl) m_repr (by decide +kernel) (va_cons (ve_tup (va_cons (ve_var 4) (va_cons (ve_var 7) va_nil))) va_nil)))
      (vss_cons (vs_set (i := 10) sc_law.nd rfl (.inl rfl) (ve_callP (ds := [.non, .int 0]) (dvs := [.non, .int 0]) (ss := [.pos 0, .pos 1, .pos 2]) G_renamed gd (hr.mono (by decide)) (by rfl) g_renamed k_renamed b_renamed_3 (by intro us ws h1 h2; match us, h1, ws, h2 with | [_, _, _], _, [], _ => rfl) (fun _ _ => (.cons .non (.cons (.int _) .nil))) (passes_call (takes_of rfl rfl rfl rfl) (fun _ _ _ _ h => h)) (va_cons (ve_var 4) (va_cons (ve_var 7) (va_cons (ve_var 8) va_nil)))))
      (vss_cons (vs_if (PW.pt (vw_or (vt_not (vt_val (ve_callB ob_isi (by rfl) m_isinstance (by decide +kernel) (va_cons (ve_var 10) (va_cons (ve_ty (by rfl) m_tuple (by decide +kernel)) va_nil))))) (vw_or1 (OkC.vt (oc_ne hu) (ve_callB (ob_repr gd hr.units) (by rfl) m_repr (by decide +kernel) (va_cons (ve_var 10) va_nil)) (ve_callB (ob_repr gd hr.units) (by rfl) m_repr (by decide +kernel) (va_cons (ve_callP (ds := []) (dvs := []) (ss := [.pos 0, .pos 1, .pos 2]) G__law_book_by gd (hr.mono (by decide)) (by rfl) g__law_book_by k__law_book_by b__law_book_by_3 (by intro us ws h1 h2; match us, h1, ws, h2 with | [_, _, _], _, [], _ => rfl) (fun _ _ => .nil) (passes_call (takes_of rfl rfl rfl rfl) (fun _ _ _ _ h => h)) (va_cons (ve_var 4) (va_cons (ve_var 7) (va_cons (ve_var 8) va_nil)))) va_nil)) (nomark _))))) (vss_one (vs_ret ve_bl)) vss_nil)
      (vss_cons (vs_if (OkC.vt (oc_ne hu) (ve_callB (ob_repr gd hr.units) (by rfl) m_repr (by decide +kernel) (va_cons (ve_callK0 (ds := [.non, .int 0]) (dvs := [.non, .int 0]) (ss := [.kw 1, .kw 2, .kw 0]) G_renamed gd (hr.mono (by decide)) (by rfl) g_renamed k_renamed b_renamed_0_later_book_words (by intro us ws h1 h2; match us, h1, ws, h2 with | [], _, [_, _, _], _ => rfl) (fun _ _ => (.cons .non (.cons (.int _) .nil))) (passes_call (takes_of rfl rfl rfl rfl) (fun _ _ _ _ h => h)) (vk_cons (ve_var 8) (vk_cons (ve_var 4) (vk_cons (ve_var 7) vk_nil))) rfl) va_nil)) (ve_callB (ob_repr gd hr.units) (by rfl) m_repr (by decide +kernel) (va_cons (ve_var 10) va_nil)) (nomark _)) (vss_one (vs_ret ve_bl)) vss_nil)
      (vss_cons (vs_if (OkC.vt (oc_ne hu) (ve_callB (ob_repr gd hr.units) (by rfl) m_repr (by decide +kernel) (va_cons (ve_callP (ds := [.non, .int 0]) (dvs := [.non, .int 0]) (ss := [.pos 0, .pos 1, .dfl 1]) G_renamed gd (hr.mono (by decide)) (by rfl) g_renamed k_renamed b_renamed_2 (by intro us ws h1 h2; match us, h1, ws, h2 with | [_, _], _, [], _ => rfl) (fun _ _ => (.cons .non (.cons (.int _) .nil))) (passes_call (takes_of rfl rfl rfl rfl) (fun _ _ _ _ h => h)) (va_cons (ve_var 4) (va_cons (ve_var 7) va_nil))) va_nil)) (ve_callB (ob_repr gd hr.units) (by rfl) m_repr (by decide +kernel) (va_cons (ve_callP (ds := []) (dvs := []) (ss := [.pos 0, .pos 1, .pos 2]) G__law_book_by gd (hr.mono (by decide)) (by rfl) g__law_book_by k__law_book_by b__law_book_by_3 (by intro us ws h1 h2; match us, h1, ws, h2 with | [_, _, _], _, [], _ => rfl) (fun _ _ => .nil) (passes_call (takes_of rfl rfl rfl rfl) (fun _ _ _ _ h => h)) (va_cons (ve_var 4) (va_cons (ve_var 7) (va_cons ve_int va_nil)))) va_nil)) (nomark _)) (vss_one (vs_ret ve_bl)) vss_nil)
      (vss_cons (vs_set (i := 11) sc_law.nd rfl (.inl rfl) (ve_callB (ob_repr gd hr.units) (by rfl) m_repr (by decide +kernel) (va_cons (ve_callP (ds := []) (dvs := []) (ss := [.pos 0, .pos 1, .pos 2]) G__law_book_by gd (hr.mono (by decide)) (by rfl) g__law_book_by k__law_book_by b__law_book_by_3 (by intro us ws h1 h2; match us, h1, ws, h2 with | [_, _, _], _, [], _ => rfl) (fun _ _ => .nil) (passes_call (takes_of rfl rfl rfl rfl) (fun _ _ _ _ h => h)) (va_cons (ve_var 4) (va_cons (ve_tupF va_nil) (va_cons (ve_var 8) va_nil)))) va_nil)))
      (vss_cons (vs_if (OkC.vt (oc_ne hu) (ve_lst false (va_cons (ve_callB (ob_repr gd hr.units) (by rfl) m_repr (by decide +kernel) (va_cons (ve_callK (ds := [.non, .int 0]) (dvs := [.non, .int 0]) (ss := [.pos 0, .dfl 0, .kw 0]) G_renamed gd (hr.mono (by decide)) (by rfl) g_renamed k_renamed b_renamed_1_later (by intro us ws h1 h2; match us, h1, ws, h2 with | [_], _, [_], _ => rfl) (fun _ _ => (.cons .non (.cons (.int _) .nil))) (passes_call (takes_of rfl rfl rfl rfl) (fun _ _ _ _ h => h)) (va_cons (ve_var 4) va_nil) (vk_cons (ve_var 8) vk_nil) rfl) va_nil)) (va_cons (ve_callB (ob_repr gd hr.units) (by rfl) m_repr (by decide +kernel) (va_cons (ve_callP (ds := [.non, .int 0]) (dvs := [.non, .int 0]) (ss := [.pos 0, .pos 1, .pos 2]) G_renamed gd (hr.mono (by decide)) (by rfl) g_renamed k_renamed b_renamed_3 (by intro us ws h1 h2; match us, h1, ws, h2 with | [_, _, _], _, [], _ => rfl) (fun _ _ => (.cons .non (.cons (.int _) .nil))) (passes_call (takes_of rfl rfl rfl rfl) (fun _ _ _ _ h => h)) (va_cons (ve_var 4) (va_cons ve_non (va_cons (ve_var 8) va_nil)))) va_nil)) va_nil))) (ve_lst false (va_cons (ve_var 11) (va_cons (ve_var 11) va_nil))) (nomark _)) (vss_one (vs_ret ve_bl)) vss_nil)
      (vss_cons (vs_set (i := 12) sc_law.nd rfl (.inl rfl) (ve_callTy ob_tupF (by rfl) m_tuple (by decide +kernel) (va_cons (ve_lc false (own := [("_law_elder", 14), ("_law_newer", 15)]) (by decide) rfl sc_law.nd (vi_seq (ve_var 7)) (blkOk_by (own := [("_law_elder", 14), ("_law_newer", 15)]) (N := ["_law_script", "_law_feed_here", "_law_house_here", "_law_guests_here", "_law_pages_now", "_law_every", "_law_turn", "_law_pairs_here", "_law_more", "_law_handed", "_law_told", "_law_want", "_law_contrary", "_law_alone", "_law_elder", "_law_newer"]) (sc := defScope s_law) (by decide +kernel)) (fun _ _ _ _ _ => (vg_tup rfl (vgs_cons (vg_name (i := 14) sc_law.nd rfl (.inl rfl)) (vgs_cons (vg_name (i := 15) sc_law.nd rfl (.inl rfl)) vgs_nil)))) (fun _ _ _ _ _ => vts_nil) (fun _ _ _ _ _ => (ve_tup (va_cons (ve_var 15) (va_cons (ve_var 14) va_nil))))) va_nil)))
      (vss_cons (vs_if (OkC.vt (oc_ne hu) (ve_callB (ob_repr gd hr.units) (by rfl) m_repr (by decide +kernel) (va_cons (ve_callK (ds := [.non, .int 0]) (dvs := [.non, .int 0]) (ss := [.pos 0, .kw 0, .dfl 1]) G_renamed gd (hr.mono (by decide)) (by rfl) g_renamed k_renamed b_renamed_1_words (by intro us ws h1 h2; match us, h1, ws, h2 with | [_], _, [_], _ => rfl) (fun _ _ => (.cons .non (.cons (.int _) .nil))) (passes_call (takes_of rfl rfl rfl rfl) (fun _ _ _ _ h => h)) (va_cons (ve_callK (ds := [.non, .int 0]) (dvs := [.non, .int 0]) (ss := [.pos 0, .kw 0, .dfl 1]) G_renamed gd (hr.mono (by decide)) (by rfl) g_renamed k_renamed b_renamed_1_words (by intro us ws h1 h2; match us, h1, ws, h2 with | [_], _, [_], _ => rfl) (fun _ _ => (.cons .non (.cons (.int _) .nil))) (passes_call (takes_of rfl rfl rfl rfl) (fun _ _ _ _ h => h)) (va_cons (ve_var 4) va_nil) (vk_cons (ve_var 7) vk_nil) rfl) va_nil) (vk_cons (ve_var 12) vk_nil) rfl) va_nil)) (ve_callB (ob_repr gd hr.units) (by rfl) m_repr (by decide +kernel) (va_cons (ve_var 4) va_nil)) (nomark _)) (vss_one (vs_ret ve_bl)) vss_nil)
      (vss_one (vs_if (OkC.vt (oc_ne hu) (ve_callB (ob_repr gd hr.units) (by rfl) m_repr (by decide +kernel) (va_cons (ve_tup (va_cons (ve_var 4) (va_cons (ve_var 7) va_nil))) va_nil)) (ve_var 9) (nomark _)) (vss_one (vs_ret ve_bl)) vss_nil))))))))))))))
      (vss_cons (vs_set (i := 13) sc_law.nd rfl (.inl rfl) (ve_tupF (va_cons (ve_tup (va_cons (ve_sub_ix hu (ve_var 5) (ve_neg ve_int) (fun _ _ => rfl)) (va_cons ve_str va_nil))) va_nil)))
      (vss_cons (vs_if (OkC.vt (oc_ne hu) (ve_callB (ob_repr gd hr.units) (by rfl) m_repr (by decide +kernel) (va_cons (ve_callP (ds := [.non, .int 0]) (dvs := [.non, .int 0]) (ss := [.pos 0, .pos 1, .dfl 1]) G_renamed gd (hr.mono (by decide)) (by rfl) g_renamed k_renamed b_renamed_2 (by intro us ws h1 h2; match us, h1, ws, h2 with | [_, _], _, [], _ => rfl) (fun _ _ => (.cons .non (.cons (.int _) .nil))) (passes_call (takes_of rfl rfl rfl rfl) (fun _ _ _ _ h => h)) (va_cons (ve_var 4) (va_cons (ve_var 13) va_nil))) va_nil)) (ve_callB (ob_repr gd hr.units) (by rfl) m_repr (by decide +kernel) (va_cons (ve_callP (ds := []) (dvs := []) (ss := [.pos 0, .pos 1, .pos 2]) G__law_book_by gd (hr.mono (by decide)) (by rfl) g__law_book_by k__law_book_by b__law_book_by_3 (by intro us ws h1 h2; match us, h1, ws, h2 with | [_, _, _], _, [], _ => rfl) (fun _ _ => .nil) (passes_call (takes_of rfl rfl rfl rfl) (fun _ _ _ _ h => h)) (va_cons (ve_var 4) (va_cons (ve_var 13) (va_cons ve_int va_nil)))) va_nil)) (nomark _)) (vss_one (vs_ret ve_bl)) vss_nil)
      (vss_cons (vs_set (i := 10) sc_law.nd rfl (.inl rfl) (ve_lst false (va_cons (ve_callP (ds := [.non, .int 0]) (dvs := [.non, .int 0]) (ss := [.pos 0, .dfl 0, .dfl 1]) G_renamed gd (hr.mono (by decide)) (by rfl) g_renamed k_renamed b_renamed_1 (by intro us ws h1 h2; match us, h1, ws, h2 with | [_], _, [], _ => rfl) (fun _ _ => (.cons .non (.cons (.int _) .nil))) (passes_call (takes_of rfl rfl rfl rfl) (fun _ _ _ _ h => h)) (va_cons (ve_var 4) va_nil)) (va_cons (ve_callP (ds := [.non, .int 0]) (dvs := [.non, .int 0]) (ss := [.pos 0, .pos 1, .dfl 1]) G_renamed gd (hr.mono (by decide)) (by rfl) g_renamed k_renamed b_renamed_2 (by intro us ws h1 h2; match us, h1, ws, h2 with | [_, _], _, [], _ => rfl) (fun _ _ => (.cons .non (.cons (.int _) .nil))) (passes_call (takes_of rfl rfl rfl rfl) (fun _ _ _ _ h => h)) (va_cons (ve_var 4) (va_cons (ve_tupF va_nil) va_nil))) (va_cons (ve_callK (ds := [.non, .int 0]) (dvs := [.non, .int 0]) (ss := [.pos 0, .dfl 0, .kw 0]) G_renamed gd (hr.mono (by decide)) (by rfl) g_renamed k_renamed b_renamed_1_later (by intro us ws h1 h2; match us, h1, ws, h2 with | [_], _, [_], _ => rfl) (fun _ _ => (.cons .non (.cons (.int _) .nil))) (passes_call (takes_of rfl rfl rfl rfl) (fun _ _ _ _ h => h)) (va_cons (ve_tupF va_nil) va_nil) (vk_cons ve_int vk_nil) rfl) va_nil)))))
      (vss_one (vs_ret (OkC.ve (oc_eq hu) (ve_callB (ob_repr gd hr.units) (by rfl) m_repr (by decide +kernel) (va_cons (ve_var 10) va_nil)) (ve_callB (ob_repr gd hr.units) (by rfl) m_repr (by decide +kernel) (va_cons (ve_lst false (va_cons (ve_var 4) (va_cons (ve_var 4) (va_cons (ve_tupF va_nil) va_nil)))) va_nil)) (nomark _))))))))))))
end
end V79
set_option Elab.async false
set_option linter.all false
set_option maxRecDepth 100000
set_option maxHeartbeats 2000000
namespace V79
open PySem PySem.Spec PyProof.Rows L2 TB VL G
theorem all_mk {l : PySem.W.OpenLaw} {w : World} {K : PySem.W.Frag} {h : Heap} {mg : Str → Option Value} {fa : Addr} (X : K.In h) (G : h.Ns mainGlobals mg) (hfa : mg "law" = some (.ref fa))
    {f_renamed_part : Addr} {od_renamed_part : Option Addr} {an_renamed_part : Option Addr} {sl_renamed_part : Array (Option Value)} {oc_renamed_part : Value} {kV_renamed_part : Value} {dc_renamed_part : Value} {pm_renamed_part : Value} {cd_renamed_part : Value} {ct_renamed_part : Value}
    {f_renamed_deed : Addr} {od_renamed_deed : Option Addr} {an_renamed_deed : Option Addr} {sl_renamed_deed : Array (Option Value)} {oc_renamed_deed : Value} {kV_renamed_deed : Value} {dc_renamed_deed : Value} {pm_renamed_deed : Value} {cd_renamed_deed : Value} {ct_renamed_deed : Value}
    {f_renamed : Addr} {od_renamed : Option Addr} {an_renamed : Option Addr} {sl_renamed : Array (Option Value)} {oc_renamed : Value} {kV_renamed : Value} {dc_renamed : Value} {pm_renamed : Value} {cd_renamed : Value} {ct_renamed : Value}
    {T_renamed : Addr} {tc_renamed : Value} {td_renamed : Option Addr} {ts_renamed : Array (Option Value)} {tn_renamed : Nat} {tk1_renamed : Tok}
    {f__law_feed : Addr} {od__law_feed : Option Addr} {an__law_feed : Option Addr} {sl__law_feed : Array (Option Value)} {oc__law_feed : Value} {kV__law_feed : Value} {dc__law_feed : Value} {pm__law_feed : Value} {cd__law_feed : Value} {ct__law_feed : Value}
    {f__law_next : Addr} {od__law_next : Option Addr} {an__law_next : Option Addr} {sl__law_next : Array (Option Value)} {oc__law_next : Value} {kV__law_next : Value} {dc__law_next : Value} {pm__law_next : Value} {cd__law_next : Value} {ct__law_next : Value}
    {f__law_words : Addr} {od__law_words : Option Addr} {an__law_words : Option Addr} {sl__law_words : Array (Option Value)} {oc__law_words : Value} {kV__law_words : Value} {dc__law_words : Value} {pm__law_words : Value} {cd__law_words : Value} {ct__law_words : Value}
    {f__law_prices : Addr} {od__law_prices : Option Addr} {an__law_prices : Option Addr} {sl__law_prices : Array (Option Value)} {oc__law_prices : Value} {kV__law_prices : Value} {dc__law_prices : Value} {pm__law_prices : Value} {cd__law_prices : Value} {ct__law_prices : Value}
    {f__law_house : Addr} {od__law_house : Option Addr} {an__law_house : Option Addr} {sl__law_house : Array (Option Value)} {oc__law_house : Value} {kV__law_house : Value} {dc__law_house : Value} {pm__law_house : Value} {cd__law_house : Value} {ct__law_house : Value}
    {f__law_guests : Addr} {od__law_guests : Option Addr} {an__law_guests : Option Addr} {sl__law_guests : Array (Option Value)} {oc__law_guests : Value} {kV__law_guests : Value} {dc__law_guests : Value} {pm__law_guests : Value} {cd__law_guests : Value} {ct__law_guests : Value}
    {f__law_dish_deed : Addr} {od__law_dish_deed : Option Addr} {an__law_dish_deed : Option Addr} {sl__law_dish_deed : Array (Option Value)} {oc__law_dish_deed : Value} {kV__law_dish_deed : Value} {dc__law_dish_deed : Value} {pm__law_dish_deed : Value} {cd__law_dish_deed : Value} {ct__law_dish_deed : Value}
    {f__law_deed : Addr} {od__law_deed : Option Addr} {an__law_deed : Option Addr} {sl__law_deed : Array (Option Value)} {oc__law_deed : Value} {kV__law_deed : Value} {dc__law_deed : Value} {pm__law_deed : Value} {cd__law_deed : Value} {ct__law_deed : Value}
    {f__law_pages : Addr} {od__law_pages : Option Addr} {an__law_pages : Option Addr} {sl__law_pages : Array (Option Value)} {oc__law_pages : Value} {kV__law_pages : Value} {dc__law_pages : Value} {pm__law_pages : Value} {cd__law_pages : Value} {ct__law_pages : Value}
    {f__law_pairs : Addr} {od__law_pairs : Option Addr} {an__law_pairs : Option Addr} {sl__law_pairs : Array (Option Value)} {oc__law_pairs : Value} {kV__law_pairs : Value} {dc__law_pairs : Value} {pm__law_pairs : Value} {cd__law_pairs : Value} {ct__law_pairs : Value}
    {f__law_deed_by : Addr} {od__law_deed_by : Option Addr} {an__law_deed_by : Option Addr} {sl__law_deed_by : Array (Option Value)} {oc__law_deed_by : Value} {kV__law_deed_by : Value} {dc__law_deed_by : Value} {pm__law_deed_by : Value} {cd__law_deed_by : Value} {ct__law_deed_by : Value}
    {f__law_book_by : Addr} {od__law_book_by : Option Addr} {an__law_book_by : Option Addr} {sl__law_book_by : Array (Option Value)} {oc__law_book_by : Value} {kV__law_book_by : Value} {dc__law_book_by : Value} {pm__law_book_by : Value} {cd__law_book_by : Value} {ct__law_book_by : Value}
    {f_law : Addr} {od_law : Option Addr} {an_law : Option Addr} {sl_law : Array (Option Value)} {oc_law : Value} {kV_law : Value} {dc_law : Value} {pm_law : Value} {cd_law : Value} {ct_law : Value}
    {ct1_LEAST_SEATS_k0 : Tok}
    {ct2_LEAST_SEATS_0 : Tok}
    {ct3_LEAST_SEATS_k1 : Tok}
    {ct4_LEAST_SEATS_1 : Tok}
    {D_LEAST_SEATS : Addr} {dn_LEAST_SEATS : Nat}
    {ct5_PLACES_k0 : Tok}
    {ct6_PLACES_0_0 : Tok}
    {ct7_PLACES_0_1 : Tok}
    {T_PLACES_0 : Addr} {tn_PLACES_0 : Nat} {ts_PLACES_0 : Array (Option Value)}
    {ct8_PLACES_k1 : Tok}
    {ct9_PLACES_1_0 : Tok}
    {ct10_PLACES_1_1 : Tok}
    {T_PLACES_1 : Addr} {tn_PLACES_1 : Nat} {ts_PLACES_1 : Array (Option Value)}
    {ct11_PLACES_k2 : Tok}
    {ct12_PLACES_2_0 : Tok}
    {ct13_PLACES_2_1 : Tok}
    {T_PLACES_2 : Addr} {tn_PLACES_2 : Nat} {ts_PLACES_2 : Array (Option Value)}
    {ct14_PLACES_k3 : Tok}
    {ct15_PLACES_3_0 : Tok}
    {T_PLACES_3 : Addr} {tn_PLACES_3 : Nat} {ts_PLACES_3 : Array (Option Value)}
    {ct16_PLACES_k4 : Tok}
    {ct17_PLACES_4_0 : Tok}
    {ct18_PLACES_4_1 : Tok}
    {ct19_PLACES_4_2 : Tok}
    {ct20_PLACES_4_3 : Tok}
    {T_PLACES_4 : Addr} {tn_PLACES_4 : Nat} {ts_PLACES_4 : Array (Option Value)}
    {ct21_PLACES_k5 : Tok}
    {ct22_PLACES_5_0 : Tok}
    {ct23_PLACES_5_1 : Tok}
    {T_PLACES_5 : Addr} {tn_PLACES_5 : Nat} {ts_PLACES_5 : Array (Option Value)}
    {ct24_PLACES_k6 : Tok}
    {ct25_PLACES_6_0 : Tok}
    {ct26_PLACES_6_1 : Tok}
    {T_PLACES_6 : Addr} {tn_PLACES_6 : Nat} {ts_PLACES_6 : Array (Option Value)}
    {ct27_PLACES_k7 : Tok}
    {ct28_PLACES_7_0 : Tok}
    {ct29_PLACES_7_1 : Tok}
    {T_PLACES_7 : Addr} {tn_PLACES_7 : Nat} {ts_PLACES_7 : Array (Option Value)}
    {ct30_PLACES_k8 : Tok}
    {ct31_PLACES_8_0 : Tok}
    {T_PLACES_8 : Addr} {tn_PLACES_8 : Nat} {ts_PLACES_8 : Array (Option Value)}
    {ct32_PLACES_k9 : Tok}
    {ct33_PLACES_9_0 : Tok}
    {T_PLACES_9 : Addr} {tn_PLACES_9 : Nat} {ts_PLACES_9 : Array (Option Value)}
    {ct34_PLACES_k10 : Tok}
    {ct35_PLACES_10_0 : Tok}
    {T_PLACES_10 : Addr} {tn_PLACES_10 : Nat} {ts_PLACES_10 : Array (Option Value)}
    {ct36_PLACES_k11 : Tok}
    {ct37_PLACES_11_0 : Tok}
    {ct38_PLACES_11_1 : Tok}
    {T_PLACES_11 : Addr} {tn_PLACES_11 : Nat} {ts_PLACES_11 : Array (Option Value)}
    {ct39_PLACES_k12 : Tok}
    {ct40_PLACES_12_0 : Tok}
    {ct41_PLACES_12_1 : Tok}
    {ct42_PLACES_12_2 : Tok}
    {T_PLACES_12 : Addr} {tn_PLACES_12 : Nat} {ts_PLACES_12 : Array (Option Value)}
    {ct43_PLACES_k13 : Tok}
    {ct44_PLACES_13_0 : Tok}
    {T_PLACES_13 : Addr} {tn_PLACES_13 : Nat} {ts_PLACES_13 : Array (Option Value)}
    {D_PLACES : Addr} {dn_PLACES : Nat}
    (a_renamed_part : PySem.W.nsIn K mainGlobals "renamed_part" = some (some (.ref f_renamed_part)))
    (l_renamed_part : K.lookup f_renamed_part = some ⟨oc_renamed_part, od_renamed_part, .func (PySem.W.fnOf "renamed_part" "renamed_part" (defArgs s_renamed_part) (defBody s_renamed_part) (defScope s_renamed_part) .none kV_renamed_part dc_renamed_part pm_renamed_part an_renamed_part cd_renamed_part ct_renamed_part), sl_renamed_part⟩)
    (c_renamed_part : PySem.W.codeIn K cd_renamed_part "renamed_part" = true) (k_renamed_part : PySem.W.keepIn K (.ref f_renamed_part) = true)
    (a_renamed_deed : PySem.W.nsIn K mainGlobals "renamed_deed" = some (some (.ref f_renamed_deed)))
    (l_renamed_deed : K.lookup f_renamed_deed = some ⟨oc_renamed_deed, od_renamed_deed, .func (PySem.W.fnOf "renamed_deed" "renamed_deed" (defArgs s_renamed_deed) (defBody s_renamed_deed) (defScope s_renamed_deed) .none kV_renamed_deed dc_renamed_deed pm_renamed_deed an_renamed_deed cd_renamed_deed ct_renamed_deed), sl_renamed_deed⟩)
    (c_renamed_deed : PySem.W.codeIn K cd_renamed_deed "renamed_deed" = true) (k_renamed_deed : PySem.W.keepIn K (.ref f_renamed_deed) = true)
    (a_renamed : PySem.W.nsIn K mainGlobals "renamed" = some (some (.ref f_renamed)))
    (l_renamed : K.lookup f_renamed = some ⟨oc_renamed, od_renamed, .func (PySem.W.fnOf "renamed" "renamed" (defArgs s_renamed) (defBody s_renamed) (defScope s_renamed) (.ref T_renamed) kV_renamed dc_renamed pm_renamed an_renamed cd_renamed ct_renamed), sl_renamed⟩)
    (c_renamed : PySem.W.codeIn K cd_renamed "renamed" = true) (k_renamed : PySem.W.keepIn K (.ref f_renamed) = true)
    (t_renamed : K.lookup T_renamed = some ⟨tc_renamed, td_renamed, .seq #[.none, .int 0 tk1_renamed] tn_renamed, ts_renamed⟩)
    (a__law_feed : PySem.W.nsIn K mainGlobals "_law_feed" = some (some (.ref f__law_feed)))
    (l__law_feed : K.lookup f__law_feed = some ⟨oc__law_feed, od__law_feed, .func (PySem.W.fnOf "_law_feed" "_law_feed" (defArgs s__law_feed) (defBody s__law_feed) (defScope s__law_feed) .none kV__law_feed dc__law_feed pm__law_feed an__law_feed cd__law_feed ct__law_feed), sl__law_feed⟩)
    (c__law_feed : PySem.W.codeIn K cd__law_feed "_law_feed" = true) (k__law_feed : PySem.W.keepIn K (.ref f__law_feed) = true)
    (a__law_next : PySem.W.nsIn K mainGlobals "_law_next" = some (some (.ref f__law_next)))
    (l__law_next : K.lookup f__law_next = some ⟨oc__law_next, od__law_next, .func (PySem.W.fnOf "_law_next" "_law_next" (defArgs s__law_next) (defBody s__law_next) (defScope s__law_next) .none kV__law_next dc__law_next pm__law_next an__law_next cd__law_next ct__law_next), sl__law_next⟩)
    (c__law_next : PySem.W.codeIn K cd__law_next "_law_next" = true) (k__law_next : PySem.W.keepIn K (.ref f__law_next) = true)
    (a__law_words : PySem.W.nsIn K mainGlobals "_law_words" = some (some (.ref f__law_words)))
    (l__law_words : K.lookup f__law_words = some ⟨oc__law_words, od__law_words, .func (PySem.W.fnOf "_law_words" "_law_words" (defArgs s__law_words) (defBody s__law_words) (defScope s__law_words) .none kV__law_words dc__law_words pm__law_words an__law_words cd__law_words ct__law_words), sl__law_words⟩)
    (c__law_words : PySem.W.codeIn K cd__law_words "_law_words" = true) (k__law_words : PySem.W.keepIn K (.ref f__law_words) = true)
    (a__law_prices : PySem.W.nsIn K mainGlobals "_law_prices" = some (some (.ref f__law_prices)))
    (l__law_prices : K.lookup f__law_prices = some ⟨oc__law_prices, od__law_prices, .func (PySem.W.fnOf "_law_prices" "_law_prices" (defArgs s__law_prices) (defBody s__law_prices) (defScope s__law_prices) .none kV__law_prices dc__law_prices pm__law_prices an__law_prices cd__law_prices ct__law_prices), sl__law_prices⟩)
    (c__law_prices : PySem.W.codeIn K cd__law_prices "_law_prices" = true) (k__law_prices : PySem.W.keepIn K (.ref f__law_prices) = true)
    (a__law_house : PySem.W.nsIn K mainGlobals "_law_house" = some (some (.ref f__law_house)))
    (l__law_house : K.lookup f__law_house = some ⟨oc__law_house, od__law_house, .func (PySem.W.fnOf "_law_house" "_law_house" (defArgs s__law_house) (defBody s__law_house) (defScope s__law_house) .none kV__law_house dc__law_house pm__law_house an__law_house cd__law_house ct__law_house), sl__law_house⟩)
    (c__law_house : PySem.W.codeIn K cd__law_house "_law_house" = true) (k__law_house : PySem.W.keepIn K (.ref f__law_house) = true)
    (a__law_guests : PySem.W.nsIn K mainGlobals "_law_guests" = some (some (.ref f__law_guests)))
    (l__law_guests : K.lookup f__law_guests = some ⟨oc__law_guests, od__law_guests, .func (PySem.W.fnOf "_law_guests" "_law_guests" (defArgs s__law_guests) (defBody s__law_guests) (defScope s__law_guests) .none kV__law_guests dc__law_guests pm__law_guests an__law_guests cd__law_guests ct__law_guests), sl__law_guests⟩)
    (c__law_guests : PySem.W.codeIn K cd__law_guests "_law_guests" = true) (k__law_guests : PySem.W.keepIn K (.ref f__law_guests) = true)
    (a__law_dish_deed : PySem.W.nsIn K mainGlobals "_law_dish_deed" = some (some (.ref f__law_dish_deed)))
    (l__law_dish_deed : K.lookup f__law_dish_deed = some ⟨oc__law_dish_deed, od__law_dish_deed, .func (PySem.W.fnOf "_law_dish_deed" "_law_dish_deed" (defArgs s__law_dish_deed) (defBody s__law_dish_deed) (defScope s__law_dish_deed) .none kV__law_dish_deed dc__law_dish_deed pm__law_dish_deed an__law_dish_deed cd__law_dish_deed ct__law_dish_deed), sl__law_dish_deed⟩)
    (c__law_dish_deed : PySem.W.codeIn K cd__law_dish_deed "_law_dish_deed" = true) (k__law_dish_deed : PySem.W.keepIn K (.ref f__law_dish_deed) = true)
    (a__law_deed : PySem.W.nsIn K mainGlobals "_law_deed" = some (some (.ref f__law_deed)))
    (l__law_deed : K.lookup f__law_deed = some ⟨oc__law_deed, od__law_deed, .func (PySem.W.fnOf "_law_deed" "_law_deed" (defArgs s__law_deed) (defBody s__law_deed) (defScope s__law_deed) .none kV__law_deed dc__law_deed pm__law_deed an__law_deed cd__law_deed ct__law_deed), sl__law_deed⟩)
    (c__law_deed : PySem.W.codeIn K cd__law_deed "_law_deed" = true) (k__law_deed : PySem.W.keepIn K (.ref f__law_deed) = true)
    (a__law_pages : PySem.W.nsIn K mainGlobals "_law_pages" = some (some (.ref f__law_pages)))
    (l__law_pages : K.lookup f__law_pages = some ⟨oc__law_pages, od__law_pages, .func (PySem.W.fnOf "_law_pages" "_law_pages" (defArgs s__law_pages) (defBody s__law_pages) (defScope s__law_pages) .none kV__law_pages dc__law_pages pm__law_pages an__law_pages cd__law_pages ct__law_pages), sl__law_pages⟩)
    (c__law_pages : PySem.W.codeIn K cd__law_pages "_law_pages" = true) (k__law_pages : PySem.W.keepIn K (.ref f__law_pages) = true)
    (a__law_pairs : PySem.W.nsIn K mainGlobals "_law_pairs" = some (some (.ref f__law_pairs)))
    (l__law_pairs : K.lookup f__law_pairs = some ⟨oc__law_pairs, od__law_pairs, .func (PySem.W.fnOf "_law_pairs" "_law_pairs" (defArgs s__law_pairs) (defBody s__law_pairs) (defScope s__law_pairs) .none kV__law_pairs dc__law_pairs pm__law_pairs an__law_pairs cd__law_pairs ct__law_pairs), sl__law_pairs⟩)
    (c__law_pairs : PySem.W.codeIn K cd__law_pairs "_law_pairs" = true) (k__law_pairs : PySem.W.keepIn K (.ref f__law_pairs) = true)
    (a__law_deed_by : PySem.W.nsIn K mainGlobals "_law_deed_by" = some (some (.ref f__law_deed_by)))
    (l__law_deed_by : K.lookup f__law_deed_by = some ⟨oc__law_deed_by, od__law_deed_by, .func (PySem.W.fnOf "_law_deed_by" "_law_deed_by" (defArgs s__law_deed_by) (defBody s__law_deed_by) (defScope s__law_deed_by) .none kV__law_deed_by dc__law_deed_by pm__law_deed_by an__law_deed_by cd__law_deed_by ct__law_deed_by), sl__law_deed_by⟩)
    (c__law_deed_by : PySem.W.codeIn K cd__law_deed_by "_law_deed_by" = true) (k__law_deed_by : PySem.W.keepIn K (.ref f__law_deed_by) = true)
    (a__law_book_by : PySem.W.nsIn K mainGlobals "_law_book_by" = some (some (.ref f__law_book_by)))
    (l__law_book_by : K.lookup f__law_book_by = some ⟨oc__law_book_by, od__law_book_by, .func (PySem.W.fnOf "_law_book_by" "_law_book_by" (defArgs s__law_book_by) (defBody s__law_book_by) (defScope s__law_book_by) .none kV__law_book_by dc__law_book_by pm__law_book_by an__law_book_by cd__law_book_by ct__law_book_by), sl__law_book_by⟩)
    (c__law_book_by : PySem.W.codeIn K cd__law_book_by "_law_book_by" = true) (k__law_book_by : PySem.W.keepIn K (.ref f__law_book_by) = true)
    (a_law : PySem.W.nsIn K mainGlobals "law" = some (some (.ref f_law)))
    (l_law : K.lookup f_law = some ⟨oc_law, od_law, .func (PySem.W.fnOf "law" "law" (defArgs s_law) (defBody s_law) (defScope s_law) .none kV_law dc_law pm_law an_law cd_law ct_law), sl_law⟩)
    (c_law : PySem.W.codeIn K cd_law "law" = true) (k_law : PySem.W.keepIn K (.ref f_law) = true)
    (z_dict : PySem.W.nsIn K mainGlobals "dict" = some none)
    (z_int : PySem.W.nsIn K mainGlobals "int" = some none)
    (z_isinstance : PySem.W.nsIn K mainGlobals "isinstance" = some none)
    (z_len : PySem.W.nsIn K mainGlobals "len" = some none)
    (z_list : PySem.W.nsIn K mainGlobals "list" = some none)
    (z_range : PySem.W.nsIn K mainGlobals "range" = some none)
    (z_repr : PySem.W.nsIn K mainGlobals "repr" = some none)
    (z_set : PySem.W.nsIn K mainGlobals "set" = some none)
    (z_sorted : PySem.W.nsIn K mainGlobals "sorted" = some none)
    (z_tuple : PySem.W.nsIn K mainGlobals "tuple" = some none)
    (z_zip : PySem.W.nsIn K mainGlobals "zip" = some none)
    (ld_LEAST_SEATS : K.lookup D_LEAST_SEATS = some ⟨.type "dict", none, .dict #[⟨PyData.keyHash w.params "seats", .str "seats" ct1_LEAST_SEATS_k0, .int 1 ct2_LEAST_SEATS_0⟩, ⟨PyData.keyHash w.params "party", .str "party" ct3_LEAST_SEATS_k1, .int 2 ct4_LEAST_SEATS_1⟩] dn_LEAST_SEATS, #[]⟩)
    (a_LEAST_SEATS : PySem.W.nsIn K mainGlobals "LEAST_SEATS" = some (some (.ref D_LEAST_SEATS)))
    (sm_LEAST_SEATS : (D_LEAST_SEATS == sysModules) = false)
    (lt_PLACES_0 : K.lookup T_PLACES_0 = some ⟨.type "tuple", none, .seq #[.str "seat" ct6_PLACES_0_0, .str "table" ct7_PLACES_0_1] tn_PLACES_0, ts_PLACES_0⟩)
    (lt_PLACES_1 : K.lookup T_PLACES_1 = some ⟨.type "tuple", none, .seq #[.str "seat" ct9_PLACES_1_0, .str "table" ct10_PLACES_1_1] tn_PLACES_1, ts_PLACES_1⟩)
    (lt_PLACES_2 : K.lookup T_PLACES_2 = some ⟨.type "tuple", none, .seq #[.str "table" ct12_PLACES_2_0, .str "other" ct13_PLACES_2_1] tn_PLACES_2, ts_PLACES_2⟩)
    (lt_PLACES_3 : K.lookup T_PLACES_3 = some ⟨.type "tuple", none, .seq #[.str "seat" ct15_PLACES_3_0] tn_PLACES_3, ts_PLACES_3⟩)
    (lt_PLACES_4 : K.lookup T_PLACES_4 = some ⟨.type "tuple", none, .seq #[.str "dish" ct17_PLACES_4_0, .str "item" ct18_PLACES_4_1, .str "course" ct19_PLACES_4_2, .str "seats" ct20_PLACES_4_3] tn_PLACES_4, ts_PLACES_4⟩)
    (lt_PLACES_5 : K.lookup T_PLACES_5 = some ⟨.type "tuple", none, .seq #[.str "dish" ct22_PLACES_5_0, .str "item" ct23_PLACES_5_1] tn_PLACES_5, ts_PLACES_5⟩)
    (lt_PLACES_6 : K.lookup T_PLACES_6 = some ⟨.type "tuple", none, .seq #[.str "table" ct25_PLACES_6_0, .str "course" ct26_PLACES_6_1] tn_PLACES_6, ts_PLACES_6⟩)
    (lt_PLACES_7 : K.lookup T_PLACES_7 = some ⟨.type "tuple", none, .seq #[.str "table" ct28_PLACES_7_0, .str "course" ct29_PLACES_7_1] tn_PLACES_7, ts_PLACES_7⟩)
    (lt_PLACES_8 : K.lookup T_PLACES_8 = some ⟨.type "tuple", none, .seq #[.str "dish" ct31_PLACES_8_0] tn_PLACES_8, ts_PLACES_8⟩)
    (lt_PLACES_9 : K.lookup T_PLACES_9 = some ⟨.type "tuple", none, .seq #[.str "dish" ct33_PLACES_9_0] tn_PLACES_9, ts_PLACES_9⟩)
    (lt_PLACES_10 : K.lookup T_PLACES_10 = some ⟨.type "tuple", none, .seq #[.str "dish" ct35_PLACES_10_0] tn_PLACES_10, ts_PLACES_10⟩)
    (lt_PLACES_11 : K.lookup T_PLACES_11 = some ⟨.type "tuple", none, .seq #[.str "seat" ct37_PLACES_11_0, .str "pence" ct38_PLACES_11_1] tn_PLACES_11, ts_PLACES_11⟩)
    (lt_PLACES_12 : K.lookup T_PLACES_12 = some ⟨.type "tuple", none, .seq #[.str "seat" ct40_PLACES_12_0, .str "other" ct41_PLACES_12_1, .str "pence" ct42_PLACES_12_2] tn_PLACES_12, ts_PLACES_12⟩)
    (lt_PLACES_13 : K.lookup T_PLACES_13 = some ⟨.type "tuple", none, .seq #[.str "party" ct44_PLACES_13_0] tn_PLACES_13, ts_PLACES_13⟩)
    (ld_PLACES : K.lookup D_PLACES = some ⟨.type "dict", none, .dict #[⟨PyData.keyHash w.params "sit", .str "sit" ct5_PLACES_k0, .ref T_PLACES_0⟩, ⟨PyData.keyHash w.params "move", .str "move" ct8_PLACES_k1, .ref T_PLACES_1⟩, ⟨PyData.keyHash w.params "join", .str "join" ct11_PLACES_k2, .ref T_PLACES_2⟩, ⟨PyData.keyHash w.params "go", .str "go" ct14_PLACES_k3, .ref T_PLACES_3⟩, ⟨PyData.keyHash w.params "ask", .str "ask" ct16_PLACES_k4, .ref T_PLACES_4⟩, ⟨PyData.keyHash w.params "change", .str "change" ct21_PLACES_k5, .ref T_PLACES_5⟩, ⟨PyData.keyHash w.params "fire", .str "fire" ct24_PLACES_k6, .ref T_PLACES_6⟩, ⟨PyData.keyHash w.params "rush", .str "rush" ct27_PLACES_k7, .ref T_PLACES_7⟩, ⟨PyData.keyHash w.params "serve", .str "serve" ct30_PLACES_k8, .ref T_PLACES_8⟩, ⟨PyData.keyHash w.params "back", .str "back" ct32_PLACES_k9, .ref T_PLACES_9⟩, ⟨PyData.keyHash w.params "strike", .str "strike" ct34_PLACES_k10, .ref T_PLACES_10⟩, ⟨PyData.keyHash w.params "pay", .str "pay" ct36_PLACES_k11, .ref T_PLACES_11⟩, ⟨PyData.keyHash w.params "take", .str "take" ct39_PLACES_k12, .ref T_PLACES_12⟩, ⟨PyData.keyHash w.params "even", .str "even" ct43_PLACES_k13, .ref T_PLACES_13⟩] dn_PLACES, #[]⟩)
    (a_PLACES : PySem.W.nsIn K mainGlobals "PLACES" = some (some (.ref D_PLACES)))
    (sm_PLACES : (D_PLACES == sysModules) = false) :
    ∃ fd : FuncData, (∀ (s : Shared) (v : Value), BindsTo s fd ⟨[v], []⟩ [("_law_script", v)]) ∧ ∀ base : Heap, K.In base → base.Ns mainGlobals mg → FnG l.prog w K mg base CX0 6 fa fd ["_law_script"] (spLaw K) := by
  have e := hfa.symm.trans (PySem.W.mg_of X G a_law)
  cases e
  have F_renamed_part := fun_mk (st := s_renamed_part) l_renamed_part c_renamed_part k_renamed_part
  have b_renamed_part_3 := bindV0 (ps := ["place", "part", "newer"]) F_renamed_part 3 [] [.pos 0, .pos 1, .pos 2] (fun _ _ _ _ _ _ us ws h1 h2 => match us, h1, ws, h2 with | [_, _, _], _, [], _ => rfl)
  have g_renamed_part := PySem.W.mg_of X G a_renamed_part
  have F_renamed_deed := fun_mk (st := s_renamed_deed) l_renamed_deed c_renamed_deed k_renamed_deed
  have b_renamed_deed_2 := bindV0 (ps := ["deed", "newer"]) F_renamed_deed 2 [] [.pos 0, .pos 1] (fun _ _ _ _ _ _ us ws h1 h2 => match us, h1, ws, h2 with | [_, _], _, [], _ => rfl)
  have g_renamed_deed := PySem.W.mg_of X G a_renamed_deed
  have F_renamed : FunD K "renamed" "renamed" (defArgs s_renamed) (defBody s_renamed) (defScope s_renamed) [.non, .int 0] [] f_renamed (PySem.W.fnOf "renamed" "renamed" (defArgs s_renamed) (defBody s_renamed) (defScope s_renamed) (.ref T_renamed) kV_renamed dc_renamed pm_renamed an_renamed cd_renamed ct_renamed) :=
    ⟨⟨oc_renamed, od_renamed, _, _, _, _, _, _, _, sl_renamed, rfl, l_renamed, c_renamed, .inr ⟨fun z => (nomatch z), T_renamed, _, [.none, .int 0 tk1_renamed], tn_renamed, rfl, t_renamed, rfl, .cons rfl (.cons ⟨_, rfl⟩ (.nil))⟩, .inl rfl⟩, k_renamed⟩
  have b_renamed_0_later_book_words := bindVD (ps := ["book", "words", "later"]) F_renamed (fun z => (nomatch z)) 0 ["later", "book", "words"] [.kw 1, .kw 2, .kw 0] (fun _ _ _ _ _ _ _ us ws its h1 h2 h3 => match us, h1, ws, h2, its, h3 with | [], _, [_, _, _], _, [_, _], _ => ⟨_, rfl, rfl⟩)
  have b_renamed_1 := bindVD (ps := ["book", "words", "later"]) F_renamed (fun z => (nomatch z)) 1 [] [.pos 0, .dfl 0, .dfl 1] (fun _ _ _ _ _ _ _ us ws its h1 h2 h3 => match us, h1, ws, h2, its, h3 with | [_], _, [], _, [_, _], _ => ⟨_, rfl, rfl⟩)
  have b_renamed_1_later := bindVD (ps := ["book", "words", "later"]) F_renamed (fun z => (nomatch z)) 1 ["later"] [.pos 0, .dfl 0, .kw 0] (fun _ _ _ _ _ _ _ us ws its h1 h2 h3 => match us, h1, ws, h2, its, h3 with | [_], _, [_], _, [_, _], _ => ⟨_, rfl, rfl⟩)
  have b_renamed_1_words := bindVD (ps := ["book", "words", "later"]) F_renamed (fun z => (nomatch z)) 1 ["words"] [.pos 0, .kw 0, .dfl 1] (fun _ _ _ _ _ _ _ us ws its h1 h2 h3 => match us, h1, ws, h2, its, h3 with | [_], _, [_], _, [_, _], _ => ⟨_, rfl, rfl⟩)
  have b_renamed_2 := bindVD (ps := ["book", "words", "later"]) F_renamed (fun z => (nomatch z)) 2 [] [.pos 0, .pos 1, .dfl 1] (fun _ _ _ _ _ _ _ us ws its h1 h2 h3 => match us, h1, ws, h2, its, h3 with | [_, _], _, [], _, [_, _], _ => ⟨_, rfl, rfl⟩)
  have b_renamed_3 := bindVD (ps := ["book", "words", "later"]) F_renamed (fun z => (nomatch z)) 3 [] [.pos 0, .pos 1, .pos 2] (fun _ _ _ _ _ _ _ us ws its h1 h2 h3 => match us, h1, ws, h2, its, h3 with | [_, _, _], _, [], _, [_, _], _ => ⟨_, rfl, rfl⟩)
  have g_renamed := PySem.W.mg_of X G a_renamed
  have F__law_feed := fun_mk (st := s__law_feed) l__law_feed c__law_feed k__law_feed
  have b__law_feed_1 := bindV0 (ps := ["_law_script"]) F__law_feed 1 [] [.pos 0] (fun _ _ _ _ _ _ us ws h1 h2 => match us, h1, ws, h2 with | [_], _, [], _ => rfl)
  have g__law_feed := PySem.W.mg_of X G a__law_feed
  have F__law_next := fun_mk (st := s__law_next) l__law_next c__law_next k__law_next
  have b__law_next_2 := bindV0 (ps := ["_law_feed_here", "_law_many"]) F__law_next 2 [] [.pos 0, .pos 1] (fun _ _ _ _ _ _ us ws h1 h2 => match us, h1, ws, h2 with | [_, _], _, [], _ => rfl)
  have g__law_next := PySem.W.mg_of X G a__law_next
  have F__law_words := fun_mk (st := s__law_words) l__law_words c__law_words k__law_words
  have b__law_words_3 := bindV0 (ps := ["_law_feed_here", "_law_many", "_law_left"]) F__law_words 3 [] [.pos 0, .pos 1, .pos 2] (fun _ _ _ _ _ _ us ws h1 h2 => match us, h1, ws, h2 with | [_, _, _], _, [], _ => rfl)
  have g__law_words := PySem.W.mg_of X G a__law_words
  have F__law_prices := fun_mk (st := s__law_prices) l__law_prices c__law_prices k__law_prices
  have b__law_prices_1 := bindV0 (ps := ["_law_feed_here"]) F__law_prices 1 [] [.pos 0] (fun _ _ _ _ _ _ us ws h1 h2 => match us, h1, ws, h2 with | [_], _, [], _ => rfl)
  have g__law_prices := PySem.W.mg_of X G a__law_prices
  have F__law_house := fun_mk (st := s__law_house) l__law_house c__law_house k__law_house
  have b__law_house_1 := bindV0 (ps := ["_law_feed_here"]) F__law_house 1 [] [.pos 0] (fun _ _ _ _ _ _ us ws h1 h2 => match us, h1, ws, h2 with | [_], _, [], _ => rfl)
  have g__law_house := PySem.W.mg_of X G a__law_house
  have F__law_guests := fun_mk (st := s__law_guests) l__law_guests c__law_guests k__law_guests
  have b__law_guests_1 := bindV0 (ps := ["_law_feed_here"]) F__law_guests 1 [] [.pos 0] (fun _ _ _ _ _ _ us ws h1 h2 => match us, h1, ws, h2 with | [_], _, [], _ => rfl)
  have g__law_guests := PySem.W.mg_of X G a__law_guests
  have F__law_dish_deed := fun_mk (st := s__law_dish_deed) l__law_dish_deed c__law_dish_deed k__law_dish_deed
  have b__law_dish_deed_3 := bindV0 (ps := ["_law_feed_here", "_law_items", "_law_asked"]) F__law_dish_deed 3 [] [.pos 0, .pos 1, .pos 2] (fun _ _ _ _ _ _ us ws h1 h2 => match us, h1, ws, h2 with | [_, _, _], _, [], _ => rfl)
  have g__law_dish_deed := PySem.W.mg_of X G a__law_dish_deed
  have F__law_deed := fun_mk (st := s__law_deed) l__law_deed c__law_deed k__law_deed
  have b__law_deed_4 := bindV0 (ps := ["_law_feed_here", "_law_items", "_law_guests_here", "_law_asked"]) F__law_deed 4 [] [.pos 0, .pos 1, .pos 2, .pos 3] (fun _ _ _ _ _ _ us ws h1 h2 => match us, h1, ws, h2 with | [_, _, _, _], _, [], _ => rfl)
  have g__law_deed := PySem.W.mg_of X G a__law_deed
  have F__law_pages := fun_mk (st := s__law_pages) l__law_pages c__law_pages k__law_pages
  have b__law_pages_4 := bindV0 (ps := ["_law_feed_here", "_law_house_here", "_law_guests_here", "_law_many"]) F__law_pages 4 [] [.pos 0, .pos 1, .pos 2, .pos 3] (fun _ _ _ _ _ _ us ws h1 h2 => match us, h1, ws, h2 with | [_, _, _, _], _, [], _ => rfl)
  have g__law_pages := PySem.W.mg_of X G a__law_pages
  have F__law_pairs := fun_mk (st := s__law_pairs) l__law_pairs c__law_pairs k__law_pairs
  have b__law_pairs_3 := bindV0 (ps := ["_law_feed_here", "_law_elder_ones", "_law_many"]) F__law_pairs 3 [] [.pos 0, .pos 1, .pos 2] (fun _ _ _ _ _ _ us ws h1 h2 => match us, h1, ws, h2 with | [_, _, _], _, [], _ => rfl)
  have g__law_pairs := PySem.W.mg_of X G a__law_pairs
  have F__law_deed_by := fun_mk (st := s__law_deed_by) l__law_deed_by c__law_deed_by k__law_deed_by
  have b__law_deed_by_2 := bindV0 (ps := ["_law_deed_here", "_law_newer"]) F__law_deed_by 2 [] [.pos 0, .pos 1] (fun _ _ _ _ _ _ us ws h1 h2 => match us, h1, ws, h2 with | [_, _], _, [], _ => rfl)
  have g__law_deed_by := PySem.W.mg_of X G a__law_deed_by
  have F__law_book_by := fun_mk (st := s__law_book_by) l__law_book_by c__law_book_by k__law_book_by
  have b__law_book_by_3 := bindV0 (ps := ["_law_pages_now", "_law_pairs_here", "_law_more"]) F__law_book_by 3 [] [.pos 0, .pos 1, .pos 2] (fun _ _ _ _ _ _ us ws h1 h2 => match us, h1, ws, h2 with | [_, _, _], _, [], _ => rfl)
  have g__law_book_by := PySem.W.mg_of X G a__law_book_by
  have F_law := fun_mk (st := s_law) l_law c_law k_law
  have g_law := PySem.W.mg_of X G a_law
  have m_dict := PySem.W.mg_none_of X G z_dict
  have m_int := PySem.W.mg_none_of X G z_int
  have m_isinstance := PySem.W.mg_none_of X G z_isinstance
  have m_len := PySem.W.mg_none_of X G z_len
  have m_list := PySem.W.mg_none_of X G z_list
  have m_range := PySem.W.mg_none_of X G z_range
  have m_repr := PySem.W.mg_none_of X G z_repr
  have m_set := PySem.W.mg_none_of X G z_set
  have m_sorted := PySem.W.mg_none_of X G z_sorted
  have m_tuple := PySem.W.mg_none_of X G z_tuple
  have m_zip := PySem.W.mg_none_of X G z_zip
  have cd_LEAST_SEATS : CD K w mg "LEAST_SEATS" d_LEAST_SEATS := ⟨D_LEAST_SEATS, _, dn_LEAST_SEATS, PySem.W.mg_of X G a_LEAST_SEATS, ⟨ld_LEAST_SEATS, ⟨⟨_, _, rfl, rfl⟩, ⟨⟨_, _, rfl, rfl⟩, trivial⟩⟩, sm_LEAST_SEATS⟩, (.cons rfl (show RelV (.int 1) _ from ⟨_, rfl⟩) (fun H β => .int _) (.cons rfl (show RelV (.int 2) _ from ⟨_, rfl⟩) (fun H β => .int _) .nil))⟩
  have rp_PLACES_0 : ∀ H β, Rep K H β (.ctp [.str "seat", .str "table"]) (.ref T_PLACES_0) := fun H β => .ctp (us := [.str "seat", .str "table"]) (.inl ⟨_, _, _, lt_PLACES_0, rfl, rfl, rfl, (by show 2 ≤ sizeLine; decide), (.cons ⟨_, rfl⟩ (.cons ⟨_, rfl⟩ .nil))⟩) (.cons (.str _) (.cons (.str _) .nil))
  have rp_PLACES_1 : ∀ H β, Rep K H β (.ctp [.str "seat", .str "table"]) (.ref T_PLACES_1) := fun H β => .ctp (us := [.str "seat", .str "table"]) (.inl ⟨_, _, _, lt_PLACES_1, rfl, rfl, rfl, (by show 2 ≤ sizeLine; decide), (.cons ⟨_, rfl⟩ (.cons ⟨_, rfl⟩ .nil))⟩) (.cons (.str _) (.cons (.str _) .nil))
  have rp_PLACES_2 : ∀ H β, Rep K H β (.ctp [.str "table", .str "other"]) (.ref T_PLACES_2) := fun H β => .ctp (us := [.str "table", .str "other"]) (.inl ⟨_, _, _, lt_PLACES_2, rfl, rfl, rfl, (by show 2 ≤ sizeLine; decide), (.cons ⟨_, rfl⟩ (.cons ⟨_, rfl⟩ .nil))⟩) (.cons (.str _) (.cons (.str _) .nil))
  have rp_PLACES_3 : ∀ H β, Rep K H β (.ctp [.str "seat"]) (.ref T_PLACES_3) := fun H β => .ctp (us := [.str "seat"]) (.inl ⟨_, _, _, lt_PLACES_3, rfl, rfl, rfl, (by show 1 ≤ sizeLine; decide), (.cons ⟨_, rfl⟩ .nil)⟩) (.cons (.str _) .nil)
  have rp_PLACES_4 : ∀ H β, Rep K H β (.ctp [.str "dish", .str "item", .str "course", .str "seats"]) (.ref T_PLACES_4) := fun H β => .ctp (us := [.str "dish", .str "item", .str "course", .str "seats"]) (.inl ⟨_, _, _, lt_PLACES_4, rfl, rfl, rfl, (by show 4 ≤ sizeLine; decide), (.cons ⟨_, rfl⟩ (.cons ⟨_, rfl⟩ (.cons ⟨_, rfl⟩ (.cons ⟨_, rfl⟩ .nil))))⟩) (.cons (.str _) (.cons (.str _) (.cons (.str _) (.cons (.str _) .nil))))
  have rp_PLACES_5 : ∀ H β, Rep K H β (.ctp [.str "dish", .str "item"]) (.ref T_PLACES_5) := fun H β => .ctp (us := [.str "dish", .str "item"]) (.inl ⟨_, _, _, lt_PLACES_5, rfl, rfl, rfl, (by show 2 ≤ sizeLine; decide), (.cons ⟨_, rfl⟩ (.cons ⟨_, rfl⟩ .nil))⟩) (.cons (.str _) (.cons (.str _) .nil))
  have rp_PLACES_6 : ∀ H β, Rep K H β (.ctp [.str "table", .str "course"]) (.ref T_PLACES_6) := fun H β => .ctp (us := [.str "table", .str "course"]) (.inl ⟨_, _, _, lt_PLACES_6, rfl, rfl, rfl, (by show 2 ≤ sizeLine; decide), (.cons ⟨_, rfl⟩ (.cons ⟨_, rfl⟩ .nil))⟩) (.cons (.str _) (.cons (.str _) .nil))
  have rp_PLACES_7 : ∀ H β, Rep K H β (.ctp [.str "table", .str "course"]) (.ref T_PLACES_7) := fun H β => .ctp (us := [.str "table", .str "course"]) (.inl ⟨_, _, _, lt_PLACES_7, rfl, rfl, rfl, (by show 2 ≤ sizeLine; decide), (.cons ⟨_, rfl⟩ (.cons ⟨_, rfl⟩ .nil))⟩) (.cons (.str _) (.cons (.str _) .nil))
  have rp_PLACES_8 : ∀ H β, Rep K H β (.ctp [.str "dish"]) (.ref T_PLACES_8) := fun H β => .ctp (us := [.str "dish"]) (.inl ⟨_, _, _, lt_PLACES_8, rfl, rfl, rfl, (by show 1 ≤ sizeLine; decide), (.cons ⟨_, rfl⟩ .nil)⟩) (.cons (.str _) .nil)
  have rp_PLACES_9 : ∀ H β, Rep K H β (.ctp [.str "dish"]) (.ref T_PLACES_9) := fun H β => .ctp (us := [.str "dish"]) (.inl ⟨_, _, _, lt_PLACES_9, rfl, rfl, rfl, (by show 1 ≤ sizeLine; decide), (.cons ⟨_, rfl⟩ .nil)⟩) (.cons (.str _) .nil)
  have rp_PLACES_10 : ∀ H β, Rep K H β (.ctp [.str "dish"]) (.ref T_PLACES_10) := fun H β => .ctp (us := [.str "dish"]) (.inl ⟨_, _, _, lt_PLACES_10, rfl, rfl, rfl, (by show 1 ≤ sizeLine; decide), (.cons ⟨_, rfl⟩ .nil)⟩) (.cons (.str _) .nil)
  have rp_PLACES_11 : ∀ H β, Rep K H β (.ctp [.str "seat", .str "pence"]) (.ref T_PLACES_11) := fun H β => .ctp (us := [.str "seat", .str "pence"]) (.inl ⟨_, _, _, lt_PLACES_11, rfl, rfl, rfl, (by show 2 ≤ sizeLine; decide), (.cons ⟨_, rfl⟩ (.cons ⟨_, rfl⟩ .nil))⟩) (.cons (.str _) (.cons (.str _) .nil))
  have rp_PLACES_12 : ∀ H β, Rep K H β (.ctp [.str "seat", .str "other", .str "pence"]) (.ref T_PLACES_12) := fun H β => .ctp (us := [.str "seat", .str "other", .str "pence"]) (.inl ⟨_, _, _, lt_PLACES_12, rfl, rfl, rfl, (by show 3 ≤ sizeLine; decide), (.cons ⟨_, rfl⟩ (.cons ⟨_, rfl⟩ (.cons ⟨_, rfl⟩ .nil)))⟩) (.cons (.str _) (.cons (.str _) (.cons (.str _) .nil)))
  have rp_PLACES_13 : ∀ H β, Rep K H β (.ctp [.str "party"]) (.ref T_PLACES_13) := fun H β => .ctp (us := [.str "party"]) (.inl ⟨_, _, _, lt_PLACES_13, rfl, rfl, rfl, (by show 1 ≤ sizeLine; decide), (.cons ⟨_, rfl⟩ .nil)⟩) (.cons (.str _) .nil)
  have cd_PLACES : CD K w mg "PLACES" d_PLACES := ⟨D_PLACES, _, dn_PLACES, PySem.W.mg_of X G a_PLACES, ⟨ld_PLACES, ⟨⟨_, _, rfl, rfl⟩, ⟨⟨_, _, rfl, rfl⟩, ⟨⟨_, _, rfl, rfl⟩, ⟨⟨_, _, rfl, rfl⟩, ⟨⟨_, _, rfl, rfl⟩, ⟨⟨_, _, rfl, rfl⟩, ⟨⟨_, _, rfl, rfl⟩, ⟨⟨_, _, rfl, rfl⟩, ⟨⟨_, _, rfl, rfl⟩, ⟨⟨_, _, rfl, rfl⟩, ⟨⟨_, _, rfl, rfl⟩, ⟨⟨_, _, rfl, rfl⟩, ⟨⟨_, _, rfl, rfl⟩, ⟨⟨_, _, rfl, rfl⟩, trivial⟩⟩⟩⟩⟩⟩⟩⟩⟩⟩⟩⟩⟩⟩, sm_PLACES⟩, (.cons rfl (show RelV (.ref T_PLACES_0) _ from rfl) (fun H β => rp_PLACES_0 H β) (.cons rfl (show RelV (.ref T_PLACES_1) _ from rfl) (fun H β => rp_PLACES_1 H β) (.cons rfl (show RelV (.ref T_PLACES_2) _ from rfl) (fun H β => rp_PLACES_2 H β) (.cons rfl (show RelV (.ref T_PLACES_3) _ from rfl) (fun H β => rp_PLACES_3 H β) (.cons rfl (show RelV (.ref T_PLACES_4) _ from rfl) (fun H β => rp_PLACES_4 H β) (.cons rfl (show RelV (.ref T_PLACES_5) _ from rfl) (fun H β => rp_PLACES_5 H β) (.cons rfl (show RelV (.ref T_PLACES_6) _ from rfl) (fun H β => rp_PLACES_6 H β) (.cons rfl (show RelV (.ref T_PLACES_7) _ from rfl) (fun H β => rp_PLACES_7 H β) (.cons rfl (show RelV (.ref T_PLACES_8) _ from rfl) (fun H β => rp_PLACES_8 H β) (.cons rfl (show RelV (.ref T_PLACES_9) _ from rfl) (fun H β => rp_PLACES_9 H β) (.cons rfl (show RelV (.ref T_PLACES_10) _ from rfl) (fun H β => rp_PLACES_10 H β) (.cons rfl (show RelV (.ref T_PLACES_11) _ from rfl) (fun H β => rp_PLACES_11 H β) (.cons rfl (show RelV (.ref T_PLACES_12) _ from rfl) (fun H β => rp_PLACES_12 H β) (.cons rfl (show RelV (.ref T_PLACES_13) _ from rfl) (fun H β => rp_PLACES_13 H β) .nil))))))))))))))⟩
  refine ⟨(PySem.W.fnOf "law" "law" (defArgs s_law) (defBody s_law) (defScope s_law) .none kV_law dc_law pm_law an_law cd_law ct_law), fun s v => .of_eq rfl, fun base _ _ => ?_⟩
  have G_renamed_part := ok_renamed_part (P := l.prog) (w := w) (mg := mg) (base := base) F_renamed_part cd_LEAST_SEATS m_tuple
  have G_renamed_deed := ok_renamed_deed (P := l.prog) (w := w) (mg := mg) (base := base) F_renamed_deed G_renamed_part k_renamed_part g_renamed_part b_renamed_part_3 cd_PLACES m_tuple m_zip
  have G_renamed := ok_renamed (P := l.prog) (w := w) (mg := mg) (base := base) F_renamed G_renamed_deed k_renamed_deed g_renamed_deed b_renamed_deed_2 m_dict m_tuple
  have G__law_feed := ok__law_feed (P := l.prog) (w := w) (mg := mg) (base := base) F__law_feed m_list
  have G__law_next := ok__law_next (P := l.prog) (w := w) (mg := mg) (base := base) F__law_next m_len
  have G__law_words := ok__law_words (P := l.prog) (w := w) (mg := mg) (base := base) F__law_words G__law_next k__law_next g__law_next b__law_next_2 m_len m_range
  have G__law_prices := ok__law_prices (P := l.prog) (w := w) (mg := mg) (base := base) F__law_prices G__law_next k__law_next g__law_next b__law_next_2 m_range m_tuple
  have G__law_house := ok__law_house (P := l.prog) (w := w) (mg := mg) (base := base) F__law_house G__law_next k__law_next g__law_next G__law_prices k__law_prices g__law_prices G__law_words k__law_words g__law_words b__law_next_2 b__law_prices_1 b__law_words_3 m_range m_sorted m_tuple
  have G__law_guests := ok__law_guests (P := l.prog) (w := w) (mg := mg) (base := base) F__law_guests G__law_next k__law_next g__law_next G__law_words k__law_words g__law_words b__law_next_2 b__law_words_3 m_sorted
  have G__law_dish_deed := ok__law_dish_deed (P := l.prog) (w := w) (mg := mg) (base := base) F__law_dish_deed G__law_next k__law_next g__law_next b__law_next_2 m_len
  have G__law_deed := ok__law_deed (P := l.prog) (w := w) (mg := mg) (base := base) F__law_deed G__law_dish_deed k__law_dish_deed g__law_dish_deed G__law_next k__law_next g__law_next b__law_dish_deed_3 b__law_next_2 m_int m_len m_tuple
  have G__law_pages := ok__law_pages (P := l.prog) (w := w) (mg := mg) (base := base) F__law_pages G__law_deed k__law_deed g__law_deed G__law_next k__law_next g__law_next b__law_deed_4 b__law_next_2 m_int m_len m_range
  have G__law_pairs := ok__law_pairs (P := l.prog) (w := w) (mg := mg) (base := base) F__law_pairs G__law_words k__law_words g__law_words b__law_words_3 m_len m_sorted m_tuple m_zip
  have G__law_deed_by := ok__law_deed_by (P := l.prog) (w := w) (mg := mg) (base := base) F__law_deed_by m_tuple
  have G__law_book_by := ok__law_book_by (P := l.prog) (w := w) (mg := mg) (base := base) F__law_book_by G__law_deed_by k__law_deed_by g__law_deed_by b__law_deed_by_2 m_dict m_tuple
  have G_law := ok_law (P := l.prog) (w := w) (mg := mg) (base := base) F_law G__law_book_by k__law_book_by g__law_book_by G__law_feed k__law_feed g__law_feed G__law_guests k__law_guests g__law_guests G__law_house k__law_house g__law_house G__law_next k__law_next g__law_next G__law_pages k__law_pages g__law_pages G__law_pairs k__law_pairs g__law_pairs G_renamed k_renamed g_renamed b__law_book_by_3 b__law_feed_1 b__law_guests_1 b__law_house_1 b__law_next_2 b__law_pages_4 b__law_pairs_3 b_renamed_0_later_book_words b_renamed_1 b_renamed_1_later b_renamed_1_words b_renamed_2 b_renamed_3 m_isinstance m_len m_range m_repr m_set m_sorted m_tuple
  exact endV law_true G_law
end V79
open PySem PySem.W PyProof.Rows
set_option maxHeartbeats 0 in
theorem PySem.Challenge.cw_tablebills_k79_names_turned_holds : PySem.Challenge.rw_tablebills_k79_names_turned.Holds := by
  w_on; o_law; k_head; (case hw => w_witness2)
  k_fill
  refine TB.walkG (l := PySem.Challenge.rw_tablebills_k79_names_turned) (n := 63) (k := 6) (x := "_law_script") (sp := fun w => VL.spLaw _) rfl (by decide) rfl (fun w h Y => PySem.W.kIn_of Y) ⟨rfl, by decide, by decide⟩ ?F (fun _ _ a ns hl hS => ⟨a, ns, rfl, hS, hl, fun _ => rfl⟩)
  case F =>
    intro w mg fa h KX G hmg
    refine' V79.all_mk (w := w) KX G hmg ?a_renamed_part ?l_renamed_part ?c_renamed_part ?k_renamed_part ?a_renamed_deed ?l_renamed_deed ?c_renamed_deed ?k_renamed_deed ?a_renamed ?l_renamed ?c_renamed ?k_renamed ?t_renamed ?a__law_feed ?l__law_feed ?c__law_feed ?k__law_feed ?a__law_next ?l__law_next ?c__law_next ?k__law_next ?a__law_words ?l__law_words ?c__law_words ?k__law_words ?a__law_prices ?l__law_prices ?c__law_prices ?k__law_prices ?a__law_house ?l__law_house ?c__law_house ?k__law_house ?a__law_guests ?l__law_guests ?c__law_guests ?k__law_guests ?a__law_dish_deed ?l__law_dish_deed ?c__law_dish_deed ?k__law_dish_deed ?a__law_deed ?l__law_deed ?c__law_deed ?k__law_deed ?a__law_pages ?l__law_pages ?c__law_pages ?k__law_pages ?a__law_pairs ?l__law_pairs ?c__law_pairs ?k__law_pairs ?a__law_deed_by ?l__law_deed_by ?c__law_deed_by ?k__law_deed_by ?a__law_book_by ?l__law_book_by ?c__law_book_by ?k__law_book_by ?a_law ?l_law ?c_law ?k_law ?z_dict ?z_int ?z_isinstance ?z_len ?z_list ?z_range ?z_repr ?z_set ?z_sorted ?z_tuple ?z_zip ?ld_LEAST_SEATS ?a_LEAST_SEATS ?sm_LEAST_SEATS ?lt_PLACES_0 ?lt_PLACES_1 ?lt_PLACES_2 ?lt_PLACES_3 ?lt_PLACES_4 ?lt_PLACES_5 ?lt_PLACES_6 ?lt_PLACES_7 ?lt_PLACES_8 ?lt_PLACES_9 ?lt_PLACES_10 ?lt_PLACES_11 ?lt_PLACES_12 ?lt_PLACES_13 ?ld_PLACES ?a_PLACES ?sm_PLACES
    (case a_renamed_part => k_is); (case l_renamed_part => k_is); (case c_renamed_part => k_is); (case k_renamed_part => k_is); (case a_renamed_deed => k_is); (case l_renamed_deed => k_is); (case c_renamed_deed => k_is); (case k_renamed_deed => k_is); (case a_renamed => k_is); (case l_renamed => k_is); (case c_renamed => k_is); (case k_renamed => k_is); (case t_renamed => k_is); (case a__law_feed => k_is); (case l__law_feed => k_is); (case c__law_feed => k_is); (case k__law_feed => k_is); (case a__law_next => k_is); (case l__law_next => k_is); (case c__law_next => k_is); (case k__law_next => k_is); (case a__law_words => k_is); (case l__law_words => k_is); (case c__law_words => k_is); (case k__law_words => k_is); (case a__law_prices => k_is); (case l__law_prices => k_is); (case c__law_prices => k_is); (case k__law_prices => k_is); (case a__law_house => k_is); (case l__law_house => k_is); (case c__law_house => k_is); (case k__law_house => k_is); (case a__law_guests => k_is); (case l__law_guests => k_is); (case c__law_guests => k_is); (case k__law_guests => k_is); (case a__law_dish_deed => k_is); (case l__law_dish_deed => k_is); (case c__law_dish_deed => k_is); (case k__law_dish_deed => k_is); (case a__law_deed => k_is); (case l__law_deed => k_is); (case c__law_deed => k_is); (case k__law_deed => k_is); (case a__law_pages => k_is); (case l__law_pages => k_is); (case c__law_pages => k_is); (case k__law_pages => k_is); (case a__law_pairs => k_is); (case l__law_pairs => k_is); (case c__law_pairs => k_is); (case k__law_pairs => k_is); (case a__law_deed_by => k_is); (case l__law_deed_by => k_is); (case c__law_deed_by => k_is); (case k__law_deed_by => k_is); (case a__law_book_by => k_is); (case l__law_book_by => k_is); (case c__law_book_by => k_is); (case k__law_book_by => k_is); (case a_law => k_is); (case l_law => k_is); (case c_law => k_is); (case k_law => k_is); (case z_dict => k_is); (case z_int => k_is); (case z_isinstance => k_is); (case z_len => k_is); (case z_list => k_is); (case z_range => k_is); (case z_repr => k_is); (case z_set => k_is); (case z_sorted => k_is); (case z_tuple => k_is); (case z_zip => k_is); (case a_LEAST_SEATS => k_is); (case ld_LEAST_SEATS => k_is); (case sm_LEAST_SEATS => decide); (case a_PLACES => k_is); (case ld_PLACES => k_is); (case lt_PLACES_13 => k_is); (case lt_PLACES_12 => k_is); (case lt_PLACES_11 => k_is); (case lt_PLACES_10 => k_is); (case lt_PLACES_9 => k_is); (case lt_PLACES_8 => k_is); (case lt_PLACES_7 => k_is); (case lt_PLACES_6 => k_is); (case lt_PLACES_5 => k_is); (case lt_PLACES_4 => k_is); (case lt_PLACES_3 => k_is); (case lt_PLACES_2 => k_is); (case lt_PLACES_1 => k_is); (case lt_PLACES_0 => k_is); (case sm_PLACES => decide)
